import PyProof.Rows.All
import Wide.All
import Wide.FinOn
import Open.Boot
import Open.Tree
import Open.Line
import KE.KTryMore
import KE.KIsAll
import KE.KFromBytes
import KE.KDictList
import KE.KDictOf
import KE.KItem
import Lean
import PyProof.EqAt
import PyProof.EqKinds
import PyProof.TupleCall
import PyProof.Rows.SetFrom
import PyProof.DictWalks
import KE.KRevIter
import KE.KRevSl
import PyProof.Rows.TupDisplay
import PySem.Challenge.RW_signalbox_k31_whole_leads_out
set_option Elab.async false
set_option linter.all false
set_option maxRecDepth 100000
set_option maxHeartbeats 4000000
noncomputable abbrev ff:=PySem.W.Frag
theorem a! {α:Type _}{a:α}{l:List α}:(a::l)[0]? = some a:=rfl
theorem bf {α:Type _}{a:α}{i:Nat}{l:List α}:(a::l)[i+1]? = l[i]?:=rfl
theorem b6 {α β:Type _}{f:α->β}{a:α}{l:List α}:(a::l).map f=f a::l.map f:=rfl
theorem zD {α β:Type _}{f:α->β}:([]:List α).map f=[]:=rfl
theorem zE {α:Type _}{a:α}{l:List α}:(a::l).length=l.length+1:=rfl
theorem m9 {α:Type _}:([]:List α).length=0:=rfl
theorem m_ {α:Type _}{a:α}{l m:List α}:(a::l)++m=a::(l++m):=rfl
theorem l5 {α:Type _}{l:List α}:[]++l=l:=rfl
theorem j? {α:Type _}{l:List α}:l++[]=l:=by simp
theorem g_ {α β:Type _}{f:α->β}{l:List α}{i:Nat}:(l.map f)[i]? = l[i]?.map f:=by simp
theorem eP {α β:Type _}{f:α->β}{l:List α}:(l.map f).length=l.length:=by simp
section
namespace L2
open PySem PySem.Spec PyProof.Rows
noncomputable def inClass (s:Stmt) (j:Nat):Stmt:=match s with
 |.ClassDef _ _ _ body _ _ _ _ _ _ _=>body.getD j (.Pass ⟨0,0,0,0⟩)
 |_=>.Pass ⟨0,0,0,0⟩
noncomputable def J2 (s:Stmt):Arguments:=match s with
 |.FunctionDef _ a _ _ _ _ _ _ _ _=>a
 |_=>{ posonlyargs:=[],args:=[],vararg:=none,kwonlyargs:=[],kw_defaults:=[],kwarg:=none,defaults:=[]}
noncomputable def F5 (s:Stmt):List Stmt:=match s with
 |.FunctionDef _ _ b _ _ _ _ _ _ _=>b
 |_=>[]
noncomputable def aw (s:Stmt):Scope:=match s with
 |.FunctionDef _ _ _ _ _ _ sc _ _ _=>sc
 |_=>{ kind:=.function,names:=[],isGenerator:=false,isCoroutine:=false}
end L2
namespace Hd
open PySem PySem.W PySem.Calls PyProof.Rows
noncomputable def b3 (st:SharedT->Thread->Option (SharedT×Thread)) (m:Nat) (ann:Option Value):Nat->SharedT->Thread->Option SharedT
 |0,_,_=>none
 |n+1,s,t=>match through t with
  |true=>some s
  |false=>match stepOk m ann t with
   |false=>none
   |true=>match st s t with
    |some x=>b3 st m ann n x.1 x.2
    |none=>none
theorem fU {tb:String->Option Builtin}{p:Program}{w:World}{m:Nat}{ann:Option Value}:∀{n:Nat}{s s':SharedT}{t:Thread},
  b3 (stepT (denote tb) p w) m ann n s t=some s'->topRun tb p w m ann n s.abs t=some s'.abs
 |0,_,_,_,h=>by cases h
 |n+1,s,s',t,h=>by
  unfold b3 at h;unfold topRun;cases ht:through t with
  |true=>rw[ht]at h;cases h;rfl
  |false=>
   rw[ht]at h;cases hk:stepOk m ann t with
   |false=>rw[hk]at h;cases h
   |true=>
    rw[hk]at h;cases hs:stepT (denote tb) p w s t with
    |none=>rw[hs]at h;cases h
    |some x=>
     rw[hs]at h;rw[stepT_spec hs];exact fU h
noncomputable def bA (p q:Program) (loose:List Str) (Xt:Shared->Bool) (g0:Bool) (H₀:Heap) (s:Shared):=
 ((staticsOk (importedModules p.main.body) H₀ s.heap&&namesBound p s.heap&&gensDone s&&laidKept H₀ s.heap),openSeen q loose (importedModules p.main.body) Xt g0 s)
theorem aZK {p q:Program}{loose:List Str}{Xt:Shared->Bool}{α:Type}{Yf:Shared->α}{Ya:World->α}{N:Nat}{g0:Bool}{H₀:Params->Heap}{gs₀:Array GenState}{d₀:Drawn}{k₀:Nat}{m₀:Nat}{ann:Option Value}{M:Nat}
  {T₀:Params->BT}{n₀:Nat}{l₀:Life}
  (cL:∀w:World,(fencedOpening treeTable p w N).map (λs=>(s.heap,s.gens,s.drawn,s.toks))=some (H₀ w.params,gs₀,d₀,k₀))
  (size:∀w:World,((H₀ w.params).isNs mainGlobals&&gs₀.size == 0,(H₀ w.params).objs.size,(H₀ w.params).nsMap mainGlobals "__annotations__")=(true,m₀,ann))
  (tree:∀P:Params,absHeap (T₀ P) n₀ l₀=H₀ P)
  (run:∀(w:World) (os:OsState),(b3 (stepT (denote treeTable) p w) m₀ ann M ⟨T₀ w.params,n₀,l₀,gs₀,d₀,k₀,os⟩ (topStub p)).map (λs=>bA p q loose Xt g0 (H₀ w.params) s.abs)=some (true,openGood q loose))
  (aFN:∀(w:World) (os:OsState),(b3 (stepT (denote treeTable) p w) m₀ ann M ⟨T₀ w.params,n₀,l₀,gs₀,d₀,k₀,os⟩ (topStub p)).map (λs=>Yf s.abs)=some (Ya w))
  (le:Nat.ble M N=true):LeftO p q loose Xt Yf Ya N g0:=λw=>by
 obtain⟨⟨h,gs,d,k,os⟩,e,e'⟩:=Option.map_eq_some_iff.mp (cL w)
 obtain⟨rfl,rfl,rfl,rfl⟩:h=H₀ w.params/\gs=gs₀/\d=d₀/\k=k₀:=by simpa using e'
 obtain⟨z1,z2,TX⟩:_/\_/\_:=by simpa only[Prod.mk.injEq] using size w
 obtain⟨aL,r0,jt⟩:=Option.map_eq_some_iff.mp (run w os);unfold bA at jt
 obtain⟨l1,l2⟩:_/\_:=by simpa only[Prod.mk.injEq] using jt
 have l3:Yf aL.abs=Ya w:=by
  have:=aFN w os;rw[r0]at this;exact Option.some.inj this
 have r1:=fU r0;have r:=topRun_mono (N-M) _ _ _ _ r1;rw[show M+(N-M)=N by have:=Nat.le_of_ble_eq_true le;omega]at r
 have a0:SharedT.abs ⟨T₀ w.params,n₀,l₀,gs,d,k,os⟩=⟨H₀ w.params,gs,d,k,os⟩:=by
  show(⟨absHeap (T₀ w.params) n₀ l₀,gs,d,k,os⟩:Shared)=_;rw[tree]
 rw[a0]at r
 have t:topFrom treeTable p w N ⟨H₀ w.params,gs,d,k,os⟩=some aL.abs:=by
  unfold topFrom;dsimp only;rw[z1,z2,TX,r];show(match staticsOk (importedModules p.main.body) (H₀ w.params) aL.abs.heap&&namesBound p aL.abs.heap&&gensDone aL.abs&&laidKept (H₀ w.params) aL.abs.heap with | true=>_ | false=>_)=_
  rw[l1]
 unfold openEnds;rw[e];show(topFrom treeTable p w N _).map _=_;rw[t];exact congrArg some (Prod.ext l2 l3)
noncomputable def treeOf (l:List Obj):BT:=l.zipIdx.foldl (λt x=>t.ins x.2 x.1) .nil
open L2
inductive DM where
 |v (x:Option (Option Value))
 |b (x:Option Bool)
 |f (x:Option (FuncData×Bool))
noncomputable abbrev g!:=(ff->DM)×DM
noncomputable def Sat (K:ff) (l:List g!):Prop:=∀e∈l,e.1 K=e.2
noncomputable def eb (f:ff->Bool):g!:=(λK=>.b (some (f K)),.b (some true))
noncomputable def gB (f:ff->Option Bool) (v:Option Bool):g!:=(λK=>.b (f K),.b v)
noncomputable def ev (f:ff->Option (Option Value)) (v:Option (Option Value)):g!:=(λK=>.v (f K),.v v)
noncomputable def ayK (K:ff) (v:Option (Option Value)) (q:Str):Option (FuncData×Bool):=match v with
 |some (some (.ref f))=>match K.lookup f with
  |some ⟨_,_,.func fd,_⟩=>some ({ fd with kwdefaults:=.none,doc:=.none,pyModule:=.none,annotations:=none,code:=.none,closureTuple:=.none},codeIn K fd.code q&&keepIn K (.ref f)&&isFn K (.ref f))
  |_=>none
 |_=>none
noncomputable def bx (g:ff->Option (Option Value)) (x q:Str) (st:Stmt):g!:=(λK=>.f (ayK K (g K) q),.f (some (PySem.W.fnOf x q (J2 st) (F5 st) (aw st) .none .none .none .none none .none .none,true)))
noncomputable def Ur (x:Str) (C:Addr):List g!:=
  [ev (λK=>nsIn K mainGlobals x) (some (some (.ref C))),ev (λK=>findIn K (.ref C) "__getattribute__") (some (some (.builtin "BaseException.__getattribute__"))),ev (λK=>findIn K (.ref C) "__getattr__") (some none),
   ev (λK=>findIn K (.ref C) "__class__") (some (some (.builtin "object.__class__"))),gB (λK=>mroIn K C (.type "object")) (some true),gB (λK=>mroIn K C (.type "BaseException")) (some true),eb (λK=>isClsIn K C),
   ev (λK=>specialIn K (.builtin "object.__class__") "__get__") (some (some (.builtin "getset_descriptor.__get__"))),gB (λK=>takesIn K (.builtin "object.__class__")) (some true)]
noncomputable def ak9 (x:Str) (C:Addr):List g!:=
 [ev (λK=>nsIn K mainGlobals x) (some (some (.ref C))),eb (λK=>plainGet K C Str.empty),eb (λK=>hasDictIn K C),eb (λK=>plainOver K C),ev (λK=>findIn K (.ref C) "__setattr__") (some (some (.builtin "object.__setattr__")))]
noncomputable def All (l:List (List g!)) (K:ff):Prop:=∀g∈l,Sat K g
noncomputable def aZ (as:List Addr) (h:Heap):ff:=as.filterMap λa=>match h.get? a with
 |some o=>some (a,o)
 |none=>none
theorem gr (as:List Addr) (h:Heap):(aZ as h).In h:=by
 induction as with
 |nil=>intro a o e;cases e
 |cons b as ih=>
  intro a o e;unfold aZ at e;rw[List.filterMap_cons]at e;cases hb:h.get? b with
  |none=>rw[hb]at e;exact ih a o e
  |some x=>
   rw[hb]at e;simp only[List.lookup_cons]at e;split at e
   ·rename_i q;cases e;rw[beq_iff_eq.mp q];exact hb
   ·exact ih a o e
noncomputable def hook (as:List Addr) (L:List (List g!)):Hook where
 α:=List (List DM)
 obs s:=L.map λg=>g.map λe=>e.1 (aZ as s.heap)
 val _:=L.map λg=>g.map (·.2)
 says _ h:=∃K:ff,K.In h/\All L K
 of w s e:=⟨aZ as s.heap,gr as s.heap,λg hg x hx=>List.map_inj_left.mp (List.map_inj_left.mp e g hg) x hx⟩
 keeps w h h' x k:=by obtain⟨K,a,b⟩:=x;exact⟨K,a.keeps k,b⟩
end Hd
end
section
namespace Rw
open PySem L2 PySem.W PyProof.Rows PySem.Calls Hd
noncomputable def top (i:Nat):Stmt:=PySem.Challenge.pw_signalbox_k31_whole_leads_out.main.body.getD i (.Pass ⟨0,0,0,0⟩)
noncomputable abbrev Y9:Stmt:=top 11
noncomputable abbrev To:Stmt:=top 12
noncomputable abbrev YM:Stmt:=top 13
noncomputable abbrev lL:Stmt:=top 14
noncomputable abbrev Za:Stmt:=top 15
noncomputable abbrev ac7:Stmt:=top 16
noncomputable abbrev adw:Stmt:=top 17
noncomputable abbrev acX:Stmt:=top 18
noncomputable abbrev acK:Stmt:=top 19
noncomputable abbrev acL:Stmt:=top 20
noncomputable abbrev acM:Stmt:=top 21
noncomputable abbrev acY:Stmt:=inClass (top 23) 0
noncomputable abbrev YN:Stmt:=top 24
noncomputable abbrev ac8:Stmt:=top 25
noncomputable abbrev adL:Stmt:=top 26
noncomputable abbrev adM:Stmt:=top 28
noncomputable abbrev al5:Stmt:=top 29
noncomputable abbrev ka:Stmt:=inClass (top 31) 0
noncomputable abbrev avN:Stmt:=inClass (top 31) 3
noncomputable abbrev la:Stmt:=inClass (top 31) 4
noncomputable abbrev avX:Stmt:=inClass (top 31) 7
noncomputable abbrev ac9:Stmt:=inClass (top 32) 0
noncomputable abbrev ada:Stmt:=top 33
noncomputable abbrev adN:Stmt:=top 34
noncomputable abbrev aek:Stmt:=top 35
noncomputable abbrev ad2:Stmt:=top 36
noncomputable abbrev q0:Stmt:=top 37
noncomputable abbrev alS:Stmt:=top 38
noncomputable abbrev amo:Stmt:=top 39
noncomputable abbrev kb:Stmt:=top 40
noncomputable abbrev acG:Stmt:=top 41
noncomputable abbrev acZ:Stmt:=top 42
noncomputable abbrev acH:Stmt:=top 43
noncomputable abbrev acN:Stmt:=top 44
noncomputable abbrev acO:Stmt:=top 45
noncomputable abbrev acI:Stmt:=top 46
noncomputable abbrev acJ:Stmt:=top 47
noncomputable abbrev mi:Stmt:=top 48
noncomputable abbrev acA:Stmt:=top 49
noncomputable abbrev Tp:Stmt:=top 51
noncomputable abbrev acP:Stmt:=top 52
noncomputable abbrev lx:Stmt:=top 53
noncomputable abbrev adj:Stmt:=top 54
noncomputable abbrev adb:Stmt:=top 55
noncomputable abbrev ad3:Stmt:=top 57
noncomputable abbrev ZZ:Stmt:=top 58
noncomputable abbrev ael:Stmt:=top 59
noncomputable abbrev ZI:Stmt:=top 60
noncomputable abbrev ac0:Stmt:=top 61
noncomputable abbrev acQ:Stmt:=top 62
noncomputable abbrev adx:Stmt:=top 63
noncomputable abbrev adK:Stmt:=top 65
noncomputable abbrev ad4:Stmt:=top 66
noncomputable abbrev kd:Stmt:=top 67
noncomputable abbrev NT:Stmt:=top 68
noncomputable abbrev ade:Stmt:=top 69
noncomputable abbrev pb:Stmt:=top 70
noncomputable abbrev amq:Stmt:=top 71
noncomputable abbrev Zh:Stmt:=top 72
noncomputable abbrev ZA:Stmt:=top 73
noncomputable abbrev ik:Stmt:=top 74
noncomputable abbrev ra:Stmt:=top 75
noncomputable abbrev pd:Stmt:=top 76
noncomputable abbrev si:Stmt:=top 77
noncomputable abbrev adR:Stmt:=top 78
noncomputable abbrev Zc:Stmt:=top 79
noncomputable abbrev adS:Stmt:=top 80
noncomputable abbrev ady:Stmt:=top 81
noncomputable abbrev Zt:Stmt:=top 82
noncomputable abbrev oT:Stmt:=top 83
noncomputable abbrev aem:Stmt:=top 84
noncomputable abbrev rh:Stmt:=top 85
noncomputable abbrev Tr:Stmt:=top 86
noncomputable abbrev adz:Stmt:=top 87
noncomputable abbrev adU:Stmt:=top 88
noncomputable abbrev amh:Stmt:=top 89
noncomputable abbrev adf:Stmt:=top 90
noncomputable abbrev YO:Stmt:=top 91
noncomputable abbrev rn:Stmt:=top 92
noncomputable abbrev adA:Stmt:=top 93
noncomputable abbrev adW:Stmt:=top 94
noncomputable abbrev adB:Stmt:=top 95
noncomputable abbrev adk:Stmt:=top 96
noncomputable abbrev Dp:Stmt:=top 97
noncomputable def facts:List (List g!):=[Ur "BadYard" 44,
 Ur "BoxError" 31,
 Ur "Held" 68,
 Ur "NotThere" 56,
 Ur "Red" 80,
 [eb λK=>excIn K 44 [.type "ValueError",.type "Exception",.type "BaseException",.type "object"] "ValueError.__new__"],
 [eb λK=>excIn K 68 [.type "ValueError",.type "Exception",.type "BaseException",.type "object"] "ValueError.__new__"],
 [eb λK=>excIn K 56 [.type "ValueError",.type "Exception",.type "BaseException",.type "object"] "ValueError.__new__"],
 [eb λK=>excIn K 80 [.type "ValueError",.type "Exception",.type "BaseException",.type "object"] "ValueError.__new__"],
 [gB (λK=>exmOne K (.ref 44) (.ref 31)) (some true)],
 [gB (λK=>exmOne K (.ref 56) (.ref 31)) (some true)],
 [gB (λK=>exmOne K (.ref 68) (.ref 31)) (some true)],
 [gB (λK=>exmOne K (.ref 80) (.ref 31)) (some true)],
 [gB (λK=>kitOne K (.ref 44) (.ref 44)) (some true)],
 [gB (λK=>kitOne K (.ref 56) (.ref 44)) (some false)],
 [gB (λK=>kitOne K (.ref 68) (.ref 44)) (some false)],
 [gB (λK=>kitOne K (.ref 80) (.ref 44)) (some false)],
 [gB (λK=>kitOne K (.ref 44) (.ref 68)) (some false)],
 [gB (λK=>kitOne K (.ref 56) (.ref 68)) (some false)],
 [gB (λK=>kitOne K (.ref 68) (.ref 68)) (some true)],
 [gB (λK=>kitOne K (.ref 80) (.ref 68)) (some false)],
 [gB (λK=>kitOne K (.ref 44) (.ref 56)) (some false)],
 [gB (λK=>kitOne K (.ref 56) (.ref 56)) (some true)],
 [gB (λK=>kitOne K (.ref 68) (.ref 56)) (some false)],
 [gB (λK=>kitOne K (.ref 80) (.ref 56)) (some false)],
 [gB (λK=>kitOne K (.ref 44) (.ref 80)) (some false)],
 [gB (λK=>kitOne K (.ref 56) (.ref 80)) (some false)],
 [gB (λK=>kitOne K (.ref 68) (.ref 80)) (some false)],
 [gB (λK=>kitOne K (.ref 80) (.ref 80)) (some true)],
 [gB (λK=>kitOne K (.ref 44) (.type "ValueError")) (some true)],
 [gB (λK=>kitOne K (.ref 56) (.type "ValueError")) (some true)],
 [gB (λK=>kitOne K (.ref 68) (.type "ValueError")) (some true)],
 [gB (λK=>kitOne K (.ref 80) (.type "ValueError")) (some true)],
 ak9 "Fall" 292,
 [eb λK=>makesIn K 292],
 [eb λK=>keepIn K (.ref 292)],
 ak9 "Train" 172,
 [eb λK=>makesIn K 172],
 [eb λK=>keepIn K (.ref 172)],
 ak9 "Yard" 271,
 [eb λK=>makesIn K 271],
 [eb λK=>keepIn K (.ref 271)],
 [ev (λK=>findIn K (.ref 292) "near") (some none)],
 [ev (λK=>findIn K (.ref 292) "until") (some none)],
 [ev (λK=>findIn K (.ref 172) "ahead") (some none)],
 [ev (λK=>findIn K (.ref 172) "is_out") (some none)],
 [ev (λK=>findIn K (.ref 172) "steps") (some none)],
 [ev (λK=>findIn K (.ref 271) "falls") (some none)],
 [ev (λK=>findIn K (.ref 271) "found") (some none)],
 [ev (λK=>findIn K (.ref 271) "greens") (some none)],
 [ev (λK=>findIn K (.ref 271) "locks") (some none)],
 [ev (λK=>findIn K (.ref 271) "lying") (some none)],
 [ev (λK=>findIn K (.ref 271) "pieces") (some none)],
 [ev (λK=>findIn K (.ref 271) "signals") (some none)],
 [ev (λK=>findIn K (.ref 271) "ticks") (some none)],
 [ev (λK=>findIn K (.ref 271) "trains") (some none)],
 [ev (λK=>findIn K (.ref 271) "wait") (some none)],
 [ev (λK=>nsIn K mainGlobals "ValueError") (some none)],
 [ev (λK=>nsIn K mainGlobals "any") (some none)],
 [ev (λK=>nsIn K mainGlobals "enumerate") (some none)],
 [ev (λK=>nsIn K mainGlobals "int") (some none)],
 [ev (λK=>nsIn K mainGlobals "isinstance") (some none)],
 [ev (λK=>nsIn K mainGlobals "len") (some none)],
 [ev (λK=>nsIn K mainGlobals "list") (some none)],
 [ev (λK=>nsIn K mainGlobals "max") (some none)],
 [ev (λK=>nsIn K mainGlobals "min") (some none)],
 [ev (λK=>nsIn K mainGlobals "range") (some none)],
 [ev (λK=>nsIn K mainGlobals "reversed") (some none)],
 [ev (λK=>nsIn K mainGlobals "tuple") (some none)],
 [ev (λK=>nsIn K mainGlobals "LAST_JOINT") (some (some (.int 999 284)))],
 [ev (λK=>nsIn K mainGlobals "MOST_PIECES") (some (some (.int 16 280)))],
 [ev (λK=>nsIn K mainGlobals "MOST_SIGNALS") (some (some (.int 16 282)))],
 [bx (λK=>nsIn K mainGlobals "joints_of") "joints_of" "joints_of" Y9],
 [bx (λK=>nsIn K mainGlobals "pieces_at") "pieces_at" "pieces_at" To],
 [bx (λK=>nsIn K mainGlobals "piece_beyond") "piece_beyond" "piece_beyond" YM],
 [bx (λK=>nsIn K mainGlobals "is_border") "is_border" "is_border" lL],
 [bx (λK=>nsIn K mainGlobals "joints_out") "joints_out" "joints_out" Za],
 [bx (λK=>nsIn K mainGlobals "is_points") "is_points" "is_points" ac7],
 [bx (λK=>nsIn K mainGlobals "lie_for") "lie_for" "lie_for" adw],
 [bx (λK=>nsIn K mainGlobals "check_yard") "check_yard" "check_yard" acX],
 [bx (λK=>nsIn K mainGlobals "check_pieces") "check_pieces" "check_pieces" acK],
 [bx (λK=>nsIn K mainGlobals "check_joints") "check_joints" "check_joints" acL],
 [bx (λK=>nsIn K mainGlobals "check_signals") "check_signals" "check_signals" acM],
 [bx (λK=>findIn K (.ref 172) "__init__") "__init__" "Train.__init__" acY],
 [bx (λK=>nsIn K mainGlobals "pieces_under") "pieces_under" "pieces_under" YN],
 [bx (λK=>nsIn K mainGlobals "last_step") "last_step" "last_step" ac8],
 [bx (λK=>nsIn K mainGlobals "turned") "turned" "turned" adL],
 [bx (λK=>nsIn K mainGlobals "routes") "routes" "routes" adM],
 [bx (λK=>nsIn K mainGlobals "ways_on") "ways_on" "ways_on" al5],
 [bx (λK=>findIn K (.ref 271) "__init__") "__init__" "Yard.__init__" ka],
 [bx (λK=>findIn K (.ref 271) "lock_of") "lock_of" "Yard.lock_of" avN],
 [bx (λK=>findIn K (.ref 271) "train_in") "train_in" "Yard.train_in" la],
 [bx (λK=>findIn K (.ref 271) "where") "where" "Yard.where" avX],
 [bx (λK=>findIn K (.ref 292) "__init__") "__init__" "Fall.__init__" ac9],
 [bx (λK=>nsIn K mainGlobals "set_route") "set_route" "set_route" ada],
 [bx (λK=>nsIn K mainGlobals "cancel") "cancel" "cancel" adN],
 [bx (λK=>nsIn K mainGlobals "tick") "tick" "tick" aek],
 [bx (λK=>nsIn K mainGlobals "throw") "throw" "throw" ad2],
 [bx (λK=>nsIn K mainGlobals "unlock") "unlock" "unlock" q0],
 [bx (λK=>nsIn K mainGlobals "signal_of") "signal_of" "signal_of" alS],
 [bx (λK=>nsIn K mainGlobals "way_of") "way_of" "way_of" amo],
 [bx (λK=>nsIn K mainGlobals "is_at_border") "is_at_border" "is_at_border" kb],
 [bx (λK=>nsIn K mainGlobals "signal_ahead") "signal_ahead" "signal_ahead" acG],
 [bx (λK=>nsIn K mainGlobals "train_near") "train_near" "train_near" acZ],
 [bx (λK=>nsIn K mainGlobals "train_called") "train_called" "train_called" acH],
 [bx (λK=>nsIn K mainGlobals "check_route") "check_route" "check_route" acN],
 [bx (λK=>nsIn K mainGlobals "check_piece") "check_piece" "check_piece" acO],
 [bx (λK=>nsIn K mainGlobals "check_points") "check_points" "check_points" acI],
 [bx (λK=>nsIn K mainGlobals "check_signal") "check_signal" "check_signal" acJ],
 [bx (λK=>nsIn K mainGlobals "is_number_of") "is_number_of" "is_number_of" mi],
 [bx (λK=>nsIn K mainGlobals "check_not_held") "check_not_held" "check_not_held" acA],
 [bx (λK=>nsIn K mainGlobals "way_out") "way_out" "way_out" Tp],
 [bx (λK=>nsIn K mainGlobals "shut_pieces") "shut_pieces" "shut_pieces" acP],
 [bx (λK=>nsIn K mainGlobals "is_clear") "is_clear" "is_clear" lx],
 [bx (λK=>nsIn K mainGlobals "shortest") "shortest" "shortest" adj],
 [bx (λK=>nsIn K mainGlobals "routes_on") "routes_on" "routes_on" adb],
 [bx (λK=>nsIn K mainGlobals "enter") "enter" "enter" ad3],
 [bx (λK=>nsIn K mainGlobals "go") "go" "go" ZZ],
 [bx (λK=>nsIn K mainGlobals "draw") "draw" "draw" ael],
 [bx (λK=>nsIn K mainGlobals "turn") "turn" "turn" ZI],
 [bx (λK=>nsIn K mainGlobals "route_past") "route_past" "route_past" ac0],
 [bx (λK=>nsIn K mainGlobals "pass_signal") "pass_signal" "pass_signal" acQ],
 [bx (λK=>nsIn K mainGlobals "come_on") "come_on" "come_on" adx],
 [bx (λK=>nsIn K mainGlobals "_law_cell") "_law_cell" "_law_cell" adK],
 [bx (λK=>nsIn K mainGlobals "_law_mix") "_law_mix" "_law_mix" ad4],
 [bx (λK=>nsIn K mainGlobals "_law_beyond") "_law_beyond" "_law_beyond" kd],
 [bx (λK=>nsIn K mainGlobals "_law_pieces") "_law_pieces" "_law_pieces" NT],
 [bx (λK=>nsIn K mainGlobals "_law_signals") "_law_signals" "_law_signals" ade],
 [bx (λK=>nsIn K mainGlobals "_law_outs") "_law_outs" "_law_outs" pb],
 [bx (λK=>nsIn K mainGlobals "_law_ways") "_law_ways" "_law_ways" amq],
 [bx (λK=>nsIn K mainGlobals "_law_routes") "_law_routes" "_law_routes" Zh],
 [bx (λK=>nsIn K mainGlobals "_law_new") "_law_new" "_law_new" ZA],
 [bx (λK=>nsIn K mainGlobals "_law_train_in") "_law_train_in" "_law_train_in" ik],
 [bx (λK=>nsIn K mainGlobals "_law_held") "_law_held" "_law_held" ra],
 [bx (λK=>nsIn K mainGlobals "_law_free") "_law_free" "_law_free" pd],
 [bx (λK=>nsIn K mainGlobals "_law_set") "_law_set" "_law_set" si],
 [bx (λK=>nsIn K mainGlobals "_law_near") "_law_near" "_law_near" adR],
 [bx (λK=>nsIn K mainGlobals "_law_cancel") "_law_cancel" "_law_cancel" Zc],
 [bx (λK=>nsIn K mainGlobals "_law_tick") "_law_tick" "_law_tick" adS],
 [bx (λK=>nsIn K mainGlobals "_law_throw") "_law_throw" "_law_throw" ady],
 [bx (λK=>nsIn K mainGlobals "_law_pass") "_law_pass" "_law_pass" Zt],
 [bx (λK=>nsIn K mainGlobals "_law_enter") "_law_enter" "_law_enter" oT],
 [bx (λK=>nsIn K mainGlobals "_law_go") "_law_go" "_law_go" aem],
 [bx (λK=>nsIn K mainGlobals "_law_draw") "_law_draw" "_law_draw" rh],
 [bx (λK=>nsIn K mainGlobals "_law_turn") "_law_turn" "_law_turn" Tr],
 [bx (λK=>nsIn K mainGlobals "_law_there") "_law_there" "_law_there" adz],
 [bx (λK=>nsIn K mainGlobals "_law_done") "_law_done" "_law_done" adU],
 [bx (λK=>nsIn K mainGlobals "_law_asked") "_law_asked" "_law_asked" amh],
 [bx (λK=>nsIn K mainGlobals "_law_refusal") "_law_refusal" "_law_refusal" adf],
 [bx (λK=>nsIn K mainGlobals "_law_near_deeds") "_law_near_deeds" "_law_near_deeds" YO],
 [bx (λK=>nsIn K mainGlobals "_law_deed") "_law_deed" "_law_deed" rn],
 [bx (λK=>nsIn K mainGlobals "_law_start") "_law_start" "_law_start" adA],
 [bx (λK=>nsIn K mainGlobals "_law_both") "_law_both" "_law_both" adW],
 [bx (λK=>nsIn K mainGlobals "_law_drawn") "_law_drawn" "_law_drawn" adB],
 [bx (λK=>nsIn K mainGlobals "_law_driven") "_law_driven" "_law_driven" adk],
 [bx (λK=>nsIn K mainGlobals "law") "law" "law" Dp]]
noncomputable abbrev PW:=PySem.Challenge.pw_signalbox_k31_whole_leads_out
noncomputable def Q:Program:=PySem.W.view PW [97]
noncomputable def ks:List Str:=(["_wall","BoxError","BadYard","NotThere","Held","Red","MOST_PIECES","MOST_SIGNALS","LAST_JOINT","joints_of","pieces_at","piece_beyond","is_border","joints_out","is_points","lie_for","check_yard","check_pieces","check_joints","check_signals","Train","pieces_under","last_step","turned","routes","ways_on","Yard","Fall","set_route","cancel","tick","throw","unlock","signal_of","way_of","is_at_border","signal_ahead","train_near","train_called","check_route","check_piece","check_points","check_signal","is_number_of","check_not_held","way_out","shut_pieces","is_clear","shortest","routes_on","enter","go","draw","turn","route_past","pass_signal","come_on","_law_cell","_law_mix","_law_beyond","_law_pieces","_law_signals","_law_outs","_law_ways","_law_routes","_law_new","_law_train_in","_law_held","_law_free","_law_set","_law_near","_law_cancel","_law_tick","_law_throw","_law_pass","_law_enter","_law_go","_law_draw","_law_turn","_law_there","_law_done","_law_asked","_law_refusal","_law_near_deeds","_law_deed","_law_start","_law_both","_law_drawn","_law_driven"]:List String).map Str.ofString
noncomputable def a7T:Pos:=match Dp with
 |.FunctionDef _ _ _ _ _ _ _ _ _ p=>p
 |_=>⟨0,0,0,0⟩
noncomputable def hk:Hook:=hook [3,2,31,30,44,43,56,55,68,67,80,79,172,171,271,270,292,291,21,20,89,88,94,93,101,100,108,107,113,112,120,119,127,126,134,133,141,140,148,147,155,154,169,168,181,180,188,187,195,194,202,201,207,206,219,218,226,225,233,232,240,239,247,246,254,253,261,260,268,267,289,288,303,302,310,309,317,316,324,323,331,330,338,337,345,344,352,351,359,358,366,365,373,372,380,379,387,386,394,393,401,400,408,407,415,414,420,419,427,426,432,431,439,438,446,445,453,452,460,459,467,466,472,471,479,478,486,485,493,492,500,499,507,506,512,511,517,516,524,523,529,528,534,533,539,538,544,543,549,548,556,555,561,560,566,565,573,572,578,577,585,584,592,591,597,596,604,603,611,610,618,617,623,622,630,629,637,636,644,643,651,650,656,655,663,662,670,669,677,676,684,683,691,690,696,695] facts
noncomputable def tr (P:Params):BT:=treeOf (boot_heap P).objs.toList
theorem a7P:opening PW=plainProg PW.main.scope.names:=by kernel_rfl
theorem a6L (s:Shared):fenceModules? PW s=some s:=by kernel_rfl
theorem zW1:PySem.Challenge.rw_signalbox_k31_whole_leads_out.row.wellSaid=true:=by kernel_rfl
theorem a8t:PySem.Challenge.rw_signalbox_k31_whole_leads_out.wellSaid=true:=by
 unfold PySem.W.OpenLaw.wellSaid
 rw[zW1,Bool.true_and]
 kernel_rfl
theorem a75 (w:World):((boot_heap w.params).isNs mainGlobals&&(Array.mk ([]:List GenState)).size == 0,(boot_heap w.params).objs.size,(boot_heap w.params).nsMap mainGlobals "__annotations__")=(true,11,(some (.ref 6))):=by kernel_rfl
theorem a8d (P:Params):absHeap (tr P) 11 {}=boot_heap P:=by kernel_rfl
theorem run (w:World) (os:OsState):(b3 (stepT (denote treeTable) PW w) 11 (some (.ref 6)) 8962 ⟨tr w.params,11,{},Array.mk [],boot_drawn,boot_toks,os⟩ (topStub PW)).map (λs=>bA PW Q ks (λs=>xlAt Q [] s&&recOk [] s) true (boot_heap w.params) s.abs)=some (true,openGood Q ks):=by kernel_rfl
theorem aFN (w:World) (os:OsState):(b3 (stepT (denote treeTable) PW w) 11 (some (.ref 6)) 8962 ⟨tr w.params,11,{},Array.mk [],boot_drawn,boot_toks,os⟩ (topStub PW)).map (λs=>hk.obs s.abs)=some (hk.val w):=by kernel_rfl
end Rw
end
def ZqN (k:Lean.Name):String:="\t".intercalate (k.components.map fun c=>c.toString false)
def ZqS:Nat->Lean.Syntax->String
|0,_=>""
|_,.atom _ v=>"'"++v++"\n"
|_,.ident _ _ x _=>"."++ZqN x++"\n"
|n+1,.node _ k as=>(match k with
 |`null=>"(n"
 |.str `Lean.Parser.Term x=>"(t"++x
 |.str `Lean.Parser.Tactic x=>"(c"++x
 |k=>"(_"++ZqN k)++"\n"++as.foldl (fun r a=>r++ZqS n a) ""++")\n"
|_,_=>"?\n"
local macro_rules
|`(mutual $cs* end)=>do
 if !cs[0]!.raw.isOfKind ``Lean.Parser.Command.universe then Lean.Macro.throwUnsupported
 let l:=Lean.Syntax.mkStrLit ((cs.extract 1).foldl (fun r c=>let d:=c.raw[1];r++ZqS 10000 (.node .none `null #[d[1][0],d[2][0],d[3][1]])) "")
 `(def $(Lean.mkIdent `ZqD):ident:String:=$l)
mutual
universe zD
def aT a:=some (a)
def eL a b:=aT (a b)
def η:=.int
def a_:=(by decide)
def dR a:=eL η a
def aX a:=(by simpa using a)
def gn:=by dsimp only[List.set]
def EY a:=List (a)
def d! a:=decide (a)
def Θ:=(by simp)
def aB:=(by omega)
def aAg:=by with_unfolding_all rfl
def U3 a b c d:=Inv a pins b c d
def Cb a b c d:=by obtain⟨a,b,c⟩:=List.mem_map.mp d
def ο:=.obj
def jx a:=eL ο a
def S_ a b:=Nat.le_trans a (b)
def pT a:=Heap.get?_push_of_some _ a
def c5:=List Addr
def aK a:=(by simp[a])
def gP a b:=EY (a×b)
def au a b:=by
 rw[a]
 exact b
def Eb a:=starEach a X.env
def h_ a:=List.mem_cons_of_mem _ a
def agy a:=cG W.trains a
def Lm a:=G2 Y.rs a
def b3:=List Value
def EZ a:=D! a aED
def fO:=Option Nat
def gK:=Option Value
def U4 a b c:=List.mem_map.mpr ⟨a,b,c⟩
def fh:=Nat.le_refl _
def ao:=ae 0
def fK:=List ak
def bM a b c d e f:=by
 have a:b:=c
 have d:e:=f
def iA a b c d e f g h i j k l:=by
 rw[bM a b c d e f]
 rw[bM g h i j k l]
def ö:=by decide +kernel
def Cc a b c d:=by
 obtain⟨a,b⟩:=c
 exact d
def av:=.str
def nw a b:=cu fN a (b)
def zY a b:=by
 unfold a
 refine b
def lR:=if_neg Bool.false_ne_true
def ς:=.lst
def ez:=(by rw[ö])
def cH a b c d:=by
 have a:=b
 have c:=d
def cI:=(by rw[aAg])
def mS a:=eval a X.env
def bF a b c:=by
 rw[a]at b
 exact c
def iB a b c:=by obtain⟨a,rfl,b⟩:=c
def eg a b c d:=by
 obtain⟨a,b⟩:=c
 exact d
def fC a:=wpAny_bind (a)
def kS a:=⟨a,rfl⟩
def gQ a b:=fun a=>ak.int b
def eH:=Option Int
def mT:=W.falls.map (·.1)
def fY a:=EZ (a)
def fD a:=fY (af a)
def dJ a b c d e:=by obtain⟨a,b,rfl,c,d⟩:=e
def gR:=jx M.length
def cS a:=a->Prop
def Bt:=cS Shared
def vM a:=eL ς a
def mC a b c d e f:=wpAny a b (c) d e f
def g6 a:=by
 rw[a]
 dsimp only
def agz a b:=M.set a (b)
def Ho a b:=beyond Y.ps a b
def gM:=List Str
def U5 a b:=a2l a G.nd b
def fU:=List q6
def G_ a b:=a = some b
def Δ:=.ref
def zZ:=t.steps.reverse.map flip
def dw:=List V
def U6 a b:=YF G.hu (a) b
def vN a b:=U6 (af a) b
def gr:=gP Addr Obj
def cw a b:=by
 rw[←a]
 exact b
def cV a b c d:=by
 have a:b:=c
 refine d
def cW a b c:=by
 have a:=b
 refine c
def vO a:=List.replicate Y.ps.length a
def kH a b:=U3 X σ a b
def Cd a b:=s.heap.get? a=some b
def mD a b:={ a with heap:=b}
def c9 a:=cb false a
def x6:=t.tr.steps.reverse.map flip
def bD a:=H.f a rfl
def gy:=.builtin
def cM a b c:=λa b c=>?_
def pU a:=by
 unfold a
 dsimp only
def ef:=List Nat
def ek:=if_pos rfl
def jy a:=a≤sizeLine
def E0 a:=Heap.get?_push_size a rfl
def bN:=Yq Y.rs r
def dI:=List Expr
def kA a b:=by exact absurd a b
def qR a b c d:=YL a (cM b c d)
def E1 a:=List.getElem?_eq_none (a)
def fX:=List Int
def h! a b:=⟨a,rfl,b⟩
def cJ a:=λa=>?_
def bZ:=Lm r
def x7 a:=by
 rw[gn]
 refine a
def x8 a b:=λa=>d! b
def fZ a:=cx Y.ss a
def Ln a:=cG B.locks a
def tL a b c d:=Fn z a b c d
def cX:=by exact w.elim
def Lo a b:=by obtain⟨a,rfl⟩:=b
def mE:=Heap.lt_size e
def gp a b:=by
 refine a
 refine b
def iQ a b c:=G_ a[b]? c
def oK a:=Nat.ne_of_lt (a)
def agA a b:=Nat.lt_of_lt_of_le (a) b
def vP a b c d:=if a=b then c else d
def aA:=ae 1
def jz a:=Ar trivial a
def G! a:=aT (some a)
def cL a:=aAe G.o_ a
def eB a:=vN a bI
def aO8 a b c:=adg PySem.F.slot_list_append PySem.F.type_list_append a b c
def z0 a:=List.mem_append_right _ a
def G? a b c d e f g:=by
 obtain⟨a,b,c,d,e⟩:=f
 exact g
def kU a:=(a).length
def e9 a:=by
 have:=a
 omega
def rW:=B.falls.map (·.1)
def Hf a:=aT (bw a)
def S! a b c:=by obtain⟨a,b⟩:=Option.isSome_iff_exists.mp c
def aQ:=jx 0
def ø:=t.tr.steps.map bw
def Hg:=w.map (·.1)
def fE a:=vN a b7
def apW a:=["_law_world",a]
def UU a:=a == NameKind.free
def ù a b c d e:=by
 obtain⟨a,b,c⟩:=d
 exact e
def jk a:=S_ a a_
def Lp a:=Nat.lt_of_le_of_lt a a_
def ny:=sl.mono e1
def aD:=ae 2
def rX a b c d e f:=by
 obtain⟨a,b,c,d⟩:=e
 exact f
def Lq:=List.getElem?_eq_some_iff.mp h
def qS:=d.map (·.1)
def Yz a:=gP Str a
def UW a:=W.locks.getD a none
def dj a:=a=false
def Lr a:=D! (af 0) a
def ú a:=List.getElem?_append_left (a)
def û a b c d e:=h.ix (a:=b) (c:=d) rfl e
def d5:=.type
def eV a:=fy.at ps a
def apX a:=aQP false a
def pK a:=M.length+a
def f5 a:=ash a G.nd
def Ω:=.inl
def ü a b:=lq a b ao
def dB a b:=λa b=>?_
def z3:=List.range ps.length
def K? a:=Aw a Y.rs.length
def UX a b:=by simp[a,b,PyData.eqv]
def apY a b c:=by obtain⟨a,_,b⟩:=List.mem_map.mp c
def i9:=kH H s
def b4 a b:=by exact⟨a,b⟩
def z4 a:=EY (Option a)
def bh:=jx 7
def S? a b c:=agz a (b c)
def iP a b:=aKW X aG a b
def Hh a:=Aw a Y.ps.length
def dO a b:=by
 unfold a
 rw[b]
def UY a b c d:=by obtain⟨a,b,c⟩:=Option.map_eq_some_iff.mp d
def Hi a b:=by rw[List.getElem?_set_self a]at b
def qT a b c:=by
 rw[a]at b
 dsimp only at c
def E2:=bp.NK.mpr rfl
def nu a:=eL a kvs
def UZ a b:=nw a (dC (av b))
def qU a b c:=aT (a b c)
def jA a b c:=by
 unfold a
 rw[au b c]
def lS a b c d e:=by
 rw[cH a b c d]
 refine e
def E3 a:=Value->a
def iO:=E3 Bt
def ay:=.inr
def x9 a b c d e:=by
 obtain⟨a,b,c⟩:=d
 refine e
def gz a:=a (·.1)
def aZ:=dR x
def cv:=some o
def U0 a b:=(by simpa[a] using b)
def SI:=List.getElem?_eq_getElem hl
def apt a b c:=attributeBase a b X.env c
def e_:=ο M.length
def Ξ a:=dC (η a)
def b! a:=dC (av a)
def f6:=jx t.ob
def jB a:=if_pos (a)
def oH:=List.range n
def SJ:=.Attribute
def g7:=some x
def dG:=some u
def gv a b c d e f g h i:=by
 rw[bM a b c d e f]
 have g:h:=i
def kB a b c d e f g:=by
 rw[bM a b c d e f]
 refine g
def HX a b:=by rw[List.getElem?_set_ne a]at b
def f7 a b:=by
 subst a
 exact b
def U1:=s.heap.push PySem.W.emptyDict
def x_ a b:=PySem.W.findIn K a b
def pL:=List Key
def Bv a:=gP Nat a
def eo a b:=(a).trans b
def j0 a:=eo (o5 a_) a
def SK a b:=eo (o5 a) b
def HY a:=a<Y.ss.length
def ã a:=(a).isSome
def jc a b:=⟨a,b,rfl⟩
def Ls a b:=(a▸List.mem_of_getElem? b)
def vQ a:=if_neg (a)
def rY a b c d:=⟨a,b,c,rfl,d⟩
def U2 a:=a<Y.ps.length
def HZ a:=congrArg List.length a
def bA:=ae 3
def aAx:=sc.names.lookup x
def x! a b c d:=by obtain⟨aC,a,b,c⟩:=d
def E4 a:=ü bR a
def i? a b c d:=λa b c d=>?_
def bS:=dR r
def EC:=List.mem_cons.mp h
def kT a b:=cu a bA b
def aO9 a b:=Calls.callWith_builtin a (b)
def aF:=.bad
def ia a:=by
 show a
 decide
def Sp:=t.tr.steps.map (·.1)
def Lu a:=h.gt a nofun
def Lv a:=by simp only[List.mem_cons,List.not_mem_nil,or_false]at a
def nA a:=Tc a (af 0)
def cO a b c:=a6t K mg a b c
def tM:=kt.set Θ
def VD a:=["yard",a]
def jU a b c:=mC (model X.prog X.w) X.A a b X.sS c
def Lw a b c d e f:=wpAny_mono a b λc d e=>f
def eG:=some t
def dZ:=cS aR
def ý a b c d e f g:=I.turned (a:=s.toks) b c d e f g
def fF a b:=by refine⟨a,b⟩
def Yx a:=assignEach a X.env
def SM a b:=⟨a,t.ob,t.so,b⟩
def tN a:=UZ aD a
def z5 a:=nw ao (dC (av a))
def ya:=z5 "trains"
def ack a:=X.s₀.heap.objs.size≤a
def qV a b c d:=if a∈b then c else d
def VE:=Nat.le_of_ble_eq_true rfl
def H6 a b:=by have a:=of_decide_eq_true b
def Lx a:=Aw a Y.ss.length
def zh a:=RelV a u
def apZ a b c d e f:=wpAny_Call_method a b c PySem.F.plainAttrs_dict d e f
def þ a b:=avJ a B.trains b
def f9:=by
 simp
 omega
def tv:=EY fO
def cC a:=kU (a)
def zj a b c:=λa=>PyData.eqv b c
def H7:=bp.Tg.mpr rfl
def BJ a b:=beyond ps a b
def BK a:=fY (eB a)
def mF a b c d e:=by rw[Cc a b c ⟨d,e⟩]
def mG:=.refl
def fj:=aEI ?_
def SN a b:={ a with locks:=b}
def agB a:=PySem.W.instObj a s.heap.objs.size
def D?:=List Env
def ap0 a:=aT (kJ a)
def aW:=.tup
def f_ a b:=(by simp[a,b])
def SO:=List.mem_append.mp hp
def H8 a b:=U6 (fE a) b
def tu:=List bz
def rZ a b c:=by rw[Cb a b rfl c]
def bW:=.cons
def Le a b c d e f g h:=by
 obtain⟨a,b,c⟩:=d
 obtain⟨e,f,g⟩:=h
def H9 a:=nw a (dC (η 0))
def aL a:=a=true
def Yt:=aL X.calm
def z6 a:=[fu.lst a]
def yb:=Nat.zero_le _
def H_ a:=aT (b9 a)
def Br:=List Z8
def jl a b:=iQ a i b
def zf:=h'.get? b
def eY a b:=tL k a 2 b
def ap1 a b c:=wpAny_bind (a:=Builtin.Tuple.tupleExact b) c
def jm a:=nw ao (dC (η a))
def qW a b:=upd H a b
def H! a b c:=e7 C Y none a b c
def VF a b:=D9 a hr G.o_ (Lr (b))
def Lf a b:=VF a (fD b)
def Em a:=a≠X.env.locals
def apF a:=X.A.units+a
def qX a:=aT (bU a)
def aAy:=List.range Y.ps.length
def BL:=DecidableEq κ
def pJ:=Option ak
def YC a b:=aT (eL a b)
def z7 a:=(a,false)
def di:=.Name
def Lg a b c d:=by
 generalize a=b at c⊢
 refine d
def j3 a:=⟨rfl,a⟩
def z8 a b c d e:=by
 obtain⟨a,b,c⟩:=d
 refine e
def cT:=.none
def qY a b c d:=acp (iN a b c) d apK
def BN a b:=acp (DV.aGl a) b apK
def SP:=W.trains.map (·.1)
def SQ:=List.Sublist.refl _
def agC a:=ig B.greens a
def VG a:=tq B.trains a
def ap2 a b c:=wKs a W.green b c
def Lh a:=(by simp at a)
def qy:=List α
def BO a b c:=a6v G.hu a b c
def SR a b c d e f g h i j k l m:=eN.bind (a:=oj X.K) b λc d e f g h i j k l=>m
def c8:=agy x
def VH:=List.mem_filter.mp hr
def Li a:=B.lying.getD a true
def au9 a b c:=tL a "_law_beyond" b c
def yc a b:=by
 rw[pU a]
 rw[g6 b]
def VI a:=I.dy.fresh (a)
def nB:=by exact w1.elim
def ÿ a:=λa=>rfl
def oM a b c d:=by
 rw[zY a (ak6 (b:=λc=>d) ?_)]
 simp only[b6,zD,zE,m9,Nat.zero_add,Nat.reduceAdd,Nat.reduceSub,List.replicate,m_,l5,j?]
def bK a b c d:=FnAt K (nsIn K mainGlobals a) b c d
def VJ a:=ps.length≤a
def BP a:=a<W.locks.length
def kX a b c d:=⟨a,b,rfl,c,d⟩
def kC a b c:=S? a b (c)
def jC a:=Sum.inl (a:Int)
def bP:=.exc
def À a b c d e f:=by
 obtain⟨a,b⟩:=c
 obtain⟨d,e⟩:=f
def BQ a b:=⟨a,b,false⟩
def iR a b:=d! (a∈b)
def Lj a b:=by
 rw[a,b]
 dsimp only
def lM:=r<Y.rs.length
def mH a b c:=show a=b from c
def nE a b c d e f:=by
 have a:=b
 rw[cV c d e f]
def z9 a b c:=ab1 (a) b c ?_
def SS:=t.ahead.map (·.1)
def aAb a b c:=swapsWith a b c X.env
def Á a:=N6 W.trains a
def Lk a b c:=cO a b (VD c)
def w9:=List afi
def lT:=I.tok _
def iS a:=H.v a rfl
def lN:=Res ak
def VK a b:=aL (PySem.W.keepIn a b)
def dD:=.ins
def Â a b:=qU dD a b
def Ã a b:=by obtain⟨_,_,_,_,o,_,_,a,_⟩:=b
def H? a:=a≤2097152
def Ll a:=a=M.length
def xh:=Ll M'.length
def yd a:=Option (a)
def SU a:=xs.length≤a
def Ä a b:=if a then b else aF
def ic:=aQQ ps
def By a b:=H! o a b
def zy a b:=bp K ι S a b
def aO a b:=a=some b
def SV a b:=aO (env.cells.lookup a) b
def Å a b:=aO (scope.names.lookup a) b
def SW a b:=aO (X.env.kindOf a) b
def L_:=apW "_law_route"
def VL a b c d e f g h i j k:=by
 rw[zY a (ak6 (b:=λc=>d) e)]
 simp only[f,g,h,i,Nat.zero_add,Nat.reduceAdd,Nat.reduceSub,List.replicate,j,k]
def Ia a b:={ cls:=a,data:=b}
def kY:=.fields
def SX a:=Vals a us
def ja a:=H.x a rfl
def vR a:=eL aW a
def r3 a b:=by
 simp only[a]
 rw[b]
def ago a b:=aO9 a (Calls.evalArgs_plain b)
def VM a:=Calls.spliced_cons (a)
def VN a:=wpAny_Call_Name_kw (a)
def ED:=d5 "list"
def L! a b c:=ur a b c (cJ hk) (cJ hk)
def nF a b:=z9 a b ?_
def agp a:=aH.dy.fresh (a)
def ye:=z5 "falls"
def VO a:=NO a B.locks
def jn:=.cancel
def lU:=av "straight"
def BR a b c:=a λb aa=>c
def gX a b c d:=by
 have a:=b
 rw[c]at d
def pM a b c d e f g h:=by
 have a:=b
 rw[bM c d e f g h]
def rO a b:=vQ (λa=>b)
def EE:=wpAny_pure ?_
def BS a b c:={ a with heap:=b,toks:=c}
def Æ a b c d e f g h i j k l:=a7L (a:=b) (c:=d) (e:=f) g h rfl i j k l
def nG a b c:=by
 rw[a]at b
 simp at c
def pN a b c d e f g:=by rw[ù a b c d ⟨e,f,g⟩]
def BU a b c d e:=YL a λb c d=>e
def ap3 a:=by rw[List.getD_eq_getElem?_getD,List.getElem?_eq_getElem a]
def ë:=tupleKind_room_in1 hu
def ap4 a b c d e f g h i j k:=PySem.W.fnOf a b c d e f kV g h i j k
def BV a:=by exact False.elim a
def BW a:=aXM a ds.length
def L? a b c d e f g h:=by
 rw[cH a b c d]
 rw[cH e f g h]
def BX:=b! "cancel"
def ì a b c d e f g:=by
 rw[oM a b c d]
 rw[cW e f g]
def j4 a b:=U4 a b rfl
def VP a:=h! a ?_
def nH:=cc eR W.trains
def rM:=gP Key ak
def qZ a:=Inv n cZ sN a
def BY a b c:=yv.go a b λ_ _ _ _ _ _ _ hr G=>(c)
def ap5 a:=by rw[a,Int.toNat_natCast]
def SY a:=W.trains.length≤a
def aPa a:=List.length_pos_iff.mpr (a)
def ap6 a:=aPa (List.isEmpty_eq_false_iff.mp a)
def q1 a b:=qx (a) (b)
def vS a b c:=q1 a (q1 b c)
def Ib a b:=q1 a (c! b)
def rP a b c:=qx (mV a b) (c)
def q2 a b c d e:=rP a b (rP c d e)
def tO a b c:=tL a b 3 c
def d_ a b c:=by refine⟨a,b,c⟩
def VQ:=Option.some.inj h1
def VR a:=wpAny_passesOwn hp a
def apv a b:=tO a "piece_beyond" b
def VS a:=bp.mono a r1
def h7:=vM xs
def gb a b:=∀p∈a,b
def aPb a b:=List.mem_filter.mpr ⟨a,b⟩
def SZ a:=List.replicate k a
def í a b:=Nat.le_trans (a) b
def Ic a:=cG B.greens a
def Ma:=b! "enter"
def aAz a b c d e:=by obtain⟨⟨a,b⟩,c,d⟩:=Option.map_eq_some_iff.mp e
def b5 a b c:=by exact⟨a,b,c⟩
def ap7 a b c:=by obtain⟨a,_,b⟩:=List.mem_flatMap.mp c
def pO a:=a<ps.length
def S0 a b c:=by have a:b:=Option.some.inj c
def agq a:=List.getElem?_set_self (a)
def Yu a:=dj (gz a)
def rQ a:=dC (a false)
def gN a b:=A4 X a b
def ap8 a b c:=PyProof.Rows.callWith_type1 (a) b c
def rR a b:=by by_cases a:aL b
def BZ a:=show a from rfl
def î a:=by rw[List.length_append,a]
def nC a:=a->Bool
def mq:=nC Nat
def ap9:=Nat.le_refl s.heap.objs.size
def aqa a b c d e f g h i j:=by
 obtain⟨⟨a,b⟩,c,d⟩:=e
 obtain⟨⟨f,g⟩,h,i⟩:=j
def aqb:=List.mem_of_find?_eq_some hq
def Ie:=Nat.le_succ _
def tw:=h.get? b
def B0 a b c:=agE a (VD b) c
def S1:=kS none
def oN a b c:=vP a true b c
def agr a b:=List.replicate (a) b
def tP a b c:=by
 rw[a]at b⊢
 exact c
def Mb:=bootBuiltins x
def EF:=ends.map η
def S2 a b c d e f:=aR2 (a:=b) (c:=d) e rfl f
def yf:=.Subscript
def VT a b:=F6 a b W.locks
def lV a b c d e:=λa b c d e=>?_
def tQ a b:=uo a b bI
def jD:=kS _
def jE a:=a6p (a)
def Ig a:=jE (a2g a)
def B3 a b c d:=jE (qY a b c d)
def iT a b c:=by
 unfold a
 rw[b,c]
def aAA a b:=by rw[au (List.take_append_of_le_length a) b]
def aqc a:=a "getset_descriptor.__get__"
def ï a:=SeqAt.readOf s.heap a
def aPc:=B.trains.map (·.1)
def avc a:=Loc X.env.scope a
def S3 a b c:=mH a (Value.ref b) c
def B4:=by dsimp only at h
def Mc a b c d e f g h i j k l m n:=by rw[iA a b c d (tL e f 2 g) h i j k l m n]
def ags a:=fY (fE a)
def yg a b c d:=Slots K a b c d
def agt a:=H.o a rfl
def kZ a:=eL Δ a
def oO a:=nw a aA
def q3 a b:=kC a ς b
def yh a b c:=⟨a,b,rfl,c⟩
def VU a b c d e:=Ext ι a b c d e
def jT:=cS afq
def dK a:=Ig (a)
def agu a:=by exact decide_eq_decide.mpr a
def agv a:=List.mem_append_left _ a
def agw:=List.getElem?_set_ne e
def pP a b c d e:=mC a b c d e s
def Ih a:=zy a v
def avb a:=a ≠ "__name__"
def B5 a b c d e f g:=by
 obtain⟨a,b,c⟩:=d
 have e:f:=g
def vU a b c:=by
 rw[a,b,c]
 dsimp only
def jF a:=by rw[if_neg a]
def aqd a b c d:=by obtain⟨a,b,c⟩:=List.mem_flatMap.mp d
def EG a b c d e f:=by
 obtain⟨a,b⟩:=c
 have d:e:=f
def EH a b:=kvs.map λa=>b
def xx a b c d:=by by_cases a:b=c<;>simp[d]
def tR a:=ax e! [a]
def apM:=t.tr.steps.dropLast.map bw
def agx a:=List.getElem?_set_ne (a)
def VV a b:=s.heap.push { cls:=a,data:=b}
def bH:=ae 4
def S4 a:=a<xs.length
def B6 a:=by unfold a at w
def nI a:=ã (a)
def apN a:=nI (Ln a)
def ahb a:=by rw[au List.length_range a]
def apO a b:=agA (Heap.lt_size a) b
def Md:=jy xs.length
def Ii:=ns.map V.int
def Ij:=E4 "pieces"
def Ik a b:=aO (h.get? a) b
def Il:=.function
def K9:=List Stmt
def vV a b c:=by rw[x7 (z9 a b c)]
def S5 a b c d e:=rP a b (vS c d e)
def Im a:=by
 refine VP a
 rw[gn]
def S6 a:=h.lo a a_
def kD a b c d:=by
 refine a
 have b:c:=d
def VW a b c:=if a then some b else c
def q4 a:=dj (a)
def u6 a b:=q4 (a == b)
def B7 a b c d e:=by
 rw[oM a b c d]
 refine e
def k6 a:=(by rw[a])
def aPd a:=withoutEnding? "BaseException.__getattribute__" a
def aPe a b:=Bind.checkArgs "BaseException.__getattribute__" a b
def apP a b:=by rw[au (LawfulBEq.eq_of_beq a) b]
def S7:=way.map (·.1)
def Sw:=jy kvs.length
def tS a:=gL.set (a)
def mJ:=.BoolOp
def mK a:=I.own r a
def Sl a:=gP Int a
def Ed:=cS Out
def fG a b c d e:=by
 have a:=b
 have c:d:=e
def nJ a:=by rw[au eP a]
def vf a b c d e f g h i j k:=by rw[G? a b c d e f ⟨g,h,i,j,k⟩]
def VX a:=a<s.heap.objs.size
def ð a:=a≠s.heap.objs.size
def Me a b:={ a with trains:=b}
def tT a:=by simp only[ag,a]
def oJ:=envOfC qual scope s.heap.objs.size f cd
def fk a:=by
 rw[a]
 simp
def ahc:=List.range ss.length
def apQ a:=Nat.le_trans I.ok.Z9 a
def ahd:=of_decide_eq_true h2
def ahe a:=aL (PyData.canLay0 a)
def Mf a:=aT (je a)
def aAB:=List.getElem?_eq_some_iff.mp h1
def aAn:=List.getElem?_eq_some_iff.mp h2
def aAo:=List.getElem?_eq_some_iff.mp hM
def aAp a:=YC a "getset_descriptor.__get__"
def apR a b:=aPb (List.mem_range.mpr a) b
def VY a b:=bp.ft.mpr (h! a b)
def apw a b c:=tL a "joints_of" b c
def B8:=if_pos aB
def VZ a b:=NV a b B.locks
def B9 a b:=by rw[iT a b Res.fg]
def xy:=Sum.inl x
def B_ a b:=λa=>ak.int b
def xA:=List Bool
def nK:=G.ok hr
def nL a:=H.c a rfl
def nM:=aT aA
def jo:=.enter
def qB:=some 1
def xB:=[none]
def iU a b:=by
 rw[a]
 refine b
def jq a:=by by_cases h:a
def zz a b:=encD a (b)
def B! a:=adF e8 a
def iC:=B! l1
def aAq a b c:=by obtain⟨a,b⟩:=Int.eq_ofNat_of_zero_le c
def aAr a:=W.locks.length=a
def aAs a b:=by rw[a,Bool.and_eq_true]at b
def fm:=dR s
def u5:=gq K ι S M H
def Sx a b c:=t.ahead.headD (a,b,c)
def xC a b:=by obtain⟨t,a⟩:=b
def Io a b:=eL a (b)
def aAt:=List.getElem?_append_right aB
def aAu:=List.getLast?_eq_none_iff.mp h
def aAv a b:=by rw[a,List.getD_eq_getElem?_getD,List.getElem?_eq_getElem b]
def YE:=List Keyword
def Mg a b c d e:=by
 obtain⟨a,b,c⟩:=d
 exact e
def Mh:=E4 "trains"
def Mi:=tN "trains"
def Mj:=z5 "routes"
def pQ:=.ahead
def B? a b c:=p6 a b c (eX rfl)
def Bs:=gP κ α
def tU:=by dsimp only[bf,a!]
def zA a b:=hV Y a b j
def D_:=zA M W
def uZ:=JS Y
def apS a:=by rw[List.size_toArray,a]
def apT a:=List.ext_getElem? (cJ a)
def apU a b c:=by rw[cW a (of_decide_eq_true b) c]
def ahf a:=by rw[au List.length_set a]
def apH a b:=dj (behindInMarks a b)
def Sy:=apW "_law_at"
def Sz:=z5 "signals"
def Ip:=Value.ref a
def ab8:=K.In s.heap
def ahg:=e1.trans e2
def Hz a b c:=by rw[iB a b (vals1 c)]
def SA a b c:=ax9 false a b c
def SD a b c:=a7R false a b c
def tV:=gP Addr Bool
def ahh a:=Au Y.ps a
def zB:=Δ s.heap.objs.size
def mL:=YH ss
def ahi a b:=∀a∈B.trains,b
def SE a b:=λpre ρ a=>b
def rS a b c:=aO ((a).lookup b) c
def BA a b c d:=by
 unfold a at b
 rw[c]at d
def ahj a b:=by simp only[Function.comp,a,b]
def aAw a b c d e f g h:=by
 intro pins a σ b c d e
 refine wpAny_Call_method0_late f g h
def zC:=rel.val k
def apV a:=aL (ahh a)
def V0 a b:=ap2 a W.now b
def HA a:=aRC ns a
def BB a b c:=λρ M=>BR a b c
def gE a:=(a).Nodup
def xD a:=gE (gz a)
def aqQ a:=by simp only[List.lookup_cons,a]
def aqR a b:=List.length_filter_le (a) b
def mO a b:=some (a,b)
def ahk a:=X.env.scope.kind == a
def ahl a:=Nat.lt_succ_of_lt (a)
def Vd a:=by rw[au a True.intro]
def Yy:=pure false
def En a b c:=tL (a) b 2 c
def BC a b c d:=by
 rw[rZ a b c]
 exact d
def k7 a:=⟨a,?_⟩
def aqS a:=List.replicate k.toNat a
def aqT a:=by rw[au a Bool.false_ne_true]
def aqU a b c:=aL (PySem.W.plainGet a b c)
def xd:=aQQ Y.ps
def pR:=aT ic
def EI a b c d e f g:=by obtain⟨ι,a,b,c,d,e,f⟩:=g
def xg:=.Call
def EJ a:=yG dm e8 a
def j5:=EJ l1
def ie a:=by rw[b4 _ a]
def jw:=Ih x
def bO a:=a=none
def oP a:=bO (H a)
def HB a:=bO (H' a)
def Mk a b c d e f:=by
 obtain⟨a,b,c,d⟩:=e
 exact f
def Ml a:=wpAny_pure (a)
def mP a b:=Ys (a) (b)
def oQ a b c:=mP a (mP b c)
def k8 a b c:=Ys (U5 a (b)) (c)
def rT a b c d:=k8 a b (mP c d)
def aBa a b c d:=λa b c=>List.getElem?_append_left d
def ahm a b:=s1.heap.push (Ia a b)
def ahn:=t.steps.map (·.1)
def aho a:=oK (Heap.lt_size a)
def a2d a:=eY "train_called" a
def ahp:=H? W.green.length
def ahq:=H? W.falls.length
def vg:=if_neg e
def xE:=.local
def kE:=.throw
def kW:=b9 bN
def SG a b:=i? a b ρ hρ
def kF:=Ig b7
def kG a:=SE M' a
def HC a b:=w1 ι1 bg H1 a mG s1 b
def c_:=.nil
def gY a b:=by rw[au (kR (a)) b]
def HD a b c:=by
 unfold a
 rw[Lj b c]
def ahr a b:=AX.map λa=>b
def BD:=ÿ _
def au3:=qZ W
def gO:=bJ K ι S xs vs
def ahs a b c:=if a then(b) else c
def aBb a:=List.getElem?_append_right (a)
def aht a:=["pieces",a]
def ñ a b:=∃M',a/\b
def u9 a b c:=ñ a (b/\c)
def aBc a b:=PySem.W.specialIn a b "__get__"
def aBd a b:=Builtin.Slice.slicePlaces a b 1
def aqV a b:=PySem.W.hideAll_get _ a b
def aqW a b c:=by have:=List.all_eq_true.mp a b c
def aqX:=List.nodup_cons.mp nd
def aqY:=of_decide_eq_false hk
def aqZ:=t.tr.ahead.map (·.1)
def ò:=Nat.lt_irrefl _
def ó:=AllBare s'.gens
def ô:=["_law_script"]
def ė a b c d:=bp.avk.mpr (kX a b c d)
def ę:=apW "_law_name"
def aAa a b:=tO a "is_border" b
def ě:=aAr Y.ps.length
def acj a:=assign a X.env
def SH:=wpAny_pure h
def Qf a b:=by rw[au (if_neg a) b]
def ahu a b c d e f:=FnAt K (findIn a b c) d e f
def Mm a:=F2 N.length a
def Mn:=E4 "falls"
def BE:=.Constant
def Ve a b c d:=λa b=>absurd c d
def BF:=if_pos h1
def BG a:=aRH G.calm a
def BH a b:=VF a (fY b)
def HE a b c d e:=oQ a b (oQ c d e)
def HF a:=W.locks[a]?
def qC:=List uE
def qD:=some xs
def Eg:=Bv Nat
def qE:=Df X.prog X.w
def mR:=List P
def tW a:=U6 a bI
def k9 a b:=by rw[cH h1 a h2 b]
def u0:=By M B
def Mp a:=B.ticks+a
def zF:=Mp Y.wait
def nN a:=by unfold a at h
def aq0 a b c:=Int.emod_nonneg a (b:=c) aB
def Qg a b:=∀a∈W.trains,b
def ahv a b:=Res.opt (a) b
def kn a b:=(by rw[a,b])
def aBe a b c:=List.find?_eq_none.mpr λa b=>c
def Vf:=DecidableEq P
def Vg:=ly "straight"
def Vh a:=ql.mf xs.length xs.length a
def ĝ a b:=aO (h'.get? a) b
def Vi a b c d e f g h i j:=by
 rw[iB a b (bp.ft.mp c)]
 obtain⟨d,e,f⟩:=aq.addr g
 simp only[h,i]at j
def Vj:=aht "signals"
def HG a:=cG W.falls a
def au8 a:=aL (X.fn a)
def xF:=if_pos e
def xG a:=h.at a rfl
def xH a:=by rw[x7 (tn a)]
def xJ a b:=d6 (cD a) b n9
def zG a:=(a).toArray
def HH a b:=∀a∈fp,b
def ğ a b:=cu (eJ true) a b
def Lb a:=Cd b a
def g5 a:=aL (a)
def ġ a b c d e f g h:=by
 obtain⟨a,b,c⟩:=d
 rw[cV e f g h]
def aBf:=List.length_pos_iff.mpr aS
def aBg:=Bool.and_eq_true_iff.mp hk
def aBh a b c:=adg PySem.F.slot_list_count PySem.F.type_list_count a b c
def aBi a b c:=adg PySem.F.slot_list_index PySem.F.type_list_index a b c
def pV a b c:=⟨a,rfl,b,c⟩
def Vk a b:=I.tr x a b
def EK:=aX hb
def vh a b:=λa H1=>b
def nO a b:=∀s∈a,b
def aBj a:=("signals",a)
def aq1 a b c d e:=by
 obtain⟨a,b⟩:=c
 dsimp only at d e
def aq2:=by exact List.mem_cons_self
def aq3:=List.mem_filter.mp h
def aq4:=by simp only[Function.comp]
def aq5 a:=wpAny_newObj_type a aVU
def aq6 a b:=B.trains.find? (x8 a b)
def aq7 a b c:=aL (PySem.W.codeIn a b c)
def aq8 a:=by rw[aAs Bool.and_eq_true a]
def UR a:=bO (S a)
def oR:=.cell
def iV:=s.heap.objs.size+1
def jV:=pK 1
def jG:=Yq cZ r
def Yr:=e7 C Y e o M B
def Qh a b c d:={ a with locks:=b,c:=d}
def xK a b c:=by
 subst a
 rw[b]at c
def ahw a:=s2.heap.objs.size+a
def aPf a:=YC a "BaseException.__getattribute__"
def aBk:=beq_eq_false_iff_ne.mpr h
def aBl:=List.filter_sublist.map _
def aBm:=List.mem_singleton_self r
def aBn a b:=aO9 a (PySem.evalArgs_none b)
def ģ a c d:=I.base.there b a c d
def G7:=.ListComp
def ahx:=Sem Value
def ĥ a:=heldW a bN
def EL a b c:=BY a b (dK c)
def EM a b c:=jE (BO a b c)
def Mq a b c d e:=k8 a b (k8 c d e)
def vj a b c:=by rw[b4 a (λb=>c)]
def Ei a:=Zz X.K a
def gZ:=.draw
def Bx a b c d:=if a then b c M else d
def Sn a b:=iQ a n b
def aq9 a b:=Nat.lt_of_le_of_lt (a) b
def aBo a b:=by simp only[a,Option.some.injEq]at b
def ahy:=M'.take M.length
def aAd a b c:=tL a "_law_asked" b c
def zH:=if_neg h
def zI a b:=putK kvs a b
def zJ a b c:=by rw[iB a b (a6Q c)]
def Mr a:=ü C.aM a
def zK a:=dC (a true)
def zL a b c:=d6 (mm a b) c n9
def zM a b c:=jE (acp a b c)
def dH:=d ρ M
def ara a b c:=by
 obtain⟨_,_,_,a⟩:=b
 exact c
def Ms a b c:=by
 rw[←a,←b]
 exact c
def vm a:=by
 simp
 exact a
def zN a b c:=x8 a (b∉c)
def rU a b c d:=a[b]? = Io c d
def aBp a:=by rw[List.getElem?_replicate]at a
def aBq a:=by simp only[Bool.and_eq_true]at a
def aBr a:=List.append_cancel_left (a)
def arb a:=base.Ns mainGlobals a
def arc:=List.mem_cons.mp hb
def ard:=[s1.heap.objs.size]
def arf a b:=Heap.SameBut a s.heap b
def arh a:=of_decide_eq_true a.2
def aqq:=B.greens.map (·.1)
def aqr:=t'.ahead.map (·.1)
def aqs a:=fC (wpAny_holding a)
def Qi:=Array Value
def US:=Option Addr
def Qj:=fs.lookup f
def Qk:=! xs.isEmpty
def Ql:=bp.NK.mp r1
def Qm a:=avM.trunc ?_ a
def Qn a:=ig W.trains a
def HJ a b:=d.map λa=>b
def HK a:=acW a Y.ps
def Yv a:=backTo pos (Eb a)
def Mt a:=Ia ED a
def tX a:=nw a (dC (η 2))
def mQ:=model prog w
def vn a b:=Zs n cZ om Dv a b
def aBs b:=Nat.lt_of_lt_of_le b a.len
def aBt a:=YC a "object.__setattr__"
def agO a b c d e f g h i:=by
 rw[fG a b c d e]
 generalize f=g at h i
def Vl a b c d e:=by
 have a:=b
 obtain⟨c,d⟩:=e
def Vm a:=A0 xs.length a
def agP:=["_law_world","_law_word","_law_number","_law_name"]
def Vn a b:=h.awL a b nofun
def Vo a b c:=by
 rw[gn]
 rw[cW a b c]
def Vp:=E4 "greens"
def Vq:=z5 "pieces"
def Vr a:=V0 a M.length
def Vs a b c:=rU a M.length b c
def Mu:=Dx X.stack
def LJ a:=ig B.locks a
def LK:=b! "tick"
def LL:=b! "draw"
def HL a b:=λa b=>rfl
def BI a b:=List.filter_eq_self.mpr (HL a b)
def zl a b:=if neg then ! a else b
def xM a b c d e f g h i:=BU a b c ⟨d,e,f,g,h⟩ i
def nP:=by rw[fk hx]
def h9 a:=tR (a)
def aBu a b c:=by
 obtain⟨_,_,_,a,_⟩:=b
 rw[ie c]
def ħ a:=t.steps.length=a
def aqt a b c d:=wpAny_execs_nil ⟨a,b,c,d⟩
def Qo a b:=by obtain⟨rfl,a⟩:=b
def Qp a b:=∀a∈B.falls,b
def tY a:=by
 rw[a]
 nofun
def EN a:=by rw[tY (S6 a)]
def iD:=.tick
def Vt a b c:=if a then(b,NameKind.cell) else c
def qF a b c:=qW a (b c)
def qG a b:=qF a ς b
def LM a b c d e f g h i:=by rw[rX a b c d e ⟨f,g,h,i⟩]
def agQ a b c d e f g h:=by
 obtain⟨a,b⟩:=c
 rw[mF d e f g h]
def g4:=cg t
def gw:=JV Y r
def oG:=dm gw
def rV a:=⟨a,[]⟩
def aqu a b c d:=if a then(b,c) else d
def aqv a b:=["_law_world",a,b]
def k_ a b:=cu (wc false) a (b)
def er a b c:=by
 rw[a,b]
 exact c
def aBv a:=Nat.lt_of_lt_of_le a E.le
def aBw a:=s.heap.FunFrames X.base a
def aBx a b:=List.filter_congr (dB a b)
def aBy a b:=List.set_append_right _ a b
def aBz a b:=aT (PySem.W.methodObj a b)
def aAN a:=by rw[au List.length_reverse a]
def aAO a b:=aL (PySem.W.hasDictIn a b)
def aOU a:=aL (PyData.canLayAll0 a)
def aqw:=env.cells.lookup n
def aqx:=List.mem_cons.mp e
def aqy a b c d:=codeAny_mono a (cM b c d)
def aqz a:=List.cons_ne_nil _ a
def aqA a b:=s2.heap.push (Ia a b)
def aqB:=B.locks.map (·.1)
def aqC a b c:=tL a "pieces_under" b c
def aqD a b:=aL (PySem.W.isFn a b)
def a2c:=Array DictEntry
def agR:=h1.symm.trans e
def agS:=Int.ofNat.inj e
def ĩ:=["_law_step"]
def ī:=bp.alM.mpr rfl
def ĭ:=aL d.canLay0
def HM:=if_pos hk
def aqE a b:=U6 (nA a) b
def HN a:=by rw[e9 (Lu a)]
def agk a b:=SN a (VO b)
def aqF a b:=gb a (aL (ã b))
def HO a:=q4 (a == sysModules)
def HP a b c d e f g:=BY a b (Ys (qY c d e f) g)
def CJ:=if_pos h
def apG a b c d:=ta a b (vh c d)
def agT a:=I.own r' a
def agU a b:=lr (SM a b)
def CK a b:=by rw[UX a (fx b)]
def CL a b:=acp (bt a) b apK
def Er a:=Â C.aM a
def CM a b c:=aO (cG a b) c
def Vu a b c:=by rw[Cc a rfl b c]
def vo:=H_ bN
def HQ a b:=yh a b rfl
def oS a b c d e f:=sH a b c none d e trivial f ?_ ?_
def EO a:=ρ.set a g7
def tZ a b c:=aF1 Y.rs (Au Y.ps) a b c
def EP a b:=Dj a ρ b
def į a:=EP ds a
def lW a b:=tL a b 2 _
def lX a:=Lf a 1
def G8 a b:=holding a (b)
def ER a:=xs.length-a
def aqG a:=tupleKind (a)
def Qq a b c d e f g:=by
 refine a
 rw[bM b c d e f g]
def HR a:=vM (a)
def aOY a:=a "BaseException.__getattribute__"
def HS a b c d e f:=by
 rw[cH a b c d]
 have e:=f
def Ea:=gP κ V
def zO a:=iY W.trains x a
def HT a b c d:=eo (a.2 b c) d
def vp a b:=w ι S H a mG aq b
def aAP a:=["_law_one",a]
def ĵ a:=M.length≤a
def zP a b c:=a[b]? = aT c
def t6 a b:=zP ρ a b
def Vv a b c:=if a then .b else c
def Vw a b c:=by obtain⟨_,vs,a,b⟩:=c
def zQ a:=a<M.length
def ak3 a:=(false,mS a)
def aAQ:=List.range h.objs.size
def aOV a b c:=swapsWithSole a b pos.line c
def aAR:=PySem.W.plainGet_of hg
def aAS a:=by rw[au a List.mem_cons_self]
def aAT a:=YC a "object.__class__"
def aAU a:=kn a Array.append_assoc
def zR:=oj X.K
def pW:=aX hk
def Qs a b c d e f:=by
 refine a
 obtain⟨ι,b,c,ρ,aq,sl,d⟩:=e
 refine f
def aOZ:=List.getElem?_eq_some_iff.mp hx
def aO0:=List.getElem?_eq_some_iff.mp A3
def aqH:=t.tr.ahead.map bw
def aqI:=apW "_law_signal"
def aqJ a b:=tO a "pass_signal" b
def Vx:=ly "branch"
def Vy a:=rs.foldl n7 a
def Vz a:=nO t.steps a
def VA a:=nO t.ahead a
def Qt a b:=(by simp[a,List.find?_cons,b])
def Qu a:=ig W.falls a
def agV a:=þ a bZ
def xN:=H9 aD
def Qv a b c d:=alb.of (sc:=a) b c d rfl BD ez
def t7:=ak7 ps ss
def lY a b:=BB a x b
def LN a b c:=p6 a b rfl (p7 c)
def r4 a:=FQ acr T.acz cm (fD a)
def CN a:=FQ acr T.acz cm (ags a)
def aAV a:=List.mem_of_getElem? (a)
def agW a:=evalEach a X.env
def agX:=t.ahead.take 1
def agY:=pre.map (·.1)
def agZ a b c d e:=by rw[dJ a b c d (bp.adp.mp e)]
def ag0 a b:=eo (f1.trans a) b
def ag1 a:=gb a p.js.Nodup
def ķ:=some oR
def ES:=h.get? a
def ET:=Dx outer
def EU:=["step"]
def Qw a b:=nw a (ae b)
def EV:=Yz Addr
def aQN:=hJ Y.ps.length Y.rs
def VB a b:=q1 (mU a) b
def EW a b c:=by
 have:=a
 rw[bF b this c]
def zS a b c:=by
 rw[a]at b
 refine c
def LO a b c d:=by
 have a:b:=c
 subst d
def VC a b:=["yard",a,b]
def zT a b:=a->Option b
def aO1:=List.idxOf_lt_length_of_mem hm
def aO2:=List.length_eq_zero_iff.mp aB
def aAW a:=by rw[List.mem_singleton.mp a]
def aAX:=List.mem_filter.mp h'
def aAY:=List.mem_filter.mp hm
def aAZ:=List.mem_filter.mp hq
def aA0:=List.mem_append.mp hm
def aA1:=List.mem_append.mp hs
def aA2:=I.mod.glob.keeps I.j6
def aA3:=List.getElem?_range h
def aA4 a:=List.length_take_le _ a
def aA5:=by rw[apS List.size_toArray]
def ag2 a b c:=if g5 a then b else c
def ĺ a:=Aw a xs.length
def ļ a b c d:=by
 rw[gn]
 rw[cH a b c d]
def ľ:=Yz NameKind
def ń a:=UZ a "routes"
def ņ:=b! "branch"
def ň:=tN "routes"
def a2a a:=eY "way_of" a
def apC a b:=aAb a b pos.line
def LP:=if_neg h2
def LQ a b:=U6 (apX a) b
def LR a b c:=kH a (mD b c)
def LS:=Yz Value
def LU a b:=D9 a hr G.o_ (fD b)
def LV a b c:=aO (Ho a.1 b.2) c
def ag3 a b c d:=rP a b (Ib c d)
def LW a b c:=jE (aQS G.own G.calm a b c)
def LX a:=by rw[nJ (jk a)]
def LY:=⟨t.steps.dropLast,t.ahead,t.out⟩
def ag4 a b:=tW (H8 a b)
def LZ a b:=k_ a (c9 b)
def qH:=some v
def qI a:=eL a ns
def qQ:=.bool
def jH:=.turn
def r5 a b c:=D! a (D! b (c))
def vq a b:=D! a (fD b)
def Qx a b:=D! a (BK b)
def EX a b:=D! a (fY b)
def ō a b c:=r5 a b (EZ c)
def L0 a b c:=r5 a b (fD c)
def aqK a:=t.tr.steps.length=a
def aqL a:=s1.heap.objs.size+a
def xO a b c d:=λa b=>⟨c,d⟩
def xP a b:=by
 have:a:=b
 omega
def pX a b c:=x8 a (b≠c)
def lO a:=a≤100
def oU a:=H9 (a)
def CO a:=oU (ae a)
def Qy a b:=L2.Fin a (b)
def nQ a:=by
 rw[a]
 omega
def L1 a b:=by
 simp at a
 subst b
def aqM:=by rw[List.any_eq_true]
def aqN a b:=wpAny_pure (h! a b)
def aqO a:=List.replicate m a
def aqP a b:=tO a "route_past" b
def aqg:=aAP "_law_route"
def aqh a:=by rw[iT a List.map_map List.map_map]
def ag5 a:=Str.ofString (toString a)
def HU a b c d e f g:=by
 rw[cH a b c d]
 have e:f:=g
def G5:=HR ø
def zU a b c:=by rw[LO a b EK c]
def U8 a c:=cM b a c
def jW:=ap0 t
def jX:=oP b
def kr:=Lb o
def az8 a:=ends.length=a
def U9 a b c:=by
 unfold a
 rw[rR b c]
def U_ a:=a≤ps.length
def r6 a:=λσ H Q=>a
def nR a b c:=qR (a) b s1 c
def aA6 a b:=⟨a,b,M.length⟩
def aqi a b c d e f g h i j:=⟨s1.heap.objs.size,a,b,c,d,e,f,g,h,i,j⟩
def Qz a:=by simp only[a]at w
def QA a b c:=by
 rw[gp a b]
 exact c
def QB a b c d e f:=by
 intro pins a σ b c d e
 exact f
def aA7 a:=by refine wpAny_truthy_bool a
def aA8 a:=h a List.mem_cons_self
def aOW a b c:=s.heap.IsSliceOf a b c cT
def aA9:=of_decide_eq_true h1
def aAE a:=by simp only[Bool.and_eq_true,decide_eq_true_eq]at a
def vt a:=by by_cases hb:a
def r7:=some r
def r8:=EY (g! q6)
def r9:=Yz ak
def aO3 a b:=aC.toArray.eraseIdxIfInBounds a=b
def Ñ a b c:=by
 simp at a
 rw[f7 b c]
def HV a b:=∀a∈xs,b
def CP a:=mg a = none
def QC a b:=cu g9 (a) b
def zV a b:=QC (kT wg a) b
def QD a:=[none,a]
def Ò a:=QD (some a)
def aO4 a:=X.s₀.heap.FunFrames X.base a
def aO5 a b c:=Builtin.Slice.sliceAdjust lo a b c
def aO6:=List.drop_eq_getElem_cons fq
def aO7:=List.mem_of_find?_eq_some hf
def ag6:=Value.ref iV
def ag7:=X.base.get? b
def ag8 a c d e f:=I.base.keep b a c d e f
def ag9 a b c d e:=I.base.slot a o b c d e
def aha a b:=kvs.any (x8 a b)
def aAc a b c d e:=Uj a b c "train_in" d e
def HW:=Option V
def Hq a:=fY (mZ a)
def Hr a b:=by
 rw[dO a b]
 rfl
def Ó a:=jB (avA a)
def Hs a:=by
 rw[dO a List.map_map]
 rfl
def Ht a b:=d6 (yI a) b n9
def Hu a b c d:=kC a b (cc c d)
def PF a:=aO a true
def CQ a b c:=tL a b 1 c
def qz:=gP Key V
def ko a:=by rw[bF a w w.elim]
def kq:=As Y bZ
def xQ:=SR dg w ι1 bg aa H1 x v e1 s1 r1 w1 ?_
def aAF a:=by rw[a,List.filter_cons]
def aqj a:=by simp only[h,a]<;>omega
def eK a:=tn (a)
def L3 a b c d:=eK (uq a b c d)
def CR a b c:=eK (yH a b c)
def Es a b c d e f g h i j k l:=eK (F0 a b c d e f g h i j k l)
def YA a b:=∀a∈b,lM
def vv a b c d:=by
 refine a
 have b:c:=d
def qA a:=Nat->a
def cR:=qA s8
def agF a b:=if a then 1 else b
def U':=e.trans e1
def U!:=hh.trans q
def U?:=hu.trans q
def Va:=as.map enc
def Vb a b:=iY B.falls a b
def aqk a:=A1 a W.locks
def Vc:=b! "turn"
def apx a:=bO (X.mg a)
def Ww a b c d e:=rU a b c (encD d e)
def aql a:=VC "name" a
def agG a:=X.mg a = none
def t8 a b c:=upd a b (c)
def aPR a:=by simp only[Array.length_toList]at a
def L4 a:=a∉W.green
def L5 a b c d e:=codeAny a b (c) d e
def L6 a b c d e f:=by rintro ρ' a ⟨b,c,d,e,f⟩
def L7 a b c d:=by
 rw[rZ a b c]
 exact d
def CS a b:=qA (a->b)
def aAG a b c d:=by
 obtain⟨_,a,b,_⟩:=c
 rw[ie d]
def Wx a:=W.green++a
def aPS:=List.getElem?_eq_getElem fq
def aPT:=List.mem_of_find?_eq_some h
def aAH:=List.mem_cons.mp hp
def aAI:=List.mem_cons.mp hm
def aOT a b:=swappedStores a b X.env
def aAJ a:=PySem.W.lookIn name a
def aAK a:=of_decide_eq_true a.1
def aAL a:=List.drop_sublist _ a
def aAM a:=fC (wpAny_standAt a)
def aCa:=dj W.green.isEmpty
def aCb a b c d:=by rw[gX a (Kn.symm.trans b) c d]
def aCc a b c:=PF (PySem.W.mroIn a b c)
def aqm:=by rw[List.filter_map]
def aqn a b:=by
 dsimp only
 rw[au a b]
def aqo a:=M'.set M.length a
def aqp a b c:=tL a "_law_ways" b c
def arQ:=H? Y.rs.length
def arR a b:=aO (wd.lookup a) b
def arS a b:=tO a "_law_pass" b
def arT a:=bO (pre.find? a)
def arU:=["_law_joint","_law_ends"]
def arV a b:=CQ a "is_points" b
def agH a b c d:=by
 obtain⟨a,b⟩:=c
 refine d
def Ô a:=Value.int i a
def Õ a:=Value.str x a
def Ö:=e2.trans e3
def Ø a:=h.J.put rfl a
def Ù:=z5 "locks"
def Ú:=z5 "green"
def Û a:=aL (small a)
def PG:=["piece"]
def PI a:=I.lock a hp
def PJ a b:=S_ a (jk b)
def aOP:=gP κ Value
def PK a:=dj (K? a)
def PL a b c d e f g h i j k l m n o:=by rw[Mc a b c d e f g h i (lW j k) l m n o]
def PM a b:=d6 (bb (cu (eJ false) aA a)) b n9
def PN a b c:=bootBuiltins a = eL b c
def arW a b:=zO (BQ a b)
def PO a:=FQ acr T.acz cm (fY a)
def PR a:=wKs Y a W.now j
def PS a b c d:=zl (iR a b) (iR c d)
def CT:=.Assign
def Ü a:=Vals a aC
def CU a b c d e f:=he pins a b c d e f
def G6 a:=Pl deep a
def CV a b c:=rY a b rfl c
def CW:=H9 bA
def Wy:=agC bZ
def ab5 a:=X.env.scope.names.lookup a=some xE
def CX:=dR (fZ s).1
def CY a b c:=L3 a b c fj
def vz a b:=by
 have:=a
 rw[b]at this
def Ý a b c:=yM X.K a b c
def Þ a b c:=hG a b ao c
def t9 a b:=acw a (af 0) b
def t_ a:=mD a h'
def Sg:=gP κ ak
def t!:=HA 39
def ua a:=kC 10 a nH
def Hv a:=pure (a)
def PT a:=Hv (ForInStep.yield a)
def k!:=.free
def k?:=dR k
def G3:=mS o
def iE a:=(a,true)
def fB a:=a true
def nS a b:=aFt X a b
def zW a b:=nS (binaryOp .a) b
def PU a b c d e f g:=λpins a b c d e f=>g
def iF a b:=cC a≤b
def xR a b:=SK (a) b
def xS a b c:=xR (Y? a b nofun) c
def tB a b:=cu (eJ false) (a) b
def aCd a b:=by rw[List.length_append,a]at b
def aCe a b c d e f:=fC (wpAny_field a b (c:=d) e f)
def aPU a:=by rw[List.getLast?_eq_getElem?]at a
def ß a b:=by injection a with b _
def aPV a b c:=List.mem_filterMap.mpr ⟨a,b,c⟩
def arX a b c d e f g h:=by
 obtain⟨a,b,c⟩:=d
 rw[gX e f g h]
def aCf a:=a=4611686018427387904
def aCg a:=items.toList.drop (a)
def Et a b c:=by
 refine a
 have b:=c
def è a:=a<cLine
def aQL:=è (apF 64)
def xT a:=jE (De (a))
def L8 a b c d:=d6 (bb (cu a b c)) (d) n9
def Hw a b c d:=L8 a b c (c! d)
def CZ a b c d e:=L8 a b c (j7 d e)
def aPW a:=PySem.F.args_tuple_add_2 _ a
def aPX:=Bool.and_eq_true_iff.mp ho
def agI a b c d e f g h i:=wL.imp (a:=b) c λd e f g h=>i
def Hx a b:={ B with a:=b}
def lP:=Hf s
def C0 a:=nw a (dC (η 1))
def lQ a b c:=by rw[zY a (ak6 (P:=λb=>c) ?_)]
def arY a:=t2.steps.length=a
def aCh a:=by rw[List.map_append,a]
def aCi a b c:=by
 unfold a at b
 dsimp only at c
def aCj a b:=by rw[List.length_range,List.length_append,a]at b
def aCk a:=PySem.W.instObj a dx
def aCl:=X.s₀.heap.get? b
def aCm:=Nat.lt_succ_self _
def aCn a b:=s3.heap.push (Ia a b)
def aCo a b c d e:=Heap.FlyingW a outer b c d e
def aCp:=PyData.depthAll cN
def aCq:=List.find?_some hq
def aCr a:=eY "is_number_of" a
def aCs a b:=tO a "_law_signals" b
def aCt a b:=CQ a "check_pieces" b
def aCu a b:=CQ a "_law_refusal" b
def agJ a:=by exact wpAny_pure a
def agK a:=aeP s₁.heap a
def agL a b c d e:=by
 rw[gn]
 rw[lS a b c d e]
def agM a b:=by
 rw[tU]
 rw[au a b]
def agN:=["_law_script","_law_k"]
def L9 a b:=uz false a b
def ava a:=Good0 a aG
def LA:=oy false
def LB:=w.map bw
def LC:=Ξ 1000
def ah8 a b:=acp (Zd a) b apK
def LD a b c:=vS a b (c! c)
def LF a b c:=ahv (gH a b) c
def acf a b c:=HV a (Pl b c)
def LG a b:=QC (ae a) b
def LH a b c:=QC (ax a b) c
def vA:=.steps
def vB:=some _
def LI a b:=iN (q7 G.hu) a b
def Hy:=encD JW B.falls
def M0 a:=by rw[bF a w1 w1.elim]
def vC:=SX xs
def vD:=vR xs
def vE a:=by obtain⟨h1,h2⟩:=a
def M1 a b c d e:=Zv M.length G.length last a wH b c d e
def I4 a b:=aHX a pins σ b
def eU a b:=og M a G b
def arZ a:=kvs.length<a
def xU a b c:=by
 have a:=b
 exact c
def jj a b c d:=by
 unfold a
 rw[b,c,d]
def aPY a:=Builtin.List.listTooLong (a)
def ar0 a b c d e:=h2.fld (a:=b) (c:=ao) d e
def aCv a b c:=by
 obtain⟨_,a⟩:=b
 rw[ie c]
def aCw a b:=by rw[a,Int.toNat_natCast]at b
def ā a:=ds.length≤a
def ă a b c:=by
 refine a
 rw[au b c]
def PV a:=by by_cases h1:a
def zo a:=by
 subst a
 simp
def aPZ:=List.getElem?_set_self fq
def aP0 a:=s.heap.IsTuple a aC.toArray
def aP1:=es.toList.any (·.refKey)
def aP2 a b:=PySem.F.args_dict_pop_3 _ a b
def aP3 a:=PySem.F.args_dict_get_2 _ a
def aP4 a b:=PySem.F.args_dict_get_3 _ a b
def aP5:=by rw[î List.length_singleton]
def ar1 a:=W.points.set p a
def ar2 a b c d e:=wC Y.rs.length a b c d e
def ar3 a b c d e:=Kp Y.rs.length a b c d e
def ar4 a:=by rw[cw rel.length a]
def a2h a:=eY "_law_mix" a
def ar5 a b:=aO (K.lookup a) b
def ar6 a b:=tO a "is_clear" b
def ar7 a b:=SM ⟨t.tr.steps,a,t.tr.out⟩ b
def ar8 a b c d:=ahu a b "__init__" "__init__" c d
def ah9 a b c d e f g:=by
 rintro a b ⟨c,d,e,f⟩
 refine g
def aia a b c:=by
 rw[jF a]
 by_cases b:c
def Eu:=aT mL
def PX a:=h! a rfl
def aib:=kU bN
def Ew:=Y.ps.length≤100
def Ex:=VJ 100
def Wz:=QD qB
def r_ a:=by rw[Lo t a]
def tC a c d e:=lV b a c d e
def au4:=u6 x ("__debug__" : Str)
def mu a b:=h.fld (ρ:=a) (d:=ao) rfl b
def I5 a:=gL o M a M'
def mw:=pre.flatMap (AD ps ss n way j a)
def WA a b c d e f g h:=by
 obtain⟨a,b,c,d,e,f⟩:=g
 exact h
def u7 a b c:=a[b]? = G! c
def Su:=e₀::rest
def aCx a b:=sc.names.lookup a == b
def aCy a:=by rw[List.lookup_cons]at a
def aCz a:=s.heap.objs.size≤a
def aBK a:=wpAny_execs_cons (a)
def M3 a b:=by
 refine a
 exact b
def PY a b c:=mX false a b (bT 0) c ao
def WB a b c d e f:=mX false a b (bT 0) c d e f
def aP6 a b:=List.map_congr_left (a:=id) b
def aBL a:=by rw[List.flatMap_append,List.flatMap_cons,List.flatMap_nil,a]
def aBM a b c d e f:=I.laid (a:=s.toks) (b:=c) d e f
def aU a:=(a:Int)
def gm:=aU n
def aic:=aU xs.length
def aP7:=h2.get? s.heap.objs.size
def aP8:=List.getElem?_set_self h
def aP9:=by simp only[List.size_toArray]
def aQa a:=Nat.min_le_right a d.depth
def aQb a:=Nat.min_le_left d1.depth a
def a2m:=W'.green.Sublist W.green
def aQc a b:=aO (X.env.cells.lookup a) b
def aQd a b:=j4 a (List.mem_range.mpr b)
def aBN:=decide_eq_false h
def aBO:=Option.some.inj h
def aBP:=List.find?_some h
def aBQ:=aK PyData.eqvAll
def aBR a b c:=tL a "_law_driven" b c
def aBS a:=eY "check_piece" a
def aBT a b:=tO a "shut_pieces" b
def aid a b c d e f:=I.aXm (its':=a) b c d e f
def aie a b:=aq.tree (o:=a) b
def aif a b:=PyData.eqv (a) b
def apB:=xs.map enc
def ą a b c:=by
 intro a b
 rw[Lv c]
def ć:=Ne.symm aS
def ĉ:=ns.map η
def ċ a b c d:=aej a "where" b c d
def č:=ly "locks"
def ď a:=fy.at Y.ps a
def đ a:=any_keys d a
def ē a:=iH a B.falls
def ĕ a:=l.set a none
def Ç:=b! "held"
def È:=b! "none"
def É a b c:=jU (call a b) c s
def WC:=if_pos hc
def WD:=if_neg hy
def WE:=["train"]
def Ê a b:=g a nofun nofun b
def WG:=ps.zip us
def WH a:=valueAt a k
def WI:=Uk.map wu
def WJ a:=a8s a s.f.I
def WK a:=tok a s.f.I
def WL a:=dR (aU a)
def WM:=b! "set"
def WN a b c:=by rw[fF (dB a b) c]
def WO a b c d:=by rw[fF a (cM b c d)]
def WQ a b:=jE (U5 a (b))
def WR a:=nI (agV a)
def WS a b:=mP a (dK b)
def WT a b:=HH a (HB b)
def WU a b c d:=Qv a b c (Ò d)
def ç a b c d:=Bx (HK a) b c (bP C.dN d)
def aih a:=⟨a,aB⟩
def xV:=Res α
def xW:=Bv AZ
def xX a b c d e f:=λa b c d e f=>?_
def xY a b c:=p6 a b ?_ c
def nT a:=by rw[au e a]
def nU:=EY (g! P)
def nV:=cG B.trains x
def nW:=zh v
def nX:=Tj r W.locks
def r!:=we cZ r
def ar9 a:=a<B.lying.length
def asa a b c d e:=Paired.aKk a λb c d=>e
def asb a:=Nat.le_of_lt (a)
def asd a:=by
 refine a
 dsimp only
def tD a b c d:=by
 have a:b:=c
 refine d
def aBU a b:=by obtain⟨o,_,_,_,a,_⟩:=b
def aBV a b:=by rw[a,List.length_append,b]
def aBW a b c:=looks_findIn (a:=b) iw c
def I6 a b:=show a=b from rfl
def Ey a b c d e f:=I6 (ae a b c) (d e f)
def ase a b c d e f g h:=I.write (x:=a) (b:=c) d e f g h
def Ë a b:=by obtain⟨hk,a⟩:=b
def C1 a:=trunc (a)
def V! a b c:=aSL (a:= b) c rfl
def jb a:=λp hp=>a
def I7 a b c:=aQS G.own G.calm (a) b c
def PZ a b c:=I7 (jr a) b c
def P0 a b c:=I7 (avz T.mM a) b c
def aBX a:=by rw[List.nodup_cons]at a
def aBY a:=a≤999999999999999
def aBZ a:=scope.names.all (a)
def aB0 a:=W.trains.filter (a)
def aQe:=Heap.IsSliceOf.new ..
def aQf:=List.getElem?_set_ne h2
def aPr:=List.mem_of_getElem? hi
def aPs:=List.dropLast_sublist _
def asf:=(by kernel_rfl)
def ars:=fs.map (·.1)
def art:=co.cells I.ok
def aru a b c d:=aej a "train_in" b c d
def arv a:=bs.getD a false
def arw:=ps.map fy.enc
def arx a b:=d.find? (x8 a b)
def ary a:=hp.gt a nofun
def arz a:=by rw[cw rs.length a]
def arA:=jy ys.length
def arB a b c:=tL a "ways_on" b c
def arC:=E4 "signals"
def arD a b c:=call_meetsIn PySem.F.slot_dict_get dd.typeIs PySem.F.entry_dict_get a b c
def arE a b c:=if a then(xs.length:b) else c
def aAj:=ĵ M'.length
def aii:=Option Expr
def aij a b c:=I.base.oC a o b c
def aik:=aXW.trans wN
def ail:=ly "routes"
def aim a b:=by rw[bF a b w2.elim]
def ain:=b! "throw"
def aio a b:=Lk a b "route"
def aip:=Mr "falls"
def aiq a b c:=kvs.all λa=>ak.lF b c
def P_:=AE false
def P!:=aRM false
def P? a b:=by rw[au (a7Y a) b]
def Qa:=by rw[e9 h.TU]
def Qc:=z4 Bool
def Qd:=j0 h.y0
def Qe:=nA T.avg
def Pu a b c:=d6 (wK a b) c n9
def Pw a:=by
 have:=a
 simpa using this
def Px a b c d:=BY a b (Ys (De c) d)
def Py a b c:=by rw[gY (aS a b) c]
def Pz a:=jE (NL T.aRD hr a)
def I8 a:=I.pin p a
def I9 a:=M.set n a
def I_ a:=fresh c a
def V? a:=H.b a rfl
def ak1:=cS Int
def I! a b c d:=if a then b c d else aF
def Ld:=t.tr.steps.length≤100
def I?:=gy "object.__class__"
def Ì a:=aO aAx a
def Ja:=gE qS
def aEG:=g5 (apos.endLine == dc.line)
def Jb:=("pieces",ic)
def ab9:=jl X.N x
def Jc:=d5 "tuple"
def oV:=eB 2
def oW a:=aL (ak.lF n a)
def pS a:=aO a v
def vF a c d:=λb a c=>pT d
def oX:=dB b hb
def PA a c d:=HT a b c d
def vG a:=U8 a q
def Wa a b c d:=iP (xg a b [] c) (d)
def Jd a b c d:=t8 a b (c d)
def Ez a b c:=Jd a b ς c
def oY:=bP C.dN M
def Je a b c:=du Y a b c x
def nY:=Je W w i
def M4 a b c d e f g:=by rw[bM a b c d e (λf=>g)]
def arF a b:=if a then j else b
def arG a b c:=if g5 a then b else c
def arH a:=bb (cu (eJ false) aA a)
def xj a b c:=bb (cu a b c)
def Jf a b:=bb (ğ a b)
def vH a b:=bb (tB a b)
def Wb a b c d:=if a then b::c else d
def aAk a b c:=if(a).isEmpty then b else c
def nZ a:=λρ=>∃y,a
def PB a b c:=VF a (D! b (c))
def EA a b c:=PB a b (fD c)
def Wc a b c d:=PB a b (vq c d)
def aB1:=! W.green.isEmpty
def aB2:=beq_iff_eq.mpr h
def aB3 a:=List.replicate n a
def aB4 a:=seqIndex_neg aB a
def aB5 a b c:=sliceBounds a b none c
def aB6 a:=aT (Y.ss.idxOf a)
def aB7 a b c:=tL a "_law_there" b c
def aB8 a b:=aO (env.kindOf a) b
def aB9 a b:=tO a "_law_enter" b
def aBA a b:=CQ a "_law_start" b
def aBB:=agG "isinstance"
def G4 a:=a (·.2)
def zp:=by exact this
def Wd a b c d e f:=h pins a b c d e f
def Jg a:=iN a (af 0) (af 1)
def aEF:=Eb es
def Í a:=kH H' a
def zq a:=kn aN a
def zu:=jl xs x
def zv:=aQP true aED
def Yw:=jQ kvs vs
def We a b c d e f g h i j:=cf (xs:=a) (b:=none) (M':=c) d e f g h trivial S1 i j
def vI a b c d:=by
 have a:b:=c
 exact d
def oZ:=.seq
def gF:=ae 7
def aPt a:=Nat.one_le_two_pow (n:=a)
def aBC a b:=if a then b else none
def aBD a b:=by rw[a,List.nodup_cons]at b
def Î a:=t.tr.ahead=a
def Ï a:=a<1073741824
def Ð a b c d e f g:=by
 rw[bM a b c d e f]
 refine g
def gS a b:=d! (a=b)
def PC a:=(a).objs.size
def arI a b:=⟨a,(agt b)⟩
def aPu:=List.range Y.rs.length
def aPv a:=s.heap.Ns X.env.locals a
def aPw:=List.getElem?_set_ne h
def aPx:=List.mem_of_getLast? h
def aPy a:=aL (PySem.W.handedIn a)
def aPz:=by rw[nQ List.length_append]
def aPA:=by rw[aAF List.filter_append]
def pY a b c d e:=by
 have a:b:=c
 rw[d]at e
def M5 a b c d:=cu fN a b c d
def Jh:=List.length_filter_le _ _
def Ji a:=iP a d
def EB:=λ_=>true
def Fp:=JT Y W.trains bZ
def au5:=hJ n cZ
def pZ a b:=bJ K ι S a b
def Jj a b:=pP (model X.prog X.w) a b Q E
def PD a b:=aLB C Y o0 pq a b
def Wf a b c:=by
 show a
 rw[au b c]
def M6 a b:=by
 have:=a
 rwa[b]at this
def M7 a b c d e f g:=by rw[x9 a b c d ⟨e,f,g⟩]
def r? a b:=uo (Td false) a (b)
def aBE a:=by rw[a,List.lookup_cons]
def aBF a:=W.green.filter (a)
def Ě a b c:=show a∈b from c
def air a:=Y.rs.length+a
def ais a b:=ip.map λa=>b
def arJ:=["_law_piece","_law_joint"]
def arK a b c:=by
 unfold a b c
 dsimp only
def Wg a b c d e f g:=by
 have a:b:=c
 rw[cH d e f g]
def Wh a b c d e f:=by
 have a:b:=c
 rw[b5 d e f]
def p0 a b c:=a λb M2=>c
def nv a b:=qU a ob (b aJ)
def xm a b:=(a).lookup b
def PE a b c d:=⟨a,rfl,b,c,d⟩
def aPB:=List.mem_append.mp h1
def aPC:=List.mem_append.mp h'
def aPD:=List.mem_append.mp hk
def aPE:=List.mem_append.mp hq
def aPF a:=congrArg Array.toList a
def aPG:=PySem.mem_of_lookup h
def aPH:=of_decide_eq_false cE
def aPI:=by rw[aCh List.nodup_append]
def aPJ:=by rw[List.replicate_succ,List.replicate_succ,List.flatten_cons,List.flatten_cons]
def aBG:=.FormattedValue
def aBH:=Paired.length r
def aBI a:=PySem.Within mA a
def aBJ a:=aZO X.env.scope a
def aDa a b:=Heap.SameBut a b h2
def aOX a:=OA a "isinstance"
def aDb a b:=ql.mf aC.length a b
def aDc a:=s.heap.update p a
def aDd a b c:=tL a "_law_done" b c
def aDe a b c:=tL a "_law_both" b c
def aDf a:=eY "signal_of" a
def aDg a b:=tO a "routes_on" b
def aDh a b:=tO a "_law_deed" b
def aDi a:=apO a nh.ok.above
def aDj a b:=CQ a "last_step" b
def aDk a b:=CQ a "_law_tick" b
def aDl:=B.lying.length=Y.ps.length
def aDm:=aO X.env.frame X.env.locals
def arL a b c d e:=by
 obtain⟨a,b⟩:=c
 rw[d]at e
def arM a b c d e:=by
 obtain⟨a,b⟩:=c
 have d:=e
def arN a b:=IsTup s.heap a b
def arO a b:=I.base.qc a xs b
def arP a b:=I.base.qd a ps b
def ari a b:=isTrue a X.env b
def arj:=! kvs.isEmpty
def ark a b:=assign a X.env b
def aAh a b:=getMethod a b pl
def arl a b c:=bindL kindOf a b c
def arn a b c:=bindC kindOf a b c
def aAi a b c:=Reads s.heap a b c
def aro a:=cG W'.trains a
def arp a:=cG Ba.trains a
def arq:=f.map (·.1)
def asS a b:=j8 a aa.length b
def asT:=get_set h.y5
def asU:=h.J.same rfl
def asV:=aYN W.trains
def asW a b:=iQ a M.length b
def asX:=b! "points"
def asY a:=aL (ak.lF M.length a)
def asZ a b:=hV Y a b M.length
def as1:=k6 (isEmpty_eq q.length)
def as2 a b c:=by rw[er a (if_neg b) c]
def as3 a:=VC a "usable"
def a2j a:=zT a NameKind
def as4 a b:=SM ⟨a::t.tr.steps,b,t.tr.out⟩ M.length
def as5:=lO w.length
def as6:=aql "signal"
def as7:=arZ sizeLine
def as8:=["_law_script","_law_base","_law_pieces_here","_law_loose","_law_many","_law_k","_law_number","_law_ends","_law_j","_law_pick","_law_others"]
def Ĝ:=Sum.inl k
def Ğ a b c d e:=fC (Lw a b c d e h'.elim)
def Ġ:=gP Key Value
def Ģ a:=dj (ĥ a)
def Ĥ:=b! "red"
def Ħ a b c d e f g:=by rw[mF a b c d (PA e f g)]
def Ĩ a:=aL (d! a)
def Ī a b c d e f g:=j3 (ý a b c d e f g)
def Ĭ a b c d:=rP a b (q1 c d)
def Į a b c d:=aH.kept (a:=s1.toks) (vF b c d)
def Ĵ a b:=jE (BN a b)
def Ķ:=show False from r
def Ĺ:=Mf names
def Ļ a b c d e f:=oQ (qY a b c d) e f
def Ľ a:=h9 (C0 a)
def Ń a b:=HQ a (E0 b)
def Ņ a b c d e f g h i j:=by rw[Qs (Ko.imp a (i? b c d e)) f g h i j]
def Ň a b c d:=lY a (p0 b c d)
def Ō a b:=D! a (EZ b)
def Ŏ a b c:=r5 a b (fY c)
def Ő a:=qA (cS a)
def Ŕ a b c d:=Bx (Lx a) b c (bP C.dN d)
def Ŗ a b:=HF a = G! b
def apD a b:=backToKw a (keywordEach b X.env)
def ť a b:=gS (Lm a) b
def ŧ a b:=r? a (apX b)
def M8:=by rename_i hl
def M9:=ui true
def Sv a b c d e f g h:=yv a b c d base e f g h
def M_:=G.sg hr
def M!:=aT aD
def M? a:=gQ a gm
def Na:=Hf (dU t.tr)
def ach a b:=qU di a b
def Nb a b c:=eo (g a b) c
def Nc:=VI fh
def Nd a b:=rO a (h b)
def Nf:=fu.ins C.tr (lr (t0 M.length))
def Ng:=aBj mL
def aci a:=t6 a bh
def Nh a b c:=Qv a b c xB
def Ni:=mO n kvs
def Nj:=i0 ns k N names nm l w n a bS none
def Nk:=fB qQ
def MC:=av "branch"
def MD a b c:=Wa a b pos c
def ME:=jV+G.length
def MF a:=fu.exc (Oc a nY)
def MG a b:=xj (lh false) a b
def MH a b c:=by rw[Vu a hρ (rY b rfl jD c)]
def Wi:=.train
def Cm:=some y
def Rb a:=flat M a
def Cn a:=by rw[au (kR aS) a]
def Co:=apX aED
def ab4:=Sl gj
def Rc a b c:=aFd a (kk:=b) rfl c
def Cp a b:=avi a T.a7O a7w b
def ũ:=tQ iq (af 3)
def MI:=by obtain⟨f0,f1,f2,f3,f4,lz⟩:=hf it Θ
def Cq a:=PD M' a
def Fq a b:=by rw[a,if_pos b]
def ait a b:=by rw[Fq (if_pos a) b]
def vJ a:=by rw[a]at h⊢
def qJ a:=a false
def MJ a b c:=a ρ λb aa=>c
def Cr a b c:=kX a _ b c
def qK a b:=z9 a M b
def qL a:=nF a M
def Sm a:=gN e a
def qM a:=SG a _
def xo a b c:=rU M a b c
def aQK:=vn W B
def MK a b c d e f:=by
 refine A4.imp a λσ H Q b=>?_
 obtain⟨ι,S,M,ρ,aq,sl,w⟩:=c
 refine⟨ι,d,e,ρ,aq,sl,f⟩
def eT a b:=En (k+1) a (b)
def aDn a b:=∀a∈scope.names,b
def as9 a b:=by simp only[a,b,fy.enc]
def ata a b:=by
 rw[MI]
 rw[←a]at b
def Rd a:=a<l.length
def Rf a b:=absurd a (b)
def ū a:=by
 rw[←a]
 simp
def az6 a:=typeOf (a)
def ŭ a:=("near",a)
def aiu:=(by simp only[List.size_toArray]<;>omega)
def aiv:=h1.trans z
def aiw a:=IntsAre vs a
def apJ:=Or.inl rfl
def aix:=bp.Tg.mp r
def ahJ a b:=lq a "ahead" b
def ahK:=ly "falls"
def ahL a b:=iY W.falls a b
def ahM a:=mem_keys _ a
def ahN a b c:=G.cZ.lt a hr b c
def ahO a b c:=Ul a b c B.ticks
def ahP a b:=Lk a b "name"
def ahQ:=by
 rw[List.size_toArray]
 omega
def ahR a b c:=Jj a (call b c)
def Wj a b:=I.cell a c b
def Wk a:=ak.Dy a xs
def Wl a b c:=cb false a b c
def Wm:=q7 Gt.hu
def Wn a:=aT (bu a)
def Wo a:=aL (om a)
def agh a:=Inv Y.ps.length Y.rs sN a
def ů a:=bO (H1 a)
def aPK:=ů s1.heap.objs.size
def Wq a b:=gN (a) (amm b)
def atb a:=xs.map (lA a)
def Cs a b c d e:=BY a b (Ys (U5 c (d)) (e))
def iG a b:=F2 a (b)
def zw a b c:=iG a (Ib b c)
def Ct a b:=iG a (c! b)
def Rg a b c d e f:=iG a (q2 b c d e f)
def Rh a b c d e f:=iG a (S5 b c d e f)
def Wr a b c d:=iG a (vS b c d)
def ű a b c:=iG a (q1 b c)
def eZ a:=aEI (a)
def ų a b:=eZ (p6 (av "ok") a rfl (eX b))
def ML a b c:=eZ (p6 a b rfl (eX c))
def Ri a:=eZ (eK a)
def Rj a b c:=eZ (xY a b c)
def aPL a:=pairTrees_cons_walk (a)
def aPM a:=List.mem_append.mpr (a)
def atc a b:={ a with slots:=b}
def aDo a b:=X.env.kindOf a == b
def aPN a:=wpAny_pyIter_list a ?_
def aPO:=keys.all (·.isSome)
def aPP:=of_decide_eq_true hc
def aPQ:=of_decide_eq_true hk
def aPh a:=wpAny_pyIter_enum he a
def aPi:=List.mem_range.mp hr
def aPj a:=eY "check_not_held" a
def aPk:=oP s.heap.objs.size
def aPl a:=ĝ s.heap.objs.size a
def apI a b:=∀a<M.length,b
def az9 a:=è (A.units+a)
def aOR a:=starEach a oJ
def Cu:=dR (fZ s).2
def sd a:=N2 a xs
def Rk a:=cc aI a
def se:=dR p
def sf a b:=qU a o b
def sj a:=jc _ a
def Jk a b c:=rY a _ b c
def uc:=U2 p
def ab3:=zh y
def Rl a:=iY B.trains x a
def sq:=oP p
def sr a:=Vk t a
def xq a:=mg_of X G a
def su:=dR q.1
def sx a b:=by
 intro pins s σ H a I h
 refine b
def sy:=dB p hp
def sA:=VU S H ι' S' H'
def iW:=.set
def atd a:=by simp[a,PyData.eqv]
def ate a b c d e f:=by
 rw[a]at b
 obtain⟨c,d,e⟩:=f
def atf a b c d e f:=by
 obtain⟨a,b,c⟩:=d
 rw[e]at f
def atg a b c d e f g:=show sO a b c d e f from g
def asu a:=show a from bl
def asv a:=wpAny_call (a)
def asw a b:=l.find? λa=>b
def Ws a b c d e f:=⟨A4.imp a λb c d e=>f⟩
def Wt a b c:=aRZ a (b:=c) rfl
def Wu a b c d:=Tq a (b:=c) rfl d
def Rm a:=("ticks",a)
def Wv a:=s.toks+a
def asx a b:={ a with toks:=Wv b}
def ŵ a b c d:=by obtain⟨s0,a,b⟩:c:=d
def Cv a b:=by
 refine a
 rw[b]
def V1 a b c:=D9 a hr G.o_ (D! b (c))
def Rn a b c:=V1 a b (fD c)
def V2 a b c d:=V1 a b (Qx c d)
def p5 a b:=λ_ _ _ a=>b
def Cw a:=p5 _ (a)
def zx a:=Cw (a7y a)
def jY a:=Cw (ash 0 a)
def aDp:=.ExceptHandler
def aDq:=! names.isEmpty
def aDr a b:=bindArgs a (rV b)
def aDs a:=seqIndex_of h0 a
def aDt a b c:=compEnvC scope a b c
def aDu:=W.locks.map bu
def aDv a b c:=l.filter (zN a b c)
def aDw a b:=w.filter (x8 a b)
def aDx a b:=tO a "shortest" b
def aDy a b:=tO a "_law_new" b
def Fs a b c d:=λa b=>eo c d
def ab6 a:=by
 intro a
 rfl
def ŷ a b:=lB a aA b
def Ft:=dP fj
def V3 a:=Tc a (af 2)
def Fv a b:=cM h' a b
def Fw a b c d:=by rw[dJ a vs b c (bp.avk.mp d)]
def au7:=nC q6
def Fx:=Ig ke
def Fy:=("found",AA rs)
def Fz a b:=Ý a aG b
def FA a b:=Þ bR a b
def V4 a:=YF a (af 0) bI
def vK a b:=fN (a) (η b) M
def Ro a b:=vK (bw a) b
def aPm a:=List.mem_filter.mp (a)
def aPn a:=List.mem_append.mp (a)
def asy a b c d:=sR.Bi (v:=a) (b:=c) d
def ź a:=xs.length=a
def ż a:=xs.drop (a)
def ž a:=by
 unfold a
 omega
def Ā a:=a<ss.length
def aPo:=["_law_pieces_here","_law_signals_here"]
def mz a b:=λa H2=>b
def aPp:=List.mem_cons.mp hx
def aPq:=! aC.toArray.isEmpty
def aMg:=! t.tr.ahead.isEmpty
def a16:=standAt apos.atName
def aMh:=of_decide_eq_true e
def aMi:=of_decide_eq_true z
def aMj:=List.getElem_mem fq
def a17:=W'.falls.map (·.1)
def aMk:=aFM T.a8m.choose_spec
def aMl:=aFM T.a8A.choose_spec
def aMm:=aFM T.a8g.choose_spec
def aMn:=aU aC.toArray.size
def asz:=List PyData
def asA:=xs.map some
def asB:=bp.NK.mp bl
def asC:=ly "trains"
def asD a:=ig B.trains a
def asE a:=ig g?.falls a
def asF a b:=aeW a M.length b
def aAl:=beyond Y.ps
def asG:=b! "plain"
def asH:=E4 "found"
def asI:=E4 "locks"
def asJ:=E4 "lying"
def asK a b:=Lk a b "piece"
def asL:=aht "joint"
def a2i a:=YA a W.green
def asM:=aqk t.ahead
def asN:=VC "route" "pieces"
def asO:=by
 rw[sizeLine_eq]
 decide
def asP a b c d e:=T.set (a:=b) (c:=d) e nofun nofun nofun
def asQ a:=B0 (VD "piece") "piece" a
def ahS a b c d:=by
 subst a
 rw[bF b c d]
def ahT a:=a+pre.length
def ahU a:=by rintro⟨h1,a⟩
def ahV a:=f2.trans (a)
def ahW a b:=by
 rw[Lv a]
 subst b
def Rp:=some ys
def Rq a c:=s.sub b a c
def Rr a b:=lp deep a b
def Rt:=YH Y.ss
def Ru a b c:=adQ a b c t.tr
def aOQ:=cS lN
def Rv a:=by rw[kA rfl a]
def Rx:=Hf g4
def UT:=yd ef
def Ry:=agp fh
def Rz a:=VT a jG
def RA:=f1.trans tM
def agf:=gE Hg
def QN a b:=LN a b (eX rfl)
def QO a b c d:=sO X.prog X.w a b c d
def QS:=eL av w.s
def QT a b c d:=by
 rw[Lo a hρ]
 refine PE b jD c d
def QU a b:=Jk zB a b
def QV:=CS Int fO
def QW:=Jf ao aA
def Jl a:=("wait",a)
def z_ a:=VV ED (oZ (zG a))
def Jm:=vp _ E2
def QX a b:=eK (adn C.dN a (aK hc) b)
def z! a:=YI a hq
def tE:=agy y
def tF a:=Lf a 2
def tG:=r∈W.green
def Cx a:=HC _ a
def tH a b:=û ρ a d ao b
def tK a:=vh x a
def ab2:=ak3 e
def Cy a:=B? a M ?_
def MM a:=gq K ι' S' a H'
def ud:=d! (0<Y.wait)
def ue:=b::rest
def Sh:=o7 K ι S kvs aJ
def sC a:=NS M a
def Ă a b:=aO (sC a) b
def w!:=alJ W r
def K7:=alC Y W B
def dF a:=λe=>a
def MN a:=dF (h a)
def V5 a:=dF (aS a)
def aCK a b:=s₁.heap.get? a=b
def aCL a b c:=I.a1p (a:=s.toks) b c
def aCM a:=loose.filter (a)
def Ą a b c d e f:=by
 have a:b:=c
 rw[cW d e f]
def Ć a b c d e f g:=by
 have a:b:=c
 rw[gX d e f g]
def asR a:=(a).names.lookup
def asi a b:=∀a<cZ.length,b
def Ĉ:=oJ::outer
def asj a:=a++t.steps
def V6 a b c d e:=⟨λa b c=>d,m6.refl e⟩
def FD a:=(a).flatten
def ab7 a b c:=∀a∈b,i! c
def FE a b:=d! (a≤b)
def Ef a:=M[n]? = nu a
def MO a b c d:=jU a (λb c=>d) s
def Ċ a b c:=jU a (I4 b c) s
def MP a:=j8 o M.length (pQ a)
def V7 a b c d:=aa.set a (b (zz c d))
def Č a b c d e:=aa.set a (b (zz c (VZ d e)))
def aCN a:=(a,NameKind.free)
def acg a:=ob.data=a
def QY a b:=by
 show a
 unfold b
def QZ a b:=ak.tup [a,b]
def aMo:=Option.some.inj e2
def aMp:=Option.some.inj e'
def aMq:=List.of_mem_zip hv
def aMr:=decide_eq_true rfl
def aMs:=Nat.succ_ne_self _
def a18:=PyData.depthAll xs
def aMt:=dj sc.isCoroutine
def aMu:=dj sc.isGenerator
def aMv:=H? B.falls.length
def aMw:=lO W.locks.length
def aMx:=lO t.ahead.length
def aCO a:=congrArg some a
def aCP:=wpAny_bind ?_
def aCQ:=AX.map (·.2)
def aCR a b:=way.map (B_ a b)
def aCS a:=B.lying.set p a
def aCT a b:=d.f.I.tr a b d.tr
def aCU:=jx aa.length
def aCV:=jy vs.length
def aCW:=us.length=ps.length
def aCX:=vs.length=ps.length
def ahX:=by exact ww.elim
def ahY:=some last
def ahZ:=if_neg h1
def ah0 a b c d e:=by obtain⟨a,b,c,rel,d⟩:=e
def ah1 a b:=lq a "near" b
def ah2:=ds.map wu
def ah3:=aK s.len
def ah4 a:=by rw[au ak.lF a]
def ah5 a b:=by rw[au a (Lp b)]
def ah6 a b c:=jz (yh a b c)
def ah7 a b c:=kH H (BS a b c)
def ahz a:=jB (aK a)
def ahA a b c:=by rw[fF a (dB b c)]
def ahB a:=Ll (cC a)
def ahC a b c:=aO (BJ a b) c
def ahD a:=by rw[ap5 (Ó a)]
def ahE a:=List.filter_cons_of_neg (aK a)
def ahF a b:=jE (ah8 a b)
def ahG a:=f1.trans (tS a)
def ahH a b c:=by rw[gY (a7K a b) c]
def ahI a b c d f:=u9 a (e7 C Y e o b (agk c d)) f
def ai8 a:=aGI X.env scope.names a
def ai9 a:=by rw[vm (jk a)]
def aja a:=oU (oO a)
def ajb a b c d:=eK (ur a b c (cJ hk) d)
def ajc a b c d:=by rw[vv (VP a) b c d]
def ajd a b:=xR (dF a) b
def a2e a:=è (apF a)
def aje a b c:=PY (Ò a) b c
def ajf a b c d e f:=WB (Ò a) b c d e f
def ajg a b c:=PB a b (fY c)
def ajh a b c:=Rc a (jC b) c
def aji a b c d e:=Cs a b c (lX d) e
def ajj a b c:=iG a (VB b c)
def ajk a b c d e:=iG a (vS b c (q1 d e))
def ajl a:=eZ (Cy a)
def ajm a b c d:=V1 a b (vq c d)
def ajn a:=Cw (V4 a)
def ajo:=pE false G.calm
def ajp a b:=ahi a (lO (b).tr.steps.length)
def Ď:=.Compare
def Đ a b:=a M.length b
def Ē:=by simp at this
def Ĕ a b c d e:=by obtain⟨a,vs,b,c,d⟩:=e
def Ė a:=eval a env
def Ę:=P.zip vs
def ŏ:=F.mono h
def ő a b c:=eJ false a b c
def ŕ a b c:=lh false a b c
def ŗ a b c d e:=ur a b c d (cJ e)
def ř a b:=aJe a (dF b)
def ś:=aRF false
def ŝ a b:=aT (gA a b)
def ş a:=by rw[au S.amd a]
def š a b:=by rw[UX a (alx b)]
def ţ a b:=by rw[UX a (aly b)]
def aaV:=Ξ 2048
def aaW a b c:=eo (aRY a b) c
def aaX:=j0 h.y1
def aaY:=j0 h.y2
def aaZ:=j0 h.y3
def aa0:=j0 h.y4
def aa1:=nA T.aFe
def aa2:=nA T.aEO
def aa3 a b:=aL (awH a b)
def aa4 a b:=aL (q? a b)
def aa5:=z7 C.dN
def aa6:=z7 C.he
def aa7:=z7 C.rd
def a2b a:=foldedSetIterable iter X.env a
def agn a b:=aO (jM a) b
def aa8 a:=by
 rw[dO a List.foldl_append]
 rfl
def aa9 a b c:=rP a b (c! c)
def aba a b:=ahr a (ly b)
def abb a b:=zN a b ends
def abc a b:=by
 show a
 unfold b
 rw[g6 d.tr]
def abd a:=by
 rw[r_ a]
 rfl
def abe a b:=I6 (bu a) b
def abf a b c d:=r? a (uo b c d)
def abg a b:=DV.aGl (TG a b)
def abh a:=ŭ (eQ a)
def abi:=Rk post
def agl:=fs.length<1000
def Ŭ a b c d e:=⟨vG a,b,s.nd,lV c d e h1 h2⟩
def ID a:=λa=>Θ
def IE:=some k
def IF:=some b
def ak0:=Res β
def IG a:=aRR X.K a
def IH a:=aei a ao
def II:=cn Θ
def IJ a:=vT a aB
def IK a b c:=qR a b s2 c
def IL:=z6 []
def IM a b:=xT (aO8 aQ5 a b)
def IP a b:=by rw[x! a b hz (I.list hq)]
def IQ:=t.ahead=[]
def IS a b:=ur a b ?_ (cJ cE) (cJ cE)
def IT:=Rl t'
def Ů a:=⟨ps,ss,t7,a⟩
def vL:=by exact c_
def Eh:=enc a
def u_:=EY (g! A)
def Q0 a:=W.locks.set a.1 none
def u!:=HY s
def Q1 a:=∀r<Y.rs.length,a
def u? a:=jl a v
def vc a b c d e f g h i j:=by rw[vf a b c d r e f g h i j]
def vd a:=Ay (i:=a) rfl
def zg:=aO (X.env.cells.lookup x) c
def ve:=į M
def Lc a:=mO n (a kvs)
def xe:=Sn ι a
def IU a b c d:=gN (xg a b [] c) (d)
def aEE:=iP a da
def FF a b c d:=I6 a (b c d)
def vW a b:=ay2 X aG a b
def jZ:=kv.1
def w_:=oD x
def asl a:=ns.length≤a
def aCY a:=ι.length≤a
def asm a:=a≤xs.length
def aCZ a:=a<h.objs.size
def aC0 a b c:=avM.trunc ⟨a,b⟩ c
def V8 a:=("locks",a)
def asn:=["piece","joint"]
def V9 a b c d e f g h:=by obtain⟨a,b,c,rfl,d,e,f,g⟩:=h
def sD a b c:=a[b]? = HR c
def Q2:=W.now+Y.wait
def n0 a b:=by rw[kA (a) b]
def MQ a b c d e f g:=Dl (P:=λq=>lE Y M W j q a i x) b c rfl a_ rfl (Dl (P:=λq=>lE Y M W j q d i x) e f rfl a_ rfl (g))
def ajq a b:=by obtain⟨a,e⟩:=b
def ajr a:=(a).symm.trans
def aso a b c:=by generalize a=aa at b c
def gx a b:=by
 rw[a]
 exact b
def iX a:=aU (a:Nat)
def V_ a b c:=iX (mf a b c)
def ajs:=["pieces","number","joint"]
def cP a:=λz=>a
def aC1 a:=(by simpa using a)
def aC2 a:=h.objs.size≤a
def aC3 a:=Y.ss.length≤a
def aMy:=decide_eq_false e
def aMz:=aqv "_law_name" "_law_signal"
def asp a:=a kvs.length
def asq a:=some (aU a)
def asr:=if_neg aB
def ass:=xs.map η
def atQ:=K.lookup a
def aAm:=Or.inr rfl
def atR:=bp.NK.mp r
def atU:=bp.aR4.mp r
def atV:=ly "green"
def atW a b c:=bJ.less ha a b c
def atX:=b9 t.steps
def atY:=ss.drop sh
def atZ:=ss.take sh
def at0 a:=S.locks a hp
def at1 a:=S.greens s a
def at3 a b:=AG a b W.falls
def at4 a b:=B0 a "name" b
def Xq a b:=by exact s.sep a b
def Xr a:=λa=>none
def Xs:=by rename_i hc
def Xu a:=atKey a k
def Xv a b:=up.sm a _ b
def Xw:=lA deep
def Xx a b:=trunc a b M
def Xy a b:=a7S G.hu a b
def Xz:=dR bZ
def XA:=Ξ 101
def XC a c:=eo (b a) c
def XD a:=H8 a (af 1)
def XE a:=YC Δ a
def XF:=yd gK
def XG a:=cu (wc false) a (Ξ 1)
def XH:=tR ao
def XI:=tX bA
def XJ a:=lq a "steps" aD
def XK a:=aqE a (af 1)
def apz a:=aqF Hg a
def XM:=lO aib
def XN:=E3 (E3 ahx)
def agi a:=nS (compareOp op) a
def XO:=C0 aD
def XQ a b c:=by
 rw[apY a rfl b]
 exact c
def XR:=ο aa.length
def ê a b:=TL X.prog X.w a b
def W5 a b c d:=rY (Δ a) b c d
def W6 a:=BO (fE 0) (af 1) a
def W7 a:=z9 e_ a Θ
def W8 a:=gS a g7
def W9 a:=mX false xB a (bT 0) oz (jm 0)
def W_:=av "points"
def W! a b c:=m5.res (dg:=zR) sl a λι1 bg aa H1 b c e1 s1 r1 w1=>?_
def W?:=d5 "slice"
def Xa:=av "plain"
def IV a b c:=⟨T.ot,T.os,T.oa,a,b,c⟩
def IW a:=[fu.aj a]
def Q3:=.fall
def Xb a:=j8 o M.length (Q3 a)
def Xc a b c d e f g h i:=We a b c d EB e f g h i
def MR:=(Fp).isEmpty
def Q4 a b c d:=acv false a G.calm b c (p5 _ Y8) d
def MS a b c d e f g:=λa b c d e f g=>?_
def IX:=[.gone]
def zk:=bU us
def Q5 a b c d:=aRO ps ss a b c d
def Xd a b c:=Q5 a way b c
def Sj:=aRP ps ss
def xr:=dR i
def xt:=dR j
def Cz a:=x8 q a
def xu:=UU k
def xw a:=upd H s.heap.objs.size a
def zX:=apN p
def yi a:=uz live a M
def yj:=NP Y us pre
def yk a b c d:=iP (a b c pos) (d)
def yl:=F9 kvs k
def ym a c:=i? b o a c
def yo:=qg x aa
def vX a:=by refine dP (a)
def Ű a:=by rw[vX (jz a)]
def o3 a:=arH (a)
def FG a b c:=nw a (cu g9 (kT wg (Ξ b)) c)
def o4 a b:=ay ⟨a,b⟩
def FH a b:=Ω ⟨a,b⟩
def cK a b:=λ_ a=>b
def Ų a b c d:=by
 have a:b:=c
 exact d
def CA a b c d:=by rw[Ų a b (cP c) d]
def Q6 a:=by
 show a
 omega
def aC4 a:=a "ValueError"
def aC5:=by rw[List.any_map]
def aC6:=by rw[List.map_map]
def aC7 a:=λa=>nomatch z
def aC8:=r1.append r2
def aC9:=ly "signals"
def aCA:=get_set h.y4
def aCB a:=Option.map _ a
def aCC:=Y.ps.map EB
def aCD:=b! "trains"
def aCE:=z5 "points"
def aCF a:=eY "unlock" a
def at5:=vs.length=es.size
def ajt a:=a=xs.length
def aCG:=xs.length+ys.length
def aju a:=t.ahead≠a
def ajv a:=d.depth≤a
def ajw a:=xs.length<a
def aiI a:=a<cZ.length
def aiJ a:=a∈t.steps
def MT:=.Tuple
def MU a b c d e:=λa=>vP b c d e
def MV a:=some a.2
def MW a c:=I.dy b a c
def Ss a:=a72 X.K a
def MX:=AJ (Ξ 1)
def MY a:=Av (f5 3) a
def MZ a:=x8 kv a
def Mv:=kH H s'
def Mw:=jk hl
def ak4 a:=iP a gf
def YG a:=backTo dc (Eb a)
def Mx:=z7 bj
def My:=z7 gk
def Mz:=z7 fo
def MA:=z7 i6
def MB:=VS e2
def ak5 a:=CS a ak
def Nl a:=pre.foldl n7 (aet a)
def Nm a b c d e f g:=nR (ho pins a σ b c d e) f g
def Nn a b c:=r6 (t σ a (vh b c))
def S8 a:=⟨cB,iter,ifs,a⟩
def Np a b c:=h2.ix (ρ:=a) (b:=ao) rfl c
def Nq a:=Binds a fd ps []
def Nr:=eZ (tn ?_)
def Nt:=alJ W r'
def Nu a:=z6 (a bu)
def Nv a:=U3 a σ' H' s'
def Nx a b c d:=λρ a=>MJ b c d
def a6q a:=agE a ps (aw st)
def Ny a b c d e f g:=by rw[LM a vs b c d e vs f g]
def S9 a:=Up ι a ι' S'
def IY a b c d e:=⟨a,b,rfl,c,d,e⟩
def Ŵ a b c d e f:=ų a (IY b c d e f)
def xZ a b:=∀a:Nat,b
def uf a:=dD C.tr a
def CB:=uf (lr (t0 M.length))
def z? a b c:=F1 Y a b c x
def Xe a:=by
 have:=a
 subst this
def vY a:=λq hq=>a
def Q7 a b c d e f g:=λa b hb c=>eb d e f g
def vZ a:=apX (a)
def aiK a b c:=vZ (ō a b c)
def Aa a:=aL (ã (a))
def Xf a:=Aa (Ln a)
def aCH a b:=if a then b else[]
def Ŷ a:=by rw[ia (a<16000000)]
def Ź:=X.env::X.outer
def Ż a b c:=by
 show a
 rw[au b c]
def Ž a b c d e f:=⟨l9.imp a λb c d e=>f⟩
def aaG a b c d:=w.foldl (λa b=>c) d
def aaH a:=a≤1000
def aCI:=aaH w.length
def aCJ:=aaH U.length
def aMA:=some Y.rs.length
def aMB:=e1.trans e2.symm
def aMC:=! W.falls.isEmpty
def aLQ:=wpAny_holding ?_
def aLR:=decide_eq_true e
def aLS:=ns.map WData.int
def aLT:=names.map ak.int
def aLU:=aAP "_law_joint"
def aLV:=["_law_joint","_law_loose"]
def aLW:=["_law_script","_law_k","_law_world"]
def aiL a b c:=by obtain⟨a,b,e⟩:=c
def aiM a:=("greens",a)
def IZ a:=Ω (kS a)
def I0 a:=pe (wKs Y g t j) a
def Nz a b:=TH xs a b
def Eo a:=gf ρ a
def NB a:=SD a (NR bI) Tl
def Sk b:=Ho a b
def Ab a b:=BR a x b
def Ac:=ig B.falls r
def Ad a:=aq.sub _ _ a
def Ae a b:=Ho a.1 b.2.2
def Af a:=("until",η a)
def Ag a b c d e:=by
 intro X hP hw hK hc a pins b σ c d e hf st hg
 subst hP hw hK
def Ca:=I5 o
def Ah:=mf items.size 0 lo
def Ai a b:=h1.ix (ρ:=a) (d:=ao) rfl b
def Aj a b:=W.green.filter (x8 a (b≠r))
def Ak:=G2 cZ r
def Al:=W.now+1
def Am a:=xm (AO Y t) a
def I1 a b c d:=acv false a G.calm b c d (λ_ _ _ _=>(af 0))
def ku:=ο t.ob
def FI a b:=TL P w a b
def Si:=FI H h
def FJ a b:=Y7 X (a) b
def FL a b:=FJ (gy a) b
def lg:=As Y s
def aDR:=["_law_name","_law_at","_law_world"]
def at6 a:=acc.length+a
def at7 a:=a∈W.trains
def at8 a:=a∈B.trains
def at9 a:=a%4294967291
def aua a b:=s.TypeIs (a) b
def aub a:=⟨vs,a⟩
def aiN a b c:=pV a (aub b) (Cx c)
def aiO:=["self","piece"]
def cy a b c:=agE a b (aw c)
def aDS a:=λh=>nomatch a
def aDT a:=pre.length≤a
def aaI a b c:=by
 rw[a]
 by_cases b:c
def aaJ a:=("lying",a)
def aaK a b c d e f:=by rw[Cc a b c ⟨d,e,f⟩]
def cU a:=by
 rw[a]
 rfl
def aLX:=by rw[cU List.map_append]
def Q8 a b:=mU (ax a b)
def FN a b:=mU (n8 q9 a b)
def Q9 a b:=Q8 a [ao,b]
def FO a:=Q9 a aD
def I2 a:=Q9 a aA
def NC a:=Q9 a bA
def Ej a:=a[t.so]?
def Ek a:=a[t.ob]?
def yp a b:=∀q∈a,b
def qN a:=λr hr=>a
def ND a:=tQ df (a)
def Xg:=ND ũ
def qO a:=mY (bT a) mn
def qP a b:=lE Y M W j (a) b i x
def aiP a:=σ.set i a
def aiQ a b c d e:=by obtain⟨a,b⟩:∃c,d:=e
def aiR a:=start a vs
def aiS:=k.map kV
def aiT a b c d:=bJ.amJ a b xs c d
def aiU a:=Res.ok a M
def aiV a b:=aYd a (cK _ b)
def aiW a b c:=wc false a b c
def aiX:=rk.val k
def aiY a b c d e:=Walks a b c d ι e
def aiZ a b:=s2.sub _ a b
def ai0 a b:=findIn K a b
def ai1 a:=I.lock h a
def ai2 a:=G.g.sg _ a
def ai3 a:=ZR (Ů a)
def ai4:=R.map yn
def ai5 a:=aT (eQ a)
def ai6 a b:=iQ a b none
def ai7 a b:=dj (q? a b)
def aiy:=z4 Expr
def aiz a b c d:=eo (h1 a b c) d
def aiA:=j0 h.y5
def aiB:=nA T.aFf
def aiC a b c d e:=aL (AP a b c d e)
def aiD a:=Â C.fa a
def aiE a b c:=Ä (uF a b) c
def aiF a b:=pre.filter (Gg a b)
def aiG a b c:=pre.filter (wB a b c)
def aiH a b:=mP (De a) b
def aj6 a b c:=k_ a (ax b c)
def aj7 a b:=aqG (Df a b)
def aj8 a b c d e f:=ag3 a b (eO c d e) f
def aj9 a b:=SM ⟨a::t.tr.steps,b,t.tr.out⟩ t.sF
def aka:=⟨t.tr.steps,t.tr.ahead,true⟩
def akb a b c d e:=Qy a (qx b c d e)
def akc:=agU t.tr aa.length
def akd a b:=DV.aGl (yD a b)
def ake a b:=aJ.map λa=>kV b
def akf a b:=eo (ú (jJ a)) b
def akg:=Rb deep
def a2f a b c:=xo a b (qk c)
def akh:=V3 T.YK
def aki a b c d e f:=FF (Dj a b c) d e f
def akj a b:=sD a t.sF b
def akk:=cK _ true
def akl a:=Nz none a
def rN a:=JY k a
def I3 a:=a0t Y a
def Bu:=I3 W
def aDU a:=⟨o.slots,a⟩
def Q_ a b c:=⟨a,b,lT,jD,c⟩
def aLY:=Paired.length h
def aLZ:=Nat.ne_of_lt hb
def aL0:=Nat.ne_of_lt OL
def aL1:=Nat.ne_of_gt OL
def aL2:=I.oA.sublist hg
def aL3:=I.Iy.sublist hf
def aL4:=["_law_script","_law_base"]
def aL5:=["_law_yard","_law_word","_law_number","_law_name"]
def aL6:=aAP "_law_name"
def aL7:=["_law_pieces_here","_law_signals_here","_law_wait"]
def aL8:=["_law_script","_law_base","_law_pieces_here"]
def aL9:=aqv "_law_signal" "_law_name"
def aMa:=["_law_pieces_here","_law_signals_here","_law_wait","_law_points","_law_world"]
def aMb:=["_law_world","_law_signal","_law_name","_law_route","_law_falls","_law_way"]
def aDV a:=a Y.rs.length
def aDW a:=a Y.ps.length
def aDX:=by exact nomatch e
def aDY:=Option Bool
def aPg a:=min a d.depth
def aDZ:=bp.NK.mp r2
def aD0:=bp.NK.mp rx
def aD1:=bs.map V.ah
def aD2:=ly "points"
def aD3:=ly "pieces"
def aD4:=x0.trans e2
def aD5 a:=d.any (Cz a)
def aD6 a:=fu.ins C.fa a
def aD7:=Kn.trans hk
def aD8 a:=ü a "steps"
def aD9:=b! "green"
def aEa:=E4 "ticks"
def aEb:=tN "falls"
def aEc:=aC.toArray.size*k.toNat
def aEd:=OldK s₁.heap s'.heap
def aEe:=VC "train" "route"
def aEf a:=B0 (VD "route") "route" a
def auc a:=a ys.length
def aud:=Sum.inl a
def aue:=Sum.inl b
def auf:=by exact w2.elim
def auh:=Option α
def aui:=if_pos hl
def atq:=if_neg hj
def atr:=h1.get? b
def ats:=h2.get? b
def att:=K.In base
def atu a c:=I.ok.bs b a c
def atv a:=ri a s.heap
def atw:=ks.map kV
def atx:=h2 e.symm
def aOS a b:=Slot a name b
def aty:=ι.take n
def atz a b:=s1.sub a b ir
def atA a:=L2.less S a
def atB:=r.less ha
def atC:=tt.map fQ
def atD:=ne e.symm
def atE:=l.find? p
def atF a b:=Cd a (Mt (oZ aC.toArray b))
def atG a:=jy (cC a)
def atH a:=oK (agA a I.ok.above)
def atI a:=jz (PX a)
def atJ:=dj t.out
def atL a:=dj (ahh a)
def atM a b:=dj (gS a b)
def atN a:=jB (h_ a)
def atO a:=aL (K? a)
def atP a:=nI (Ic a)
def ath:=k6 ak.lF
def ati a:=List.filter_cons_of_pos (aK a)
def atj:=Mf loose
def atk a b:=Io a (atb b)
def atl a b:=zN a b loose
def atm a b:=BQ (asj a) (t.ahead.drop b)
def atn a:=cC a=ps.length
def ato a b:=oU (Qw a b)
def atp a b:=aA6 a (agV b)
def a2k a:=Hv (a "method_descriptor")
def auF a:=xT (lX a)
def auG:=relabel scope X.env
def auH a b:=⟨xq a,(V? b)⟩
def akm a b:=by
 refine a
 refine b
def akn a b c d e f g h:=⟨a8e (arI a b) (arI c d) (arI e f) (arI g h)⟩
def aaL a b c d:=Inv a b σ' c d
def agm:=[p.enc]
def aaM a b c:=Ko a b iter c
def aaN a b c d:=hb Y.ps a b c d
def aaO a:=aGb I.dy a
def aaP a b c d e f g h:=nz a I.dy deep b c d e f g h
def aaQ a b c d:=Z! a b c iter d
def aaR a b:=a8L I.dy a b
def aaS a:=h.at a hi
def aaT:=AA Y.rs
def aaU a:=R.nd a hr
def Ř a:=a8F a K.tl
def Ś:=G.wl hr
def Ŝ:=anf Y.ps
def Ş:=aeL Y.ps
def Š:=avY G.hu
def Ţ a:=eL gy a
def Ť a:=cu fN a ao
def Ŧ a:=by rw[au hsz a]
def Ũ a:=nw a bA
def Ū:=E1 aB
def abC a b:=kC a b Hy
def abD a b c:=B3 (q7 G.hu) a b c
def abE:=env.scope.kind == Il
def abF a b c:=Ve a b c Θ
def abG a:=nO bN a
def agD a b:=backTo a (starEach b oJ)
def abH:=tX aD
def abI:=tX bH
def abJ a b:=qF a aW b
def abK a:=env.kindOf a == ķ
def abL a b c:=by
 rw[a]at b
 rw[f7 c c_]
def abM a:=ps.map λa=>lU
def abN:=QD g7
def abO a b c:=kC a b (zz c Wy)
def abP:=sl.mono ahg
def abQ:=aih aB
def abR a b:=PZ a (f5 3) b
def abS a:=Jj X.A a
def abT:=tQ (Td false) (af 1)
def abU:=vp _ H7
def abV a:=ŷ ya a
def abW a:=j8 o M.length (Wi a)
def abX a b:=aa.set a (ς (b))
def abY a b c d:=λa b c=>⟨#[],d⟩
def abZ a b c d e f g h i:=ap4 a qual b c d e doc f g h i
def ab0 a b c d e:=eK (aTc a b c d e fj)
def abj a b c d e f g h i:=by
 rintro pre a post b c d ⟨e,f,g,h⟩
 rw[Im i]
def abk a b c d e f:=MS ι2 a b c d e f
def abl a b:=FG a b (Ξ 4)
def abm a b:=eo (y a a_) b
def abn:=Ho g4.1 g4.2.2
def Q! a b:=I.N5 x a b
def â a b c:=Gs a b (F5 st) c
def Q? a:=ev rfl a
def Ra:=bw (dU t.tr)
def QE:=p8 rfl
def QF a:=encD a d
def QG a b:=h.awL q a b
def QH:=flip s
def QI:=a8f aB
def QJ:=aK bw
def QK a b:=by rw[iB a r1 b]
def QL:=cL a6K
def QM:=jk jf
def az5:=Y.ps.length≤16
def RX a b c:=i? σ a b c
def RY a:=jl aJ a
def RZ:=SX vs
def a19 a:=gN a tb
def R0:=nC α
def R1:=k6 bp
def R2:=mf items.size items.size hi
def R3 a b c d e:=ha pins a σ b c d e
def R4:=agT h'
def R5 a b:=kC a b (cc FW B.trains)
def R6 a b c:=r6 (apG σ a b c)
def apu a b:=alb a scope b gg
def R7:=Í s'
def R8 a b c d e f:=Turn a b c cB d e it f
def az7:=Sm te
def R9 a b c d:=aHX a pins σ b c d
def R_ a b c:=s.ob a b c h1 h2
def R! a b c:=h1.fld (ρ:=a) (b:=ao) rfl c
def å a b:=A.deeper (envOfC a (aw st) s.heap.objs.size b md)
def R? a b c:=S2 ρ a b aD T.mt c
def U7:=MM M'
def Sa a:=z6 (a bw)
def Sd a b c:=ak6 (a:=λb=>c) ?_
def Se a b:=by rw[x! a b hz (I.tuple hq)]
def Sf:=Q0 s0
def æ a:=aT (dD a dx fs)
def RB a b c d:=xM a b s1 c H1 aH r1 aE d
def RC a b c d e:=λa b hb c=>PA d hb e
def RD a b:=by
 rw[a,b,aN]
 rw[tU]
def RE a b c d e:=by rw[pN a h1 h2 b c d e]
def RG a:=by rw[xK hb g8 a]
def RH a b c d:=xX a b c d hb hx
def RI:=pre.flatMap (Zy ps ss)
def RJ a b:=xT (D9 a hr Gt b)
def RK a b c d e f g:=eK (Æ a b G' c s2 n9 d e f g cI fj)
def RL:=by simp only[aN,bf,a!,ag]
def RM a:=hb pins s1 σ H1 a aH aE
def Iq a b:=Vals (a) b
def NF a:=SA a (Dr (Ξ 1)) hE
def CC:=(h.qi q hq).1
def CD:=g4.2.2
def CE a:=by refine VP a
def CF:=[ao]
def CG a:=cG a k'
def CH:=jx n
def CI a:=by rw[kA e a]
def K_:=Ln p
def Ce:=Yz V
def Cf a:=qW a o
def Cg:=Lh h
def Ch a:=mg_none_of X G a
def Ci a b:=by rw[b5 _ a b]
def au6:=gP pL V
def Cj:=Sum.inl q.1
def Ck a:=S? n a kvs
def akZ:=gN a ta
def Ep:=pe kvs k
def C2:=dB s hs
def C3:=U0 bp h
def C4:=JT Y W.trains s
def C5 a b:=Gl a H b xs
def C6 a b:=aKX X aG a b
def C7 a b:=alZ n nx a b
def C8:=λ_ _=>False
def C9 a b:=u9 a (zA M' b) (kt j M M')
def C_ a:=alV n nx f ls a
def C! a:=by rw[MK a h h S M xQ]
def C? a b:=u9 a (By M' b) (gL o M o M')
def K! a:=sQ (lG P w) P w K mg base N a (aw st) f md A outer s H E
def zm a:=eL .own a
def FP:=lr t
def El:=Â C.tr FP
def NG a b c:=amR C a b x c
def Bw a b:=NG o a b
def n5 a:=kt j M a
def Xh a:=by by_cases h2:a
def Xi a b c d:=oq a λb c=>d
def ako a b c:=nR a b ⟨c,H1,aH,r1,aE⟩
def akp a b c d e f g:=nR (ha pins a σ b c d e) f ⟨g,H1,aH,r1,aE⟩
def yq a:=λx hx=>a
def sE a:=λs hs=>a
def An a:=λy hy=>a
def NH a b:=(a).filter b
def Xj a:=(a).trains
def Xk a b:=cG (Xj a) b
def aDz a:=(a).resolve_left
def NI a b c d e:=⟨λa b c=>d,e⟩
def auI a:=W'.locks[a]?
def Ao a:=λr=>f a
def Hp a:=SJ o a apos
def auJ:=Hp "get"
def auK:=Hp "pop"
def NJ a b:=gL o M a b
def Ec:=oD i
def aMc:=aC.toArray.size+T?.toArray.size
def RN a:=(a,none)
def Dc a b c d:=a (RN (b (gQ c k))) d
def abo a b:=by
 show a
 refine b
def abp a b:=show ∃a,b from r
def abq a b c d e f g h i j k:=⟨λa b=>c,λd e f H'=>g,λh i=>∃j,k⟩
def Xl a b c:=(by simp[a,b,c])
def Xm a b c:=by
 rw[a]at b
 refine c
def RO a b:=by
 show a
 exact b
def RP a b:=by rw[jq (a∈b)]
def abr a:=by rw[PV (a∈Hg)]
def agg:=Q1 (bN≠[])
def ug a b c d:=BY a b (Ys (c) (d))
def Ir a b:=nS (compareOp .a) (Ei b)
def RQ a b c d e:=Ey a b M c (d e) M
def abt a b c d:=RQ a b c η d
def aDA a:=a=Option.none
def aDB a:=aJ.length≤a
def aDC a:=ss.length≤a
def aDD a:=show a from p
def aDE a:=a < ι.length
def aMd:=Array GenState
def aMe:=X.env.kindOf x
def aMf:=AllBare s.gens
def aLG:=s1.heap.get? b
def aLH:=get_set s.w.iJ
def aLI:=apQ I.ok.above
def aLJ:=aCY ι2.length
def aLK:=aCZ sysModules
def aLL:=["_law_world","_law_route","_law_way","_law_step","_law_piece"]
def aAf a:=t'.ahead=a
def auL:=t2.ahead=t'.ahead
def akq a b c d:=aSf a b (xs:=c) d
def akr a b c:=NH a (λb=>c)
def abu a b:=(a).tr.steps.map λs=>aU b
def aks a b:=(a).steps.map λs=>aU b
def E5:=.list
def RS a b c:=k_ a (cu (qa false) b c)
def Xn a b c d:=by
 have a:¬b:=aB
 simp[c,d]
def E6:=by simp at h
def E7:=kR hb
def E8:=[aA]
def E9 a:=uF wt a
def E_ a b c:=uq a b ?_ c
def E! a b:=by rw[bF e a b]
def abv a b:=Ia a (kY b)
def E?:=nI (UW p)
def Hj:=AO Y B.ticks
def Fa a:=flat M deep a
def Fb a b c:=M5 a b c M
def Fc:=yg ι S ρ σ
def Fd:=sC x
def Hl:=NP Y us R
def Fe a:=eN K (oj K) E ι S H Q a
def Ff a:=pP mQ A a Q E
def Fg:=by intro pins s σ H x y v u Q I rx bl h
def La a b:=N? K ι S a b o
def Fi a:=NJ o a
def Fj a b:=by intro pins s σ H a I b
def auM a:=W'.trains=a
def aLM:=kvs.length=vs.length
def auN a:=t.steps≠a
def aDF:=xs.length*k.toNat
def auO a:=agr (a-xs.length) none
def auP a b:=a1e (enc:=a) b
def G9 a c:=∀b∈a,c
def jI a:=(a:gM).Nodup
def Dd a b:=by by_cases e:a=b
def uh a b:=by rw[Dd a.1 b]
def apy:=gP pL (Addr×Value)
def aDG:=(by rw[List.size_toArray]<;>omega)
def aDH:=(by simp only[Int.reducePow])
def aDI:=if_pos a_
def aDJ:=if_neg a_
def aDK:=bp.alM.mp r
def aDL:=ly "enter"
def aDM:=l.filter p
def aDN:=Ξ 999999
def aDO:=by rw[ū aq.len]
def aDP:=["piece","step"]
def aDQ:=["self","name"]
def Xo:=.tuple
def Xp:=some i
def WV:=some 0
def WW a b:=I.dy a _ b
def WX:=by rename_i e
def WY a b:=aGI env a b
def é a b:=aeC a ifs b
def WZ a b c:=yM a (oj K) b c
def W0 a b:=lB bH a b
def W2:=fQ (fZ s)
def W3:=jL Θ
def W4 a b:=amw a b bN
def X0 a b c d e f g h i j k:=F0 a b c d e f g h i rfl j k
def X3 a:=ZO bN a
def X4 a:=yu (af 2) a
def X5 a:=eL a aJ
def X6:=aX hi
def agj:=cS ba
def X7:=vM vs
def X8 a b c:=kX a vs b c
def X9:=cc FW B.trains
def X_ a:=zz JW a
def X! a b c:=kH a (BS b c t')
def X?:=t.tr.steps≠[]
def Yb a b c d e f g h:=by rw[ì a b c d e1 (û ρ e f ao g) h]
def Yc:=Ü xs
def Yd a:=LI a bI
def Ye:=by rw[M0 aE]
def Yg a b c d e f g h i:=by rw[Qs (l9.imp a (i? b σ c d)) e f g h i]
def Yh a b c d e f:=by intro pins a σ b xs us c d e f
def Yi a b:=Cr a ?_ b
def Yj a b c d:=Chain ps ss a b c d
def Yk:=q3 t.sF (a.map bw)
def Yl a:=qY (q7 G.hu) (af 1) b7 a
def Ym a b c:=M1 a b c a8 a9
def Yn a b c d e f g h:=aSK (a:=λb=>lE Y M W j c d i x) e rfl rfl f M' g h
def Yo a:=iN a (af 1) b7
def Yp a b c d e f g:=by
 obtain⟨a,ι,b,c,xs,aq,d,e⟩:=f
 rw[B6 g]
def apA a:=KT a kvs xs
def XS a b c d e f g:=Z7 a b c d e f λB'=>alC Y g B'
def õ a:=bJ a ι' S' xs vs
def XT a b c d:=by obtain⟨a,aC,b,c,hl,d⟩:=I.axS hH
def XU a:=tC a aE aV cA
def XV a b c d e f g h i:=PU a σ b c d hw (Wd e σ f g h i)
def XW a b c d e:=by
 refine a
 obtain⟨ι,b,c,ρ,aq,sl,d⟩:=e
def XX a b c d e:=by
 rw[VL a b c d ?_ b6 zD zE m9 m_ l5]
 refine e
def v3 a b c:=λa xs b=>c
def Aq a:=λxs M=>a
def v5 a:=λb hb=>a
def Fl a b:=nw (a) b
def akt a b:=Fl (c9 a) b
def v7 a b c d:=by rw[cV a b c (tn (d))]
def Fo a b c:=d6 (bb (cu (eJ false) a b)) (c) n9
def ajH a b c:=Fo a b (c! c)
def v8 a b:=L! (a) b ?_
def v9 a:=HA (a)
def nD a:=Q a H'
def K8:=OA X x
def yr:=GN C Y M B W o
def RT a b:=aTo Y W x t a b
def ä:=RT W' t'
def XY a:=RT a t2
def auQ a b c d:=aR9 (N:=a) (b:=c) d
def abw a:=by by_cases e2:a
def abx a:=by by_cases hm:a
def aby a:=R.map (F3 a)
def RU a:=⟨ι1,bg,aa,ρ,s1,ny,a⟩
def RV:=RU w1
def aLN:=List.range n2
def aLO:=xs.eraseIdx i
def aLP:=aC.eraseIdx k
def aMD:=pre_splitW i7
def aME:=bp.aR4.mpr rfl
def aMF:=e.mono aq.sub
def aMG:=acu.trans aQ1
def aMH:=jy ns.length
def aMI:=bO A.handled
def aMJ:=aU ss.length
def aMK:=xs.length+zs.length
def aML:=aaH fs.length
def aMM:=aqv "_law_at" "_law_found"
def aMN:=["_law_pieces_here","_law_at","_law_joint"]
def aMO:=["_law_world","_law_signal","_law_joint","_law_at"]
def aMP:=["_law_pieces_here","_law_at","_law_joint","_law_found"]
def aMQ:=["_law_world","_law_route","_law_joint","_law_at","_law_names","_law_border"]
def aMR:=["_law_pieces_here","_law_signals_here","_law_way","_law_at","_law_joint"]
def aMS:=["_law_pieces_here","_law_signals_here","_law_way","_law_at","_law_joint","_law_found","_law_out","_law_here","_law_behind"]
def auR:=.UnaryOp
def auS a:=h.Ns1 a mA
def aAC:=Sem Bool
def auT a:=J.stop i a
def auU:=B.get? e
def auV:=B.get? b
def auW:=["self","pieces","signals","wait"]
def auX:=r.cut hb
def auY:=ly "now"
def auZ a:=aSJ (yq a)
def au0:=a.map bw
def au1 a:=tmod rfl a
def au2 a:=j.sub a hp
def aAD:=cS Heap
def auj:=j0 h.gU
def auk:=nA T.aRG
def aul a:=bO (S' a)
def aum a:=iQ W.locks a none
def aun:=iE C.dN
def auo:=iE C.he
def aup:=iE C.rd
def auq a:=iF a 1000
def aur a:=xR a h.wl
def aus:=SM ⟨t.tr.steps.dropLast,t.tr.ahead,t.tr.out⟩ t.sF
def aut:=v₂::rest
def auu:=agU t.tr M2.length
def auv:=z! I.i_
def auw a:=dF (hn a)
def auy a:=⟨t.steps,a,true⟩
def auz:=by rw[cU this]
def auA a:=ND (af a)
def auB:=by rw[cw S.amd I.Iy]
def auC a:=NW C.aM a ps ss t7 wait
def auD:=Hp name
def auE:=jE (NL T.aTO hr (jd (yu (af 1) (jd uw))))
def ajI:=List β
def ajJ:=some st
def ajK a:=RelV a w'
def ajL a b c:=Q a (asx b c)
def ajM a:=D.nx σ a
def ajN a:=amI I.dy a
def ajO a:=X.tr a T!
def ajP:=aYx ends
def ajQ a b:=l.set a.1 b
def ajR a b c:=R.lt a hr b c
def ajS:=amS Y.ps
def ajT a:=Um Y.ps a
def ajU a:=agA mE a
def ajV:=Hf gw
def ajW:=Ξ 100
def ajX a b c:=rY a b c rfl
def ajY a:=aL (p a)
def ajZ:=H_ way
def aj0:=SU lim
def aj1:=SU 100
def aj2 a:=aO zf a
def aj3 a:=Ib a (b! "ok")
def aj4 a:=gb r! a
def aj5 a:=í Jh a
def apL:=nC Int
def ajx:=gE aPc
def ajy a b:=ahs a b cT
def ajz:=Δ s2.heap.objs.size
def ajA:=dR (fZ bZ).1
def ajB:=h9 (tN "green")
def ajC:=h9 (tN "signals")
def ajD a b c:=aqu a jZ b c
def ajE:=d5 "BaseException"
def ajF a b c:=if a then(b:Int) else c
def ajG a:=t6 a gR
def akB a b c:=Qv a b c Wz
def akC a:=ag4 a (af 1)
def akD:=Wx mT
def akE a:=arW zZ a
def akF a b c:=Hw (lh false) a b c
def akG a b c:=Zq (a:=False) b c Θ
def akH:=η Y.ss.length
def akI:=Ì oR
def akJ:=jE (NL T.aFj hr (jd (yu (af 1) (jd uw))))
def akK:=Rk pre
def akL a:=n8 countP aA a
def akM:=Mt (oZ vs.toArray)
def akN:=eX (kS IX)
def akO a:=mO n (ς a)
def akP a b:=vK (ς a) b
def akQ a b:=vK (aW a) b
def akR a:=BO (af 4) b7 a
def akS a b c:=F1 Y a iW b c
def akT:=d5 "object"
def akU a b c:=vw a rfl (vY (jc b c))
def aqe a b c:=if a then bP C.he b else c
def akV:=rN X.A
def akW a b:=A.under (gy "type.__call__" ⟨a,b⟩)
def akX a:=VV (d5 "range") a
def akY a b c:=wq a b G.o_ (af 0) c
def aqf a:=aO (g a ρ) ρ1
def aku a:=NH aAy a
def akv:=bb (tB (kT g9 (Ξ 8)) (Ξ 3))
def akw:=PassesOwn (model X.prog X.w) X.A X.env X.sS
def akx:=xj (lh true) ao aA
def aky a b:=eo (y a a_ a_) b
def YB:=.dict
def abz a:=AN ns y3 y4 y5 a gR y8
def akz:=Jf gF Ma
def apE a b:=apt a b G3
def abA a:=S_ Jh a
def RW:=Dx Ĉ
def Iu a b c d e:=by
 have a:b:=c
 have d:=e
def akA:=dR (fZ bZ).2
def Iv a:=hf a hb
def Iw a:=s1 ρ a
def Iz a:=dk ρ a
def IA:=dR N
def IB:=aK e
def XZ a:=Av (f5 2) a
def IC b:=BJ a b
def Jx:=qX w
def Jy:=Á p
def Jz a c d:=I.base.free b o a c d
def JA:=S4 i
def JB:=apV p
def JC:=UR a
def JD:=nI (VG p)
def ace a:=Sn a o
def JE:=zO _
def JF a b:=a (gQ b r)
def JG a b:=aO (kI Y a) b
def Ly a:=us.filter (Gg Y a)
def JH a:=eK (L! a M ?_)
def JI a b c d:=gN (a b c pos) (d)
def JJ a b c:=M2.set a (b c)
def abB a:=h.push (ς a)
def JK a b:=u7 a p b
def JL a b c d:=rY (a b) H c d
def ak2:=Ji e
def JM a b c d:=Cs a b 2 c d
def Lz:=RelV x v
def JN a b:=lh neg a b M
def JO a:=I.tr _ _ a
def JP:=ql.mf xs.length 0 lo
def Sq:=d7 ρ M
def JQ a:=by rw[gY (cq q a) q]
def JR:=iI K H a xs
def Jo:=z? W w i
def YD a:=anV X aG a ds
def Jp a b:=λa=>f b.1
def Jq:=e7 C Y g7 o M B
def Jr a:=N1 K bR a
def aQO:=aKJ C bQ
def aEH a:=Zs Y.ps.length Y.rs (Au Y.ps) a W B
def So a b:=Bx (Hh i) a b (bP C.dN M)
def Js:=JT Y pre s
def Jt a b:=VU S H ι a b
def Ju a b:=o7 K ι S a b
def acd a:=HH b (awO X pins a b)
def Jv a:=by
 rw[EI S M ρ aq sl w h]
 refine a
def Jw a b c d e:=by
 obtain⟨E,ι,S,M,a,b,aq,c,d,w⟩:=h
 rw[B6 e]
def um a:=yG f S a
def uT{P:Program}{w:World}:=_
def bk{n:Nat}:=_
def aza{K:ff}{ι:c5}:=_
def Uy(he:Eb (e::es)=ab2::aEF:=by rfl)(i8:Yu (Yv es).any:=by rfl):=_
def aak(hf:au8 x\/ab5 x:=by first | exact Ω rfl | exact ay rfl | assumption):=_
def za{σ:St}{H:aR}:=_
def aal(hN:ab7 c ([0,101,102,103,104,100,-3,-5,3,999999,7]:fX) c):=_
def d9{xs:fK}:=_
def afR(σ:St)(H:aR):=_
def ck{M:ba}:=_
def nj{s:Shared}:=_
def dh(n:Nat):=_
def dX(G:uZ):=_
def gI(x:Int):=_
def kh(C:eu)(Y:eD):=_
def ki(Y:eD)(W:bC):=_
def kP(s:Shared):=_
def aov(A:Around)(outer:D?):=_
def fW{x:Int}:=_
def fz{r:Nat}:=_
def bX(I:i9):=_
def gC{α:Type}:=_
def ew(r:Nat):=_
def wX(X:bV)(aG:St->d8):=_
def ee{k:Nat}:=_
def K3(hd:au4:=by decide):=_
def aam(K:ff)(mg:Str->gK):=_
def azb(OM:G9 ch ((b∈X.ex\/ack b)/\Em b/\(∀x c,zg->c≠b)/\gb (X.gi++pins) (p.1≠b))):=_
def dY(M:ba):=_
def DW(P:Program)(w:World):=_
def aan(hs:∀x,a2b x=pure x:=by rw[ab6 _]):=_
def aM3(ht:mS (xg (Hp m) (e::es) [] pos)=(do
   let ov ←G3
   a16
   let(f,first) ←G8 [ov] (aAh ov m)
   callWith pos f first (Yv (e::es)) (apD pos [])):=by rfl):=_
def jv aza{S:aR}:=_
def K4(R:au5)(I:au3):=_
def l_(live:Bool):=_
def eS{x:Str}:=_
def pA d9{vs:dw}:=_
def aao(i:∀σ H Q,t' σ H Q->t σ H Q):=_
def dz(K:ff):=_
def aMT(anL:g5 ((YG (e::es)).all (λx=>! x.1)&&(apD dc []).all (λx=>ã x.1)
   && d! (cC (e::es)+kU ([]:YE)+(aAk ([]:YE) 0 1)<30)):=by rfl):=_
def aow(F:rf X.prog X.w X.K X.mg X.base fT k f fd ps sp):=_
def zb(ps:alD)(ss:Br):=_
def rF{α β:Type}:=_
def gJ(h:D_):=_
def c7(g:D1):=_
def pB{ρ:aY}ck:=_
def aap{ps:alD}{ss:Br}:=_
def Bl(w:fV)(i x:Int):=_
def aMU(hu:∀M B w,u0->agf->(apz K_)->u9 (gc [ο 0,b9 w] M=.ok .ai M') (By M' (agk B w)) (Ca/\xh/\∀i,i≠1->M'[i]? = M[i]?)):=_
def à fz(hr:lM):=_
def GO(I:aGy Y W)(S:K7):=_
def iy(i:Nat):=_
def wY{x:ak}{v:V}:=_
def qs{u:Value}:=_
def jh{a:Addr}:=_
def gV{i:Nat}:=_
def pC{neg:Bool}:=_
def aox{S H:aR}ck:=_
def aol(hn:avb x :=by decide)(Km:au4:=by decide):=_
def nk(C:Addr):=_
def DX uT{K:ff}:=_
def uU{A:Around}:=_
def aMV(hs:∀pre x post,xs=pre++x::post->∀ρ M,R pre ρ M->∃ρ1,aqf (enc x)/\Body w (R (pre++[x])) Q (s1 ρ1 M)):=_
def afS(j:DI n nx b f ls AH L R S e8):=_
def aom{f:Addr}{fd:FuncData}:=_
def rE(a:Addr):=_
def K5(d:Bs)(k:κ):=_
def qt fW{t:gj}:=_
def Pb(ha:akZ)(hb:a19 b):=_
def iz{i:Int}:=_
def Bm bk{kvs:rM}:=_
def azc(iw:ab8)(LT:∀M,Looks M s.heap (az6 (Δ e)) (Δ C)):=_
def pD(bR:Addr):=_
def aMW(DO:∀G s,yW [ο 0,bw s,zk] (M++G)=.ok (bU (Ly (dm s))) (M++G))(yU:∀R,alV n nx dm (JV Y) R=Hl):=_
def gu(X:bV):=_
def kj(W:bC):=_
def GP{xs:dw}{us:b3}:=_
def rD(j:Int):=_
def jR(H:aR):=_
def K6(aq:u5)(r:jw):=_
def lK(w:fU):=_
def ji(h:Yr):=_
def azd(hs:Eb (e::es)=ab2::aEF:=by rfl):=_
def fM{d:bz}:=_
def afT(ha:aEE)(hb:iP b db):=_
def aaq(ph:aEG:=by rfl):=_
def afU{ι ι':c5}{S S' H H':aR}:=_
def oE(pins:gr)(s:Shared)afR:=_
def aon(ha:YD (e::es))(hg:K8:=by rfl):=_
def jS(ps:alD):=_
def KJ(hN:X.N.Nodup):=_
def aoo(pf:apt o name G3=G3:=by rfl):=_
def aar(ha:S a=nv .cz .bL):=_
def aMX(hu:è (apF 1+aPg a18))(h:Q (qQ (zl (xs.any (zj y y d)) (xs.any (zj y y d)))) s):=_
def aMY(he:Eb [a,di x q]=ak3 a::Eb [di x q]:=by rfl)(i8:Yu (Yv [di x q]).any:=by rfl):=_
def aze(hp:∀a,G6 Eh)(inj:∀a b,Eh=enc b->a=b):=_
def KL(s':Shared):=_
def tg{κ:Type}:=_
def Pc{w:fV}{i x:Int}:=_
def gD(Y:eD):=_
def afV(M':ba)(h:dH=.ok x M'):=_
def iM{H:aR}:=_
def á dX(ha:aHm C Y ga):=_
def KM{ι:c5}{S:aR}:=_
def gW{x:ak}:=_
def aMZ(hg:OA (sQ (lG P w) P w K mg base N qual scope f cd A outer s H E) x:=by rfl):=_
def afW{H H':aR}{s s':Shared}:=_
def qu{C:Addr}:=_
def GQ(h:Ef .aj):=_
def aop(hs:Eb [a]=[ak3 a]:=by rfl):=_
def aoq{g0 g1 g2 g3 n_ n! n? oh:D1}:=_
def aoj(f:Addr)(md:Value):=_
def nq{X:bV}:=_
def DY(o:cR)dY:=_
def aor(k:∀b u,tw=dG->zf=dG):=_
def l!(k:Nat):=_
def w7(a:Nat):=_
def afX(hd:dH=.ok (ο n) M):=_
def rG{c:Addr}:=_
def rH(cZ:w9):=_
def rI(hx:w_):=_
def aM0{w:qj}(h:∀ι' S' M' H',S9 S->U7->uF w M'->∃vs,iI K H' q vs/\õ K):=_
def afY(e:H a=nu .bL):=_
def Bo{pins:gr}za nj:=_
def KN(hx:c8=eG):=_
def aM1(hf:au8 y\/ab5 y:=by first | exact Ω rfl | exact ay rfl | assumption):=_
def nr(x:Str):=_
def rJ{Q:iO}:=_
def Uz aam(base:Heap):=_
def UA(h:All L K)iy:=_
def UB dh(nx:P->mq):=_
def aM2(hf:∀v u s2 x y H2,kH H2 s2->Lz->ab3->R x y H2->jU (f v u) Q s2):=_
def afZ{cB:Expr}(a it:Addr):=_
def af0(co:apu X N)(ad9:Yt):=_
def af1{ι ι':c5}{S S':aR}:=_
def Pd{Q:Unit->Bt}:=_
def af2{scope:Scope}:=_
def azf(h:j≤k:=by first | omega | decide):=_
def s9{h:Heap}:=_
def s_(hu:aQL):=_
def aos(aoh:az6 (gy id)=a2k d5):=_
def aNE(hn:cC (Yx es)=n:=by rfl)(kL:bO (gz (Yx es).findIdx?):=by rfl):=_
def Pe{i j:Int}ck:=_
def aNF(hsw:aAb (G7 elt [S8 0] scope pos) (ach y py) anM.line=pure true):=_
def aNG(hs:aOV [cB] e X.env=Yy:=by rfl)(hw:aOT [cB] e=pure none:=by rfl):=_
def aas{ρ:aY}{M M':ba}:=_
def af3(ha:qo X (e::es) t):=_
def aot(ho:gN o td)(he:Sm ty):=_
def aNH(hn:xZ p (uc->iZ [ο 0,η p] M=aqe (zX||ti p) M (.ok .ai M))):=_
def uV{p:Addr}:=_
def DZ gI(t:gj):=_
def pF(i:Int):=_
def pG(I:au3):=_
def pH(h:u0):=_
def azF(hc:b_ [ο 0,η i] M=So .ok .ai):=_
def azG(Ds:ayF (H x))(he:e=x\/H e=zm x):=_
def KO(lo hi:eH):=_
def GR{st:Stmt}:=_
def aNI(kL:Eb (e::es)=ab2::aEF:=by rfl)(i8:Yu (Yv es).any:=by rfl):=_
def aou(ho:ak4 o)(he:iP e dk):=_
def oF(B:cF):=_
def azH(x:Bb P w outer H s e cls H' s'):=_
def azI(A:awN C g0 g1 g2 g3 n_ n! n? oh):=_
def azJ(h1:Ek M = El)(h2:Ej M = G5):=_
def aat{f:α->ba->ak0}:=_
def aau(eh:au9 k 3 q8):=_
def aav{b:Addr}{o:Obj}:=_
def aNJ(hi:ab9:=by rfl)(hx:avc x:=by first | exact apJ | exact aAm):=_
def qv(s:Nat):=_
def af4 bX(g:ub H a y o):=_
def KP{kvs:Sg}{aJ:Ea}(h:Sh):=_
def nt(x:ak):=_
def aNK(hs:G4 (Yx (e::es)).map=acj e::G4 (Yx es).map:=by rfl):=_
def aNL(k:∀b u,b≠e->tw=dG->zf=dG)(alk:∃u,h'.get? e=dG):=_
def ao1 gu(pins:gr):=_
def D0{pos:Pos}:=_
def kQ{K:ff}:=_
def GS(S:aQK):=_
def azK(X:ab8)(I:ae5 s.heap x dx C mA):=_
def aNM(hg:∀C fp s0 H0,uP (wm X scope N C fp s0 H0) cB g)(hi:∀C fp s0 H0,é (wm X scope N C fp s0 H0) tt)(he:∀C fp s0 H0,A4 (wm X scope N C fp s0 H0) elt te):=_
def aNN(hg:∀C fp s0 H0,Z_ (wm X scope N C fp s0 H0) cB g)(hi:∀C fp s0 H0,ay3 (wm X scope N C fp s0 H0) ifs tc)(he:∀C fp s0 H0,aKW (wm X scope N C fp s0 H0) Gw elt d):=_
def ao2(DJ:YA r us)(aS:agg):=_
def zc{ds:tu}:=_
def zd(hi:Ec):=_
def Pf{outer:D?}:=_
def Pg{live:Bool}:=_
def azL{loose ends:fX}{m0 many:Nat}:=_
def aNO(hc:b_ [ο 0,η i] M=Bx (K? i) .ok .ai (bP C.dN M)):=_
def tf(p:Nat):=_
def af5(hd:a2f n .aj Y):=_
def af6{es:a2c}{ep:Nat}:=_
def Ph lK(l:tv):=_
def O5 lK(d:Eg):=_
def ao3(OJ:acg (YB es ep)):=_
def azM(g0 g1 g2 g3 n_ n! n? oh:D1):=_
def qw(k:κ):=_
def aNP(he:aOR Su=(false,eval e₀ oJ)::aOR rest:=by rfl):=_
def l?(d:bz):=_
def mh(s:q6):=_
def ao4{kindOf:a2j Str}eS:=_
def UC aap(hg:Sj):=_
def GU(u:Value):=_
def Bp(h:Heap):=_
def Bq{t':Nat}:=_
def Bc(hc:Yt):=_
def Bd(ns:fX):=_
def aNQ(E:OK c loose m0 many ends):=_
def uW(xs:fK):=_
def uX{ps:alD}:=_
def azN ee(h:ρ[k]? = YC av w.s):=_
def ao5(Km:au4:=by decide):=_
def ao6(wM:i! nm)(ha:oD a):=_
def af7(e:Int->α->ak):=_
def aNR K3(yU:u6 x ("__classdict__" : Str):=by decide):=_
def O6{N ps:gM}:=_
def azO(hn:avb x :=by decide)K3:=_
def af8 nq{aG:St->d8}:=_
def UD(aG:St->d8):=_
def D3(bl:ab3):=_
def ao7(r:V->dw->aR->jT):=_
def ao8(hi:ab9)(hx:avc x):=_
def ao9(hg:K8)(hm:apx x):=_
def apa{f:Addr}{cd:Value}:=_
def apb(f:A->P)(ls:qA A):=_
def azP(hw:aQO)(OI:aeQ kM):=_
def wZ(f:Str):=_
def w4{vs:dw}:=_
def w5(s:u5):=_
def azQ(e:H a=æ C)(c:Mo X.K C):=_
def KQ{kvs:au6}:=_
def af9(S:a6q N):=_
def KR{res:lN}:=_
def KS(i x:Int):=_
def aNS(hm:dj (lastMarks [op,Z?] [b,c]):=by rw[aAg]):=_
def aNT(hk:d7 ρ M2=.ok k bq)(hp:aO (Dz x k y bq) M'):=_
def aNU(hl:aAj)(h1:apI i (o i≠.qe->M'[i]? = M[i]?)):=_
def aNV(aKy:aAb (di n av3) (ach y py) apos.line=Yy:=by rfl)(hdx:au4:=by decide)(hdn:u6 n ("__debug__" : Str):=by decide):=_
def UE{kvs:Ea}{vs:aOP}(r:Yw):=_
def UG(ρ:aY)dY:=_
def aaw{enc:α->ak}:=_
def pI{Q:afq}:=_
def aga(ha:s6 X a tA):=_
def agb(g:κ->α->β):=_
def agc(Q:iO)(E:iO):=_
def agd{ρ:aY}{σ:St}:=_
def age(f:Bu)(S:K7):=_
def Be aza aox:=_
def aNW(h:apG σ H x (tb σ H1 (mz y (R x y H2)))):=_
def afu iM{a b:Addr}:=_
def afv bX(hf:acd H):=_
def afw rJ(hu:az9 1):=_
def aax(rs:ef)kj:=_
def apc{xs:apy}(r:apA H):=_
def apd(st:Stmt)(ps:gM):=_
def ape d9(h:acf y k y):=_
def GV{e:Expr}:=_
def GW{b:Bool}:=_
def azR(hr:rN (A.deeper oJ)):=_
def azS(avr:∀r∈us,oG∈U):=_
def azT(prog:Program)(w:World):=_
def azU{prog:Program}{w:World}:=_
def azV(I:agh W)(S:aEH (As Y)):=_
def aay{body:K9}:=_
def aNX(k:∀ρ' M',R xs ρ' M'->Q (.nx ρ' M')):=_
def aNY(hk:u7 ρ k y)(hy:ow M y=aT (ys.map η)):=_
def aNZ(hv:dv ρ M=.ok y aa)(ho:Eo aa=.ok x M2):=_
def afx(Q:Bool->dZ):=_
def afy(ho:gN o to):=_
def afz{d:Bs}{k:κ}:=_
def O7{pins:gr}:=_
def O8{kvs:qz}:=_
def D4 dX à:=_
def rK(p:fy):=_
def rL{s:q6}:=_
def azW{ρ:aY}{f:α->ba->Out}:=_
def aaz(uv:a2a mW):=_
def Bf(us:b3):=_
def Bg{us:b3}:=_
def aN0(h1:G4 (Yx [cB]).map=[acj cB]:=by rfl):=_
def Bh{Q:Ed}:=_
def Bj{p:Nat}:=_
def aN1(hp:∀p:fy,dQ agm M=.ok (.ah (uA p)) M):=_
def afA(kvs:Ea)qw:=_
def aN2(i:∀v σ H Q,t' v σ H Q->t v σ H Q):=_
def azX(hd:dH=.ok (ο 0) M):=_
def w6{o:fu}:=_
def KU(ok:Si):=_
def KV(c:Addr):=_
def KW(ds:tu):=_
def KX(hr:lM):=_
def aN3(aRB:j∈(eV a).js)(aFi:j∈(eV b).js):=_
def apf(e:H a=nu .dT):=_
def apg(h:M[n]? = h7):=_
def aph(Th:apw k 1 Dh):=_
def api(ι:c5)(S H:aR):=_
def apj{ι:c5}{S H:aR}:=_
def aNe(hc:b_ [ο 0,η i] M=ç i .ok .ai M):=_
def aNf{r r':V->eH->eH->aR->jT}(h:Gv X r):=_
def aNg(avq:aOX X :=by rfl)(alm:K8:=by rfl):=_
def afB{m:Str->gK}:=_
def afC(gk bR:Addr):=_
def afD(enc:α->ak):=_
def D5{k:Key}:=_
def D6(vs:dw):=_
def D7{d7:rj}:=_
def apk gJ(K:aKZ Y W):=_
def azY(s:s7 C Y M B W o j):=_
def azZ(aFh:aAc z k bR 2 dA):=_
def az0(hn:agf)(hl:apz K_):=_
def wW(t:TB):=_
def uY{w:fU}:=_
def UH{env:Env}:=_
def aaA{op:CmpOp}:=_
def aaB(hm:aFL p9):=_
def aaC(S:aEH Dv):=_
def aNh(hs:apC e (ach x pos')=Yy:=by rfl):=_
def aNi(hn:aL (wQ Y W x t (dm (cg t')) r)):=_
def aNj(hi:Sq=.ok (apB,w) M')(hc:uF w M'):=_
def aNk(X:K.In hp)(G:hp.Ns mainGlobals mg):=_
def aNl(h:dH=bP c M')(q:Q (bP c ρ M')):=_
def aNm{res:UT}(h0:∀G,Ul C Y (M++G) tk):=_
def aNn(pf:apE o "values"=G3:=by rfl)aaq:=_
def aNo(h0:∀S F,Ul C Y (eU S F) tk)azP:=_
def aNp(i8:Yu (agD dc rest).any:=by rfl):=_
def aNq(hs:aOW sl vl vu)(pl:IsPart vl lo):=_
def O9(gg:tv):=_
def O_(ha:aEE):=_
def O!(l0:au7):=_
def aNr(pf:apE o "items"=G3:=by rfl)aaq:=_
def apl{qual:Str}af2:=_
def az1(D:cO x st ps)af9:=_
def az2 afY(bl:zh (kV k)):=_
def az3(hb:Binds X.K fd ps ds)(hd:Vals DK ds)(hx:aGG fT X aG):=_
def az4 fz(h:r<rs.length):=_
def apm dX(I:aGy Y W):=_
def apn ee(hk:aci k):=_
def apo gJ(sT:a2i r):=_
def GX{fp:c5}:=_
def GY{f:Str}:=_
def GZ(h:w!):=_
def G0(R:aQN):=_
def KY DX{mg:Str->gK}{base:Heap}:=_
def Uu aov kP jR(E:d8):=_
def aNs(i:∀D σ H,t' D σ H->t D σ H):=_
def afE(FT:a2d v_):=_
def aNt azd(amT:Yu (YG es).any:=by rfl):=_
def azg(bj fo gk i6:Addr):=_
def azh(i j:Int)(t u:Tok):=_
def azi(d:ä)(ha:aAf []):=_
def aNu(Ti:En (k+1) "is_at_border" JU):=_
def aNv(pa:PlainAttrs T)(slot:aOS T id):=_
def aNw(hdr:aHK C Y Kx)(hti:a4X C Y yV):=_
def aNx GQ(hi:Sq=.ok (xs,Lc .ij) aa):=_
def apq(fd:FuncData):=_
def apr(hs:aKD C gs):=_
def aoB(ht:axi C gt):=_
def aoC(Tf:apv k Dg):=_
def aoD(fA:aAa k Di):=_
def aoE(ι:c5)(S:aR):=_
def ze(Q:afq):=_
def aNy(k:∀b o,b∉fp->kr->zf=cv):=_
def aNz{gt g0 g1 g2 g3 n_ n! n? oh:D1}:=_
def aNA{loose:gM}{XP:(Str->gK)->aAD}:=_
def aNB{id:String}(slot:aOS "list" id):=_
def aNC{b:nC P}(hS:gb S (dj (b p))):=_
def mj{v:V}:=_
def aoF{M:Model}uU{E:iO}:=_
def aoG(e:Value)KL:=_
def aND aay{np py av3 apos ay1 pos:Pos}:=_
def azj fW{s r:Nat}:=_
def azk(S:agE N ps scope):=_
def azl(hr:JY (k+1) X.A):=_
def azm{w:qj}{R:aY->agj}:=_
def azn{lC:D1}(hr:aFx lC):=_
def azo{locks:tv}{t:gj}:=_
def aaD(v:Value):=_
def aaa(G:ava X):=_
def aab{a b:Nat}:=_
def aac(D:Due W):=_
def KZ(xs:dw):=_
def K0(j:Nat):=_
def K1(M':ba):=_
def K2{M':ba}:=_
def aM4(F:uG P w K mg base j C m n g):=_
def aM5(F:sU P w K mg base j x C n g):=_
def aM6{r r':dw->aR->jT}(h:Y7 X f r):=_
def aM7(hm:wL X id (Ss f))(ho:ak4 o):=_
def aM8(hg:a2m)(hf:(a17).Sublist mT):=_
def O? jR rE:=_
def Pa nq Bo:=_
def Pj d9 ck:=_
def Pk rD dY:=_
def Pn K4 GS:=_
def UI(e:Expr):=_
def UJ(xs:qy):=_
def UK{xs:qy}:=_
def UL{ns:fX}:=_
def aM9(dy:ê H' h')(hg:AllBare g'):=_
def Bk{E:d8}:=_
def afF(hu:a2e 1):=_
def afG(X:ano K C):=_
def afH(e:ak5 α):=_
def aNa bX(k:∀b u,Lb u->zf=dG):=_
def aad{y:V}qs:=_
def azp(hn:aO l.most n):=_
def azq(ho:agi (Ei f)):=_
def azr(h:az8 2\/az8 3):=_
def azs(v:fV)(hu:v.s=u):=_
def aNb(ac5 adJ adY adZ aef ZW aeg aeh:D1):=_
def aNc(Q:ayJ C Y OO Gy yV avn avl):=_
def aNd{C:Int->apL}{g:Int->Int->ak}:=_
def aOp{a b c d:Addr}{x y z u:Bool}:=_
def azt{x qual:Str}GR:=_
def aoH(lo:Int)dh:=_
def aoI aom{ps:gM}:=_
def aoJ dh(way:fU):=_
def aoK lK(f:Bool):=_
def aOq(hs:apC e none=Yy:=by rfl):=_
def aOr(aFn:Uj z k bR "where" 2 Y3):=_
def Po{j:Int}:=_
def Pp(t:Int):=_
def Pq{s:Nat}:=_
def Pr{w:ef}:=_
def aOs(D:aeN K mg x C q st ps)af9:=_
def D8{g:D1}:=_
def aOt dz(dg:c5->aR->α->cS β):=_
def azu{R:Result->Bt}:=_
def azv(M:Un K mg x C):=_
def azw(F4:aAd k 4 Ax):=_
def azx(res:lN)(k:qn):=_
def azy{f:A->P}{S:mR}:=_
def aOu(hdf:d.params.defaults=[]):=_
def aOv(hn:ds.length+1=n:=by rfl):=_
def aOw(alB:eY "signal_ahead" acC):=_
def aOx{pl:aAC}{Q:Value×b3->Bt}:=_
def aOy(hk:gN k tk)(hv:gN v yN):=_
def aOz(rx:aAi x d bs)(ON:aOU xs):=_
def aOA{v₁ v₂:Expr}{rest:dI}:=_
def aOB(hc:axt C b_)(hu:aKi C gc):=_
def UM dz nk:=_
def UN kj ew:=_
def UO oF gI:=_
def UP kj gI:=_
def aok w7 gI:=_
def azz w6(h:La H a):=_
def azA bk{nx:P->mq}:=_
def aoL(AX:Yz bz):=_
def aoM(T:Bw M t):=_
def aoN{y z w:pJ}:=_
def aoO(sL:a2h fi):=_
def aae(he:az7):=_
def aaf(aq:u5):=_
def aag(he:ak2):=_
def aah{x y:ak}:=_
def aai{tk:Int}:=_
def aaj(A2:az5):=_
def aaE{i!:ak1}:=_
def aaF(hw:aQO):=_
def aOC{b_ gs gt bG o9 gc bQ:D1}:=_
def aOD(kV doc pm:Value)(an:US):=_
def aOE(hl:agl)(hf:Dw f y fs=DN):=_
def aOF(hca:axi C acD)(OI:aeQ kM):=_
def afI{v:Value}:=_
def afJ{h':Heap}:=_
def afK{j k:Nat}:=_
def afL(h:j≤k):=_
def afM(kvs:rM):=_
def afN(h:ace M):=_
def afO{kvs:rM}:=_
def aoP ao1(σ:St):=_
def aoQ wY(h:jw):=_
def aoR pA(h:gO):=_
def aOG afT(hm:apH op b:=by rfl):=_
def aoS K5(v:α)(k':κ):=_
def aoT gV{v':fu}:=_
def aOH azj(h:aO (sP Y W x s) r):=_
def aoU rD(a:fO):=_
def G1{g:AY}:=_
def azB(hc:ayd C Y b_):=_
def azC(ht:aHw C Y gt):=_
def azD{a:α}{as:qy}:=_
def aOI(r:V->eH->eH->aR->jT):=_
def aOJ(F:Sv P w K mg j x n g):=_
def aOK{vl vu:Value}{lo hi:eH}:=_
def aOL{j o:Int}(hn:p.js.Nodup):=_
def aOM(hk:agn x k)(hv:pS Ep):=_
def azE dz(T:String):=_
def aON(D:aeM K C m q st ps)af9:=_
def aOO(I:ae7 c ps loose m0)aNQ:=_
def afP oE(x:V):=_
def afQ nt(v:V):=_
def aN4 bk(h:dH=.ok (η n) M):=_
def aN5 ee(h:oH=pre++k::post):=_
def UQ(te:TE):=_
def Uv{P:aOQ}:=_
def Uw(l:tv):=_
def Ux(d:ab4):=_
def aN6(F:Gx K x qual st f fd):=_
def aN7(ho:Eo M=.ok (ο n) M):=_
def aN8(T:Gi Y.rs aAl locks t):=_
def aN9(hd:dH=.ok (ς apB) M):=_
def aOa(alL:eY "pieces_at" ac3):=_
def aOb(al8:eY "_law_held" adG):=_
def aOc(al9:eY "_law_near" adH):=_
def aOd(amj:eY "_law_free" adI):=_
def aOe(hg:K8)(hm:X.mg x=dG):=_
def aOf(hi:Sn ι p)(hS:UR p):=_
def aoV(ta tb:TE):=_
def aoW{xs ys:fK}:=_
def aoX(da db:bz):=_
def aoY{d:PyData}:=_
def aoZ(neg:Bool):=_
def ao0(wait:Int):=_
def aoy(d:Bv α):=_
def aoz(d:Sl α):=_
def aoA{en:qA P}:=_
def aps(hb:∀M aok,bG [xd,η a,η x] M=.ok (bu (Sk x)) M):=_
def aOg(hb:∀aoj Uu,rN (å q f)->Good (K! q) (λ_=>E) →
   â (K! q) (λ_=>E) d):=_
def aOh(hu:∀wW M',Ek M' = El->Ej M' = G5->Ld->gc [ku] M'=.ok (bU Sp) M'):=_
def aOi(hs:∀M' ew,M'[0]? = Er Hj->lM->gs [ο 0,η r] M'=.ok (η bZ) M'):=_
def aOj(hb:∀w7 rD,bG [xd,η a,η j] M=.ok (.ah (Sk j).isNone) M):=_
def aOk(hb:∀aoj Uu,rN (å q f) →
   â (K! q) (λ_=>E) d):=_
def aOl(hs:∀M B ew,u0->lM->gs [ο 0,η r] M=.ok (η bZ) M):=_
def aOm(hb:∀w7 rD,bG [xd,η a,η j] M=.ok (bu (Sk j)) M):=_
def aOn(hw:∀M B ew,u0->lM->bQ [ο 0,η r] M=.ok kW M):=_
def aOo(hi:∀dh rE,xe->Sn ι' a):=_
end
def ZqT:=Std.HashMap Lean.Name (Nat×Array Lean.Name×Array Lean.Syntax)
def ZqH:Lean.Syntax->Option (Lean.Name×Array Lean.Syntax)
|.ident _ _ x _=>some (x,#[])
|.node _ ``Lean.Parser.Term.app as=>match as[0]! with
 |.ident _ _ x _=>some (x,as[1]!.getArgs)
 |_=>none
|_=>none
def ZqW (s:Lean.Syntax):Nat×Lean.Syntax:=
 if s.getKind==``Lean.Parser.Tactic.rwSeq&&s[2][1].getNumArgs==1 then (1,s[2][1][0][1]) else if s.getKind==`Lean.Parser.Tactic.rcasesPat.one then (2,s[0]) else (0,s)
def ZqG (D:ZqT):Nat->List (Lean.Name×Array Lean.Syntax)->Lean.Syntax->Array Lean.Syntax
|0,_,s=>#[s]
|n+1,E,s=>
 let (w,t):=ZqW s
 if s.isOfKind ``Lean.Parser.Term.paren&&(match ZqH s[1] with
  |some (x,as)=>(match Std.HashMap.get? D x with
   |some (0,ps,_)=>as.size==ps.size
   |_=>false)
  |_=>false) then ZqG D n E s[1] else
 let g:=match ZqH t with
  |some (x,as)=>match (if as.isEmpty&&w==0 then E.lookup x else none) with
   |some r=>some r
   |none=>match Std.HashMap.get? D x with
    |some (v,ps,b)=>if !(v==w)||as.size<ps.size then none else
     let a:=as.map (ZqG D n E)
     let b:=b.flatMap (ZqG D n (ps.toList.zip a.toList))
     if as.size==ps.size then some b else some #[.node .none ``Lean.Parser.Term.app #[b[0]!,.node .none Lean.nullKind ((a.extract ps.size).flatMap id)]]
    |_=>none
  |_=>none
 let f:=fun (s:Lean.Syntax)=>if s.isOfKind ``Lean.Parser.Term.app&&s[0].isOfKind ``Lean.Parser.Term.app then s.setArgs #[s[0][0],.node .none Lean.nullKind (s[0][1].getArgs++s[1].getArgs)] else s
 match g with
 |some r=>r.map f
 |none=>match s with
  |.node i k as=>#[f (.node i k (as.flatMap (ZqG D n E)))]
  |_=>#[s]
def ZqC:Nat->Lean.Syntax->Lean.Syntax
|0,s=>s
|n+1,s=>
 if s.isOfKind ``Lean.Parser.Command.universe then .node .none ``Lean.Parser.Command.end #[Lean.mkAtom "end",.node .none Lean.nullKind (if s[1][0].getId==`zE then #[] else #[s[1][0],.node .none Lean.nullKind #[]])]
 else if s.isOfKind ``Lean.Parser.Command.in then s.setArg 2 (ZqC n s[2])
 else if s.isOfKind ``Lean.Parser.Command.declaration&&(s[0].getArgs.extract 2).all (·.getNumArgs==0) then
  let d:=s[1]
  if d.isOfKind ``Lean.Parser.Command.definition then s.setArg 1 (.node .none ``Lean.Parser.Command.theorem #[Lean.mkAtom "theorem",d[1],.node .none ``Lean.Parser.Command.declSig #[d[2][0],d[2][1][0]],d[3]])
  else if d.isOfKind ``Lean.Parser.Command.abbrev then s.setArgs #[s[0].setArg 4 (.node .none Lean.nullKind #[.node .none ``Lean.Parser.Command.noncomputable #[Lean.mkAtom "noncomputable"]]),.node .none ``Lean.Parser.Command.definition #[Lean.mkAtom "def",d[1],d[2],d[3],.node .none Lean.nullKind #[]]]
  else s
 else s
def ZqI (s:String):Lean.Name:=(s.splitOn "\t").foldl Lean.Name.mkStr .anonymous
def ZqP (s:String):Array Lean.Syntax:=
 let f:=fun (x:Lean.Syntax) (S:List (Lean.Name×Array Lean.Syntax))=>match S with
  |(k,a)::S=>(k,a.push x)::S
  |[]=>[]
 let r:=(s.splitOn "\n").foldl (fun (S:List (Lean.Name×Array Lean.Syntax)) t=>
  let u:=(t.drop 1).toString
  match t.front with
  |'('=>
   let v:=(u.drop 1).toString
   ((match u.front with
   |'n'=>Lean.nullKind
   |'t'=>.str `Lean.Parser.Term v
   |'c'=>.str `Lean.Parser.Tactic v
   |_=>ZqI v),#[])::S
  |')'=>match S with
   |(k,a)::S=>f (.node .none k a) S
   |[]=>[]
  |'\''=>f (.atom .none u) S
  |'.'=>f (.ident .none u.toRawSubstring (if u=="" then .anonymous else ZqI u) []) S
  |'?'=>f .missing S
  |_=>S) [(.anonymous,#[])]
 match r with
 |(_,a)::_=>a
 |[]=>#[]
def ZqB (cs:Array Lean.Syntax):ZqT:=cs.foldl (λ D c=>let b:=c[2]
  let p:=c[1].getArgs
  let q:=p.map (·.getId)
  D.insert c[0].getId (if b.isOfKind ``Lean.Parser.Term.byTactic then (1,q,b[1][0][0].getArgs) else if b.isOfKind ``Lean.Parser.Term.hole then (0,#[],p) else (0,q,#[b]))) (Std.HashMap.emptyWithCapacity 4096)
def ZqE (D:ZqT) (cs:Array Lean.Syntax):Array Lean.Syntax:=cs.flatMap λ c=>(ZqG D 100000 [] c).map (ZqC 9)
local macro_rules
|`(mutual $cs* end)=>do
 if !cs[0]!.raw.isOfKind ``Lean.Parser.Command.section then Lean.Macro.throwUnsupported
 return .node .none Lean.nullKind (ZqE (ZqB (ZqP ZqD)) (cs.map (·.raw)))
mutual
section
namespace L2
open PySem PySem.Spec PyProof.Rows
noncomputable abbrev Key:=Sum Int Str
abbrev awH:Key->E3 Bool
 |Ω k,v=>Value.isInt k v
 |ay x,v=>Value.isStrOf x v
abbrev a5o(w:World):Key->Int
 |Ω k=>hashInt k
 |ay x=>hashStr w x
def Dm:∀D5 afI,aa3 k v->(∃i t,k=Sum.inl i/\v=Ô t)\/(∃x t,k=Sum.inr x/\v=Õ t)
 |Ω i,v,h=>by
  rw[eg t e (Value.isInt_shape (k:=i) (v:=v) h) (Ω (yh i t e))]
 |ay x,v,h=>by
  rw[eg t e (Value.isStrOf_shape (x:=x) (v:=v) h) (ay (yh x t e))]
def aV3 pF(t:Tok):aa3 (Ω i) (η i t):=f_ awH Value.isInt
def aV4 nr(t:Tok):aa3 (ay x) (av x t):=f_ awH Value.isStrOf
def a1N(a b:Int):gS (aud:Key) aue=(a == b):=by
 rw[Dd a b]
 ·rw[zo e]
 ·have h:¬(aud:Key)=aue:=λq=>e (Sum.inl.inj q);rw[gx aBN (beq_eq_false_iff_ne.mpr e).symm]
def a1O(a b:Str):gS (Sum.inr a:Key) (Sum.inr b)=gS a b:=by
 rw[Dd a b]
 ·rw[zo e]
 ·have h:¬(Sum.inr a:Key)=Sum.inr b:=λq=>e (Sum.inr.inj q);rw[aBN,aMy]
def a1P(a:Int)(b:Str):atM (aud:Key) (Sum.inr b):=decide_eq_false (λq=>nomatch q)
def a1Q(a:Str)(b:Int):atM (Sum.inr a:Key) aue:=decide_eq_false (λq=>nomatch q)
abbrev Df azT:PySem.KeyKind prog w Key where
 is:=awH
 hash:=a5o w
 inj:=λv a b ha hb=>by
  rcases Dm ha with⟨i,t,rfl,rfl⟩ | ⟨x,t,rfl,rfl⟩
  ·rcases Dm hb with⟨j,u,rfl,e⟩ | ⟨y,u,rfl,e⟩
   ·rw[ß e e1];rw[e1]
   ·rw[aDX]
  ·rcases Dm hb with⟨j,u,rfl,e⟩ | ⟨y,u,rfl,e⟩
   ·rw[aDX]
   ·rw[ß e e1];rw[e1]
 byValue:=λk v h=>by
  rcases Dm h with⟨i,t,rfl,rfl⟩ | ⟨x,t,rfl,rfl⟩<;>rfl
 pyHash:=λhv h=>by
  rcases Dm hv with⟨i,t,rfl,rfl⟩ | ⟨x,t,rfl,rfl⟩
  ·exact wpAny_pyHash_int h
  ·exact wpAny_pyHash_str h
 eqBool:=λhu hv h=>by
  rcases Dm hu with⟨i,t,rfl,rfl⟩ | ⟨x,t,rfl,rfl⟩
  ·rcases Dm hv with⟨j,u,rfl,rfl⟩ | ⟨y,u,rfl,rfl⟩
   ·rw[bF a1N h (wpAny_eqBool_int h)]
   ·rw[bF a1P h (SeqAt.EqAt.int_str i t y u _ _ _ _ h)]
  ·rcases Dm hv with⟨j,u,rfl,rfl⟩ | ⟨y,u,rfl,rfl⟩
   ·rw[bF a1Q h (SeqAt.EqAt.str_int x t j u _ _ _ _ h)]
   ·rw[bF a1O h (wpAny_eqBool_str h)]
 «strs»:=λk x t v h=>by
  rcases Dm h with⟨i,u,rfl,e⟩ | ⟨y,u,rfl,e⟩
  ·rw[aDX]
  ·rw[ß e e1];subst e1;cases v<;>rfl
def aUf azT pF(t:Tok):aL ((Df prog w).is (Ω i) (η i t)):=aV3 i t
def aUg azT nr(t:Tok):aL ((Df prog w).is (ay x) (av x t)):=aV4 x t
universe L2
namespace L2
open PySem PySem.Spec PyProof.Rows
inductive V where
 |ai | ah(b:Bool) | int pF | str nr | acq(b:Array UInt8) | acy(b:UInt64) | ref rE | ty(n:String)
 deriving DecidableEq
abbrev RelV:V->cS Value
 |.ai,u=>u=Value.none
 |.ah b,u=>u=Value.bool b
 |η i,u=>∃t,u=Ô t
 |av x,u=>∃t,u=Õ t
 |.acq b,u=>∃t,u=Value.bytes b t
 |.acy b,u=>∃t,u=Value.float b t
 |Δ a,u=>u=Ip
 |.ty n,u=>u=Value.type n
noncomputable abbrev Vals:dw->cS b3:=Paired RelV
def Vals.length GP(r:vC):ź us.length:=aBH
def Vals.get:∀GP gV{x:V},vC->zu->∃u,jl us u/\zh x
 |_,_,_,_,c_,e=>Lh e
 |_,_,0,_,bW r _,e=>by rw[L1 e e];exact h! _ r
 |_,_,i+1,x,bW _ t,e=>by
  rw[RE u (Vals.get (i:=i) (x:=x) t (aX e)) u (aX h1) h2]
def Vals.set{x:V}qs(r:zh x):∀GP iy,vC->Iq (xs.set i x) (us.set i u)
 |_,_,_,c_=>c_
 |_,_,0,bW _ t=>bW r t
 |_,_,i+1,bW q t=>bW q (Vals.set r i t)
def Vals.append:∀{xs ys:dw}{us ws:b3},vC->Vals ys ws->Iq (xs++ys) (us++ws)
 |_,_,_,_,c_,s=>s
 |_,_,_,_,bW r t,s=>bW r (Vals.append t s)
def Vals.take:∀GP dh,vC->Iq (xs.take n) (us.take n)
 |_,_,0,_=>c_
 |_,_,_+1,c_=>c_
 |_,_,n+1,bW r t=>bW r (Vals.take n t)
def Vals.drop:∀GP dh,vC->Iq (xs.drop n) (us.drop n)
 |_,_,0,r=>r
 |_,_,_+1,c_=>c_
 |_,_,n+1,bW _ t=>Vals.drop n t
abbrev sR:HW->cS gK
 |qH,dG=>nW
 |none,none=>True
 |_,_=>False
abbrev jQ tg:Ea->cS aOP:=Paired fun(p:κ×V) (q:κ×Value)=>p.1=q.1/\RelV p.2 q.2
abbrev kV:Key->V
 |Ω i=>η i
 |ay x=>av x
inductive jg where
 |lst KZ
 |tup KZ
 |bL(kvs:qz) | dT(kvs:au6)
 |set(S:apL)dh
 |ins(C dx:Addr)(fs:Ce)
 |own(x:Addr)
 |amH(fs:Ce)
 |met(f x:Addr)
 |qm(lo hi:Int)
 |cz(o:Obj)(u:jg)
 |wd(ps:Qi)
 |ext(φ:aAD)
noncomputable abbrev aR:=zT Addr jg
abbrev upd O?(o:jg):aR:=MU b b a cv (H b)
def g8 iM jh{o:jg}:upd H a o a=cv:=by rw[dO upd ek]
def kR afu{o:jg}(h:b≠a):upd H a o b=H b:=by rw[dO upd zH]
def aLs afu{o u:jg}(h:H a=cv)(h':H b=dG)(d:o≠u):a≠b:=by
 intro e;rw[ahS e h h' (d (Option.some.inj h'))]
def cq afu{o:jg}(h:H a=cv)(h':jX):a≠b:=by
 intro e;rw[xK e h h'];cases h'
section
variable (P:Program) (w:World)
abbrev sO jR Bp rE:cS jg
 |ς xs=>Md/\∃(aC:b3) (n:Nat),Yc/\Ik a (Mt (oZ aC.toArray n))
 |aW xs=>Md/\∃aC:b3,Yc/\IsTup h a aC.toArray
 |.bL kvs=>Sw/\HO a/\∃vs,Yw/\h.DictOf (Df P w) a vs
 |.dT kvs=>Sw/\HO a/\∃xs:apy,
   Paired (fun(p:pL×V) (q:pL×Addr×Value)=>p.1=q.1/\H q.2.1=vR (p.1.map kV)/\RelV p.2 q.2.2) kvs xs ∧
   ∃o es ep,ES=cv/\o.ExactDict/\o.data=YB es ep/\es.toList=xs.map (entryOfKey (aj7 P w))/\gE (xs.map (·.1))
 |iW S n=>h.SetOf (intKind P w) a S n
 |dD C dx fs=>H dx=zm a/\aML/\dx≠a/\ES=aT (aCk C) ∧
   ∃mA,auS dx/\(∀f,sR Qj (mA f))/\aBI ars
 |.own _=>∃o,ES=cv
 |.amH fs=>∃mA,auS a/\∀f,sR Qj (mA f)
 |.qm lo hi=>∃t u v,Ik a (abv (d5 "range") #[η lo t,η hi u,η 1 v])
 |.cz o u=>ES=cv/\sO H h a u
 |.wd ps=>Ik a (abv cT ps)
 |.met f x=>ES=aBz (Δ f) (Δ x)
 |.ext φ=>φ h/\(∃o,ES=cv)/\∀h1 h2:Heap,φ h1->(∀o,h1.get? a=cv->h2.get? a=cv)->φ h2
abbrev TL jR Bp:Prop:=∀a o,H a=cv->sO P w H h a o
universe zE
section
variable {P:Program}{w:World}{H H':aR}{h h':Heap}{a:Addr}{o:jg}
def sO.lt(x:sO P w H h a o):aCZ a:=by
 cases o with
 |lst xs=>obtain⟨_,_,_,_,e⟩:=x;exact mE
 |tup xs=>rw[ara p x p.lt]
 |bL kvs=>rw[Ã e x];exact mE
 |dT kvs=>rw[Ã e x];exact mE
 |set S n=>rw[aBU e x];exact mE
 |ins C dx fs=>obtain⟨_,_,_,e,_⟩:=x;exact mE
 |own y=>obtain⟨_,e⟩:=x;exact mE
 |amH fs=>obtain⟨_,⟨_,_,_,e,_⟩,_⟩:=x;exact mE
 |qm lo hi=>rw[ara e x mE]
 |cz ob u=>obtain⟨e,_⟩:=x;exact mE
 |wd ps=>exact Heap.lt_size (mH ES vB x)
 |met f y=>exact Heap.lt_size (mH ES vB x)
 |ext φ=>obtain⟨_,⟨_,e⟩,_⟩:=x;exact mE
def Paired.aKk rF{F G:α->cS β}:∀{l₁:qy}{l₂:ajI},Paired F l₁ l₂->(∀a b,F a b->G a b)->Paired G l₁ l₂
 |_,_,c_,_=>c_
 |_,_,bW r t,f=>bW (f _ _ r) (Paired.aKk t f)
def sO.xi(x:sO P w H h a o)(k:∀b u,(b=a\/H b=zm a)->tw=dG->zf=dG)
  (ho:∀b,H b=zm a->H' b=zm a)(ht:∀b xs,H b=vD->H' b=vD):sO P w H' h' a o:=by
 induction o with
 |lst xs=>rw[vf z aC n r e x z aC n r (k _ _ (Ω rfl) e)]
 |tup xs=>rw[WA z aC r ob e c x ⟨z,aC,r,ob,k _ _ (Ω rfl) e,c⟩]
 |bL kvs=>obtain⟨z,y,vs,r,ob,es,ep,e,c⟩:=x;exact⟨z,y,vs,r,ob,es,ep,k _ _ (Ω rfl) e,c⟩
 |dT kvs=>
  obtain⟨z,y,xs,r,ob,es,ep,e,c⟩:=x;exact⟨z,y,xs,asa r p q z ⟨z.1,ht _ _ z.2.1,z.2.2⟩,ob,es,ep,k _ _ (Ω rfl) e,c⟩
 |set S n=>rw[WA ob es ep t e c x ⟨ob,es,ep,t,k _ _ (Ω rfl) e,c⟩]
 |ins C dx fs=>
  obtain⟨d,z,ne,e,mA,⟨od,es,ep,e2,c⟩,r⟩:=x;exact⟨ho _ d,z,ne,k _ _ (Ω rfl) e,mA,⟨od,es,ep,k _ _ (ay d) e2,c⟩,r⟩
 |own y=>rw[mF ob e x ob (k _ _ (Ω rfl) e)]
 |amH fs=>obtain⟨mA,⟨od,es,ep,e,c⟩,r⟩:=x;rw[b5 mA ⟨od,es,ep,k _ _ (Ω rfl) e,c⟩ r]
 |qm lo hi=>rw[LM t u v e x t u v (k _ _ (Ω rfl) e)]
 |cz ob u ih=>rw[mF e q x (k _ _ (Ω rfl) e) (ih q)]
 |wd ps=>
  have e:Ik a (abv cT ps):=x;rw[RO (ĝ a (abv cT ps)) (k a _ (Ω rfl) e)]
 |met f y=>
  have e:ES=aBz (Δ f) (Δ y):=x;rw[RO (h'.get? a=aBz (Δ f) (Δ y)) (k a _ (Ω rfl) e)]
 |ext φ=>obtain⟨p,⟨o,e⟩,st⟩:=x;rw[b5 (st _ _ p λo q=>k _ _ (Ω rfl) q) ⟨o,k _ _ (Ω rfl) e⟩ st]
def TL.lt(x:Si)(e:H a=cv):aCZ a:=(x a o e).lt
def TL.fresh(x:Si)(e:aC2 a):oP a:=by
 cases q:H a with
 |none=>rfl
 |some u=>rw[n0 (agA (x.lt q) e) ò]
def TL.kept(x:Si)aor:FI H h':=λa o e=>
 (x a o e).xi (λb u _ q=>k b u q) (cK q q) λ_ _ q=>q
def TL.laid(x:Si)aor(hp:aC2 a)(new:sO P w (Cf a) h' a o):FI (Cf a) h':=λb u e=>by
 have hn:=x.fresh hp;rw[vt (b=a)]
 ·rw[RG e];cases e;exact new
 ·rw[E7]at e
  exact(x b u e).xi (λc v _ q=>k c v q) (λc q=>by rw[JQ hn]) (v3 c q (by rw[JQ hn]))
universe zE
abbrev uQ O?(u:jg):Prop:=H a=dG\/∃o,H a=sf .cz u
def uQ.ok uT iM s9 jh{u:jg}(r:uQ H a u)(x:Si):sO P w H h a u:=by
 rcases r with r | ⟨o,r⟩
 ·exact x a u r
 ·obtain⟨_,q⟩:=x a _ r;exact q
abbrev ayF:cS (Option jg)
 |vM _=>True
 |eL .bL _=>True
 |eL .dT _=>True
 |qU iW _ _=>True
 |aT (dD _ _ _)=>True
 |eL .ext _=>True
 |_=>False
section
variable {P:Program}{w:World}{H:aR}{h h':Heap}{x e:Addr}{o':jg}
def TL.write KU azG aNL
  (new:sO P w (qW x o') h' x o'):FI (qW x o') h':=λb u q=>by
 rw[bM aQm (∀c y,H c=zm y->c≠x) (λc y r z=>by rw[ahS z r Ds Ds]) a5p (∀c xs,H c=vD->c≠x) (λc xs r z=>by rw[ahS z r Ds Ds])]
 rw[vt (b=x)]
 ·rw[RG q];cases q;exact new
 ·rw[E7]at q;by_cases Ky:b=e
  ·rw[pY q' (H b=zm x) (by
    rcases he with z | z
    ·rw[n0 (Ky.trans z) hb]
    ·rw[au Ky z]) q q'];cases q';rw[mF v hv alk v (by rw[au Ky hv])]
  ·refine(ok b u q).xi (λc v hc r=>k c v ?_ r) (λc r=>by rw[gY (aQm c b r) r]) (v3 c r (by rw[gY (a5p c xs r) r]))
   rcases hc with rfl | hc
   ·exact Ky
   ·rintro rfl;rcases he with z | z
    ·exact aQm c b hc z
    ·rw[hc]at z;cases z;exact hb rfl
universe zE
structure iL(fs ex:c5)(H H':aR)(h h':Heap):Prop where
 keep:∀b o,tw=cv->jX->b∉fs->b∉ex->zf=cv
 slot:∀b o,tw=cv->jX->b∈fs->b∉ex->∃sl,aj2 (atc o sl)
 free:∀b o,tw=cv->jX->b∉ex->HB b
 there:∀b o,tw=cv->b∉ex->∃o',aj2 o'
 qc:∀b xs,H b=vD->H' b=vD
 oC:∀b o u,H b=sf .cz u->H' b=sf .cz u
 qd:∀b ps,H b=eL .wd ps->∃more,H' b=Io .wd (ps++more)
section
variable {fs DN ex ex':c5}{H H1 H2:aR}{h h1 h2 h':Heap}{a x e:Addr}{o:jg}
def iL.any(u:iL fs ex H H1 h h1){b:Addr}{ob:Obj}(q:aO tw ob)(n:jX)(hx:b∉ex):∃sl,aO atr (atc ob sl):=by
 rw[vt (b∈fs)]
 ·exact u.slot b ob q n hb hx
 ·rw[b4 ob.slots (u.keep b ob q n hb hx)]
def iL.trans(a:iL fs ex H H1 h h1)(b:iL fs ex H1 H2 h1 h2):iL fs ex H H2 h h2 where
 keep:=λc ob q n hc hx=>b.keep c ob (a.keep c ob q n hc hx) (a.free c ob q n hx) hc hx
 slot:=λc ob q n hc hx=>by
  rw[agQ sl e1 (a.slot c ob q n hc hx) ro e2 (b.slot c _ e1 (a.free c ob q n hx) hc hx) ro e2]
 free:=λc ob q n hx=>by
  rw[eg o' e1 (a.there c ob q hx) (b.free c o' e1 (a.free c ob q n hx) hx)]
 there:=λc ob q hx=>by
  rw[eg o' e1 (a.there c ob q hx) (b.there c o' e1 hx)]
 qc:=v3 c q (b.qc c xs (a.qc c xs q))
 oC:=λc ob xs q=>b.oC c ob xs (a.oC c ob xs q)
 qd:=λc ps q=>by
  rw[agQ m1 e1 (a.qd c ps q) m2 e2 (b.qd c _ e1) (m1++m2) (aAU e2)]
def iL.kept aor:iL fs ex H H h h':=
 ⟨λb ob q _ _ _=>k b ob q,λb ob q _ _ _=>⟨ob.slots,k b ob q⟩,λ_ _ _ n _=>n,λb ob q _=>⟨ob,k b ob q⟩,λ_ _ q=>q,p5 q q,abY _ ps q (by rw[fk q])⟩
def iL.refl:iL fs ex H H h h:=iL.kept λ_ _ q=>q
def iL.laid aor(hp:aC2 a)(hn:oP a):iL fs ex H (Cf a) h h' where
 keep:=λb u q _ _ _=>k b u q
 slot:=λb u q _ _ _=>⟨u.slots,k b u q⟩
 free:=λb u q n _=>by rw[gY (oK (apO q hp)) n]
 there:=λb u q _=>⟨u,k b u q⟩
 qc:=v3 b q (by rw[JQ hn])
 oC:=λb u xs q=>by rw[JQ hn]
 qd:=abY b ps q (by rw[kR (cq q hn),q];simp)
def iL.write azG aNL:iL fs ex H (Cf x) h h':=by
 rw[gv hx (∀b,jX->b≠x) (λb n z=>by rw[ahS z n Ds Ds]) hb (∀b,jX->b≠e) (λb n z=>by
  subst z;rcases he with r | r
  ·exact hx b n r
  ·rw[n]at r;cases r) hm (∀b u,H b=dG->¬ayF dG->b≠x) (λb u q nm z=>by rw[ahS z q Ds (nm Ds)])]
 refine⟨λb u q n _ _=>k b u (hb b n) q,λb u q n _ _=>⟨u.slots,k b u (hb b n) q⟩,λb u q n _=>by rw[gY (hx b n) n],i? b u q _,
  v3 b q (by rw[gY (hm b _ q (cP z)) q]),λb u xs q=>by rw[gY (hm b _ q (cP z)) q],abY b ps q (by rw[kR (hm b _ q (cP z)),q];simp)⟩
 by_cases Ky:b=e
 ·rw[f7 Ky alk]
 ·rw[b4 u (k b u Ky q)]
universe zE
abbrev OU Bp jR:c5:=akr aAQ a (nI (H a))
abbrev aeP Bp jR:Heap:=PySem.W.hideAll h (OU h H)
def aV5 Bp jR:PC (aeP h H)=h.objs.size:=PySem.W.hideAll_size _ _
def aXn s9 iM aav(e:tw=cv)(n:jX):(aeP h H).get? b=cv:=
 aqV e (λhm=>by
  have q:Aa (H b):=aAY.2;rw[nG n q q])
def aZL s9 iM aav(e:(aeP h H).get? b=cv):tw=cv/\jX:=by
 have e':tw=cv:=PySem.W.of_hideAll (OU h H) e;rw[fF e' ?_];cases q:H b with
 |none=>rfl
 |some x=>
  rw[bM hm (b∈OU h H) (apR (Heap.lt_size e') (aK q)) z (bO ((aeP h H).get? b)) (PySem.W.hideAll_none (OU h H) hm)];rw[z]at e;cases e
abbrev aZM(g h:Heap)(L:Addr):gr:=(aAQ).filterMap λa=>if a=L\/Aa (g.get? a) then none else(ES).map λo=>(a,o)
abbrev rest(g h:Heap)(L d:Addr):gr:=NH (aZM g h L) (pX p p.1 d)
universe L2
namespace L2
open PySem PySem.Spec PyProof.Rows
structure Mod Uz:Prop where
 ac4:att
 glob:arb mg
 blt:∃mb,base.Ns builtinsNs mb/\∀x:Str,avb x -> mb x=Mb
 nolimit:base.NoLimit
structure bV where
 prog:Program
 w:World
 K:ff
 mg:Str->gK
 base:Heap
 A:Around
 N:gM
 s₀:Shared
 H₀:aR
 env:Env
 outer:D?
 stack:D?
 ex:c5
 fn:nC Str
 calm:Bool
 gi:gr
 sS:iO
abbrev Dx(l:D?):c5:=l.filterMap (·.frame)
noncomputable abbrev bV.fs gu:c5:=Dx X.outer
abbrev aZO(sc:Scope)nr:Prop:=Ì xE \/ akI\/Ì k!
abbrev Loc(sc:Scope)nr:Prop:=Ì xE \/ akI
abbrev Look(env:Env)Bp(m:Str->gK)nr GU:Prop:=
 (aB8 x xE /\ m x=dG)\/((aB8 x oR\/aB8 x k!)/\∃c,SV x c/\h.IsCell c dG)
structure bV.Ok gu:Prop where
 mod:Mod X.K X.mg X.base
 kind:X.env.scope.kind=Il
 glob:X.env.globals=mainGlobals
 blt:X.env.builtins=builtinsNs
 above:ack X.env.locals
 inj:∀x y c,zg->aQc y c->x=y
 has:∀x,(SW x oR\/SW x k!)->∃c,zg
 ak8:∀x c,au8 x->zg->ack c
 hd:Yt->bO X.A.handled
 frames:aO X.A.frames X.stack
 stk:X.stack=X.outer\/(X.stack=Ź/\aDm)
 aQ3:G9 X.ex (Em b/\∀x c,zg->c≠b)
 bs:∀b o,ag7=cv->aCl=cv/\bO (X.H₀ b)
 Z9:X.base.objs.size≤X.s₀.heap.objs.size
 afa:∀b o,ag7=cv->b∉X.ex
 anY:G9 X.ex (b∉X.fs)
 AV:aO4 X.outer
 Us:G9 X.fs (bO (X.H₀ b))
structure Inv ao1(σ:z4 V)jR kP:Prop where
 ok:X.Ok
 os:s.os=X.s₀.os
 bare:aMf
 base:iL X.fs X.ex X.H₀ H X.s₀.heap s.heap
 loc:∃m,aPv m/\∀iy nr(v:V),ab9->u7 σ i v->aBJ x->∃u,nW/\Look X.env s.heap m x u
 cell:∀x c,zg->∃v,s.heap.IsCell c v
 free:oP X.env.locals
 N5:∀x c,zg->oP c
 pin:gb (X.gi++pins) (Cd p.1 p.2/\oP p.1/\Em p.1/\p.1∉X.fs/\∀v,p.2.data≠oR v)
 dy:ê H s.heap
 len:σ.length=X.N.length
section
variable {X:bV}{pins:gr}{σ:z4 V}{H H':aR}{s:Shared}{h':Heap}
def bV.Ok.a5q(ok:X.Ok)aav(e:ag7=cv):b∉X.fs:=λhb=>by
 rw[vz (ok.AV.mem hb).1 e];cases this
def Inv.bs bX:∀b o,ag7=cv->kr/\jX:=λb o e=>
 ⟨ag8 o (atu o e).1 (atu o e).2 (I.ok.a5q e) (I.ok.afa b o e),Jz (atu o e).1 (atu o e).2 (I.ok.afa b o e)⟩
def Inv.j6 bX:∀b o,ag7=cv->kr:=λb o e=>(I.bs b o e).1
def Inv.mod bX:Mod X.K X.mg X.base:=I.ok.mod
def Inv.rq bX:X.K.In s.heap:=I.ok.mod.ac4.keeps I.j6
def Inv.fr bX:∃m,Fr X.base X.env.locals s.heap m:=
 let⟨m,hn,_⟩:=I.loc
 ⟨m,hn,I.j6,aLI⟩
def Inv.lt bX:VX X.env.locals:=let⟨_,hn,_⟩:=I.loc;hn.lt
def Inv.sz bX:ack s.heap.objs.size:=S_ I.ok.above (Nat.le_of_lt I.lt)
def Inv.a5r bX jh(h:aCz a):a∉X.fs:=λhb=>by
 obtain⟨_,o,ho,_⟩:=I.ok.AV.mem hb;rw[n0 (apO ho (Nat.le_trans I.sz h)) ò]
def Inv.Kz bX:∀x c,zg->Em c:=λx c e z=>by
 obtain⟨v,o,ho,hd⟩:=Wj x e;obtain⟨m,⟨o',es,ep,wR,hd',_⟩,_⟩:=I.loc;rw[z,wR]at ho;cases ho;rw[hd']at hd;cases hd
def Inv.AV bX:aBw X.outer:=by
 rw[vI all (∀(l:D?),(G9 (Dx l) (b∈X.fs))->aO4 l->aBw l) (by
  intro l
  induction l with
  |nil=>intro _ _;trivial
  |cons env r ih=>
   intro hs hl;obtain⟨hk,⟨L,o,hf,hn,ho,hd⟩,hr⟩:=hl;have hL:L∈X.fs:=hs L (by rw[iT Dx List.filterMap_cons hf];rw[aq2]);rw[aaK sl e (ag9 L ho (I.ok.Us L hL) hL (cP (I.ok.anY L z hL))) hk ⟨L,_,hf,hn,e,hd⟩ (ih (v5 (hs b (by rw[iT Dx List.filterMap_cons hf];exact h_ hb))) hr)]) (all X.outer (cK hb hb) I.ok.AV)]
def Inv.stack bX:aBw X.stack:=by
 rcases I.ok.stk with e | ⟨e,hf⟩
 ·rw[nT I.AV]
 ·rw[e];obtain⟨m,hn,_⟩:=I.loc;rw[M3 (bW (by rw[I.ok.kind];decide) hf hn ?_ I.AV) (Heap.get?_none_of_le aLI)]
def Inv.am7 bX:G9 Mu (b∈X.env.locals::X.fs):=v5 (by
 rcases I.ok.stk with e | ⟨e,hf⟩
 ·rw[E! hb (h_ hb)]
 ·rw[e]at hb;unfold Dx at hb;rw[List.filterMap_cons,hf]at hb;exact hb)
def Inv.FC bX:G9 Mu jX:=v5 (by
 rcases List.mem_cons.mp (I.am7 b hb) with e | hb
 ·rw[nT I.free]
 ·obtain⟨_,o,ho,_⟩:=I.ok.AV.mem hb;exact Jz ho (I.ok.Us b hb) (cP (I.ok.anY b z hb)))
def Inv.step{g':aMd}Bq{d':Drawn}{ch:c5}bX
  azb
  (keep:∀b o,Em b->b∉X.fs->b∉ch->kr->jX->zf=cv)
  (slot:∀b o,Em b->b∈X.fs->b∉ch->kr->jX->∃sl,aj2 (atc o sl))(free:∀b o,b∉ch->kr->jX->HB b)
  (there:∀b o,b∉ch->kr->∃o',aj2 o')
  (qc:∀b xs,H b=vD->H' b=vD)(oC:∀b o u,H b=sf .cz u->H' b=sf .cz u)(qd:∀b ps,H b=eL .wd ps->∃more,H' b=Io .wd (ps++more))
  (ns:∀m,aPv m->h'.Ns X.env.locals m)aM9:
  Í { s with heap:=h',gens:=g',drawn:=d',toks:=t'}:=by
 rw[gv aRJ (∀b o,aCl=cv->Em b) (λb o e=>atH mE) avV (∀b o,aCl=cv->b∉X.ex->b∉ch) (λb o e hx hb=>by
  rcases(OM b hb).1 with z | z
  ·exact hx z
  ·rw[n0 (ajU z) ò]) cellK (∀x c,zg->∀v,s.heap.IsCell c v->h'.IsCell c v) (λx c e v ⟨o,ho,hd⟩=>by
  have alW:c∉ch:=cP ((OM c z).2.2.1 x c e rfl);by_cases hc:c∈X.fs
  ·rw[aaK sl q (slot c o (I.Kz x c e) hc alW ho (Q! c e)) _ q hd]
  ·rw[b5 o (keep c o (I.Kz x c e) hc alW ho (Q! c e)) hd])]
 refine⟨I.ok,I.os,hg,⟨RH b o e n,RH b o e n,tC o e n hx,ym e hx,v3 b e (qc b xs (arO b e)),λb o xs e=>oC b o xs (aij b xs e),U8 ps e⟩,?_,cM x c e,?_,cM x c e,sy,dy,I.len⟩
 ·exact keep b o (aRJ b o e) hb (avV b o e hx) (ag8 o e n hb hx) (Jz e n hx)
 ·rw[agQ sl e1 (ag9 b e n hb hx) ro e2 (slot b _ (aRJ b o e) hb (avV b o e hx) e1 (Jz e n hx)) ro e2]
 ·rw[eg o' e1 (ģ o e hx) (free b o' (avV b o e hx) e1 (Jz e n hx))]
 ·rw[eg o' e1 (ģ o e hx) (there b o' (avV b o e hx) e1)]
 ·rw[agQ m1 e1 (arP b e) m2 e2 (qd b _ e1) (m1++m2) (aAU e2)]
 ·rw[M7 m hn hl I.loc m (ns m hn) (xX i x v e1 e2 e3)];rw[M7 u r l (hl i x v e1 e2 e3) u r ?_];rcases l with l | ⟨k,c,e,z⟩
  ·exact Ω l
  ·exact ay ⟨k,c,e,cellK x c e _ z⟩
 ·rw[mF v z (Wj x e) v (cellK x c e v z)]
 ·obtain⟨m,⟨o,_,_,ho,_⟩,_⟩:=I.loc;exact free _ o (cP ((OM _ z).2.1 rfl)) ho I.free
 ·rw[Mk v o ho hd (Wj x e) (free c o (cP ((OM c z).2.2.1 x c e rfl)) ho (Q! c e))]
 ·obtain⟨e,n,ne,nf,d⟩:=I8 hp;rw[CA alW (p.1∉ch) ((OM p.1 z).2.2.2 p hp rfl) ⟨keep p.1 p.2 ne nf alW e n,free p.1 p.2 alW e n,ne,nf,d⟩]
def Inv.un Bq bX(u:iL X.fs [] H H' s.heap h')(dy:ê H' h'):X! H' s h':=by
 obtain⟨m,⟨o,es,ep,ho,r⟩,_⟩:=id I.loc
 rw[eg sl hL (u.any ho I.free Θ) (I.step (g':=s.gens) (d':=s.drawn) (ch:=[]) (λ_ z=>nomatch z) (λb o _ hb _ e n=>u.keep b o e n hb Θ) (λb o _ hb _ e n=>u.slot b o e n hb Θ) (λb o _ e n=>u.free b o e n Θ) (λb o _ e=>u.there b o e Θ) u.qc u.oC u.qd (λm' hm=>by
  obtain⟨o',es',avh,wR,r'⟩:=hm;rw[ho]at wR;cases wR
  exact⟨_,es',avh,hL,r'⟩) dy I.bare)]
def Inv.call{g':aMd}Bq{d':Drawn}{ch:c5}bX(u:iL Mu ch H H' s.heap h')aM9
  azb:
  Í { s with heap:=h',gens:=g',drawn:=d',toks:=t'}:=by
 obtain⟨m,⟨o,es,ep,ho,r⟩,_⟩:=id I.loc
 rw[eg sl hL (u.any ho I.free (cP ((OM _ z).2.1 rfl))) (I.step (ch:=ch) OM (λb o hL hb hc e n=>u.keep b o e n (cP ((List.mem_cons.mp (I.am7 b z)).elim hL hb)) hc) (λb o _ _ hc e n=>u.any e n hc) (λb o hc e n=>u.free b o e n hc) (λb o hc e=>u.there b o e hc) u.qc u.oC u.qd (λm' hm=>by
  obtain⟨o',es',avh,wR,r'⟩:=hm;rw[ho]at wR;cases wR
  exact⟨_,es',avh,hL,r'⟩) dy hg)]
def Inv.turned Bq{it:Addr}bX(k:∀b o,b≠it->kr->zf=cv)(hn:oP it)(hL:Em it)
  (h1:it∈X.ex\/ack it)(h2:∀x c,zg->c≠it)(h3:gb (X.gi++pins) (p.1≠it)):ah7 s h' t':=by
 rw[cV OV (∀b u,H b=dG->b≠it) (λb u e z=>by rw[z,hn]at e;cases e) (I.step (g':=s.gens) (d':=s.drawn) (ch:=[it]) oX (λb o _ _ hc e _=>k b o (cP (hc (aK z))) e) (λb o _ _ hc e _=>aDU (k b o (cP (hc (aK z))) e)) (λ_ _ _ _ n=>n)
  (λb o hc e=>⟨o,k b o (cP (hc (aK z))) e⟩) (λ_ _ e=>e) (p5 e e) (abY b ps e (by rw[fk e])) (dB m hm) (U8 u e) I.bare)]
 ·rw[zU e (b=it) e];exact⟨h1,hL,h2,h3⟩
 ·rw[vc o es ep ho hm o es ep (k _ o (Ne.symm hL) ho) r]
 ·refine(MW u e).xi (λc v hc q=>k c v ?_ q) (cK q q) λ_ _ q=>q;rcases hc with z | z
  ·rw[au z (OV b u e)]
  ·exact OV c _ z
def Inv.tok bX(t:Nat):kH H { s with toks:=t}:=I.un (h':=s.heap) (t':=t) iL.refl I.dy
def Inv.kept Bq aNa:ah7 s h' t':=I.un (iL.kept k) (I.dy.kept k)
def Inv.laid jh{o:jg}Bq aNa(hp:aCz a)(new:QO (Cf a) h' a o):
  X! (Cf a) s h':=I.un (iL.laid k hp (I.dy.fresh hp)) (I.dy.laid k hp new)
def Inv.write{x e:Addr}{o:jg}Bq bX azG(k:∀b u,b≠e->Lb u->zf=dG)(alk:∃u,h'.get? e=dG)
  (new:QO (Cf x) h' x o):X! (Cf x) s h':=I.un (iL.write Ds he k alk) (I.dy.write Ds he k alk new)
def Inv.weak{σ':z4 V}bX(hl:σ'.length=σ.length)(w:∀iy v,u7 σ' i v->u7 σ i v):U3 X σ' H s:=
 ⟨I.ok,I.os,I.bare,I.base,let⟨m,hn,hl'⟩:=I.loc;⟨m,hn,λi x v e1 e2 e3=>hl' i x v e1 (w i v e2) e3⟩,I.cell,I.free,I.N5,I.pin,I.dy,hl.trans I.len⟩
def Inv.aJG{ZP:gr}bX(h:gb ZP (Cd p.1 p.2/\oP p.1/\Em p.1/\p.1∉X.fs/\∀v,p.2.data≠oR v)):Inv X ZP σ H s:=
 ⟨I.ok,I.os,I.bare,I.base,I.loc,I.cell,I.free,I.N5,jb ((SO).elim (cP (I8 (agv z))) (h p)),I.dy,I.len⟩
def aw3{N:gM}(hN:N.Nodup){i j:Nat}eS(a:jl N x)(b:iQ N j x):i=j:=by
 obtain⟨h1,e1⟩:=List.getElem?_eq_some_iff.mp a;rw[Cc h2 e2 (List.getElem?_eq_some_iff.mp b) ((List.getElem_inj hN).mp aMB)]
def aHT aoF gV eS mj qs Pd bX KJ ao8(r:nW)
  (h:∀s',U3 X (aiP qH) H s'->(∃a,arf a s'.heap/\(a=X.env.locals\/aO (X.env.cells.lookup x) a))->Q () s')aak:pP M A (storeName X.env x u) Q E:=by
 obtain⟨m,hn,hl⟩:=id I.loc
 rw[bM a5s (q4 (ahk .class||(ahk .module&&X.env.locals != X.env.globals))) (by rw[cU I.ok.kind]) hiσ (i < σ.length) (by rw[gx I.len (List.getElem?_eq_some_iff.mp hi).1])]
 rw[fG Kz I.Kz tracked (∀jh afJ,(∃o,Cd a o/\oP a)->arf a h'->ê H h') (λ{a h'} ha hs b ob e=>by
  obtain⟨_,_,aLt⟩:=ha;refine(MW ob e).xi (λc w' hc q=>HT hs c ?_ q) (cK q q) λ_ _ q=>q;rintro rfl;rcases hc with rfl | hc
  ·rw[aLt]at e;cases e
  ·rw[aLt]at hc;cases hc)]
 rcases hx with hk | hk
 ·refine wpAny_storeName_local hk hn (Fv hn' hs) a5s;obtain⟨oL,_,_,a7n,_⟩:=id hn;refine h _ ⟨I.ok,I.os,I.bare,⟨RH b o e n,RH b o e n,I.base.free,ym e hx,I.base.qc,I.base.oC,I.base.qd⟩,⟨_,hn',xX j y v' e1 e2 e3⟩,cM y c e,I.free,I.N5,sy,tracked ⟨oL,a7n,I.free⟩ hs,aX I.len⟩ ⟨_,hs,Ω rfl⟩
  ·exact PA hs (atH mE) (ag8 o e n hb hx)
  ·rw[Ħ sl e1 (ag9 b e n hb hx) sl hs (atH mE) e1]
  ·rw[Ħ o' e1 (ģ o e hx) o' hs (atH mE) e1]
  ·by_cases hj:j=i
   ·rw[xK hj hi e1];cases e1;rw[Hi hiσ e2];cases e2;rw[b5 u r (FH hk Θ)]
   ·rw[HX (Ne.symm hj) e2];rw[M7 u' r' q (hl j y v' e1 e2 e3) u' r' ?_];rcases q with⟨k,e⟩ | ⟨k,c,e,z⟩
    ·refine Ω (k7 k);have:y≠x:=dF (hj (aw3 hN e1 (e▸hi)));simp[this,e]
    ·exact ay ⟨k,c,e,z.sameBut hs (Kz y c e)⟩
  ·rw[mF w' z (Wj y e) w' (z.sameBut hs (Kz y c e))]
  ·rw[vf e n ne nf d (I8 hp) (HT hs p.1 ne e) n ne nf d]
 ·have hfn:au8 x:=by
   rcases hf with z | z
   ·exact z
   ·rw[z]at hk;cases hk
  rw[À c hc (I.ok.has x (Ω hk)) w' z (Wj x hc)];refine wpAny_storeName_cell I.ok.kind hk hc z (Fv ng hs);rw[z8 oc aRs a5t (id z) (h (t_ s) ⟨I.ok,I.os,I.bare,⟨RH b o e n,RH b o e n,I.base.free,ym e hx,I.base.qc,I.base.oC,I.base.qd⟩,⟨m,hn.sameBut hs (Ne.symm (Kz x c hc)),xX j y v' e1 e2 e3⟩,cM y c' e,I.free,I.N5,sy,tracked ⟨oc,aRs,Q! c hc⟩ hs,aX I.len⟩ ⟨c,hs,ay hc⟩)]
  ·exact PA hs (oK (ajU (I.ok.ak8 x c hfn hc))) (ag8 o e n hb hx)
  ·rw[Ħ sl e1 (ag9 b e n hb hx) sl hs (oK (ajU (I.ok.ak8 x c hfn hc))) e1]
  ·rw[Ħ o' e1 (ģ o e hx) o' hs (oK (ajU (I.ok.ak8 x c hfn hc))) e1]
  ·by_cases hj:j=i
   ·rw[xK hj hi e1];cases e1;rw[Hi hiσ e2];cases e2;rw[b5 u r (ay ⟨Ω hk,c,hc,ng⟩)]
   ·rw[HX (Ne.symm hj) e2];rw[M7 u' r' q (hl j y v' e1 e2 e3) u' r' ?_];rcases q with q | ⟨k,c',e,z'⟩
    ·exact Ω q
    ·refine ay ⟨k,c',e,z'.sameBut hs ?_⟩;rintro rfl;exact hj (aw3 hN e1 (I.ok.inj _ _ _ e hc▸hi))
  ·by_cases alj:c'=c
   ·subst alj;rw[ie ng]
   ·rw[mF w2 z2 (I.cell y c' e) w2 (z2.sameBut hs alj)]
  ·obtain⟨e,n,ne,nf,d⟩:=I8 hp;refine⟨HT hs p.1 ?_ e,n,ne,nf,d⟩;intro q;rw[q,aRs]at e;rw[S0 q' (oc=p.2) e];exact d w' (by rw[cw q' a5t])
def awI aoF gV eS mj qs Pd bX KJ ao8(r:nW)
  (h:∀s',U3 X (aiP qH) H s'->Q () s')aak:pP M A (storeName X.env x u) Q E:=
 aHT I hN hi hx r (λs' I' _=>h s' I') hf
def Inv.aLu{s':Shared}{ch:c5}bX(ho:s'.os=s.os)(u:iL Mu ch H H' s.heap s'.heap)(dy:ê H' s'.heap)(hg:ó)
  azb:R7:=by
 obtain⟨h',g',d',t',o'⟩:=s';have e:o'=s.os:=ho;rw[f7 e (I.call (g':=g') (t':=t') (d':=d') u dy hg OM)]
universe zE
noncomputable abbrev d8:=E3 (US->dZ)
noncomputable abbrev St:=z4 V
noncomputable abbrev afq:=V->dZ
noncomputable abbrev TE:=St->aR->jT
noncomputable abbrev kg:=St->aR->cS (Bool->dZ)
noncomputable abbrev ni:=St->aR->cS (dw->dZ)
structure Ends where
 nx:St->dZ
 eW:afq
 j6:St->dZ:=C8
 ct:St->dZ:=C8
noncomputable abbrev kO:=Ends->St->dZ
abbrev aHX aoP ze GU KL:Prop:=∃v H',R7/\nW/\nD v
abbrev anR aoP afx(b:Bool)KL:Prop:=∃H',R7/\nD b
abbrev aHf aoP(Q:dw->dZ)Bf KL:Prop:=∃vs H',R7/\RZ/\nD vs
abbrev afl ao1(D:Ends)(f:Flow)KL:Prop:=
 match f with
 |.next=>∃σ' H',Nv X/\D.nx σ' H'
 |.brk=>∃σ' H',Nv X/\D.j6 σ' H'
 |.cont=>∃σ' H',Nv X/\D.ct σ' H'
 |.ret u=>∃v σ' H',Nv X/\nW/\D.eW v H'
abbrev A4 gu UI(t:TE):Prop:=
 ∀oE ze,i9->t σ H Q->Ċ (mS e) X Q
abbrev s6 gu UI(t:kg):Prop:=
 ∀oE afx,i9->t σ H Q->jU (ari e (mS e)) (anR X pins σ Q) s
abbrev PW gu UI(t:kg):Prop:=
 ∀(whole:ahx)oE afx,i9->t σ H Q->jU (ari e whole) (anR X pins σ Q) s
def PW.pt nq GV{t:kg}(h:PW X e t):s6 X e t:=h _
abbrev qo gu(es:dI)(t:ni):Prop:=
 ∀(pos:Pos)oE(Q:dw->dZ),i9->t σ H Q->jU (spliced (Yv es)) (aHf X pins σ Q) s
abbrev l9 gu(st:Stmt)(t:kO):Prop:=
 ∀oE(D:Ends),i9->t D σ H->jU (exec st X.env) (afl X pins D) s
abbrev sY gu(st:K9)(t:kO):Prop:=
 ∀oE(D:Ends),i9->t D σ H->jU (execs st X.env) (afl X pins D) s
def YL gC{t:Sem α}{Q Q':α->Bt}aoF nj(h:wpAny M A t Q E s)(hQ:∀a s,Q a s->Q' a s):wpAny M A t Q' E s:=Lw h hQ _ _ x x
universe L2
namespace L2
open PySem PySem.Spec PyProof.Rows
section
variable {X:bV}
def bin{a b:Expr}{ta tb:TE}Pb O7 nj za{R:V->V->dZ}bX aNW
  gC{Q:α->Bt}{f:E3 (E3 (Sem α))}
  aM2:
  MO (mS a) v s₁ (jU (mS b) (λu s₂=>jU (f v u) Q s₂) s₁):=by
 rw[QA (akp s H _ I h v x) (IK (RM _) u ⟨y,H2,br,r2,aV⟩) (hf v u s2 x y H2 br r1 r2 aV)]
abbrev a5u iy:TE:=r6 (∃v,u7 σ i v/\Q v H)
abbrev amm(v:V):TE:=λ_ H Q=>Q v H
def a1R gV eS D0(hN:ab9)(hv:aBJ x)aNR:gN (di x pos) (a5u i):=by
 rw[Fj Q h];rw[Le v e h h m hn hl I.loc];rw[B5 u r l (hl i x v hN e hv) fin (R9 X Q u s) ⟨v,H,I,r,h⟩];rcases l with⟨hk,hm⟩ | ⟨hk,c,hc,Oq⟩
 ·exact wpAny_Name (wpAny_loadName_local I.ok.kind hk hn hm fin) hd
 ·rcases hk with hk | hk
  ·exact wpAny_Name (wpAny_loadName_cell I.ok.kind hk hc Oq fin) hd
  ·exact wpAny_Name (wpAny_loadName_free I.ok.kind hk hc Oq fin yU) hd
def a1S{i j pos}:Wq (BE (η i) j pos) (η i):=λ_ _ _ H _ I h=>wpAny_Constant_int (Q_ (η i) H h)
def a3L{b j pos}:Wq (BE (qQ b) j pos) (.ah b):=λ_ _ _ H _ I h=>Constant_bool (JL .ah b I h)
def a1T{j pos}:Wq (BE cT j pos) .ai:=λ_ _ _ H _ I h=>Constant_none (rY .ai H I h)
def aKl{x j pos}:Wq (BE (av x) j pos) (av x):=λ_ _ _ H _ I h=>Calls.Constant_str (Q_ (av x) H h)
abbrev OA gu nr:Prop:=SW x .globalImplicit
def xk{E:iO}O7 nj za eS qs D0 rJ bX aOe(h:Q u s)
  K3:abS (mS (di x pos)):=
 Calls.Name_function_global I.ok.kind hg (Calls.loadGlobal_global (by rw[au I.ok.glob aA2]) hm h) hd
def aen{E:iO}O7 nj za eS qs D0 rJ bX ao9(hv:Mb=dG)(h:Q u s)
  azO:abS (mS (di x pos)):=by
 rw[Mg mb h1 h2 I.mod.blt (Calls.Name_function_global I.ok.kind hg (Calls.loadGlobal_builtin (by rw[au I.ok.glob aA2]) hm (by rw[au I.ok.blt (h1.keeps I.j6)]) (eo (h2 x hn) hv) h) hd)]
def aJH eS mj qs D0 aOe(r:nW)K3:Wq (di x pos) v:=
 λ_ _ _ H _ I h=>xk I hg hm ⟨v,H,I,r,h⟩ hd
def aZN eS mj qs D0 ao9(hv:Mb=dG)(r:nW)azO:Wq (di x pos) v:=
 λ_ _ _ H _ I h=>aen I hg hm hv ⟨v,H,I,r,h⟩ hn hd
variable {a b:Expr}{ta tb:TE}{pos:Pos}
variable {tA awn:kg}{rest:dI}
abbrev a5v(t u:kg):kg:=Nn H c (oN c (u σ H1 Q) (Q false H1))
abbrev a78(t u:kg):kg:=Nn H c (oN c (Q true H1) (u σ H1 Q))
abbrev a5w(t:kg):kg:=Nn H c (Q (! c) H1)
def aZP aga:PW X (mJ .And [a] pos) tA:=by
 intro TT pins s σ H Q I h;refine isTrue_and (nR (ha pins s σ H Q I h) c e);cases c with
 |true=>exact isTrue_and_nil e
 |false=>exact e
def a1U aga:PW X (mJ .Or [a] pos) tA:=by
 intro TT pins s σ H Q I h;refine isTrue_or (nR (ha pins s σ H Q I h) c e);cases c with
 |false=>exact isTrue_or_nil e
 |true=>exact e
def a1V aga(hb:PW X (mJ .And ue pos) awn):PW X (mJ .And (a::ue) pos) (a5v tA awn):=by
 intro TT pins s σ H Q I h;refine isTrue_and (nR (ha pins s σ H _ I h) c ⟨H1,aH,aE⟩);cases c with
 |true=>exact hb TT pins s1 σ H1 Q aH aE
 |false=>rw[b5 H1 aH aE]
def a3M aga(hb:PW X (mJ .Or ue pos) awn):PW X (mJ .Or (a::ue) pos) (a78 tA awn):=by
 intro TT pins s σ H Q I h;refine isTrue_or (nR (ha pins s σ H _ I h) c ⟨H1,aH,aE⟩);cases c with
 |true=>rw[b5 H1 aH aE]
 |false=>exact hb TT pins s1 σ H1 Q aH aE
def a1W aga:s6 X (auR .Not a pos) (a5w tA):=by
 rw[QB s H Q I h (isTrue_not (R3 s H (vh c (Q (! c) H1)) I h))]
abbrev a3N aoV:TE:=R6 H x (∃c,x=.ah c/\oN c (tb σ H1 Q) (Q (qJ .ah) H1))
abbrev a5x aoV:TE:=R6 H x (∃c,x=.ah c/\oN c (Q (fB .ah) H1) (tb σ H1 Q))
def a1X{op}{t:TE}(h:gN a t):gN (mJ op [a] pos) t:=PU s σ H Q I hw (BoolOp_one (Wd s σ H Q I hw))
def a1Y(ha:akZ)(hb:gN (mJ .And ue pos) tb):JI mJ .And (a::ue) (a3N ta tb):=by
 rw[sx Q (BoolOp_and (akp s H _ I h v x))];rw[iB c aE aE];cases r1;rw[aA7 ?_];cases c with
 |true=>exact RM Q
 |false=>exact rY (.ah false) H1 aH aE
def a3O(ha:akZ)(hb:gN (mJ .Or ue pos) tb):JI mJ .Or (a::ue) (a5x ta tb):=by
 rw[sx Q (BoolOp_or (akp s H _ I h v x))];rw[iB c aE aE];cases r1;rw[aA7 ?_];cases c with
 |false=>exact RM Q
 |true=>exact rY (fB .ah) H1 aH aE
abbrev a77(t:kg)aoV:TE:=Nn H c (oN c (ta σ H1 Q) (tb σ H1 Q))
def aXo{c:Expr}(hc:s6 X c tA)Pb:gN (.IfExp c a b pos) (a77 tA ta tb):=by
 rw[sx Q (wpAny_IfExp (nR (hc pins s σ H _ I h) d ⟨H1,aH,aE⟩))];cases d with
 |true=>exact R3 s1 H1 Q aH aE
 |false=>exact RM Q
universe zE
universe L2
namespace L2
open PySem PySem.Spec PyProof.Rows
abbrev iI dz O? KZ:Prop:=
 uQ H a (ς xs) ∨
  ∃(o:Obj) (aC:Qi) (n:Nat),atQ=cv/\o.cls=ED /\ bO o.dict/\o.data=oZ aC n/\jy aC.size/\Vals xs aC.toList
abbrev Gl dz O? KZ:Prop:=
 uQ H a (aW xs) ∨
  ∃(o:Obj) (aC:Qi) (n:Nat),atQ=cv/\o.cls=Jc /\ o.data=oZ aC n/\jy aC.size/\Vals xs aC.toList
abbrev a5y:E3 HW
 |cT=>some .ai
 |qQ b=>eL .ah b
 |η i _=>xr
 |av x _=>eL av x
 |.bytes b _=>eL .acq b
 |.float b _=>eL .acy b
 |Δ a=>kZ a
 |d5 n=>eL .ty n
 |_=>none
def RelV.abs{x:V}qs(r:zh x):a5y u=g7:=by
 cases x with
 |ai=>cases r;rfl
 |ah _=>cases r;rfl
 |int _=>rw[abd r]
 |str _=>rw[abd r]
 |acq _=>rw[abd r]
 |acy _=>rw[abd r]
 |ref _=>cases r;rfl
 |ty _=>cases r;rfl
def RelV.inj{x y:V}qs(r:zh x)(q:ab3):x=y:=Option.some.inj (r.abs.symm.trans q.abs)
def Vals.inj:∀{xs ys:dw}Bg,vC->SX ys->xs=ys
 |_,_,_,c_,c_=>rfl
 |_,_,_,bW r t,bW r' t'=>kn (r.inj r') (Vals.inj t t')
section
variable {X:bV}{pins:gr}{σ:St}{H:aR}{s:Shared}{a:Addr}{xs ys:dw}
def iI.of kQ(h:H a=h7):JR:=Ω (Ω h)
def Gl.of kQ(h:H a=vD):C5 K a:=Ω (Ω h)
def Inv.list bX(h:iI X.K H a xs):∃aC:b3,Yc/\PlainL s.heap a aC.toArray/\Md:=by
 rcases h with h | ⟨o,aC,n,hk,hc,hd,hs,hz,r⟩
 ·rw[G? z aC n r e (h.ok I.dy) ⟨aC,r,⟨_,n,e,rfl,rfl,rfl⟩,z⟩]
 ·refine⟨aC.toList,r,⟨o,n,I.rq a o hk,hc,hd,aX hs⟩,?_⟩;have e:=r.length;rw[aPR e];omega
def Inv.tuple bX(h:C5 X.K a):∃aC:b3,Yc/\arN a aC.toArray/\Md:=by
 rcases h with h | ⟨o,aC,n,hk,hc,hs,hz,r⟩
 ·rw[LM z aC r p (h.ok I.dy) aC r p z]
 ·refine⟨aC.toList,r,⟨o,I.rq a o hk,hc,n,aX hs⟩,?_⟩;have e:=r.length;rw[aPR e];omega
def Inv.aw4 bX(h:iI X.K H a xs)(h':iI X.K H a ys):xs=ys:=by
 obtain⟨aC,r,⟨o,n,e,_,_,d⟩,_⟩:=I.list h;obtain⟨its',r',⟨o',n',e',_,_,d'⟩,_⟩:=I.list h';rw[e]at e';cases e';rw[d]at d';rw[ß d' d1]
 have:aC=its':=aX (aPF d1)
 rw[f7 this (r.inj r')]
def Inv.aV6 bX(h:C5 X.K a)(h':Gl X.K H a ys):xs=ys:=by
 obtain⟨aC,r,⟨o,e,_,n,d⟩,_⟩:=I.tuple h;obtain⟨its',r',⟨o',e',_,n',d'⟩,_⟩:=I.tuple h';rw[e]at e';cases e';rw[d]at d';rw[ß d' d1]
 have:aC=its':=aX (aPF d1)
 rw[f7 this (r.inj r')]
universe zE
section
variable {X:bV}{pins:gr}{σ:St}{H:aR}{s:Shared}{E:iO}
universe zE
section
variable {X:bV}{st:Stmt}{rest:K9}{t u:kO}{e:Expr}{te:TE}{pos:Pos}
abbrev a3P:kO:=λD σ H=>ajM H
abbrev aQn(t u:kO):kO:=λD σ H=>t { D with nx:=u D} σ H
def aZQ:sY X [] a3P:=λ_ _ σ H _ I h=>aqt σ H I h
def aXp(h1:l9 X st t)(h2:sY X rest u):sY X (st::rest) (aQn t u):=by
 rw[sx D (aBK (nR (h1 pins s σ H { D with nx:=u D} I h) f q))];cases f with
 |next=>
  rw[Mk σ' H' I' q q (h2 pins s1 σ' H' D I' q)]
 |ret v=>exact q
 |brk=>exact q
 |cont=>exact q
def aZR(h1:l9 X st t):sY X [st] t:=by
 rw[sx D (aBK (nR (h1 pins s σ H D I h) f q))];cases f with
 |next=>exact wpAny_execs_nil q
 |ret v=>exact q
 |brk=>exact q
 |cont=>exact q
def Inv.quiet Bo bX:dj (interactive X.env):=f_ interactive I.ok.kind
abbrev a3Q UQ:kO:=λD σ H=>te σ H (vh _ (ajM H1))
def aZS aae aOq:l9 X (.Expr e pos) (a3Q te):=by
 rw[QB s H D I h (wpAny_Expr_any (RB (CU s σ H _ I h) v x ⟨σ,H1,aH,aE⟩) I.quiet hs)]
abbrev a5z UQ:kO:=λD σ H=>te σ H D.eW
def a1Z aae:l9 X (.Return (some e) pos) (a5z te):=by
 rw[QB s H D I h (wpAny_Return_some (RB (CU s σ H _ I h) v x ⟨x,σ,H1,aH,r1,aE⟩))]
abbrev a5A(c:kg)(t u:kO):kO:=λD σ H=>c σ H (vh b (oN b (t D σ H1) (u D σ H1)))
def acx{c:Expr}{a b:K9}{tc:kg}(hc:s6 X c tc)(ha:sY X a t)(hb:sY X b u):l9 X (.If c a b pos) (a5A tc t u):=by
 rw[sx D (wpAny_If (nR (hc pins s σ H _ I h) d ⟨H1,aH,aE⟩))];cases d with
 |true=>exact R3 s1 H1 D aH aE
 |false=>exact RM D
universe zE
noncomputable abbrev uS:=V->St->aR->cS (St->dZ)
noncomputable abbrev KA:=dw->St->aR->cS (St->dZ)
abbrev uP gu(target:Expr)(t:uS):Prop:=
 ∀oE(v:V)GU(Q:St->dZ),i9->nW->t v σ H Q →
  MO (ark target u) _ s' (∃σ' H',Nv X/\nD σ')
abbrev GJ gu(ts:dI)(t:KA):Prop:=
 ∀oE D6 Bf(Q:St->dZ),i9->RZ->t vs σ H Q →
  MO (assignInOrder (G4 (Yx ts).map) us) _ s' (∃σ' H',Nv X/\nD σ')
noncomputable abbrev anZ:=V->V->V->aR->cS dZ
abbrev Ud gu(t:anZ):Prop:=
 ∀oE(o i v:V)(ov iv u:Value)(Q:dZ),i9->RelV o ov->RelV i iv->nW->t o i v H Q →
  MO (setItem ov iv u) _ s' (∃H',R7/\Q H')
section
variable {X:bV}{pos:Pos}
abbrev anw iy:uS:=λv σ H Q=>Q (aiP qH) H
def aZT gV eS KJ ao8 aak:uP X (di x pos) (anw i):=by
 intro pins s σ H v u Q I r h;exact wpAny_assign_Name (awI I hN hi hx r (λs' I'=>⟨_,H,I',h⟩) hf)
abbrev a5B:KA:=λvs σ H Q=>vs=[]/\Q σ H
abbrev a3R(t:uS)(u:KA):KA:=λvs σ H Q=>∃v r,vs=v::r/\t v σ H λσ' H'=>u r σ' H' Q
def aZU:GJ X [] a5B:=by
 intro pins s σ H vs us Q I r h;obtain⟨e,h⟩:=h;subst e;cases r;exact assignInOrder_nil ⟨σ,H,I,h⟩
def aXq GV{es:dI}{t:uS}{u:KA}(h1:uP X e t)(h2:GJ X es u)
  aNK:GJ X (e::es) (a3R t u):=by
 intro pins s σ H vs us Q I r h;obtain⟨v,vr,e1,h⟩:=h;subst e1;cases r with
 |cons r rr=>
  rw[iU hs (assignInOrder_cons (nR (h1 pins s σ H _ _ _ I r h) _ ⟨σ1,H1,aH,aE⟩))];exact h2 pins s1 σ1 H1 _ _ Q aH rr aE
abbrev a5C dz dh(t:KA):uS:=λv σ H Q=>∃a xs,v=Δ a/\C5 K a/\ź n/\t xs σ H Q
def a10{es:dI}ee{t:KA}bk Bc(h:GJ X es t)
  aNE:uP X (MT es k pos) (a5C X.K n t):=by
 intro pins s σ H v u Q I r hw;obtain⟨a,xs,e1,hq,hl,hw⟩:=hw;subst e1;cases r;rw[Se rv ht];rw[kD (assign_Tuple_tuple (I.ok.hd hc) ht (by simp[hn,←hl,rv.length]) kL (dB h' hx)) aH (kH H (t_ s)) (I.kept (t':=s.toks) λb o e=>hx b o (oK mE) e)];exact h pins _ σ H xs _ Q aH (aX rv) hw
abbrev a5D(to ti:TE)(t:anZ):uS:=λv σ H Q=>to σ H (vh o (ti σ H1 (mz i (t o i v H2 λH3=>Q σ H3))))
def a11{o i:Expr}{to ti:TE}{t:anZ}afy(hi:gN i ti)(hs:Ud X t)
  (ha:∀v,ark (yf o i pos) v=(do
   let ov ←G8 [v] G3
   let iv ←G8 [v,ov] (mS i)
   standAt pos
   G8 [v,ov,iv] (setItem ov iv v)
   release [v,ov,iv] []):=by rw[ab6 _]):uP X (yf o i pos) (a5D to ti t):=by
 intro pins s σ H v u Q I r h;rw[ha];rw[gp (aqs (Nm s H _ I h ov ⟨x,H1,aH,r1,aE⟩)) (aqs (IK (hi pins s1 σ H1 _ aH aE) iv ⟨y,H2,br,r2,aV⟩))];rw[M3 (aAM (aqs (qR (hs pins s2 σ H2 x y v ov iv u _ br r1 r2 r aV) _ s3 ⟨H3,d?,cA⟩))) (wpAny_release ⟨σ,H3,d?,cA⟩)]
abbrev ay9 UQ(g:uS):kO:=λD σ H=>te σ H (tK (g x σ H1 D.nx))
def aKm{cB e:Expr}{te:TE}{g:uS}aae(hg:uP X cB g)aNG
  aN0:l9 X (CT [cB] e pos) (ay9 te g):=by
 rw[sx D (wpAny_Assign_stores (nR (CU s σ H _ I h) v ⟨x,H1,aH,r1,aE⟩) hs hw)];rw[au h1 (BU (hg pins s1 σ H1 x v _ aH r1 aE) _ s2 q q)]
def a12 gV eS GV{te:TE}{pos':Pos}KJ ao8 aae aNh aak:
  l9 X (CT [di x pos'] e pos) (ay9 te (anw i)):=by
 rw[sx D (wpAny_Assign_Name (nR (CU s σ H _ I h) v ⟨y,H1,aH,r1,aE⟩) hs)];exact awI aH hN hi hx r1 (λs2 br=>⟨_,H1,br,aE⟩) hf
universe zE
section
variable {X:bV}{pos:Pos}
abbrev a13(c:kg)(tb:kO):kO:=λD σ H=>∃W:CS St dZ,(∃m,W m σ H)/\∀m σ H,W m σ H →
 c σ H (vh b (oN b (∃N:St->dZ,(∀σ' H',N σ' H'->∃m',m'<m/\W m' σ' H')/\tb { D with nx:=N,ct:=N,j6:=D.nx} σ H1) (ajM H1)))
def aXr{c:Expr}aay{tc:kg}{tb:kO}(hp:akw)(hc:s6 X c tc)(hb:sY X body tb):l9 X (.While c body [] pos) (a13 tc tb):=by
 rw[Fj D h];obtain⟨W,⟨m0,w0⟩,turn⟩:=h;refine wpAny_While (codeAny_whileLoop (λn s'=>∃σ' H',Nv X/\W n σ' H') ?_ m0 ⟨σ,H,I,w0⟩);rw[ah9 n s1 σ1 H1 aH w1 (VR (IK (hc pins s1 σ1 H1 _ aH (turn n σ1 H1 w1)) b ⟨H2,br,aV⟩))];cases b with
 |true=>
  obtain⟨N,hN,aV⟩:=aV;rw[iU ek (VR (qR (hb pins s2 σ1 H2 _ br aV) f s3 cA))];cases f with
  |next=>
   obtain⟨σ3,H3,d?,n3⟩:=cA;rw[ù m' hm w3 (hN σ3 H3 n3) ⟨m',hm,σ3,H3,d?,w3⟩]
  |cont=>
   obtain⟨σ3,H3,d?,n3⟩:=cA;rw[ù m' hm w3 (hN σ3 H3 n3) ⟨m',hm,σ3,H3,d?,w3⟩]
  |brk=>exact cA
  |ret v=>exact cA
 |false=>
  rw[au lR (aqt σ1 H2 br aV)]
universe zE
structure It where
 go:qA dZ
 awK:CS aR (V->dZ)
 stop:qA dZ
abbrev awO ao1 jR(b:Addr):Prop:=
 jX/\Em b/\b∉X.fs/\(b∈X.ex\/ack b)/\(∀x c,zg->c≠b)/\gb (X.gi++pins) (p.1≠b)
def Inv.Kc nq O7{σ:St}{H H':aR}nj{b:Addr}bX(hb:aCz b)(hn:HB b):awO X pins H' b:=by
 refine⟨hn,Nat.ne_of_gt (Nat.lt_of_lt_of_le I.lt hb),I.a5r hb,ay (Nat.le_trans I.sz hb),i? x c e z,cM p hp z⟩
 ·rw[eg v q (Wj x e) (Rf (Nat.lt_of_lt_of_le q.lt (by rw[au z hb])) ò)]
 ·rw[n0 (apO (I8 hp).1 (by rw[au z hb])) ò]
structure Turn DW dz(cB:Expr)(J:It)(fp:c5)(it:Addr)(ri:Ő Heap):Prop where
 mem:it∈fp
 obj:∀i h,ri i h->HH b (∃o,tw=cv/\∀v,o.data≠oR v)
 keep:∀i h h',ri i h->(HH b (∀o,tw=cv->zf=cv))->ri i h'
 item:∀gu,X.prog=P->X.w=w->X.K=K->Yt->∀iy oE(E:iO),i9->(acd H)->atv i->J.go i H →
  pP (model P w) X.A (pyNext (Δ it)) (λr s1=>∃u,r=dG ∧
   mC (model P w) X.A (letOwnedTupleGo cB (Δ it) u) (cK s2 (∃x H',Í s2/\zh x/\J.awK i H x H'/\ri (i+1) s2.heap/\WT b b)) E s1) E
 done:∀gu,X.prog=P->X.w=w->X.K=K->Yt->∀iy oE(E:iO),i9->(acd H)->atv i->auT H →
  pP (model P w) X.A (pyNext (Δ it)) (λr s1=>bO r/\kH H s1) E
 self:∀(A:Around)iy kP agc,atv i->Q (Δ it) s->pP (model P w) A (pyIter (Δ it)) Q E
noncomputable abbrev TI:=St->aR->cS (It->dZ)
abbrev aKg aoP(cB:Expr)(R:It->dZ)(itv:Value)(s2:Shared):Prop:=
 ∃(it:Addr) (fp:c5) (ri:Ő Heap) (J:It) (H':aR),itv=Δ it/\Í s2/\R8 X.prog X.w X.K J fp ri/\ri 0 s2.heap/\(acd H')/\R J H'
abbrev Ko gu(cB iter:Expr)(wi:TI):Prop:=
 ∀oE(R:It->dZ),i9->wi σ H R →
  MO (mS iter) v s1 (jU (pyIter v) (aKg X pins σ cB R) s1)
def ZQ aoF nj{cB:Expr}{it:Addr}qs{o:Obj}{n:String}{vs:Qi}Pd(ho:Cd it o)(hc:o.cls=d5 n)(hd:o.data=kY vs)
    (hn:dj (["enumerate","zip","dict_itemiterator","dict_reverseitemiterator","odict_iterator","itertools.zip_longest","itertools.pairwise"].contains n))(hQ:Q () s):pP M A (letOwnedTupleGo cB (Δ it) u) Q E:=by
  unfold letOwnedTupleGo
  cases cB<;>first
    |rw[agJ hQ]
    | (cases u<;>first
        |rw[agJ hQ]
        | (refine fC (wpAny_load ho ?_)
           rw[hc,hd];rw[Wf (pP M A (ag2 (["enumerate","zip","dict_itemiterator","dict_reverseitemiterator","odict_iterator","itertools.zip_longest","itertools.pairwise"].contains n&&vs[0]? == aT (rawInt _)) _ _) Q E) (vQ (by intro h;rw[hn,Bool.false_and]at h;cases h)) (wpAny_pure hQ)]))
abbrev ayg dz rE:It:=
 abq i H (∃xs x,JR/\zu) i H x (H'=H/\∀xs,JR->zu) i H xs (JR/\SU i)
abbrev aIT dz rE:It:=
 abq i H (∃xs x,C5 K a/\zu) i H x (H'=H/\∀xs,C5 K a->zu) i H xs (C5 K a/\SU i)
abbrev anp aoH:It:=⟨λi _=>i<n,λi H x H'=>H'=H/\x=η (lo+i),λi _=>n≤i⟩
def aV7 DX afZ:R8 P w K (ayg K a) [it] (λi h=>h.IsListIter it a i) where
 mem:=Θ
 obj:=λi h st b hb=>by
  rw[zU e (b=it) e]
  rw[rX o e c d st ⟨o,e,λv z=>by rw[d]at z;cases z⟩]
 keep:=λi h h' st k=>st.at λo e=>k it Θ o e
 item:=by
  rw[Ag i s H E I];obtain⟨xs,x,hq,hx⟩:=hg;rw[IP rv p];obtain⟨u,hu,cQ⟩:=rv.get hx;rw[MI];rw[kD (wpAny_pyNext_list_item st p.isList (x:=u) (aX hu) (Fv l7 sb)) aH (kH H (t_ s)) (ý t' (RC b o e sb e) f0 f1 f3 f4 lz)];rw[rX o e c d (id l7) (h! u (ZQ (s:=t_ s) e c d a_ ⟨x,H,aH,cQ,j3 (λys hy=>by rw[au (I.aw4 hy hq) hx]),l7,v5 (Iv b).1⟩))]
 done:=by
  intro X hP hw hK hc i pins s σ H E I hf st hg;subst hP hw hK;obtain⟨xs,hq,hx⟩:=hg;rw[IP rv p];rw[MI];rw[xU hl rv.length (wpAny_pyNext_list_end (I.ok.hd hc) st p.isList (by rw[f9]) λh' eb=>Ī t' (Q7 b o e b o hb e) f0 f1 f3 f4 lz)]
 self:=λ_ _ _ _ _ st h=>wpAny_pyIter_listiter st h
def Ki DX afZ:R8 P w K (aIT K a) [it] (λi h=>h.IsTupleIter it a i) where
 mem:=Θ
 obj:=λi h st b hb=>by
  rw[zU e (b=it) e]
  rw[rX o e c d st ⟨o,e,λv z=>by rw[d]at z;cases z⟩]
 keep:=λi h h' st k=>st.at λo e=>k it Θ o e
 item:=by
  rw[Ag i s H E I];obtain⟨xs,x,hq,hx⟩:=hg;rw[Se rv p];obtain⟨u,hu,cQ⟩:=rv.get hx
  rw[MI];rw[kD (wpAny_pyNext_tuple_item st (aDD (aP0 a)) (x:=u) (aX hu) (Fv l7 sb)) aH (kH H (t_ s)) (ý t' (RC b o e sb e) f0 f1 f3 f4 lz)];rw[rX o e c d (id l7) (h! u (ZQ (s:=t_ s) e c d a_ ⟨x,H,aH,cQ,j3 (λys hy=>by rw[au (I.aV6 hy hq) hx]),l7,v5 (Iv b).1⟩))]
 done:=by
  intro X hP hw hK hc i pins s σ H E I hf st hg;subst hP hw hK;obtain⟨xs,hq,hx⟩:=hg;rw[Se rv p];rw[MI];rw[xU hl rv.length (wpAny_pyNext_tuple_end (I.ok.hd hc) st (aDD (aP0 a)) (by rw[f9]) λh' eb=>Ī t' (Q7 b o e b o hb e) f0 f1 f3 f4 lz)]
 self:=λ_ _ _ _ _ st h=>wpAny_pyIter_tupleiter st h
def Kj DX{cB:Expr}(it:Addr)aoH:R8 P w K (anp lo n) [it] (λi h=>IsRangeIter h it (lo+(i:Nat)*1) (gm-(i:Nat)) 1) where
 mem:=Θ
 obj:=λi h st b hb=>by
  rw[zU e (b=it) e]
  rw[Ci st (λv z=>by
   have z':Data.fields _=Data.cell v:=z
   cases z')]
 keep:=λi h h' st k=>k it Θ _ st
 item:=by
  rw[Ag i s H E I];rw[MI];rw[cW W (Walks.range (prog:=X.prog) (w:=X.w) (I.ok.hd hc) it lo 1 n) (W.item i s _ _ hg st (xX v h' tk hv l7 kk))];rw[r_ hv];rw[tD aH (ah7 s h' tk) (I.turned (λb o hb e=>kk b o EK e) f0 f1 f3 f4 lz) (h! _ (ZQ (s:=BS s h' tk) (n:= "range_iterator") l7 rfl rfl a_ ⟨η (lo+i),H,aH,k7 t,kS rfl,l7,v5 (Iv b).1⟩))];rw[Int.mul_one]
 done:=by
  rw[Ag i s H E I];rw[MI];exact wpAny_pyNext_range_end (I.ok.hd hc) st (by rw[xP (n≤i) hg]) λh' eb=>Ī t' (Q7 b o e b o hb e) f0 f1 f3 f4 lz
 self:=λ_ _ _ _ _ st h=>wpAny_pyIter_rangeiter st h
universe L2
namespace L2
open PySem PySem.Spec PyProof.Rows
section
variable {X:bV}{cB:Expr}
abbrev a3S dz(tl:TE):TI:=λσ H R=>tl σ H (tK (∃a,x=Δ a/\(∃xs,iI K H1 a xs)/\R (ayg K a) H1))
abbrev a5b dz(tl:TE):TI:=λσ H R=>tl σ H (tK (∃a,x=Δ a/\(∃xs,Gl K H1 a xs)/\R (aIT K a) H1))
def aZV{l:Expr}{tl:TE}(hl:gN l tl):Ko X cB l (a3S X.K tl):=by
 rw[sx R (ako (hl pins s σ H _ I h) v x)]
 obtain⟨a,e,⟨xs,hq⟩,q⟩:=aE;subst e;cases r1;rw[x! rv p hz (aH.list hq)];refine aPN p.isList;rw[vv (aqi ard _ _ H1 rfl (Į t' o e e) (aV7 a _) (Ń _ _) oX q) e (b=s1.heap.objs.size) EK]
 rw[f7 e (aH.Kc fh Ry)]
def a14{l:Expr}{tl:TE}(hl:gN l tl):Ko X cB l (a5b X.K tl):=by
 rw[sx R (ako (hl pins s σ H _ I h) v x)]
 obtain⟨a,e,⟨xs,hq⟩,q⟩:=aE;subst e;cases r1;rw[x! rv p hz (aH.tuple hq)];refine wpAny_pyIter_tuple (aDD (s1.heap.IsTuple a aC.toArray)) ?_
 rw[vv (aqi ard _ _ H1 rfl (Į t' o e e) (Ki a _) (Ń _ _) oX q) e (b=s1.heap.objs.size) EK]
 rw[f7 e (aH.Kc fh Ry)]
def aXs Bo{R:It->dZ}{E:iO}{lo hi:Int}{t u v:Tok}{tk:Nat}bX(h1 : -(2 ^ 62)≤lo)(h2:lo<2 ^ 62)(h3 : -(2 ^ 62)≤hi)(h4:hi<2 ^ 62)
  (q:R (anp lo (hi-lo).toNat) H):mC (model X.prog X.w) X.A (pyIter zB) (aKg X pins σ cB R) E (BS s (akX (kY #[η lo t,η hi u,η 1 v])) tk):=by
 rw[kD (wpAny_pyIter_range (IsRange.new ..) (small_one h1 h2 h3 h4) ?_) aH (ah7 s (akX (kY #[η lo t,η hi u,η 1 v])) tk) (I.kept (vF o e e))]
 refine⟨PC (akX (kY #[η lo t,η hi u,η 1 v])),[PC (akX (kY #[η lo t,η hi u,η 1 v]))],_,_,H,rfl,
  aH.kept (t':=tk) (vF o e e),Kj _ lo (hi-lo).toNat,?_,oX,q⟩
 ·rw[bM e1 (lo+iX 0*1=lo) Θ e2 (iX (hi-lo).toNat-iX 0=Builtin.Range.rangeSize lo hi 1) (by rw[rangeSize_one];split<;>omega)]
  show IsRangeIter _ _ (lo+iX 0*1) (iX (hi-lo).toNat-iX 0) 1;rw[er e1 e2 (E0 _)]
 ·have e:b=PC (akX (kY #[η lo t,η hi u,η 1 v])):=EK
  rw[f7 e (aH.Kc fh Ry)]
abbrev a3w(ta:ni):TI:=λσ H R=>apG σ H vs (∃j:Int,vs=[η j] /\ -(2 ^ 62)≤j/\j<2 ^ 62/\R (anp 0 j.toNat) H1)
def N0{a:Expr}{ta:ni}{p pos:Pos}(hg:OA X "range")(hm:agG "range")(ha:qo X [a] ta)aop:Ko X cB (xg (di "range" p) [a] [] pos) (a3w ta):=by
 rw[sx R (Call_ (aen I hg hm boot_range (ap8 (ako (ha pos pins s σ H _ I h) us vs) hs rfl)))];obtain⟨j,e,aE,aV,q⟩:=aE;subst e;cases r1 with
 |cons r rr=>
  cases rr;rw[eg t rfl r (call_range_1 (aXs aH aB aB aE aV (aX q)))]
abbrev a5c(wi:TI)(g:uS)(tb:kO):kO:=λD σ H=>wi σ H (vh J (∃W:qA (CS St dZ),(∃m,W 0 m σ H1)/\∀i m σ H,W i m σ H →
 (auT H/\ajM H)\/(J.go i H/\∃N:St->dZ,(∀σ' H',N σ' H'->∃m',m'<m/\W (i+1) m' σ' H')/\∀x H',J.awK i H x H'->g x σ H' (mz σ2 (tb { D with nx:=N,ct:=N,j6:=D.nx} σ2 H2)))))
abbrev aeG(fp:c5)Bp:gr:=fp.filterMap λb=>(tw).map λo=>(b,o)
def sk GX s9 aav(hb:b∈fp)(e:tw=cv):(b,o)∈aeG fp h:=aPV b hb (by rw[cU e])
def aVV GX s9{p:Addr×Obj}(hp:p∈aeG fp h):p.1∈fp/\Ik p.1 p.2:=by
 rw[aiL b hb (List.mem_filterMap.mp hp)];cases q:tw with
 |none=>rw[q]at e;cases e
 |some o=>
  rw[q]at e;rw[S0 e' ((b,o)=p) e];subst e';rw[b4 hb q]
def Inv.pinned Bo GX afv(ho:HH b (∃o,kr/\∀v,o.data≠oR v)):Inv X (pins++aeG fp s.heap) σ H s:=
 I.aJG (jb ((SO).elim (cP (I8 (z0 z))) (cP (by
  rw[ajq hb (aVV z)];obtain⟨f0,f1,f2,_⟩:=Iv p.1;rw[atf o e' d (ho p.1 hb) e e'];cases e';exact⟨e,f0,f1,f2,d⟩))))
def Inv.xl{pins pl:gr}za nj(I:Inv X (pins++pl) σ H s):i9:=I.aJG (jb (I8 (z0 (agv hp))))
def a15{iter:Expr}aay{wi:TI}{g:uS}{tb:kO}D0(hp:akw)Bc(hi:aaM X cB wi)(hg:uP X cB g)(hb:sY X body tb)
  aan:l9 X (.For cB iter body [] pos) (a5c wi g tb):=by
 rw[sx D (wpAny_For (BU (hi pins s σ H _ I h) v s1 h1 (IK h1 itv h2)) hs)];obtain⟨it,fp,ri,J,H2,e,br,T,rt,f2,W,⟨m0,w0⟩,turn⟩:=h2;subst e;rw[cV Kk (∀{H':aR},(WT b b)->acd H') (λhn b hb=>⟨hn b hb,(f2 b hb).2⟩) (codeAny_forLoop_any (λn s'=>∃i σ' H',Nv X/\ri i s'.heap/\(WT b b)/\W i n σ' H') ?_ m0 ⟨0,σ,H2,br,rt,v5 (f2 b hb).1,w0⟩)];rintro n s3 ⟨i,σ3,H3,d?,aml,OW,w3⟩;rcases turn i n σ3 H3 w3 with⟨stop,Zw⟩ | ⟨go,N,hN,step⟩
 ·refine VR (qR (T.done X rfl rfl rfl hc i pins s3 σ3 H3 X.sS d? (Kk OW) aml stop) r wG ⟨hr,ru⟩);rw[f7 hr (aqt σ3 H3 ru Zw)]
 ·refine VR (qR (T.item X rfl rfl rfl hc i pins s3 σ3 H3 X.sS d? (Kk OW) aml go) r wG ⟨u,hr,h4⟩);subst hr
  refine VR (qR h4 _ ami ⟨x,H5,aya,al7,y5,Ut,aEN⟩);rw[cW ayb (aya.pinned (Kk aEN) (T.obj _ _ Ut)) (VR (qR (hg _ ami σ3 H5 x u _ ayb al7 (step x H5 y5)) _ awb ⟨σ6,ax6,ayc,aFz⟩))];rw[kD (VR (qR (hb _ awb σ6 ax6 _ ayc aFz) f TJ AI)) again (∀{σ7:St}{yT:aR},Inv X (pins++aeG fp ami.heap) σ7 yT TJ->N σ7 yT->∃m,m<n/\∃i σ' H',U3 X σ' H' TJ/\ri i TJ.heap/\(WT b b)/\W i m σ' H') (λ{σ7 yT} wO adl=>by
   rw[x9 m' hm gU (hN σ7 yT adl) ⟨m',hm,i+1,σ7,yT,wO.xl,T.keep _ _ _ Ut λb hb o e=>(wO.pin (b,o) (z0 (z0 (sk hb e)))).1,oX,gU⟩];rw[ù o e d (T.obj _ _ Ut b hb) (wO.pin (b,o) (z0 (z0 (sk hb e)))).2.1])]
  cases f with
  |next=>rw[Mk σ7 yT wO adl AI (again wO adl)]
  |cont=>rw[Mk σ7 yT wO adl AI (again wO adl)]
  |brk=>rw[LM σ7 yT wO AI AI σ7 yT wO.xl AI]
  |ret v=>rw[WA a8w σ7 yT wO a70 AI AI ⟨a8w,σ7,yT,wO.xl,a70,AI⟩]
universe zE
universe L2
namespace L2
open PySem PySem.Spec PyProof.Rows
noncomputable abbrev oB:=V->V->aR->jT
abbrev aFt gu(f:XN)(r:oB):Prop:=
 ∀oE(x y:V)(v u:Value)ze,i9->Lz->ab3->r x y H Q →
  Ċ (f v u) X Q
abbrev ayZ gu(f:E3 ahx)(r:V->aR->jT):Prop:=
 ∀afP aaD ze,i9->Lz->r x H Q →
  Ċ (f v) X Q
abbrev Y7 gu(f:Value)(r:dw->aR->jT):Prop:=
 ∀oE KZ Bf ze,i9->vC->r xs H Q →
  É f us (I4 X Q)
abbrev a5d gu(r:V->aR->cS (Bool->dZ)):Prop:=
 ∀afP aaD afx,i9->Lz->r x H Q →
  jU (truthy v) (anR X pins σ Q) s
abbrev amn(r:oB)aoV:TE:=R6 H x (tb σ H1 (mz y (r x y H2 Q)))
abbrev a8c(r:V->aR->jT)(ta:TE):TE:=R6 H x (r x H1 Q)
abbrev awa(C:Int->ak1)(g:Int->Int->V):oB:=λx y H Q=>∃i j,x=η i/\y=η j/\C i j/\Q (g i j) H
abbrev OX(g:Int->Int->V):oB:=λx y H Q=>∃i j,x=η i/\y=η j/\Q (g i j) H
abbrev aRS(g:Int->V):V->aR->jT:=λx H Q=>∃i,x=η i/\Q (g i) H
section
variable {X:bV}{a b c:Expr}{ta tb tc:TE}{pos:Pos}
def ay5 Pb O7 nj za{R:V->V->dZ}bX
  aNW rJ{f:XN}
  aM2:
  MO (mS a) v s₁ (jU (mS b) (λu s₂=>jU (f v u) Q s₂) s₁):=by
 rw[QA (akp s H _ I h v x) (IK (RM _) u ⟨y,H2,br,r2,aV⟩) (hf v u s2 x y H2 br r1 r2 aV)]
def a3x{op:Operator}{r:oB}(ho:nS (binaryOp op) r)Pb:gN (.BinOp a op b pos) (amn r ta tb):=by
 rw[QB s H Q I h (wpAny_BinOp (ay5 ha hb I h λv u s2 x y H2 br rx bl q=>ho pins s2 σ H2 x y v u Q br rx bl q))]
def a3y{op:UnaryOp}{r:V->aR->jT}(ho:ayZ X (unaryOp op) r)(ha:akZ):JI auR op a (a8c r ta):=by
 rw[QB s H Q I h (UnaryOp_ (RB (R3 s H _ I h) v x (ho pins s1 σ H1 x v Q aH r1 aE)))]
def aFs{f:XN}{C:Int->ak1}{g:Int->Int->Int}
  (rule:∀azh kP agc,C i j->ajL (η (g i j) s.toks) s 1->abS (f (η i t) (η j u))):
  nS f (awa C λi j=>η (g i j)):=by
 rw[Fg];obtain⟨i,j,rfl,rfl,hc,q⟩:=h;rw[r_ rx];rw[eg t' rfl bl (rule i j t t' s _ _ hc (Q_ (η (g i j)) H q))]
def aQi{f:XN}{g:Int->Int->Int}
  (rule:∀azh kP agc,ajL (η (g i j) s.toks) s 1->abS (f (η i t) (η j u))):
  nS f (OX λi j=>η (g i j)):=by
 rw[Fg];rw[dJ i j rfl q h];rw[r_ rx];rw[eg t' rfl bl (rule i j t t' s _ _ (Q_ (η (g i j)) H q))]
def an0{f:XN}{g:Int->apL}
  (rule:∀azh kP agc,Q (qQ (g i j)) s->abS (f (η i t) (η j u))):
  nS f (OX λi j=>.ah (g i j)):=by
 rw[Fg];rw[dJ i j rfl q h];rw[r_ rx];rw[eg t' rfl bl (rule i j t t' s _ _ (JL .ah (g i j) I q))]
abbrev a5e(i j:Int):Prop:=0<j/\Ï j
abbrev ay6(i j:Int):Prop:=(-(2 ^ 64)<i/\i<2 ^ 64)\/(-(2 ^ 64)<j/\j<2 ^ 64)
def ay6.ok{i j:Int}(h:ay6 i j):IntMulOk i j:=by
 rcases h with⟨h1,h2⟩ | ⟨h1,h2⟩
 ·exact .of_left (intBits_le_64 h1 h2)
 ·exact .of_right (intBits_le_64 h1 h2)
def a1t:zW Add (OX λi j=>η (i+j)):=aQi λ_ _ _ _ _ _ _ q=>add_int q
def a1u:zW Sub (OX λi j=>η (i-j)):=aQi λ_ _ _ _ _ _ _ q=>sub_int q
def a1v:zW Mult (awa ay6 λi j=>η (i*j)):=aFs λ_ _ _ _ _ _ _ hc q=>mul_int q hc.ok
def aZW:zW FloorDiv (awa a5e λi j=>η (i / j)):=aFs λi j _ _ _ _ _ hc q=>by
 rw[bM h1 (aU 0<j) hc.1 h2 (Ï j) hc.2];exact floordiv_int aB (by rw[au (Int.fdiv_eq_ediv_of_nonneg i aB) q]) (Ω (PyProof.noPylong_small aB))
def a1w:zW Mod (awa (cK j (0<j)) λi j=>η (i%j)):=aFs λi j _ _ _ _ _ hc q=>by
 rw[vI h1 (aU 0<j) hc (mod_int' aB (by rw[au (Int.fmod_eq_emod_of_nonneg i aB) q]))]
def a8i{f:E3 ahx}{g:Int->Int}
  (rule:∀pF(t:Tok)kP agc,ajL (η (g i) s.toks) s 1->abS (f (η i t))):
  ayZ X f (aRS λi=>η (g i)):=by
 intro pins s σ H x v Q I rx h;rw[iB i q h];rw[eg t rfl rx (rule i t s _ _ (Q_ (η (g i)) H q))]
def a1x:ayZ X (unaryOp .USub) (aRS λi=>η (-i)):=a8i λ_ _ _ _ _ q=>neg_int q
universe zE
section
variable {X:bV}{a b c:Expr}{ta tb tc:TE}{pos:Pos}
def aKn Bo pI{k k':Bool}bX(q:Q (.ah k) H)(e:k=k'):R9 X Q (qQ k') s:=by
 subst e;exact JL .ah k I q
def a3z:nS (compareOp .Lt) (OX λi j=>.ah (d! (i<j))):=an0 λ_ _ _ _ _ _ _ q=>lt_int q
def a3A:nS (compareOp .LtE) (OX λi j=>.ah (FE i j)):=an0 λ_ _ _ _ _ _ _ q=>le_int q
def a3B:nS (compareOp .Gt) (OX λi j=>.ah (d! (j<i))):=an0 λ_ _ _ _ _ _ _ q=>gt_int q
def a3C:nS (compareOp .GtE) (OX λi j=>.ah (FE j i)):=an0 λ_ _ _ _ _ _ _ q=>ge_int q
def a1y:nS (compareOp .Is) (λx y H Q=>y=.ai/\Q (.ah (gS x .ai)) H):=by
 rw[Fg];rw[Qo q h];cases bl;refine is_none_gen (aKn I q ?_)
 cases x<;>first
  | (cases rx;rfl)
  | (rw[abd rx])
def aZX:nS (compareOp .IsNot) (λx y H Q=>y=.ai/\Q (.ah (!(gS x .ai))) H):=by
 rw[Fg];rw[Qo q h];cases bl;refine isnot_none_gen (aKn I q ?_)
 cases x<;>first
  | (cases rx;rfl)
  | (rw[abd rx])
def aFt.or{f:XN}{r r':oB}(h:nS f r)(h':nS f r'):nS f (λx y H Q=>r x y H Q\/r' x y H Q):=by
 intro pins s σ H x y v u Q I rx bl q;rcases q with q | q
 ·exact h pins s σ H x y v u Q I rx bl q
 ·exact h' pins s σ H x y v u Q I rx bl q
def a9k(b:Expr)aaA(h:op≠.In:=by decide)(h2:op≠.NotIn:=by decide):apH op b:=by
 rw[bM e1 (u6 op CmpOp.In) (by cases op<;>first | rfl | rw[Rv h]) e2 (u6 op CmpOp.NotIn) (by cases op<;>first | rfl | rw[Rv h2])]
 cases b<;>simp[behindInMarks,e1,e2]
def aZY aaA{r:oB}(ho:agi r)Pb(hm:apH op b):gN (Ď a [op] [b] pos) (amn r ta tb):=by
 rw[QB s H Q I h (wpAny_Compare1 (ay5 ha hb I h λv u s2 x y H2 br rx bl q=>ho pins s2 σ H2 x y v u Q br rx bl q) hm)]
abbrev aLv(t:TE):kg:=r6 (t σ H λx H'=>∃k,x=.ah k/\nD k)
def aZZ aaA{r:oB}(ho:agi r)Pb(hm:apH op b):s6 X (Ď a [op] [b] pos) (aLv (amn r ta tb)):=by
 intro pins s σ H Q I h
 refine wpAny_isTrue_Compare1 (RB (R3 s H _ I h) v x (YL (RM _) λu s2 ⟨y,H2,br,r2,aV⟩=>
  qR (ho pins s2 σ H2 x y v u _ br r1 r2 aV) c s3 ⟨z,H3,d?,wF,k,e,cA⟩)) hm
 subst e;cases wF;exact wpAny_truthy_bool ⟨H3,d?,cA⟩
abbrev QP(r r':oB)(ta tb tc:TE):TE:=R6 H x (tb σ H1 (mz y (r x y H2 λz H3=>∃k,z=.ah k ∧
 (oN k (tc σ H3 λw' H4=>r' y w' H4 Q) (Q (qJ .ah) H3)))))
def QQ{op Z?:CmpOp}{r r':oB}(ho:agi r)(wR:nS (compareOp Z?) r')Pb(hc:gN c tc)
  aNS:gN (Ď a [op,Z?] [b,c] pos) (QP r r' ta tb tc):=by
 intro pins s σ H Q I h
 refine Compare_chain (RB (R3 s H _ I h) v x (chain_link (YL (RM _) λu s2 ⟨y,H2,br,r2,aV⟩=>
  qR (ho pins s2 σ H2 x y v u _ br r1 r2 aV) d s3 ⟨z,H3,d?,wF,k,e,cA⟩))) hm
 subst e;cases wF;rw[aA7 ?_];cases k with
 |false=>exact ite_ff (rY (.ah false) H3 d? cA)
 |true=>exact ite_tt (chain_last (xM (hc pins s3 σ H3 _ d? cA) w' wG z' H4 ru al6 Ga (wR pins wG σ H4 y z' u w' Q ru r2 al6 Ga)))
abbrev ay7 dz(x:V)jR(k:Bool):Prop:=
 match x with
 |.ai=>dj k
 |.ah b=>k=b
 |η i=>k=(i != 0)
 |av y=>jy y.length/\k=(aU y.length != 0)
 |.acq y=>jy y.size/\k=(aU y.size != 0)
 |Δ p=>(∃xs,iI K H p xs/\k=Qk)\/(∃xs,C5 K p/\k=Qk)\/∃kvs,H p=nu .bL/\k=arj
 |_=>False
def aU6 tg UE:(! vs.isEmpty)=arj:=by
 cases r<;>rfl
def aHx{xs:dw}{aC:b3}(r:Yc):aPq=Qk:=by
 cases r<;>simp
def aeH:(sizeLine:Nat)<2 ^ 63:=by rw[asO]
def a1z:a5d X (λx H Q=>∃k,ay7 X.K x H k/\Q k H):=by
 intro pins s σ H x v Q I rx h;obtain⟨k,e,q⟩:=h;rw[fG hl aeH hs (sizeLine=16777216) sizeLine_eq];cases x with
 |ai=>
  cases rx;have e':dj k:=e;rw[f7 e' (truthy_none ⟨H,I,q⟩)]
 |ah b=>
  cases rx;have e':k=b:=e;rw[f7 e' (wpAny_truthy_bool ⟨H,I,q⟩)]
 |int i=>
  rw[r_ rx];have e':k=(i != 0):=e;rw[f7 e' (PySem.P.truthy_int ⟨H,I,q⟩)]
 |str y=>
  rw[r_ rx];obtain⟨hy,e'⟩:jy y.length/\k=(aU y.length != 0):=e;rw[f7 e' (PySem.P.truthy_str aB ⟨H,lT,q⟩)]
 |acq y=>
  rw[r_ rx];obtain⟨hy,e'⟩:jy y.size/\k=(aU y.size != 0):=e;rw[f7 e' (PySem.W.truthy_bytes aB ⟨H,lT,q⟩)]
 |ref p=>
  cases rx;have e':(∃xs,iI X.K H p xs/\k=Qk)\/(∃xs,C5 X.K p/\k=Qk)\/∃kvs,H p=nu .bL/\k=arj:=e;rcases e' with⟨xs,hx,e'⟩ | ⟨xs,hx,e'⟩ | ⟨kvs,hx,e'⟩
  ·subst e';rw[x! r pl hz (I.list hx)];rw[xU hlen r.length (wpAny_truthy_list pl.isList (by rw[aP9];omega) ⟨H,lT,by rw[au (aHx r) q]⟩)]
  ·subst e';rw[x! r pl hz (I.tuple hx)];rw[xU hlen r.length (truthy_tuple pl (by rw[aP9];omega) ⟨H,lT,by rw[au (aHx r) q]⟩)]
  ·subst e';obtain⟨hz,hS,vs,r,m⟩:Sw/\HO p/\∃vs,Yw/\s.heap.DictOf qE p vs:=WW p hx;rw[vI hlen aLM aBH (wpAny_truthy_dict hS m aB ⟨H,lT,by rw[au (aU6 r) q]⟩)]
 |_=>exact(show False from e).elim
def QR(ha:akZ)(he:∀whole,ari a whole=(do let v ←whole;standAt a.pos;G8 [v] (truthy v))):
  s6 X a (r6 (ta σ H λx H'=>∃k,ay7 X.K x H' k/\nD k)):=by
 rw[QB s H Q I h (isTrue_plain (RB (R3 s H _ I h) v x (a1z pins s1 σ H1 x v Q aH r1 aE)) (he _))]
def vals1{x:V}Bg(r:SX [x]):∃u,us=[u]/\zh x:=by
 cases r with
 |cons r1 r2=>cases r2;exact h! _ r1
def vals2{x y:V}Bg(r:SX [x,y]):∃u w',us=[u,w']/\zh x/\ajK y:=by
 cases r with
 |cons r1 r2=>
  cases r2 with
  |cons wF al6=>cases al6;exact Cr _ r1 wF
def aVW Bc:FL "max" (λxs H Q=>∃i j,xs=[η i,η j]/\Q (η (arF (j > i) i)) H):=by
 rw[Yh s H Q I r h];obtain⟨i,j,rfl,q⟩:=h
 obtain⟨u,w',rfl,⟨t,rfl⟩,⟨t',rfl⟩⟩:=vals2 r;refine max_two_ints (I.ok.hd hc) λh' tk k=>⟨_,H,I.kept k,?_,q⟩;by_cases hj:j > i
 ·rw[ait hj hj];exact jD
 ·rw[atq,atq];exact jD
def aVX Bc:FL "min" (λxs H Q=>∃i j,xs=[η i,η j]/\Q (η (arF (j<i) i)) H):=by
 rw[Yh s H Q I r h];obtain⟨i,j,rfl,q⟩:=h
 obtain⟨u,w',rfl,⟨t,rfl⟩,⟨t',rfl⟩⟩:=vals2 r;refine min_two_ints (I.ok.hd hc) λh' tk k=>⟨_,H,I.kept k,?_,q⟩;by_cases hj:j<i
 ·rw[ait hj hj];exact jD
 ·rw[atq,atq];exact jD
def aVY:FJ (d5 "int") (λxs H Q=>(∃i,xs=[η i]/\Q (η i) H)\/∃k,xs=[.ah k]/\Q (η (agF k 0)) H):=by
 rw[Yh s H Q I r h];rcases h with⟨i,rfl,q⟩ | ⟨k,rfl,q⟩
 ·rw[Mk u rfl t rfl (vals1 r) (call_int_int ⟨η i,H,I,jD,q⟩)]
 ·rw[Hz u r1 r];cases r1;exact call_int_bool (Q_ (η (agF k 0)) H q)
universe zE
universe L2
namespace L2
open PySem PySem.Spec PyProof.Rows
structure ae5 Bp(x dx C:Addr)(mA:Str->gK):Prop where
 obj:h.get? x=aT (aCk C)
 ns:auS dx
 ne:dx≠x
def aVZ s9{dx:Addr}{mA:Str->gK}(n:auS dx):∃od,Ik dx od/\∀name,aAJ od=aT (mA name):=by
 obtain⟨o,es,ep,ho,hd,hk,_,hm⟩:=n;rw[d_ o ho (cJ name)];have e:=hm name;unfold nsFind findBy at e;rw[←Array.find?_toList]at e;unfold PySem.W.lookIn
 rw[g6 hd];split
 ·rename_i y q;rw[bF q e (aCO e)]
 ·rename_i q;rw[q]at e
  rw[bM a (dj aP1) (by
   rw[List.any_eq_false];intro y hy;obtain⟨z,t,a5f⟩:=hk y (Array.mem_toList_iff.mp hy);simp[DictEntry.refKey,a5f]) a' (¬(aL aP1)) (by rw[aqT a])]
  rw[Qf a' (aCO e)]
def ae5.look s9{x dx C:Addr}{mA:Str->gK}(I:ae5 h x dx C mA):∃od,PySem.W.InstAt h x (aCk C) C (some od)/\∀name,aAJ od=aT (mA name):=
 let⟨od,ho,hl⟩:=aVZ I.ns
 ⟨od,yh I.obj rfl ho,hl⟩
section
variable {prog:Program}{w:World}{A:Around}{E:iO}{s:Shared}{K:ff}{x dx C f:Addr}{mA:Str->gK}{name:Str}{v:Value}
def get_map{expr:Bool}rJ azK(hg:aqU K C name)(hh:aAO K C)
  (ha:aO (x_ (Δ C) name) none)(hv:pS (mA name))(hv':aPy v)(h:ajL v s 1):
  Ff (getAttr (Δ x) name expr):=by
 rw[Mg od J hl I.look (PySem.W.get_value X J aAR.1 (PySem.W.findObj_own hh ha rfl (kn hl hv)) hv' h)]
def aXt aOx azK(hg:aqU K C name)
  (hf:x_ (Δ C) name=XE f)(ht:aqD K (Δ f))(hv:bO (mA name))(h:Q (Δ f,[Δ x]) s):
  Ff (aAh (Δ x) name):=by
 rw[Mg od J hl I.look (PySem.W.method_fn X J aAR.1 aAR.2 hf (beq_iff_eq.mp ht) (by show aO ((aAJ od).map (·.isSome)) false;rw[hl,hv];rfl) h)]
def aZ0{ns:gM}Pd azK
  (hs:x_ (Δ C) "__setattr__" = aBt gy)(hp:aL (PySem.W.plainOver K C))(ht:aO (PySem.W.takerIn K C name) none)(hh:aAO K C)
  (hw:aBI ns)(hsz:aMH)
  (h:∀h',ae5 h' x dx C (MU y y name qH (mA y))->arf dx h'->Q () (BS s h' (Wv 2))):
  Ff (setAttr (Δ x) name v):=by
 rw[z8 od J hl I.look (PySem.W.set_plain X J hs (PySem.W.osa_open (s:=asx s 1) (r:=none) X J hp ht (cJ b)))];rw[ġ cd hc hd' (PySem.W.any_some hh) hx (Cd x ⟨Δ C,some dx,.plain,#[]⟩) I.obj (fC (Ml (fC (fC (wpAny_loadPart hx (fC (PySem.W.Looks.here (s:=asx s 1) (PySem.W.looks_clsIn X hc) ?_)))))))];rw[hd'];rw[gp (wpAny_pure (a:=some dx) (fC (Ml aCP))) (wpAny_nsSet1 (s:=asx s 1) I.ns (Fv uK GK))];obtain⟨a9Y,esD,a9H,a7m,a61,a6Z⟩:=uK.count (PySem.Within.cons name v hw);rw[M3 (fC (wpAny_lookBehind a7m (by rw[au a61 (pastItsLine_dict (S_ a6Z (by rw[nQ zE])))]) ?_)) (Ml (h _ ⟨HT GK _ (Ne.symm I.ne) I.obj,uK,I.ne⟩ GK))]
def aXu azu{vs:b3}{kw:LS}(X:ab8)(hm:aL (PySem.W.makesIn K C))
  (hi:x_ (Δ C) "__init__" = XE f)(hf:PySem.W.typeIn K (Δ f)=eL d5 "function")
  (h:codeAny mQ (akW (Δ C::vs) kw) (.call (Δ f) ⟨Δ iV::vs,kw⟩) (PySem.W.InitBack iV R)
   (mD s ((U1).push (agB C)))):
  L5 mQ A (.call (Δ C) (aub kw)) R s:=by
 obtain⟨hh,g,d,t,os⟩:=s;exact PySem.W.make_core (PySem.W.makes_of X hm) (PySem.W.looks_findIn X hi) (λself=>PySem.W.bind_fn X self hf) (Ω rfl) h
universe zE
abbrev ou wZ(v:V):Ce->Ce
 |[]=>[(f,v)]
 | (g,x)::r=>Wb (g=f) (g,v) r ((g,x)::ou f v r)
def aHg(f g:Str)(v:V):∀fs:Ce,xm (ou f v fs) g=vP g f qH (fs.lookup g)
 |[]=>by
  show List.lookup g [(f,v)]=_;rw[jq (g=f)]
  ·have hb:g5 (g == f):=aB2;simp only[List.lookup,hb,CJ]
  ·have hb:u6 g f:=aBk;simp only[List.lookup,hb,zH]
 | (k,x)::r=>by
  have ih:=aHg f g v r;rw[aaI (I6 (ou f v ((k,x)::r)) (Wb (k=f) (k,v) r ((k,x)::ou f v r))) hk (k=f)]
  ·rw[HM];rw[jq (g=k)]
   ·have hb:g5 (g == k):=aB2;simp only[List.lookup,hb,jB (h.trans hk)]
   ·have hb:u6 g k:=aBk;simp only[List.lookup,hb,vQ (λe:g=f=>h (e.trans hk.symm))]
  ·rw[jF hk];rw[jq (g=k)]
   ·have hb:g5 (g == k):=aB2;simp only[List.lookup,hb,vQ (λe:g=f=>hk (h.symm.trans e))]
   ·have hb:u6 g k:=aBk;simp only[List.lookup,hb];exact ih
def aGH wZ(v:V):∀fs:Ce,f∈gz (ou f v fs).map/\∀g,g∈ars->g∈gz (ou f v fs).map
 |[]=>⟨aK ou,λg h=>Cg⟩
 | (k,x)::r=>by
  obtain⟨i1,i2⟩:=aGH f v r;rw[aaI (I6 (ou f v ((k,x)::r)) (Wb (k=f) (k,v) r ((k,x)::ou f v r))) hk (k=f)]
  ·rw[HM];subst hk;rw[b4 Θ (λg h=>aX h)]
  ·rw[jF hk];rw[ahA ?_ g h]
   ·rw[au b6 (h_ i1)]
   ·rw[vJ b6];rcases EC with e | e
    ·exact List.mem_cons.mpr (Ω e)
    ·exact h_ (i2 g e)
def aHh wZ(v:V):∀fs:Ce,iF (ou f v fs) (fs.length+1)
 |[]=>aK ou
 | (k,x)::r=>by
  have ih:=aHh f v r;rw[aaI (I6 (ou f v ((k,x)::r)) (Wb (k=f) (k,v) r ((k,x)::ou f v r))) hk (k=f)]
  ·rw[HM,zE,zE];omega
  ·rw[if_neg hk,zE,zE];omega
def sR.Bi mj{o:gK}(r:sR qH o):∃u,o=dG/\nW:=by
 cases o with
 |none=>exact(Ķ).elim
 |some u=>exact h! u r
def sR.none_of{o:gK}(r:sR none o):bO o:=by
 cases o with
 |none=>rfl
 |some u=>exact(Ķ).elim
def aV0 mj qs(r:nW):aPy u:=by
 cases v with
 |ai=>cases(mH u Value.none r);rfl
 |ah b=>cases(mH u (Value.bool b) r);rfl
 |int i=>rw[xC e (abp t (u=Ô t))];cases e;rfl
 |str x=>rw[xC e (abp t (u=Õ t))];cases e;rfl
 |acq b=>rw[xC e (abp t (u=Value.bytes b t))];cases e;rfl
 |acy b=>rw[xC e (abp t (u=Value.float b t))];cases e;rfl
 |ref a=>cases(S3 u a r);rfl
 |ty n=>cases(mH u (Value.type n) r);rfl
section
variable {P:Program}{w:World}{H H':aR}{h h':Heap}{a C dx:Addr}{fs DN:Ce}
def axP(dy:Si)(e:H a=æ C):∃mA,ae5 h a dx C mA/\(∀f,sR Qj (mA f))/\aBI ars/\aML/\H dx=zm a:=by
 obtain⟨d,z,ne,ob,mA,n,r,q⟩:=(atg P w H h a (dD C dx fs) (dy a _ e))
 exact⟨mA,⟨ob,n,ne⟩,r,q,z,d⟩
universe zE
structure Mo UM:Prop where
 aFy:aqU K C Str.empty
 hd:aAO K C
 po:aL (PySem.W.plainOver K C)
 sa:x_ (Δ C) "__setattr__" = aBt gy
def Mo.get kQ qu(c:Mo K C)wZ:aqU K C f:=c.aFy
abbrev ZJ UM wZ:Prop:=aO (x_ (Δ C) f) none
def ZJ.a3D kQ qu GY(n:ZJ K C f):aO (PySem.W.takerIn K C f) none:=by
 rw[Hr PySem.W.takerIn (mH (x_ (Δ C) f) (some none) n)]
structure a8P UM wZ(v:V)GU:Prop where
 at_:x_ (Δ C) f=G! u
 rel:nW
 get:G_ (aBc K u) none
 cp:dj (PySem.W.copiedNames.contains f)
structure Meth UM(m:Str)(f:Addr):Prop where
 at_:x_ (Δ C) m=XE f
 fn:aqD K (Δ f)
 kp:VK K (Δ f)
section
variable {X:bV}{pins:gr}{σ:St}{H:aR}{s:Shared}{a C dx:Addr}{fs:Ce}{f:Str}{v:V}{A:Around}{E:iO}
def aU7 GW rJ bX azQ(n:ZJ X.K C f)(l:pS Qj)
  (h:∀u s',Mv->nW->Q u s'):Jj A (getAttr (Δ a) f b):=by
 obtain⟨mA,O,r,_,_,_⟩:=axP I.dy e;rw[Mg u hu cQ (asy v o (mA f) (by rw[cw l (r f)])) (get_map I.rq O (c.get f) c.hd n hu (aV0 cQ) (h u _ lT cQ))]
def aU8{m:Str}{g:Addr}aOx bX azQ(k:Meth X.K C m g)(l:bO (fs.lookup m))
  (h:Q (Δ g,[Δ a]) s):Jj A (aAh (Δ a) m):=by
 obtain⟨mA,O,r,_,_,_⟩:=axP I.dy e;rw[vI hn (bO (mA m)) (sR.none_of (by rw[cw l (r m)])) (aXt I.rq O (c.get m) k.at_ k.fn hn h)]
def aU9 aad Pd bX azQ(n:ZJ X.K C f)(hl:agl)D3
  (h:∀s',kH (qW a (dD C dx (ou f y fs))) s'->Q () s'):Jj A (setAttr (Δ a) f u):=by
 obtain⟨mA,O,r,wi,_,ho⟩:=axP I.dy e
 rw[cV hz (atG ars) (by rw[eP,sizeLine_eq];omega) (aZ0 I.rq O c.sa c.po n.a3D c.hd wi hz λh' O' sb=>h _ ?_)];have hd:∃o,h'.get? dx=cv:=let⟨o,_,_,e',_⟩:=O'.ns;⟨o,e'⟩;rw[akm (ase a e dx (by rw[Vd e]) (ay ho) (RC b q z sb z) hd ?_) ⟨by rw[au (kR O.ne) ho],?_,O.ne,O'.obj,_,O'.ns,cJ g,dB g hg⟩]
 ·rw[e9 (aHh f y fs)]
 ·show sR (xm (ou f y fs) g) (vP g f dG (mA g));rw[aaI aHg q (g=f)]
  ·rw[er (if_pos q) (if_pos q) bl]
  ·rw[as2 (if_neg q) q (r g)]
 ·by_cases q:g=f
  ·rw[gx q (aGH f y fs).1]
  ·refine(aGH f y fs).2 g (wi g (cP (hg ?_)));show bO (vP g f dG (mA g));rw[Qf q z]
def Inv.made bX:Inv X pins σ (t8 (xw (.own iV)) iV (dD C s.heap.objs.size []))
  (mD s ((U1).push (agB C))):=by
 rw[gv e1 (aO ((U1).get? s.heap.objs.size) PySem.W.emptyDict) (E0 s.heap) e2 (((U1).push (agB C)).get? iV=aT (agB C)) (by
  rw[M6 (Heap.get?_push_size U1 (o:=agB C) rfl) Heap.size_push]) e3 ((U1).Ns s.heap.objs.size (Xr _)) ⟨PySem.W.emptyDict,#[],_,e1,rfl,(abF e he he),BD⟩]
 rw[cW aH (I.laid (a:=s.heap.objs.size) (o:=.own iV) (h':=U1) (t':=s.toks) (vF u q q) fh ⟨_,e1⟩) (aH.laid (a:=iV) (o:=dD C s.heap.objs.size []) (t':=s.toks) (vF u q q) (Nat.le_of_eq (Heap.size_push _ _)) ?_)];rw[tD ne (s.heap.objs.size≠iV) (oK aCm) ⟨kn (kR ne) g8,yb,ne,e2,Xr _,(Heap.Ns1.of_empty e3).at λo q=>pT q,λ_=>True.intro,Ve y hy rfl hy⟩]
def aZ1 azU UH GV GY D0 nj rJ(hb:attributeBase e f env (Ė e)=Ė e)
  (h:pP mQ A (Ė e) (λo s₁=>mC mQ A (getAttr o f true) Q E s₁) E):Ff (Ė (SJ e f pos)):=
 Attribute_any_ h (kn arm_eval_Attribute hb)
universe zE
abbrev a5g dz(ta:TE)wZ:TE:=R6 H x (∃a C dx fs v,x=Δ a/\H1 a=æ C/\Mo K C/\ZJ K C f/\pS Qj/\Q v H1)
abbrev a5h dz(ta yN:TE)wZ:kO:=λD σ H=>yN σ H (vh y (ta σ H1 (mz x (∃a C dx fs,x=Δ a/\H2 a=æ C/\Mo K C/\ZJ K C f/\agl ∧
 ajM (t8 H2 a (dD C dx (ou f y fs)))))))
section
variable {X:bV}{o e value:Expr}{f:Str}{pos pos' Gm:Pos}{ta yN:TE}
def a1A(he:gN e ta)(hb:apt e f (mS e)=mS e):JI SJ e f (a5g X.K ta f):=by
 intro pins s σ H Q I h;refine aZ1 hb (nR (CU s σ H _ I h) u ⟨x,H1,aH,rx,a,C,dx,fs,v,ex,ea,c,n,l,q⟩);subst ex;obtain rfl:u=Ip:=rx;exact aU7 aH ea c n l λu' s2 br cQ=>⟨v,H1,br,cQ,q⟩
def a1B(ha:gN o ta)(hv:gN value yN)(hs:apC value (aT (SJ o f pos'))=Yy):l9 X (CT [SJ o f pos'] value pos) (a5h X.K ta yN f):=by
 intro pins s σ H D I h;refine plainObj_wpAny_Assign_Attribute (xM (hv pins s σ H _ I h) u s1 y H1 aH bl q (IK (R3 s1 H1 _ aH q) ov ⟨x,H2,br,rx,a,C,dx,fs,ex,ea,c,n,l,aV⟩)) hs;subst ex;obtain rfl:ov=Ip:=rx;exact aU9 br ea c n l bl λs3 d?=>⟨σ,_,d?,aV⟩
universe zE
section
variable {X:bV}{pins:gr}{σ:St}{H:aR}{s:Shared}{A:Around}{E:iO}{Q:iO}{c:Value}{b:Bool}
inductive Bz dz jR:V->cS Value where
 |ai:Bz K H .ai (d5 "NoneType")
 |ah(x:Bool):Bz K H (.ah x) (d5 "bool")
 |int pF:Bz K H (η i) (d5 "int")
 |str nr:Bz K H (av x) (d5 "str")
 |acy(x:UInt64):Bz K H (.acy x) (d5 "float")
 |lst jh{xs:dw}(e:H a=h7):Bz K H (Δ a) ED
 |cz jh{o:Obj}{xs:dw}(e:H a=sf .cz (ς xs)):Bz K H (Δ a) ED
 |tup jh{xs:dw}(e:H a=vD):Bz K H (Δ a) Jc
 |bL jh O8 afY:Bz K H (Δ a) (d5 "dict")
 |dT jh KQ apf:Bz K H (Δ a) (d5 "dict")
 |ins{a C dx:Addr}{fs:Ce}(e:H a=æ C)(cl:Mo K C)(ha:x_ (Δ C) "__class__" = aAT gy)
   (hn:aBc K I? = aAp gy)(htk:PF (PySem.W.takesIn K I?))
   (hm:aCc K C akT):Bz K H (Δ a) (Δ C)
universe zE
universe L2
namespace L2
open PySem PySem.Spec PyProof.Rows
structure JY l!(A:Around):Prop where
 hd:aMI
 dp:A.depth+3*k+5<recursionLimit
 un:è (A.units+16*k+200)
def JY.mono afK uU(r:rN A)afL:JY j A:=⟨r.hd,by rw[e9 r.dp],by rw[e9 r.un]⟩
def JY.deeper ee uU(r:JY (k+1) A)(env:Env):rN (A.deeper env):=
 ⟨r.hd,by have:=r.dp;rw[Q6 (A.depth+1+3*k+5<_)],by have:=r.un;rw[Q6 (A.units+3+16*k+200<_)]⟩
def aVa uU qu Bg{kw:LS}:(akW (Δ C::us) kw).depth=A.depth+1:=by
 first | rfl | simp[Around.under,Code.weight,Code.isCreation,Code.isGuard,Code.isCaller,Code.frames,Code.isFrame,guardIds]
def aVb uU qu Bg{kw:LS}:(akW (Δ C::us) kw).units=A.units+1:=by
 first | rfl | simp[Around.under,Code.cUnits,Code.frames,Code.isFrame]
def JY.make ee uU(r:JY (k+1) A)nk Bf(kw:LS):rN (akW (Δ C::us) kw):=
 ⟨r.hd,by have:=r.dp;rw[nQ aVa],by have:=r.un;rw[nQ aVb]⟩
def JY.depth ee uU(r:rN A):A.depth<recursionLimit:=by rw[e9 r.dp]
def JY.units ee uU(r:rN A):az9 64:=by rw[e9 r.un]
abbrev an1:ni:=λ_ H Q=>Q [] H
abbrev aeR(ta:TE)(tr:ni):ni:=R6 H x (tr σ H1 (mz xs (Q (x::xs) H2)))
section
variable {X:bV}{e:Expr}{es:dI}{te:TE}{t:ni}{pos:Pos}
def aeB:qo X [] an1:=λ_ _ _ _ H Q I h=>Calls.spliced_nil ⟨[],H,I,c_,h⟩
def va(ha:az7)(hr:qo X es t)azd:qo X (e::es) (aeR te t):=by
 intro pos pins s σ H Q I h;rw[hs];show pP _ _ (spliced (ab2::Yv es)) _ _;rw[M3 (VM (akp s H _ I h u x)) (xM (hr pos pins s1 σ H1 _ aH aE) us s2 xs H2 br r2 aV ⟨x::xs,H2,br,bW r1 r2,aV⟩)]
abbrev a5i(t:ni):TE:=Nn H xs (Md/\∀p,ů p->Q (Δ p) (Jd H1 p aW xs))
abbrev a5j(t:ni):TE:=Nn H xs (Md/\∀p,ů p->Q (Δ p) (Ez H1 p xs))
def a1C{x1}(h:qo X es t):JI MT es x1 (a5i t):=by
 intro pins s σ H Q I hq;refine wpAny_Tuple_spliced (BU (h pos pins s σ H _ I hq) us s1 ⟨xs,H1,aH,r,z,q⟩ (k7 (by rw[cw r.length z])));rw[tD hf aPK Ry (rY (Δ s1.heap.objs.size) (Jd H1 s1.heap.objs.size aW xs) (aH.laid (t':=s1.toks) (vF u e e) fh ?_) (q _ hf))];exact⟨z,us,r,kX _ (E0 _) _ rfl⟩
def a1D(h:qo X es t):gN (.List es pos) (a5j t):=by
 intro pins s σ H Q I hq;refine wpAny_List_spliced (BU (h pos pins s σ H _ I hq) us s1 ⟨xs,H1,aH,r,z,q⟩ (k7 (by rw[cw r.length z])));rw[tD hf aPK Ry (rY (Δ s1.heap.objs.size) (Ez H1 s1.heap.objs.size xs) (aH.laid (t':=s1.toks) (vF u e e) fh ?_) (q _ hf))];exact⟨z,us,0,r,E0 _⟩
universe zE
noncomputable abbrev wV:=dw->aR->afq->cS d8
noncomputable abbrev sV:=D?->aR->Shared->d8->iO
structure Kt DW Uz aov kP jR:Prop where
 frames:aO A.frames outer
 mod:Mod K mg base
 bs:∀b o,base.get? b=cv->kr/\jX
 Z9:base.objs.size≤s.heap.objs.size
 AV:s.heap.FunFrames base outer
 Us:G9 ET jX
 dy:FI H s.heap
 bare:aMf
abbrev aw9(outer:D?)DW jR kP ze GU KL:Prop:=
 ∃v H',s'.os=s.os/\ó/\iL ET [] H H' s.heap s'.heap/\FI H' s'.heap/\nW/\nD v
abbrev aSN(fT:sV)(outer:D?)DW jR kP ze(E:d8)(r:Result)KL:Prop:=
 match r with
 |.ok (.ret u)=>aw9 outer P w H s Q u s'
 |.ok _=>False
 |.error e=>fT outer H s E e s'
structure rf DW Uz(fT:sV)l!(f:Addr)apq(ps:gM)(sp:wV):Prop where
 len:∀vs H Q E,sp vs H Q E->aCX
 run:∀aov kP jR(args:Args)Bf D6 ze(E:d8),rN A->Kt P w K mg base A outer s H->BindsTo s fd args WG->RZ->sp vs H Q E →
  L5 (model P w) A (.call (Δ f) args) (aSN fT outer P w H s Q E) s
def rf.mono KY{fT:sV}afK aoI{sp:wV}(F:rf P w K mg base fT j f fd ps sp)afL:
  rf P w K mg base fT k f fd ps sp:=⟨F.len,λA outer s H args us vs Q E hr=>F.run A outer s H args us vs Q E (hr.mono h)⟩
def rf.imp KY{fT:sV}ee aoI{sp aRU:wV}(F:rf P w K mg base fT k f fd ps sp)
  (h:∀vs H Q E,aRU vs H Q E->sp vs H Q E):rf P w K mg base fT k f fd ps aRU:=
 ⟨λvs H Q E q=>F.len vs H Q E (h _ _ _ _ q),λA outer s H args us vs Q E hr he hb hv hs=>F.run A outer s H args us vs Q E hr he hb hv (h _ _ _ _ hs)⟩
def Kt.make KY uU Pf nj iM(e:Kt P w K mg base A outer s H)nk Bf(kw:LS):
  Kt P w K mg base (akW (Δ C::us) kw) outer s H:=⟨by first | exact e.frames | (simpa[Around.under,Code.envs,Code.isFrame,pushEnvs] using e.frames),e.mod,e.bs,e.Z9,e.AV,e.Us,e.dy,e.bare⟩
section
variable {X:bV}{pins:gr}{σ:St}{H:aR}{s s':Shared}
def Inv.aQj bX:Kt X.prog X.w X.K X.mg X.base X.A X.stack s H:=
 ⟨I.ok.frames,I.ok.mod,I.bs,apQ I.sz,I.stack,I.FC,I.dy,I.bare⟩
def Inv.after pI qs bX(h:aw9 X.stack X.prog X.w H s Q u s'):R9 X Q u s':=by
 obtain⟨v,H',os,bare,un,dy,r,q⟩:=h;obtain⟨hh,g,d,t,os'⟩:=s';obtain rfl:os'=s.os:=os;exact⟨v,H',I.call (h':=hh) (g':=g) (d':=d) (t':=t) (ch:=[]) un dy bare (abF b z z),r,q⟩
universe zE
abbrev Binds dz apq(ps:gM)(ds:b3):Prop:=
 ∀kP Bf,ab8->atn (us++ds)->BindsTo s fd (rV us) (ps.zip (us++ds))
def Binds.all kQ{fd:FuncData}{ps:gM}(h:∀us:b3,aCW->aDr fd us=Hv WG):Nq K:=λs us _ hl=>by
 rw[tP j? hl (.of_eq (h us hl))]
abbrev Passes(fT:sV)gu(E:d8):Prop:=∀(pins:gr)afR kP aoG,i9->fT X.stack H s E e s'->X.sS e s'
section
variable {X:bV}{fT:sV}{k:Nat}{f C:Addr}{fd:FuncData}{ps:gM}{sp:wV}{DK:dw}{ds:b3}{E:d8}{x m:Str}{p pos apos:Pos}{e o:Expr}{es:dI}{ta:TE}{t:ni}
structure ayE dz(C f:Addr):Prop where
 makes:aL (PySem.W.makesIn K C)
 init:x_ (Δ C) "__init__" = XE f
 fn:aqD K (Δ f)
 kp:VK K (Δ C)
universe zE
section
variable {X:bV}{fT:sV}{k:Nat}{f C:Addr}{fd:FuncData}{ps ks:gM}{sp:wV}{E:d8}{x m:Str}{p pos apos a9u:Pos}{e o:Expr}{es:dI}{kws:YE}{te ta:TE}{t tk:ni}{nm:Option Str}
structure a9l dz apq(ps ks:gM)(g:b3->b3->b3)(aQ6:dw->dw->dw):Prop where
 to:∀kP(us ws:b3),ab8->atn (g us ws)->BindsTo s fd ⟨us,ks.zip ws⟩ (ps.zip (g us ws))
 rel:∀w4 Bg{zs:dw}{ws:b3},RZ->Vals zs ws->Iq (aQ6 vs zs) (g us ws)
variable {g:b3->b3->b3}{aQ6:dw->dw->dw}
universe zE
structure agE(N P:gM)(sc:Scope):Prop where
 kind:sc.kind=Il
 co:aMt
 gen:aMu
 nd:N.Nodup
 pre:N.take P.length=P
 par:∀x∈P,Ì xE \/ akI
 a1E:∀y∈sc.names,y.2≠k!
def aHU ao4:∀{binds:LS}afB,(∀v,(x,v)∉binds)->arl binds m x=m x
 |[],_,_=>rfl
 | (n,v)::r,m,h=>by
  rw[dO bindL (aHU λw hw=>h w (h_ hw))];split
  ·have:x≠n:=by rintro rfl;exact aA8 v
   simp[this]
  ·rfl
def aHV ao4:∀{binds:LS}afB,(∀v,(x,v)∉binds)->arn binds m x=m x
 |[],_,_=>rfl
 | (n,v)::r,m,h=>by
  rw[dO bindC (aHV λw hw=>h w (h_ hw))];split
  ·rfl
  ·have:x≠n:=by rintro rfl;exact aA8 v
   simp[this]
def aHW ao4 afI:∀{P:gM}{vs:b3}gV afB,P.Nodup->jl P x->u? vs->aO (kindOf x) xE →
  pS (arl Ę m x)
 |[],_,_,_,_,h,_,_=>Cg
 |_::_,[],_,_,_,_,h,_=>Cg
 |p::P,w::vs,0,m,nd,h1,h2,hk=>by
  simp at h1 h2;subst h1;subst h2;show arl ((p,w)::Ę) m p=_;rw[iT bindL (aHU λv hv=>aqX.1 aMq.1) HM];simp
 |p::P,w::vs,i+1,m,nd,h1,h2,hk=>by
  rw[QY (arl ((p,w)::Ę) m x=_) bindL];exact aHW (i:=i) aqX.2 (aX h1) (aX h2) hk
def aHY ao4 afI:∀{P:gM}{vs:b3}gV afB,P.Nodup->jl P x->u? vs->kindOf x≠some xE →
  pS (arn Ę m x)
 |[],_,_,_,_,h,_,_=>Cg
 |_::_,[],_,_,_,_,h,_=>Cg
 |p::P,w::vs,0,m,nd,h1,h2,hk=>by
  simp at h1 h2;subst h1;subst h2;show arn ((p,w)::Ę) m p=_;rw[iT bindC (aHV λv hv=>aqX.1 aMq.1) (if_neg hk)];simp
 |p::P,w::vs,i+1,m,nd,h1,h2,hk=>by
  rw[QY (arn ((p,w)::Ę) m x=_) bindC];exact aHY (i:=i) aqX.2 (aX h1) (aX h2) hk
abbrev start(N:gM)D6:St:=vs.map some++agr (N.length-vs.length) none
abbrev sQ(fT:sV)DW Uz(N:gM)(qual:Str)(scope:Scope)(f:Addr)(cd:Value)Uu:bV where
 prog:=P
 w:=w
 K:=K
 mg:=mg
 base:=base
 A:=A.deeper oJ
 N:=N
 s₀:=s
 H₀:=H
 env:=oJ
 outer:=outer
 stack:=Ĉ
 ex:=[]
 calm:=true
 fn:=EB
 gi:=[]
 sS:=λe s'=>mC (model P w) (A.deeper oJ) (leaving oJ e) (cK s'' (fT outer H s E e s'')) (λe' s''=>fT outer H s E e' s'') s'
def aIp{sc:Scope}bk eS(h:akI):∃c,rS (cellsFrom n sc.names []) x c:=by
 rw[xU q (PySem.W.cellsFrom_some sc.names n [] (Ω h)) (Option.isSome_iff_exists.mp q)]
def aV1{fT:sV}KY O6 apl apa uU Pf{s s1:Shared}iM Bk Bg w4
  azk(hd:aMI)(e0:Kt P w K mg base A outer s H)(hl:aCX)(r:RZ)
  (x:InCallC s s.heap.objs.size (bindL (oJ).kindOf WG (Xr _)) (cellsFrom iV scope.names []) (bindC (oJ).kindOf WG (Xr _)) s1):
  Inv (sQ fT P w K mg base N qual scope f cd A outer s H E) [] (aiR N) H s1:=by
 have i8:VJ N.length:=by rw[vz (HZ S.pre) List.length_take];omega
 obtain⟨h1,tk,rfl,hk⟩:=x.done;rw[tD alX (∀b:Addr,b∉(sQ fT P w K mg base N qual scope f cd A outer s H E).ex) (abF b z (Ě b ([]:c5) z)) ⟨⟨e0.mod,S.kind,rfl,rfl,fh,lV y z c h1 h2,dB y hy,i? y c _ h,λ_=>hd,Around.frames_deeper e0.frames,ay (kS rfl),Ve b z z (alX b),e0.bs,e0.Z9,λb _ _=>alX b,Ve b z z (alX b),e0.AV,e0.Us⟩,
  rfl,e0.bare,iL.kept hk,⟨_,x.toInCall.ns,xX i y v h1 h2 h3⟩,λy c h=>⟨_,x.cell y c h⟩,e0.dy.fresh fh,cM y c h,abF p hp (Ě p ([]:gr) hp),e0.dy.kept hk,?_⟩]
 ·exact name_of_addr x.apart (PySem.mem_of_lookup h1) (PySem.mem_of_lookup h2)
 ·have hy:Å y oR\/Å y k!:=hy;rcases hy with hy | hy
  ·exact aIp hy
  ·rw[Rv (S.a1E _ (PySem.mem_of_lookup hy))]
 ·exact asb (x.above y c aPG)
 ·rw[bM hi (i<vs.length) (by
   unfold start at h2;by_cases hi:i<vs.length
   ·exact hi
   ·rw[aBb X6]at h2;rw[aBp h2];split at h2<;>cases h2) ha (u? vs) (by
   unfold start at h2;rw[ú X6,g_]at h2;cases e:vs[i]? with
   |none=>rw[e]at h2;cases h2
   |some a=>rw[e]at h2;cases h2;rfl)]
  obtain⟨u,hu,rv⟩:=r.get ha
  rw[bM hp (jl ps y) (by
   rw[←S.pre,List.getElem?_take_of_lt aB];exact h1) aRI ps.Nodup (by rw[cw S.pre (S.nd.sublist (List.take_sublist _ _))])]
  rw[d_ u rv ?_];rcases S.par y (List.mem_of_getElem? hp) with k | k
  ·exact FH k (aHW aRI hp hu k)
  ·rw[ajq c (aIp (n:=iV) k)];rw[Et (ay ⟨Ω k,c,e,?_⟩) q (x.cell y c e)];rw[bF (aHY aRI hp hu (by show scope.names.lookup y≠_;rw[k];decide)) q q]
 ·exact e0.dy.fresh (asb (x.above y c aPG))
 ·unfold start;show _=N.length;rw[List.length_append,eP,List.length_replicate];omega
def a3E{fT:sV}KY ee{f:Addr}{name qual:Str}{params:Arguments}aay af2{dV kV doc pm md ct oc:Value}{an od:US}
  {OY:Array gK}O6{sp:wV}(lk:ar5 f ⟨oc,od,.func (abZ name params body scope dV pm an md ct),OY⟩)(yU:aq7 K md qual)azk
  (len:∀vs H Q E,sp vs H Q E->aCX)
  (a3F:∀aov kP jR D6 ze(E:d8),rN (A.deeper (envOfC qual scope s.heap.objs.size f md))->sp vs H Q E →
   ∃t,sY (sQ fT P w K mg base N qual scope f md A outer s H E) body t/\t { nx:=cK H' (nD .ai),eW:=Q} (aiR N) H):
  rf P w K mg base fT (k+1) f (abZ name params body scope dV pm an md ct) ps sp:=by
 rw[fF len (λA outer s H args us vs Q E hr e0 hb r OZ=>?_)];rw[pM hl (len _ _ _ _ OZ) iw ab8 (e0.mod.ac4.keeps λb o e=>(e0.bs b o e).1) lim s.heap.NoLimit (e0.mod.nolimit.keeps λb o e=>(e0.bs b o e).1)]
 rw[cV anx (∀y∈WG,Å y.1 xE \/ (Å y.1 oR/\Aa (xm (cellsFrom iV scope.names []) y.1))) (fun⟨n,v⟩ hy=>by
  rcases S.par n (List.of_mem_zip hy).1 with q | q
  ·exact Ω q
  ·exact o4 q (PySem.W.cellsFrom_some _ _ _ (Ω q))) (codeAny_call_function hr.depth (iw _ _ lk) rfl S.co S.gen rfl (PySem.W.codeRec_of iw yU) (hb _ _ _ _ ?_))]
 refine wpAny_newFunctionEnv_cells S.kind anx (i? env he s1 x);subst he;rw[fF (lim.keeps x.toInCall.keep) (codeAny_func ?_)];rw[ġ t ht hq (a3F A outer s H vs Q E (hr.deeper _) OZ) I (Inv (sQ fT P w K mg base N qual scope f md A outer s H E) [] (aiR N) H s1) (aV1 S hr.hd e0 hl r x) (Lw (ht [] s1 (aiR N) H _ I hq) (cM fl s' hs) e s' hs hs)]
 have fin:∀{σ':St}{H':aR}mj qs,aaL (sQ fT P w K mg base N qual scope f md A outer s H E) [] H' s'->nW->nD v->aw9 outer P w H s Q u s':=
  λ{σ' H' v u} J rv q=>⟨v,H',J.os,J.bare,J.base,J.dy,rv,q⟩
 cases fl with
 |ret u=>
  obtain⟨v,σ',H',J,rv,q⟩:=hs;exact fin J rv q
 |next=>
  rw[Mk σ' H' J q hs (fin (v:=V.ai) (u:=Value.none) J rfl q)]
 |brk=>
  obtain⟨_,_,_,q⟩:=hs;rw[BV q]
 |cont=>
  obtain⟨_,_,_,q⟩:=hs;rw[BV q]
universe L2
namespace L2
open PySem PySem.Spec PyProof.Rows
section
variable {X:bV}{x:Str}{p pos:Pos}{e:Expr}{es:dI}{t:ni}{id T:String}{r:dw->aR->jT}
abbrev aFX(r:dw->aR->jT)(t:ni):TE:=Nn H vs (r vs H1 Q)
def aIq(hc:FL id r)ao9(hv:Mb=Ţ id)af3 aol
  Uy:IU (di x p) (e::es) pos (aFX r t):=by
 rw[sx Q (VN (aen I hg hm hv ?_ hn Km))];exact PyProof.Rows.callWith_builtin1 (RB (ha pos pins s σ H _ I h) us vs (hc pins s1 σ H1 vs us Q aH r1 aE)) he i8
def aV2(hc:FJ (d5 T) r)ao9(hv:Mb=eL d5 T)af3 aol
  Uy:IU (di x p) (e::es) pos (aFX r t):=by
 rw[sx Q (VN (aen I hg hm hv ?_ hn Km))];exact ap8 (RB (ha pos pins s σ H _ I h) us vs (hc pins s1 σ H1 vs us Q aH r1 aE)) he i8
universe zE
universe L2
namespace L2
open PySem PySem.Spec PyProof.Rows
section
variable {κ:Type} [BL]
abbrev F9 afA:HW:=G4 (kvs.find? (MZ (jZ=k))).map
abbrev putK afA(v:V):Ea:=
 ag2 (aha kv (jZ=k)) (kvs.map (λkv=>ajD (jZ=k) v kv)) (kvs++[(k,v)])
abbrev Oj afA:Ea:=kvs.filter (pX kv jZ k)
def xn{p:κ×V}{r:Ea}{k:κ}(e:p.1=k):aO (F9 (p::r) k) p.2:=Qt F9 e
def xp{p:κ×V}{r:Ea}{k:κ}(e:¬p.1=k):F9 (p::r) k=F9 r k:=Qt F9 e
def aIr qw:∀kvs:Ea,(aha kv (jZ=k))=nI yl
 |[]=>rfl
 |p::r=>by
  rw[List.any_cons];rw[uh p k]
  ·simp only[xn e,aLR,Bool.true_or,Option.isSome_some]
  ·rw[xp e,aMy,Bool.false_or];exact aIr k r
def aF2 afA(v:V):iF (zI k v) (kvs.length+1):=by
 unfold putK;split
 ·rw[nQ eP]
 ·rw[List.length_append,zE,m9];omega
def sR.adC{o:HW}{u:gK}(r:sR o u):o.isSome=u.isSome:=by
 cases o with
 |none=>cases u with
  |none=>rfl
  |some _=>exact(Ķ).elim
 |some _=>cases u with
  |none=>exact(Ķ).elim
  |some _=>rfl
def sR.getD{o:HW}{u:gK}{d:V}{d':Value}(r:sR o u)(rd:RelV d d'):RelV (o.getD d) (u.getD d'):=by
 cases o with
 |none=>cases u with
  |none=>exact rd
  |some _=>exact(Ķ).elim
 |some _=>cases u with
  |none=>exact(Ķ).elim
  |some _=>exact r
def jQ.val UE qw:sR yl (WH vs):=by
 unfold jQ at r
 induction r with
 |nil=>exact True.intro
 |@cons p q ps cN h t ih=>
  rw[vE h];rw[uh p k]
  ·rw[bM e' (q.1=k) agR b (aO (WH (q::cN)) q.2) (Qt valueAt e')]
   rw[er (xn e) b h2]
  ·rw[bM e' (¬q.1=k) (cP (e aiv)) b (WH (q::cN)=WH cN) (Qt valueAt e')]
   rw[er (xp e) b ih]
def jQ.any UE qw:(aha kv (jZ=k))=vs.any (MZ (jZ=k)):=by
 unfold jQ at r
 induction r with
 |nil=>rfl
 |cons h t ih=>rw[List.any_cons,List.any_cons,ih,h.1]
def jQ.ay8 UE qw aad D3:
  jQ (EH kv (ajD (jZ=k) y kv)) (vs.map λkv=>ajD (jZ=k) u kv):=by
 unfold jQ at r⊢
 induction r with
 |nil=>rw[vL]
 |@cons p q ps cN h t ih=>
  rw[b6,b6];refine bW ?_ ih;rw[vE h];rw[uh p k]
  ·rw[xF,jB agR];rw[b4 h1 bl]
  ·rw[vg,rO z (e aiv)];rw[b4 h1 h2]
def jQ.put UE qw aad D3:jQ (zI k y) (stored vs k u):=by
 unfold putK stored;rw[r.any k];rw[rR e (vs.any (MZ (jZ=k)))]
 ·rw[er xF xF (r.ay8 k bl)]
 ·rw[er vg vg (Paired.snoc r (j3 bl))]
def jQ.drop UE qw:jQ (Oj kvs k) (without vs k):=by
 unfold jQ at r⊢;unfold Oj without
 induction r with
 |nil=>rw[vL]
 |@cons p q ps cN h t ih=>
  rw[vE h];rw[aAF List.filter_cons];rw[uh p k]
  ·rw[bM a (¬(Ĩ (p.1≠k))) IB b (¬(Ĩ (q.1≠k))) (aK agR)]
   rw[er (if_neg a) (if_neg b) ih]
  ·rw[gv e' (¬q.1=k) (cP (e aiv)) a (Ĩ (p.1≠k)) IB b (Ĩ (q.1≠k)) (aK e')]
   rw[er (if_pos a) (if_pos b) (bW ⟨h1,h2⟩ ih)]
def jQ.length UE:aLM:=aBH
def aIs afA:iF (Oj kvs k) kvs.length:=Jh
universe zE
def Gb uT D5 qs(r:zh (kV k)):aL ((Df P w).is k u):=by
 cases k with
 |inl i=>rw[xC e (abp t (u=Ô t))];rw[f7 e (aUf P w i t)]
 |inr x=>rw[xC e (abp t (u=Õ t))];rw[f7 e (aUg P w x t)]
def aHZ uT:∀{ks:pL}Bg,SX atw->ItemsAre (Df P w) ks us
 |[],_,r=>by rw[zD]at r;cases r;rw[vL]
 |k::ks,_,r=>by
  rw[b6]at r;cases r with
  |cons h t=>exact bW (Gb h) (aHZ t)
noncomputable abbrev KT jR:au6->cS apy:=Paired λp q=>p.1=q.1/\H q.2.1=vR (p.1.map kV)/\RelV p.2 q.2.2
def KT.val iM KQ apc(k:pL):sR yl (G4 (Xu xs).map):=by
 induction r with
 |nil=>exact True.intro
 |@cons p q ps cN h t ih=>
  obtain⟨h1,_,h2⟩:=h;rw[uh p k]
  ·rw[bM e' (q.1=k) agR b (aO (Xu (q::cN)) q.2) (Qt atKey e')]
   rw[er (xn e) b h2]
  ·rw[bM e' (¬q.1=k) (cP (e aiv)) b (Xu (q::cN)=Xu cN) (Qt atKey e')]
   rw[er (xp e) b ih]
def KT.ay8 iM KQ apc(k:pL)aad D3:
  KT H (EH kv (ajD (jZ=k) y kv)) (xs.map (putAt k u)):=by
 induction r with
 |nil=>rw[vL]
 |@cons p q ps cN h t ih=>
  rw[b6,b6];refine bW ?_ ih;obtain⟨h1,h2,h3⟩:=h;unfold putAt;rw[uh p k]
  ·rw[xF,jB agR];rw[b5 h1 h2 bl]
  ·rw[vg,rO z (e aiv)];rw[b5 h1 h2 h3]
def KT.put iM KQ apc(k:pL){b:Addr}aad(hb:H b=vR aiS)D3:
  KT H (zI k y) (storedH xs k b u):=by
 have e:(aha kv (jZ=k))=nI (Xu xs):=by
  rw[aIr,(r.val k).adC,Option.isSome_map]
 unfold putK storedH;rw[aaI e q (Aa (Xu xs))]
 ·rw[er (if_pos q) (if_pos q) (r.ay8 k bl)]
 ·rw[as2 (if_neg q) q (Paired.snoc r ⟨rfl,hb,bl⟩)]
def KT.keeps{H H':aR}KQ apc(ht:∀b ys,H b=vR ys->H' b=vR ys):apA H':=
 asa r _ _ z ⟨z.1,ht _ _ z.2.1,z.2.2⟩
section
variable {P:Program}{w:World}{H:aR}{h:Heap}{a:Addr}
def aLw{u:jg}KU(e:uQ H a u):sO P w H h a u:=e.ok ok
def Ol O8 KU(e:uQ H a (.bL kvs)):Sw/\HO a/\∃vs,Yw/\h.DictOf (Df P w) a vs:=
 atg P w H h a (.bL kvs) (aLw ok e)
def amI O8 KU afY:Sw/\HO a/\∃vs,Yw/\h.DictOf (Df P w) a vs:=Ol ok (Ω e)
def aGb{ks:pL}KU(e:H a=vR atw):(aj7 P w).is h ks a:=by
 obtain⟨_,aC,r,o,h1,h2,n,h3⟩:=(atg P w H h a (aW atw) (ok a _ e))
 exact⟨o,aC.toArray,n,h1,h2,h3,aX (aHZ r)⟩
def Ot KQ KU(e:uQ H a (.dT kvs)):Sw/\HO a ∧
  ∃xs,apA H/\h.DictOfH (aj7 P w) a xs:=by
 obtain⟨z,y,xs,r,o,es,ep,h1,h2,h3,h4,h5⟩:=(atg P w H h a (.dT kvs) (aLw ok e))
 rw[vv ⟨z,y,xs,r,o,es,ep,h1,h2,h3,h4,dB x hx,h5⟩ all (∀{l:au6}{m:apy},KT H l m->∀x∈m,(aj7 P w).is h x.1 x.2.1) (by
  intro l m q
  induction q with
  |nil=>intro x hx;exact nomatch hx
  |@cons p q ps cN hq t ih=>
   intro x hx;rcases aPp with e | hx
   ·rw[f7 e (aGb ok (by rw[cw hq.1 hq.2.1]))]
   ·exact ih x hx)]
 exact all r x hx
def aLx KQ KU apf:Sw/\HO a ∧
  ∃xs,apA H/\h.DictOfH (aj7 P w) a xs:=Ot ok (Ω e)
universe zE
abbrev ub O?(y:V)(r:HW):Prop:=
 (∃kvs k,uQ H a (.bL kvs)/\y=kV k/\r=yl)\/∃kvs k b,uQ H a (.dT kvs)/\y=Δ b/\H b=vR aiS/\r=yl
abbrev Kd O?(y v:V)(H':aR):Prop:=
 (∃kvs k,H a=nu .bL/\y=kV k/\as7/\H'=qF a .bL (zI k v)) ∨
 ∃kvs k b,H a=nu .dT/\y=Δ b/\H b=vR aiS/\as7/\H'=qF a .dT (zI k v)
def ub.k iM jh O8 D5 afY:ub H a (kV k) yl:=Ω (ajX kvs k (Ω e))
def ub.t afu KQ{k:pL}apf(eb:H b=vR aiS):ub H a (Δ b) yl:=ay ⟨kvs,k,b,Ω e,rfl,eb,rfl⟩
def Kd.k iM jh O8 D5 mj afY(hl:as7):Kd H a (kV k) v (qF a .bL (zI k v)):=Ω ⟨kvs,k,e,rfl,hl,rfl⟩
def Kd.t afu KQ{k:pL}mj apf(eb:H b=vR aiS)(hl:as7):
  Kd H a (Δ b) v (qF a .dT (zI k v)):=ay ⟨kvs,k,b,e,rfl,eb,hl,rfl⟩
section
variable {X:bV}{pins:gr}{σ:St}{H:aR}{s:Shared}{a:Addr}{y v:V}{u r:Value}{o:HW}{A:Around}{E:iO}
def Inv.big bX:VX sysModules:=by
 rw[vI h (VX mainGlobals) (aA2).lt (Nat.lt_trans a_ h)]
def aWy afw bX(g:ub H a y qH)D3(h:∀w' s',Mv->ajK v->Q w' s'):
  Jj A (getItem (Δ a) u):=by
 rcases g with⟨kvs,k,e,ey,l⟩ | ⟨kvs,k,b,e,ey,eb,l⟩
 ·subst ey;rw[ah0 z hd vs dd (Ol I.dy e)];rw[Mg w' hw nc (asy v o (WH vs) (by rw[au l zC])) (wpAny_getItem_of (Gb bl) dd.mapOf hw (h w' _ lT nc))]
 ·subst ey;cases(S3 u b bl)
  obtain⟨z,hd,xs,rel,dd⟩:=Ot I.dy e
  obtain⟨w',hw,nc⟩:=asy v o (G4 (Xu xs).map) (by rw[au l zC]);rw[UY p hp pn hw];rw[ă (wpAny_getItem_heap ë (aaO eb) dd hp ?_) pn (h w' _ lT nc)]
def a5k afw af4 D3(h:∀s',Mv->Q (qQ o.isSome) s'):
  Jj A (compareOp .In u (Δ a)):=by
 rcases g with⟨kvs,k,e,ey,l⟩ | ⟨kvs,k,b,e,ey,eb,l⟩
 ·subst ey;obtain⟨z,hd,vs,rel,dd⟩:=Ol I.dy e;refine wpAny_in_of (Gb bl) hd dd.mapOf ?_;rw[Ms (zC).adC l (h _ lT)]
 ·subst ey;cases(S3 u b bl)
  obtain⟨z,hd,xs,rel,dd⟩:=Ot I.dy e
  refine wpAny_in_heap ë (aaO eb) hd dd ?_;rw[gX q (zC).adC Option.isSome_map q];rw[Ms q l (h _ lT)]
def aZB afw af4 D3(h:∀s',Mv->Q (qQ (! o.isSome)) s'):
  Jj A (compareOp .NotIn u (Δ a)):=by
 rcases g with⟨kvs,k,e,ey,l⟩ | ⟨kvs,k,b,e,ey,eb,l⟩
 ·subst ey;obtain⟨z,hd,vs,rel,dd⟩:=Ol I.dy e;refine wpAny_notIn_of (Gb bl) hd dd.mapOf ?_;rw[Ms (zC).adC l (h _ lT)]
 ·subst ey;cases(S3 u b bl)
  obtain⟨z,hd,xs,rel,dd⟩:=Ot I.dy e
  refine wpAny_notIn_heap ë (aaO eb) hd dd ?_;rw[gX q (zC).adC Option.isSome_map q];rw[Ms q l (h _ lT)]
def vb afJ Bq{ob:jg}bX(Ds:ayF (H a))(hs:arf a h')(he:∃q,ĝ a q)(new:QO (qW a ob) h' a ob):
  X! (qW a ob) s h':=
 ase a e a Ds (Ω rfl) (RC b q z hs z) he new
def am8 uT{H':aR}afJ O8{vs:Ġ}(z:Sw)(hd:HO a)(rel:Yw)(dd:h'.DictOf (Df P w) a vs):
  sO P w H' h' a (.bL kvs):=⟨z,hd,vs,rel,dd⟩
def aWz{H':aR}Pd(hu:az9 1)bX(g:Kd H a y v H')D3(rv:RelV v r)(h:∀s',R7->Q () s'):
  Jj A (setItem (Δ a) u r):=by
 rcases g with⟨kvs,k,e,ey,l,aI⟩ | ⟨kvs,k,b,e,ey,eb,l,aI⟩
 ·subst ey aI;rw[ah0 z hd vs dd (ajN e)]
  rw[kB hz aCV (by rw[ar4 z]) hl (atG (zI k v)) (by rw[e9 (aF2 kvs k v)]) (wpAny_setItem_pairs (hsz:=hz) (Gb bl) dd λh' uL hs=>h _ ?_)];have he:∃q,ĝ a q:=let⟨q,_,_,hq,_⟩:=uL;⟨q,hq⟩
  exact vb I (by rw[Vd e]) hs he (am8 hl hd (rel.put k rv) uL)
 ·subst ey aI;cases(S3 u b bl)
  rw[ah0 z hd xs dd (aLx I.dy e)]
  rw[kB hz Md (by rw[cw (Paired.length rel) z]) hl (atG (zI k v)) (by rw[e9 (aF2 kvs k v)]) (wpAny_setItem_heap (hsz:=hz) ë (aaO eb) dd λh' uL hs=>h _ ?_)];obtain⟨q,es,ep,hq,h2,h3,h4,_,h5⟩:=uL;refine vb I (by rw[Vd e]) hs ⟨q,hq⟩ ⟨hl,hd,_,(rel.put k eb rv).keeps (cM c ys ec),q,es,ep,hq,h2,h3,h4,h5⟩;rw[gY (aLs ec e (aC7 z)) ec]
universe zE
section
variable {X:bV}{pins:gr}{σ:St}{H:aR}{s:Shared}{a:Addr}{kvs:qz}{k:Key}{u:Value}{A:Around}{E:iO}
def a8U Pd bX az2(l:Aa yl)(h:∀s',kH (qF a .bL (Oj kvs k)) s'->Q () s'):
  Jj A (delItem (Δ a) u):=by
 obtain⟨z,hd,vs,rel,dd⟩:=ajN e
 refine wpAny_delItem_slot dd.typeIs a_ PySem.F.slot_dict_delitem
  (call_meetsIn PySem.F.slot_dict_delitem dd.typeIs PySem.F.entry_dict_delitem (PySem.F.args_dict_delitem_2 _ _) (meets_dict_delitem_pairs qE a (Gb bl)) ⟨vs,dd,by rw[ar4 z],by rw[cw (zC).adC l],λh' uL hs=>h _ ?_⟩)
 have he:∃q,ĝ a q:=let⟨q,_,_,hq,_⟩:=uL;⟨q,hq⟩
 exact vb I (by rw[Vd e]) hs he (am8 (í (aIs kvs k) z) hd (rel.drop k) uL)
def aLy mj{more:b3}rJ bX az2(l:pS yl)(hm:more=[]\/∃x,more=[x])
  (h:∀w' s',kH (qF a .bL (Oj kvs k)) s'->ajK v->Q w' s'):ahR A (gy "dict.pop") (Δ a::u::more):=by
 obtain⟨z,hd,vs,rel,dd⟩:=ajN e
 obtain⟨w',hw,nc⟩:=asy v o (WH vs) (by rw[cw l zC])
 rw[kB hp (Aa (keyPart u)) (by
  cases k with
  |inl i=>rw[xC q (asu (∃t,u=Ô t))];subst q;rfl
  |inr x=>rw[xC q (asu (∃t,u=Õ t))];subst q;rfl) ha (argsOk "dict.pop" (rV (Δ a::u::more))) (by
  rcases hm with q | ⟨x,q⟩
  ·rw[f7 q (PySem.F.args_dict_pop_2 _ _)]
  ·rw[f7 q (aP2 _ _)]) (call_meetsIn PySem.F.slot_dict_pop dd.typeIs PySem.F.entry_dict_pop ha (meets_dict_pop_there qE a (Gb bl) more hm hp)
  ⟨vs,w',dd,by rw[ar4 z],hw,λh' uL hs=>h w' _ ?_ nc⟩)]
 have he:∃q,ĝ a q:=let⟨q,_,_,hq,_⟩:=uL;⟨q,hq⟩
 exact vb I (by rw[Vd e]) hs he (am8 (í (aIs kvs k) z) hd (rel.drop k) uL)
def a1F{r:Value}rJ bX az2(l:bO yl)(h:∀s',Mv->Q r s'):
  ahR A (gy "dict.pop") [Δ a,u,r]:=by
 rw[ah0 z hd vs dd (ajN e)];rw[bM hn (bO (WH vs)) (sR.none_of (by rw[cw l zC])) hp (Aa (keyPart u)) (by
  cases k with
  |inl i=>rw[xC q (asu (∃t,u=Ô t))];subst q;rfl
  |inr x=>rw[xC q (asu (∃t,u=Õ t))];subst q;rfl)]
 exact call_meetsIn PySem.F.slot_dict_pop dd.typeIs PySem.F.entry_dict_pop (aP2 _ _) (meets_dict_pop_default qE a (Gb bl) hd hp r) ⟨vs,dd,hn,h _ lT⟩
def a3G rJ bX(e:uQ H a (.bL kvs))(h:∀t s',Mv->Q (η kvs.length t) s'):ahR A (gy "len") [Δ a]:=by
 obtain⟨z,hd,vs,rel,dd⟩:=Ol I.dy e;refine call_len_dict hd dd (by rw[←rel.length];rw[sizeLine_eq]at z;omega) ?_;rw[ar4 (h _ _ lT)]
universe zE
def aT6 Pa jh{y:V}{o:HW}af4:aua (Δ a) "dict" :=by
 rcases g with⟨kvs,k,e,_,_⟩ | ⟨kvs,k,b,e,_,_,_⟩
 ·obtain⟨_,_,vs,_,dd⟩:=Ol I.dy e;exact dd.typeIs
 ·obtain⟨_,_,xs,_,dd⟩:=Ot I.dy e;exact dd.typeIs
section
variable {X:bV}{o i e value:Expr}{pos pos' Gm:Pos}{td ty yN:TE}
universe zE
def aIt uT iM Bp(hb:aLK):sO P w H (h.push (Ia (d5 "dict") (YB #[]))) h.objs.size (.bL []):=
 ⟨yb,beq_eq_false_iff_ne.mpr (Ne.symm aLZ),[],c_,Heap.DictOf.new h⟩
def aXv uT iM Bp(hb:aLK):sO P w H (h.push (Ia (d5 "dict") (YB #[]))) h.objs.size (.dT []):=
 ⟨yb,beq_eq_false_iff_ne.mpr (Ne.symm aLZ),[],c_,_,#[],0,E0 _,PX rfl,rfl,rfl,List.nodup_nil⟩
abbrev a1G:TE:=λ_ H Q=>∀p,sq->Q (Δ p) (qF p .bL [])
section
variable {X:bV}{pos:Pos}
def aXw:gN (.Dict [] [] pos) a1G:=λpins s σ H Q I h=>
 wpAny_Dict_empty (QU (I.laid (a:=s.heap.objs.size) (o:=.bL []) (t':=s.toks) (λ_ _ q=>pT q) fh (aIt s.heap I.big)) (h _ Nc))
universe zE
abbrev am9:gP TE TE->St->aR->cS (gP V V->dZ)
 |[],_,H,Q=>Q [] H
 | (tk,yN)::r,σ,H,Q=>tk σ H (tK (yN σ H1 (mz y (am9 r σ H2 λps H3=>Q ((x,y)::ps) H3))))
noncomputable abbrev aKY:gP V V->cS (gP Value Value):=Paired λp q=>RelV p.1 q.1/\RelV p.2 q.2
abbrev ae8 gu(pos:Pos)(keys:aiy)(values:dI)(Ks:gP TE TE):Prop:=
 ∀oE(Q:gP V V->dZ),i9->am9 Ks σ H Q →
  MO (evalPairs (pairTrees keys values X.env pos)) vs s' (∃ps H',R7/\aKY ps vs/\nD ps)
def aZC nq D0:ae8 X pos [] [] []:=PU s σ H Q I h (pairTrees_nil_walk ⟨[],H,I,c_,h⟩)
def aXx nq D0{k v:Expr}{ks:aiy}{vs:dI}{tk yN:TE}{Ks:gP TE TE}aOy(hr:ae8 X pos ks vs Ks):
  ae8 X pos (IE::ks) (v::vs) ((tk,yN)::Ks):=λpins s σ H Q I h=>
 aPL (xM (hk pins s σ H _ I h) u s1 x H1 aH rx aE (YL (hv pins s1 σ H1 _ aH aE) λw2 s2 ⟨y,H2,br,bl,aV⟩=>
  xM (hr pins s2 σ H2 _ br aV) ws s3 ps H3 d? rel cA ⟨(x,y)::ps,H3,d?,bW ⟨rx,bl⟩ rel,cA⟩))
abbrev N!(kvs more:qz):qz:=more.foldl (λacc kv=>putK acc jZ kv.2) kvs
def jQ.merge:∀{more:qz}{rs:Ġ}O8{vs:Ġ},jQ more rs->Yw->jQ (N! kvs more) (merged vs rs):=by
 intro more rs kvs vs r;unfold jQ at r
 induction r generalizing kvs vs with
 |nil=>intro q;exact q
 |@cons p q ps cN h t ih=>
  intro r0
  rw[vI e (jQ (zI p.1 p.2) (stored vs q.1 q.2)) (by
   have:=r0.put p.1 h.2;rw[cw h.1 this]) (ih e)]
def aR3:∀(more kvs:qz),iF (N! kvs more) (kvs.length+more.length)
 |[],kvs=>by rw[Q6 (kvs.length≤kvs.length+0)]
 |p::r,kvs=>by
  rw[k9 (aR3 r (zI p.1 p.2)) (aF2 kvs p.1 p.2)];show iF (N! (zI p.1 p.2) r) _;rw[nQ zE]
def aHq uT:∀O8{ws:gP Value Value},aKY (EH kv (kV jZ,kv.2)) ws->∃rs,Carries (Df P w) ws rs/\jQ kvs rs
 |[],_,r=>by rw[zD]at r;cases r;rw[b5 [] True.intro c_]
 |p::kvs,_,r=>by
  rw[b6]at r;cases r with
  |@cons a b as bs h t=>
   obtain⟨rs,c,q⟩:=aHq (P:=P) (w:=w) t;rw[aaK b1 b2 b ((p.1,b2)::rs) (h! (Gb h.1) c) (bW (j3 h.2) q)]
abbrev a3H(Ks:gP TE TE):TE:=r6 (∀p,sq->am9 Ks σ (qF p .bL []) (mz ps (H2 p=eL .bL []/\∃kvs:qz,ps=kvs.map (λkv=>(kV jZ,kv.2))/\kvs.length≤15/\Q (Δ p) (Jd H2 p .bL (N! [] kvs)))))
def aZD nq D0{keys:aiy}{values:dI}{Ks:gP TE TE}(h:ae8 X pos keys values Ks)(afb:aL aPO)(hl:keys.length=values.length)(h0:keys≠[])
  (aEU:keys.length≤15):JI .Dict keys values (a3H Ks):=by
 rw[Fj Q q];rw[lS hn (VI ap9) aH (I.laid (a:=s.heap.objs.size) (o:=.bL []) (h':=VV (d5 "dict") (YB #[])) (t':=s.toks) (λ_ _ q=>pT q) fh (aIt s.heap I.big)) (wpAny_Dict_walk (knd:=qE) afb hl h0 aEU (IK (Wd _ σ _ _ aH (q _ hn)) ws ⟨ps,H2,br,rel,e,kvs,ep,lk,aV⟩))];subst ep;obtain⟨rs,c,rk⟩:=aHq (P:=X.prog) (w:=X.w) rel
 obtain⟨z,hd,a91,r0,dd⟩:=amI br.dy e;cases r0;rw[vv ⟨rs,c,dd,λh' uL hs=>QU ?_ aV⟩ hz (atG (N! [] kvs)) (by
  rw[gX h1 (aR3 kvs []) m9 h1];rw[nQ sizeLine_eq])]
 have he:∃q,aPl q:=let⟨q,_,_,hq,_⟩:=uL;⟨q,hq⟩
 exact vb br (by rw[Vd e]) hs he (am8 hz hd (rk.merge c_) uL)
structure aa gu(o:Expr)(m:Str)(apos:Pos)UI(dc:Pos):Prop where
 base:apE o m=G3
 fc:g5 ((YG [e]).all (λx=>! x.1)&&(apD dc []).all (λx=>ã x.1)
  && d! (kU ([e]:dI)+kU ([]:YE)+(aAk ([]:YE) 0 1)<30))
 line:aEG
 trees:YG [e]=[ab2]
structure M2 gu(o:Expr)(m:Str)(apos:Pos)(e f:Expr)(dc:Pos):Prop where
 base:apE o m=G3
 fc:g5 ((YG [e,f]).all (λx=>! x.1)&&(apD dc []).all (λx=>ã x.1)
  && d! (kU ([e,f]:dI)+kU ([]:YE)+(aAk ([]:YE) 0 1)<30))
 line:aEG
 trees:YG [e,f]=[ab2,ak3 f]
abbrev Uq O?:Prop:=(∃kvs,uQ H a (.bL kvs))\/∃kvs,uQ H a (.dT kvs)
def aeo Pa jh bX(d:Uq H a):
  aua (Δ a) "dict" /\ (∀b,Ip=Δ b->∃ob,Lb ob/\bO ob.dict)/\HO a:=by
 rcases d with⟨kvs,e⟩ | ⟨kvs,e⟩
 ·obtain⟨_,hd,vs,_,dd⟩:=Ol I.dy e;rw[d_ dd.typeIs (dB b q) hd];cases q;obtain⟨ob,_,_,h1,h2,_⟩:=dd;rw[b5 ob h1 h2.2.1]
 ·obtain⟨_,hd,xs,_,dd⟩:=Ot I.dy e;rw[d_ dd.typeIs (dB b q) hd];cases q;obtain⟨ob,_,_,h1,h2,_⟩:=dd;rw[b5 ob h1 h2.2.1]
section
variable {X:bV}{pins:gr}{σ:St}{H:aR}{s:Shared}{a:Addr}{y d:V}{u r:Value}{o:HW}{A:Around}{E:iO}
def a1H afw af4 D3(h:∀w' s',Mv->ajK (o.getD .ai)->Q w' s'):
  ahR A (gy "dict.get") [Δ a,u]:=by
 rcases g with⟨kvs,k,e,ey,l⟩ | ⟨kvs,k,b,e,ey,eb,l⟩
 ·subst ey;obtain⟨z,hd,vs,rel,dd⟩:=Ol I.dy e;refine arD (aP3 _) (meets_dict_get qE a (Gb bl) hd) ⟨_,dd.mapOf,h _ _ lT ?_⟩;rw[gx l ((zC).getD rfl)]
 ·subst ey;cases(S3 u b bl)
  obtain⟨z,hd,xs,rel,dd⟩:=Ot I.dy e
  refine arD (aP3 _) (meetsH_dict_get (aqG qE) a b hd) ⟨ë,k,xs,aaO eb,dd,h _ _ lT ?_⟩;rw[gx l ((zC).getD rfl)]
def a1I afw af4 D3(rd:RelV d r)(h:∀w' s',Mv->ajK (o.getD d)->Q w' s'):
  ahR A (gy "dict.get") [Δ a,u,r]:=by
 rcases g with⟨kvs,k,e,ey,l⟩ | ⟨kvs,k,b,e,ey,eb,l⟩
 ·subst ey;obtain⟨z,hd,vs,rel,dd⟩:=Ol I.dy e;refine arD (aP4 _ _) (meets_dict_get_default qE a (Gb bl) hd r) ⟨_,dd.mapOf,h _ _ lT ?_⟩;rw[gx l ((zC).getD rd)]
 ·subst ey;cases(S3 u b bl)
  obtain⟨z,hd,xs,rel,dd⟩:=Ot I.dy e
  refine arD (aP4 _ _) (meetsH_dict_get_default (aqG qE) a b hd r) ⟨ë,k,xs,aaO eb,dd,h _ _ lT ?_⟩;rw[gx l ((zC).getD rd)]
universe zE
abbrev a1J(td ty:TE):TE:=r6 (td σ H (tK (∃a,x=Δ a/\Uq H1 a/\ty σ H1 (mz y (∃o,ub H2 a y o/\Q (o.getD .ai) H2)))))
abbrev a1K(td ty tx:TE):TE:=r6 (td σ H (tK (∃a,x=Δ a/\Uq H1 a/\ty σ H1 (mz y (tx σ H2 λz H3=>∃o,ub H3 a y o/\Q (o.getD z) H3)))))
abbrev a1L(td ty:TE):TE:=r6 (td σ H (tK (∃a,x=Δ a/\Uq H1 a/\ty σ H1 (mz y (∃kvs k v,H2 a=nu .bL/\y=kV k/\pS yl/\Q v (Jd H2 a .bL (Oj kvs k)))))))
abbrev a1M(td ty tx:TE):TE:=r6 (td σ H (tK (∃a,x=Δ a/\Uq H1 a/\ty σ H1 (mz y (tx σ H2 λz H3=>∃kvs k,H3 a=nu .bL/\y=kV k ∧
 (∀v,pS yl->Q v (Jd H3 a .bL (Oj kvs k)))/\(bO yl->Q z H3))))))
section
variable {X:bV}{o e f:Expr}{apos dc:Pos}{td ty tx:TE}
def aXy afF aot(m:aa X o "get" apos e dc):IU auJ [e] dc (a1J td ty):=by
 intro pins s σ H Q I h;refine apZ m.base m.fc m.line PySem.F.slot_dict_get PySem.F.type_dict_get (Nm s H _ I h u ⟨x,H1,aH,rx,a,ex,d,aE⟩);subst ex;obtain rfl:u=Ip:=rx;obtain⟨t1,t2,_⟩:=aeo aH d;rw[d_ t1 t2 ?_];rw[iU m.trees (ago rfl (VM (BU (CU s1 σ H1 _ aH aE) iv s2 ⟨y,H2,br,bl,ov,g,aV⟩ (Calls.spliced_nil ?_))))];exact a1H hu br g bl λw' s3 d? nc=>⟨_,H2,d?,nc,aV⟩
def aXz afF aot(hf:gN f tx)(m:M2 X o "get" apos e f dc):IU auJ [e,f] dc (a1K td ty tx):=by
 intro pins s σ H Q I h
 refine apZ m.base m.fc m.line PySem.F.slot_dict_get PySem.F.type_dict_get (Nm s H _ I h u ⟨x,H1,aH,rx,a,ex,d,aE⟩)
 subst ex
 obtain rfl:u=Ip:=rx
 obtain⟨t1,t2,_⟩:=aeo aH d
 rw[d_ t1 t2 ?_]
 rw[iU m.trees (ago rfl (VM (YL (CU s1 σ H1 _ aH aE) λiv s2 ⟨y,H2,br,bl,aV⟩=>
  VM (BU (hf pins s2 σ H2 _ br aV) fv s3 ⟨z,H3,d?,N7,ov,g,cA⟩ (Calls.spliced_nil ?_)))))]
 exact a1I hu d? g bl N7 λw' wG ru nc=>⟨_,H3,ru,nc,cA⟩
def aXi aot(m:aa X o "pop" apos e dc):IU auK [e] dc (a1L td ty):=by
 intro pins s σ H Q I h;refine apZ m.base m.fc m.line PySem.F.slot_dict_pop PySem.F.type_dict_pop (Nm s H _ I h u ⟨x,H1,aH,rx,a,ex,d,aE⟩);subst ex;obtain rfl:u=Ip:=rx;obtain⟨t1,t2,_⟩:=aeo aH d;rw[d_ t1 t2 ?_];rw[iU m.trees (ago rfl (VM (BU (CU s1 σ H1 _ aH aE) iv s2 ⟨y,H2,br,bl,kvs,k,v,ea,ey,l,aV⟩ (Calls.spliced_nil ?_))))];rw[f7 ey (aLy br ea bl l (Ω rfl) λw' s3 d? nc=>⟨v,_,d?,nc,aV⟩)]
def aXj aot(hf:gN f tx)(m:M2 X o "pop" apos e f dc):IU auK [e,f] dc (a1M td ty tx):=by
 intro pins s σ H Q I h
 refine apZ m.base m.fc m.line PySem.F.slot_dict_pop PySem.F.type_dict_pop (Nm s H _ I h u ⟨x,H1,aH,rx,a,ex,d,aE⟩)
 subst ex
 obtain rfl:u=Ip:=rx
 obtain⟨t1,t2,_⟩:=aeo aH d
 rw[d_ t1 t2 ?_]
 rw[iU m.trees (ago rfl (VM (YL (CU s1 σ H1 _ aH aE) λiv s2 ⟨y,H2,br,bl,aV⟩=>
  VM (BU (hf pins s2 σ H2 _ br aV) fv s3 ⟨z,H3,d?,N7,kvs,k,ea,ey,cA,Ga⟩ (Calls.spliced_nil ?_)))))]
 subst ey;cases l:yl with
 |some v=>exact aLy d? ea bl l (ay (kS fv)) λw' wG ru nc=>⟨v,_,ru,nc,cA v l⟩
 |none=>exact a1F d? ea bl l λwG ru=>⟨z,H3,ru,N7,Ga l⟩
universe zE
section
variable {X:bV}{pins:gr}{σ:St}{H:aR}{s:Shared}{a:Addr}{kvs:qz}{A:Around}{E:iO}
universe zE
section
variable {X:bV}{pins:gr}{σ:St}{H:aR}{s:Shared}{a:Addr}{y:V}{u:Value}{A:Around}{E:iO}
universe zE
universe L2
namespace ql
open PySem PyProof.Rows
section
open PySem.SeqAt
open PySem.AutoSeq1 (wpAny_loadPart')
open PySem.MeetsSeq PySem.MeetsSeq2 PySem.MeetsSeq3
universe zE
section
variable {prog:Program}{w:World}{A:Around}{E:iO}{s:Shared}
def aZE{t b:Addr}{vs ws:b3}rJ(ht:arN t vs.toArray)(hb:arN b ws.toArray)(hv:vs≠[])
  (h1:ws=[]->Q (Δ t) s)(h2:ws≠[]->Q zB (mD s (VV Jc (oZ (zG (vs++ws))))))
  (hsz:jy (vs.length+ws.length)):Ff (binaryOp .Add (Δ t) (Δ b)):=by
 obtain⟨⟨cls,dd,data,sl⟩,ho,hc,n,hd⟩:=id ht;obtain⟨⟨a9v,dd2,data2,sl2⟩,A5,Ku,n2,Kv⟩:=id hb;simp only at hc hd Ku Kv;subst hc hd Ku Kv
 have e:vs.toArray++ws.toArray=zG (vs++ws):=Θ
 by_cases hw:ws=[]
 ·exact concat_meets (sj ho) (sj A5) noFill_tuple_add seq_tuple_add PySem.F.slot_tuple_add PySem.F.entry_tuple_add (aPW _)
   (tuple_addW1 t b vs.toArray ws.toArray n n2 dd dd2 sl sl2 (aX hv) (aK hw)) ⟨ho,A5,h1 hw⟩
 ·rw[ă (concat_meets (sj ho) (sj A5) noFill_tuple_add seq_tuple_add PySem.F.slot_tuple_add PySem.F.entry_tuple_add (aPW _)
   (tuple_addW2 t b vs.toArray ws.toArray n n2 dd dd2 sl sl2 (aX hv) (aX hw) (by rw[aA5];exact hsz)) ⟨ho,A5,?_⟩) e (h2 hw)]
abbrev mf(n d:Nat):eH->Nat
 |none=>d
 |qH=>if v<0 then(v+gm).toNat else min v.toNat n
def awY(n d:Nat):mf n d none=d:=rfl
def aJI(n d k:Nat):mf n d (asq k)=min k n:=by
 show(if aU k<0 then(aU k+gm).toNat else min (aU k).toNat n)=min k n;rw[ap5 asr]
def a1l(n d:Nat)(hd:d≤n)(o:eH):mf n d o≤n:=by
 cases o with
 |none=>exact hd
 |some v=>
  show(if v<0 then(v+gm).toNat else min v.toNat n)≤n;by_cases hv:v<0
  ·rw[nQ (if_pos hv)]
  ·rw[Qf hv (Nat.min_le_right _ _)]
def aJJ(v:Int)(n d:Nat):(if v<0 then max (v+gm) 0 else min v gm)=V_ n d qH:=by
 show(if v<0 then max (v+gm) 0 else min v gm)=iX (if v<0 then(v+gm).toNat else min v.toNat n);by_cases hv:v<0
 ·simp only[if_pos hv];omega
 ·simp only[if_neg hv];omega
def aVc KO dh:aO5 hi 1 gm=(V_ n 0 lo,V_ n n hi):=by
 have h1:¬(aU 1<0):=aB
 unfold Builtin.Slice.sliceAdjust;simp only[h1,if_false];refine Prod.ext ?_ ?_
 ·cases lo with
  |none=>rfl
  |some v=>exact aJJ v n 0
 ·cases hi with
  |none=>rfl
  |some v=>exact aJJ v n n
def aVd(i j:Nat):aBd (aU i) (aU j)=j-i:=by
 unfold Builtin.Slice.slicePlaces
 have h1:aU 1 > 0:=aB
 simp only[h1,if_true,Int.ediv_one];split<;>omega
def aHr afI{o:eH}{Q:eH->Bt}(p:IsPart v o)(h:Q o s):Ff (Builtin.Slice.slicePartIndex v):=by
 cases p with
 |none=>exact slicePart_none h
 |int i t=>exact slicePart_int h
def a8z{sl:Addr}aOK bk{Q:Int×Int×Nat->Bt}aNq(pu:IsPart vu hi)
  (h:Q (V_ n 0 lo,1,mf n n hi-mf n 0 lo) s):Ff (Builtin.Slice.sliceApplied (Δ sl) (pure gm)):=by
 obtain⟨os,hos,hcs,hds⟩:=id hs;unfold Builtin.Slice.sliceApplied Builtin.Slice.sliceFields;rw[gp (fC (aCe hos hds x vl rfl (aCe hos hds x vu rfl (aCe hos hds x cT rfl EE)))) (fC (slicePart_none ?_))];show pP _ _ (ag2 (aU 1 == 0) _ _) _ _;rw[jF a_];refine fC (aHr pl (fC (aHr pu (fC EE))));show pP _ _ (match aO5 hi 1 gm with | (lo,hi)=>pure (lo,aU 1,aBd lo hi)) _ _
 rw[aVc lo hi n];rw[Wf (pP _ _ (pure (V_ n 0 lo,aU 1,aBd (V_ n 0 lo) (V_ n n hi))) _ _) aVd SH]
def aXk(xs:Qi)(i k:Nat):zG ((List.range k).filterMap fun(m:Nat)=>xs[(aU i+aU m*1).toNat]?)=zG ((xs.toList.drop i).take k):=by
 have e:(fun(m:Nat)=>xs[(aU i+aU m*1).toNat]?)=λm=>xs[i+m]?:=by
  funext m
  have:(aU i+aU m*1).toNat=i+m:=aB
  rw[this]
 rw[e];rw[vz (pick_run xs i k) List.filterMap_map];rw[pY e2 (((λx=>xs[x]?)∘λx=>i+x)=λm=>xs[i+m]?) rfl e2 this];rw[this]
def a8y{t sl:Addr}{items:Qi}aOK rJ(ht:arN t items)aNq(pu:IsPart vu hi)
  (hw:¬(Ah=0/\R2=items.size))
  (h:Q zB (mD s (VV Jc (oZ (zG ((aCg Ah).take (R2-Ah)))))))
  (hsz:jy items.size):Ff (getItem (Δ t) (Δ sl)):=by
 rw[bM aVU (sizeOk (oZ (zG ((aCg Ah).take (R2-Ah))))) (by
  show jy ((aCg Ah).take (R2-Ah)).toArray.size;rw[List.size_toArray,List.length_take,List.length_drop,Array.length_toList];omega) hj (R2≤items.size) (a1l _ _ fh hi)];obtain⟨os,hos,hcs,hds⟩:=id hs;have a6X:aua (Δ sl) "slice" :=⟨os,hos,hcs⟩;unfold getItem
 try with_reducible refine aLQ
 first | refine fC EE | skip
 rw[gp (fC (wpAny_sequenceKey ht.typeIs a_ ?_)) (fC (wpAny_callSpecial?_slot (name:=Str.ofString "__getitem__") ht.typeIs PyProof.Rows.slot_tuple_getitem
  (wpAny_call_entry PyProof.Rows.slot_tuple_getitem ht.typeIs entry_tuple_getitem ?_ (args_tuple_getitem _ _))))]
 show pP _ _ (Builtin.Tuple.tupleItemsOf (Δ t) >>= _) _ _;rw[gp (fC (tupleItemsOf_ ht ?_)) (fC (wpAny_typeOf a6X ?_))];rw[aDI];rw[kD (fC (a8z hs pl pu ?_)) hno (¬(g5 (iX Ah == 0&&aU 1 == 1&&(R2-Ah) == items.size))) (by
  intro q;rw[aq8 q];rw[bM aE (iX Ah=0) (eq_of_beq q.1.1) aV (R2-Ah=items.size) (eq_of_beq q.2)];exact hw abQ)]
 show pP _ _ (ag2 (iX Ah == 0&&aU 1 == 1&&(R2-Ah) == items.size) _ _) _ _;rw[if_neg hno,aXk]
 first
  |exact ap1 m _ (aq5 (aqN _ SH))
  |exact ap1 m _ (aq5 (fC (Ml (aqN _ SH))))
  |exact fC (ap1 m _ (aq5 (Ml (aqN _ SH))))
  |exact fC (ap1 m _ (aq5 (aqN _ SH)))
universe zE
universe ql
namespace L2
open PySem PySem.Spec PyProof.Rows
noncomputable abbrev TO:=St->aR->cS (eH->dZ)
abbrev DL gu(e:aii)(t:TO):Prop:=
 ∀oE(Q:eH->dZ),i9->t σ H Q →
  MO (evalPart e X.env) u s' (∃o H',R7/\IsPart u o/\nD o)
abbrev aZF:TO:=λ_ H Q=>Q none H
abbrev a3I(t:TE):TO:=Nn H x (∃i,x=η i/\Q Xp H1)
section
variable {X:bV}{e:Expr}{te:TE}{lo hi:aii}{tl th:TO}{pos p2:Pos}
def aZG:DL X none aZF:=by
 rw[Fj Q h];rw[au evalPart_none (wpAny_pure ⟨none,H,I,cT,h⟩)]
def aZH(h:az7):DL X (some e) (a3I te):=by
 rw[Fj Q hw];rw[iU evalPart_some (ako (Wd s σ H _ I hw) u x)];rw[iB i q aE];rw[Vu t r1 ⟨Xp,H1,aH,η i t,q⟩]
abbrev Gv gu aOI:Prop:=
 ∀afP(v vl vu:Value)KO(sl:Addr)ze,i9->Lz->aOW sl vl vu->IsPart vl lo->IsPart vu hi->r x lo hi H Q →
  ∃T id,typeLookup (d5 T) "__getitem__" = Hv (Ţ id)/\s.TypeIs v T/\Ċ (getItem v (Δ sl)) X Q
def Gv.or aNf(h':Gv X r'):Gv X (λx lo hi H Q=>r x lo hi H Q\/r' x lo hi H Q):=by
 intro pins s σ H x v vl vu lo hi sl Q I rx hs pl pu q;rcases q with q | q
 ·exact h pins s σ H x v vl vu lo hi sl Q I rx hs pl pu q
 ·exact h' pins s σ H x v vl vu lo hi sl Q I rx hs pl pu q
abbrev a8b aOI UQ(tl th:TO):TE:=r6 (te σ H (tK (tl σ H1 (mz l (th σ H2 λu H3=>r x l u H3 Q)))))
def aXl{r:V->eH->eH->aR->jT}(hr:Gv X r)aae(hl:DL X lo tl)(hu:DL X hi th):JI yf e (.Slice lo hi none p2) (a8b r te tl th):=by
 rw[Fj Q h];rw[gp (Subscript_ (nR (CU s σ H _ I h) v ⟨x,H1,aH,r1,aE⟩)) (wpAny_Slice (xM (hl pins s1 σ H1 _ aH aE) vl s2 l H2 br pl aV (qR (hu pins s2 σ H2 _ br aV) vu s3 ⟨u,H3,d?,pu,cA⟩)))];rw[evalPart_none];rw[kD EE ru (LR H3 s3 (aCn W? (kY #[vl,vu,cT]))) (d?.kept (t':=s3.toks) (vF ob q q))];obtain⟨T,id,hT,ht,hg⟩:=hr pins (mD s3 (aCn W? (kY #[vl,vu,cT]))) σ H3 x v vl vu l u s3.heap.objs.size Q ru r1 aQe pl pu cA;rw[RO (jU (subscriptTail e (.Slice lo hi none p2) v (Δ s3.heap.objs.size)) (I4 X Q) (mD s3 (aCn W? (kY #[vl,vu,cT])))) (tail_any (ops:=[Δ s3.heap.objs.size,v]) ht hT hg cI)]
abbrev FK KZ KO:dw:=(ż JP).take (Vh hi-JP)
def aHi KZ KO:iF (FK xs lo hi) xs.length:=by
 rw[iT FK List.length_take List.length_drop];omega
abbrev a5l dz:V->eH->eH->aR->jT:=λx lo hi H Q=>∃a xs,x=Δ a/\C5 K a ∧
 ¬(JP=0/\ajt (Vh hi))/\∀p,sq->Q (Δ p) (abJ p (FK xs lo hi))
def a1m:Gv X (a5l X.K):=by
 intro pins s σ H x v vl vu lo hi sl Q I rx hs pl pu h;obtain⟨a,xs,rfl,hx,hw,q⟩:=h;cases rx;rw[x! r ht hz (I.tuple hx)]
 rw[tD hlen (ajt aC.toArray.size) (by rw[au List.size_toArray r.length.symm]) ⟨"tuple",_,PyProof.Rows.slot_tuple_getitem.lookup,ht.typeIs,?_⟩];rw[Cv (ql.a8y ht hs pl pu (by rw[au hlen hw]) ?_ (by rw[au hlen hz])) hlen];refine QU (aBM t' o (aW (FK xs lo hi)) (vF ob q q) fh ?_) (q _ Nc);exact⟨í (aHi xs lo hi) hz,_,(r.drop JP).take (Vh hi-JP),IsTup.new _ _⟩
abbrev aLz dz:oB:=λx y H Q=>∃a b xs ys,x=Δ a/\y=Δ b/\C5 K a/\Gl K H b ys/\xs≠[]/\jy aCG ∧
 (ys=[]->Q (Δ a) H)/\(ys≠[]->∀p,sq->Q (Δ p) (abJ p (xs++ys)))
def Vals.axQ GP(r:vC):us=[]↔xs=[]:=by
 cases r with
 |nil=>simp
 |cons _ _=>simp
def aZI:zW Add (aLz X.K):=by
 rw[Fg];obtain⟨a,b,xs,ys,rfl,rfl,ha,hb,hx,hz,aE,aV⟩:=h;cases rx;cases bl;obtain⟨aC,r1,p1,_⟩:=I.tuple ha;obtain⟨T?,r2,p2,_⟩:=I.tuple hb;rw[akm (ql.aZE p1 p2 (cP (hx (r1.axQ.mp z))) (cP (W5 a H I (aE (r2.axQ.mp z)))) (cJ z) (by rw[Ms r1.length r2.length hz])) (QU (aBM t' o (aW (xs++ys)) (vF ob q q) fh ?_) (aV (λw=>z (r2.axQ.mpr w)) _ Nc))];exact⟨by rw[au List.length_append hz],_,aC8,IsTup.new _ _⟩
universe zE
universe L2
namespace L2
open PySem PySem.Spec PyProof.Rows
abbrev A0 dh pF:fO:=ahs (0≤i) (VW (i<n) i.toNat none) (VW (-gm≤i) (i+n).toNat none)
abbrev uM gC UJ pF:auh:=(Vm i).bind λj=>xs[j]?
def axR bk iz{j:Nat}(h:aO (A0 n i) j):aO (seqIndex? i n) j/\j<n /\ -gm≤i/\i<n:=by
 rw[nN A0];by_cases h0:0≤i
 ·rw[if_pos h0]at h;rw[PV (i<n)]
  ·rw[BF]at h;rw[S0 e (i.toNat=j) h];exact⟨kn (aDs h1) e,aB,aB,h1⟩
  ·rw[ahZ]at h;cases h
 ·rw[if_neg h0]at h;by_cases h1 : -gm≤i
  ·rw[BF]at h;rw[S0 e ((i+n).toNat=j) h];exact⟨kn (aB4 h1) e,aB,h1,aB⟩
  ·rw[ahZ]at h;cases h
def aJK gC UK iz{v:α}(h:pS (uM xs i)):∃j,aO (seqIndex? i xs.length) j/\iQ xs j v/\S4 j /\ -aic≤i/\JA:=by
 rw[nN uM];cases e:Vm i with
 |none=>rw[e]at h;cases h
 |some j=>
  rw[e]at h;rw[rX h1 h2 h3 h4 (axR e) ⟨j,h1,h,h2,h3,h4⟩]
abbrev aJL(b:Expr):Prop:=∀o i,subscripted b false o i=operate [o,i] (getItem o i)
abbrev Kw gu(r:oB):Prop:=
 ∀(value slice:Expr)oE(x y:V)(v u:Value)ze,i9->Lz->ab3->r x y H Q →
  subscripted slice false v u=operate [v,u] (getItem v u)->Ċ (subscriptTail value slice v u) X Q
abbrev wL gu(id:String)ao7:Prop:=
 ∀afP KZ aaD Bf ze,i9->Lz->vC->r x xs H Q →
  É (gy id) (v::us) (I4 X Q)
section
variable {X:bV}{a b:Expr}{ta tb:TE}{pos:Pos}
def Kw.or{r r':oB}(h:Kw X r)(h':Kw X r'):Kw X (λx y H Q=>r x y H Q\/r' x y H Q):=by
 intro value slice pins s σ H x y v u Q I rx bl q hs;rcases q with q | q
 ·exact h value slice pins s σ H x y v u Q I rx bl q hs
 ·exact h' value slice pins s σ H x y v u Q I rx bl q hs
def a3J{r:oB}(hr:Kw X r)Pb(hs:aJL b):JI yf a b (amn r ta tb):=by
 rw[QB s H Q I h (Subscript_ (ay5 ha hb I h λv u s2 x y H2 br rx bl q=>hr a b pins s2 σ H2 x y v u Q br rx bl q (hs _ _)))]
abbrev a5m dz:oB:=λx y H Q=>∃p xs i v,x=Δ p/\y=η i/\iI K H p xs/\pS (uM xs i)/\Q v H
abbrev a5n dz:oB:=λx y H Q=>∃p xs i v,x=Δ p/\y=η i/\C5 K p/\pS (uM xs i)/\Q v H
def aZJ:Kw X (a5m X.K):=by
 intro value slice pins s σ H x y v u Q I rx bl h hs;obtain⟨p,xs,i,z,rfl,rfl,hq,he,q⟩:=h;cases rx;rw[r_ bl];rw[IP r pl];obtain⟨j,h1,h2,h3,h4,h5⟩:=aJK he
 obtain⟨w,fJ,nc⟩:=r.get h2;rw[HU hl r.length hn aeH fin (R9 X Q w s) ⟨z,H,I,nc,q⟩];by_cases h0:0≤i
 ·rw[vI hj (i.toNat=j) (by
   rw[bF (aDs h5) h1 VQ]) (item_listR pl.isList h0 aB (by rw[hj];simpa using fJ) fin hs)]
 ·rw[vI hj ((i+aMn).toNat=j) (by
   rw[aB4 h4]at h1;rw[List.size_toArray,←hl];exact VQ) (subscriptTail_builtinR (x:=w) pl.isList.typeIs slot_list_getitem.lookup
   (wpAny_getItem_list_neg (Q:=λr s'=>r=w/\R9 X Q r s') pl.isList aB aDG aB (by rw[hj];simpa using fJ) (j3 fin)) hs)]
def aep:Kw X (a5n X.K):=by
 intro value slice pins s σ H x y v u Q I rx bl h hs;obtain⟨p,xs,i,z,rfl,rfl,hq,he,q⟩:=h;cases rx;rw[r_ bl];rw[Se r pl];obtain⟨j,h1,h2,h3,h4,h5⟩:=aJK he
 obtain⟨w,fJ,nc⟩:=r.get h2;rw[HU hl r.length hn aeH fin (R9 X Q w s) ⟨z,H,I,nc,q⟩]
 exact subscriptTail_builtinR (x:=w) pl.typeIs slot_tuple_getitem.lookup
  (getItem_tuple (j:=j) (Q:=λr s'=>r=w/\R9 X Q r s') pl aB aB (by rw[List.size_toArray,←hl];exact h1) (aX fJ) (j3 fin)) hs
def aVe(aC:b3)(n j:Nat)GU:Obj.mapSeq (·.setIfInBounds j u) (Mt (oZ aC.toArray n))=Mt (oZ (zG (aC.set j u)) n):=by
 simp[Obj.mapSeq]
def Inv.lst Bo uV{xs:dw}bX(h:H p=h7):
  ∃(aC:b3) (n:Nat),Yc/\atF p n/\Md:=by
 rw[vf z aC n r e (WW p h) aC n r e z]
def Inv.a1n Bo uV{xs ys:dw}{aC its':b3}{n n':Nat}{f:Obj->Obj}bX(h:H p=h7)
  (ho:atF p n)(hf:f (Mt (oZ aC.toArray n))=Mt (oZ its'.toArray n'))(r:Vals ys its')(hz:arA)(t:Nat):
  kH (qG p ys) (BS s (aDc f) t):=by
 rw[cV e (aO ((aDc f).get? p) (Mt (oZ its'.toArray n'))) (by
  rw[Heap.get?_update_self f ho (by rw[hf]<;>rfl),hf]) (ase p e p (by rw[h];trivial) (Ω rfl) (λb u hb q=>eo (Heap.get?_update_other _ _ (Ne.symm hb)) q) ⟨_,e⟩ ?_)];exact⟨hz,its',n',r,e⟩
abbrev aLA:V->V->V->aR->cS dZ:=λo i v H Q=>∃p xs k j,o=Δ p/\i=η k/\H p=h7/\aO (Vm k) j/\Q (qG p (xs.set j v))
def set_list:Ud X aLA:=by
 intro pins s σ H o i v ov iv u Q I adV adT rv h;obtain⟨p,xs,k,j,rfl,rfl,hp,hj,q⟩:=h;cases adV;rw[r_ adT];obtain⟨aC,n,r,ho,hz⟩:=I.lst hp;obtain⟨h1,h2,h3,h4⟩:=axR hj;rw[cH hl r.length hn aeH]
 have I':LR (qG p (xs.set j v)) s (aDc (Obj.mapSeq (·.setIfInBounds j u))):=
  I.a1n hp ho (aVe aC n j u) (r.set rv j) (by rw[ahf hz]) s.toks
 by_cases h0:0≤k
 ·rw[vI hk (k.toNat=j) (by
   rw[bF (aDs h4) h1 VQ]) (PySem.W.ki_setAt ho h0 aB (by rw[List.size_toArray,←hl];exact h4) (by rw[hk];rw[Ci I' q]))]
 ·rw[vI hk ((k+aMn).toNat=j) (by
   rw[aB4 h3]at h1;rw[List.size_toArray,←hl];exact VQ) (PySem.W.ki_setBack ho aB (by rw[List.size_toArray,←hl];exact h3) aB (by rw[hk];rw[Ci I' q]))]
def aTC KO dh:(aB5 lo hi n).1=iX (ql.mf n 0 lo)/\(aB5 lo hi n).2.1=iX (ql.mf n n hi)/\(aB5 lo hi n).2.2=1:=by
 refine jc ?_ ?_
 ·cases lo with
  |none=>simp[sliceBounds,ql.mf]
  |some i=>
   simp only[sliceBounds,ql.mf,Option.getD_none,show aU 1 > 0 by decide,if_true];rw[jq (i<0)]
   ·rw[aqj if_true]
   ·rw[aqj if_false]
 ·cases hi with
  |none=>simp[sliceBounds,ql.mf]
  |some i=>
   simp only[sliceBounds,ql.mf,Option.getD_none,show aU 1 > 0 by decide,if_true];rw[jq (i<0)]
   ·rw[aqj if_true]
   ·rw[aqj if_false]
def aSO(aC:b3)KO:slicePick aC.toArray lo hi none=zG ((aC.drop (aDb 0 lo)).take (aDb aC.length hi-aDb 0 lo)):=by
 obtain⟨h1,h2,h3⟩:=aTC lo hi aC.toArray.size;rw[jj slicePick h1 h2 h3];simp only[sliceRange_one,pick_run,List.size_toArray]<;>rfl
abbrev ay4 dz:V->eH->eH->aR->jT:=λx lo hi H Q=>∃a xs,x=Δ a/\JR/\∀p,sq->Q (Δ p) (qG p (FK xs lo hi))
def aZx:Gv X (ay4 X.K):=by
 intro pins s σ H x v vl vu lo hi sl Q I rx hs pl pu h;rw[dJ a xs hx q h];cases rx;rw[x! r ht hz (I.list hx)];have hlen:=r.length;refine⟨"list",_,slot_list_getitem.lookup,ht.isList.typeIs,?_⟩;refine wpAny_getItem_list_slice ht.isList hs pl pu cT Θ ?_ aDG;rw[aSO,←hlen];refine QU (aBM t' o (ς (FK xs lo hi)) (vF ob q q) fh ?_) (q _ Nc);exact⟨í (aHi xs lo hi) hz,_,0,(r.drop JP).take (Vh hi-JP),E0 _⟩
def aTD:FL "len" (λxs H Q=>∃p ys,xs=[Δ p]/\(iI X.K H p ys\/Gl X.K H p ys)/\Q (auc η) H):=by
 intro pins s σ H xs us Q I r h
 rw[dJ p ys hq q h]
 rw[Hz u rx r];cases rx;have hn:=aeH;rcases hq with hq | hq
 ·rw[IP r' pl];rw[xU hlen r'.length (Calls.call_len_list pl.isList aiu ⟨auc η,H,lT,⟨Wv 1,by rw[apS hlen]⟩,q⟩)]
 ·rw[Se r' pl];rw[xU hlen r'.length (len_tuple pl aiu ⟨auc η,H,lT,⟨Wv 1,by rw[apS hlen]⟩,q⟩)]
def Y7.or{f:Value}aM6(h':Y7 X f r'):Y7 X f (λxs H Q=>r xs H Q\/r' xs H Q):=by
 rw[Yh s H Q I rs q];rcases q with q | q
 ·exact h pins s σ H xs us Q I rs q
 ·exact h' pins s σ H xs us Q I rs q
def FR:FJ ED (λxs H Q=>∃p ys,xs=[Δ p]/\(iI X.K H p ys\/Gl X.K H p ys)/\∀l,oP l->Q (Δ l) (qG l ys)):=by
 intro pins s σ H xs us Q I r h
 rw[dJ p ys hq q h]
 rw[Hz u rx r];cases rx
 have fin:∀(aC:b3),Ü ys->arA->∀(h':Heap)(c':Nat),(∀b o',Lb o'->aj2 o') →
   aPl { cls:=ED,dict:=none,data:=oZ aC.toArray c',slots:=#[]}->R9 X Q zB (t_ s):=λaC r' hz h' c' kp e=>
  QU (I.laid (t':=s.toks) kp fh (show QO _ h' _ (ς ys) from⟨hz,aC,c',r',e⟩)) (q _ Nc)
 rcases hq with hq | hq
 ·rw[IP r' pl];have hlen:=r'.length;obtain⟨o,ho,hc,n,hd⟩:=pl.isList;exact call_list_seq p (Ω rfl) ho hc hd (λh' c' kp e=>fin aC r' hz h' c' kp e) aiu
 ·rw[Se r' pl];have hlen:=r'.length;obtain⟨o,ho,hc,n,hd⟩:=pl;exact call_list_seq p (ay rfl) ho hc hd (λh' c' kp e=>fin aC r' hz h' c' kp e) aiu
def aSP:FJ Jc (λxs H Q=>∃p ys,xs=[Δ p]/\((iI X.K H p ys/\∀l,oP l->Q (Δ l) (abJ l ys))\/(Gl X.K H p ys/\Q (Δ p) H))):=by
 rw[Yh s H Q I r h];obtain⟨p,ys,rfl,h⟩:=h;rw[Hz u rx r];cases rx;rcases h with⟨hq,q⟩ | ⟨hq,q⟩
 ·rw[IP r' pl];rw[cW hlen r'.length (call_tuple_list pl.isList (dB h' kp) aiu)];have aH:kH H (t_ s):=I.kept (t':=s.toks) kp
  have br:LR (abJ h'.objs.size ys) s (h'.push (Ia Jc (oZ aC.toArray))):=
   aH.laid (t':=s.toks) (vF o e e) fh (show QO _ _ _ (aW ys) from⟨hz,aC,r',IsTup.new _ _⟩)
  exact W5 h'.objs.size _ br (q _ Ry)
 ·rw[Se r' pl];exact call_tuple_same pl (W5 p H I q)
abbrev aF3 azE(x:V)jR:Prop:=match x with
 |av _=>T = "str"
 |η _=>T = "int"
 |Δ p=>(T = "list" /\ ∃xs,iI K H p xs)\/(T = "tuple" /\ ∃o,K.lookup p=cv/\o.cls=Jc /\ bO o.dict) ∨
   (T = "dict" /\ ((∃kvs,H p=nu .bL)\/∃kvs,H p=nu .dT))\/(T = "set" /\ ∃S n,H p=qU iW S n)
 |_=>False
def aKj Bo{T:String}{x:V}afI bX(r:Lz)(ty:aF3 X.K T x H):
  s.TypeIs v T/\∀a,v=Δ a->∃ob,Cd a ob/\bO ob.dict:=by
 cases x with
 |str z=>
  rw[r_ r];cases(show T = "str" from ty)
  rw[b4 (typeIs_str s z t) (λ_ e=>nomatch e)]
 |int i=>
  rw[r_ r];cases(show T = "int" from ty)
  rw[b4 (typeIs_int s i t) (λ_ e=>nomatch e)]
 |ref p=>
  cases r;rcases ty with⟨rfl,xs,hq⟩ | ⟨rfl,o,hk,hc,hd⟩ | ⟨rfl,hk⟩ | ⟨rfl,S,n,hk⟩
  ·obtain⟨aC,_,pl,_⟩:=I.list hq;rw[ahA pl.isList.typeIs a e];cases e;obtain⟨o,n,e,c,hd,_⟩:=pl;rw[b5 o e hd]
  ·rw[ahA ⟨o,I.rq p o hk,hc⟩ a e];cases e;rw[b5 o (I.rq _ o hk) hd]
  ·have z:∃o,Cd p o/\o.ExactDict:=by
    rcases hk with⟨kvs,hk⟩ | ⟨kvs,hk⟩
    ·obtain⟨_,_,_,_,o,_,_,e,ex,_⟩:=WW p hk;rw[b5 o e ex]
    ·obtain⟨_,_,_,_,o,_,_,e,ex,_⟩:=WW p hk;rw[b5 o e ex]
   rw[x9 o e ex z ⟨⟨o,e,ex.1⟩,dB a e2⟩];cases e2;rw[b5 o e ex.2.1]
  ·obtain⟨o,_,_,_,e,ex,_⟩:=WW p hk;rw[ahA ⟨o,e,ex.1⟩ a e2];cases e2;rw[b5 o e ex.2.1]
 |_=>rw[BV ty]
abbrev a45 azE ao7(to:TE):TE:=r6 (to σ H (tK (aF3 K T x H1/\r x [] H1 Q)))
abbrev a76 azE ao7(to:TE)(t:ni):TE:=r6 (to σ H (tK (aF3 K T x H1/\t σ H1 (mz xs (r x xs H2 Q)))))
variable {o e:Expr}{es:dI}{to:TE}{t:ni}{name:Str}{apos dc:Pos}{T id:String}{r:V->dw->aR->jT}
def a1o aNv aos(hm:wL X id r)afy
  aoo aaq:IU auD [] dc (a45 X.K T r to):=by
 rw[aAw s H Q I h pf ph (Nm s H _ I h v ⟨x,H1,aH,r1,ty,aE⟩)];rw[Cc h1 h2 (aKj aH r1 ty) ⟨T,id,pa,slot,aoh,h1,h2,aBn rfl (hm pins s1 σ H1 x [] v [] Q aH r1 c_ aE)⟩]
def a3K aNv aos(hm:wL X id r)afy af3
  aoo
  aMT
  aaq aNt:
  IU auD (e::es) dc (a76 X.K T r to t):=by
 rw[sx Q (wpAny_Call_method_late pf anL ph rfl (Nm s H _ I h v ⟨x,H1,aH,r1,ty,aE⟩))];rw[vE (aKj aH r1 ty)];refine⟨T,id,pa,slot,aoh,h1,h2,?_⟩;have hA:=ha dc pins s1 σ H1 _ aH aE;rw[hs]at hA⊢;rw[M3 (ago (by show q4 (false||gz (YG es).any);rw[amT]<;>rfl) ?_) (xM hA us s2 vs H2 br r2 aV (hm pins s2 σ H2 x vs v us Q br r1 r2 aV))]
universe zE
universe L2
namespace L2
open PySem PySem.Spec PyProof.Rows
abbrev ae6 gu(id:String)ao7:Prop:=
 ∀afP KZ aaD Bf ze,i9->Lz->vC->r x xs H Q →
  É (gy id) (v::us) (I4 X Q)
def Vals.one:∀{x:V}Bg,SX [x]->∃u,us=[u]/\zh x
 |_,_,bW r c_=>h! _ r
def Vals.zero:∀Bg,SX []->us=[]
 |_,c_=>rfl
def Vals.dropLast GP(h:vC):Vals xs.dropLast us.dropLast:=by
 induction h with
 |nil=>rw[vL]
 |cons r t ih=>
  cases t with
  |nil=>rw[vL]
  |cons q t'=>exact bW r ih
def Vals.eraseIdx:∀GP iy,vC->Iq aLO (us.eraseIdx i)
 |_,_,_,c_=>c_
 |_,_,0,bW _ t=>t
 |_,_,i+1,bW r t=>bW r (Vals.eraseIdx i t)
def Vals.reverse GP(h:vC):Vals xs.reverse us.reverse:=by
 induction h with
 |nil=>rw[vL]
 |cons r t ih=>rw[er List.reverse_cons List.reverse_cons (Vals.append ih (bW r c_))]
def Vals.rep GP(h:vC):xZ k (Vals (FD (SZ xs)) (FD (SZ us)))
 |0=>c_
 |k+1=>by
  rw[aPJ];exact Vals.append h (Vals.rep h k)
def aUW gC(l:qy):l.eraseIdx (l.length-1)=l.dropLast:=by
 induction l with
 |nil=>rfl
 |cons a r ih=>
  cases r with
  |nil=>rfl
  |cons b r=>
   have e:cC (a::b::r)-1=(cC (b::r)-1)+1:=by
    rw[bM h1 (cC (a::b::r)=r.length+2) rfl h2 (cC (b::r)=r.length+1) rfl];omega
   rw[e,List.eraseIdx_cons_succ,ih]
   all_goals rfl
def aH0 gC:∀(l:qy)iy,iF (l.eraseIdx i) l.length
 |[],_=>fh
 |_::_,0=>Ie
 |_::r,i+1=>Nat.succ_le_succ (aH0 r i)
def foldl_rep(aC:b3):∀l!(acc:b3),
  List.foldl (λx1 x2=>x1++x2) acc.toArray (SZ aC.toArray)=zG (acc++FD (SZ aC))
 |0,acc=>Θ
 |k+1,acc=>by
  rw[bM e (acc.toArray++aC.toArray=zG (acc++aC)) Θ e2 ((acc++aC)++FD (SZ aC)=acc++FD (agr (k+1) aC)) (by
   rw[List.replicate_succ,List.flatten_cons,List.append_assoc])]
  rw[←e2,←foldl_rep aC k (acc++aC),←e,List.replicate_succ,List.foldl_cons]
section
variable {X:bV}{pins:gr}{σ:St}{H:aR}{s:Shared}{l b:Addr}{xs ys zs:dw}
def Inv.aXm{aC its':b3}bk{f:Qi->Qi}Bq bX(hH:H l=h7)
  (e:atF l n)(hf:f aC.toArray=its'.toArray)(hv:Vals ys its')(hz:arA):
  X! (qG l ys) s (s.heap.update l (Obj.mapSeq f)):=by
 rw[gX q (PySem.IsL.update e f) hf q];refine ase l e l (by rw[au hH trivial]) (Ω rfl) (λb' u hb hu=>eo (Heap.get?_update_other s.heap (Obj.mapSeq f) (Ne.symm hb)) hu) ⟨_,q⟩ ?_;exact⟨hz,its',_,hv,q⟩
def Inv.a1p{aC:b3}Bq bX(hv:Ü ys)(hz:arA):
  X! (xw (ς ys)) s (VV ED (oZ aC.toArray)):=
 I.laid (λ_ _ q=>pT q) fh ⟨hz,aC,0,hv,E0 _⟩
def Inv.fresh bX:aPk:=Nc
def Inv.axS bX(hH:H l=h7):Md/\∃(aC:b3) (n:Nat),Yc/\ź aC.length/\atF l n:=by
 rw[G? z aC n r e (WW l hH) ⟨z,aC,n,r,r.length,e⟩]
def HI bk(h:jy n):dj (Builtin.List.listTooLong n):=by
 unfold Builtin.List.listTooLong;exact decide_eq_false aB
universe zE
section
variable {X:bV}
abbrev aJM:V->dw->aR->jT:=λx vs H Q=>∃l xs y,x=Δ l/\vs=[y]/\H l=h7/\ajw sizeLine/\Q .ai (qG l (xs++[y]))
def aH1:ae6 X "list.append" aJM:=by
 intro pins s σ H x vs v us Q I rx rv h;rw[V9 l xs y rfl hH hz q h];cases rx;rw[iB u cQ rv.one];rw[XT z n r e];rw[akm (call_meets F.slot_list_append (jc _ e) F.entry_list_append (F.args_list_append_2 _ _) (PySem.list_append l aC.toArray n u (by rw[ahQ])) (k7 e)) (Jk .ai (aid (aC++[u]) hH e Θ (r.append (bW cQ c_)) ?_) q)];rw[aP5];omega
abbrev aJN:V->dw->aR->jT:=λx vs H Q=>∃l b xs zs,x=Δ l/\vs=[Δ b]/\H l=h7/\H b=vM zs/\jy aMK/\Q .ai (qG l (xs++zs))
def aWA:ae6 X "list.extend" aJN:=by
 intro pins s σ H x vs v us Q I rx rv h;obtain⟨l,b,xs,zs,rfl,rfl,hH,hB,hz,q⟩:=h;cases rx;rw[iB u cQ rv.one];cases cQ;rw[XT z n r e];obtain⟨z2,T?,n2,r2,wU,e2⟩:=I.axS hB
 rw[kB hsz (jy aMc) (by rw[aA5];omega) ayM (¬(g5 (aPq&&aPY aMc))) (by
  rw[er (HI hsz) Bool.and_false Bool.false_ne_true]) (call_meets F.slot_list_extend (sj e) F.entry_list_extend (F.args_list_extend_2 _ _)
  (AutoSeq1.list_extend_list_list_0 l aC.toArray n b T?.toArray n2 ayM (by rw[ahQ]) aB) ⟨e,e2,?_⟩)]
 refine Jk .ai (aid (aC++T?) hH e Θ (r.append r2) ?_) q;rw[aPz]
abbrev aQk:V->dw->aR->jT:=λx vs H Q=>∃l xs y,x=Δ l/\vs=[]/\H l=h7/\iQ xs (ER 1) y/\Q y (qG l xs.dropLast)
def a1q:ae6 X "list.pop" aQk:=by
 intro pins s σ H x vs v us Q I rx rv h
 rw[V9 l xs y rfl hH hy q h];cases rx;have DJ:=rv.zero;subst DJ;rw[XT z n r e];rw[ġ u hu cQ (r.get hy) hy' (iQ aC.toArray (aC.toArray.size-1) u) (by
  show iQ aC.toArray (aC.length-1) u;rw[Ms Array.getElem?_toList hl hu]) (call_meets F.slot_list_pop (jc _ e) F.entry_list_pop (F.args_list_pop_1 _) (MeetsSeq.list_pop_last l aC.toArray n u hy' (by rw[ahQ])) (k7 e))];refine⟨y,_,aid aC.dropLast hH e ?_ r.dropLast ?_,cQ,q⟩
 ·show aO3 (aC.toArray.size-1) aC.dropLast.toArray;rw[List.size_toArray,List.eraseIdxIfInBounds_toArray,aUW]
 ·rw[nQ List.length_dropLast]
abbrev aKu:V->dw->aR->jT:=λx vs H Q=>∃l xs i k y,x=Δ l/\vs=[η i]/\H l=h7 /\ -(2 ^ 63)≤i/\i<2 ^ 63/\aO (seqIndex? i xs.length) k/\iQ xs k y/\Q y (qG l (xs.eraseIdx k))
def aX5:ae6 X "list.pop" aKu:=by
 intro pins s σ H x vs v us Q I rx rv h;obtain⟨l,xs,i,k,y,rfl,rfl,hH,h1,h2,hk,hy,q⟩:=h;cases rx;rw[iB u cQ rv.one];rw[r_ cQ];rw[XT z n r e];rw[z8 w hw nc (r.get hy) (call_meets F.slot_list_pop (sj e) F.entry_list_pop (F.args_list_pop_2 _ _)
  (MeetsSeq.list_pop_at l aC.toArray n i t k w (fitsIndex_both h1 h2) (by rw[List.size_toArray,←hl];exact hk) (by rw[cw Array.getElem?_toList hw]) (by rw[ahQ])) (k7 e))]
 refine⟨y,_,aid aLP hH e ?_ (r.eraseIdx k) ?_,nc,q⟩
 ·show aO3 k (zG aLP);rw[List.eraseIdxIfInBounds_toArray]
 ·rw[e9 (aH0 xs k)]
abbrev anT:oB:=λx y H Q=>∃l b xs zs,x=Δ l/\y=Δ b/\H l=h7/\H b=vM zs/\jy aMK/\∀p,sq->Q (Δ p) (qG p (xs++zs))
def a1r:zW Add anT:=by
 rw[Fg];obtain⟨l,b,xs,zs,rfl,rfl,hH,hB,hz,q⟩:=h;cases rx;cases bl;rw[XT z n r e];obtain⟨z2,T?,n2,r2,wU,e2⟩:=I.axS hB;rw[kD (PySem.P.add_list e e2 ?_ (by rw[aA5];omega)) ea (aC.toArray++T?.toArray=zG (aC++T?)) Θ]
 rw[gx ea (W5 _ _ (aCL t' (r.append r2) (by rw[aPz])) (q _ I.fresh))]
abbrev aQl:oB:=λx y H Q=>∃l k xs,x=Δ l/\y=η k/\H l=h7 /\ -(2 ^ 63)≤k/\k<2 ^ 63/\jy aDF ∧
 ∀p,sq->Q (Δ p) (qG p (FD (aqS xs)))
def aZy gC UJ l!:(SZ xs).flatten.length=k*xs.length:=by
 induction k with
 |zero=>simp
 |succ k ih=>rw[List.replicate_succ,List.flatten_cons,List.length_append,ih,Nat.succ_mul,Nat.add_comm]
def a1s:zW Mult aQl:=by
 rw[Fg];obtain⟨l,k,xs,rfl,rfl,hH,h1,h2,hz,q⟩:=h;cases rx;rw[r_ bl];rw[XT z n r e]
 rw[iA hlen (jy aEc) (by rw[List.size_toArray,←hl];exact hz) a46 (¬aEc > (2 ^ 63-1) / 8) (by
  rw[xP ((sizeLine:Nat)≤(2 ^ 63-1) / 8) a_]) a47 (¬(g5 (! Builtin.List.listFitsIndex k))) (by
  rw[aqT (fitsIndex_both h1 h2)]) ayM (¬(aL (aPY aEc))) (by
  rw[aqT (HI hlen)])]
 rw[cV aEn (List.foldl (λx1 x2=>x1++x2) #[] (agr (oN aC.toArray.isEmpty 0 k.toNat) aC.toArray)=(aqS aC).flatten.toArray) (by
  have f0:xZ m (List.foldl (λx1 x2=>x1++x2) #[] (aqO aC.toArray)=(aqO aC).flatten.toArray):=λm=>by
   rw[EW (foldl_rep aC m []) l5 this]
  rw[f0];cases aC with
  |nil=>simp
  |cons a r'=>rw[jF Θ]) (wpAny_binaryOp_repeat_ref (T:= "list") (U:= "int") a_ (sj e) (λs'=>typeIs_int s' k t) noFill_list_mul F.fills_int_mul F.slot_int_rmul repeat_list F.slot_int_index.lookup
  (call_meets F.slot_int_rmul (typeIs_int s k t) F.entry_int_rmul (F.args_int_rmul_2 _ _) (int___rmul___int_list k t l aC.toArray n)
   (pV e (sj e) (call_meets F.slot_list_mul (jc _ e) F.entry_list_mul (F.args_list_mul_2 _ _) (AutoListH.list___mul___list_int_3 l aC.toArray n k t a47 a46 ayM) (k7 e)))))]
 rw[gx aEn (W5 _ _ (aCL t' (r.rep k.toNat) (by rw[er aZy Nat.mul_comm hz])) (q _ I.fresh))]
universe zE
section
variable {prog:Program}{w:World}{A:Around}{E:iO}{s:Shared}
universe zE
section
variable {X:bV}
universe zE
universe L2
namespace aHn
open PySem PySem.W PySem.Calls PyProof.Rows
def aSo{P:Params}s9:∀Bd(vs:b3),WellAll P h vs aLS->aiw ns:=by
 intro ns
 induction ns with
 |nil=>
  intro vs w;rw[zD]at w;cases w;rw[vL]
 |cons n ns ih=>
  intro vs w;rw[b6]at w;cases w with
  |cons a b=>
   cases a;exact bW _ _ (ih _ b)
def aWB{l:OpenLaw}bk azp{P:Params}s9{args:List WData}{vals:b3}
  (i7:aL (l.row.toRowW.claim.pre args))(jN:WellAll P h vals args):
  ∃a vs ns,vals=[Ip]/\args=[WData.list aLS]/\Ik a akM/\aiw ns/\asl n:=by
 rw[bM hsh (aL (WShape.hasAll [] args [E5 η])) aMD.1 hc (aL (l.pre.holds [] { args:=args})) aMD.2];rw[dJ d r h1 h2 (hasAllW_cons hsh)];obtain rfl:=hasAllW_nil h2;rw[iB xs h3 (hasW_list h1)];rw[Lo ns (items_int h3)]
 have hlen:asl n:=by
  unfold OpenLaw.pre at hc
  rw[Ć h4 (aL ((WTm.not (.lt (.lit (η gm)) (.len (.arg 0)))).holds [] { args:=[E5 ĉ]})) (by
   have h4:=(holds_andW hc).1;rw[bF hn h4 h4]) h5 (condW_of h4 (w_not (w_lt w_lit (w_len_list (w_arg rfl))))) eP h5];rw[kD (Nat.le_of_not_lt (cJ q)) q' (gm<iX ns.length) aB]
  first
   | (rw[bF (decide_eq_true q') h5 (absurd h5 a_)])
   | (simp at h5;omega)
 cases jN with
 |cons w1 w2=>
  cases w2;cases w1 with
  |list ho afb=>exact⟨_,_,ns,rfl,rfl,ho,aSo ns _ afb,hlen⟩
def aWC(l:OpenLaw)(args:List WData):aL (l.row.toRowW.claim.post args Nk args):=
 postW_of (r:=l.row.toRowW) (X:=(true == true))
  (show aL (WShape.has [] Nk qQ) by first | rfl | decide | simp[WShape.has,WShape.arms,WShape.armsAll])
  (show(WTm.eq .res (.lit Nk)).value [] { args:=args,res:=eL qQ true,after:=args}=Io qQ (true == true) from w_eq_bool (w_res rfl) w_lit) rfl
def aT7{l:OpenLaw}bk{q:Program}aNA{YP:World->aAD}{d:DefRec}
  azp aOu
  (call:∀(w:World)(s₀ s₁:Shared)(mg mb:Str->gK)(fa:Addr)(o:Obj)(pm cd doc:Value)rE(vs:b3)Bd,
   Ground q loose [] XP w s₀ mg mb s₁.heap->YP w s₁.heap →
   aCK fa cv->o.data=.func (docDef d.name d.params d.body d.scope pm cd doc)->s₁.heap.CodeRec cd d.name->mg d.name=kZ fa →
   aO (s₁.heap.get? a) akM->aiw ns->asl n->s₁.gens=#[] →
   L5 (model l.prog w) callerA (.call (Δ fa) (rV [Δ a])) (λr s'=>r=.ok (.ret Nk)/\aEd/\s'.os=s₁.os/\ó) s₁):
  WalkO q loose XP YP l.row.toRowW d [] (λf vs=>PySem.call f vs):=by
 intro w s₀ s₁ mg mb G Y fa o pm cd doc dV kV ho hd yU hD YW hg args vals as i7 a9w hrd jN hlo;obtain rfl:dV=cT:=Dflts.none hD hdf;obtain rfl:kV=cT:=Dflts.noKw hD;rw[V9 a vs ns rfl aEo hints hlen (aWB hn i7 jN)];refine enter_call (aqy (call w s₀ s₁ mg mb fa o pm cd doc a vs ns G Y ho (fd_plain hd) yU YW aEo hints hlen hg) r s' hq);rw[LM rfl h2 h3 h4 hq (Ω ⟨Nk,Nk,[],rfl,BD,Nk,aWC l _,λ_=>⟨List.Pairwise.nil,cK hm (nomatch hm)⟩⟩) h2 h3 h4]
section
variable {prog:Program}{w:World}{A:Around}{E:iO}{s:Shared}{K:Frag}
abbrev a9j Bp(L d:Addr):gr:=(aAQ).filterMap λa=>if a=L\/a=d then none else(ES).map λo=>(a,o)
universe zE
universe aHn
namespace L2
open PySem PySem.Spec PyProof.Rows
def aH2:∀{vs:b3}UL,aiw ns->Iq Ii vs
 |_,_,c_=>c_
 |_,_,bW n t h=>bW (kS t) (aH2 h)
abbrev aEp jR:Prop:=∀b,jX\/∃o xs,H b=sf .cz (ς xs)
def aX6 DX{mg mb:Str->gK}{fT:sV}ee{fa a:Addr}{fd:FuncData}eS{sp:wV}{s₁:Shared}{vs:b3}UL
  (iw:K.In s₁.heap)(yZ:s₁.heap.Ns mainGlobals mg)(hb:s₁.heap.Ns builtinsNs mb)(Kq:∀x:Str,avb x -> mb x=Mb)(a48:s₁.heap.NoLimit)(hg:s₁.gens=#[])
  (ha:aO (s₁.heap.get? a) akM)(hi:aiw ns)(hl:aMH)(hr:rN callerA)
  (F:∀base:Heap,att->arb mg->rf P w K mg base fT k fa fd [x] sp)(a3u:∀kP GU,BindsTo s fd (rV [u]) [(x,u)])
  (OZ:∀H:aR,aEp H->iI K H a Ii->sp [Δ a] H (λv _=>v=fB .ah) λ_ _ _=>False)
  (aEW:∀H e s',fT [] H s₁ (λ_ _ _=>False) e s'->False):
  L5 (model P w) callerA (.call (Δ fa) (rV [Δ a])) (λr s'=>r=.ok (.ret Nk)/\aEd/\s'.os=s₁.os/\ó) s₁:=by
 rw[HU rv (aH2 hi) a49 hi.length core (∀H:aR,aEp H->iI K H a Ii->FI H s₁.heap->(∀b,H b≠none->b=a)->(H a≠none->bO atQ) →
   L5 (model P w) callerA (.call (Δ fa) (rV [Δ a])) (λr s'=>r=.ok (.ret Nk)/\aEd/\s'.os=s₁.os/\ó) s₁) (by
  intro H hO hS dy hA hK;rw[iA aJO (∀aav,aCK b cv->jX->(agK H).get? b=cv) (λe n=>aXn e n) alX (∀aav af6,aCK b cv->o.data=YB es ep->jX) (λ{b o es ep} e d=>by
   cases q:H b with
   |none=>rfl
   |some u=>
    have e':b=a:=hA b (by rw[fk q]);rw[xK e' ha e];cases e;have d':Data.seq vs.toArray _=Data.dict es ep:=d;cases d') avW (∀{b:Addr}afB,s₁.heap.Ns b m->(agK H).Ns b m) (λ{b m} ⟨o,es,ep,e,d,r⟩=>⟨o,es,ep,aJO e (alX e d),d,r⟩) aRf (K.In (agK H)) (λb o e=>aJO (iw b o e) (by
   cases q:H b with
   |none=>rfl
   |some u=>
    have e':b=a:=hA b (by rw[fk q]);rw[xK e' (hK (by rw[fk q])) e];cases e))]
  rw[kB hM (Mod K mg (agK H)) ⟨aRf,avW yZ,⟨mb,avW hb,Kq⟩,let⟨mc,h1,h2⟩:=a48;⟨mc,avW h1,h2⟩⟩ e0 (Kt P w K mg (agK H) callerA [] s₁ H) ⟨rfl,hM,λb o e=>aZL e,Nat.le_of_eq (aV5 _ _),trivial,abF b hb (Ě b ([]:c5) hb),dy,.of_eq hg⟩ (aqy ((F _ aRf (avW yZ)).run callerA [] s₁ H (rV [Δ a]) [Δ a] [Δ a] _ _ hr e0 (a3u s₁ (Δ a)) (bW rfl c_) (OZ H hO hS)) r s' h)];cases r with
  |error e=>exact(aEW H e s' h).elim
  |ok fl=>
   cases fl with
   |next=>rw[BV h]
   |brk=>rw[BV h]
   |cont=>rw[BV h]
   |ret u=>
    obtain⟨v,H',os,bare,un,aEq,r',q⟩:=h;rw[LO q' (v=fB .ah) q q'];obtain rfl:u=Value.bool true:=r';refine⟨rfl,OldK.of_keep (U8 o e),os,bare⟩;cases q:H b with
    |none=>exact un.keep b o e q (by intro z;rw[n0 (Ě b ([]:c5) z) Θ]) Θ
    |some u=>
     rcases hO b with z | ⟨ob,xs,z⟩
     ·rw[q]at z;cases z
     ·have z2:=un.oC b ob _ z;obtain⟨e1,_⟩:=dy b _ z;obtain⟨e2,_⟩:=aEq b _ z2;rw[e]at e1;cases e1;exact e2)]
 cases hk:atQ with
 |some o=>
  rw[gX e (iw a o hk) ha e];cases e;refine core (Xr _) (λ_=>Ω rfl) (ay ⟨_,vs.toArray,_,hk,rfl,rfl,rfl,by rw[apS a49];exact hl,aX rv⟩) (λb u z=>by have z':(none:Option jg)=dG:=z;cases z') (Ve b z rfl z) (cP (absurd rfl z))
 |none=>
  refine core (MU b b a (qU .cz akM (ς Ii)) none) (cJ b) (Ω (o4 akM ek)) (U8 u z) (dB b z) λ_=>hk
  ·rw[vt (b=a)]
   ·exact ay ⟨_,_,if_pos hb⟩
   ·exact Ω (if_neg hb)
  ·rw[vt (b=a)]
   ·have z':=(ajr (if_pos hb)) z;cases z';subst hb;exact⟨ha,by rw[nJ hl],vs,_,rv,ha⟩
   ·have z':=(ajr (if_neg hb)) z;cases z'
  ·rw[vt (b=a)]
   ·exact hb
   ·rw[n0 (if_neg hb) z]
universe L2
namespace L2
open PySem PySem.Spec PyProof.Rows
universe L2
namespace L2
open PySem PySem.Spec PyProof.Rows
structure Gx dz(x qual:Str)(st:Stmt)(f:Addr)apq:Prop where
 ex:∃(oc:Value) (od:US) (kV doc pm:Value) (an:US) (md ct:Value) (OY:Array gK),
  fd=abZ x (J2 st) (F5 st) (aw st) cT pm an md ct/\ar5 f ⟨oc,od,.func fd,OY⟩/\aq7 K md qual
 kp:VK K (Δ f)
section
variable {P:Program}{w:World}{K:ff}{mg:Str->gK}{base:Heap}
def Gx.binds azt aoI aN6
  (h:∀aOD(md ct:Value)Bf,aCW->aDr (abZ x (J2 st) (F5 st) (aw st) cT pm an md ct) us=Hv WG):Nq K:=by
 obtain⟨oc,od,kV,doc,pm,an,md,ct,OY,rfl,lk,yU⟩:=F.ex;exact .all (h kV doc pm an md ct)
def ZK azt{f:Addr}{oc:Value}{od an:US}{OY:Array gK}{kV doc pm md ct:Value}(l:ar5 f ⟨oc,od,.func (abZ x (J2 st) (F5 st) (aw st) cT pm an md ct),OY⟩)
  (c:aq7 K md qual)(k:VK K (Δ f)):Gx K x qual st f (abZ x (J2 st) (F5 st) (aw st) cT pm an md ct):=⟨⟨oc,od,kV,doc,pm,an,md,ct,OY,rfl,l,c⟩,k⟩
universe zE
def aH3 bk(h:aaH n):n<sizeLine:=Lp h
section
variable {X:bV}
universe zE
def Ke{A B:Prop}(h:B):oN false A B:=by
 rw[au lR h]
def FV{A B:Prop}(h:A):oN true A B:=by
 rw[au ek h]
abbrev m6(H H':aR):Prop:=∀b o,H b=cv->H' b=cv
def m6.refl jR:m6 H H:=λ_ _ h=>h
def m6.trans{H H1 H2:aR}(a:m6 H H1)(b:m6 H1 H2):m6 H H2:=λc o h=>b c o (a c o h)
def m6.free{H H':aR}(e:m6 H H'){l:Addr}(h:aDA (H' l)):aDA (H l):=by
 cases q:H l with
 |none=>rfl
 |some o=>
  rw[e l o q]at h;cases h
universe L2
namespace L2
open PySem PySem.Spec PyProof.Rows
section
variable {X:bV}
def aWD:FL "len" (λxs H Q=>∃a kvs,xs=[V.ref a]/\H a=nu .bL/\Q (asp η) H):=by
 intro pins s σ H xs us Q I r h;rw[dJ a kvs ha q h];rw[Hz u cQ r];cases cQ;exact a3G I (Ω ha) λt s' I'=>⟨asp η,H,I',kS t,q⟩
universe zE
section
variable {κ:Type} [BL]
universe zE
universe L2
universe zE
end
mutual
section
namespace L2
open PySem PySem.Spec PyProof.Rows
abbrev aGI(env:Env):ľ->EV->EV
 |[],acc=>acc
 | (n,k)::r,acc=>WY r (arG xu ((n,(aqw).getD 0)::acc) acc)
def aGD UH:∀(l:ľ)(acc:EV),(gb l (p.2=k!->∃c,SV p.1 c)) →
  (forIn l acc fun(x:Str×NameKind) (cs:EV)=>(if g5 (UU x.2) then do let a ←cellOf env x.1;PT ((x.1,a)::cs) else PT cs:Sem (ForInStep EV)))=Hv (WY l acc)
 |[],acc,_=>rfl
 | (n,k)::r,acc,h=>by
  rw[List.forIn_cons];rw[rR hk xu]
  ·obtain⟨c,hc⟩:=h (n,k) List.mem_cons_self pW
   rw[bM ng (SV n c) hc e1 (cellOf env n=pure c) (by rw[dO cellOf ng])]
   simp only[hk,if_true,e1];show(forIn r ((n,c)::acc) _:Sem _)=_;rw[cW ih (aGD (env:=env) r ((n,c)::acc) (jb (h p (h_ hp)))) (ih.trans ?_)];show _=Hv (WY r (arG xu ((n,(aqw).getD 0)::acc) acc));rw[HM,ng];rfl
  ·have hk':q4 xu:=pW
   simp only[hk',Bool.false_eq_true,if_false];show(forIn r acc _:Sem _)=_;rw[cW ih (aGD (env:=env) r acc (jb (h p (h_ hp)))) (ih.trans ?_)];show _=Hv (WY r (arG xu ((n,(aqw).getD 0)::acc) acc));rw[jF hk]
def aHs UH af2(h:gb scope.names (p.2=k!->∃c,SV p.1 c)):closureFor scope env=Hv (aGI env scope.names []):=by
 unfold closureFor;have:=aGD (env:=env) scope.names [] h;show((forIn scope.names ([]:EV) (fun(x:Str×NameKind) (cs:EV)=>(if g5 (UU x.2) then do let a ←cellOf env x.1;PT ((x.1,a)::cs) else PT cs:Sem (ForInStep EV))):Sem EV) >>= λr=>pure r)=_;rw[auz]
def aGJ UH eS rG:∀{l:ľ}{acc:EV},(gb l (p.2=k!->∃c,SV p.1 c))->(∀c,aO (acc.lookup x) c->SV x c) →
  rS (WY l acc) x c->SV x c
 |[],acc,_,ha,h=>ha c h
 | (n,k)::r,acc,hl,ha,h=>by
  refine aGJ (l:=r) (jb (hl p (h_ hp))) ?_ h;intro c' ng;rw[rR hk xu]
  ·rw[HM]at ng;rw[EG c0 hc0 (hl (n,k) List.mem_cons_self pW) hc0 (SV n c0) hc0];rw[aCy ng];cases hx:x == n with
   |true=>
    rw[hx]at ng;rw[hc0]at ng
    have e:x=n:=aX hx
    rw[er e hc0 ng]
   |false=>
    rw[bF hx ng (ha c' ng)]
  ·rw[bF (if_neg hk) ng (ha c' ng)]
def awZ UH eS:∀{l:ľ}{acc:EV},(aCN x∈l\/∃c,aO (acc.lookup x) c)->∃c,rS (WY l acc) x c
 |[],acc,h=>by
  rcases h with h | h
  ·exact nomatch h
  ·exact h
 | (n,k)::r,acc,h=>by
  rw[abo (∃c,rS (WY r (arG xu ((n,(aqw).getD 0)::acc) acc)) x c) (awZ (l:=r) ?_)];rcases h with h | ⟨c,h⟩
  ·rcases EC with e | h
   ·injection e with e1 e2;subst e1 e2;right;rw[aBE (jB (by rfl))];simp
   ·exact Ω h
  ·right;rw[rR hk xu]
   ·rw[aBE HM];cases hx:x == n with
    |true=>exact jD
    |false=>rw[b4 c h]
   ·rw[jF hk];rw[b4 c h]
abbrev wm gu(scope:Scope)(N:gM)nk(fp:c5)kP jR:bV:=
 { X with N:=N,s₀:=s,H₀:=H,env:=aDt (ai8 []) C X.env,outer:=X.stack,stack:=X.stack,ex:=fp,fn:=λ_=>false,gi:=[],sS:=C8}
abbrev J7 O9(σ:St):St:=gg.map λo=>match o with
 |Xp=>(σ[i]?).join
 |none=>none
structure alb gu(scope:Scope)(N:gM)O9:Prop where
 kind:scope.kind=Il
 aKv:aDn y (y.2≠oR)
 names:aDn y (y.2=xE -> Å y.1 xE)
 free:aDn y (y.2=k!->(SW y.1 oR\/SW y.1 k!))
 len:gg.length=N.length
 gg:∀K0 nr iy,iQ N j x->u7 gg j i->ab9/\aCN x∈scope.names/\Å x k!
def aR6 UH:∀{names:ľ}eS{k:NameKind},aO (names.lookup x) k →
  rS (names.map fun(n,k)=>Vt (xu&&abE&&abK n) n (n,k)) x k\/(k=k! ∧
   rS (names.map fun(n,k)=>Vt (xu&&abE&&abK n) n (n,k)) x oR)
 |[],_,_,h=>Cg
 | (n,k')::r,x,k,h=>by
  have ih:=@aR6 env r x k;show List.lookup x ((Vt (g5 (UU k'&&abE&&abK n)) n (n,k'))::_)=_\/_/\List.lookup x ((Vt (g5 (UU k'&&abE&&abK n)) n (n,k'))::_)=_;cases hx:x == n with
  |true=>
   simp only[List.lookup_cons,hx]at h;cases h;rw[rR hc (UU k'&&abE&&abK n)]
   ·right;rw[WC];rw[aBq hc];rw[b4 (aX hc.1.1) (by rw[aqQ hx])]
   ·left;rw[jF hc];rw[aqQ hx]
  |false=>
   simp only[List.lookup_cons,hx]at h;rw[rR hc (UU k'&&abE&&abK n)]
   ·rw[WC];rw[aqQ hx];exact ih h
   ·rw[jF hc];rw[aqQ hx];exact ih h
def TL.but uT iM{h h':Heap}qu KU(hn:oP C)(hs:Heap.SameBut C h h'):FI H h':=λb u e=>by
 refine(ok b u e).xi (λc v hc q=>HT hs c ?_ q) (cK q q) λ_ _ q=>q;rintro rfl;rcases hc with rfl | hc
 ·rw[hn]at e;cases e
 ·rw[hn]at hc;cases hc
abbrev aeC gu(ifs:dI)(t:kg):Prop:=
 ∀oE afx,i9->t σ H Q →
  jU (forIn ifs true λc r=>if aL r then do let ok ←isTrue c X.env (mS c);PT ok else PT r) (anR X pins σ Q) s
abbrev a3v:kg:=λ_ H Q=>Q true H
def aX7 nq:aeC X [] a3v:=PU s σ H Q I h (wpAny_tests_nil ⟨H,I,h⟩)
def aX8 nq{c:Expr}{t:kg}(h:s6 X c t):aeC X [c] t:=PU s σ H Q I hw (wpAny_tests_one (Wd s σ H Q I hw))
abbrev aH4(J:It)(g:uS)(tt:kg)UQ(acc:Addr)(Q:dZ)afR:Prop:=
 ∃W:qA (CS dw (St->dZ)),(∃m,W 0 m [] σ H)/\∀i m ys σ' H',W i m ys σ' H' →
  (auT H'/\Q H') ∨
  (J.go i H'/\∀x H2,J.awK i H' x H2->g x σ' H2 λσ3 H3=>tt σ3 H3 λb H4=>
   if aL b then te σ3 H4 λy H5=>H5 acc=vM ys/\ys.length<sizeLine/\∃m',m'<m/\W (i+1) m' (ys++[y]) σ3 (Ez H5 acc (ys++[y]))
   else ∃m',m'<m/\W (i+1) m' ys σ3 H4)
abbrev ayN O9(wi:TI)(g:uS)(tt:kg)UQ:TE:=λσ H Q=>
 wi σ H (vh J (∀acc,ů acc->aH4 J g tt te acc (Q (Δ acc)) (J7 gg σ) (Ez H1 acc [])))
def a8h azU uU azu nj{elt target iter:Expr}{ifs:dI}af2 D0{it acc:Value}UH(I:qA Bt)
  (turn:∀n s,I n s->pP mQ A (pyNext it) (λr s₁=>match r with
   |none=>R (.ok .next) s₁
   |qH=>mC mQ A (letOwnedTupleGo target it v) (cK s₁' (mC mQ A (assign target env v) (λ_ s₂=>
     mC mQ A (forIn ifs true λc r=>if aL r then do let ok ←isTrue c env (Ė c);PT ok else PT r) (λok s₃=>
      if aL ok then mC mQ A (Ė elt) (λx s₄=>
       mC mQ A (call (gy "list.append") [acc,x]) (cK s₅ (∃m,m<n/\I m s₅)) C8 s₄) C8 s₃
      else ∃m,m<n/\I m s₃) C8 s₂) C8 s₁')) C8 s₁) C8)
  dh(h:I n s):
  L5 mQ A (.compLoop (G7 elt [⟨target,iter,ifs,0⟩] scope pos) 0 it acc env) R s:=by
 refine codeAny_loop rfl I (cM n s hI) n h;rw[abo (pP _ A ((compTurn (G7 elt [⟨target,iter,ifs,0⟩] scope pos) 0 it acc env).onRaise (λx=>do noteFrame x env;theTreesLotGoes x)) _ _) (wpAny_noted ?_)];rw[iU compTurn_list (aAM (Ğ (turn n s hI) (cM r s₁ h₁) _ _ h'))];cases r with
 |none=>rw[agJ h₁]
 |some v=>
  rw[gp (Ğ h₁ (cM _ s₁' h₁') _ _ h') (Ğ h₁' (λ_ s₂ h₂=>Ğ h₂ (cM ok s₃ h₃) _ _ h') _ _ h')];cases ok with
  |false=>rw[agJ (j3 h₃)]
  |true=>
   exact fC (Ğ h₃ (λx s₄ h₄=>Ğ h₄ (λ_ s₅ h₅=>Ml (wpAny_pure (j3 h₅))) _ _ h') _ _ h')
section
variable {X:bV}{scope:Scope}{N:gM}{gg:tv}
def alb.cells(ok:apu X N)(a8x:X.Ok):gb scope.names (p.2=k!->∃c,aQc p.1 c):=λp hp e=>a8x.has p.1 (ok.free p hp e)
def aUX Bo GX{h1:Heap}{tk:Nat}(co:apu X N)afv(lH:HH b (VX b))
  (yZ:h1.Ns iV (Xr _))(hk:∀b o,(z_ ([]:b3)).get? b=cv->atr=cv):
  Inv (wm X scope N iV fp (mD s (z_ ([]:b3))) (xw (ς []))) [] (J7 gg σ) (xw (ς []))
   (BS s h1 tk):=by
 have cells:=art
 rw[iA look (∀x c,rS (ai8 []) x c->zg) (λx c e=>aGJ cells (λc h=>Cg) e) aH (kH (xw (ς [])) (BS s (z_ ([]:b3)) s.toks)) (aCL t' c_ yb) a9x (∀b o,kr->ð b) (λb o e=>oK mE) a6N (G9 Mu (b∈X.env.locals::X.fs)) I.am7];rw[tD aeD (PC (z_ ([]:b3))=iV) (Heap.size_push ..) ⟨⟨I.ok.mod,co.kind,I.ok.glob,I.ok.blt,?_,?_,?_,λx c h=>(nomatch h),I.ok.hd,I.ok.frames,Ω rfl,?_,?_,?_,?_,?_,?_,?_⟩,rfl,I.bare,iL.kept hk,?_,?_,?_,?_,?_,?_,?_⟩]
 ·rw[Ż (PC (z_ ([]:b3))≤iV) aeD fh]
 ·intro x y c e1 e2;exact I.ok.inj x y c (look x c e1) (look y c e2)
 ·intro x hx;rw[Qq (awZ (Ω ?_)) hx (aO ((asR auG) x) oR\/aO ((asR auG) x) k!) hx key (∀(l:ľ),(∀y∈l,y.2≠oR)->(rS (l.map fun(n,k)=>Vt (xu&&ahk Il&&aDo n ķ) n (n,k)) x oR ∨
    rS (l.map fun(n,k)=>Vt (xu&&ahk Il&&aDo n ķ) n (n,k)) x k!)->aCN x∈l) (by
   intro l
   induction l with
   |nil=>intro _ h;rw[E6]
   |cons p r ih=>
    obtain⟨n,k⟩:=p;intro hn h;rw[bM hn' (∀y∈r,y.2≠oR) (An (hn y (h_ hy))) a7d (k≠oR) (hn (n,k) List.mem_cons_self)];rw[b6]at h;rw[rR hc (xu&&ahk Il&&aDo n ķ)]
    ·rw[B4];rw[WC]at h;rw[aCy h];cases hx:x == n with
     |true=>
      have e:x=n:=aX hx
      rw[aBq hc]
      have fH:k=k!:=aX hc.1.1
      rw[e,fH];rw[aq2]
     |false=>
      rw[bF hx h (h_ (ih hn' h))]
    ·rw[B4];rw[if_neg hc]at h;rw[aCy h];cases hx:x == n with
     |true=>
      rw[hx]at h
      have e:x=n:=aX hx
      rcases h with h | h
      ·rw[n0 aBO a7d]
      ·rw[S0 fH (k=k!) h];rw[e,fH];rw[aq2]
     |false=>
      rw[bF hx h (h_ (ih hn' h))])]
  exact key scope.names co.aKv hx
 ·intro b hb;obtain⟨f0,f1,f2,f3,f4,lz⟩:=hf b hb;rw[b4 (oK (ahl (lH b hb))) (λx c e=>f4 x c (look x c e))]
 ·intro b o e;exact aH.bs b o e
 ·rw[Wf (X.base.objs.size≤PC (z_ ([]:b3))) aeD (Nat.le_succ_of_le (apQ I.sz))]
 ·intro b o e hb;obtain⟨f0,f1,f2,f3,f4,lz⟩:=hf b hb;rcases f3 with z | z
  ·exact I.ok.afa b o e z
  ·rw[n0 (ajU (apQ z)) ò]
 ·intro b hb hm;obtain⟨f0,f1,f2,f3,f4,lz⟩:=hf b hb;rcases List.mem_cons.mp (a6N b hm) with z | z
  ·exact f1 z
  ·exact f2 z
 ·exact aH.stack
 ·exact aH.FC
 ·rw[d_ (Xr _) yZ (xX j x v e1 e2 e3)];rw[BA J7 e2 g_ e2];cases ec:gg[j]? with
  |none=>rw[ec]at e2;cases e2
  |some o=>
   rw[ec]at e2;cases o with
   |none=>cases aMo
   |some i=>
    rw[bM avf (pS (σ[i]?).join) aMo a5a (u7 σ i v) (by
     cases q:σ[i]? with
     |none=>rw[q]at avf;cases avf
     |some z=>rw[q]at avf;rw[mH z qH avf])]
    rw[Le c1 c2 c3 (co.gg j x i e1 ec) m hn hl I.loc];have kx:SW x oR\/SW x k!:=co.free (x,k!) c2 rfl;rw[M7 u cQ lk (hl i x v c1 a5a (ay kx)) u cQ ?_];rcases lk with⟨k1,_⟩ | ⟨k1,c,hc,Oq⟩
    ·rcases kx with z | z<;>(rw[k1]at z;cases z)
    ·refine ay ⟨?_,c,?_,?_⟩
     ·rcases aR6 (env:=X.env) c3 with z | ⟨_,z⟩
      ·exact ay z
      ·exact Ω z
     ·obtain⟨c',ng⟩:=awZ (env:=X.env) (x:=x) (l:=scope.names) (acc:=[]) (Ω c2);rw[vz (look x c' ng) hc];cases this;exact ng
     ·rw[pN oc ho hd Oq oc (hk _ _ (pT ho)) hd]
 ·intro x c e;rw[LM v oc ho hd (Wj x (look x c e)) v oc (hk _ _ (pT ho)) hd]
 ·show bO (upd H s.heap.objs.size (ς []) iV);rw[gY aMs (VI Ie)]
 ·intro x c e;exact aH.N5 x c (look x c e)
 ·intro p hp;rw[n0 (Ě p ([]:gr) hp) Θ]
 ·exact aH.dy.kept hk
 ·show cC (J7 gg σ)=N.length;rw[jA J7 eP co.len]
def comp_back O7{σ σ':St}afW GX{h2:Heap}afv
  (J:aaL (wm X scope N iV fp (mD s (z_ ([]:b3))) (xw (ς []))) [] H' s')
  (hs:aDa iV s'.heap):LR H' s' h2:=by
 have u1:iL Mu fp H (xw (ς [])) s.heap (z_ ([]:b3)):=
  iL.laid (vF u e e) fh I.fresh
 rw[Iu u2 (iL Mu fp (xw (ς [])) H' (z_ ([]:b3)) s'.heap) J.base u3 (u1.trans u2)];rw[kB hn (HB iV) J.free old (∀b o,kr->ats=s'.heap.get? b) (λb o e=>hs.2 b (oK (ahl mE))) (I.aLu (s':=mD s' h2) (ch:=fp) J.os ⟨xX b o e n h1 h2',xX b o e n h1 h2',u3.free,ym e h1,u3.qc,u3.oC,u3.qd⟩ (J.dy.but hn hs) J.bare oX)]
 ·rw[er (BZ ((mD s' h2:Shared).heap.get? b=ats)) (old b o e) (u3.keep b o e n h1 h2')]
 ·rw[mF sl q (u3.slot b o e n h1 h2') sl (by rw[er (BZ ((mD s' h2:Shared).heap.get? b=ats)) (old b o e) q])]
 ·rw[mF o' q (u3.there b o e h1) o' (by rw[er (BZ ((mD s' h2:Shared).heap.get? b=ats)) (old b o e) q])]
 ·obtain⟨f0,f1,f2,f3,f4,lz⟩:=hf b hb;exact⟨f3,f1,f4,lz⟩
variable {elt iter cB:Expr}{ifs:dI}{wi:TI}{g:uS}{tt:kg}{te:TE}{pos:Pos}
def aIu Bo{it:Addr}GX{ri:Ő Heap}{J:It}{Q:V->dZ}{RR:E3 (Addr->Result->Bt)}
  af0 bX(T:R8 X.prog X.w X.K J fp ri)(st:atv 0)(hf:acd H)
  (hg:∀C s0 H0,uP (wm X scope N C fp s0 H0) cB g)(hi:∀C s0 H0,é (wm X scope N C fp s0 H0) tt)(he:∀C s0 H0,A4 (wm X scope N C fp s0 H0) elt te)
  (hw:∀acc,oP acc->aH4 J g tt te acc (Q (Δ acc)) (J7 gg σ) (qG acc []))
  (hR:∀(H':aR)KL(σ':St),aaL (wm X scope N iV fp (mD s (z_ ([]:b3))) (xw (ς []))) [] H' s' →
   nD zB->RR zB iV (.ok .next) s'):
  MO (newList []) acc s₃ (jU (newFunctionEnv scope X.env.globals (ai8 []) [] X.env.qual none cT (some X.env)) (λaQg s₄=>
   L5 (model X.prog X.w) X.A (.compStart (G7 elt [S8 0] scope pos) 0 (Δ it) acc { aQg with scope:=auG}) (RR acc aQg.locals) s₄) s₃):=by
 rw[cV lH (HH b (VX b)) (v5 (by
  obtain⟨o,e,_⟩:=T.obj _ _ st b hb;exact mE)) (wpAny_newObj_type (wpAny_newFunctionEnv co.aKv (by intro y hy;simp at hy) (cM h₁ aEr aEs) co.kind))];dsimp only at aEr aEs⊢;have aeD:PC (z_ ([]:b3))=iV:=Heap.size_push ..;rw[aeD]at aEr aEs⊢
 rw[gv hk (∀b o,(z_ ([]:b3)).get? b=cv->h₁.get? b=cv) (λb o e=>
  aEs.extBut b o (by rw[EW mE aeD (Nat.ne_of_lt this)]) (pT e)) hk0 (∀b o,kr->h₁.get? b=cv) (λb o e=>hk b o (pT e)) awm (ri 0 h₁) (T.keep _ _ _ st λb _ o e=>hk0 b o e)];have Gu:=aUX (tk:=Wv (kU ([]:LS))) co I hf lH (h1:=h₁) (aX aEr) hk;generalize y9:wm X scope N iV fp (mD s (z_ ([]:b3))) (xw (ς []))=rC at Gu hR
 rw[iA Te (rC.prog=X.prog) (by rw[←y9];rfl) gA (rC.w=X.w) (by rw[←y9];rfl) aQW (rC.K=X.K) (by rw[←y9];rfl) eA (rC.A=X.A) (by rw[←y9];rfl)]
 rw[iA ec (aL rC.calm) (by rw[cw y9 ad9]) alc (rC.env=aDt (ai8 []) iV X.env) (by rw[←y9];rfl) ex (rC.sS=C8) (by rw[←y9];rfl) hg' (uP rC cB g) (by rw[cw y9 (hg _ _ _)])]
 rw[gv hi' (é rC tt) (by rw[cw y9 (hi _ _ _)]) he' (A4 rC elt te) (by rw[cw y9 (he _ _ _)]) Kk (∀{H':aR},(WT b b)->HH b (awO rC [] H' b)) (λ{H'} hn b hb=>by
  obtain⟨f0,f1,f2,f3,f4,lz⟩:=hf b hb;refine⟨hn b hb,?_,?_,Ω ?_,?_,?_⟩
  ·rw[au alc (oK (ahl (lH b hb)))]
  ·rw[←y9];show b∉Mu;intro hm;rcases List.mem_cons.mp (I.am7 b hm) with z | z
   ·exact f1 z
   ·exact f2 z
  ·rw[cw y9 hb]
  ·intro x c e;rw[bF alc e (f4 x c (aGJ art (λc h=>Cg) e))]
  ·intro p hp;rw[←y9]at hp;rw[n0 (Ě p ([]:gr) hp) Θ])]
 obtain⟨W,⟨m0,w0⟩,turn⟩:=hw s.heap.objs.size I.fresh
 rw[bM a6P (HH b (bO (upd H s.heap.objs.size (ς []) b))) (v5 (by
  rw[gx (kR (oK (lH b hb))) (Iv b).1])) loop (∀aFW:Shared,aFW=BS s h₁ (Wv (kU ([]:LS))) →
   L5 (model X.prog X.w) X.A (.compLoop (G7 elt [S8 0] scope pos) 0 (Δ it) zB (aDt (ai8 []) iV X.env)) (RR zB iV) aFW) (by
  rintro aFW rfl;refine a8h (λn s'=>∃i ys σ' H',aaL rC [] H' s'/\ri i s'.heap/\(WT b b)/\W i n ys σ' H') ?_ m0 ⟨0,[],J7 gg σ,_,Gu,awm,a6P,w0⟩;rintro n s3 ⟨i,ys,σ3,H3,d?,aml,OW,w3⟩;rcases turn i n ys σ3 H3 w3 with⟨stop,Zw⟩ | ⟨go,step⟩
  ·have:=T.done rC Te gA aQW ec i [] s3 σ3 H3 C8 d? (Kk OW) aml stop;rw[zS eA this (qR this r wG ⟨hr,ru⟩)];rw[f7 hr (hR H3 wG σ3 ru Zw)]
  ·have:=T.item rC Te gA aQW ec i [] s3 σ3 H3 C8 d? (Kk OW) aml go;rw[zS eA this (qR this r wG ⟨u,hr,h4⟩)];subst hr
   refine qR h4 _ ami ⟨x,H5,aya,al7,y5,Ut,aEN⟩;rw[cH ayb (aya.pinned (Kk aEN) (T.obj _ _ Ut)) a1 (hg' _ ami σ3 H5 x u _ ayb al7 (step x H5 y5))];rw[Te,gA,eA,alc,ex]at a1;rw[Et (qR a1 _ awb ⟨σ6,ax6,ayc,aFz⟩) a2 (hi' _ awb σ6 ax6 _ ayc aFz)];rw[Te,gA,eA,alc,ex]at a2;rw[kD (qR a2 b TJ ⟨yT,wO,AI⟩) again (∀{σ8:St}{ZU:aR}{adX:Shared}{zs:dw},Inv rC ([]++aeG fp ami.heap) σ8 ZU adX->(∃m',m'<n/\W (i+1) m' zs σ8 ZU)->∃m,m<n/\∃i ys σ' H',aaL rC [] H' adX/\ri i adX.heap/\(WT b b)/\W i m ys σ' H') (λ{σ8 ZU adX zs} aeS ⟨m',hm,w8⟩=>by
    refine⟨m',hm,i+1,zs,σ8,ZU,aeS.xl,T.keep _ _ _ Ut λb hb o e=>(aeS.pin (b,o) (z0 (z0 (sk hb e)))).1,oX,w8⟩;rw[ù o e d (T.obj _ _ Ut b hb) (aeS.pin (b,o) (z0 (z0 (sk hb e)))).2.1])]
   cases b with
   |false=>
    rw[tP lR AI (again wO AI)]
   |true=>
    rw[ek]at AI⊢;have a3:=he' _ TJ σ6 yT _ wO AI;rw[Te,gA,eA,alc,ex]at a3;rw[Et (qR a3 v adX ⟨y,ZU,aeS,a71,aE,aV,cA⟩) a4 (aH1 (X:=rC) _ adX σ6 ZU zB [y] zB [v] (cK H' (∃m',m'<n/\W (i+1) m' (ys++[y]) σ6 H')) aeS rfl (bW a71 c_) ⟨_,ys,y,rfl,rfl,aE,aV,cA⟩)];rw[Te,gA,eA,ex]at a4;exact xM a4 _ a9Z _ a8S aUi _ a7X (again aUi a7X))]
 exact codeAny_compStart_list (loop _ rfl) (T.self X.A 0 _ _ _ awm (loop _ rfl))
def aZz af0(kN:aaM X cB wi)
  aNM
  aan:gN (G7 elt [S8 0] scope pos) (ayN gg wi g tt te):=by
 rw[Fj Q h];rw[eval_ListComp];rw[gp (wpAny_comprehension_free (use:=none) rfl hs (aHs art) co.kind co.names ?_) (BU (kN pins s σ H _ I h) v s1 h1 (IK h1 itv h2))];obtain⟨it,fp,ri,J,H2,e,br,T,rt,f2,w⟩:=h2;subst e;refine aIu (RR:=λacc C=>compPost (model X.prog X.w) X.A X.sS none (I4 X Q) acc C) co ad9 br T rt f2 (λC=>hg C fp) (λC=>hi C fp) (λC=>he C fp) w (lV H' s' σ' ZV q);obtain⟨m,hn,_⟩:=ZV.loc;rw[b5 m hn (λh' fe=>W5 _ H' (comp_back br f2 ZV fe) q)]
def aUY gV{y:Str}{py anM:Pos}af0(kN:aaM X cB wi)
  aNM
  KJ(hy:jl X.N y)(hx:avc y)aNF
  aM1
  aan:l9 X (CT [di y py] (G7 elt [S8 0] scope pos) anM) (ay9 (ayN gg wi g tt te) (anw i)):=by
 rw[Fj D h];rw[iU (exec_Assign_Name_used _ _ _ _ hsw) (aAM aCP)];show wpAny _ _ (do let _ ←comprehension (G7 elt [S8 0] scope pos) scope X.env _ (newList []) false (mS iter) (aT (acj (di y py)))) _ _ s;rw[gp (fC (Lw (wpAny_comprehension_free (use:=aT (acj (di y py))) (Q:=cK s' (afl X pins D .next s')) rfl hs (aHs art) co.kind co.names ?_) (λ_ s' hq=>Ml (wpAny_pure hq)) _ _ e e)) (BU (kN pins s σ H _ I h) v s1 h1 (IK h1 itv h2))];obtain⟨it,fp,ri,J,H2,e,br,T,rt,f2,w⟩:=h2;subst e
 refine aIu (Q:=vh v (anw i v σ H1 D.nx)) (RR:=λacc C=>compPost (model X.prog X.w) X.A X.sS (aT (acj (di y py))) (cK s' (afl X pins D .next s')) acc C) co ad9 br T rt f2 (λC=>hg C fp) (λC=>hi C fp) (λC=>he C fp) w (lV H' s' σ' ZV q)
 obtain⟨m,hn,_⟩:=ZV.loc;have B:=comp_back (h2:=s'.heap) br f2 ZV (Heap.SameBut.refl ..);show mC _ _ (ark (di y py) ajz) _ _ _;rw[bM a7k (HB (ahw 1)) ZV.free aRd (Em (ahw 1)) (Nat.ne_of_gt (Nat.lt_succ_of_lt br.lt))]
 rw[cV aRe (∀x c,zg->c≠ahw 1) (λx c e z=>by
  obtain⟨v,q'⟩:=br.cell x c e;rw[EW q'.lt z (Rf this (Nat.not_lt.mpr Ie))]) (wpAny_assign_Name (aHT (s:=mD s' s'.heap) B hN hy hx (v:=ajz) rfl (cM s3 d? ⟨a,a7r,ha⟩) hf))]
 have a6T:ahw 1≠a:=by
  rcases ha with z | z
  ·rw[au z aRd]
  ·exact dF (aRe y a z e.symm)
 rw[d_ m (hn.sameBut a7r a6T) (dB h' fe)];refine⟨_,H',d?.turned (t':=s3.toks) (it:=ahw 1) (RC b o e fe e) a7k aRd (ay (Nat.le_succ_of_le br.sz)) aRe (cM p hp z),q⟩;rw[EW (Heap.lt_size (br.pin p hp).1) z (Rf this (Nat.not_lt.mpr Ie))]
universe zE
universe L2
universe zE
end
mutual
section
namespace L2
open PySem PySem.Spec PyProof.Rows
structure Bb DW(outer:D?)jR kP(e:Addr)(cls:Value)(H':aR)KL:Prop where
 os:s'.os=s.os
 bare:ó
 ald:∃(B:Heap) (a0:Value),aCo B e cls a0 s'.heap/\FI H' B/\(∀b o,kr->jX->b∉ET->auV=cv) ∧
  ∀b o,kr->b∉ET->∃o',aO auV o'
 slot:∀b o,kr->jX->b∈ET->∃sl,aO (s'.heap.get? b) (atc o sl)
 free:∀b o,kr->jX->HB b
 qc:∀b xs,H b=vD->H' b=vD
 oC:∀b o u,H b=sf .cz u->H' b=sf .cz u
 qd:∀b ps,H b=eL .wd ps->∃more,H' b=Io .wd (ps++more)
abbrev lG DW:sV:=λouter H s E ev s'=>∃(e:Addr) (cls:Value) (H':aR),ev=Δ e/\Bb P w outer H s e cls H' s'/\E cls none H'
def Bb.un uT Pf afW{e:Addr}{cls:Value}azH:iL ET [] H H' s.heap s'.heap:=by
 obtain⟨B,a0,f,dy,k1,k2⟩:=x.ald;refine⟨λb o q n hb _=>f.1 b o (k1 b o q n hb),λb o q n hb _=>x.slot b o q n hb,λb o q n _=>x.free b o q n,ym q _,x.qc,x.oC,x.qd⟩;rw[vt (b∈ET)]
 ·obtain⟨_,o',ho,_⟩:=f.2.2.1.mem hb;rw[b4 o' ho]
 ·rw[mF o' ho (k2 b o q hb) o' (f.1 b o' ho)]
def Bb.dy uT Pf afW{e:Addr}{cls:Value}azH:FI H' s'.heap:=by
 obtain⟨B,a0,f,dy,k1,k2⟩:=x.ald;exact dy.kept λb o q=>f.1 b o q
def aZA KY{N:gM}apl apa uU Pf nj iM Bk:
  Passes (lG P w) (sQ (lG P w) P w K mg base N qual scope f cd A outer s H E) E:=by
 intro pins σ H1 s1 ev s2 I h;obtain⟨e,cls,H2,rfl,x,q⟩:=h;obtain⟨B,a0,fl,dy,k1,k2⟩:=x.ald;have Kr:(A.deeper oJ).frames=aT Ĉ:=I.ok.frames;rw[abo (mC (model P w) (A.deeper oJ) (leaving oJ (Δ e)) _ _ s2) (wpAny_leaves_onW Kr rfl fl (Fv a6M up))];rw[gv hL (∀b o,kr->ð b) (λb o q=>aho q) nf (∀b o,kr->b∉ET->b∉RW) (λb o q hb hm=>by
  rw[BA Dx hm List.filterMap_cons hm];rcases aAI with z | z
  ·exact hL b o q z
  ·exact hb z) nx (∀b:Addr,b∉([]:c5)) (λb z=>Lh z)]
 refine⟨e,cls,H2,rfl,⟨x.os.trans I.os,x.bare,⟨B,a0,a6M,dy,tC o q n hb,ym q hb⟩,tC o q n hb,ym q n,v3 b q (x.qc b xs (arO b q)),λb o u q=>x.oC b o u (aij b u q),vG ps⟩,q⟩
 ·exact k1 b o (ag8 o q n hb (nx b)) (Jz q n (nx b)) (nf b o q hb)
 ·rw[eg o1 aE (ģ o q (nx b)) (k2 b o1 aE (nf b o q hb))]
 ·rw[EG sl aE (ag9 b q n hb (nx b)) hm (b∈RW) (by
   rw[jA Dx List.filterMap_cons (h_ hb)])]
  obtain⟨sl2,aV⟩:=x.slot b _ aE (Jz q n (nx b)) hm
  obtain⟨_,adq,cA,YU⟩:=fl.2.2.1.mem hm
  rw[aV]at cA;cases cA;rw[mF A6 Ga (up b _ aV YU) A6 Ga]
 ·rw[eg o1 aE (ģ o q (nx b)) (x.free b o1 aE (Jz q n (nx b)))]
 ·rw[agQ m1 e1 (arP b q) m2 e2 (x.qd b _ e1) (m1++m2) (aAU e2)]
structure Un aam nr nk:Prop where
 name:mg x=kZ C
 exc:PySem.W.excIn K C [aC4 d5,d5 "Exception",ajE,akT] "ValueError.__new__" = true
def Un.own kQ{mg:Str->gK}eS qu s9(X:Un K mg x C)(iw:K.In h):OwnCls x C [aC4 d5,d5 "Exception",ajE,akT] "ValueError.__new__" mg h:=by
 have q:=X.exc;rw[fF X.name ?_];unfold PySem.W.excIn at q;split at q
 ·rename_i dd cd sl ho;split at q
  ·rename_i C' bm k0 k1 k2 k3 n k5 hm hs;simp only[Bool.and_eq_true,beq_iff_eq,Bool.not_eq_true']at q;obtain⟨⟨⟨⟨⟨rfl,rfl⟩,aQh⟩,ht⟩,dy⟩,hni⟩:=q;obtain⟨nm,bs,mro,ns,Zw,hd,sn,sub,ab,col,del⟩:=cd;dsimp only at hm aQh dy hni;subst hm aQh
   rw[LO jf (sl=#[k0,k1,k2,k3,Ţ "ValueError.__new__",k5]) (by
    obtain⟨l⟩:=sl;simp only at hs;rw[hs]) jf];exact⟨bm,ns,nm,Zw,bs,hd,sn,sub,ab,col,dd,k0,k1,k2,k3,k5,_,iw _ _ ho,.of_isNs (PySem.W.isNs_of_in iw dy),PySem.W.nsMap_none_of_in iw dy hni,PySem.W.tail_of_in iw ht⟩
  ·cases q
 ·cases q
abbrev a2M nk(E:d8)(ta:ni):kO:=λD σ H=>apG σ H vs (aCV/\E (Δ C) none H1)
def aIv KY{N:gM}apl apa uU Pf nj iM Bk
  eS qu{np dc pos:Pos}{e₀:Expr}{rest:dI}{ta:ni}azv(hh:bO (A.deeper oJ).handled)
  (hg:OA (sQ (lG P w) P w K mg base N qual scope f cd A outer s H E) x)(ha:qo (sQ (lG P w) P w K mg base N qual scope f cd A outer s H E) Su ta)
  K3
  aNP
  aNp:
  l9 (sQ (lG P w) P w K mg base N qual scope f cd A outer s H E) (.Raise (aT (xg (di x np) Su [] dc)) none pos) (a2M C E ta):=by
 intro pins s1 σ H1 D I h;have O:=M.own I.rq;obtain⟨tl,aV8,nm,q,bs,hdct,sn,sub,ab,col,dd,k0,k1,k2,k3,k5,mN,hC,hN,hni,T⟩:=(M.own (I.ok.mod.ac4)).obj;rw[nE FB PySem.F.excBase_ValueError amT (Yu (agD dc Su).any) (by
  rw[he];show q4 (false||gz (agD dc rest).any);rw[cU i8]) (wpAny_Raise_call_subT (C:=C) (nm:=nm) (q:=q) (N:=aV8) (bs:=bs) (bm:=tl) (hdct:=hdct) (sn:=sn) (sub:=sub) (ab:=ab) (col:=col) (dd:=dd) (k0:=k0) (k1:=k1) (k2:=k2) (k3:=k3) (k5:=k5)
  FB (mN:=mN) (T.hasType FB.hasBase) hh amT hni (xk I hg M.name (j3 ?_) hd))]
 rw[cH hA (ha dc pins s1 σ H1 _ I h) a9K hA];show mC (model P w) (A.deeper oJ) (evalArgs (Δ C) true (agD dc Su) []) _ _ s1;have aRb:mC (model P w) (A.deeper oJ) (spliced (agD dc Su)) (aHf (sQ (lG P w) P w K mg base N qual scope f cd A outer s H E) pins σ _) _ s1:=hA;rw[he]at aRb⊢;rw[akm (Calls.evalArgs_plain (Lw aRb (cM us s2 ⟨vs,H2,br,r2,hlen,aV⟩) _ _ y y)) ⟨rfl,by rw[cw r2.length hlen],br.j6 _ _ hC,hN.keeps br.j6,T.keeps br.j6,Fv e mk⟩];rw[iA ZX (s.heap.objs.size<s2.heap.objs.size) br.lt Kr ((A.deeper oJ).frames=aT Ĉ) br.ok.frames aH7 (s2.heap.FunFrames base Ĉ) br.stack lH (∀env∈Ĉ,∀b,aO env.frame b->b∈RW) (λenv he b hb=>aPV env he hb)];rw[abo (mC (model P w) (A.deeper oJ) (leaving oJ (Δ e)) _ _ (t_ s2)) (wpAny_leaves_madeW (base:=PySem.W.hideAll s2.heap RW) Kr rfl (λb o q=>PySem.W.of_hideAll _ q) (PySem.W.funFrames_hide aH7 lH) mk (xX h2 t x1 x2 x3 x4))]
 rw[iA nx (∀b:Addr,b∉([]:c5)) (λb z=>Lh z) hL (∀b o,kr->ð b) (λb o q=>aho q) nf (∀b o,kr->b∉ET->b∉RW) (λb o q hb hm=>by
  rw[BA Dx hm List.filterMap_cons hm];rcases aAI with z | z
  ·exact hL b o q z
  ·exact hb z) aEt (∀b o,H2 b=cv->b∉RW) (λb o q hm=>by
  rw[vz (br.FC b hm) q];cases this)]
 rw[tD a9y (∀b y,H2 b=zm y->b∉RW) (λb y q=>aEt b _ q) ⟨e,Δ C,H2,rfl,⟨br.os,br.bare,⟨_,Δ t,x1,vG o,tC o q n hb,ym q hb⟩,tC o q n hb,λb o q n=>br.base.free b o q n (nx b),br.base.qc,br.base.oC,br.base.qd⟩,aV⟩]
 ·refine(br.dy b o q).xi (λc v hc z=>aqV z ?_) (cK z z) λ_ _ z=>z;rcases hc with rfl | hc
  ·exact aEt _ _ q
  ·exact aEt _ _ hc
 ·exact aqV (br.base.keep b o q n hb (nx b)) (nf b o q hb)
 ·rw[mF o' q' (br.base.there b o q (nx b)) o' (aqV q' (nf b o q hb))]
 ·rw[EG sl aE (br.base.slot b o q n hb (nx b)) hm (b∈RW) (by
   rw[jA Dx List.filterMap_cons (h_ hb)])]
  obtain⟨_,adq,cA,YU⟩:=aH7.mem hm
  rw[aE]at cA;cases cA;rw[mF A6 Ga (x4 b _ (mk.keeps _ _ aE) YU) A6 Ga]
universe L2
universe zE
section
namespace L2
open PySem PySem.Spec PyProof.Rows
abbrev OB(e C:Addr):jg:=.ext λh=>∃ob vs,Ik e ob/\ob.cls=Δ C/\acg (kY vs)
noncomputable abbrev bV.tr gu(gi:gr)(E:iO):bV:={ X with gi:=gi,sS:=E}
abbrev aGG(fT:sV)wX:Prop:=∀(pins:gr)afR kP aoG,i9->fT X.stack H s (aG σ) e s'->X.sS e s'
abbrev a2N(sp:wV)(DK:dw)UD(t:ni):TE:=Nn H vs (sp (vs++DK) H1 Q (aG σ))
abbrev a2O nk(m:Str)(sp:wV)(DK:dw)UD(ta:TE)(t:ni):TE:=R6 H x (∃a dx fs,x=Δ a/\H1 a=æ C/\bO (fs.lookup m) ∧
 t σ H1 (mz vs (sp (x::(vs++DK)) H2 Q (aG σ))))
section
variable {X:bV}{fT:sV}{k:Nat}{f C:Addr}{fd:FuncData}{ps:gM}{sp:wV}{DK:dw}{ds:b3}{aG:St->d8}{x m:Str}{p pos apos:Pos}{e o:Expr}{es:dI}{ta:TE}{t:ni}
def aJk Bo pI Bg w4 aow(hr:akV)az3
  bX(r:RZ)(h:sp (vs++DK) H Q (aG σ)):É (Δ f) us (I4 X Q):=by
 rw[kB r2 (Iq (vs++DK) (us++ds)) (r.append hd) hl (atn (us++ds)) (by rw[cw r2.length (F.len _ _ _ _ h)]) (asv (aqy (F.run X.A X.stack s H (rV us) (us++ds) (vs++DK) Q (aG σ) hr I.aQj (hb s us I.rq hl) r2 h) r s' hq))];cases r with
 |error e=>exact hx pins σ H s e s' I hq
 |ok fl=>
  cases fl with
  |ret u=>exact I.after hq
  |next=>rw[BV hq]
  |brk=>rw[BV hq]
  |cont=>rw[BV hq]
def aX9 aow(hr:akV)(hg:K8)(hm:X.mg x=kZ f)(hk:VK X.K (Δ f))az3
  af3 ao5 Uy:
  IU (di x p) (e::es) pos (a2N sp DK aG t):=by
 rw[Fj Q h];rw[QA (VN (xk I hg hm ?_ Km)) (PySem.W.callWith_K (h₀:=X.base) I.ok.mod.ac4 hk (xM (ha pos pins s σ H _ I h) us s1 vs H1 aH r q (k7 aH.rq)) he i8) (aJk F hr hb hd hx aH r q)]
def aYa{pl:aAC}(he:gN o ta)(c:Mo X.K C)(hm:Meth X.K C m f)aow(hr:akV)az3 af3
  aNI
  aM3:
  IU (Hp m) (e::es) pos (a2O C m sp DK aG ta t):=by
 intro pins s σ H Q I h
 refine PySem.W.methodCall_KW (pl:=pl) (nR (CU s σ H _ I h) u ⟨x,H1,aH,rx,a,dx,fs,ex,ea,l,q⟩) ht
 subst ex
 obtain rfl:u=Ip:=rx;rw[QA (aU8 aH ea c hm l ?_) (PySem.W.callWith_K (first:=[Δ a]) (h₀:=X.base) I.ok.mod.ac4 hm.kp (xM (ha pos pins s1 σ H1 _ aH q) us s2 vs H2 br r aV (k7 br.rq)) kL i8) (aJk (us:=Δ a::us) (vs:=Δ a::vs) F hr hb hd hx br (bW rfl r) aV)]
universe zE
def Bb.next uT Pf afW{e:Addr}{cls a0:Value}{B h':Heap}azH
  (f:aCo B e cls a0 s'.heap)(dy:FI H' B)(k1:∀b o,kr->jX->b∉ET->auV=cv)(k2:∀b o,kr->b∉ET->∃o',aO auV o')
  (f':aCo B e cls a0 h')(up:s'.heap.UpToSlots h'):Bb P w outer H s e cls H' (t_ s'):=by
 refine⟨x.os,x.bare,⟨B,a0,f',dy,k1,k2⟩,tC o q n hb,x.free,x.qc,x.oC,x.qd⟩;obtain⟨sl,aE⟩:=x.slot b o q n hb;obtain⟨_,adq,cA,YU⟩:=f.2.2.1.mem hb;rw[aE]at cA;cases cA;rw[mF A6 Ga (up b _ aE YU) A6 Ga]
def Bb.aKw nq O7{σ:St}afW{e C:Addr}bX(x:Bb X.prog X.w X.stack H s e (Δ C) H' s')(kL:X.stack=Ź)(hdct:∃ob vs,aO (s'.heap.get? e) ob/\ob.cls=Δ C/\acg (kY vs)):
  HB e/\kH (t8 H' e (OB e C)) s':=by
 obtain⟨B,a0,f,dy,k1,k2⟩:=id x.ald;rw[bM aRc (bO auU) f.2.1 hen (HB e) (by
  cases q:H' e with
  |none=>rfl
  |some u=>
   have h1:=dy.lt q
   have:∃o,auU=cv:=by
    have z:=dy e u q;cases u with
    |lst xs=>obtain⟨_,_,_,_,z⟩:=z;rw[ie z]
    |tup xs=>obtain⟨_,_,_,o,z,_⟩:=z;rw[ie z]
    |bL kvs=>rw[Ã z z];rw[ie z]
    |dT kvs=>rw[Ã z z];rw[ie z]
    |set S n=>rw[aBU z z];rw[ie z]
    |ins C dx fs=>rw[aBu z z z]
    |own y=>rw[aCv z z z]
    |amH fs=>obtain⟨_,⟨_,_,_,z,_⟩,_⟩:=z;rw[ie z]
    |qm lo hi=>obtain⟨_,_,_,z⟩:=z;rw[ie z]
    |cz ob u=>obtain⟨z,_⟩:=z;rw[ie z]
    |wd ps=>rw[ie (mH auU vB z)]
    |met f y=>rw[ie (mH auU vB z)]
    |ext φ=>obtain⟨_,⟨_,z⟩,_⟩:=z;rw[ie z]
   rw[arL o z this aRc z];cases z)]
 rw[Ĕ ob he hc hd hdct]
 rw[gv hnf (e∉Mu) (λhm=>by
  obtain⟨_,adq,cA,YU⟩:=f.2.2.1.mem hm;rw[he]at cA;cases cA;exact YU vs hd) new (∀b o,kr->b≠e) (λb o q z=>by
  subst z;rw[arL o' q' (k2 b o q hnf) aRc q'];cases q') OU (∀b o,H b=cv->b≠e) (λb o q=>by
  have fq:∃o',Lb o':=by
   have z:=MW o q;cases o with
   |lst xs=>obtain⟨_,_,_,_,z⟩:=z;rw[ie z]
   |tup xs=>obtain⟨_,_,_,o,z,_⟩:=z;rw[ie z]
   |bL kvs=>rw[Ã z z];rw[ie z]
   |dT kvs=>rw[Ã z z];rw[ie z]
   |set S n=>rw[aBU z z];rw[ie z]
   |ins C dx fs=>rw[aBu z z z]
   |own y=>rw[aCv z z z]
   |amH fs=>obtain⟨_,⟨_,_,_,z,_⟩,_⟩:=z;rw[ie z]
   |qm lo hi=>obtain⟨_,_,_,z⟩:=z;rw[ie z]
   |cz ob u=>obtain⟨z,_⟩:=z;rw[ie z]
   |wd ps=>rw[ie (show Lb _ from z)]
   |met f y=>rw[ie (show Lb _ from z)]
   |ext φ=>obtain⟨_,⟨_,z⟩,_⟩:=z;rw[ie z]
  rw[eg o' z fq (new b o' z)])]
 have u:=x.un;rw[fF hen (I.aLu (ch:=[]) x.os ⟨u.keep,u.slot,tC o q n z,u.there,vG xs,ym v q,vG ps⟩ (vG o) x.bare (abF b z z))]
 ·rw[gY (new b o q) (u.free b o q n z)]
 ·rw[gY (OU b _ q) (u.qc b xs q)]
 ·rw[gY (OU b _ q) (u.oC b o v q)]
 ·rw[mF m q' (u.qd b ps q) m (by rw[gY (OU b _ q) q'])]
 ·have aEq:=x.dy;rw[vt (b=e)]
  ·rw[RG q];cases q;rw[d_ ⟨ob,vs,he,hc,hd⟩ ⟨ob,he⟩ (i? h1 h2 p k)];rw[vf aFo vs' z1 z2 TX p aFo vs' (k _ z1) z2 TX]
  ·rw[Xm E7 q ((aEq b o q).xi (p5 z z) (dB c z) (cM c xs z))]
   ·rw[gY (λaG6=>by rw[aG6,hen]at z;cases z) z]
   ·rw[gY (λaG6=>by rw[aG6,hen]at z;cases z) z]
abbrev aLC dz(Gh:Addr)(yz uy:Nat)(nx:St->dZ):St->d8:=λσ cls _ H'=>∃C,cls=Δ C/\PF (PySem.W.exmOne K (Δ C) (Δ Gh)) ∧
 ∀e,HB e->nx ((σ.set yz (kZ e)).set uy none) (t8 H' e (OB e C))
section
variable {X:bV}
def a2P{x n y:Str}{Gh:Addr}{yz uy:Nat}aND{tb:(St->d8)->kO}uT(Te:X.prog=P)(gA:X.w=w)
  (kL:X.stack=Ź)(Kr:aDm)(ad9:Yt)KJ
  (hx:K8)(hm:X.mg x=kZ Gh)(hy:iQ X.N yz y)(alO:ab5 y)(hn:iQ X.N uy n)(ln:ab5 n)
  (hb:∀(gi:gr)(T!:iO)UD,aGG (lG P w) (ajO gi) aG->sY (ajO gi) body (tb aG))
  aNV:
  l9 X (.Try body [aDp (ach x np) (some n) [CT [di y py] (di n av3) apos] ay1] [] [] pos) (λD σ H=>tb (aLC X.K Gh yz uy D.nx) D σ H):=by
 subst Te gA;rw[sx D (wpAny_Try_except ?_)];have anx:=I.ok.kind
 have aUh:Inv (X.tr (X.gi++pins) (λe s₁=>jU (noteFrame e X.env) (cK s₂ (jU (setFlight e none) (cK s₃ (jU (handleBy e X.env [aDp (ach x np) (some n) [CT [di y py] (di n av3) apos] ay1]) (afl X pins D) s₃)) s₂)) s₁)) [] σ H s:=
  ⟨⟨I.ok.mod,I.ok.kind,I.ok.glob,I.ok.blt,I.ok.above,I.ok.inj,I.ok.has,I.ok.ak8,I.ok.hd,I.ok.frames,I.ok.stk,I.ok.aQ3,I.ok.bs,I.ok.Z9,I.ok.afa,I.ok.anY,I.ok.AV,I.ok.Us⟩,I.os,I.bare,I.base,I.loc,I.cell,I.free,I.N5,jb (I8 (aX hp)),I.dy,I.len⟩
 rw[cV back (∀{ZP:gr}{σ':St}{H':aR}{s':Shared}{T!:iO},aaL (ajO (X.gi++pins)) ZP H' s'->Nv X) (λ{ZP σ' H' s' T!} J=>
  ⟨⟨J.ok.mod,J.ok.kind,J.ok.glob,J.ok.blt,J.ok.above,J.ok.inj,J.ok.has,J.ok.ak8,J.ok.hd,J.ok.frames,J.ok.stk,J.ok.aQ3,J.ok.bs,J.ok.Z9,J.ok.afa,J.ok.anY,J.ok.AV,J.ok.Us⟩,J.os,J.bare,J.base,J.loc,J.cell,J.free,J.N5,jb (J.pin p (agv hp)),J.dy,J.len⟩) (Lw (hb (X.gi++pins) _ (aLC X.K Gh yz uy D.nx) ?_ [] s σ H D aUh h) (cM f s1 q) _ _ z z)]
 ·
  intro ZP σ1 H1 s1 ev s2 Gu q;obtain⟨e,cls,H2,rfl,x2,C,rfl,hex,Zw⟩:=q;have Gu:=back Gu;obtain⟨B,a0,fl,dy,k1,k2⟩:=id x2.ald
  have hfs:X.A.frames=aT Ź:=kn Gu.ok.frames kL
  rw[show(X.tr (X.gi++pins) _).stack=Ź from kL]at fl k1 k2 x2
  show mC (model X.prog X.w) X.A (noteFrame (Δ e) X.env) _ _ s2;rw[gp (wpAny_looks_onW hfs Kr fl (cM h3 held a8j)) (wpAny_landsW held (cM h4 avj a8k))];rw[fG x4 (x2.next fl dy k1 k2 avj (a8j.trans a8k)) a8u (Bb X.prog X.w X.stack H1 s1 e (Δ C) H2 (mD s2 h4)) (by rw[au kL x4])]
  obtain⟨oe,vs,he,hc,hd,_⟩:=avj.first
  obtain⟨_,ae2⟩:=Bb.aKw Gu a8u kL ⟨oe,vs,he,hc,hd⟩;refine wpAny_handleBy_cons (codeAny_handlers_test (Calls.Name_function_global ae2.ok.kind hx (Calls.loadGlobal_global (by rw[au ae2.ok.glob (ae2.mod.glob.keeps ae2.j6)]) hm ?_) hdx)) (by intro q;cases q)
  rw[cV LT (PySem.W.Looks (model X.prog X.w) h4 (az6 (Δ e)) (Δ C)) (by
   rw[←hc];exact(PySem.W.Looks.ld he).andThen .now) (PySem.W.Looks.here (PySem.W.exm_one ae2.rq LT hex) ?_)];rw[ek]
  rw[gp (codeAny_handlers_suite_as ?_) (lands_againW avj (cM h5 aQ4 a8l))];rw[fG x5 (x4.next avj dy k1 k2 aQ4 a8l) a8v (Bb X.prog X.w X.stack H1 s1 e (Δ C) H2 (mD s2 h5)) (by rw[au kL x5])]
  obtain⟨a7N,a8p,a63,hc5,a60,_⟩:=aQ4.first
  obtain⟨hen,aUp⟩:=Bb.aKw Gu a8v kL ⟨a7N,a8p,a63,hc5,a60⟩;rw[gp (awI aUp hN hn (Ω ln) (v:=Δ e) rfl (dB awb aIW) (ay ln)) (aBK (wpAny_Assign_Name ?_ aKy))];rw[B5 a7H a7j a7e aIW.loc hlen (uy < σ1.length) (by rw[gx Gu.len (List.getElem?_eq_some_iff.mp hn).1])]
  obtain⟨a90,a74,a7F⟩:=a7e uy n (Δ e) hn (k6 (List.getElem?_set_self hlen)) (Ω ln);cases a74
  rw[cV a7i (a7H n=kZ e) (by
   rcases a7F with⟨_,z⟩ | ⟨k,_⟩
   ·exact z
   ·have a7G:SW n xE:=ln;rcases k with k | k<;>(rw[a7G]at k;cases k)) (wpAny_Name (wpAny_loadName_local anx ln a7j a7i ?_) hdn)];rw[gp (awI aIW hN hy (Ω alO) (v:=Δ e) rfl (dB TJ aIX) (ay alO)) (wpAny_execs_nil ?_)];rw[z8 a7I aRo a9L (id aIX.loc) (wpAny_nameGoes_keeps ln aRo (by rw[cU anx]) (i? h8 a8n aRp YZ))]
  rw[Ų aUq (U3 X ((σ1.set yz (kZ e)).set uy none) (t8 H2 e (OB e C)) (BS TJ h8 (TJ.toks+1))) (by
   have nh:=aIX.weak (σ':=(σ1.set yz (kZ e)).set uy none) Θ (λi v hv=>by
    by_cases hi:i=uy
    ·subst hi;rw[Hi (aX hlen) hv];cases hv
    ·rw[HX (Ne.symm hi) hv];by_cases O0:i=yz
     ·subst O0
      have l2:i < σ1.length:=by rw[gx Gu.len (List.getElem?_eq_some_iff.mp hy).1]
      rw[Hi l2 hv];rw[au (agq (aX l2)) hv]
     ·rw[HX (Ne.symm O0) hv];rw[er (agx (Ne.symm O0)) (agx (Ne.symm hi)) hv])
   rw[B5 m wM a7h (id nh.loc) em (m=a7I) (by
    obtain⟨o1,es1,a9F,a7l,hd1,_,f1⟩:=id wM;obtain⟨o2,a9J,a9G,A5,Kv,_,f2⟩:=id aRo;rw[a7l]at A5;cases A5;rw[hd1]at Kv;rw[ß Kv Kv];subst Kv
    funext z
    rw[←f1 z,←f2 z])]
   subst em;rw[tD tracked (ê (t8 H2 e (OB e C)) h8) (nh.dy.but nh.free YZ) ⟨nh.ok,nh.os,nh.bare,⟨RH b o q n,RH b o q n,nh.base.free,ym q hx,nh.base.qc,nh.base.oC,nh.base.qd⟩,⟨_,aRp,xX j z v e1 e2 e3⟩,cM z c q,nh.free,nh.N5,sy,tracked,nh.len⟩]
   ·exact PA YZ (oK (aDi q)) (nh.base.keep b o q n hb hx)
   ·rw[Ħ sl aE (nh.base.slot b o q n hb hx) sl YZ (oK (aDi q)) aE]
   ·rw[Ħ o' aE (nh.base.there b o q hx) o' YZ (oK (aDi q)) aE]
   ·rw[M7 u cQ lk (a7h j z v e1 e2 e3) u cQ ?_];rcases lk with⟨kk,a7J⟩ | ⟨kk,c,ng,Oq⟩
    ·rw[kD (Ω (k7 kk)) hz (z≠n) (λDk=>by
      subst Dk;rw[Xe (aw3 hN e1 hn)];rw[Hi (aX hlen) e2];cases e2)]
     show(vP z n a8n (m z))=dG;rw[Qf hz a7J]
    ·exact ay ⟨kk,c,ng,Oq.sameBut YZ (nh.Kz z c ng)⟩
   ·rw[mF v Oq (nh.cell z c q) v (Oq.sameBut YZ (nh.Kz z c q))]
   ·rw[vf aE aV cA Ga q5 (nh.pin p hp) (HT YZ p.1 cA aE) aV cA Ga q5]) ⟨_,_,aUq,Zw e hen⟩]
 ·cases f with
  |next=>
   rw[Mk σ' H' J Zx q (aqt σ' H' (back J) Zx)]
  |brk=>rw[LM σ' H' J Zx q σ' H' (back J) Zx]
  |cont=>rw[LM σ' H' J Zx q σ' H' (back J) Zx]
  |ret v=>rw[WA v' σ' H' J r Zx q ⟨v',σ',H',back J,r,Zx⟩]
universe zE
universe L2
universe zE
end
mutual
section
namespace L2
open PySem PySem.Spec PyProof.Rows
inductive ak where
 |ai | ah(b:Bool) | int pF | str nr | lst uW | tup uW | obj dh
 |pj Bd
mutual
noncomputable def ak.lF dh:nC ak
 |ς xs=>Wk n
 |aW xs=>Wk n
 |ο m=>d! (m<n)
 |.ai=>true
 |.ah _=>true
 |η _=>true
 |av _=>true
 |.pj _=>true
noncomputable def ak.Dy dh:nC fK
 |[]=>true
 |x::xs=>ak.lF n x&&Wk n
end
inductive fu where
 |gone
 |lst uW
 |aj afM
 |jO(kvs:gP pL ak)
 |ij afM
 |ins nk(fs:r9)
 |exc nk
noncomputable abbrev ba:=List fu
noncomputable abbrev aY:=z4 ak
noncomputable abbrev lim:Nat:=16000000
def amz bk(h:n≤lim):jy n:=by rw[au sizeLine_eq (jk h)]
def aeE bk(h:n<lim):n<sizeLine:=by rw[au sizeLine_eq (Nat.lt_of_lt_of_le h a_)]
section
variable (K:ff) (ι:c5) (S:aR)
mutual
noncomputable def bp:ak->cS V
 |.ai,v=>v=.ai
 |.ah b,v=>v=.ah b
 |η i,v=>v=η i
 |av x,v=>v=av x
 |ς xs,v=>∃a vs,v=Δ a/\S a=X7/\bJ xs vs
 |aW xs,v=>∃a vs,v=Δ a/\S a=vR vs/\bJ xs vs
 |ο n,v=>∃a,v=Δ a/\xe
 |.pj ns,v=>∃a,v=Δ a/\iI K S a Ii
noncomputable def bJ:fK->cS dw
 |[],vs=>vs=[]
 |x::xs,vs=>∃v r,vs=v::r/\bp x v/\bJ xs r
end
abbrev o7 tg(kvs:Sg)(aJ:Ea):Prop:=Paired (fun(p:κ×ak) (q:κ×V)=>p.1=q.1/\zy p.2 q.2) kvs aJ
universe zE
structure Up aoE(ι':c5)(S':aR):Prop where
 ix:∀dh rE,xe->Sn ι' a
 sm:m6 S S'
structure Ext api(ι':c5)(S' H':aR):Prop extends S9 S where
 pre:ι'.take ι.length=ι
 fr:∀b u,H b=dG->b∉ι->UR b->H' b=dG/\b∉ι'/\aul b
def Ext.refl apj:Jt S H:=⟨V6 _ _ h h S,List.take_length,λ_ _ h1 h2 h3=>⟨h1,h2,h3⟩⟩
def Ext.trans{ι ι1 ι2:c5}{S bg b8 H H1 H2:aR}(a:VU S H ι1 bg H1)(b:Ext ι1 bg H1 ι2 b8 H2):VU S H ι2 b8 H2:=
 ⟨NI n x h (b.ix n x (a.ix n x h)) (a.sm.trans b.sm),by
  rw[k9 a.pre b.pre]
  have hl:aCY ι1.length:=by rw[←h1];rw[f9]
  rw[←h2,List.take_take,Nat.min_eq_left hl]at h1
  exact h1,λc u h1 h2 h3=>by
  rw[Mg k1 k2 k3 (a.fr c u h1 h2 h3) (b.fr c u k1 k2 k3)]⟩
def Up.push KM rE:Up ι S (ι++[a]) S:=by
 rw[fF (cM n x h) (m6.refl S)];have hl:aDE n:=Lq.1;rw[au (List.getElem?_append_left hl) h]
def uQ.mono{S S':aR}(h:m6 S S')jh{u:jg}(r:uQ S a u):uQ S' a u:=by
 rcases r with r | ⟨o,r⟩
 ·exact Ω (h _ _ r)
 ·exact o4 o (h _ _ r)
def iI.mono kQ{S S':aR}(h:m6 S S')jh w4(q:iI K S a vs):iI K S' a vs:=by
 rcases q with q | q
 ·exact Ω (q.mono h)
 ·exact ay q
section
variable {K:ff}
mutual
theorem bp.amJ af1 aOo(hs:m6 S S'):∀afQ,jw->bp K ι' S' x v
 |.ai,v,h=>C3
 |.ah b,v,h=>C3
 |η i,v,h=>C3
 |av x,v,h=>C3
 |ς xs,v,h=>by
  rw[vJ bp];rw[vf a vs e q r h a vs e (hs _ _ q) (aiT hi hs vs r)]
 |aW xs,v,h=>by
  rw[vJ bp];rw[vf a vs e q r h a vs e (hs _ _ q) (aiT hi hs vs r)]
 |ο n,v,h=>by
  rw[vJ bp];rw[pN a e q h a e (hi _ _ q)]
 |.pj ns,v,h=>by
  rw[vJ bp];rw[pN a e q h a e (q.mono hs)]
theorem bJ.amJ af1 aOo(hs:m6 S S'):∀uW D6,gO->õ K
 |[],vs,h=>U0 bJ h
 |x::xs,vs,h=>by
  rw[vJ bJ];rw[vf v r e h1 h2 h v r e (bp.amJ hi hs x v h1) (aiT hi hs r h2)]
end
def bp.up af1(e:S9 S)aoQ:bp K ι' S' x v:=bp.amJ e.ix e.sm x v h
def bp.mono afU(e:sA)aoQ:bp K ι' S' x v:=bp.amJ e.ix e.sm x v h
def bJ.up af1(e:S9 S)aoR:õ K:=aiT e.ix e.sm vs h
def bJ.mono afU(e:sA)aoR:õ K:=aiT e.ix e.sm vs h
def o7.up tg af1(e:S9 S)KP:o7 K ι' S' kvs aJ:=
 asa h _ _ z ⟨z.1,z.2.up e⟩
def o7.mono tg afU(e:sA)KP:o7 K ι' S' kvs aJ:=
 asa h _ _ z ⟨z.1,z.2.mono e⟩
mutual
theorem bp.lF KM:∀afQ,jw->aL (ak.lF ι.length x)
 |.ai,v,h=>rfl
 |.ah b,v,h=>rfl
 |η i,v,h=>rfl
 |av x,v,h=>rfl
 |ς xs,v,h=>by
  rw[bp]at h;rw[Ĕ a e q r h];rw[ah4 (bJ.Dy xs vs r)]
 |aW xs,v,h=>by
  rw[bp]at h;rw[Ĕ a e q r h];rw[ah4 (bJ.Dy xs vs r)]
 |ο n,v,h=>by
  rw[ate bp h a e q h];rw[ah4 (decide_eq_true (List.getElem?_eq_some_iff.mp q).1)]
 |.pj ns,v,h=>rfl
theorem bJ.Dy KM:∀uW D6,gO->aL (Wk ι.length)
 |[],vs,h=>rfl
 |x::xs,vs,h=>by
  rw[bJ]at h;obtain⟨v,r,e,h1,h2⟩:=h;rw[ak.Dy,bp.lF x v h1,bJ.Dy xs r h2];rfl
end
mutual
theorem bp.cut KM bk:∀afQ,oW x->jw->bp K aty S x v
 |.ai,v,b,h=>C3
 |.ah _,v,b,h=>C3
 |η i,v,b,h=>C3
 |av x,v,b,h=>C3
 |ς xs,v,b,h=>by
  rw[vJ bp];rw[ak.lF]at b;rw[vc a vs e q h a vs e q (bJ.cut xs vs b r)]
 |aW xs,v,b,h=>by
  rw[vJ bp];rw[ak.lF]at b;rw[vc a vs e q h a vs e q (bJ.cut xs vs b r)]
 |ο m,v,b,h=>by
  rw[vJ bp];rw[ak.lF]at b;rw[pN a e q h a e (by rw[au (List.getElem?_take_of_lt (of_decide_eq_true b)) q])]
 |.pj ns,v,b,h=>by
  rw[tP bp h h]
theorem bJ.cut KM bk:∀uW D6,aL (Wk n)->gO->bJ K aty S xs vs
 |[],vs,b,h=>U0 bJ h
 |x::xs,vs,b,h=>by
  rw[vJ bJ];rw[aAs ak.Dy b];rw[vf v r e h1 h2 h v r e (bp.cut x v b.1 h1) (bJ.cut xs r b.2 h2)]
end
variable {ι:c5}{S:aR}
def bJ.nil:pZ [] []:=k6 bJ
def bJ.cons gW d9 mj w4(h:jw)(t:gO):pZ (x::xs) (v::vs):=by
 rw[gx bJ (X8 v h t)]
def bJ.wz gW pA(h:bJ K ι S (x::xs) vs):∃v r,vs=v::r/\jw/\pZ xs r:=by
 rw[bF bJ h h]
def bJ.length:∀pA,gO->ź vs.length
 |[],vs,h=>by rw[bJ]at h;subst h;rfl
 |x::xs,vs,h=>by
  obtain⟨v,r,rfl,_,h2⟩:=h.wz;simp[bJ.length h2]
def bJ.get:∀pA gV gW,gO->zu->∃v,u? vs/\jw
 |[],vs,i,x,h,e=>Lh e
 |y::xs,vs,i,x,h,e=>by
  rw[dJ v r h1 h2 h.wz];cases i with
  |zero=>rw[L1 e e];exact h! v h1
  |succ i=>
   rw[pN w aE aV (bJ.get (i:=i) h2 (aX e)) w (aX aE) aV]
def bJ.append:∀aoW{vs ws:dw},gO->pZ ys ws->pZ (xs++ys) (vs++ws)
 |[],ys,vs,ws,h,t=>by rw[bJ]at h;rw[f7 h t]
 |x::xs,ys,vs,ws,h,t=>by
  rw[dJ v r h1 h2 h.wz];exact bW h1 (bJ.append h2 t)
def bJ.one aoQ:pZ [x] [v]:=bW h c_
def bJ.set:∀pA wY iy,jw->gO->pZ (xs.set i x) (vs.set i v)
 |[],vs,x,v,i,h,t=>by rw[abL bJ t t]
 |y::xs,vs,x,v,i,h,t=>by
  rw[dJ w r h1 h2 t.wz];cases i with
  |zero=>exact bW h h2
  |succ i=>exact bW h1 (bJ.set i h h2)
def bJ.drop:∀pA dh,gO->pZ (xs.drop n) (vs.drop n)
 |xs,vs,0,h=>h
 |[],vs,n+1,h=>by rw[abL bJ h h]
 |x::xs,vs,n+1,h=>by
  rw[dJ v r h1 h2 h.wz];exact bJ.drop n h2
def bJ.take:∀pA dh,gO->pZ (xs.take n) (vs.take n)
 |xs,vs,0,h=>by rw[vm c_]
 |[],vs,n+1,h=>by rw[abL bJ h h]
 |x::xs,vs,n+1,h=>by
  rw[dJ v r h1 h2 h.wz];exact bW h1 (bJ.take n h2)
def bJ.reverse:∀pA,gO->pZ xs.reverse vs.reverse
 |[],vs,h=>by rw[abL bJ h h]
 |x::xs,vs,h=>by
  rw[dJ v r h1 h2 h.wz];rw[List.reverse_cons,List.reverse_cons];exact(bJ.reverse h2).append (.one h1)
def bJ.dropLast aoR:pZ xs.dropLast vs.dropLast:=by
 rw[List.dropLast_eq_take,List.dropLast_eq_take,h.length];exact h.take _
def bJ.eraseIdx:∀pA iy,gO->pZ aLO (vs.eraseIdx i)
 |[],vs,i,h=>by rw[abL bJ h h]
 |x::xs,vs,i,h=>by
  rw[dJ v r h1 h2 h.wz];cases i with
  |zero=>exact h2
  |succ i=>exact bW h1 (bJ.eraseIdx i h2)
def bJ.rep aoR:xZ k (pZ (FD (SZ xs)) (FD (SZ vs)))
 |0=>c_
 |k+1=>by
  rw[aPJ];exact h.append (bJ.rep h k)
def o7.length tg KP:kvs.length=aJ.length:=aLY
def bp.alM mj:Ih .ai↔v=.ai:=R1
def bp.Tg GW mj:Ih (.ah b)↔v=.ah b:=R1
def bp.NK iz mj:Ih (η i)↔v=η i:=R1
def bp.aR4 eS mj:Ih (av x)↔v=av x:=R1
def bp.adp d9 mj:Ih (ς xs)↔∃a vs,v=Δ a/\S a=X7/\gO:=R1
def bp.avk d9 mj:Ih (aW xs)↔∃a vs,v=Δ a/\S a=vR vs/\gO:=R1
def bp.amK UL mj:Ih (.pj ns)↔∃a,v=Δ a/\iI K S a Ii:=R1
def bp.ft bk mj:Ih (ο n)↔∃a,v=Δ a/\xe:=R1
universe zE
def aH5 gC:∀{l:qy},l.Nodup->∀{n m:Nat}(h1:Rd n)(h2:Rd m),l[n]=l[m]->n=m
 |[],_,n,m,h1,h2,e=>Lh h1
 |x::l,nd,n,m,h1,h2,e=>by
  rw[aBX nd];cases n with
  |zero=>
   cases m with
   |zero=>rfl
   |succ m=>
    simp only[List.getElem_cons_zero,List.getElem_cons_succ]at e;rw[kA (e▸List.getElem_mem _) nd.1]
  |succ n=>
   cases m with
   |zero=>
    simp only[List.getElem_cons_zero,List.getElem_cons_succ]at e;rw[kA (e▸List.getElem_mem _) nd.1]
   |succ m=>
    simp only[List.getElem_cons_succ]at e;rw[aH5 nd.2 (aX h1) (aX h2) e]
abbrev N? dz api rE:cS fu
 |.gone=>∃o,H a=cv
 |ς xs=>JC/\∃vs,H a=X7/\gO
 |.aj kvs=>JC/\∃aJ,H a=X5 .bL/\Sh
 |.jO kvs=>JC/\∃aJ,H a=X5 .dT/\Sh
 |.ij kvs=>∃ob aJ,S a=nv .cz .bL/\H a=nv .cz .bL/\Sh
 |dD C fs=>JC/\∃dx kc,H a=aT (dD C dx kc)/\Ju fs kc
 |bP C=>JC/\H a=aT (OB a C)
structure gq dz aoE dY jR:Prop where
 sub:m6 S H
 len:Ll ι.length
 nd:ι.Nodup
 ob:∀dh rE(o:fu),xe->ace M->La H a
abbrev Slots dz aoE(ρ:aY)(σ:St):Prop:=
 ρ.length=σ.length/\∀iy nt,u7 ρ i x->∃v,u7 σ i v/\jw
section
variable {K:ff}{ι ι':c5}{S S' H H':aR}{M M':ba}{ρ:aY}{σ:St}
def N?.there jh azz:∃u,H a=dG:=by
 cases o with
 |gone=>exact h
 |lst xs=>rw[aAG vs e h e]
 |aj xs=>rw[aAG vs e h e]
 |jO xs=>rw[aAG vs e h e]
 |ij xs=>rw[aBu e h e]
 |ins C fs=>obtain⟨_,dx,vs,e,_⟩:=h;rw[ie e]
 |exc C=>rw[aCv e h e]
def N?.up jh azz(e:S9 S)(hs:JC->aul a)(hh:H' a=H a):N? K ι' S' H' a o:=by
 cases o with
 |gone=>rw[mF u q h u U!]
 |lst xs=>rw[Ny z q r h (hs z) U! (r.up e)]
 |aj xs=>rw[Ny z q r h (hs z) U! (r.up e)]
 |jO xs=>rw[Ny z q r h (hs z) U! (r.up e)]
 |ij xs=>rw[vc ob vs z q h ob vs (e.sm _ _ z) U! (r.up e)]
 |ins C fs=>rw[vc z dx vs q h (hs z) dx vs U! (r.up e)]
 |exc C=>rw[mF z q h (hs z) U!]
def Slots.mono(s:Fc)(e:sA):yg ι' S' ρ σ:=⟨s.1,λi x h=>by
 rw[RE v (s.2 i x h) v h1 (h2.mono e)]⟩
def Slots.set(s:Fc)aoQ iy:yg ι S (EO i) (aiP qH):=by
 rw[WO (aK s.1) j y hj];by_cases hij:i=j
 ·subst hij;rw[pY hl (i<cC (EO i)) (List.getElem?_eq_some_iff.mp hj).1 List.length_set hl];rw[Hi hl hj];cases hj;rw[b5 v (k6 (agq (by rw[cw s.1 hl]))) h]
 ·rw[HX hij hj];rw[RE w (s.2 j y hj) w (by rw[au (List.getElem?_set_ne hij) h1]) h2]
def gq.addr w5 bk jh(h:xe):∃o,ace M/\La H a:=by
 rw[Wh hl (zQ n) (by rw[←s.len];exact Lq.1) M[n] SI (s.ob n a _ h SI)]
def gq.at w5 bk w6 afN:∃a,xe/\La H a:=by
 rw[Wh hl (aDE n) (by rw[gx s.len Lq.1]) ι[n] SI (s.ob n _ o SI h)]
def gq.fresh w5 uV(h:sq):p∉ι:=λhm=>by
 rw[aiL n hn (List.getElem_of_mem hm)];obtain⟨o,_,q⟩:=s.addr (List.getElem?_eq_some_iff.mpr ⟨hn,e⟩);rw[arL u z q.there h z];cases z
def gq.TQ w5 uV(h:sq):UR p:=s.sub.free h
def gq.tree w5 uV{o:jg}(h:sq):gq K ι (upd S p o) M (Cf p)/\Jt (upd S p o) (Cf p):=by
 rw[pM hS (s.TQ h) sm (m6 S (upd S p o)) (λb u q=>by rw[JQ hS]) up (Up ι S ι (upd S p o)) (NI _ _ h h sm)];rw[fF (Ŭ u s.len n a u) ⟨up,List.take_length,tC u h1 h2 h3⟩]
 ·rw[vt (b=p)]
  ·subst hb;rw[tP g8 q q]
  ·rw[tP E7 q (Rq u q)]
 ·rw[CA aS (a≠p) (s.fresh h (Ls z h1)) ((R_ n a u).up up (cP (by rw[Cn z])) (kR aS))]
 ·have aS:=cq h1 h;rw[b5 (by rw[Cn h1]) h2 (by rw[Cn h3])]
def gq.side w5 uV{o:jg}(h:sq):gq K ι S M (Cf p)/\Jt S (Cf p):=by
 rw[fF (Ŭ u s.len n a u) ⟨V6 _ _ h h S,List.take_length,tC u h1 h2 h3⟩]
 ·rw[gY (cq (Rq u q) h) (Rq u q)]
 ·rw[CA aS (a≠p) (s.fresh h (Ls z h1)) ((R_ n a u).up (V6 _ _ h h S) (cP z) (kR aS))]
 ·have aS:=cq h1 h;rw[b5 (by rw[Cn h1]) h2 h3]
def gq.enter w5 uV w6(hp:p∉ι)(h:La H p):gq K (ι++[p]) S (M++[o]) H:=by
 refine⟨s.sub,ah3,?_,lV n a u h1 h2⟩
 ·rw[List.nodup_append];rw[d_ s.nd Θ (i? a ha b hb)];rw[List.mem_singleton]at hb;rw[f7 hb (cP (hp (z▸ha)))]
 ·by_cases hn:aDE n
  ·rw[List.getElem?_append_left hn]at h1;rw[ú (by rw[cw s.len hn])]at h2;exact(R_ n a u).up (.push p) (cP z) rfl
  ·rw[LO e1 (n=ι.length) (by
    have:=aAB.1;rw[Ē];omega) e1];simp at h1;rw[nG s.len h2 h2];subst h1;rw[f7 h2 (h.up (.push _) (cP z) rfl)]
def gq.new w5 uV{u:jg}w6(h:sq)(ho:La (qW p u) p):gq K (ι++[p]) S (M++[o]) (qW p u)/\VU S H (ι++[p]) S (qW p u):=by
 rw[fF ((s.side h).1.enter (s.fresh h) ho) ⟨.push p,Θ,tC v h1 h2 h3⟩];have aS:=cq h1 h;rw[b5 (by rw[Cn h1]) (f_ h2 aS) h3]
def gq.inj w5{n m:Nat}jh(h1:xe)(h2:iQ ι m a):n=m:=by
 obtain⟨l1,e1⟩:=aAB;rw[eg l2 e2 aAn (aH5 s.nd l1 l2 aMB)]
def gq.put w5 bk jh{u:jg}w6(h:xe)(hS:JC)(ho:La (qW a u) a):gq K ι S (I9 o) (qW a u)/\Jt S (qW a u):=by
 rw[fF (Ŭ v ah3 m b v) ⟨V6 _ _ h h S,List.take_length,tC v h1 h2 h3⟩]
 ·rw[gY (cq q hS) (Rq v q)]
 ·rw[abx (n=m)]
  ·rw[xK hm h h1];cases h1
   have hl:zQ n:=by
    rw[Pw aAn.1]
   rw[Hi hl h2];cases h2;exact ho
  ·rw[HX hm h2];rw[CA aS (b≠a) (hm (s.inj h (z▸h1))) ((R_ m b v).up (V6 _ _ h h S) (cP z) (kR aS))]
 ·rw[Wh aS (b≠a) (cP (h2 (Ls z h))) (by rw[Cn h1]) h2 h3]
def gq.freeze w5 bk jh d9(h:xe)(hM:M[n]? = h7):
  ∃S',gq K ι S' (I9 .gone) H/\Jt S' H/\bp K ι S' (ς xs) (Δ a):=by
 obtain⟨hS,vs,hH,hr⟩:=s.ob n a _ h hM
 rw[Ð sm (m6 S (Ez S a vs)) (λb u q=>by rw[JQ hS]) up (Up ι S ι (Ez S a vs)) (NI _ _ h h sm) ⟨Ez S a vs,Ŭ u ah3 m b v,⟨up,List.take_length,tC v h1 h2 h3⟩,bp.adp.mpr (kX a vs g8 (hr.up up))⟩]
 ·rw[vt (b=a)]
  ·rw[RG q];cases q;exact hH
  ·rw[bF E7 q (Rq u q)]
 ·rw[abx (n=m)]
  ·rw[xK hm h h1];cases h1;have hl:zQ n:=aAo.1;rw[Hi hl h2];cases h2;rw[ie hH]
  ·rw[HX hm h2];rw[CA aS (b≠a) (hm (s.inj h (z▸h1))) ((R_ m b v).up up (cP (by rw[Cn z])) rfl)]
 ·rw[Wh aS (b≠a) (cP (h2 (Ls z h))) h1 h2 (by rw[Cn h3])]
universe zE
inductive Res(α:Type) where
 |ok(a:α)dY
 |exc KV dY
 |bad
abbrev Res.bind rF:xV->(α->ba->ak0)->ak0
 |.ok a M,f=>f a M
 |bP c M,_=>bP c M
 |aF,_=>aF
@[simp] def Res.ag rF{a:α}ck aat:(aiU a).bind f=f a M:=rfl
@[simp] def Res.aYb rF rG ck aat:(Res.exc c M:xV).bind f=bP c M:=rfl
@[simp] def Res.a8X rF aat:(Res.bad:xV).bind f=aF:=rfl
abbrev Res.opt gC(o:auh)dY:xV:=match o with
 |some a=>.ok a M
 |none=>aF
@[simp] def Res.aw0 gC{a:α}ck:ahv (some a) M=.ok a M:=rfl
@[simp] def Res.aYc gC ck:Res.opt (none:auh) M=aF:=rfl
abbrev eN rF aOt(aG:d8)api(Q:β->dZ):cS xV
 |.ok x M'=>∀ι' S' H' v,sA->U7->dg ι' S' x v->nD v
 |bP c M'=>∀ι' S' H',sA->U7->aG (Δ c) none H'
 |aF=>False
section
variable {α β γ δ:Type}{K:ff}{dg:c5->aR->α->cS β}{aKx:c5->aR->γ->cS δ}{aG:d8}{ι ι':c5}{S S' H H':aR}{Q Q':β->dZ}{P:δ->dZ}{r:xV}
def eN.up(h:eN K dg aG ι S H Q r)(e:sA):eN K dg aG ι' S' H' Q r:=by
 cases r with
 |ok x M=>exact λι1 bg H1 v e1 s1 r1=>h ι1 bg H1 v U' s1 r1
 |exc c M=>exact λι1 bg H1 e1 s1=>h ι1 bg H1 U' s1
 |bad=>exact h
def eN.bind{f:α->ba->Res γ}(h:eN K aKx aG ι S H P (r.bind f))
  (g:∀ι1 bg aa H1 x v,VU S H ι1 bg H1->gq K ι1 bg aa H1->dg ι1 bg x v->eN K aKx aG ι1 bg H1 P (f x aa)->Q v H1):eN K dg aG ι S H Q r:=by
 cases r with
 |ok x M=>exact λι1 bg H1 v e1 s1 r1=>g ι1 bg M H1 x v e1 s1 r1 (eN.up h e1)
 |exc c M=>exact h
 |bad=>exact h
universe zE
abbrev yM rF aOt UD(d:aY->ba->xV)afR(Q:β->dZ):Prop:=
 ∃ι S M ρ,u5/\Fc/\eN K dg (aG σ) ι S H Q dH
noncomputable abbrev bz:=aY->ba->lN
noncomputable abbrev aHI:=aY->ba->Res fK
noncomputable abbrev iK:=aY->ba->Res Bool
noncomputable abbrev oj dz:c5->aR->ak->cS V:=λι S x v=>jw
noncomputable abbrev ayO dz:c5->aR->fK->cS dw:=λι S x v=>pZ x v
noncomputable abbrev y_:c5->aR->Bool->cS Bool:=λ_ _ x v=>v=x
structure aKW wX UI l?:Prop where
 out:Sm (Fz zR d)
structure aKX wX UI(d:iK):Prop where
 out:s6 X e (Fz y_ d)
structure DV wX UI(d:iK):Prop where
 out:PW X e (Fz y_ d)
structure a8T wX(es:dI)(d:aHI):Prop where
 out:qo X es (Fz (ayO X.K) d)
def A4.imp nq GV{t t':TE}(h:Sm t)aao:Sm t':=XV s H Q I s H Q I (i σ H Q hw)
def s6.imp nq GV{t t':kg}(h:s6 X e t)aao:s6 X e t':=XV s H Q I s H Q I (i σ H Q hw)
def PW.imp nq GV{t t':kg}(h:PW X e t)aao:PW X e t':=λw pins s σ H Q I hw=>h w pins s σ H Q I (i σ H Q hw)
def qo.imp nq{es:dI}{t t':ni}(h:qo X es t)aao:qo X es t':=λpos pins s σ H Q I hw=>h pos pins s σ H Q I (i σ H Q hw)
def DV.aGl af8 GV{d:iK}(h:DV X aG e d):C6 e d:=⟨PW.pt h.out⟩
universe L2
universe zE
end
mutual
section
namespace L2
open PySem PySem.Spec PyProof.Rows
section
variable {X:bV}{aG:St->d8}{a b c e:Expr}{es:dI}{da db o6 d:bz}{ds:tu}{pos:Pos}
abbrev ae iy:bz:=λρ M=>match ρ[i]? with
 |G! x=>.ok x M
 |_=>aF
def af iy eS(hN:ab9:=by rfl)(hv:aBJ x:=by first | exact apJ | exact Or.inr apJ | exact Or.inr aAm)
  aNR:iP (di x pos) (ae i):=⟨by
 rw[XW (A4.imp (a1R hN hv hd yU) λσ H Q h=>?_) S M w h];rw[B6 ae];cases q:ρ[i]? with
 |none=>rw[ko q]
 |some o=>
  cases o with
  |none=>rw[ko q]
  |some y=>
   rw[q]at w;rw[RE v (sl.2 i y q) v h1 (vp v h2)]⟩
abbrev dC nt:bz:=cK M (.ok x M)
def aYd wY(h:Sm (amm v))(r:∀ι S,bp X.K ι S x v):iP e (dC x):=⟨by
 rw[XW (A4.imp h λσ H Q hh=>?_) S M w hh]
 exact vp v (r ι S)⟩
def bI iz{j}:yk BE (η i) j (Ξ i):=aiV a1S E2
def ke GW{j}:yk BE (qQ b) j (dC (.ah b)):=aiV a3L H7
def fP{j}:yk BE cT j (dC .ai):=aiV a1T ī
def b7 eS{j}:yk BE (av x) j (b! x):=aiV aKl aME
def aFM eS iz{t:Tok}(hm:X.mg x=qU η i t)(hg:K8:=by rfl)K3:iP (di x pos) (Ξ i):=
 aiV (aJH hg hm (v:=η i) (kS t) hd) E2
abbrev Dj:tu->aHI
 |[]=>cK M (.ok [] M)
 |d::ds=>Ň (dH).bind (į aa).bind xs (.ok (x::xs) M2)
noncomputable abbrev aXM dz dh:c5->aR->fK->cS dw:=λι S x v=>pZ x v/\x.length=n
structure anV wX(es:dI)KW:Prop where
 out:qo X es (Fz (BW X.K) (Dj ds))
def aED:anV X aG [] []:=⟨by
 rw[XW (qo.imp aeB (RX H Q h)) S M w h]
 exact vp [] (kS c_)⟩
def D!(ha:ak2)(hr:YD es)azd:anV X aG (e::es) (d::ds):=⟨by
 rw[Qs (qo.imp (va ha.out hr.out hs) (RX H Q h)) S M w h ⟨ι,S,M,ρ,aq,sl,xQ⟩];refine RU (eN.bind (dg:=BW X.K) w1 λι2 b8 M2 H2 xs vs e2 s2 r2 w2=>?_)
 exact w2 ι2 b8 H2 (v::vs) mG s2 ⟨bW MB r2.1,aK r2.2⟩⟩
abbrev uz l_ uW dY:lN:=ahs aj0 (if aL live then .ok e_ (M++[ς xs]) else .ok (ς xs) M) aF
def Zu{ι:c5}aox Bk pI Pg pA kQ aaf(r:gO)(w:Fe (yi xs)):
  aCV/\∀p,sq->Q (Δ p) (qG p vs):=by
 rw[B6 uz];split at w
 ·rw[M8];rw[fF (by rw[cw r.length (amz hl)]) sy];split at w
  ·rw[Vl hS (aq.TQ hp) s2 e2 (aq.new (u:=ς vs) (o:=ς xs) hp ⟨hS,vs,g8,r⟩)];refine w _ _ _ _ e2 s2 (bp.ft.mpr (VP p));rw[aDO]
  ·rw[eg s2 e2 (aie (ς vs) hp) (w _ _ _ _ e2 s2 (bp.adp.mpr (kX p vs g8 (r.mono e2))))]
 ·rw[cX]
@[simp] def gG Pj(h:aj0):L9 xs M=.ok (ς xs) M:=by rw[iT uz CJ aDJ]
@[simp] def ml Pj(h:aj0):uz true xs M=.ok e_ (M++[ς xs]):=by rw[iT uz CJ ek]
abbrev dM KW:bz:=BB (ve).bind xs (.ok (aW xs) aa)
abbrev cb l_ KW:bz:=BB (ve).bind xs (uz live xs aa)
def mZ{x1}(h:YD es)(hn:ā 1000:=by exact VE):yk MT es x1 (dM ds):=⟨by
 rw[MK (a1C h.out) hh hh S M (eN.bind (dg:=BW X.K) w λι1 bg aa H1 xs vs e1 s1 r1 w1=>?_)];rw[fF (by rw[←kU r1.1,r1.2];exact asb (aH3 hn)) sy];rw[eg s2 e2 (s1.tree (o:=aW vs) hp) (w1 _ _ _ _ e2 s2 (ė p vs g8 (r1.1.mono e2)))]⟩
def aQP l_(h:YD es):iP (.List es pos) (cb live ds):=⟨by
 rw[MK (a1D h.out) hh hh S M (eN.bind (dg:=BW X.K) w λι1 bg aa H1 xs vs e1 s1 r1 w1=>?_)]
 exact Zu s1 r1.1 w1⟩
abbrev NS dY:ak->yd fK
 |ς xs=>qD
 |ο n=>match M[n]? with
  |h7=>qD
  |_=>none
 |_=>none
@[simp] def F7 ck d9:Ă (ς xs) xs:=rfl
@[simp] def a82 ck d9:bO (sC (aW xs)):=rfl
@[simp] def BM ck bk:sC (ο n)=(match M[n]? with | h7=>qD | _=>none):=rfl
def il Be gW d9 mj K6(h:Ă x xs):∃p vs,v=Δ p/\H p=X7/\gO:=by
 cases x with
 |lst ys=>
  cases h;rw[agZ p vs e q r];exact X8 p (Ad e) q
 |obj n=>
  rw[Vi p e r o e2 q e BM e2 h];cases o with
  |lst ys=>
   cases h;rw[Vw h1 h2 q];exact X8 p h1 h2
  |_=>cases h
 |_=>cases h
abbrev ow dY nt:yd fK:=match x with
 |aW xs=>qD
 |.pj ns=>aT ĉ
 |x=>Fd
@[simp] def pv ck d9:aO (ow M (ς xs)) xs:=rfl
@[simp] def aYe ck d9:aO (ow M (aW xs)) xs:=rfl
@[simp] def a83 ck UL:ow M (.pj ns)=aT ĉ:=rfl
@[simp] def amA ck bk:ow M (ο n)=(match M[n]? with | h7=>qD | _=>none):=rfl
def bJ.ints jv:∀ns:fX,pZ (ns.map ak.int) Ii
 |[]=>c_
 |n::ns=>bW E2 (bJ.ints ns)
def awz Be gW d9 mj K6(h:aO (ow M x) xs):
  ∃p vs,v=Δ p/\(iI K H p vs\/Gl K H p vs)/\gO:=by
 cases x with
 |tup ys=>
  cases h;rw[Fw p e q r];exact X8 p (ay (.of (Ad e))) q
 |pj ns=>
  cases h;rw[iB p e (bp.amK.mp r)];exact Cr p (Ω aMF) (.ints ns)
 |lst ys=>
  rw[vf p vs e1 e2 q (il aq r h) p vs e1 (Ω (.of e2)) q]
 |obj n=>
  rw[vf p vs e1 e2 q (il aq r h) p vs e1 (Ω (.of e2)) q]
 |_=>cases h
noncomputable abbrev D2:=ak->ak->ba->lN
abbrev Zz dz(f:D2):oB:=λx y H Q=>∃E ι S M p q,u5/\zy p x/\zy q y/\Fe (f p q M)
abbrev cu(f:D2)aoX:bz:=Ň (da ρ M).bind (db ρ aa).bind y (f x y M2)
def ant{f:D2}kQ za pI(h:yM K (oj K) aG (cu f da db) σ H Q):amn (Zz K f) (WZ K aG da) (WZ K aG db) σ H Q:=by
 rw[Jv ⟨ι,S,M,ρ,aq,sl,eN.bind (dg:=oj K) w λι1 bg aa H1 x v e1 s1 r1 w1=>?_⟩];refine RU (eN.bind (dg:=oj K) w1 λι2 b8 M2 H2 y u e2 s2 r2 w2=>?_);exact⟨_,ι2,b8,M2,x,y,s2,MB,r2,w2⟩
def uo{op:Operator}{f:D2}(ho:nS (binaryOp op) (Ei f))afT:iP (.BinOp a op b pos) (cu f da db):=Ws (a3x ho ha.out hb.out) _ _ _ h (ant h)
def aFt.imp{f:XN}{r r':oB}(h:nS f r)(i:∀x y H Q,r' x y H Q->r x y H Q):nS f r':=λpins s σ H x y v u Q I rx bl q=>h pins s σ H x y v u Q I rx bl (i x y H Q q)
abbrev oq(C:Int->apL)(g:Int->Int->ak):D2:=λx y M=>match x,y with
 |η i,η j=>Bx (aL (C i j)) .ok (g i j) aF
 |_,_=>aF
@[simp] def a84 aNd Pe(h:aL (C i j)):oq C g (η i) (η j) M=.ok (g i j) M:=by unfold oq;simp[h]
def pw kQ aNd{x y:V}iM pI(h:Zz K (oq C g) x y H Q):
  ∃i j,x=η i/\y=η j/\aL (C i j)/\∃ι S M,u5/\∀v,Ih (g i j)->Q v H:=by
 obtain⟨E,ι,S,M,p,q,aq,rx,bl,w⟩:=h;cases p with
 |int i=>
  cases q with
  |int j=>
   rw[cH hx aD0 hy asB];rw[Qz oq];split at w
   ·rw[Xs];exact⟨i,j,hx,hy,hc,ι,S,M,aq,λv hv=>vp v hv⟩
   ·rw[cX]
  |_=>rw[cX]
 |_=>rw[cX]
abbrev Ua:D2:=Xi akk i j (η (i-j))
abbrev wg:D2:=Xi (cK j (d! (0<j/\Ï j))) i j (η (i / j))
abbrev g9:D2:=Xi (cK j (d! (0<j))) i j (η (i%j))
def aJl:zW Sub (Ei Ua):=a1u.imp λx y H Q h=>by
 obtain⟨i,j,rfl,rfl,_,ι,S,M,aq,k⟩:=pw h;exact CV i j (k _ E2)
def iq:zW FloorDiv (Ei wg):=aZW.imp λx y H Q h=>by
 obtain⟨i,j,rfl,rfl,hc,ι,S,M,aq,k⟩:=pw h;exact IY i j rfl (show 0<j/\Ï j from aPP) (k _ E2)
def df:zW Mod (Ei g9):=a1w.imp λx y H Q h=>by
 obtain⟨i,j,rfl,rfl,hc,ι,S,M,aq,k⟩:=pw h;exact IY i j rfl aPP (k _ E2)
abbrev small pF:Bool:=d! (-(2 ^ 64)<i/\i<2 ^ 64)
abbrev wc l_:D2:=λx y M=>match x,y with
 |η i,η j=>.ok (η (i+j)) M
 |aW xs,aW ys=>Bx (dj xs.isEmpty/\aCG≤lim) .ok (aW (xs++ys)) aF
 |x,y=>match Fd,sC y with
  |qD,Rp=>yi (xs++ys)
  |_,_=>aF
@[simp] def aIw Pg Pe:wc live (η i) (η j) M=.ok (η (i+j)) M:=rfl
@[simp] def pz Pg aoW ck:wc live (ς xs) (ς ys) M=yi (xs++ys):=rfl
def aUZ kQ Pg{x y:V}iM pI(h:Zz K (wc live) x y H Q):
  (∃i j,x=η i/\y=η j/\Q (η (i+j)) H)\/aLz K x y H Q\/anT x y H Q:=by
 obtain⟨E,ι,S,M,p,q,aq,rx,bl,w⟩:=h
 rw[M4 lists (∀aoW,Ă p xs->Ă q ys->Fe (yi (xs++ys))->anT x y H Q) (λ{xs ys} h1 h2 w=>by
  rw[dJ l vs e1 r1 (il aq rx h1)];rw[dJ b us e2 r2 (il aq bl h2)];rw[Cc w1 w2 (Zu aq aC8 w) ⟨l,b,vs,us,rfl,rfl,e1,e2,aX w1,w2⟩]) other ((wc live p q M=match sC p,sC q with | qD,Rp=>yi (xs++ys) | _,_=>aF)->anT x y H Q) e (by
  rw[e]at w;cases h1:sC p with
  |none=>rw[ko h1]
  |some xs=>
   cases h2:sC q with
   |none=>rw[h1,h2]at w;rw[cX]
   |some ys=>rw[h1,h2]at w;exact lists h1 h2 w)]
 cases p with
 |int i=>
  cases q with
  |int j=>exact Ω ⟨i,j,aD0,asB,Jm⟩
  |_=>exact ay (ay (other rfl))
 |tup xs=>
  cases q with
  |tup ys=>
   refine ay (Ω ?_);rw[Qz wc];split at w
   ·rw[Xs];rw[Fw l e1 r1 rx];rw[dJ b us e2 r2 (bp.avk.mp bl)];refine⟨l,b,vs,us,rfl,rfl,.of (Ad e1),.of (Ad e2),cJ z,?_,cJ z,cM _ p hp⟩
    ·subst z;have:=r1.length;cases xs with
     |nil=>cases hc.1
     |cons _ _=>rw[Ē]
    ·rw[Ms r1.length r2.length (amz hc.2)]
    ·subst z;have:=r2.length;cases ys with
     |nil=>
      rw[bF j? w (vp _ rx)]
     |cons _ _=>rw[Ē]
    ·rw[eg s2 e2 (aie (aW (vs++us)) hp) (w _ _ _ _ e2 s2 (ė p _ g8 ((aC8).mono e2)))]
   ·rw[cX]
  |_=>exact ay (ay (other rfl))
 |_=>exact ay (ay (other (by cases q<;>rfl)))
def Td l_:zW Add (Ei (wc live)):=(a1t.or (aZI.or a1r)).imp λx y H Q h=>by
 rcases aUZ h with⟨i,j,hx,hy,q⟩ | h | h
 ·exact Ω ⟨i,j,hx,hy,q⟩
 ·exact ay (Ω h)
 ·exact ay (ay h)
abbrev qa l_:D2:=λx y M=>match x,y with
 |η i,η j=>ag2 (small i||small j) (.ok (η (i*j)) M) aF
 |x,η k=>match Fd with
  |qD=>Ä (Û k/\k<2 ^ 62 /\ -(2 ^ 62)<k/\aDF≤lim) (yi (FD (aqS xs)))
  |none=>aF
 |_,_=>aF
@[simp] def aYf Pg Pe(h:g5 (small i||small j)):qa live (η i) (η j) M=.ok (η (i*j)) M:=by unfold qa;simp only[CJ]
def aRM l_:zW Mult (Ei (qa live)):=(a1v.or a1s).imp λx y H Q h=>by
 obtain⟨E,ι,S,M,p,q,aq,rx,bl,w⟩:=h
 have rep:∀{k:Int},q=η k->(qa live p q M=match sC p with
  |qD=>Ä (Û k/\k<2 ^ 62 /\ -(2 ^ 62)<k/\aDF≤lim) (yi (FD (aqS xs)))
  |none=>aF)->aQl x y H Q:=λ{k} e1 e2=>by
  rw[xK e1 e2 w];cases h1:sC p with
  |none=>rw[ko h1]
  |some xs=>
   rw[h1]at w
   rw[dJ l vs e3 r1 (il aq rx h1)];dsimp only at w;split at w
   ·rw[Xs];rw[arM w1 w2 (Zu aq (r1.rep k.toNat) w) hy asB];subst hy;refine⟨l,k,vs,rfl,rfl,e3,?_,?_,?_,w2⟩
    ·rw[e9 hc.2.2.1]
    ·rw[e9 hc.2.1]
    ·rw[cw r1.length (amz hc.2.2.2)]
   ·rw[cX]
 cases q with
 |int j=>
  cases p with
  |int i=>
   left;rw[Qz qa];split at w
   ·rw[Xs];refine⟨i,j,aD0,asB,?_,Jm⟩;rcases Bool.or_eq_true_iff.mp hc with z | z
    ·exact Ω aMi
    ·exact ay aMi
   ·rw[cX]
  |_=>exact ay (rep rfl rfl)
 |_=>cases p<;>exact w.elim
universe zE
universe L2
universe zE
section
namespace L2
open PySem PySem.Spec PyProof.Rows
abbrev N2 rF(f:zT α β):qy->yd ajI
 |[]=>some []
 |x::xs=>match f x,sd f with
  |Cm,Rp=>aT (y::ys)
  |_,_=>none
abbrev leaf:zT ak PyData
 |.ai=>some cT
 |.ah b=>eL qQ b
 |η i=>xr
 |av x=>oN (PyData.canLay0 (av x)) (eL av x) none
 |_=>none
abbrev flat dY:qA (zT ak PyData)
 |0,x=>leaf x
 |k+1,x=>match x with
  |ς xs=>(sd (Rb k)).map E5
  |aW xs=>(sd (Rb k)).map Xo
  |ο n=>match M[n]? with
   |h7=>(sd (Rb k)).map E5
   |_=>none
  |x=>leaf x
def aJm jv s9 wY qs aoY(r:jw)(cQ:nW)(e:aO (leaf x) d):Reads h u d []/\ĭ/\d.depth=0:=by
 cases x with
 |ai=>
  cases e;cases aDK;cases cQ;exact PX cT
 |ah b=>
  cases e;cases aix;cases cQ;exact PX (qQ b)
 |int i=>
  cases e;cases atR;rw[Vu t cQ (PX (η i t))]
 |str z=>
  simp only[leaf]at e;split at e
  ·rw[Xs];cases e;cases atU;rw[Vu t cQ (jc (av z t) hc)]
  ·cases e
 |_=>cases e
def adO jv s9 ee{f:zT ak PyData}
  (ih:∀x v u d,jw->nW->aO (f x) d->(∃as,Reads h u d as)/\ĭ/\ajv k):
  ∀uW D6 Bf(ds:asz),gO->RZ->aO (sd f) ds->(∃as,ReadsAll h us ds as)/\aOU ds/\PyData.depthAll ds≤k
 |[],vs,us,ds,r,cQ,e=>by
  rw[bJ]at r;subst r;cases cQ;cases e;exact h! ⟨_,c_⟩ yb
 |x::xs,vs,us,ds,r,cQ,e=>by
  rw[dJ v r' h1 h2 r.wz];cases cQ with
  |cons aE aV=>
   rw[N2]at e;cases e1:f x with
   |none=>rw[e1]at e;cases e
   |some y=>
    cases e2:sd f with
    |none=>rw[e1,e2]at e;cases e
    |some ys=>
     rw[e1,e2]at e;cases e;rw[aqa as a1 a2 a3 (ih x v _ y h1 aE e1) bs b1 b2 acm (adO ih xs r' _ ys h2 aV e2)];rw[d_ ⟨_,bW a1 b1⟩ ?_ ?_]
     ·rw[PyData.canLayAll0,a2,b2];rfl
     ·rw[au PyData.depthAll (Nat.max_le.mpr ⟨a3,acm⟩)]
def nz uT Be s9 aaf(dy:Si):
  ∀l! afQ GU(d:PyData),jw->nW->aO (flat M k x) d->(∃as,Reads h u d as)/\ĭ/\ajv k
 |0,x,v,u,d,r,cQ,e=>by
  rw[pN h1 h2 h3 (aJm (h:=h) r cQ e) ⟨_,h1⟩ h2 (Nat.le_of_eq h3)]
 |k+1,x,v,u,d,r,cQ,e=>by
  rw[fG ih (nz aq dy k) lst (∀jh pA,v=Δ a->H a=X7->gO->aO ((sd (Rb k)).map E5) d->(∃as,Reads h u d as)/\ĭ/\ajv (k+1)) (λ{a xs vs} ev aI hr e=>by
   subst ev;cases cQ;obtain⟨_,aC,n,hv,hg⟩:=dy a _ aI;cases e2:sd (Rb k) with
   |none=>rw[e2]at e;cases e
   |some ds=>
    rw[e2]at e;cases e;obtain⟨⟨as,a1⟩,a2,a3⟩:=adO ih xs vs aC ds hr hv e2;rw[b5 ⟨_,E5 hg rfl rfl (aX a1)⟩ (by rw[au PyData.canLay0 a2]) (by rw[au PyData.depth (Nat.succ_le_succ a3)])])]
  cases x with
  |lst xs=>
   obtain⟨a,vs,ev,ir,hr⟩:=bp.adp.mp r;exact lst ev (Ad ir) hr e
  |tup xs=>
   rw[Fw a ir hr r];cases cQ;obtain⟨_,aC,hv,o,hg,hc,n,hd⟩:=dy a _ (Ad ir);have e:aO ((sd (Rb k)).map PyData.tuple) d:=e;cases e2:sd (Rb k) with
   |none=>rw[e2]at e;cases e
   |some ds=>
    rw[e2]at e;cases e;obtain⟨⟨as,a1⟩,a2,a3⟩:=adO ih xs vs aC ds hr hv e2;rw[b5 ⟨_,Xo hg hc hd (aX a1)⟩ (by rw[au PyData.canLay0 a2]) (by rw[au PyData.depth (Nat.succ_le_succ a3)])]
  |obj n=>
   rw[Le a ev ei (bp.ft.mp r) o eM mo (aq.addr ei)];simp only[flat,eM]at e;cases o with
   |lst xs=>
    rw[Vw aI hr mo];exact lst ev aI hr e
   |_=>cases e
  |_=>
   rw[pN h1 h2 h3 (aJm (h:=h) r cQ e) ⟨_,h1⟩ h2 aB]
noncomputable abbrev deep:Nat:=10
section
variable {X:bV}{aG:St->d8}{a b c e:Expr}{es:dI}{da db o6 d:bz}{ds:tu}{pos:Pos}
abbrev eJ aoZ:D2:=λx y M=>match Fa x,Fa y with
 |some p,some q=>.ok (.ah (zl (PyData.eqv p q) (PyData.eqv p q))) M
 |_,_=>aF
def aJn kQ pC{x y:V}iM pI(h:Zz K (eJ neg) x y H Q):
  ∃ι S M p q d1 d2,u5/\zy p x/\zy q y/\aO (Fa p) d1/\aO (Fa q) d2/\Q (.ah (zl (PyData.eqv d1 d2) (PyData.eqv d1 d2))) H:=by
 rw[Jw p q rx bl eJ];cases e1:Fa p with
 |none=>rw[ko e1]
 |some d1=>
  cases e2:Fa q with
  |none=>rw[e1,e2]at w;rw[cX]
  |some d2=>
   rw[e1,e2]at w;exact⟨ι,S,M,p,q,d1,d2,aq,rx,bl,e1,e2,abU⟩
def q7 s_:Ir Eq (eJ false):=by
 rw[Fg];obtain⟨ι,S,M,p,q,d1,d2,aq,px,py,e1,e2,w⟩:=aJn h;rw[aqa as a1 a2 a3 (aaP aq p x v d1 px rx e1) bs b1 b2 acm (aaP aq q y u d2 py bl e2)];exact SeqAt.compareEq_reads a1 b1 a2 b2 (by have:=aQb d2.depth;rw[xP (d1.depth≤10) a3]) (JL .ah _ I w)
def p_ s_:Ir NotEq (eJ true):=by
 rw[Fg];obtain⟨ι,S,M,p,q,d1,d2,aq,px,py,e1,e2,w⟩:=aJn h;rw[aqa as a1 a2 a3 (aaP aq p x v d1 px rx e1) bs b1 b2 acm (aaP aq q y u d2 py bl e2)];exact SeqAt.compareNe_reads a1 b1 a2 b2 (by have:=aQb d2.depth;rw[xP (d1.depth≤10) a3]) (JL .ah _ I w)
abbrev jM:zT ak Key
 |η i=>eL Ω i
 |av x=>eL ay x
 |_=>none
abbrev T3:ak->yd pL
 |aW xs=>sd jM
 |_=>none
abbrev pe tg [BL] (kvs:Sg)qw:pJ:=G4 (kvs.find? (MZ (jZ=k))).map
abbrev j_ tg [BL] (kvs:Sg)qw(v:ak):Sg:=
 if kvs.any (MZ (jZ=k)) then kvs.map (λkv=>ajD (jZ=k) v kv) else kvs++[(k,v)]
abbrev Gf tg [BL] (kvs:Sg)qw:Sg:=kvs.filter (pX kv jZ k)
def Tt jv wY D5(r:jw)(e:agn x k):v=kV k:=by
 cases x with
 |int i=>cases e;exact atR
 |str z=>cases e;exact atU
 |_=>cases e
def aws jv:∀pA{ks:pL},gO->aO (sd jM) ks->vs=atw
 |[],vs,ks,r,e=>by rw[bJ]at r;subst r;cases e;rfl
 |x::xs,vs,ks,r,e=>by
  rw[dJ v r' h1 h2 r.wz];rw[N2]at e;cases e1:jM x with
  |none=>rw[e1]at e;cases e
  |some k=>
   cases e2:sd jM with
   |none=>rw[e1,e2]at e;cases e
   |some ks'=>
    rw[e1,e2]at e;cases e;rw[b6,←Tt h1 e1,←aws h2 e2]
def o7.val jv tg [BL] KP qw:
  (bO Ep/\bO (F9 aJ k))\/∃x v,Ep=g7/\pS (F9 aJ k)/\jw:=by
 induction h with
 |nil=>exact IZ rfl
 |@cons p q kvs aJ r t ih=>
  obtain⟨r1,r2⟩:=r;rw[uh p k]
  ·refine ay ⟨p.2,q.2,Qt pe e,k6 (xn (r1▸e)),r2⟩
  ·have e':¬q.1=k:=r1▸e
   have h1:pe (p::kvs) k=Ep:=Qt pe e
   rw[er h1 (xp e') ih]
def o7.any jv tg [BL] KP qw:kvs.any (MZ (jZ=k))=aJ.any (MZ (jZ=k)):=by
 induction h with
 |nil=>rfl
 |cons r t ih=>rw[List.any_cons,List.any_cons,r.1,ih]
def o7.put jv tg [BL] KP qw wY(r:jw):Ju (j_ kvs k x) (putK aJ k v):=by
 unfold j_ putK;rw[h.any k];split
 ·induction h with
  |nil=>rw[vL]
  |@cons p q kvs aJ r' t ih=>
   rw[b6,b6];refine bW ?_ ?_
   ·rw[uh p k]
    ·rw[Fq xF (r'.1▸e)];rw[b4 r'.1 r]
    ·rw[as2 vg (r'.1▸e) r']
   ·rename_i hq;clear ih hq
    induction t with
    |nil=>rw[vL]
    |@cons p q kvs aJ r' t ih=>
     rw[b6,b6];refine bW ?_ ih;rw[uh p k]
     ·rw[Fq xF (r'.1▸e)];rw[b4 r'.1 r]
     ·rw[as2 vg (r'.1▸e) r']
 ·induction h with
  |nil=>exact bW (j3 r) c_
  |cons r' t ih=>
   rename_i hq;refine bW r' (ih ?_);intro z;exact hq (by rw[List.any_cons,z,Bool.or_true])
def o7.drop jv tg [BL] KP qw:Ju (Gf kvs k) (Oj aJ k):=by
 unfold Gf Oj
 induction h with
 |nil=>rw[vL]
 |@cons p q kvs aJ r t ih=>
  rw[List.filter_cons,List.filter_cons,←r.1];split
  ·exact bW r ih
  ·exact ih
abbrev getD dY(x k:ak):yd pJ:=match x with
 |ο n=>match M[n]? with
  |nu .aj=>(jM k).map (pe kvs)
  |nu .jO=>(T3 k).map (pe kvs)
  |nu .ij=>(jM k).map (pe kvs)
  |_=>none
 |_=>none
def aIx Be{x k:ak}{v y:V}{o:pJ}K6(bl:zy k y)(h:getD M x k=cv):
  ∃p ov,v=Δ p/\Uq H p/\ub H p y ov/\((bO o/\bO ov)\/∃z w,aO o z/\aO ov w/\zy z w):=by
 cases x with
 |obj n=>
  rw[Vi p ei r mo eM q ei getD eM h];cases mo with
  |aj kvs=>
   obtain⟨_,aJ,aI,rk⟩:=q;rw[B4];cases fH:jM k with
   |none=>rw[fH]at h;cases h
   |some kk=>
    rw[fH]at h;cases h;rw[Xe (Tt bl fH)];refine IY p (F9 aJ kk) (FH aJ (Ω aI)) (ub.k aI) ?_;rcases rk.val kk with⟨h1,h2⟩ | ⟨z,w,h1,h2,h3⟩
    ·exact FH h1 h2
    ·exact ay ⟨z,w,h1,h2,h3⟩
  |jO kvs=>
   obtain⟨_,aJ,aI,rk⟩:=q;rw[B4];cases k with
   |tup xs=>
    rw[Fw b ir hr bl];simp only[T3]at h;cases fH:sd jM with
    |none=>rw[fH]at h;cases h
    |some kk=>
     rw[fH]at h;cases h;rw[Xe (aws hr fH)];refine IY p (F9 aJ kk) (o4 aJ (Ω aI)) (ub.t aI (Ad ir)) ?_;rcases rk.val kk with⟨h1,h2⟩ | ⟨z,w,h1,h2,h3⟩
     ·exact FH h1 h2
     ·exact ay ⟨z,w,h1,h2,h3⟩
   |_=>cases h
  |ij kvs=>
   obtain⟨ob,aJ,_,aI,rk⟩:=q;rw[B4];cases fH:jM k with
   |none=>rw[fH]at h;cases h
   |some kk=>
    rw[fH]at h;cases h;rw[Xe (Tt bl fH)];refine IY p (F9 aJ kk) (FH aJ (o4 ob aI)) (Ω (ajX aJ kk (o4 ob aI))) ?_;rcases rk.val kk with⟨h1,h2⟩ | ⟨z,w,h1,h2,h3⟩
    ·exact FH h1 h2
    ·exact ay ⟨z,w,h1,h2,h3⟩
  |_=>cases h
 |_=>cases h
abbrev lh aoZ:D2:=λx y M=>match ow M y with
 |Rp=>match Fa x,N2 akg ys with
  |some p,some cN=>.ok (.ah (zl (cN.any (zj q q p)) (cN.any (zj q q p)))) M
  |_,_=>aF
 |none=>match getD M y x with
  |cv=>.ok (.ah (zl o.isSome o.isSome)) M
  |none=>aF
def aKp aoZ s_ aaA
  (hL:∀nj{c x:Value}{xs:asz}aoY{as bs:c5}rJ(rc:aAi c (E5 xs) as)aOz(hd:ĭ)
   aMX,jU (compareOp op x c) Q s)
  (hT:∀nj{c x:Value}{xs:asz}aoY{as bs:c5}rJ(rc:aAi c (Xo xs) as)aOz(hd:ĭ)
   aMX,jU (compareOp op x c) Q s)
  (hD:∀O7 nj za uV aad{o:HW}rJ,i9->ub H p y o->ab3->(∀s',Mv->Q (qQ (zl o.isSome o.isSome)) s') →
   jU (compareOp op u (Δ p)) Q s):agi (Ei (lh neg)):=by
 rw[Fg];rw[Jw p q px py lh];cases e1:ow M q with
 |some ys=>
  rw[qT e1 w w];cases e2:Fa p with
  |none=>rw[ko e2]
  |some d=>
   cases e3:N2 akg ys with
   |none=>rw[e2,e3]at w;rw[cX]
   |some cN=>
    rw[e2,e3]at w;have fin:=abU;obtain⟨⟨as,a1⟩,a2,a3⟩:=aaP aq p x v d px rx e2;rw[dJ l vs hq rs (awz aq py e1)];cases bl
    have room:è (apF 1+aPg aCp):=by have:=aQa aCp;rw[xP (ajv 10) a3]
    rcases hq with hq | hq
    ·rw[IP rv pl];obtain⟨⟨bs,b1⟩,b2,acm⟩:=adO (nz aq I.dy deep) ys vs aC cN rs rv e3;obtain⟨o,n,ho,hc,_,hd⟩:=pl;exact hL (E5 ho hc hd (aX b1)) a1 b2 a2 room (JL .ah _ I fin)
    ·rw[Se rv pl];obtain⟨⟨bs,b1⟩,b2,acm⟩:=adO (nz aq I.dy deep) ys vs aC cN rs rv e3;obtain⟨o,ho,hc,n,hd⟩:=pl;exact hT (Xo ho hc hd (aX b1)) a1 b2 a2 room (JL .ah _ I fin)
 |none=>
  rw[qT e1 w w];cases e2:getD M q p with
  |none=>rw[ko e2]
  |some o=>
   rw[e2]at w;have fin:=abU;obtain⟨l,ov,rfl,_,g,hh⟩:=aIx aq py px e2;cases bl
   have gB:o.isSome=ov.isSome:=by
    rcases hh with⟨h1,h2⟩ | ⟨z,w',h1,h2,_⟩
    ·rw[h1,h2];rfl
    ·rw[h1,h2];rfl
   rw[bF gB fin (hD I g rx λs' I'=>JL .ah _ I' fin)]
def o? s_:Ir In (lh false):=
 aKp false hu (λrc rx ON hd hu h=>SeqAt.in_list_reads rc rx ON hd hu h) (λrc rx ON hd hu h=>SeqAt.in_tuple_reads rc rx ON hd hu h) λI g bl h=>a5k aB I g bl h
def avY s_:Ir NotIn (lh true):=
 aKp true hu (λrc rx ON hd hu h=>SeqAt.notIn_list_reads rc rx ON hd hu h) (λrc rx ON hd hu h=>SeqAt.notIn_tuple_reads rc rx ON hd hu h) λI g bl h=>aZB aB I g bl h
abbrev uI:D2:=Xi akk i j (.ah (d! (i<j)))
abbrev avL:D2:=Xi akk i j (.ah (FE i j))
abbrev sW:D2:=Xi akk i j (.ah (d! (j<i)))
abbrev ale:D2:=Xi akk i j (.ah (FE j i))
def aeq:Ir Lt uI:=a3z.imp λx y H Q h=>by
 obtain⟨i,j,rfl,rfl,_,ι,S,M,aq,k⟩:=pw h;exact CV i j (k _ H7)
def aKq:Ir LtE avL:=a3A.imp λx y H Q h=>by
 obtain⟨i,j,rfl,rfl,_,ι,S,M,aq,k⟩:=pw h;exact CV i j (k _ H7)
def TR:Ir Gt sW:=a3B.imp λx y H Q h=>by
 obtain⟨i,j,rfl,rfl,_,ι,S,M,aq,k⟩:=pw h;exact CV i j (k _ H7)
def aKr:Ir GtE ale:=a3C.imp λx y H Q h=>by
 obtain⟨i,j,rfl,rfl,_,ι,S,M,aq,k⟩:=pw h;exact CV i j (k _ H7)
abbrev J8:nC ak
 |.ai=>true
 |_=>false
def aH6 jv wY(r:jw):gS v .ai=J8 x:=by
 cases x with
 |ai=>cases aDK;rfl
 |ah b=>cases aix;rfl
 |int i=>cases atR;rfl
 |str z=>cases atU;rfl
 |lst xs=>obtain⟨p,vs,rfl,_⟩:=bp.adp.mp r;rfl
 |tup xs=>obtain⟨p,vs,rfl,_⟩:=bp.avk.mp r;rfl
 |obj n=>obtain⟨p,rfl,_⟩:=bp.ft.mp r;rfl
 |pj n=>obtain⟨p,rfl,_⟩:=bp.amK.mp r;rfl
abbrev ui aoZ:D2:=λx y M=>match y with
 |.ai=>.ok (.ah (zl (J8 x) (J8 x))) M
 |_=>aF
def F!:Ir Is (ui false):=a1y.imp λx y H Q h=>by
 obtain⟨E,ι,S,M,p,q,aq,rx,bl,w⟩:=h;cases q with
 |ai=>
  rw[fF (bp.alM.mp bl) ?_];rw[au (aH6 rx) abU]
 |_=>rw[cX]
def sv:Ir IsNot M9:=aZX.imp λx y H Q h=>by
 obtain⟨E,ι,S,M,p,q,aq,rx,bl,w⟩:=h;cases q with
 |ai=>
  rw[fF (bp.alM.mp bl) ?_];rw[au (aH6 rx) abU]
 |_=>rw[cX]
def p! aaA{f:D2}azq aOG:iP (Ď a [op] [b] pos) (cu f da db):=Ws (aZY ho ha.out hb.out hm) _ _ _ h (ant h)
abbrev gH dY:zT ak Bool
 |.ai=>some false
 |.ah b=>IF
 |η i=>aT (i != 0)
 |av x=>aBC (x.length≤lim) (aT (aU x.length != 0))
 |ς xs=>some Qk
 |aW xs=>some Qk
 |.pj ns=>some ! ns.isEmpty
 |ο n=>match M[n]? with
  |h7=>some Qk
  |nu .aj=>some arj
  |_=>none
def isEmpty_eq rF UK{ys:ajI}(h:ź ys.length):xs.isEmpty=ys.isEmpty:=by cases xs<;>cases ys<;>simp_all
def aXT Be wY{k:Bool}K6(h:aO (gH M x) k):ay7 K v H k:=by
 cases x with
 |ai=>cases aDK;cases h;rfl
 |ah b=>cases aix;cases h;rfl
 |int i=>cases atR;cases h;rfl
 |str z=>
  cases atU;simp only[gH]at h;split at h
  ·cases h;rw[M8];exact kS (amz hl)
  ·cases h
 |lst xs=>
  rw[agZ p vs e q r];cases h;exact Ω ⟨vs,.of (Ad e),as1⟩
 |tup xs=>
  rw[Fw p e q r];cases h;exact ay (Ω ⟨vs,.of (Ad e),as1⟩)
 |pj ns=>
  rw[iB p e (bp.amK.mp r)];cases h;exact Ω ⟨_,aMF,k6 (isEmpty_eq (Θ:ns.length=cC Ii))⟩
 |obj n=>
  rw[Vi p e r o eM q e gH eM h];cases o with
  |lst xs=>
   cases h;rw[Vw e q q];exact Ω ⟨vs,.of e,as1⟩
  |aj xs=>
   cases h;rw[Vw e q q];exact ay (ay ⟨vs,e,as1⟩)
  |_=>cases h
abbrev cD l?:iK:=lY (dH).bind (LF aa x aa)
def bt O_(he:∀whole,ari a whole=(do let v ←whole;standAt a.pos;G8 [v] (truthy v)):=by rw[ab6 _]):C6 a (cD da):=⟨by
 rw[Qs (s6.imp (QR ha.out he) (RX H Q h)) S M w h ⟨ι,S,M,ρ,aq,sl,xQ⟩];cases e:gH aa x with
 |none=>rw[M0 e]
 |some k=>
  rw[e]at w1
  rw[b5 k (aXT s1 r1 e) (HC k rfl)]⟩
abbrev bb l?:iK:=lY (dH).bind (match x with
 |.ah k=>.ok k aa
 |_=>aF)
def a2Q kQ za{Q:Bool->dZ}{t:TE}(h:yM K y_ aG (bb d) σ H Q)(hd:∀Q',yM K (oj K) aG d σ H Q'->t σ H Q'):aLv t σ H Q:=by
 rw[EI S M ρ aq sl w h];rw[gp (hd _ ⟨ι,S,M,ρ,aq,sl,?_⟩) (eN.bind (dg:=oj K) w λι1 bg aa H1 x v e1 s1 r1 w1=>?_)];cases x with
 |ah k=>rw[b5 k (bp.Tg.mp r1) (HC k rfl)]
 |_=>rw[nB]
def iN aaA{f:D2}azq aOG:
  C6 (Ď a [op] [b] pos) (xj f da db):=⟨s6.imp (aZZ ho ha.out hb.out hm) λσ H Q h=>a2Q h λQ' h'=>ant h'⟩
abbrev ana(f g:D2)(da db o6:bz):bz:=Ň (da ρ M).bind (db ρ aa).bind y ((f x y M2).bind λz bq=>match z with
 |fB .ah=>(o6 ρ bq).bind λw dW=>g y w dW
 |qJ .ah=>.ok (qJ .ah) bq
 |_=>aF)
def aXU{f g:D2}kQ za pI(h:yM K (oj K) aG (ana f g da db o6) σ H Q):QP (Zz K f) (Zz K g) (WZ K aG da) (WZ K aG db) (WZ K aG o6) σ H Q:=by
 rw[Jv ⟨ι,S,M,ρ,aq,sl,eN.bind (dg:=oj K) w λι1 bg aa H1 x v e1 s1 r1 w1=>?_⟩];refine RU (eN.bind (dg:=oj K) w1 λι2 b8 M2 H2 y u e2 s2 r2 w2=>?_);refine⟨_,ι2,b8,M2,x,y,s2,MB,r2,eN.bind (dg:=oj K) w2 λι3 uR bq H3 z t e3 s3 wF w3=>?_⟩;cases z with
 |ah k=>
  rw[d_ k (bp.Tg.mp wF) ?_];cases k with
  |false=>exact Ke (w3 ι3 uR H3 _ mG s3 H7)
  |true=>
   refine FV ⟨ι3,uR,bq,ρ,s3,(ny).mono Ö,eN.bind (dg:=oj K) w3 λι4 qp dW H4 c t4 e4 wG al6 a8q=>?_⟩;exact⟨_,ι4,qp,dW,y,c,wG,bp.mono (e3.trans e4) r2,al6,a8q⟩
 |_=>exact w3.elim
def RF{op Z?:CmpOp}{f g:D2}azq(wR:nS (compareOp Z?) (Ei g))afT(hc:iP c o6)
  aNS:iP (Ď a [op,Z?] [b,c] pos) (ana f g da db o6):=Ws (QQ ho wR ha.out hb.out hc.out hm) _ _ _ h (aXU h)
variable {ta tb tc:iK}{rest:dI}
abbrev mm(ta tb:iK):iK:=BB (ta ρ M).bind k (oN k (tb ρ aa) (.ok false aa))
abbrev wK(ta tb:iK):iK:=BB (ta ρ M).bind k (if aL k then .ok true aa else tb ρ aa)
abbrev yI(ta:iK):iK:=BB (ta ρ M).bind k (.ok (! k) aa)
def wo(h:C6 a ta):DV X aG (mJ .And [a] pos) ta:=⟨aZP h.out⟩
def AF(h:C6 a ta):DV X aG (mJ .Or [a] pos) ta:=⟨a1U h.out⟩
def yD(ha:C6 a ta)(hb:DV X aG (mJ .And ue pos) tb):DV X aG (mJ .And (a::ue) pos) (mm ta tb):=⟨by
 rw[Qs (PW.imp (a1V ha.out hb.out) (RX H Q h)) S M w h ⟨ι,S,M,ρ,aq,sl,eN.bind (dg:=y_) w λι1 bg aa H1 x v e1 s1 r1 w1=>?_⟩];cases r1;cases x with
 |false=>exact Ke (HC false rfl)
 |true=>exact FV RV⟩
def TG(ha:C6 a ta)(hb:DV X aG (mJ .Or ue pos) tb):DV X aG (mJ .Or (a::ue) pos) (wK ta tb):=⟨by
 rw[Qs (PW.imp (a3M ha.out hb.out) (RX H Q h)) S M w h ⟨ι,S,M,ρ,aq,sl,eN.bind (dg:=y_) w λι1 bg aa H1 x v e1 s1 r1 w1=>?_⟩];cases r1;cases x with
 |true=>exact FV (HC true rfl)
 |false=>exact Ke RV⟩
def Zd(ha:C6 a ta):C6 (auR .Not a pos) (yI ta):=⟨by
 rw[Qs (s6.imp (a1W ha.out) (RX H Q h)) S M w h ⟨ι,S,M,ρ,aq,sl,eN.bind (dg:=y_) w λι1 bg aa H1 x v e1 s1 r1 w1=>?_⟩];cases r1
 exact Cx rfl⟩
abbrev T4 aoX:bz:=lY (da ρ M).bind (match x with
 |fB .ah=>db ρ aa
 |qJ .ah=>.ok (qJ .ah) aa
 |_=>aF)
abbrev afd aoX:bz:=lY (da ρ M).bind (match x with
 |qJ .ah=>db ρ aa
 |fB .ah=>.ok (fB .ah) aa
 |_=>aF)
def aeF{op}(h:aEE):iP (mJ op [a] pos) da:=⟨a1X h.out⟩
def ayl O_(hb:iP (mJ .And ue pos) db):yk mJ .And (a::ue) (T4 da db):=⟨by
 rw[C! (a1Y ha.out hb.out)];cases x with
 |ah k=>
  rw[d_ k (bp.Tg.mp r1) ?_];cases k with
  |false=>exact Ke (Cx H7)
  |true=>exact FV RV
 |_=>rw[nB]⟩
def aLD O_(hb:iP (mJ .Or ue pos) db):yk mJ .Or (a::ue) (afd da db):=⟨by
 rw[C! (a3O ha.out hb.out)];cases x with
 |ah k=>
  rw[d_ k (bp.Tg.mp r1) ?_];cases k with
  |true=>exact FV (Cx H7)
  |false=>exact Ke RV
 |_=>rw[nB]⟩
abbrev uJ(tc:iK)aoX:bz:=BB (tc ρ M).bind k (oN k (da ρ aa) (db ρ aa))
def Od(hc:C6 c tc)afT:iP (.IfExp c a b pos) (uJ tc da db):=⟨by
 rw[MK (aXo hc.out ha.out hb.out) h h S M (eN.bind (dg:=y_) w λι1 bg aa H1 x v e1 s1 r1 w1=>?_)];cases r1;cases x with
 |true=>exact FV RV
 |false=>exact Ke RV⟩
universe zE
universe L2
universe zE
end
mutual
section
namespace L2
open PySem PySem.Spec PyProof.Rows
section
variable {X:bV}{aG:St->d8}{a b c e o:Expr}{es:dI}{da db o6 d gf:bz}{ds:tu}{pos apos dc:Pos}
def a0r s_:Kw X (λx y H Q=>∃p v,x=Δ p/\ub H p y qH/\Q v H):=by
 intro value slice pins s σ H x y v u Q I rx bl h hs;rw[dJ p z g q h];cases rx;exact tail_any (aT6 I g) PySem.F.slot_dict_getitem.lookup (aWy aB I g bl λw' s3 d? nc=>⟨z,H,d?,nc,q⟩) hs
abbrev fN:D2:=λx y M=>match ow M x with
 |qD=>match y with
  |η i=>ahv (uM xs i) M
  |_=>aF
 |none=>match getD M x y with
  |G! z=>.ok z M
  |_=>aF
def aXV jv pA iz gW(r:gO)(h:uM xs i=g7):∃v,pS (uM vs i)/\jw:=by
 unfold uM at h⊢;rw[←r.length];cases e:Vm i with
 |none=>rw[e]at h;cases h
 |some j=>
  rw[E! h (r.get h)]
def a5T s_:Kw X (Ei fN):=by
 have base:=(aZJ (X:=X)).or (aep.or (a0r hu));intro value slice pins s σ H x y v u Q I rx bl h hs;refine base value slice pins s σ H x y v u Q I rx bl ?_ hs;rw[Jw p q px py fN];cases e1:ow M p with
 |some xs=>
  rw[qT e1 w w];cases q with
  |int i=>
   dsimp only at w;cases e2:uM xs i with
   |none=>rw[ko e2]
   |some z=>
    rw[e2]at w;rw[dJ l vs hq rs (awz aq px e1)];obtain⟨z',h1,h2⟩:=aXV rs e2;have fin:=vp z' h2;rcases hq with hq | hq
    ·exact Ω ⟨l,vs,i,z',rfl,bp.NK.mp py,hq,h1,fin⟩
    ·exact ay (Ω ⟨l,vs,i,z',rfl,bp.NK.mp py,hq,h1,fin⟩)
  |_=>rw[cX]
 |none=>
  rw[qT e1 w w];cases e2:getD M p q with
  |none=>rw[ko e2]
  |some oo=>
   cases oo with
   |none=>rw[ko e2]
   |some z=>
    rw[e2]at w;obtain⟨l,ov,rfl,_,g,hh⟩:=aIx aq px py e2;rcases hh with⟨h1,_⟩ | ⟨z',w',h1,h2,h3⟩
    ·cases h1
    ·cases h1;rw[f7 h2 (ay (ay (kX l w' g (vp w' h3))))]
def YF s_ afT(hs:aJL b:=by intro _ _;rfl):yk yf a b (cu fN da db):=Ws (a3J (a5T hu) ha.out hb.out hs) _ _ _ h (ant h)
noncomputable abbrev Oz:=aY->ba->Res eH
noncomputable abbrev anO:c5->aR->eH->cS eH:=λ_ _ x v=>v=x
structure afr wX(e:aii)(d:Oz):Prop where
 out:DL X e (Fz anO d)
def DL.imp{e:aii}{t t':TO}(h:DL X e t)aao:DL X e t':=XV s H Q I s H Q I (i σ H Q hw)
abbrev hE:Oz:=cK M (.ok none M)
abbrev Dr l?:Oz:=lY (dH).bind (match x with
 |η i=>.ok Xp aa
 |_=>aF)
def Tl:afr X aG none hE:=⟨by
 rw[XW (DL.imp aZG (RX H Q h)) S M w h]
 exact vp none rfl⟩
def NR(h:ak2):afr X aG (some e) (Dr d):=⟨by
 rw[Qs (DL.imp (aZH h.out) (RX H Q h)) S M w h ⟨ι,S,M,ρ,aq,sl,xQ⟩];cases x with
 |int i=>rw[b5 i Ql (Cx rfl)]
 |_=>rw[nB]⟩
abbrev TH uW KO:fK:=(ż JP).take (Vh hi-JP)
def bJ.TH jv pA(r:gO)KO:pZ (Nz lo hi) (FK vs lo hi):=by
 unfold L2.TH FK;rw[gx r.length ((r.drop _).take _)]
abbrev sX l_ nt KO dY:lN:=match x with
 |aW xs=>if JP=0/\ajt (Vh hi) then aF else .ok (aW (Nz lo hi)) M
 |x=>match Fd with
  |qD=>yi (Nz lo hi)
  |none=>aF
abbrev a5U dz l_:V->eH->eH->aR->jT:=λx lo hi H Q=>∃E ι S M p,u5/\zy p x/\Fe (sX live p lo hi M)
def Gv.imp aNf(i:∀x lo hi H Q,r' x lo hi H Q->r x lo hi H Q):Gv X r':=λpins s σ H x v vl vu lo hi sl Q I rx hs pl pu q=>h pins s σ H x v vl vu lo hi sl Q I rx hs pl pu (i _ _ _ _ _ q)
def a5V l_:Gv X (a5U X.K live):=(aZx.or a1m).imp λx lo hi H Q h=>by
 obtain⟨E,ι,S,M,p,aq,px,w⟩:=h
 rw[M4 lists (∀d9,Ă p xs->eN X.K zR E ι S H Q (yi (Nz lo hi))->ay4 X.K x lo hi H Q) (λ{xs} h1 w=>by
  rw[dJ l vs e1 r1 (il aq px h1)];rw[Cc w1 w2 (Zu aq (r1.TH lo hi) w) (X8 l (.of e1) w2)]) other ((sX live p lo hi M=match sC p with | qD=>yi (Nz lo hi) | none=>aF)->ay4 X.K x lo hi H Q) e (by
  rw[e]at w;cases h1:sC p with
  |none=>rw[ko h1]
  |some xs=>rw[bF h1 w (lists h1 w)])]
 cases p with
 |tup xs=>
  right;rw[Qz sX];split at w
  ·rw[cX]
  ·rw[Xs];rw[Fw l e1 r1 px];refine IY l vs (.of (Ad e1)) (by rw[cw r1.length hc]) sy;rw[eg s2 e2 (aie (aW (FK vs lo hi)) hp) (w _ _ _ _ e2 s2 (ė p _ g8 ((r1.TH lo hi).mono e2)))]
 |_=>exact Ω (other rfl)
abbrev ax9 l_(da:bz)(dl YJ:Oz):bz:=Ň (da ρ M).bind (dl ρ aa).bind lo ((YJ ρ M2).bind λhi bq=>sX live x lo hi bq)
def a7R l_{lo hi:aii}{dl YJ:Oz}{p2:Pos}aag(hl:afr X aG lo dl)(hh:afr X aG hi YJ):yk yf e (.Slice lo hi none p2) (ax9 live d dl YJ):=⟨by
 rw[C! (aXl (a5V live) he.out hl.out hh.out)];refine RU (eN.bind (dg:=anO) w1 λι2 b8 M2 H2 l l' e2 s2 r2 w2=>?_);cases r2;refine⟨ι2,b8,M2,ρ,s2,abP,eN.bind (dg:=anO) w2 λι3 uR bq H3 h h' e3 s3 wF w3=>?_⟩;cases wF
 exact⟨_,ι3,uR,bq,x,s3,VS Ö,w3⟩⟩
abbrev DA nt dY:lN:=match x with
 |ο n=>match M[n]? with
  |h7=>.ok (ς xs) (I9 .gone)
  |_=>.ok x M
 |x=>.ok x M
abbrev AQ l?:bz:=lY (dH).bind (DA x aa)
def uj(h:ak2):iP e (AQ d):=⟨by
 rw[MK h.out hh hh S M xQ];have keep:eN X.K zR (aG σ) ι1 bg H1 Q (.ok x aa)->Q v H1:=λw=>w ι1 bg H1 v mG s1 r1;cases x with
 |obj n=>
  simp only[DA]at w1;cases eM:aa[n]? with
  |none=>rw[bF eM w1 (keep w1)]
  |some o=>
   rw[eM]at w1;cases o with
   |lst xs=>
    rw[iB p ei (bp.ft.mp r1)];rw[Mk S' s2 e2 r2 (s1.freeze ei eM) (w1 _ _ _ _ e2 s2 r2)]
   |_=>exact keep w1
 |_=>exact keep w1⟩
noncomputable abbrev D1:=fK->ba->lN
abbrev aRR dz(f:D1):dw->aR->jT:=λvs H Q=>∃E ι S M xs,u5/\gO/\Fe (f xs M)
def Y7.imp{f:Value}aM6(i:∀xs H Q,r' xs H Q->r xs H Q):Y7 X f r':=λpins s σ H xs us Q I rs q=>h pins s σ H xs us Q I rs (i _ _ _ q)
abbrev ax(f:D1)KW:bz:=BB (ve).bind xs (f xs aa)
def aJo{f:D1}kQ za pI(h:yM K (oj K) aG (ax f ds) σ H Q):aFX (aRR K f) (yM K (BW K) aG (Dj ds)) σ H Q:=by
 rw[Jv ⟨ι,S,M,ρ,aq,sl,eN.bind (dg:=BW K) w λι1 bg aa H1 x v e1 s1 r1 w1=>?_⟩];exact⟨_,ι1,bg,aa,x,s1,r1.1,w1⟩
def FQ{f:D1}eS{id:String}{p:Pos}(hc:FL id (IG f))(hm:apx x)(hv:Mb=Ţ id)aon aol
  Uy:MD (di x p) (e::es) (ax f ds):=Ws (aIq hc hg hm hv ha.out hn Km he i8) _ _ _ h (aJo h)
def avi{f:D1}eS{T:String}{p:Pos}(hc:FJ (d5 T) (IG f))(hm:apx x)(hv:Mb=eL d5 T)aon aol
  Uy:MD (di x p) (e::es) (ax f ds):=Ws (aV2 hc hg hm hv ha.out hn Km he i8) _ _ _ h (aJo h)
def bJ.yE jv gW w4(h:bJ K ι S [x] vs):∃v,vs=[v]/\jw:=by
 rw[dJ v r h1 h2 h.wz];rw[bJ]at h2;subst h2;exact h! v h1
def bJ.FX jv aah w4(h:bJ K ι S [x,y] vs):∃v w,vs=[v,w]/\jw/\zy y w:=by
 rw[dJ v r h1 h2 h.wz];rw[iB w h3 h2.yE];exact kX v w h1 h3
abbrev e!:D1:=Aq (match xs with
 |[x]=>match ow M x with
  |Rp=>.ok (auc η) M
  |none=>match x with
   |ο n=>match M[n]? with
    |nu .aj=>.ok (asp η) M
    |_=>aF
   |_=>aF
 |_=>aF)
def acr:FL "len" (IG e!):=(aTD.or aWD).imp λvs H Q h=>by
 rw[Yp E S M r w h e!]
 match xs,r,w with
 |[],r,w=>rw[cX]
 |x::y::z,r,w=>rw[cX]
 |[x],r,w=>
  rw[iB v r1 r.yE];dsimp only at w;cases e1:ow M x with
  |some ys=>
   rw[e1]at w;rw[dJ p vs hq rs (awz aq r1 e1)];refine Ω (X8 p hq ?_);rw[arz Jm]
  |none=>
   rw[qT e1 w w];cases x with
   |obj n=>
    rw[iB p ei (bp.ft.mp r1)];obtain⟨o,eM,q⟩:=aq.addr ei;simp only[eM]at w;cases o with
    |aj kvs=>
     obtain⟨_,aJ,aI,rk⟩:=q;refine ay (kX p aJ aI ?_);rw[cw rk.length Jm]
    |_=>rw[cX]
   |_=>rw[cX]
abbrev AE l_:D1:=Aq (match xs with
 |[x]=>match ow M x with
  |Rp=>yi ys
  |none=>aF
 |_=>aF)
def aRF l_:FJ ED (IG (AE live)):=FR.imp λvs H Q h=>by
 rw[Yp E S M r w h AE]
 match xs,r,w with
 |[],r,w=>rw[cX]
 |x::y::z,r,w=>rw[cX]
 |[x],r,w=>
  rw[iB v r1 r.yE];dsimp only at w;cases e1:ow M x with
  |none=>rw[ko e1]
  |some ys=>
   rw[e1]at w;rw[dJ p vs hq rs (awz aq r1 e1)];exact X8 p hq (Zu aq rs w).2
abbrev anb:D1:=Aq (match xs with
 |[x]=>match Fd with
  |Rp=>.ok (aW ys) M
  |none=>match x with
   |aW ys=>.ok (aW ys) M
   |_=>aF
 |_=>aF)
def aT8:FJ Jc (IG anb):=aSP.imp λvs H Q h=>by
 rw[Yp E S M r w h anb]
 match xs,r,w with
 |[],r,w=>rw[cX]
 |x::y::z,r,w=>rw[cX]
 |[x],r,w=>
  rw[iB v r1 r.yE];dsimp only at w;cases e1:Fd with
  |some ys=>
   rw[e1]at w;rw[dJ p vs aI rs (il aq r1 e1)];refine yh p vs (FH (.of aI) (dB l hl));rw[eg s2 e2 (aie (aW vs) hl) (w _ _ _ _ e2 s2 (ė l _ g8 (rs.mono e2)))]
  |none=>
   rw[qT e1 w w];cases x with
   |tup ys=>
    rw[Fw p e q r1];exact yh p vs (o4 (.of (Ad e)) (vp _ r1))
   |_=>rw[cX]
abbrev Oe:D1:=Aq (match xs with
 |[η i]=>.ok (η i) M
 |[.ah b]=>.ok (η (agF b 0)) M
 |_=>aF)
def aHt:FJ (d5 "int") (IG Oe):=aVY.imp λvs H Q h=>by
 rw[Yp E S M r w h Oe];split at w
 ·rw[QK v r.yE];cases Ql;exact Ω (h! _ Jm)
 ·rw[QK v r.yE];cases bp.Tg.mp r1;exact ay (h! _ Jm)
 ·rw[cX]
abbrev an4:D1:=Aq (match xs with
 |[η i,η j]=>.ok (η (arF (j > i) i)) M
 |_=>aF)
abbrev Ub:D1:=Aq (match xs with
 |[η i,η j]=>.ok (η (arF (j<i) i)) M
 |_=>aF)
def aWE Bc:FL "max" (IG an4):=(aVW hc).imp λvs H Q h=>by
 rw[Yp E S M r w h an4];split at w
 ·rw[dJ v u r1 r2 r.FX];cases Ql;cases aDZ;exact yh _ _ Jm
 ·rw[cX]
def aHM Bc:FL "min" (IG Ub):=(aVX hc).imp λvs H Q h=>by
 rw[Yp E S M r w h Ub];split at w
 ·rw[dJ v u r1 r2 r.FX];cases Ql;cases aDZ;exact yh _ _ Jm
 ·rw[cX]
noncomputable abbrev yS:=ak->fK->ba->lN
abbrev a72 dz(f:yS):V->dw->aR->jT:=λv vs H Q=>∃E ι S M x xs,u5/\jw/\gO/\Fe (f x xs M)
def wL.imp{id:String}{r r':V->dw->aR->jT}(h:wL X id r)(i:∀x xs H Q,r' x xs H Q->r x xs H Q):wL X id r':=λpins s σ H x xs v us Q I rx rs q=>h pins s σ H x xs v us Q I rx rs (i _ _ _ _ q)
abbrev n8(f:yS)(gf:bz)KW:bz:=lY (Eo M).bind (match NS aa x with
 |vB=>p0 (į aa).bind xs (f x xs M2)
 |none=>aF)
def adg{f:yS}{name:Str}aNB aos aM7(ha:YD (e::es))
  aoo
  aMT
  aaq aNt:
  Wa auD (e::es) dc (n8 f gf ds):=⟨by
 rw[C! (a3K PySem.F.plainAttrs_list slot aoh hm ho.out ha.out pf anL ph hs amT)];cases e2:NS aa x with
 |none=>rw[M0 e2]
 |some ys=>
  rw[e2]at w1
  rw[dJ p vs aI rs (il s1 r1 e2)];refine⟨Ω ⟨rfl,vs,.of aI⟩,ι1,bg,aa,ρ,s1,ny,eN.bind (dg:=BW X.K) w1 λι2 b8 M2 H2 xs us e3 s2 r2 w2=>?_⟩
  exact⟨_,ι2,b8,M2,x,xs,s2,VS e3,r2.1,w2⟩⟩
def a2R{f:yS}{name:Str}aNB aos aM7
  aoo aaq:Wa auD [] dc (n8 f gf []):=⟨by
 rw[C! (a1o PySem.F.plainAttrs_list slot aoh hm ho.out pf ph)];cases e2:NS aa x with
 |none=>rw[M0 e2]
 |some ys=>
  rw[e2]at w1
  rw[dJ p vs aI rs (il s1 r1 e2)]
  rw[b4 (Ω ⟨rfl,vs,.of aI⟩) ⟨_,ι1,bg,aa,x,[],s1,r1,c_,w1⟩]⟩
abbrev lI nt dY(k:CS fK lN):lN:=match x with
 |ο n=>match M[n]? with
  |h7=>k n xs
  |_=>aF
 |_=>aF
def amC kQ Bk{ι:c5}aox wY pI{k:CS fK lN}K6(w:Fe (lI x M k)):
  ∃n p xs vs,v=Δ p/\Sn ι p/\M[n]? = h7/\H p=X7/\UR p/\gO/\Fe (k n xs):=by
 cases x with
 |obj n=>
  rw[Vi p ei r o eM q ei lI eM w];cases o with
  |lst xs=>
   rw[rX hS vs aI rs q ⟨n,p,xs,vs,rfl,ei,eM,aI,hS,rs,w⟩]
  |_=>rw[cX]
 |_=>rw[cX]
def aea Be bk uV{ys:fK}{us:dw}aaf aOf(r:pZ ys us):gq K ι S (S? n ς ys) (qG p us)/\Jt S (qG p us):=
 aq.put hi hS ⟨hS,us,g8,r⟩
abbrev q9:yS:=λx as M=>match as with
 |[y]=>lI x M λn xs=>I! (ajw lim) .ok .ai (q3 n (xs++[y]))
 |_=>aF
def aQ5:wL X "list.append" (Ss q9):=agI r aJM aH1 v vs H Q h (by
 rw[Jw x xs r rs q9];split at w
 ·rw[QK u rs.yE];obtain⟨n,p,ys,us,rfl,hi,eM,aI,hS,rr,w⟩:=amC aq r w;split at w
  ·rw[M8];refine⟨p,us,u,rfl,rfl,aI,by rw[cw rr.length (aeE hl)],?_⟩;rw[eg sp ep (aea aq hi hS (rr.append (.one r1))) (w ι S _ _ ep sp ī)]
  ·rw[cX]
 ·rw[cX])
abbrev amV:yS:=λx as M=>match as with
 |[y]=>lI x M λn xs=>match sC y with
  |Rp=>I! (aCG≤lim) .ok .ai (q3 n (xs++ys))
  |none=>aF
 |_=>aF
def aU0:wL X "list.extend" (Ss amV):=agI r aJN aWA v vs H Q h (by
 rw[Jw x xs r rs amV];split at w
 ·rw[QK u rs.yE];obtain⟨n,p,ys,us,rfl,hi,eM,aI,hS,rr,w⟩:=amC aq r w;split at w
  ·rename_i zs hz;rw[dJ b ws eb rb (il aq r1 hz)];split at w
   ·rw[M8];refine⟨p,b,us,ws,rfl,rfl,aI,eb,by rw[Ms rr.length rb.length (amz hl)],?_⟩;rw[eg sp ep (aea aq hi hS (rr.append rb)) (w ι S _ _ ep sp ī)]
   ·rw[cX]
  ·rw[cX]
 ·rw[cX])
abbrev afe:yS:=λx as M=>match as with
 |[]=>lI x M λn xs=>match xs[(ER 1)]? with
  |Cm=>.ok y (S? n ς xs.dropLast)
  |none=>aF
 |_=>aF
def a0s:wL X "list.pop" (Ss afe):=agI r aQk a1q v vs H Q h (by
 rw[Jw x xs r rs afe];split at w
 ·rw[bJ]at rs;subst rs;obtain⟨n,p,ys,us,rfl,hi,eM,aI,hS,rr,w⟩:=amC aq r w;split at w
  ·rename_i y hy;rw[atf z h1 h2 (rr.get hy) rr.length h1];refine⟨p,us,z,rfl,rfl,aI,h1,?_⟩;rw[eg sp ep (aea aq hi hS rr.dropLast) (w ι S _ _ ep sp h2)]
  ·rw[cX]
 ·rw[cX])
universe zE
universe L2
universe zE
section
namespace L2
open PySem PySem.Spec PyProof.Rows
inductive Out where
 |nx UG
 |eW nt dY
 |j6 UG
 |ct UG
 |exc KV UG
 |bad
noncomputable abbrev c6:=aY->ba->Out
abbrev m5 dz UD api(D:Ends):Ed
 |.nx ρ M=>∀ι' S' H' σ',sA->MM M->yg ι' S' ρ σ'->D.nx σ' H'
 |.j6 ρ M=>∀ι' S' H' σ',sA->MM M->yg ι' S' ρ σ'->D.j6 σ' H'
 |.ct ρ M=>∀ι' S' H' σ',sA->MM M->yg ι' S' ρ σ'->D.ct σ' H'
 |bP c ρ M=>∀ι' S' H' σ',sA->MM M->yg ι' S' ρ σ'->aG σ' (Δ c) none H'
 |.eW x M=>∀ι' S' H' v,sA->MM M->bp K ι' S' x v->D.eW v H'
 |aF=>False
def m5.up kQ{aG:St->d8}{ι ι':c5}{S H S' H':aR}{D:Ends}{o:Out}(h:m5 K aG ι S H D o)(e:sA):m5 K aG ι' S' H' D o:=by
 cases o with
 |nx ρ M=>exact λι1 bg H1 σ1 e1 s1 l1=>h ι1 bg H1 σ1 U' s1 l1
 |j6 ρ M=>exact λι1 bg H1 σ1 e1 s1 l1=>h ι1 bg H1 σ1 U' s1 l1
 |ct ρ M=>exact λι1 bg H1 σ1 e1 s1 l1=>h ι1 bg H1 σ1 U' s1 l1
 |exc c ρ M=>exact λι1 bg H1 σ1 e1 s1 l1=>h ι1 bg H1 σ1 U' s1 l1
 |eW x M=>exact λι1 bg H1 v e1 s1 l1=>h ι1 bg H1 v U' s1 l1
 |bad=>exact h
abbrev TM dz UD(d:c6):kO:=λD σ H=>∃ι S M ρ,u5/\Fc/\m5 K aG ι S H D dH
structure ay2 wX(st:Stmt)(d:c6):Prop where
 out:l9 X st (TM X.K aG d)
structure Gs wX(st:K9)(d:c6):Prop where
 out:sY X st (TM X.K aG d)
def l9.imp nq GR{t t':kO}(h:l9 X st t)aNs:l9 X st t':=XV s H D I s H D I (i D σ H hw)
def sY.imp nq{st:K9}{t t':kO}(h:sY X st t)aNs:sY X st t':=XV s H D I s H D I (i D σ H hw)
abbrev Res.out gC(r:xV)(ρ:aY)(f:α->ba->Out):Out:=match r with
 |.ok x M=>f x M
 |bP c M=>bP c ρ M
 |aF=>aF
@[simp] def Res.fg gC{x:α}ck azW:(aiU x).out ρ f=f x M:=rfl
@[simp] def Res.a0u gC rG ck azW:(Res.exc c M:xV).out ρ f=bP c ρ M:=rfl
@[simp] def Res.a9a gC azW:(Res.bad:xV).out ρ f=aF:=rfl
def m5.res rF kQ{dg:c5->aR->α->cS β}{aG:St->d8}apj{D:Ends}agd{r:xV}{f:α->ba->Out}{Q:β->dZ}(sl:Fc)(h:m5 K aG ι S H D (r.out ρ f))
  (g:∀ι1 bg aa H1 x v,VU S H ι1 bg H1->gq K ι1 bg aa H1->dg ι1 bg x v->m5 K aG ι1 bg H1 D (f x aa)->Q v H1):eN K dg (aG σ) ι S H Q r:=by
 cases r with
 |ok x M=>exact λι1 bg H1 v e1 s1 r1=>g ι1 bg M H1 x v e1 s1 r1 (m5.up h e1)
 |exc c M=>exact λι1 bg H1 e1 s1=>h ι1 bg H1 σ e1 s1 ny
 |bad=>exact h
section
variable {X:bV}{aG:St->d8}{a b c e o:Expr}{es:dI}{da db o6 d gf:bz}{ds:tu}{pos pos' apos dc:Pos}{st:Stmt}{rest:K9}{s1 s2:c6}{tc:iK}
abbrev n9:c6:=λρ M=>.nx ρ M
abbrev qx(s1 s2:c6):c6:=λρ M=>match Iw M with
 |.nx ρ' M'=>s2 ρ' M'
 |o=>o
def apK:Gs X aG [] n9:=⟨sY.imp aZQ λD σ H h=>by
 rw[EI S M ρ aq sl w h]
 exact vp σ sl⟩
def a2S kQ{D:Ends}za(h:TM K aG (qx s1 s2) D σ H):aQn (TM K aG s1) (TM K aG s2) D σ H:=by
 rw[Jv ⟨ι,S,M,ρ,aq,sl,?_⟩];rw[B6 qx];cases q:Iw M with
 |nx ρ' M'=>
  rw[bF q w (λι1 bg H1 σ1 e1 s1 l1=>⟨ι1,bg,M',ρ',s1,l1,m5.up w e1⟩)]
 |_=>rw[bF q w w]
def Ys(h1:vW st s1)(h2:Gs X aG rest s2):Gs X aG (st::rest) (qx s1 s2):=⟨sY.imp (aXp h1.out h2.out) (p5 h (a2S h))⟩
def a6p(h1:vW st s1):Gs X aG [st] s1:=⟨aZR h1.out⟩
abbrev mU l?:c6:=Nx M (dH).out _ (.nx ρ aa)
def De aag aOq:vW (.Expr e pos) (mU d):=Ž (aZS he.out hs) D σ H h (by
 rw[Jv ⟨ι,S,M,ρ,aq,sl,W! w x v⟩]
 exact HC σ ny)
abbrev c! l?:c6:=Nx M (dH).out x (.eW x aa)
def a2g aag:vW (.Return (some e) pos) (c! d):=Ž (a1Z he.out) D σ H h (by
 rw[Jv ⟨ι,S,M,ρ,aq,sl,W! w x v⟩]
 exact HC v r1)
abbrev a4d:c6:=cK M (.eW .ai M)
abbrev d6(tc:iK)(s1 s2:c6):c6:=Nx M (tc ρ M).out k (oN k (Iw aa) (s2 ρ aa))
def acp{xs ys:K9}(hc:C6 c tc)(h1:Gs X aG xs s1)(h2:Gs X aG ys s2):vW (.If c xs ys pos) (d6 tc s1 s2):=Ž (acx hc.out h1.out h2.out) D σ H h (by
 rw[Jv ⟨ι,S,M,ρ,aq,sl,m5.res (dg:=y_) sl w λι1 bg aa H1 x v e1 s1 r1 w1=>?_⟩];cases r1;cases x with
 |true=>exact FV RV
 |false=>exact Ke RV)
noncomputable abbrev AY:=ak->zT aY aY
abbrev awo dz(g:AY):uS:=λv σ H Q=>∃ι S M ρ x ρ',u5/\Fc/\jw/\aO (g x ρ) ρ'/\∀ι' S' H' σ',sA->MM M->yg ι' S' ρ' σ'->nD σ'
structure Z_ gu(cB:Expr)(g:AY):Prop where
 out:uP X cB (awo X.K g)
def uP.imp{cB:Expr}{t t':uS}(h:uP X cB t)aN2:uP X cB t':=λpins s σ H v u Q I r hw=>h pins s σ H v u Q I r (i v σ H Q hw)
abbrev bT iy:AY:=λx ρ=>aT (EO i)
def ash iy eS KJ aNJ
  aak:Z_ X (di x pos) (bT i):=⟨uP.imp (aZT hN hi hx hf) λv σ H Q h=>by
 obtain⟨ι,S,M,ρ,x,ρ',aq,sl,r,e,k⟩:=h;cases e
 exact k ι S H _ mG aq (sl.set r i)⟩
noncomputable abbrev O1:=fK->zT aY aY
abbrev a5W dz(g:O1):KA:=λvs σ H Q=>∃ι S M ρ xs ρ',u5/\Fc/\gO/\aO (g xs ρ) ρ'/\∀ι' S' H' σ',sA->MM M->yg ι' S' ρ' σ'->nD σ'
structure anU gu(ts:dI)(g:O1):Prop where
 out:GJ X ts (a5W X.K g)
def GJ.imp{ts:dI}{t t':KA}(h:GJ X ts t)aN2:GJ X ts t':=λpins s σ H v u Q I r hw=>h pins s σ H v u Q I r (i v σ H Q hw)
abbrev mn:O1:=λxs ρ=>match xs with
 |[]=>some ρ
 |_=>none
abbrev mY(g:AY)(gs:O1):O1:=λxs ρ=>match xs with
 |x::r=>(g x ρ).bind (gs r)
 |[]=>none
def AB:anU X [] mn:=⟨GJ.imp aZU λvs σ H Q h=>by
 obtain⟨ι,S,M,ρ,xs,ρ',aq,sl,r,e,k⟩:=h;cases xs with
 |nil=>
  rw[bJ]at r;cases e;rw[b4 r (k ι S H _ mG aq sl)]
 |cons x xs=>cases e⟩
def Av G1{gs:O1}(h1:Z_ X e g)(h2:anU X es gs)aNK:anU X (e::es) (mY g gs):=⟨GJ.imp (aXq h1.out h2.out hs) λvs σ H Q h=>by
  obtain⟨ι,S,M,ρ,xs,ρ',aq,sl,r,e,k⟩:=h;cases xs with
  |nil=>cases e
  |cons x xs=>
   rw[dJ v vr r1 r2 r.wz];have e:aO ((g x ρ).bind (gs xs)) ρ':=e;cases e1:g x ρ with
   |none=>rw[e1]at e;cases e
   |some ρ1=>
    rw[Xm e1 e ⟨v,vr,rfl,ι,S,M,ρ,x,ρ1,aq,sl,r1,e1,MS ι1 bg H1 σ1 aQ0 s1 l1⟩]
    exact⟨ι1,bg,M,ρ1,xs,ρ',s1,l1,r2.mono aQ0,e,λι2 b8 H2 σ2 acu s2 l2=>k ι2 b8 H2 σ2 (aQ0.trans acu) s2 l2⟩⟩
abbrev o8 dh(gs:O1):AY:=λx ρ=>match x with
 |aW xs=>vP xs.length n (gs xs ρ) none
 |_=>none
def aRH ee{gs:O1}bk Bc(h:anU X es gs)aNE:Z_ X (MT es k pos) (o8 n gs):=⟨uP.imp (a10 hc h.out hn kL) λv σ H Q h=>by
  obtain⟨ι,S,M,ρ,x,ρ',aq,sl,r,e,k⟩:=h;cases x with
  |tup xs=>
   simp only[o8]at e;split at e
   ·rw[M8];rw[Fw p ir rs r];exact⟨p,vs,rfl,.of (Ad ir),by rw[arz hl],ι,S,M,ρ,xs,ρ',aq,sl,rs,e,k⟩
   ·cases e
  |_=>cases e⟩
abbrev mV iy l?:c6:=Nx M (dH).out x (.nx (EO i) aa)
def a2l iy eS KJ aag aNJ aNh
  aak:vW (CT [di x pos'] e pos) (mV i d):=Ž (a12 hN hi hx he.out hs hf) D σ H h (by
 rw[Jv ⟨ι,S,M,ρ,aq,sl,W! w x v⟩]
 exact Cx ((ny).set r1 i))
abbrev Gj l?(g:AY):c6:=Nx M (dH).out x (match g x ρ with
 |some ρ'=>.nx ρ' aa
 |none=>aF)
def aer{cB:Expr}G1 aag(hg:Z_ X cB g)aNG
  aN0:vW (CT [cB] e pos) (Gj d g):=Ž (aKm he.out hg.out hs hw h1) D σ H h (by
 rw[Jv ⟨ι,S,M,ρ,aq,sl,W! w x v⟩];cases e2:g x ρ with
 |none=>rw[M0 e2]
 |some ρ'=>
  rw[e2]at w1
  exact⟨ι1,bg,aa,ρ,x,ρ',s1,ny,r1,e2,w1⟩)
universe zE
universe L2
universe zE
end
mutual
section
namespace L2
open PySem PySem.Spec PyProof.Rows
noncomputable abbrev qj:=yd (Nat×fu)
abbrev uF(w:qj)dY:Prop:=match w with
 |none=>True
 |mO n o=>ace M
@[simp] def a85 ck:uF none M:=trivial
@[simp] def a86 bk w6 ck:uF (mO n o) M↔ace M:=Iff.rfl
abbrev Walks dz(J:It)uW(w:qj)aoE:Prop:=
 ∀iy ι' S' M' H',S9 S->U7->uF w M' →
  (∀x,zu->J.go i H'/\∀v H2,J.awK i H' v H2->∃ι2 b8,Ext ι' S' H' ι2 b8 H2/\gq K ι2 b8 M' H2/\bp K ι2 b8 x v)/\(SU i->auT H')
noncomputable abbrev rj:=aY->ba->Res (fK×qj)
noncomputable abbrev anN dz:c5->aR->(fK×qj)->cS It:=λι S r J=>aiY K J r.1 r.2 S
structure Z! wX(cB iter:Expr)(d:rj):Prop where
 out:aaM X cB (Fz (anN X.K) d)
def Ko.imp nq{cB iter:Expr}{t t':TI}(h:aaM X cB t)(i:∀σ H R,t' σ H R->t σ H R):aaM X cB t':=XV s H R I s H R I (i σ H R hw)
section
variable {X:bV}{aG:St->d8}{a b c e o:Expr}{es:dI}{da db o6 d gf:bz}{ds:tu}{pos pos' apos dc:Pos}{st:Stmt}{rest:K9}{s1 s2:c6}{tc:iK}{cB iter:Expr}{d7:rj}{g:AY}
abbrev cj l?:rj:=lY (dH).bind (match x with
 |ς xs=>.ok (RN xs) aa
 |ο n=>match aa[n]? with
  |h7=>.ok (xs,akO xs) aa
  |_=>aF
 |_=>aF)
def aHu jv uV d9{w:qj}(h:∀ι' S' M' H',S9 S->U7->uF w M'->∃vs,iI K H' p vs/\õ K):aiY K (ayg K p) xs w S:=by
 intro i ι' S' M' H' up aq hc;rw[x9 vs hq rs (h ι' S' M' H' up aq hc) ⟨dB x hx,λhl=>⟨vs,hq,by rw[arz hl]⟩⟩];rw[x9 v hv r (rs.get hx) ⟨⟨vs,v,hq,hv⟩,cM u H2 y⟩];rw[Qo y y];rw[vz (y vs hq) hv];cases this;exact⟨ι',S',mG,aq,r⟩
def jr(h:Ji iter):aaQ X aG cB (cj d):=⟨by
 rw[Ņ (aZV h.out) σ H R hh S M w hh ⟨ι,S,M,ρ,aq,sl,xQ⟩];cases x with
 |lst xs=>
  rw[agZ p vs ir rs r1];refine aiN p (.of (atz _ _)) (aHu (abk b8 M2 H2 up s2 _));rw[b5 vs (.of (aiZ _ (Xv _ ir))) (rs.up up)]
 |obj n=>
  rw[iB p ei (bp.ft.mp r1)];obtain⟨o,eM,q⟩:=s1.addr ei;simp only[eM]at w1;cases o with
  |lst xs=>
   rw[Vw aI rs q];refine aiN p (.of aI) (aHu (abk b8 M2 H2 up s2 hc));obtain⟨_,amB,rm,O2⟩:=s2.ob n p _ (up.ix _ _ ei) hc;rw[b5 amB (.of rm) O2]
  |_=>rw[nB]
 |_=>rw[nB]⟩
abbrev alu l?:rj:=lY (dH).bind (match x with
 |aW xs=>.ok (RN xs) aa
 |_=>aF)
def aKs(h:Ji iter):aaQ X aG cB (alu d):=⟨by
 rw[Ņ (a14 h.out) σ H R hh S M w hh ⟨ι,S,M,ρ,aq,sl,xQ⟩];cases x with
 |tup xs=>
  rw[Fw p ir rs r1];rw[vv (aiN p (.of (atz _ _)) (λi ι2 b8 M2 H2 up s2 _=>?_)) hq (Gl X.K H2 p vs) (.of (aiZ _ (Xv _ ir)))];have O2:=rs.up up;rw[WN x hx (λhl=>⟨vs,hq,by rw[cw O2.length hl]⟩)];rw[x9 v hv r (O2.get hx) ⟨⟨vs,v,hq,hv⟩,cM u H3 y⟩];rw[Qo y y];rw[vz (y vs hq) hv];cases this;exact⟨ι2,b8,mG,s2,r⟩
 |_=>rw[nB]⟩
abbrev qm aoH:fK:=(oH).map fun(k:Nat)=>η (lo+aU k)
def aWF jv aoH:aiY K (anp lo n) (qm lo n) none S:=by
 intro i ι' S' M' H' up aq _;rw[WN x hx (λhl=>by(have hl:n≤i:=U0 qm hl);exact hl)];rw[BA qm hx g_ hx];by_cases hi:i<n
 ·rw[List.getElem?_range hi]at hx;cases hx;rw[WO hi v H2 y];rw[Vu rfl y ⟨ι',S',mG,aq,E2⟩]
 ·rw[E1 X6]at hx;cases hx
abbrev gT KW:rj:=BB (ve).bind xs (match xs with
 |[η j]=>I! (-(2 ^ 62)≤j/\j<2 ^ 62) .ok (RN (qm 0 j.toNat)) aa
 |_=>aF)
def avz{p:Pos}(hm:agG "range")(ha:YD [a])(hg:OA X "range" :=by rfl)aop:Z! X aG cB (xg (di "range" p) [a] [] pos) (gT ds):=⟨by
 rw[Ņ (N0 hg hm ha.out hs) σ H R hh S M w hh ⟨ι,S,M,ρ,aq,sl,eN.bind (dg:=BW X.K) w λι1 bg aa H1 xs vs e1 s1 r1 w1=>?_⟩];split at w1
 ·rename_i j;rw[iB v r2 r1.1.yE];cases aDZ;split at w1
  ·rename_i hb;exact PE j hb.1 hb.2 (Cx (aWF 0 _))
  ·rw[nB]
 ·rw[nB]⟩
open Classical in
noncomputable def AR(w:qj)(g:AY)(s1:c6):fK->aY->ba->Out
 |[],ρ,M=>.nx ρ M
 |x::xs,ρ,M=>match g x ρ with
  |none=>aF
  |some ρ1=>match s1 ρ1 M with
   |.nx ρ' M'=>aiE w M' (AR w g s1 xs ρ' M')
   |.ct ρ' M'=>aiE w M' (AR w g s1 xs ρ' M')
   |.j6 ρ' M'=>.nx ρ' M'
   |.eW x M'=>.eW x M'
   |bP c ρ' M'=>bP c ρ' M'
   |aF=>aF
abbrev eO(d7:rj)(g:AY)(s1:c6):c6:=λρ M=>(Sq).out ρ λr aa=>open Classical in aiE r.2 aa (AR r.2 g s1 r.1 ρ aa)
def aQS aay(hp:akw)Bc(hi:aaQ X aG cB d7)(hg:Z_ X cB g)(hb:Gs X aG body s1)aan:
  vW (.For cB iter body [] pos) (eO d7 g s1):=⟨by
 rw[Yg (a15 hp hc hi.out hg.out hb.out hs) D H h S M w h ⟨ι,S,M,ρ,aq,sl,m5.res (dg:=anN X.K) sl w λι1 bg aa H1 r J e1 OC TV w1=>?_⟩];rw[aq1 xs wt r TV w1];split at w1
 ·rename_i hc1
  refine⟨λi m σ' H'=>m=ER i/\asm i/\∃ι' S' M' ρ',Ext ι1 bg H1 ι' S' H'/\gq X.K ι' S' M' H'/\Slots X.K ι' S' ρ' σ'/\E9 M'/\m5 X.K aG ι1 bg H1 D (AR wt g s1 (xs.drop i) ρ' M'),
   ⟨xs.length,Θ,yb,ι1,bg,aa,ρ,mG,OC,ny,hc1,aX w1⟩,?_⟩
  rintro i m σ' H' ⟨rfl,hi',ι',S',M',ρ',ex,kK,ro,hck,ww⟩;obtain⟨aGC,aGE⟩:=TV i ι' S' M' H' ex.toUp kK hck
  by_cases fq:JA
  ·right;obtain⟨go,wJ⟩:=aGC xs[i] aPS;rw[aO6,AR]at ww;refine⟨go,mz σ2 (∃ι' S' M' ρ',Ext ι1 bg H1 ι' S' H2/\gq X.K ι' S' M' H2/\Slots X.K ι' S' ρ' σ2/\E9 M'/\m5 X.K aG ι1 bg H1 D (AR wt g s1 (ż (i+1)) ρ' M')),λσ2 H2 q=>kX (ER (i+1)) aB fq q,cM v H2 y⟩;obtain⟨ι2,b8,acu,aEu,r2⟩:=wJ v H2 y;cases FZ:g xs[i] ρ' with
   |none=>rw[bF FZ ww ww.elim]
   |some ρ1=>
    rw[Xm FZ ww ⟨ι2,b8,M',ρ',xs[i],ρ1,aEu,ro.mono acu,r2,FZ,MS ι3 uR H3 σ3 aQ1 aEv A6⟩];refine⟨ι3,uR,M',ρ1,aEv,A6,?_⟩;have aXW:=ex.trans aMG;dsimp only at ww;cases eb:s1 ρ1 M' with
    |nx ρ4 dW=>
     rw[qT eb ww ww];split at ww
     ·rename_i hc4;exact λι4 qp H4 σ4 wN uB y!=>⟨ι4,qp,dW,ρ4,aik,uB,y!,hc4,ww⟩
     ·rw[ahX]
    |ct ρ4 dW=>
     rw[qT eb ww ww];split at ww
     ·rename_i hc4;exact λι4 qp H4 σ4 wN uB y!=>⟨ι4,qp,dW,ρ4,aik,uB,y!,hc4,ww⟩
     ·rw[ahX]
    |j6 ρ4 dW=>
     rw[bF eb ww (λι4 qp H4 σ4 wN uB y!=>ww ι4 qp H4 σ4 aik uB y!)]
    |eW x dW=>
     rw[bF eb ww (λι4 qp H4 σ4 wN uB y!=>ww ι4 qp H4 σ4 aik uB y!)]
    |exc c ρ4 dW=>
     rw[bF eb ww (λι4 qp H4 σ4 wN uB y!=>ww ι4 qp H4 σ4 aik uB y!)]
    |bad=>rw[bF eb ww ww.elim]
  ·left
   rw[LO e (ajt i) aB e];rw[List.drop_length,AR]at ww;rw[b4 (aGE fh) (ww ι' S' H' σ' ex kK ro)]
 ·rw[nB]⟩
abbrev Du(tc:iK)(s1:c6):CS aY (ba->Out)
 |0,_,_=>aF
 |n+1,ρ,M=>MJ (tc ρ M).out k (ahs (aL k) (match Iw aa with
   |.nx ρ' M'=>Du tc s1 n ρ' M'
   |.ct ρ' M'=>Du tc s1 n ρ' M'
   |.j6 ρ' M'=>.nx ρ' M'
   |.eW x M'=>.eW x M'
   |bP c ρ' M'=>bP c ρ' M'
   |aF=>aF) (.nx ρ aa))
abbrev Res.Ou rF:xV->(α->ba->ak0)->ak0
 |.ok a M,f=>f a M
 |bP _ _,_=>aF
 |aF,_=>aF
@[simp] def Res.aIy rF{a:α}ck aat:(aiU a).Ou f=f a M:=rfl
noncomputable abbrev Gw:St->d8:=p5 _ False
abbrev DB O9(ρ:aY):aY:=gg.map λo=>match o with
 |Xp=>(ρ[i]?).join
 |none=>none
def Slots.gg jv agd(sl:Fc)O9:yg ι S (DB gg ρ) (J7 gg σ):=by
 rw[WO (f_ DB J7) i x h];rw[nN DB];unfold J7;rw[vJ g_];cases ec:gg[i]? with
 |none=>rw[ec]at h;cases h
 |some o=>
  rw[ec]at h;cases o with
  |none=>cases h
  |some j=>
   rw[S0 h' ((ρ[j]?).join=g7) h];cases q:ρ[j]? with
   |none=>rw[q]at h';cases h'
   |some z=>
    rw[q]at h';rw[LO h'' (z=g7) h' h''];rw[RE v (sl.2 j x q) v (aK h1) h2]
open Classical in
noncomputable def tI(w:qj)(g:AY)(tc:iK)l?:fK->aY->ba->fK->Res fK
 |[],_,M,acc=>.ok acc M
 |x::xs,ρ,M,acc=>match g x ρ with
  |none=>aF
  |some ρ1=>BR (tc ρ1 M).Ou k (if aL k then p0 (d ρ1 aa).Ou y (Ä (uF w M2/\acc.length<lim) (tI w g tc d xs ρ1 M2 (acc++[y])))
   else aiE w aa (tI w g tc d xs ρ1 aa acc))
open Classical in
noncomputable def mX l_ O9(d7:rj)(g:AY)(tc:iK)l?:bz:=BB (Sq).bind r (if uF r.2 aa then p0 (tI r.2 g tc d r.1 (DB gg ρ) aa []).Ou ys (uz live ys M2) else aF)
structure ay3 gu(ifs:dI)(t:iK):Prop where
 out:é X (Ý y_ Gw t)
abbrev oz:iK:=cK M (.ok true M)
def aeC.imp{ifs:dI}{t t':kg}(h:é X t)aao:é X t':=XV s H Q I s H Q I (i σ H Q hw)
def Y8:ay3 X [] oz:=⟨aeC.imp aX7 λσ H Q h=>by
 rw[EI S M ρ aq sl w h]
 exact vp true rfl⟩
def a7y(h:aKX X Gw c tc):ay3 X [c] tc:=⟨aX8 h.out⟩
def aWG afU ck Bk pI Pg pA kQ uV(h0:sq)(ex:sA)(aq:MM M)(hp:H' p=X7)(hi:p∉ι')(hS:aul p)(r:õ K)
  (w:Fe (yi xs)):nD (Δ p):=by
 have ne:∀b u,H b=dG->b≠p:=λb u q=>cq q h0;rw[B6 uz];split at w
 ·split at w
  ·refine w (ι'++[p]) S' H' _ ⟨NI n a h ((Up.push (S:=S') p).ix n a (ex.ix n a h)) ex.sm,?_,XU u⟩ (aq.enter hi ⟨hS,vs,hp,r⟩) (VY p (by rw[aDO]))
   ·rw[fG h1 ex.pre hl (aCY ι'.length) (by rw[←h1];rw[f9])]
    rw[aAA hl h1]
   ·rw[pN k1 k2 k3 (ex.fr b u aE aV cA) k1 (f_ k2 (ne b u aE)) k3]
  ·rw[kB sm (m6 S' (Ez S' p vs)) (λb u q=>by rw[JQ hS]) up (Up ι' S' ι' (Ez S' p vs)) (NI _ _ h h sm) (w ι' (Ez S' p vs) H' _ ⟨⟨ex.ix,ex.sm.trans sm⟩,ex.pre,XU u⟩ ⟨vG u,aq.len,aq.nd,lV n a u h1 h2⟩ (bp.adp.mpr (kX p vs g8 (r.up up))))]
   ·rw[pN k1 k2 k3 (ex.fr b u aE aV cA) k1 k2 (by rw[gY (ne b u aE) k3])]
   ·rw[vt (b=p)]
    ·rw[RG q];cases q;exact hp
    ·rw[bF E7 q (aq.sub b u q)]
   ·rw[CA aS (a≠p) (hi (Ls z h1)) ((aq.ob n a u h1 h2).up up (cP (by rw[Cn z])) rfl)]
 ·rw[cX]
variable {scope:Scope}{N:gM}{gg:tv}{elt:Expr}{ifs:dI}
def aJp kQ Pg za pI(h:yM K (oj K) aG (mX live gg d7 g tc d) σ H Q):
  ayN gg (yM K (anN K) aG d7) (awo K g) (yM K y_ Gw tc) (WZ K Gw d) σ H Q:=by
 rw[Jv ⟨ι,S,M,ρ,aq,sl,eN.bind (dg:=anN K) w λι1 bg aa H1 r J e1 OC TV w1=>?_⟩];rw[aq1 xs wt r TV w1];split at w1
 ·rename_i hc1;intro acc afg;rw[cH a6W (OC.TQ afg) a7a (OC.fresh afg)];rw[agH a4e a5X (OC.side (o:=ς []) afg) ⟨λi m ys σ' H'=>m=ER i/\asm i/\∃ι' S' M' ρ' Gz,Ext ι1 bg H1 ι' S' H'/\U7/\yg ι' S' ρ' σ'/\H' acc=vM ys/\acc∉ι'/\aul acc/\bJ K ι' S' Gz ys/\E9 M' ∧
    eN K (oj K) (aG σ) ι1 bg H1 Q (p0 (tI wt g tc d (xs.drop i) ρ' M' Gz).Ou ys (uz live ys M2)),
   ⟨xs.length,Θ,yb,ι1,bg,aa,DB gg ρ,[],a5X,a4e,(ny).gg gg,g8,a7a,a6W,c_,hc1,aX w1⟩,?_⟩]
  rintro i m ys σ' H' ⟨rfl,hi',ι',S',M',ρ',Gz,ex,kK,ro,hl1,wU,hl3,rs,hck,ww⟩;obtain⟨aGC,aGE⟩:=TV i ι' S' M' H' ex.toUp kK hck
  by_cases fq:JA
  ·right;obtain⟨go,wJ⟩:=aGC xs[i] aPS;rw[aO6,tI]at ww;rw[WO go v H2 y];obtain⟨ι2,b8,acu,aEu,r2⟩:=wJ v H2 y;cases FZ:g xs[i] ρ' with
   |none=>rw[bF FZ ww ww.elim]
   |some ρ1=>
    rw[Xm FZ ww ⟨ι2,b8,M',ρ',xs[i],ρ1,aEu,ro.mono acu,r2,FZ,MS ι3 uR H3 σ3 aQ1 aEv A6⟩];have a5Y:=aMG;refine⟨ι3,uR,M',ρ1,aEv,A6,?_⟩;dsimp only at ww;cases et:tc ρ1 M' with
    |exc c dW=>rw[bF et ww ww.elim]
    |bad=>rw[bF et ww ww.elim]
    |ok k dW=>
     rw[et]at ww;intro ι4 qp H4 k' wN uB rk;cases rk;rw[cH an6 (a5Y.trans wN) a5Z (ex.trans an6)];rw[B5 f1 f2 f3 (an6.fr acc _ hl1 wU hl3) ww (eN K (oj K) (aG σ) ι1 bg H1 Q (p0 (if aL k then(d ρ1 dW).Ou λy M2=>open Classical in Ä (E9 M2/\Gz.length<lim) (tI wt g tc d (ż (i+1)) ρ1 M2 (Gz++[y])) else open Classical in aiE wt dW (tI wt g tc d (ż (i+1)) ρ1 dW Gz)).Ou ys (uz live ys M2))) ww];cases k with
     |false=>
      rw[zS lR ww (Ke ⟨ER (i+1),aB,rfl,fq,ι4,qp,dW,ρ1,Gz,a5Z,uB,A6.mono wN,f1,f2,f3,rs.mono an6,?_⟩)];split at ww
      ·rename_i hc4;rw[b4 hc4 ww]
      ·rw[ahX]
     |true=>
      rw[zS ek ww (FV ⟨ι4,qp,dW,ρ1,uB,A6.mono wN,?_⟩)];cases ed:d ρ1 dW with
      |exc c l8=>rw[bF ed ww ww.elim]
      |bad=>rw[bF ed ww ww.elim]
      |ok awM l8=>
       rw[ed]at ww;intro ι5 aYg H5 u aQ2 an7 al7;rw[cH aEw (an6.trans aQ2) aEx (ex.trans aEw)];rw[B5 f1 f2 f3 (aEw.fr acc _ hl1 wU hl3) ww (eN K (oj K) (aG σ) ι1 bg H1 Q (p0 (open Classical in Ä (E9 l8/\Gz.length<lim) (tI wt g tc d (ż (i+1)) ρ1 l8 (Gz++[awM]))).Ou ys (uz live ys M2))) ww];split at ww
       ·rename_i hc5;refine⟨f1,by rw[arz (aeE hc5.2)],ER (i+1),aB,rfl,fq,ι5,aYg,l8,ρ1,Gz++[awM],?_,?_,A6.mono (wN.trans aQ2),g8,f2,f3,(rs.mono aEw).append (.one al7),hc5.1,ww⟩
        ·rw[d_ aEx.toUp aEx.pre (XU u)];rw[pN k1 k2 k3 (aEx.fr b u aE aV cA) (by rw[gY (cq aE afg) k1]) k2 k3]
        ·rw[vv ⟨λb v q=>by rw[gY (cq q f3) (an7.sub b v q)],an7.len,an7.nd,lV n a v h1 h2⟩ aS (a≠acc) (cP (f2 (Ls z h1)))];exact(an7.ob n a v h1 h2).up (V6 _ _ h h _) (cP z) (kR aS)
       ·rw[ahX]
  ·left
   rw[LO e (ajt i) aB e];rw[List.drop_length,tI]at ww;rw[b4 (aGE fh) (aWG afg ex kK hl1 wU hl3 rs ww)]
 ·rw[nB]
def acv l_ af0(kN:aaQ X aG cB d7)
  aNN
  aan:iP (G7 elt [S8 0] scope pos) (mX live gg d7 g tc d):=Ws (aZz (g:=awo X.K g) (tt:=Ý y_ Gw tc) (te:=Ý zR Gw d) co ad9 kN.out (λC fp s0 H0=>(hg C fp s0 H0).out) (λC fp s0 H0=>(hi C fp s0 H0).out) (λC fp s0 H0=>(he C fp s0 H0).out) hs) _ _ _ h (aJp h)
def al1 l_ iy{y:Str}{py anM:Pos}af0 KJ(kN:aaQ X aG cB d7)
  aNN
  aNF
  (hy:jl X.N y:=by rfl)(hx:avc y:=by first | exact apJ | exact aAm)
  aM1
  aan:vW (CT [di y py] (G7 elt [S8 0] scope pos) anM) (mV i (mX live gg d7 g tc d)):=Ž (aUY (g:=awo X.K g) (tt:=Ý y_ Gw tc) (te:=Ý zR Gw d) co ad9 kN.out (λC fp s0 H0=>(hg C fp s0 H0).out) (λC fp s0 H0=>(hi C fp s0 H0).out) (λC fp s0 H0=>(he C fp s0 H0).out) hN hy hx hsw hf hs) D σ H h (by
  rw[EI S M ρ aq sl w h];rw[M3 (aJp ⟨ι,S,M,ρ,aq,sl,W! w x v⟩) (Cx ((ny).set r1 i))])
universe zE
universe L2
universe zE
section
namespace L2
open PySem PySem.Spec PyProof.Rows
abbrev Qr dz dh c7:wV:=λvs H Q E=>vs.length=n/\∃ι S M xs,u5/\gO/\Fe (g xs M)
abbrev Out.res:Out->lN
 |.nx _ M=>.ok .ai M
 |.eW x M=>.ok x M
 |bP c _ M=>bP c M
 |_=>aF
@[simp] def Out.a2T pB:(Out.nx ρ M).res=.ok .ai M:=rfl
@[simp] def Out.a2U gW ck:(Out.eW x M).res=.ok x M:=rfl
@[simp] def Out.a0v rG pB:(Out.exc c ρ M).res=bP c M:=rfl
abbrev F2 dh(d:c6):D1:=Aq (d (asA++auO n) M).res
section
variable {P:Program}{w:World}{K:ff}{mg:Str->gK}{base:Heap}
def aT9 KM pA{N:gM}(r:gO):yg ι S (asA++auO N.length) (aiR N):=by
 unfold start;have hl:=r.length;rw[WO (aK hl) i x h];by_cases hi:JA
 ·rw[ú X6,g_]at h;rw[ú (by simpa[←hl] using hi),g_];cases e:xs[i]? with
  |none=>rw[e]at h;cases h
  |some y=>
   rw[e]at h;cases h;rw[RE v (r.get e) v (by rw[cU h1]) h2]
 ·rw[aBb X6]at h;rw[aBp h];split at h<;>cases h
def anc azt aom O6 ee{d:c6}aN6 af9
  (hb:∀(md:Value)Uu,rN (å qual f) →
   â (K! qual) (λ_=>E) d):
  rf P w K mg base (lG P w) (k+1) f fd ps (Qr K ps.length (Mm d)):=by
 obtain⟨oc,od,kV,doc,pm,an,md,ct,OY,rfl,lk,yU⟩:=F.ex;refine a3E lk yU S (λvs H Q E h=>h.1) λA outer s H vs Q E hr OZ=>⟨_,(hb md A outer s H E hr).out,?_⟩;obtain⟨hl,ι,S',M,xs,aq,r,w'⟩:=OZ;refine⟨ι,S',M,_,aq,aT9 r,?_⟩;unfold F2 at w';cases q:d (asA++auO N.length) M with
 |nx ρ M'=>rw[bF q w' (λι1 bg H1 σ1 e1 s1 _=>w' ι1 bg H1 .ai e1 s1 ī)]
 |eW y M'=>rw[bF q w' (λι1 bg H1 v e1 s1 r1=>w' ι1 bg H1 v e1 s1 r1)]
 |exc c ρ M'=>rw[bF q w' (λι1 bg H1 σ1 e1 s1 _=>w' ι1 bg H1 e1 s1)]
 |j6 ρ M'=>rw[bF q w' w'.elim]
 |ct ρ M'=>rw[bF q w' w'.elim]
 |bad=>rw[bF q w' w'.elim]
abbrev fu.lF dh:nC fu
 |.gone=>true
 |ς xs=>Wk n
 |.aj kvs=>aiq kv n kv.2
 |.jO kvs=>aiq kv n kv.2
 |.ij kvs=>aiq kv n kv.2
 |dD _ fs=>fs.all λkv=>ak.lF n kv.2
 |bP _=>true
def o7.lF tg KM KP:g5 (aiq kv ι.length kv.2):=by
 induction h with
 |nil=>rfl
 |cons r t ih=>rw[List.all_cons,ih,bp.lF _ _ r.2];rfl
def o7.cut tg KM bk KP(hb:g5 (aiq kv n kv.2)):o7 K aty S kvs aJ:=by
 induction h with
 |nil=>rw[vL]
 |cons r t ih=>
  rw[aAs List.all_cons hb];exact bW ⟨r.1,bp.cut _ _ hb.1 r.2⟩ (ih hb.2)
def N?.lF apj jh azz:aL (o.lF ι.length):=by
 cases o with
 |gone=>rfl
 |lst xs=>obtain⟨_,vs,_,r⟩:=h;exact bJ.Dy _ _ r
 |aj kvs=>obtain⟨_,vs,_,r⟩:=h;exact r.lF
 |jO kvs=>obtain⟨_,vs,_,r⟩:=h;exact r.lF
 |ij kvs=>obtain⟨_,_,_,_,r⟩:=h;exact r.lF
 |ins C fs=>obtain⟨_,dx,vs,_,r⟩:=h;exact r.lF
 |exc C=>rfl
def N?.cut apj jh w6 bk(h:La H a)(hb:aL (o.lF n)):N? K aty S H a o:=by
 cases o with
 |gone=>exact h
 |lst xs=>rw[Ny z e r h z e (bJ.cut _ _ hb r)]
 |aj kvs=>rw[Ny z e r h z e auX]
 |jO kvs=>rw[Ny z e r h z e auX]
 |ij kvs=>rw[vc ob vs z e h ob vs z e auX]
 |ins C fs=>rw[vc z dx vs e h z dx vs e auX]
 |exc C=>exact h
open Classical in
noncomputable def Gk dY:lN->lN
 |.ok x M'=>Bx (ahy=M/\asY x) .ok x aF
 |bP c M'=>Bx (ahy=M) bP c aF
 |aF=>aF
abbrev trunc c7:D1:=Aq (Gk M (g xs M))
def aJq{M M':ba}gW(h:ahy=M)(hb:asY x):Gk M (.ok x M')=.ok x M:=by rw[r3 Gk (if_pos ⟨h,hb⟩)]
def aXX{M M':ba}rG(h:ahy=M):Gk M (bP c M')=bP c M:=by rw[r3 Gk CJ]
@[simp] def a8V ck gW(hb:asY x):Gk M (.ok x M)=.ok x M:=aJq List.take_length hb
@[simp] def a87 ck rG:Gk M (bP c M)=bP c M:=aXX List.take_length
@[simp] def a88 ck:Gk M aF=aF:=rfl
def aJr afU{M M':ba}aaf(kK:U7)(ex:sA)(h:ahy=M):gq K ι S' M H'/\Jt S' H':=by
 rw[fF ⟨kK.sub,aq.len,aq.nd,lV n a o h1 h2⟩ ⟨NI _ _ h h ex.sm,List.take_length,tC u aE aV cA⟩]
 ·rw[bM hn (zQ n) aAn.1 h2' (ace M') (by rw[←h,List.getElem?_take_of_lt hn]at h2;exact h2)]
  rw[cH m1 (kK.ob n a o (ex.ix n a h1) h2') m2 (aq.ob n a o h1 h2).lF];rw[EW (m1.cut m2) ex.pre this]
 ·rw[pN k1 k2 k3 (ex.fr b u aE aV cA) k1 aV k3]
def aWH bk D8 w4 iM pI Bk(h:Qr K n (trunc g) vs H Q E):Qr K n g vs H Q E:=by
 obtain⟨hl,ι,S,M,xs,aq,r,w'⟩:=h;refine⟨hl,ι,S,M,xs,aq,r,?_⟩;unfold trunc at w';cases q:g xs M with
 |bad=>rw[bF q w' w']
 |ok x M'=>
  rw[q]at w';simp only[Gk]at w';split at w'
  ·rename_i hc;intro ι1 bg H1 v e1 s1 r1;obtain⟨s2,e2⟩:=aJr aq s1 e1 hc.1;refine w' ι bg H1 v e2 s2 ?_;have:=bp.cut (n:=M.length) x v hc.2 r1;rw[←aq.len,e1.pre]at this;rw[zp]
  ·exact w'.elim
 |exc c M'=>
  rw[q]at w';simp only[Gk]at w';split at w'
  ·rw[Xs];intro ι1 bg H1 e1 s1;rw[eg s2 e2 (aJr aq s1 e1 hc) (w' ι bg H1 e2 s2)]
  ·exact w'.elim
universe zE
structure yv DW Uz l! nr dh c7:Prop where
 ex:∃f fd ps,rf P w K mg base (lG P w) k f fd ps (Qr K n g)/\mg x=kZ f/\VK K (Δ f)/\Nq K
section
variable {P:Program}{w:World}{K:ff}{mg:Str->gK}{base:Heap}
def yv.mono afK eS bk D8 aOJ afL:Sv P w K mg k x n g:=by
 rw[vc f fd ps F F.ex f fd ps ŏ r]
def yv.trunc ee eS bk D8(F:Sv P w K mg k x n g):Sv P w K mg k x n (trunc g):=by
 rw[vc f fd ps F F.ex f fd ps (F.imp λ_ _ _ _ h=>aWH h) r]
structure a6t aam nr apd:Prop where
 ex:∃f fd,Gx K x x st f fd/\mg x=kZ f/\Nq K
def yv.of eS GR O6 ee{d:c6}az1
  (hb:∀aoj Uu,rN (å x f) →
   â (K! x) (λ_=>E) d):Sv P w K mg (k+1) x ps.length (Mm d):=by
 rw[G? f fd F hm hB D.ex ⟨f,fd,ps,anc F S (hb f),hm,F.kp,hB⟩]
universe zE
structure Good0 wX:Prop where
 hu:aQL
 calm:Yt
 ps:aGG (lG X.prog X.w) X aG
 nd:X.N.Nodup
structure Good wX:Prop extends ava X where
 own:akw
def Good.o_ af8(G:Good X aG):ava X:=G.toGood0
def amW KY O6 apl apa uU Pf nj iM Bk ee azk
  azR:Good (sQ (lG P w) P w K mg base N qual scope f cd A outer s H E) (λ_=>E):=
 ⟨pV hr.units (λpins σ H s e s' I h=>aZA pins σ H s e s' I h) S.nd,PassesOwn.leaving⟩
def aAe af8 aaa af2{N:gM}qu GX nj iM(nd:N.Nodup):Good (wm X scope N C fp s H) Gw:=
 ⟨⟨G.hu,G.calm,λpins σ H s e s' I h=>by obtain⟨_,_,_,_,_,z⟩:=h;exact z.elim,nd⟩,PassesOwn.never⟩
section
variable {X:bV}{aG:St->d8}{a b c e o:Expr}{es:dI}{da db o6 d gf:bz}{ds:tu}{pos pos' apos dc:Pos}{k n:Nat}{x m:Str}{g:D1}
def D9{p:Pos}(F:yv X.prog X.w X.K X.mg X.base k x n g)(hr:akV)aaa aon(hn:ds.length=n:=by rfl)ao5
  Uy:MD (di x p) (e::es) (ax g ds):=⟨by
 obtain⟨f,fd,ps,F,hm,hk,hb⟩:=F.ex;rw[MK (aX9 F hr hg hm hk hb c_ G.ps ha.out Km he i8) h h S M (eN.bind (dg:=BW X.K) w λι1 bg aa H1 xs vs e1 s1 r1 w1=>?_)];rw[gx j? ⟨by rw[←kU r1.1,r1.2,hn],ι1,bg,aa,xs,s1,r1.1,w1⟩]⟩
universe zE
noncomputable abbrev anP:c5->aR->Unit->cS Unit:=p5 _ True
abbrev n6:z4 bz->aY->ba->Res Unit
 |[],_,M=>.ok () M
 |none::r,ρ,M=>n6 r ρ M
 |some d::r,ρ,M=>Ab (dH).bind (match x with
  |η i=>oN (small i) (n6 r ρ aa) aF
  |_=>aF)
structure Uo wX(es:dI)(ps:z4 bz):Prop where
 out:∀oE(Q:Unit->dZ)(acc:Str)dh,i9->yM X.K anP aG (n6 ps) σ H Q →
 at6 (ps.length*2000)≤n->n≤1000000->Joins (model X.prog X.w) X.A X.sS (agW es) acc (λout s₁=>out.length≤n/\∃H',Í s₁/\nD ()) s
section
variable {X:bV}{aG:St->d8}{a b c e:Expr}{es:dI}{d:bz}{ds:tu}{ps:z4 bz}{pos pos' dc:Pos}
def uw:Uo X aG [] []:=⟨λpins s σ H Q acc n I h hl hn=>by
 rw[EI S M ρ aq sl w h]
 exact⟨aX hl,H,I,vp () trivial⟩⟩
def jd eS{j}(h:Uo X aG es ps)(hx:x.length≤2000:=by decide)(he:agW (BE (av x) j pos::es)=mS (BE (av x) j pos)::agW es:=by rfl):Uo X aG (BE (av x) j pos::es) (none::ps):=⟨λpins s σ H Q acc n I hw hl hn=>by
 rw[he];rw[zE]at hl;rw[cV e1 (cC (acc++x)=at6 x.length) (strLen_append _ _) (Calls.Constant_str (Yi x ?_))]
 ·rw[e1,sizeLine_eq];omega
 ·exact h.out pins _ σ H Q (acc++x) n lT hw (by rw[nQ e1]) hn⟩
def aWI iz(h:Û i):i.natAbs.log2<1920:=by
 rw[H6 h h]
 have hn:i.natAbs<2 ^ 64:=aB
 by_cases h0:i.natAbs=0
 ·rw[h0];decide
 ·exact agA ((Nat.log2_lt h0).mpr hn) a_
def yu{v:Expr}(hv:Ji v)(h:Uo X aG es ps)(he:agW (aBG v (-1) none pos::es)=mS (aBG v (-1) none pos)::agW es:=by rfl):Uo X aG (aBG v (-1) none pos::es) (some d::ps):=⟨λpins s σ H Q acc n I hw hl hn=>by
 rw[he];rw[zE]at hl;rw[XW (FormattedValue_plain ?_) S M w hw];refine nR (hv.out pins s σ H (tK (∃i,x=η i/\Û i/\yM X.K anP aG (n6 ps) σ H1 Q)) I ⟨ι,S,M,ρ,aq,sl,xQ⟩) u ⟨x,H1,aH,rx,i,ex,hs,q⟩
 ·cases x with
  |int i=>
   dsimp only at w1;split at w1
   ·rename_i hs;exact⟨i,Ql,hs,ι1,bg,aa,ρ,s1,ny,w1⟩
   ·rw[nB]
  |_=>rw[nB]
 ·subst ex;rw[r_ rx];have aQv:=aWI hs
  rw[kB hlen (iF (ag5 i) 1921) (by rw[au PySem.ofString_length (int_text_length_le a_ aQv)]) e1 (cC (acc++ag5 i)=at6 (cC (ag5 i))) (strLen_append _ _) (formatField_int_small aQv (Yi (ag5 i) ?_))]
  ·rw[e1,sizeLine_eq];omega
  ·exact h.out pins _ σ H1 Q (acc++ag5 i) n (aH.tok _) q (by rw[nQ e1]) hn⟩
def a0w aOA(h:Uo X aG (v₁::aut) ps)(hp:Ex:=by decide):gN (.JoinedStr (v₁::aut) pos) (r6 (yM X.K anP aG (n6 ps) σ H (cK H' (∀z,nD (av z))))):=by
 intro pins s σ H Q I hw
 refine wpAny_JoinedStr ?_;have:=h.out pins s σ H _ Str.empty 1000000 I hw (by rw[xP (Str.empty.length=0) rfl]) fh
 rw[cV mono (∀(parts:EY ahx)(acc:Str)kP(anJ anK:Str->Bt),(∀o s,anJ o s->anK o s)->Joins (model X.prog X.w) X.A X.sS parts acc anJ s->Joins (model X.prog X.w) X.A X.sS parts acc anK s) (by
  intro parts
  induction parts with
  |nil=>intro acc s anJ anK hq h;exact hq _ _ h
  |cons p r ih=>
   intro acc s anJ anK hq h;exact xM h v s1 y t e1 e2 e3 ⟨y,t,e1,e2,ih _ _ _ _ hq e3⟩) (mono _ _ _ _ _ (cM o s1 ⟨h1,H',aH,q⟩) this)];refine⟨by rw[nQ sizeLine_eq],av o,H',aH.tok _,jD,q o⟩
universe zE
abbrev j7 nk(ps:z4 bz):c6:=Nx M (n6 ps ρ M).out _ (bP C ρ aa)
abbrev aym nk KW:c6:=Nx M (ve).out _ (bP C ρ aa)
section
variable {P:Program}{w:World}{K:ff}{mg:Str->gK}{base:Heap}{N:gM}{qual:Str}{scope:Scope}{f:Addr}{cd:Value}{A:Around}{outer:D?}{s:Shared}{H:aR}{E:d8}{x:Str}{C:Addr}{np dc pos a50:Pos}{k:Nat}
def NL aOA{ps:z4 bz}azv azR(h:Uo (sQ (lG P w) P w K mg base N qual scope f cd A outer s H E) (λ_=>E) (v₁::aut) ps)
  aMZ(hp:Ex:=by decide)K3:
  ay2 (sQ (lG P w) P w K mg base N qual scope f cd A outer s H E) (λ_=>E) (.Raise (aT (xg (di x np) [.JoinedStr (v₁::aut) a50] [] dc)) none pos) (j7 C ps):=⟨by
 rw[Yg (aIv M hr.hd hg (va (a0w h hp) aeB) hd) D H h S M w' h ⟨ι,S,M,ρ,aq,sl,m5.res (dg:=anP) sl w' λι1 bg aa H1 x v e1 s1 r1 w1=>?_⟩];intro z
 rw[b4 (by show jy 1;rw[asO]) (HC σ ny)]⟩
def aXY{e₀:Expr}{rest:dI}zc azv azR(h:anV (sQ (lG P w) P w K mg base N qual scope f cd A outer s H E) (λ_=>E) Su ds)
  aMZ(hn:ā 1000:=by decide)K3
  aNP
  aNp:
  ay2 (sQ (lG P w) P w K mg base N qual scope f cd A outer s H E) (λ_=>E) (.Raise (aT (xg (di x np) Su [] dc)) none pos) (aym C ds):=⟨by
 rw[Yg (aIv M hr.hd hg h.out hd he i8) D H h S M w' h ⟨ι,S,M,ρ,aq,sl,m5.res (dg:=BW K) sl w' λι1 bg aa H1 x v e1 s1 r1 w1=>?_⟩]
 rw[b4 (by rw[←kU r1.1,r1.2];exact asb (aH3 hn)) (HC σ ny)]⟩
universe zE
universe L2
universe zE
end
mutual
section
namespace L2
open PySem PySem.Spec PyProof.Rows
def Inv.aJs Pa afJ Bq GX w4 afv
  aNy(kf:HH b (∃o,zf=cv))(new:QO (xw (aW vs)) h' s.heap.objs.size (aW vs)):
  X! (xw (aW vs)) s h':=by
 rw[bM hp aPk Nc OV (∀b u,H b=dG->b∉fp) (λb u e z=>by rw[(hf b z).1]at e;cases e)]
 rw[cV np (∀b o,kr->ð b) (λb o e=>oK mE) (I.step (g':=s.gens) (d':=s.drawn) (ch:=fp) oX (λb o _ _ hc e _=>k b o hc e) (λb o _ _ hc e _=>aDU (k b o hc e)) (λb o hc e n=>by rw[gY (np b o e) n])
  (λb o hc e=>⟨o,k b o hc e⟩) (v3 b e (by rw[gY (cq e hp) e])) (λb o u e=>by rw[gY (cq e hp) e]) (abY b ps e (by rw[kR (cq e hp),e];simp)) (dB m hm) (U8 u e) I.bare)]
 ·obtain⟨f0,f1,f2,f3,f4,lz⟩:=hf b hb;exact⟨f3,f1,f4,lz⟩
 ·rw[vc o es ep ho hm o es ep (k _ o (cP ((hf _ z).2.1 rfl)) ho) r]
 ·rw[vt (b=s.heap.objs.size)]
  ·rw[RG e];cases e;exact new
  ·rw[Xm E7 e ((MW u e).xi (λc v hc q=>k c v ?_ q) (λc q=>by rw[JQ hp]) (v3 c q (by rw[JQ hp])))]
   rcases hc with z | z
   ·rw[au z (OV b u e)]
   ·exact OV c _ z
def Inv.aJt Pa afJ Bq GX afv
  aNy:ah7 s h' t':=by
 rw[cV OV (∀b u,H b=dG->b∉fp) (λb u e z=>by rw[(hf b z).1]at e;cases e) (I.step (g':=s.gens) (d':=s.drawn) (ch:=fp) oX (λb o _ _ hc e _=>k b o hc e) (λb o _ _ hc e _=>aDU (k b o hc e)) (λb o hc e n=>n)
  (λb o hc e=>⟨o,k b o hc e⟩) (v3 b e e) (λb o u e=>e) (abY b ps e (by rw[fk e])) (dB m hm) (U8 u e) I.bare)]
 ·obtain⟨f0,f1,f2,f3,f4,lz⟩:=hf b hb;exact⟨f3,f1,f4,lz⟩
 ·rw[vc o es ep ho hm o es ep (k _ o (cP ((hf _ z).2.1 rfl)) ho) r]
 ·refine(MW u e).xi (λc v hc q=>k c v ?_ q) (λc q=>q) (v3 c q q);rcases hc with z | z
  ·rw[au z (OV b u e)]
  ·exact OV c _ z
abbrev ayf dz rE:It:=
 abq i H (∃xs x,JR/\zu) i H v (∃p,sq/\v=Δ p/\∀xs,JR->∃x,zu/\H'=abJ p [η i,x]) i H xs (JR/\SU i)
def aWJ DX{elts:dI}{x1}{Gm:Pos}(a e it:Addr)(aS:e≠it):
  Turn P w K (MT elts x1 Gm) (ayf K a) [e,it] e (λi h=>∃old,IsEnum h e it (i:Nat) old/\h.IsListIter it a i) where
 mem:=Θ
 obj:=λi h ⟨old,he,kN⟩ b hb=>by
  rcases arc with rfl | hb
  ·rw[Ci he (λv z=>by cases z)]
  ·rw[zU eb (b=it) eb]
   rw[rX o e c d kN ⟨o,e,λv z=>by rw[d]at z;cases z⟩]
 keep:=λi h h' ⟨old,he,kN⟩ k=>⟨old,k e Θ _ he,kN.at λo q=>k it Θ o q⟩
 item:=by
  intro X hP hw hK hc i pins s σ H E I hf st hg
  subst hP hw hK
  obtain⟨old,he,kN⟩:=st;obtain⟨xs,x,hq,hx⟩:=hg
  rw[IP rv p];rw[z8 u hu cQ (rv.get hx) (wpAny_pyNext_enum_item he kN p.isList (x:=u) (aX hu) aS λh1 aE3 aQw ht1 A7 k1=>h! _ (wpAny_letOwnedTupleGo_enum aE3 (cM h2 acE aFV)))];rw[iA OL (VX e) (Heap.lt_size he) Uc (aDa e h1) aFV aFa (aO aP7 (Ia Jc (oZ #[η i s.toks,u]))) (HT Uc _ aL1 ht1) aH (kH (xw (aW [η i,x])) (BS s h2 (Wv 1))) (by
   refine I.aJs (fp:=[e,it]) hf (ym hb q) oX ?_
   ·rw[M4 n1 (b≠e) (cP (hb (aK z))) n2 (b≠it) z (hb (aK z))];exact PA Uc n1 (k1 b o n1 n2 q)
   ·rcases arc with rfl | hb
    ·rw[ie acE]
    ·rw[zU eb (b=it) eb]
     obtain⟨o,q,_⟩:=aQw;rw[b4 o (PA Uc ć q)]
   ·exact⟨by show jy 2;rw[asO],[η i s.toks,u],bW jD (bW cQ c_),kX _ aFa _ rfl⟩)]
  have hp:=VI ap9;refine⟨zB,_,aH,rfl,yh s.heap.objs.size hp (λys hy=>jc x (by rw[au (I.aw4 hy hq) hx])),⟨u,?_,?_⟩,oX⟩
  ·have:iX (i+1)=aU i+1:=by push_cast;rfl
   rw[au this acE]
  ·exact aQw.at λo q=>HT Uc it ć q
  ·have:ð b:=by
    rcases arc with rfl | hb
    ·exact aL0
    ·rw[zU eb (b=it) eb]
     obtain⟨o,q,_⟩:=kN;exact aho q
   rw[gx (kR this) (Iv b).1]
 done:=by
  rw[Ag i s H E I];rw[Le old he kN st xs hq hx hg];rw[IP rv p];rw[cW hl rv.length (wpAny_pyNext_enum_end (I.ok.hd hc) he kN p.isList (by rw[f9]) λh' eb=>j3 ?_)];exact I.aJt (t':=s.toks) (fp:=[e,it]) hf (Q7 b o q b o (cP (hb (aK z))) q)
 self:=λ_ _ _ _ _ ⟨old,he,kN⟩ h=>aPh h
section
variable {X:bV}{aG:St->d8}{a:Expr}{d:bz}{pos p Gm:Pos}{elts:dI}{x1:Nat}
abbrev J9 uW:fK:=(xs.zipIdx).map λq=>aW [η q.2,q.1]
def aWK d9 gV{y:ak}(h:jl (J9 xs) y):∃x,zu/\y=aW [η i,x]:=by
 rw[nN J9];rw[g_,List.getElem?_zipIdx]at h;cases e:xs[i]? with
 |none=>rw[e]at h;cases h
 |some x=>rw[e]at h;cases h;exact h! x Θ
abbrev als l?:rj:=lY (dH).bind (match x with
 |ς xs=>.ok (RN (J9 xs)) aa
 |ο n=>match aa[n]? with
  |h7=>.ok (J9 xs,akO xs) aa
  |_=>aF
 |_=>aF)
def aHv jv{q:Addr}d9 aM0:aiY K (ayf K q) (J9 xs) w S:=by
 intro i ι' S' M' H' up aq hc;rw[x9 vs hq rs (h ι' S' M' H' up aq hc) ⟨dB y hy,λhl=>⟨vs,hq,by rw[←rs.length];simpa[J9] using hl⟩⟩];obtain⟨x,hx,rfl⟩:=aWK hy;rw[x9 v hv r (rs.get hx) ⟨⟨vs,v,hq,hv⟩,cM u H2 y⟩];obtain⟨p,hp,rfl,y⟩:=y;rw[atf z hz rfl (y vs hq) hv hz];cases hz;rw[Cc s2 e2 (aie (aW [η i,v]) hp) ⟨ι',_,e2,s2,ė p _ g8 (bW E2 (.one (r.mono e2)))⟩]
def aJu(h:Ji a)(hm:agG "enumerate")(hg:OA X "enumerate" :=by rfl)aop:Z! X aG (MT elts x1 Gm) (xg (di "enumerate" p) [a] [] pos) (als d):=⟨by
 intro pins s σ H R I hw
 rw[EI S M ρ aq sl w hw];rw[cV l6 (qo X [a] (aeR (Fz zR d) an1)) (va h.out aeB (by rw[cU hs])) (VN (aen I hg hm (u:=d5 "enumerate") (by first | rfl | decide) ?_ a_ a_))]
 refine ap8 (nR (l6 pos pins s σ H (vh vs (∃q,vs=[Δ q]/\(∃xs,iI X.K H1 q xs)/\R (ayf X.K q) H1)) I ?_) us ⟨vs,H1,aH,r1,q,ev,⟨xs,hq⟩,k⟩) (by rw[cU hs]) rfl
 ·refine⟨ι,S,M,ρ,aq,sl,xQ⟩;cases x with
  |lst xs=>
   rw[agZ q vs ir rs r1];refine aiN q (.of (atz _ _)) (aHv (abk b8 M2 H2 up s2 _));rw[b5 vs (.of (aiZ _ (Xv _ ir))) (rs.up up)]
  |obj n=>
   rw[iB q ei (bp.ft.mp r1)];obtain⟨o,eM,mo⟩:=s1.addr ei;simp only[eM]at w1;cases o with
   |lst xs=>
    rw[Vw aI rs mo];refine aiN q (.of aI) (aHv (abk b8 M2 H2 up s2 hc));obtain⟨_,amB,rm,O2⟩:=s2.ob n q _ (up.ix _ _ ei) hc;rw[b5 amB (.of rm) O2]
   |_=>rw[nB]
  |_=>rw[nB]
 ·subst ev;rw[Hz u cQ r1];cases cQ;rw[x! rv pl hz (aH.list hq)];rw[gp (call_enumerate_list pl.isList (lV h' he kN hsz kp)) (aPh ?_)];rw[cH hp (agp (Nat.le_refl s1.heap.objs.size)) hp1 (agp (Nat.le_succ s1.heap.objs.size))];refine⟨aqL 1,[aqL 1,s1.heap.objs.size],_,_,H1,rfl,aH.kept (t':=s1.toks) kp,aWJ q _ _ aMs,⟨cT,he,kN⟩,oX,k⟩;rcases arc with rfl | hb
  ·exact aH.Kc Ie hp1
  ·have eb:b=s1.heap.objs.size:=EK
   rw[f7 eb (aH.Kc fh hp)]⟩
universe zE
universe L2
universe zE
section
namespace L2
open PySem PySem.Spec PyProof.Rows
abbrev aJv(scope sc:Scope)(aob N:gM)O9:Bool:=
 gS scope.kind Il&&aBZ (λy=>!(y.2 == oR))&&aBZ (λy=>!(y.2 == xE)||(scope.names.lookup y.1 == some xE)) &&
 aBZ (λy=>!(y.2 == k!)||(aCx y.1 ķ)||(aCx y.1 (some k!)))&&gS gg.length N.length &&
 (List.range N.length).all λj=>match N[j]?,gg[j]? with
  |g7,G! i=>(aob[i]? == g7)&&scope.names.any (λy=>y.1 == x&&y.2 == k!)&&(scope.names.lookup x == some k!)
  |_,_=>true
def alb.of nq{scope sc:Scope}(aob N:gM)O9(hX:X.N=aob)(hk:∀x,aMe=aAx)(h:aL (aJv scope sc aob N gg)):apu X N:=by
 subst hX;rw[nN aJv];rw[aBq h];obtain⟨⟨⟨⟨⟨h1,h2⟩,h3⟩,h4⟩,h5⟩,h6⟩:=h;refine⟨aA9,cM y hy e,cM y hy e,cM y hy e,of_decide_eq_true h5,lV j x i e1 e2⟩
 ·rw[aqW h2 y hy];rw[nG e this this]
 ·rw[aqW h3 y hy];rw[e]at this;simpa using this
 ·rw[aqW h4 y hy];rw[e]at this;rw[hk];simpa[or_comm] using this
 ·have hj:j<N.length:=(List.getElem?_eq_some_iff.mp e1).1;rw[aqW h6 j (List.mem_range.mpr hj)];rw[e1,e2]at this;simp only[Bool.and_eq_true,beq_iff_eq,List.any_eq_true]at this;obtain⟨⟨a1,⟨y,a2,a3⟩⟩,a4⟩:=this;rw[b5 a1 (by rw[Ms a3.1 a3.2 a2]) a4]
abbrev ayn(scope sc:Scope):Scope:={ scope with names:=scope.names.map fun(n,k)=>Vt (xu&&aCx n ķ) n (n,k)}
def aWL nq{scope sc:Scope}{N:gM}qu GX nj iM(hk:∀x,aMe=aAx)(hf:X.env.scope.kind=Il)nr:
  (wm X scope N C fp s H).env.kindOf x=(asR (ayn scope sc)) x:=by
 show(asR auG) x=_;unfold relabel ayn;simp only[hk,hf];simp only[BZ (g5 (ScopeKind.function == ScopeKind.function)),Bool.and_true]
section
variable {X:bV}{aG:St->d8}{a b c e o:Expr}{es:dI}{da db o6 d gf:bz}{ds:tu}{pos pos' apos dc:Pos}
abbrev AJ l?:bz:=lY (dH).bind (match x with
 |η i=>.ok (η (-i)) aa
 |_=>aF)
def ZL O_:yk auR .USub a (AJ da):=⟨by
 rw[C! (a3y a1x ha.out)];cases x with
 |int i=>rw[b5 i Ql (Cx E2)]
 |_=>rw[nB]⟩
def aIz Pa KM ck{ys:fK}w4{aC:b3}wY qs aoY{cN:asz}s_ bX(aq:gq X.K ι S M H)
  (rs:bJ X.K ι S ys vs)(rv:Ü vs)(px:bp X.K ι S x v)(rx:nW)(e1:aO (Fa x) d)(e2:aO (N2 akg ys) cN):
  (∀y,y∈aC.toArray->SeqAt.EqAt X.A.in1 s y u (aif (ï y) d))/\aC.map (λy=>ï y)=cN:=by
 rw[aqa as a1 a2 a3 (aaP aq x v u d px rx e1) bs b1 b2 acm (adO (nz aq I.dy deep) ys vs aC cN rs rv e2)]
 have a6r:ReadsAll s.heap aC.toArray.toList cN bs:=aX b1
 rw[fF (SeqAt.items_eqAt a6r a1 b2 a2 (by have:=aQa aCp;rw[xP (ajv 10) a3])) ?_];exact SeqAt.readsAll_map cN aC bs b2 b1
abbrev countP:yS:=λx as M=>match as with
 |[y]=>match Fd,Fa y with
  |qD,some d=>match sd akg with
   |some cN=>.ok (η (cN.countP (zj q q d))) M
   |none=>aF
  |_,_=>aF
 |_=>aF
def aGK s_:wL X "list.count" (Ss countP):=by
 intro pins s σ H x xs v us Q I rx rs h;rw[Jw p ps r rr countP];split at w
 ·rw[QK z rr.yE];rw[Hz u cQ rs];split at w
  ·rename_i ys d h1 h2;split at w
   ·rename_i cN h3;rw[dJ l vs aI rl (il aq r h1)];cases rx;rw[x! rv pl hz (I.list (.of aI))];obtain⟨aE,aV⟩:=aIz hu I aq rl rv r1 cQ h2 h3
    obtain⟨⟨cls,dd,data,sl⟩,n,ho,hc,aE1,hd⟩:=id pl;simp only at hc hd aE1;subst hc hd;rw[kD (call_meets PySem.F.slot_list_count pl.isList.typeIs PySem.F.entry_list_count (PySem.F.args_list_count_2 _ _) (SeqAt.list_countAt l _ n dd sl u _) ⟨ho,aE,?_⟩) e ((List.countP (zj y (ï y) d) aC.toArray.toList:Nat)=cN.countP (zj q q d)) (by
     rw[←aV,List.countP_map];rfl)]
    rw[gx e (Q_ (η _) H Jm)]
   ·rw[cX]
  ·rw[cX]
 ·rw[cX]
abbrev J3:yS:=λx as M=>match as with
 |[y]=>match Fd,Fa y with
  |qD,some d=>match sd akg with
   |some cN=>match cN.findIdx? (zj q q d) with
    |some j=>.ok (η j) M
    |none=>aF
   |none=>aF
  |_,_=>aF
 |_=>aF
def aGL s_:wL X "list.index" (Ss J3):=by
 intro pins s σ H x xs v us Q I rx rs h;rw[Jw p ps r rr J3];split at w
 ·rw[QK z rr.yE];rw[Hz u cQ rs];split at w
  ·rename_i ys d h1 h2;split at w
   ·rename_i cN h3;split at w
    ·rename_i j h4;rw[dJ l vs aI rl (il aq r h1)];cases rx;rw[x! rv pl hz (I.list (.of aI))];obtain⟨aE,aV⟩:=aIz hu I aq rl rv r1 cQ h2 h3
     obtain⟨⟨cls,dd,data,sl⟩,n,ho,hc,aE1,hd⟩:=id pl;simp only at hc hd aE1;subst hc hd;rw[B5 hj ht hno (List.findIdx?_eq_some_iff_getElem.mp h4) hlen (aC.length=cN.length) (by rw[ū aV])]
     rw[nE A8 rv.length at' (∀(m:Nat)(h:m<aC.length),aif (ï aC[m]) d=aif (cN[m]' aB) d) (λm h=>by
      have:zP cN m (ï aC[m]):=by rw[←aV,g_,List.getElem?_eq_getElem h];rfl
      rw[List.getElem?_eq_getElem aB]at this;rw[Option.some.inj this]) (call_meets PySem.F.slot_list_index pl.isList.typeIs PySem.F.entry_list_index (PySem.F.args_list_index_2 _ _) (SeqAt.list_indexAt l _ n dd sl u (zj y (ï y) d) j (U0 hlen hj) ?_ ?_ ?_) ⟨ho,aE,?_⟩)]
     ·rw[e9 sizeLine_eq]
     ·simp only[List.getElem_toArray];rw[au (at' j aB) ht]
     ·intro m hm fq;rw[r3 List.getElem_toArray (at' m (aX hm))];simpa using hno m fq
     ·exact Q_ (η _) H Jm
    ·rw[cX]
   ·rw[cX]
  ·rw[cX]
 ·rw[cX]
universe zE
def cm:PN "len" gy "len":=ez
def a0x:PN "max" gy "max":=ez
def aJw:PN "min" gy "min":=ez
def aJx:PN "any" gy "any":=ez
def a7w:PN "list" d5 "list":=ez
def aWM:PN "tuple" d5 "tuple":=ez
def aJy:PN "int" d5 "int":=ez
universe L2
universe zE
section
namespace L2
open PySem PySem.Spec PyProof.Rows
structure N1 UM wZ:Prop where
 cl:Mo K C
 no:ZJ K C f
abbrev Dw wZ(v:ak):r9->r9
 |[]=>[(f,v)]
 | (g,x)::r=>Wb (g=f) (g,v) r ((g,x)::Dw f v r)
def o7.lookup jv{fs:r9}{kc:Ce}(h:Ju fs kc)wZ:
  (bO Qj/\bO (kc.lookup f))\/∃x v,Qj=g7/\pS (kc.lookup f)/\jw:=by
 induction h with
 |nil=>exact IZ rfl
 |@cons p q fs kc r t ih=>
  rw[À r1 r2 r p1 p2 p];rw[aq1 aE aV q r1 r2];subst r1;rw[aBE List.lookup_cons];cases e:f == p1 with
  |true=>exact ay (CV p2 aV r2)
  |false=>exact ih
def o7.ou jv{fs:r9}{kc:Ce}(h:Ju fs kc)wZ wY(r:jw):Ju (Dw f x fs) (ou f v kc):=by
 induction h with
 |nil=>exact bW (j3 r) c_
 |@cons p q fs kc r' t ih=>
  rw[À p1 p2 p aE aV q];rw[aq1 r1 r2 r' r1 r2];subst r1;show Ju (Wb (p1=f) (p1,x) fs ((p1,p2)::Dw f x fs)) (Wb (p1=f) (p1,v) kc ((p1,aV)::L2.ou f v kc));rw[Dd p1 f]
  ·rw[er xF xF (bW (j3 r) t)]
  ·rw[er vg vg (bW (j3 r2) ih)]
abbrev GA nk nt dY:yd (Nat×r9):=match x with
 |ο n=>match M[n]? with
  |Â C' fs=>vP C' C (mO n fs) none
  |_=>none
 |_=>none
def J0 qu bk ck{fs:r9}(h:M[n]? = Â C fs):aO (GA C (ο n) M) (n,fs):=f_ GA h
def axO Be wY qu bk{fs:r9}K6(h:aO (GA C x M) (n,fs)):
  ∃a dx kc,v=Δ a/\xe/\H a=aT (dD C dx kc)/\JC/\Ju fs kc:=by
 cases x with
 |obj m=>
  rw[Vi p ei r o eM q ei GA eM h];cases o with
  |ins C' gs=>
   rw[B4];split at h
   ·rename_i ec;cases h;subst ec;rw[G? hS dx kc aI rr q ⟨p,dx,kc,rfl,ei,aI,hS,rr⟩]
   ·cases h
  |_=>cases h
 |_=>cases h
section
variable {X:bV}{aG:St->d8}{a b c e o value:Expr}{es:dI}{da db o6 d dv gf:bz}{ds:tu}{pos pos' apos dc:Pos}{C:Addr}{f:Str}
abbrev lq nk wZ l?:bz:=lY (dH).bind (match GA C x aa with
 |mO _ fs=>ahv Qj aa
 |none=>aF)
def Tc(h:N1 X.K C f)O_(hb:apt a f (mS a)=mS a:=by rfl):yk SJ a f (lq C f da):=⟨by
 rw[MK (a1A ha.out hb) hh hh S M xQ];cases e2:GA C x aa with
 |none=>rw[M0 e2]
 |some p=>
  obtain⟨n,fs⟩:=p
  rw[qT e2 w1 w1];rw[V9 p dx kc ei aI hS rr (axO s1 r1 e2)];rcases rr.lookup f with⟨k1,_⟩ | ⟨y,u,k1,k2,k3⟩
  ·rw[M0 k1]
  ·rw[k1]at w1
   exact⟨p,C,dx,kc,u,rfl,aI,h.cl,h.no,k2,HC u k3⟩⟩
abbrev hG nk wZ(gf dv:bz):c6:=Nx M (dv ρ M).out y ((Eo aa).out ρ λx M2=>match GA C x M2 with
 |mO n fs=>I! agl .nx ρ (M2.set n (dD C (Dw f y fs)))
 |none=>aF)
def acw(h:N1 X.K C f)(ho:ak4 o)(hv:iP value dv)(hs:apC value (aT (SJ o f pos'))=Yy:=by rfl):vW (CT [SJ o f pos'] value pos) (hG C f gf dv):=⟨by
 rw[Yg (a1B ho.out hv.out hs) D H hh S M w hh ⟨ι,S,M,ρ,aq,sl,W! w y u⟩];refine RU (m5.res (dg:=zR) ny w1 λι2 b8 M2 H2 x v e2 s2 r2 w2=>?_);cases e3:GA C x M2 with
 |none=>rw[aim e3 w2]
 |some p=>
  obtain⟨n,fs⟩:=p
  rw[qT e3 w2 w2];split at w2
  ·rw[M8];rw[V9 p dx kc ei aI hS rr (axO s2 r2 e3)];refine⟨p,C,dx,kc,rfl,aI,h.cl,h.no,by rw[cw rr.length hl],?_⟩;rw[eg s3 e4 (s2.put (u:=dD C dx (ou f u kc)) (o:=dD C (Dw f y fs)) ei hS ⟨hS,dx,_,g8,rr.ou f MB⟩) (w2 _ _ _ σ e4 s3 ((abP).mono e4))]
  ·rw[auf]⟩
universe zE
structure uG DW Uz l! nk(m:Str)dh c7:Prop where
 ex:∃f fd ps,rf P w K mg base (lG P w) k f fd ps (Qr K n g)/\Meth K C m f/\Mo K C/\Nq K
structure sU DW Uz l! nr nk dh c7:Prop where
 ex:∃f fd ps,rf P w K mg base (lG P w) k f fd ps (Qr K n g)/\ayE K C f/\mg x=kZ C/\Nq K
section
variable {P:Program}{w:World}{K:ff}{mg:Str->gK}{base:Heap}{C:Addr}{m x:Str}{n:Nat}{g g':D1}
def uG.mono afK aM4 afL:uG P w K mg base k C m n g:=by
 rw[vc f fd ps F F.ex f fd ps ŏ r]
def sU.mono afK aM5 afL:sU P w K mg base k x C n g:=by
 rw[vc f fd ps F F.ex f fd ps ŏ r]
structure aeM UM(m q:Str)apd:Prop where
 ex:∃f fd,Gx K m q st f fd/\Meth K C m f/\Mo K C/\Nq K
structure aeN aam nr nk(q:Str)apd:Prop where
 ex:∃f fd,Gx K "__init__" q st f fd/\ayE K C f/\mg x=kZ C/\Nq K
def uG.of{q:Str}GR O6 ee{d:c6}aON
  aOk:uG P w K mg base (k+1) C m ps.length (Mm d):=by
 rw[WA f fd F hm hc hB D.ex ⟨f,fd,ps,anc F S (hb f),hm,hc,hB⟩]
def sU.of{q:Str}GR O6 ee{d:c6}aOs
  aOk:sU P w K mg base (k+1) x C ps.length (Mm d):=by
 rw[WA f fd F hm hc hB D.ex ⟨f,fd,ps,anc F S (hb f),hm,hc,hB⟩]
universe zE
section
variable {X:bV}{aG:St->d8}{a b c e o:Expr}{es:dI}{da d gf:bz}{ds:tu}{pos apos p:Pos}{C:Addr}{m x:Str}{n k:Nat}{g:D1}
abbrev aej nk(m:Str)c7(gf:bz)KW:bz:=lY (Eo M).bind (match GA C x aa with
 |mO _ fs=>match fs.lookup m with
  |vB=>aF
  |none=>p0 (į aa).bind xs (g (x::xs) M2)
 |none=>aF)
def wq{pl:aAC}(F:uG X.prog X.w X.K X.mg X.base k C m n g)(hr:akV)aaa(ho:ak4 o)(ha:YD (e::es))aOv
  aNI
  aM3:
  MD (Hp m) (e::es) (aej C m g gf ds):=⟨by
 obtain⟨f,fd,ps,F,hm,hc,hb⟩:=F.ex;rw[C! (aYa ho.out hc hm F hr hb c_ G.ps ha.out kL i8 ht)];cases e2:GA C x aa with
 |none=>rw[M0 e2]
 |some q=>
  obtain⟨j,fs⟩:=q
  rw[qT e2 w1 w1];rw[V9 q dx kc ei aI hS rr (axO s1 r1 e2)];rcases rr.lookup m with⟨k1,k2⟩ | ⟨y,u,k1,k2,k3⟩
  ·rw[Xm k1 w1 ⟨q,dx,kc,rfl,aI,k2,ι1,bg,aa,ρ,s1,ny,eN.bind (dg:=BW X.K) w1 λι2 b8 M2 H2 xs vs e3 s2 r2 w2=>?_⟩];rw[gx j? ⟨by rw[zE,←kU r2.1,r2.2,hn],ι2,b8,M2,_,s2,bW (VS e3) r2.1,w2⟩]
  ·rw[M0 k1]⟩
abbrev uk nk c7 KW:bz:=BB (ve).bind xs (p0 (g (XR::xs) (aa++[dD C []])).bind r (match r with
 |.ai=>.ok XR M2
 |_=>aF))
def aHN{fT:sV}aoI{sp:wV}Bk Bo pI Bg w4(M:ayE X.K C f)aow azl(hb:Nq X.K)
  (hx:∀(pins:gr)jR kP aoG,i9->fT X.stack H s E e s'->X.sS e s')bX(r:RZ)
  (h:∀x dx,oP x->oP dx->dx≠x->sp (Δ x::vs) (t8 (qF dx .own x) x (dD C dx [])) (mz v (v=.ai/\Q (Δ x) H2)) E):
  É (Δ C) us (I4 X Q):=by
 rw[cH hq (h iV s.heap.objs.size (VI Ie) Nc (oK aCm)) br (Inv.made (C:=C) I)]
 rw[bM r2 (Iq (V.ref iV::vs) (ag6::us)) (bW rfl r) hl (atn (ag6::us++[])) (by
  rw[gX e r2.length (F.len _ _ _ _ hq) e];rw[au j? e.symm])]
 rw[gX Kq (hb _ (ag6::us) br.rq hl) j? Kq]
 refine asv (aXu (f:=f) I.rq M.makes M.init (beq_iff_eq.mp M.fn) (aqy (F.run _ X.stack _ _ (rV (ag6::us)) (ag6::us) _ _ E (hr.make C us [])
  (br.aQj.make C us []) Kq r2 hq) r s' jP))
 cases r with
 |error e=>exact hx pins _ _ e s' br jP
 |ok fl=>
  cases fl with
  |ret u=>
   obtain⟨v,H',d?,rv,ev,cA⟩:=br.after jP;subst ev;rw[b4 rv (rY (V.ref iV) H' d? cA)]
  |next=>rw[BV jP]
  |brk=>rw[BV jP]
  |cont=>rw[BV jP]
def aHO Be Bk pI pA aaf(r:gO)(hn:vs.length+1=n)
  (w:Fe (p0 (g (e_::xs) (M++[dD C []])).bind r (match r with | .ai=>.ok e_ M2 | _=>aF))):
  ∀x dx,oP x->oP dx->dx≠x->Qr K n g (Δ x::vs) (t8 (qF dx .own x) x (dD C dx [])) (mz v (v=.ai/\Q (Δ x) H2)) E:=by
 intro x dx hx hdx aS;rw[EG s1 e1 (aq.side (o:=.own x) hdx) avv (bO (upd H dx (.own x) x)) (by rw[gY ć hx])]
 rw[Vl hS (s1.TQ avv) s2 e2 (s1.new (u:=dD C dx []) (o:=dD C []) avv ⟨hS,dx,[],g8,c_⟩)];rw[fG aQT ahg hi (asW (ι++[x]) x) (by rw[aDO])]
 refine⟨kn zE hn,ι++[x],S,_,_,s2,bW (VY x hi) (r.mono aQT),eN.bind (dg:=oj K) (w.up aQT) λι1 bg aa H1 y v ex sm rp TV=>?_⟩;cases y with
 |ai=>rw[b4 (bp.alM.mp rp) (TV ι1 bg H1 _ mG sm (VY x (ex.ix _ _ hi)))]
 |_=>exact TV.elim
def aJz(F:sU X.prog X.w X.K X.mg X.base k x C n g)azl aaa aon aOv ao5
  Uy:MD (di x p) (e::es) (uk C g ds):=⟨by
 obtain⟨f,fd,ps,F,M,hm,hb⟩:=F.ex;intro pins s σ H Q I h
 rw[EI S M' ρ aq sl w h];rw[gp (VN (xk I hg hm ?_ Km)) (PySem.W.callWith_K (h₀:=X.base) I.ok.mod.ac4 M.kp (xM (ha.out pos pins s σ H (vh vs (∀x dx,ů x->ů dx->dx≠x->Qr X.K n g (Δ x::vs) (t8 (Jd H1 dx .own x) x (dD C dx [])) (mz v (v=.ai/\Q (Δ x) H2)) (aG σ))) I ?_) us s1 vs H1 aH r q (k7 aH.rq)) he i8)]
 ·refine⟨ι,S,M',ρ,aq,sl,eN.bind (dg:=BW X.K) w λι1 bg aa H1 xs vs e1 s1 r1 w1=>?_⟩;exact aHO s1 r1.1 (by rw[←kU r1.1,r1.2,hn]) w1
 ·exact aHN M F hr hb (PU H s e s' I h (G.ps pins σ H s e s' I h)) aH r q⟩
def aXZ(F:sU X.prog X.w X.K X.mg X.base k x C 1 g)azl aaa(hg:K8:=by rfl)ao5:MD (di x p) [] (uk C g []):=⟨by
 obtain⟨f,fd,ps,F,M,hm,hb⟩:=F.ex;intro pins s σ H Q I h
 rw[EI S M' ρ aq sl w h];rw[M3 (VN (xk I hg hm ?_ Km)) (PySem.W.callWith_K0 I.rq M.kp (aHN (us:=[]) M F hr hb (PU H s e s' I h (G.ps pins σ H s e s' I h)) I c_ (aHO aq c_ rfl w)))]⟩
universe zE
section
variable {X:bV}{aG:St->d8}{a b c e o i value:Expr}{es:dI}{da db o6 d dv d7 gf:bz}{ds:tu}{pos pos' apos dc:Pos}
def set_dict afF:Ud X (λo i v H Q=>∃a H',o=Δ a/\Kd H a i v H'/\Q H'):=by
 intro pins s σ H o i v ov iv u Q I adV adT rv h;rw[dJ p H' g q h];cases adV;exact aWz hu I g adT rv λs' I'=>⟨H',I',q⟩
abbrev Dz(x k y:ak)dY:Option ba:=match x with
 |ο n=>match M[n]? with
  |h7=>match k with
   |η j=>(Vm j).map λm=>q3 n (xs.set m y)
   |_=>none
  |nu .aj=>match jM k with
   |some kk=>aBC (arZ lim) (aT (kC n .aj (j_ kvs kk y)))
   |none=>none
  |nu .jO=>match T3 k with
   |some kk=>aBC (arZ lim) (aT (kC n .jO (j_ kvs kk y)))
   |none=>none
  |_=>none
 |_=>none
def aX0 aza{S H:aR}{M M':ba}{x k y:ak}{v kv u:V}{Q:dZ}K6(rk:zy k kv)(bl:zy y u)(h:aO (Dz x k y M) M')
  (hQ:∀H',gq K ι S M' H'->Jt S H'->Q H'):aLA v kv u H Q\/∃a H',v=Δ a/\Kd H a kv u H'/\Q H':=by
 cases x with
 |obj n=>
  rw[Vi p ei r o eM q ei Dz eM h];cases o with
  |lst xs=>
   rw[B4];cases k with
   |int j=>
    rw[B4];obtain⟨hS,vs,aI,rr⟩:=q;cases e:Vm j with
    |none=>rw[e]at h;cases h
    |some m=>
     rw[e]at h;cases h;rw[eg s2 e2 (aea aq ei hS (rr.set m bl)) (Ω ⟨p,vs,j,m,rfl,bp.NK.mp rk,aI,by rw[cw rr.length e],hQ _ s2 e2⟩)]
   |_=>cases h
  |aj kvs=>
   rw[B4];obtain⟨hS,aJ,aI,rr⟩:=q;cases e:jM k with
   |none=>rw[e]at h;cases h
   |some kk=>
    rw[qT e h h];split at h
    ·rw[M8];cases h;rw[Xe (Tt rk e)];rw[eg s2 e2 (aq.put (u:=.bL (putK aJ kk u)) (o:=.aj (j_ kvs kk y)) ei hS ⟨hS,_,g8,rr.put kk bl⟩) (ay (Cr p (Kd.k aI (by rw[cw rr.length (aeE hl)])) (hQ _ s2 e2)))]
    ·cases h
  |jO kvs=>
   rw[B4];obtain⟨hS,aJ,aI,rr⟩:=q;cases k with
   |tup ks=>
    rw[Fw b ir rs rk];simp only[T3]at h;cases e:N2 jM ks with
    |none=>rw[e]at h;cases h
    |some kk=>
     rw[qT e h h];split at h
     ·rw[M8];cases h;rw[Xe (aws rs e)];rw[eg s2 e2 (aq.put (u:=.dT (putK aJ kk u)) (o:=.jO (j_ kvs kk y)) ei hS ⟨hS,_,g8,rr.put kk bl⟩) (ay (Cr p (Kd.t aI (Ad ir) (by rw[cw rr.length (aeE hl)])) (hQ _ s2 e2)))]
     ·cases h
   |_=>cases h
  |_=>cases h
 |_=>cases h
abbrev lB(gf d7 dv:bz):c6:=Nx M (dv ρ M).out y ((Eo aa).out ρ λx M2=>(d7 ρ M2).out ρ λk bq=>match Dz x k y bq with
 |some dW=>.nx ρ dW
 |none=>aF)
def Ud.or{t t':anZ}(h:Ud X t)(h':Ud X t'):Ud X (λo i v H Q=>t o i v H Q\/t' o i v H Q):=by
 intro pins s σ H o i v ov iv u Q I adV adT rv q;rcases q with q | q
 ·exact h pins s σ H o i v ov iv u Q I adV adT rv q
 ·exact h' pins s σ H o i v ov iv u Q I adV adT rv q
def a6v s_(ho:ak4 o)(hi:iP i d7)(hv:iP value dv)
  (ha:∀v,ark (yf o i pos') v=(do
   let ov ←G8 [v] G3
   let iv ←G8 [v,ov] (mS i)
   standAt pos'
   G8 [v,ov,iv] (setItem ov iv v)
   release [v,ov,iv] []):=by rw[ab6 _])
  (hs:aOV [yf o i pos'] value X.env=Yy:=by rfl)(hw:aOT [yf o i pos'] value=pure none:=by rfl)
  (h1:G4 (Yx [yf o i pos']).map=[acj (yf o i pos')]:=by rfl):vW (CT [yf o i pos'] value pos) (lB gf d7 dv):=⟨by
 rw[Yg (aKm hv.out (a11 ho.out hi.out (set_list.or (set_dict aB)) ha) hs hw h1) D H hh S M w hh ⟨ι,S,M,ρ,aq,sl,W! w y u⟩];refine RU (m5.res (dg:=zR) ny w1 λι2 b8 M2 H2 x v e2 s2 r2 w2=>?_);refine⟨ι2,b8,M2,ρ,s2,abP,m5.res (dg:=zR) abP w2 λι3 uR bq H3 k kv e3 s3 wF w3=>?_⟩;cases e4:Dz x k y bq with
 |none=>rw[bF e4 w3 w3.elim]
 |some dW=>
  rw[bF e4 w3 (aX0 s3 (bp.mono e3 r2) wF (VS Ö) e4 λH' s' e'=>w3 _ _ _ σ e' s' ((sl.mono (e1.trans Ö)).mono e'))]⟩
universe zE
universe L2
universe zE
end
mutual
section
namespace L2
open PySem PySem.Spec PyProof.Rows
abbrev bools:fK->yd xA
 |[]=>some []
 |.ah b::r=>(bools r).map (b::·)
 |_::_=>none
def aHP jv:∀pA{bs:xA},gO->aO (bools xs) bs->vs=aD1
 |[],vs,bs,r,e=>by rw[bJ]at r;subst r;cases e;rfl
 |x::xs,vs,bs,r,e=>by
  rw[dJ v r' h1 h2 r.wz];cases x with
  |ah b=>
   rw[bools]at e;cases e2:bools xs with
   |none=>rw[e2]at e;cases e
   |some cs=>
    rw[e2]at e;cases e;rw[b6,aHP h2 e2,bp.Tg.mp h1]
  |_=>cases e
def awt gC(f:R0)UJ:bools (xs.map λx=>.ah (f x))=aT (xs.map f):=by
 induction xs with
 |nil=>rfl
 |cons x xs ih=>rw[b6,bools,ih];rfl
section
variable {X:bV}{aG:St->d8}{a b c e o:Expr}{es:dI}{da db o6 d gf:bz}{ds:tu}{pos pos' apos dc:Pos}
abbrev aeL:D1:=Aq (match xs with
 |[x]=>match (Fd).bind bools with
  |some bs=>.ok (.ah (bs.all id)) M
  |none=>aF
 |_=>aF)
abbrev OE:D1:=Aq (match xs with
 |[x]=>match (Fd).bind bools with
  |some bs=>.ok (.ah (bs.any id)) M
  |none=>aF
 |_=>aF)
def aX1{bs:xA}{aC:b3}(rv:Ü aD1)iy aaD(h:u? aC.toArray):v=qQ (arv i):=by
 rw[Ć h' (u? aC) (aX h) hl rv.length eP hl]
 have hi:i<bs.length:=by rw[gx hl (List.getElem?_eq_some_iff.mp h').1]
 rw[atf u h1 h2 (rv.get (i:=i) (x:=.ah bs[i]) (by rw[g_,List.getElem?_eq_getElem hi];rfl)) h' h1];cases h1;rw[ap3 hi];exact h2
def Oy{bs:xA}:(List.range bs.length).any (λi=>arv i)=bs.any id:=by
 induction bs with
 |nil=>rfl
 |cons b bs ih=>
  rw[zE,List.range_succ_eq_map,List.any_cons,List.any_map,List.any_cons,←ih];rfl
def a2t Pa{l:Addr}{bs:xA}bX Bc(aI:H l=HR aD1){f:String}{k:Bool}pI
  (call:∀rJ,mC (model X.prog X.w) X.A.in1 (pyIter (Δ l)) (λit s₂=>∃I fp wr n P St tr,it=Δ I/\PySem.Walks X.prog X.w X.A.in1 I fp wr n P St/\St 0 s₂.heap/\TruthOf X.prog X.w X.A.in1 P tr ∧
   n=bs.length/\tr=(λi=>arv i)/\∀h' tk,(∀b o,b∉wr->s₂.heap.get? b=cv->zf=cv)->Q (qQ k) (BS s₂ h' tk)) X.sS s →
   É (gy f) [Δ l] Q)(q:Q (.ah k) H):Ċ (PySem.call (gy f) [Δ l]) X Q:=by
 rw[x! rv pl hz (I.list (.of aI))];rw[Qq (call (aPN pl.isList)) aS (ð l) (by
  obtain⟨o,n,ho,_⟩:=pl;exact aho ho) hlen (aC.toArray.size=bs.length) (by have:=rv.length;rw[Ē];simp[this])]
 refine⟨s.heap.objs.size,_,_,_,_,_,λi=>arv i,rfl,PySem.Walks.list (A:=X.A.in1) (I.ok.hd hc) s.heap.objs.size l aS aC.toArray,⟨Ń _ _,pl.isList.at λo e=>pT e⟩,?_,hlen,rfl,Fv tk hk⟩
 ·intro i v s2 Q' E' hP hQ;have:=aX1 rv i v hP;rw[f7 this (wpAny_truthy_bool hQ)]
 ·refine JL .ah k ?_ q;refine I.kept (t':=tk) λb o e=>hk b o ?_ (pT e);intro hb
  have:b=s.heap.objs.size:=EK
  exact Nat.ne_of_lt mE this
def aHQ Bc:FL "any" (IG OE):=by
 rw[Yh s H Q I rs h];obtain⟨E,ι,S,M,ys,aq,r,w⟩:=h
 rw[B6 OE];split at w
 ·split at w
  ·rename_i x bs hb;rw[QK v r.yE];rw[iB u cQ (vals1 rs)];obtain⟨zs,h1,h2⟩:=Option.bind_eq_some_iff.mp hb;rw[dJ l vs aI rr (il aq r1 h1)];cases cQ;rw[zS (aHP rr h2) aI (a2t I hc aI (λ{Q} h=>call_any_walk (Lw h (λit s2 ⟨aH,fp,wr,n,P,St,tr,e1,e2,e3,e4,e5,e6,sG⟩=>⟨aH,fp,wr,n,P,St,tr,e1,e2,e3,e4,Fv tk hk⟩) _ _ z z)) abU)];subst e5 e6;rw[au Oy (sG h' tk hk)]
  ·rw[cX]
 ·rw[cX]
universe zE
universe L2
universe zE
section
namespace L2
open PySem PySem.Spec PyProof.Rows
abbrev a4f:fK->yd fX
 |[]=>some []
 |η i::r=>(a4f r).map (i::·)
 |_::_=>none
section
variable {X:bV}{aG:St->d8}{a:Expr}{da:bz}{pos:Pos}
abbrev yK:bz:=cK M (.ok e_ (M++[.aj []]))
def ZC:iP (.Dict [] [] pos) yK:=⟨A4.imp aXw λσ H Q h p hp=>by
 rw[EI S M ρ aq sl w h];rw[eg s1 x1 (aq.new (u:=.bL []) (o:=.aj []) hp ⟨aq.TQ hp,[],ek,c_⟩) (w _ _ _ _ x1 s1 (VY p (by rw[←aq.len,aBb fh];simp)))]⟩
universe zE
universe L2
universe zE
section
namespace L2
open PySem PySem.Spec PyProof.Rows
abbrev qg nt dY:yd (Nat×rM):=match x with
 |ο n=>match M[n]? with
  |nu .aj=>Ni
  |_=>none
 |_=>none
def o! bk ck afO GQ:aO (qg (ο n) M) (n,kvs):=f_ qg h
def N3 Be wY Bm K6(h:aO (qg x M) (n,kvs)):
  ∃a aJ,v=Δ a/\xe/\H a=X5 .bL/\JC/\Sh/\x=ο n:=by
 cases x with
 |obj m=>
  rw[Vi p ei r o eM q ei qg eM h];cases o with
  |aj xs=>
   cases h;rw[rX hS aJ aI rk q ⟨p,aJ,rfl,ei,aI,hS,rk,rfl⟩]
  |_=>cases h
 |_=>cases h
section
variable {X:bV}{aG:St->d8}{a b c e f o:Expr}{es:dI}{da db o6 d gf dk dx:bz}{ds:tu}{pos pos' apos dc:Pos}
abbrev aes(gf dk:bz):bz:=lY (Eo M).bind (match yo with
 |vB=>p0 (Iz aa).bind y (match qg x M2,jM y with
  |mO _ kvs,IE=>.ok ((Ep).getD .ai) M2
  |_,_=>aF)
 |none=>aF)
abbrev N8(gf dk dx:bz):bz:=lY (Eo M).bind (match yo with
 |vB=>p0 (Iz aa).bind y ((dx ρ M2).bind λz bq=>match qg x bq,jM y with
  |mO _ kvs,IE=>.ok ((Ep).getD z) bq
  |_,_=>aF)
 |none=>aF)
abbrev J4(gf dk:bz):bz:=lY (Eo M).bind (match yo with
 |vB=>p0 (Iz aa).bind y (match qg x M2,jM y with
  |Ni,IE=>match Ep with
   |qH=>.ok v (JJ n .aj (Gf kvs k))
   |none=>aF
  |_,_=>aF)
 |none=>aF)
abbrev aev(gf dk dx:bz):bz:=lY (Eo M).bind (match yo with
 |vB=>p0 (Iz aa).bind y ((dx ρ M2).bind λz bq=>match qg x bq,jM y with
  |Ni,IE=>match Ep with
   |qH=>.ok v (bq.set n (.aj (Gf kvs k)))
   |none=>.ok z bq
  |_,_=>aF)
 |none=>aF)
def am2 Be wY{q:Nat×rM}K6(h:aO (qg x M) q):∃p,v=Δ p/\Uq H p:=by
 obtain⟨p,aJ,rfl,_,aI,_⟩:=N3 aq r h;exact h! p (FH aJ (Ω aI))
def aJA Be bk uV{ys:rM}{us:qz}aaf aOf(r:Ju ys us):gq K ι S (S? n .aj ys) (qF p .bL us)/\Jt S (qF p .bL us):=
 aq.put hi hS ⟨hS,us,g8,r⟩
def aIM s_ aou(m:aa X o "get" apos e dc:=by exact HQ rfl rfl):Wa auJ [e] dc (aes gf dk):=⟨by
 rw[C! (aXy aB ho.out he.out m)];cases aE:yo with
 |none=>rw[Ye]
 |some q=>
  rw[aE]at w1;rw[iB p hd (am2 s1 r1 aE)];refine⟨p,rfl,hd,ι1,bg,aa,ρ,s1,ny,SR dg w1 ι2 b8 M2 H2 y u e2 s2 r2 w2 ?_⟩;cases aV:qg x M2 with
  |none=>rw[aim aV w2]
  |some qb=>
   obtain⟨n,kvs⟩:=qb;cases cA:jM y with
   |none=>rw[aV,cA]at w2;rw[auf]
   |some k=>
    rw[aV,cA]at w2
    obtain⟨p',aJ,ep,ei,aI,hS,rk,_⟩:=N3 s2 MB aV;cases ep;have fH:=Tt r2 cA;subst fH;rw[d_ _ (.k aI) ?_]
    dsimp only at w2;rcases aiX with⟨z1,z2⟩ | ⟨x',v',z1,z2,rr⟩
    ·rw[z1]at w2;rw[au z2 (w2 ι2 b8 H2 _ mG s2 ī)]
    ·rw[z1]at w2
     rw[au z2 (w2 ι2 b8 H2 _ mG s2 rr)]⟩
def aw2 s_ aou(hf:iP f dx)(m:M2 X o "get" apos e f dc:=by exact HQ rfl rfl):Wa auJ [e,f] dc (N8 gf dk dx):=⟨by
 rw[C! (aXz aB ho.out he.out hf.out m)];cases aE:yo with
 |none=>rw[Ye]
 |some q=>
  rw[aE]at w1;rw[iB p hd (am2 s1 r1 aE)];refine⟨p,rfl,hd,ι1,bg,aa,ρ,s1,ny,SR dg w1 ι2 b8 M2 H2 y u e2 s2 r2 w2 ?_⟩;refine⟨ι2,b8,M2,ρ,s2,abP,SR dg w2 ι3 uR bq H3 z t e3 s3 wF w3 ?_⟩;cases aV:qg x bq with
  |none=>rw[bF aV w3 w3.elim]
  |some qb=>
   obtain⟨n,kvs⟩:=qb;cases cA:jM y with
   |none=>rw[aV,cA]at w3;exact w3.elim
   |some k=>
    rw[aV,cA]at w3
    obtain⟨p',aJ,ep,ei,aI,hS,rk,_⟩:=N3 s3 (VS Ö) aV;cases ep;have fH:=Tt r2 cA;subst fH;rw[d_ _ (.k aI) ?_]
    dsimp only at w3;rcases aiX with⟨z1,z2⟩ | ⟨x',v',z1,z2,rr⟩
    ·rw[z1]at w3;rw[au z2 (w3 ι3 uR H3 _ mG s3 wF)]
    ·rw[z1]at w3
     rw[au z2 (w3 ι3 uR H3 _ mG s3 rr)]⟩
def a7S s_ aou(m:aa X o "pop" apos e dc:=by exact HQ rfl rfl):Wa auK [e] dc (J4 gf dk):=⟨by
 rw[C! (aXi ho.out he.out m)];cases aE:yo with
 |none=>rw[Ye]
 |some q=>
  rw[aE]at w1;rw[iB p hd (am2 s1 r1 aE)];refine⟨p,rfl,hd,ι1,bg,aa,ρ,s1,ny,SR dg w1 ι2 b8 M2 H2 y u e2 s2 r2 w2 ?_⟩;cases aV:qg x M2 with
  |none=>rw[aim aV w2]
  |some qb=>
   obtain⟨n,kvs⟩:=qb;cases cA:jM y with
   |none=>rw[aV,cA]at w2;rw[auf]
   |some k=>
    rw[aV,cA]at w2
    obtain⟨p',aJ,ep,ei,aI,hS,rk,_⟩:=N3 s2 MB aV;cases ep;have fH:=Tt r2 cA;subst fH
    dsimp only at w2;rcases aiX with⟨z1,z2⟩ | ⟨x',v',z1,z2,rr⟩
    ·rw[aim z1 w2]
    ·rw[z1]at w2;refine⟨aJ,k,v',aI,rfl,z2,?_⟩
     rw[eg wG x4 (aJA s2 ei hS (rk.drop k)) (w2 ι2 b8 _ _ x4 wG rr)]⟩
def B1 s_ aou(hf:iP f dx)(m:M2 X o "pop" apos e f dc:=by exact HQ rfl rfl):Wa auK [e,f] dc (aev gf dk dx):=⟨by
 rw[C! (aXj ho.out he.out hf.out m)];cases aE:yo with
 |none=>rw[Ye]
 |some q=>
  rw[aE]at w1;rw[iB p hd (am2 s1 r1 aE)];refine⟨p,rfl,hd,ι1,bg,aa,ρ,s1,ny,SR dg w1 ι2 b8 M2 H2 y u e2 s2 r2 w2 ?_⟩;refine⟨ι2,b8,M2,ρ,s2,abP,SR dg w2 ι3 uR bq H3 z t e3 s3 wF w3 ?_⟩;cases aV:qg x bq with
  |none=>rw[bF aV w3 w3.elim]
  |some qb=>
   obtain⟨n,kvs⟩:=qb;cases cA:jM y with
   |none=>rw[aV,cA]at w3;exact w3.elim
   |some k=>
    rw[aV,cA]at w3
    obtain⟨p',aJ,ep,ei,aI,hS,rk,_⟩:=N3 s3 (VS Ö) aV;cases ep;have fH:=Tt r2 cA;subst fH
    dsimp only at w3;refine⟨aJ,k,aI,rfl,dB v' hv,cJ hv⟩
    ·rcases aiX with⟨z1,z2⟩ | ⟨x',v'',z1,z2,rr⟩
     ·rw[z2]at hv;cases hv
     ·rw[z2]at hv;cases hv;rw[z1]at w3;rw[eg wG x4 (aJA s3 ei hS (rk.drop k)) (w3 ι3 uR _ _ x4 wG rr)]
    ·rcases aiX with⟨z1,z2⟩ | ⟨x',v'',z1,z2,rr⟩
     ·rw[bF z1 w3 (w3 ι3 uR H3 _ mG s3 wF)]
     ·rw[z2]at hv;cases hv⟩
universe zE
universe L2
universe zE
section
namespace L2
open PySem PySem.Spec PyProof.Rows
def gq.aKt Be uV{u:jg}w5(hp:p∉ι)(hS:UR p):gq K ι S M (qW p u):=by
 refine Ŭ o s.len n a o
 ·rw[gY (cq q hS) (Rq o q)]
 ·rw[CA aS (a≠p) (hp (Ls z h1)) ((R_ n a o).up (V6 _ _ h h S) (cP z) (kR aS))]
def aR5:∀(more kvs:qz),gE (kvs.map (·.1)++more.map (·.1))->N! kvs more=kvs++more
 |[],kvs,_=>aK N!
 |p::r,kvs,h=>by
  rw[bM h1 (¬(g5 (aha kv (jZ=p.1)))) (by
   rw[aqM];rintro⟨q,hq,e⟩;rw[bF List.nodup_append h (h.2.2 q.1 (List.mem_map_of_mem hq) p.1 Θ aMh)]) h2 (N! kvs (p::r)=N! (zI p.1 p.2) r) rfl];rw[h2,putK,ahZ,aR5 r _ (aX h)];simp
section
variable {X:bV}{aG:St->d8}{v:Expr}{d:bz}{pos p kp:Pos}{keys:aiy}{values:dI}{AX:Yz bz}
noncomputable abbrev ly nr:Key:=Sum.inr x
abbrev Gn aoL:bz:=BB (EP aCQ M).bind xs (.ok XR (aa++[.aj ((aba q q.1).zip xs)]))
structure anW wX(pos:Pos)(keys:aiy)(values:dI)aoL:Prop where
 out:ae8 X pos keys values (ahr q (amm (av q.1),Fz zR q.2))
def am3:anW X aG pos [] [] []:=⟨aZC⟩
def yF{k:Str}{j}(hv:Ji v)(hr:anW X aG pos keys values AX):anW X aG pos (aT (BE (av k) j kp)::keys) (v::values) ((k,d)::AX):=⟨aXx aKl hv.out hr.out⟩
def aJB kQ agd:∀aoL{ι:c5}aox{Q:gP V V->dZ},u5->Fc →
  eN K (ayO K) (aG σ) ι S H (λvs H'=>nD ((ahr q (V.str q.1)).zip vs)) (EP aCQ M)->am9 (ahr q (amm (av q.1),WZ K aG q.2)) σ H Q
 |[],ι,S,H,M,Q,aq,sl,w=>vp [] c_
 | (k,d)::r,ι,S,H,M,Q,aq,sl,w=>by
  refine⟨ι,S,M,ρ,aq,sl,eN.bind (dg:=oj K) w λι1 bg aa H1 x v e1 s1 r1 w1=>?_⟩;rw[M3 (aJB r s1 ny (eN.bind (dg:=ayO K) w1 λι2 b8 M2 H2 xs vs e2 s2 r2 w2=>?_)) (w2 ι2 b8 H2 (v::vs) mG s2 (bW MB r2))]
def aJC jv:∀{ks:pL}pA,gO->Ju (ks.zip xs) (ks.zip vs)
 |[],xs,vs,_=>c_
 |k::ks,[],vs,h=>by rw[abL bJ h h]
 |k::ks,x::xs,vs,h=>by
  rw[dJ v r h1 h2 h.wz];exact bW (j3 h1) (aJC h2)
def am4(h:anW X aG pos keys values AX)(afb:aL aPO:=by rfl)(hl:keys.length=values.length:=by rfl)(h0:keys≠[]:=by exact aqz _)(aEU:keys.length≤15:=by exact VE)(hk:AX.length≤15:=by exact VE)
  (hn:gE (aba q q.1):=by rw[ö]):yk .Dict keys values (Gn AX):=⟨by
 rw[XW (A4.imp (aZD h.out afb hl h0 aEU) (xX σ H Q hh a ha)) S M w hh];obtain⟨s0,x0⟩:=aq.side (o:=.bL []) ha;rw[lS hai (aq.fresh ha) aEY (aq.TQ ha) (aJB AX s0 sl ?_)];rw[B6 Gn];cases ed:EP aCQ M with
 |bad=>rw[ko ed]
 |exc c M2=>rw[bF ed w (λι2 b8 H2 e2 s2=>w ι2 b8 H2 aD4 s2)]
 |ok xs M2=>
  rw[ed]at w;intro ι2 b8 H2 vs e2 s2 r2;obtain⟨f1,f2,f3⟩:=e2.fr a _ g8 hai aEY
  rw[bM hlen (∀aoL D6,(ahr q (V.str q.1)).zip vs=((aba q q.1).zip vs).map λkv=>(kV jZ,kv.2)) (by
   intro AX
   induction AX with
   |nil=>rw[ab6 vs]
   |cons q r ih=>
    intro vs;cases vs with
    |nil=>rfl
    |cons v vs=>simp only[b6,List.zip_cons_cons,ih vs];rfl) a5H (∀(ks:pL)D6,(gz (ks.zip vs).map).Sublist ks) (by
   intro ks
   induction ks with
   |nil=>intro vs;exact List.Sublist.slnil
   |cons k r ih=>
    intro vs;cases vs with
    |nil=>exact List.nil_sublist _
    |cons v vs=>exact(ih vs).cons₂ k)]
  refine⟨f1,(aba q q.1).zip vs,hlen AX vs,?_,?_⟩
  ·rw[List.length_zip,eP];omega
  ·have fS:xD ((aba q q.1).zip vs).map:=hn.sublist (a5H _ _);rw[aR5 _ _ (aX fS),l5];have s3:gq X.K ι2 b8 M2 (Jd H2 a .bL ((aba q q.1).zip vs)):=s2.aKt f2 f3;rw[nE e3 aD4 wU aLJ (by have:=e3.pre;rw[←this];rw[f9]) (w (ι2++[a]) b8 _ _ ⟨NI n b hb ((Up.push (S:=b8) a).ix n b (e3.ix n b hb)) e3.sm,?_,XU u⟩ (s3.enter f2 ⟨f3,_,g8,aJC r2⟩) (VY a (by rw[ū s2.len])))]
   ·rw[aAA wU e3.pre]
   ·rw[B5 k1 k2 k3 (e3.fr b u aE aV cA) hb (b≠a) (cP (by rw[z,ha]at aE;cases aE))]
    rw[b5 (by rw[au (kR hb) k1]) (f_ k2 hb) k3]⟩
universe zE
universe L2
universe zE
section
namespace L2
open PySem PySem.Spec PySem.Calls PyProof.Rows PySem.W Builtin Builtin.ObjectAttr Builtin.Getset_descriptor
def aUl:G_ (entryFor table "BaseException.__getattribute__") Builtin.«object.__getattribute__» :=
 entryFor_alias (id':= "object.__getattribute__") asf (by first | rfl | rw[ö]) ez asf
def aUm:plainId "BaseException.__getattribute__" = true:=ez
def aUn:G_ (splitId "BaseException.__getattribute__") ("BaseException","__getattribute__"):=ez
def B2:G_ (builtinKind "BaseException.__getattribute__") .slot:=ez
def aU1(self:Value):bindSpecial (aOY gy) self=pure (aOY gy,[self]):=by
 rw[bM h1 (aPd "#opaque" = none) ez h2 (aPd "#data" = none) ez]
 simp only[bindSpecial,typeOf,builtinType,h1,h2,B2];rfl
structure ano UM:Prop where
 ga:x_ (Δ C) "__getattribute__" = aPf gy
 gt:G_ (x_ (Δ C) "__getattr__") none
 cl:x_ (Δ C) "__class__" = aAT gy
 iZ:aBc K I? = aAp gy
 tk:PF (PySem.W.takesIn K I?)
 mo:aCc K C akT
 mb:aCc K C ajE
 ci:Aa (PySem.W.clsIn K C)
section
variable {K:ff}{C e:Addr}{prog:Program}{w:World}{A:Around}{E:iO}{s:Shared}
def aTm afG{M:Model}s9(iw:K.In h):Looks M h (ObjectAttr.find (Δ e) (Δ C) "__class__") (.bind (aqc gy) I?):=by
 rw[HS ZY (aBW M M X.cl) L2 (looks_specialIn (M:=M) iw X.iZ) ayq (looks_takesIn (M:=M) iw X.tk)];exact ZY.andThen (L2.andThen ((show Looks M h (dataDescriptor? (Ţ "object.__class__") (Ţ "getset_descriptor.__get__")) (mO (aqc gy) I?) from ayq.andThen .now).andThen (Looks.tag .now)))
def aU2 afG azc{tp:Value}azu(h:R (.ok (.ret (Δ C))) s):
  L5 mQ A (.call (aqc gy) (rV [I?,Δ e,tp])) R s:=by
 obtain⟨hh,g,dr,t,os⟩:=s;rw[lS ZX (LT mQ) ZY (looks_mroIn (M:=mQ) iw X.mo) (codeAny_call_builtin KF.slot_gs.plain KF.entry_gs (KF.slot_gs.check _ _ _ _ _ _ _ _ KF.type_class (KF.args_gs _ _ _) ?_))];unfold Builtin.«getset_descriptor.__get__» descrGet;rw[iU dga_obj (fC EE)];unfold descrGetter descrCheckInstance descrNameAndClass isInstance;simp only[KF.owner_class]
 repeat lk
 rw[fF (Code.quiet_builtin _ ez) (codeAny_builtin KF.entry_class ?_)];unfold Builtin.«object.__class__» shownTypeOf
 repeat lk
 exact h
def aWN(a b:Value):argsOk "BaseException.__getattribute__" (rV [a,b]):=by
 unfold argsOk
 kernel_rfl
def aWg afG azc{b:Value}Pd(h:Q () s):
  Ff (checkBuiltinCall "BaseException.__getattribute__" (rV [Δ e,b])):=by
 obtain⟨hh,g,dr,t,os⟩:=s;rw[HU ZX (LT mQ) ZY (looks_mroIn (M:=mQ) iw X.mb) aVo (Looks mQ hh (isInstance (Δ e) ajE) true) (ZX.andThen ZY)];simp only[checkBuiltinCall,B2,aUn];refine fC (aVo.at ?_);simp only[Bool.not_true,Bool.false_eq_true,if_false];have ha:=aWN (Δ e) b;cases a5I:Manifest.signature? "BaseException.__getattribute__" with
 |none=>exact SH
 |some sig=>
  simp only[argsOk,a5I]at ha;have h2:aPe sig (rV [Δ e,b])=pure ():=ha;rw[Wf (mC _ _ (aPe sig (rV [Δ e,b])) Q E _) h2 SH]
def aWh afG azc{Q:gK->Bt}(h:ajL (kZ C) s 1):
  Ff (getAttr? (Δ e) "__class__"):=by
 obtain⟨hh,g,dr,t,os⟩:=s;rw[L? ZX (LT mQ) ZY (aBW M mQ X.ga) L2 (aBW M mQ X.gt) ayq (aTm (e:=e) X (M:=mQ) iw)];unfold getAttr? getAttrBy? getAttrBy;rw[asd (fC (wpAny_mkText (fC (wpAny_attempt (wpAny_holding (fC (ZX.at (fC (ZY.at ?_)))))))))]
 rw[vQ (by
  have:u6 (Value.builtin "BaseException.__getattribute__") (Value.builtin "object.__getattribute__"):=a_
  rw[er this Bool.and_false Bool.false_ne_true])]
 unfold getAttrByItsOwn hookBefore;rw[Cv aCP (jB (show aL (onTheHeap (Δ C)) from rfl))]
 rw[gp (L2.at ?_) (fC (wpAny_attempt aLQ))];unfold callGetattribute boundAndCalled;rw[aDJ,aU1];rw[asd (fC EE)];refine asv (codeAny_call_builtin aUm aUl (aWg (s:=⟨hh,g,dr,t+1,os⟩) X iw LT ?_));rw[zY Builtin.«object.__getattribute__» (wpAny_bind (m:=slotArgs "__getattribute__" 1 _) EE)];dsimp only;rw[gp (wpAny_bind (m:=attrName _) EE) (fC (ZX.at ?_))];rw[asd (fC (ayq.at ?_))];show mC _ _ (G8 [Value.builtin "object.__class__"] (call (aqc gy) [I?,Δ e,Δ C]) >>= ret) _ _ _;rw[gp (aqs (asv (aU2 (s:=⟨hh,g,dr,t+1,os⟩) X iw LT ?_))) EE];rw[RO (mC _ _ (handedOut (Δ C)) _ _ _) (Ml SH)]
def aX2 afG:KitX K (Δ e) (Δ C) (λh=>∃ob vs,Ik e ob/\ob.cls=Δ C/\acg (kY vs)) where
 ty:=λ_ _ _ ⟨ob,vs,h1,h2,_⟩=>h2▸(Looks.ld h1).andThen .now
 it:=λ_ _ iw _=>by
  have hc:=X.ci;unfold clsIn at hc;split at hc
  ·rename_i c' d' a6w ro ho;intro A' Q' E' s' k q;unfold isType loadHead;exact fC (wpAny_loadPart (k _ _ (iw _ _ ho)) (wpAny_pure q))
  ·cases hc
 ne:=λh tp dd aC n sl iw htp=>by
  rw[cW hc X.ci (Bool.eq_false_iff.mpr (cJ q))];rw[LO e (C=tp) (Value.ref.inj (beq_iff_eq.mp q)) e];unfold clsIn at hc;split at hc
  ·rename_i c' d' a6w ro ho;have z:=(ajr (iw _ _ ho)) htp;cases z
  ·cases hc
 ca:=λiw ⟨ob,vs,h1,h2,_⟩ k=>aWh X iw (λ_=>h2▸(Looks.ld h1).andThen .now) k
universe zE
universe L2
universe zE
end
mutual
section
namespace L2
open PySem PySem.Spec PyProof.Rows
section
variable {X:bV}{aG:St->d8}{a:Expr}{da:bz}{pos:Pos}
abbrev aei(wd:tV)l?:bz:=lY (dH).bind (match x with
 |ο n=>match aa[n]? with
  |eL bP C=>match wd.lookup C with
   |IE=>.ok (.ah k) aa
   |none=>aF
  |_=>aF
 |_=>aF)
def a2u Pa{p C:Addr}bX(h:H p=aT (OB p C)):∃ob vs,Cd p ob/\ob.cls=Δ C/\acg (kY vs):=
 (show(∃ob vs,Cd p ob/\ob.cls=Δ C/\acg (kY vs))/\_ from WW p h).1
structure OF dz(T:Value)(wd:tV):Prop where
 all:∀C k,arR C k->ano K C/\aO (PySem.W.kitOne K (Δ C) T) k
def aHj{T:V}eS{p q:Pos}qs{wd:tV}(ht:zh T)(hT:OF X.K u wd)(hu:∀u',RelV T u'->u'=u)(h2:Wq (di x q) T)O_(hm1:aBB)(avq:aOX X)
  (he:Eb [a,di x q]=ak3 a::Eb [di x q])(i8:Yu (Yv [di x q]).any):
  MD (di "isinstance" p) [a,di x q] (aei wd da):=⟨by
 rw[bM l6 (qo X [a,di x q] (aeR (Fz zR da) (aeR (amm T) an1))) (va ha.out (va h2 aeB) he) hc (FL "isinstance" (λvs H Q=>∃e C k,vs=[Δ e,T]/\H e=aT (OB e C)/\arR C k/\Q (.ah k) H)) (by
  rw[Yh s H Q I r h];obtain⟨e,C,k,rfl,aI,fH,q⟩:=h;rw[dJ u1 w' r1 r2 (vals2 r)];cases r1;rw[hu _ r2];rw[eg h1 h2 (hT.all C k fH) (PySem.W.kia_one (aX2 h1) I.rq (a2u I aI) h2 (aC7 z) λtk=>JL .ah k lT q)])]
 rw[MK (aIq hc avq hm1 ez l6 a_ a_ he i8) h h S M (SR dg w ι1 bg aa H1 y v e1 s1 r1 w1 ?_)];cases y with
 |obj n=>
  rw[iB p ei (bp.ft.mp r1)];obtain⟨o,eM,q⟩:=s1.addr ei;simp only[eM]at w1;cases o with
  |exc C=>
   dsimp only at w1;split at w1
   ·rename_i k hk;exact⟨p,C,k,rfl,q.2,hk,Cx H7⟩
   ·rw[nB]
  |_=>rw[nB]
 |_=>rw[nB]⟩
def am5 eS{D:Addr}{p q:Pos}(wd:tV)(hT:OF X.K (Δ D) wd)O_(hm1:aBB)(hm2:X.mg x=kZ D)aNg K3
  aMY:
  MD (di "isinstance" p) [a,di x q] (aei wd da):=
 aHj (T:=Δ D) rfl hT (cK h h) (aJH alm hm2 rfl hd) ha hm1 avq he i8
def a0y eS{T:String}{p q:Pos}(wd:tV)(hT:OF X.K (d5 T) wd)O_(hm1:aBB)(hm2:apx x)(hv2:Mb=eL d5 T)aNg
  azO
  aMY:
  MD (di "isinstance" p) [a,di x q] (aei wd da):=
 aHj (T:=.ty T) rfl hT (cK h h) (aZN alm hm2 hv2 (v:=.ty T) rfl hn hd) ha hm1 avq he i8
structure a9D dz(aS4:c5)(wd:tV):Prop where
 all:∀C k,arR C k->ano K C/\aO (PySem.W.kitAny K (Δ C) (aS4.map Value.ref)) k
universe zE
universe L2
universe zE
section
namespace L2
open PySem PySem.Spec PyProof.Rows
section
variable {X:bV}{aG:St->d8}
def aSA:PN "ValueError" d5 "ValueError":=ez
abbrev Go(cs:c5)(yz uy:Nat)(s1:c6):c6:=λρ M=>match Iw M with
 |bP c ρ' M'=>I! (aL (cs.contains c)) .nx ((ρ'.set yz (jx M'.length)).set uy none) (M'++[bP c])
 |o=>o
def Slots.unset jv agd(s:Fc)iy:yg ι S (ρ.set i none) (aiP none):=by
 rw[WO (aK s.1) j x h];rw[Dd i j]
 ·rw[xK e List.getElem?_set_self' h];cases q:ρ[i]? with
  |none=>rw[q]at h;cases h
  |some z=>rw[q]at h;cases h
 ·rw[tP agw h (s.2 j x h)]
structure Catch aam nr(Gh:Addr)(cs:c5):Prop where
 name:mg x=kZ Gh
 all:∀c∈cs,PF (PySem.W.exmOne K (Δ c) (Δ Gh))
def a2v{x n y:Str}{Gh:Addr}{cs:c5}(yz uy:Nat)aND{s1:c6}aaa(hC:Catch X.K X.mg x Gh cs)
  (hb:∀(gi:gr)(T!:iO)UD,ava (ajO gi)->Gs (ajO gi) aG body s1)
  (kL:X.stack=Ź:=by rfl)(Kr:aDm:=by rfl)(hx:K8:=by rfl)(hy:iQ X.N yz y:=by rfl)(alO:ab5 y:=by rfl)(hn:iQ X.N uy n:=by rfl)(ln:ab5 n:=by rfl)
  aNV:
  vW (.Try body [aDp (ach x np) (some n) [CT [di y py] (di n av3) apos] ay1] [] [] pos) (Go cs yz uy s1):=⟨by
 rw[Yg (a2P (P:=X.prog) (w:=X.w) (tb:=λaG=>TM X.K aG s1) rfl rfl kL Kr G.calm G.nd hx hC.name hy alO hn ln (λgi T! aTx hp=>(hb gi T! aTx ⟨G.hu,G.calm,hp,G.nd⟩).out) aKy hdx hdn) D H h S M w h ⟨ι,S,M,ρ,aq,sl,?_⟩];rw[B6 Go];cases e:Iw M with
 |exc c ρ' M'=>
  rw[qT e w w];split at w
  ·rename_i hc;intro ι1 bg H1 σ1 e1 s1' amk;refine pV c (hC.all c (aX hc)) (dB a ha);obtain⟨s2,x2⟩:=s1'.new (u:=OB a c) (o:=bP c) ha ⟨s1'.TQ ha,g8⟩;refine w _ _ _ _ (e1.trans x2) s2 (Slots.unset (Slots.set (amk.mono x2) (VY a (by rw[ū s1'.len])) yz) uy)
  ·rw[cX]
 |nx ρ' M'=>rw[E! w w]
 |eW y M'=>rw[E! w w]
 |j6 ρ' M'=>rw[E! w w]
 |ct ρ' M'=>rw[E! w w]
 |bad=>rw[E! w w]⟩
universe zE
universe L2
universe zE
section
namespace L2
open PySem PySem.Spec PyProof.Rows
abbrev less(S:aR)rE:aR:=MU b b a none (S b)
def a7Y{S:aR}{a b:Addr}(h:b≠a):less S a b=S b:=zH
def aHR{S:aR}jh:bO (less S a a):=ek
def aX3{S:aR}{a b:Addr}{u:jg}(h:less S a b=dG):S b=dG:=by
 rw[nN less];split at h
 ·cases h
 ·exact h
section
variable {K:ff}{ι:c5}{S:aR}{a:Addr}{ob:Obj}{aJ:qz}
def iI.less uV w4 aar(q:iI K S p vs):iI K (less S a) p vs:=by
 rcases q with(q | ⟨o,q⟩) | q
 ·rw[vI aS (p≠a) (cP (by rw[z,ha]at q;cases q)) (Ω (Ω (by rw[P? aS q])))]
 ·rw[vI aS (p≠a) (cP (by rw[z,ha]at q;cases q)) (Ω (o4 o (by rw[P? aS q])))]
 ·exact ay q
mutual
theorem bp.less aar:∀afQ,jw->bp K ι (less S a) x v
 |.ai,v,h=>C3
 |.ah b,v,h=>C3
 |η i,v,h=>C3
 |av x,v,h=>C3
 |ς xs,v,h=>by
  rw[vJ bp];rw[Ĕ p e q r h]
  rw[CA aS (p≠a) (by rw[z,ha]at q;cases q) ⟨p,vs,e,by rw[P? aS q],atW xs vs r⟩]
 |aW xs,v,h=>by
  rw[vJ bp];rw[Ĕ p e q r h]
  rw[CA aS (p≠a) (by rw[z,ha]at q;cases q) ⟨p,vs,e,by rw[P? aS q],atW xs vs r⟩]
 |ο n,v,h=>by
  rw[tP bp h h]
 |.pj ns,v,h=>by
  rw[vJ bp];rw[pN p e q h p e (q.less ha)]
theorem bJ.less aar:∀uW D6,gO->bJ K ι (less S a) xs vs
 |[],vs,h=>U0 bJ h
 |x::xs,vs,h=>by
  rw[vJ bJ];rw[vf v r e h1 h2 h v r e (bp.less ha x v h1) (atW xs r h2)]
end
def o7.less tg{kvs:Sg}{aRE:Ea}aar(h:o7 K ι S kvs aRE):o7 K ι (less S a) kvs aRE:=by
 induction h with
 |nil=>rw[vL]
 |cons r t ih=>exact bW ⟨r.1,bp.less ha _ _ r.2⟩ ih
def N?.AS iM{b:Addr}w6 aar(hb:b≠a)(h:La H b):N? K ι (atA a) (qF a .bL aJ) b o:=by
 rw[bM hn (UR b->bO (L2.less S a b)) (cP (by rw[P? hb z])) hu (upd H a (.bL aJ) b=H b) E7];cases o with
 |gone=>rw[mF u q h u U?]
 |lst xs=>rw[Ny z q r h (hn z) U? (atW _ _ r)]
 |aj xs=>rw[Ny z q r h (hn z) U? atB]
 |jO xs=>rw[Ny z q r h (hn z) U? atB]
 |ij xs=>rw[vc aFo vs z q h aFo vs (by rw[P? hb z]) U? atB]
 |ins C fs=>rw[vc z dx vs q h (hn z) dx vs U? atB]
 |exc C=>rw[mF z q h (hn z) U?]
def gq.AS ck iM Bm w5(hi:xe)(hM:Ef .ij):
  ∃ob aJ,S a=nv .cz .bL/\H a=nv .cz .bL/\gq K ι (atA a) (Ck .aj) (qF a .bL aJ):=by
 obtain⟨ob,aJ,hS,hH,r⟩:=s.ob n a _ hi hM;refine⟨ob,aJ,hS,hH,vG u,ah3,s.nd,lV m b o h1 h2⟩
 ·have hb:b≠a:=cP (by rw[z,aHR]at q;cases q)
  rw[au (kR hb) (Rq u (aX3 q))]
 ·rw[abx (n=m)]
  ·rw[xK hm hi h1];cases h1;have hl:zQ n:=aAo.1;rw[Hi hl h2];cases h2;exact⟨aHR,aJ,g8,r.less hS⟩
  ·rw[HX hm h2];rw[CA aS (b≠a) (hm (s.inj hi (z▸h1))) ((R_ m b o).AS hS aS)]
def Slots.less agd aar(s:Fc):yg ι (atA a) ρ σ:=⟨s.1,λi x h=>by
 rw[RE v (s.2 i x h) v h1 (bp.less ha _ _ h2)]⟩
def Ext.AS{ι0:c5}{e8 H0 H:aR}bk(e:Ext ι0 e8 H0 ι S H)(hi:Sn ι0 a)(h0:bO (e8 a)):Ext ι0 e8 H0 ι (atA a) (qF a .bL aJ):=by
 rw[d_ ⟨e.ix,vG u⟩ e.pre (XU u)]
 ·rw[P? (cq q h0) (e.sm b u q)]
 ·rw[B5 k1 k2 k3 (e.fr b u aE aV cA) hb (b≠a) (cP (aV (Ls z hi)))];rw[b5 (by rw[au (kR hb) k1]) k2 (by rw[P? hb k3])]
def gq.TY ck iM Bm w5(hi:xe)(hM:Ef .aj)(ob:Obj):
  ∃aJ,JC/\H a=X5 .bL/\Sh/\gq K ι (t8 S a (.cz ob (.bL aJ))) (Ck .ij) (qW a (.cz ob (.bL aJ)))/\Jt (t8 S a (.cz ob (.bL aJ))) (qW a (.cz ob (.bL aJ))):=by
 obtain⟨hS,aJ,hH,r⟩:=s.ob n a _ hi hM
 rw[Ð sm (m6 S (t8 S a (.cz ob (.bL aJ)))) (λb u q=>by rw[JQ hS]) up (Up ι S ι (t8 S a (.cz ob (.bL aJ)))) (NI _ _ h h sm) ⟨aJ,hS,hH,r,Ŭ u ah3 m b o,up,List.take_length,XU u⟩]
 ·rw[vt (b=a)]
  ·subst hb;rw[tP g8 q q]
  ·rw[tP E7 q (Rq u q)]
 ·rw[abx (n=m)]
  ·rw[xK hm hi h1];cases h1;have hl:zQ n:=aAo.1;rw[Hi hl h2];cases h2;exact⟨ob,aJ,g8,g8,r.up up⟩
  ·rw[HX hm h2];rw[CA aS (b≠a) (hm (s.inj hi (z▸h1))) ((R_ m b o).up up (cP (by rw[Cn z])) (kR aS))]
 ·rw[Wh aS (b≠a) (cP (aV (Ls z hi))) (by rw[Cn aE]) aV (by rw[Cn cA])]
universe zE
section
variable {X:bV}{pins:gr}{σ:St}{H:aR}{s:Shared}{a:Addr}{ob:Obj}{u:jg}
def Inv.AS bX(h:H a=qU .cz ob u)(hm:∀o v,X.H₀ a≠sf .cz v):kH (qW a u) s:=by
 rw[tD aS (∀b,jX->b≠a) (λb q z=>by rw[z,h]at q;cases q) ⟨I.ok,I.os,I.bare,⟨I.base.keep,I.base.slot,tC o q n hx,I.base.there,vG xs,ym v q,vG ps⟩,I.loc,I.cell,?_,cM x c q,sy,vG o,I.len⟩]
 ·have:=Jz q n hx;rw[Py b this this]
 ·have:=arO b q
  have hb:b≠a:=cP (by rw[z,h]at this;cases this)
  rw[au (kR hb) this]
 ·have hb:b≠a:=cP (by rw[bF z q (hm o v q)])
  rw[au (kR hb) (aij b v q)]
 ·rw[EG m e (arP b q) hb (b≠a) (cP (by rw[z,h]at e;cases e))]
  rw[b4 m (by rw[au (kR hb) e])]
 ·rw[Py _ I.free I.free]
 ·rw[Py _ (Q! c q) (Q! c q)]
 ·rw[pN e n r (I8 hp) e (by rw[Py _ n n]) r]
 ·rw[bM ho (∀c x,H c=zm x->upd H a u c=zm x) (λc x z=>by rw[gY (λy=>by rw[y,h]at z;cases z) z]) ht (∀c xs,H c=vD->upd H a u c=vD) (v3 c z (by rw[gY (λy=>by rw[y,h]at z;cases z) z]))]
  rw[vt (b=a)]
  ·rw[RG q];cases q;exact(show Lb ob/\QO H s.heap b u from MW _ h).2.xi (p5 z z) (λc z=>ho c _ z) ht
  ·rw[E7]at q;exact(MW o q).xi (p5 z z) (λc z=>ho c _ z) ht
def Inv.TY{o:Obj}bX(h:H a=dG)(ho:Cd a o)(h1:∀xs,u≠aW xs)(h2:∀x,u≠.own x)(h3:∀ps,u≠.wd ps)(h4:∀o' v,u≠.cz o' v):kH (qW a (.cz o u)) s:=by
 rw[Ð aS (∀b,jX->b≠a) (λb q z=>by rw[z,h]at q;cases q) a7K (∀{b v},pS (H b)->v≠u->b≠a) (λ{b v} q n z=>by rw[z,h]at q;cases q;exact n rfl) ⟨I.ok,I.os,I.bare,⟨I.base.keep,I.base.slot,tC o q n hx,I.base.there,vG xs,ym v q,vG ps⟩,I.loc,I.cell,?_,cM x c q,sy,vG o',I.len⟩]
 ·have:=Jz q n hx;rw[Py b this this]
 ·have:=arO b q;rw[ahH this (cP (h1 xs z.symm)) this]
 ·have:=aij b v q;rw[ahH this (cP (h4 o v z.symm)) this]
 ·rw[mF m e (arP b q) m (by rw[ahH e (cP (h3 _ z.symm)) e])]
 ·rw[Py _ I.free I.free]
 ·rw[Py _ (Q! c q) (Q! c q)]
 ·rw[pN e n r (I8 hp) e (by rw[Py _ n n]) r]
 ·rw[bM wR (∀c x,H c=zm x->upd H a (.cz o u) c=zm x) (λc x z=>by rw[ahH z (λy=>h2 x y.symm) z]) ht (∀c xs,H c=vD->upd H a (.cz o u) c=vD) (v3 c z (by rw[ahH z (λy=>h1 xs y.symm) z]))]
  rw[vt (b=a)]
  ·rw[RG q];cases q;rw[b4 ho ((MW _ h).xi (p5 z z) (λc z=>wR c _ z) ht)]
  ·rw[E7]at q;exact(MW o' q).xi (p5 z z) (λc z=>wR c _ z) ht
universe zE
universe L2
universe zE
section
namespace L2
open PySem PySem.Spec PyProof.Rows
abbrev aIS rE(ob:Obj):It:=
 abq i H (∃aJ k v,H a=nv .cz .bL/\RY (k,v)) i H x (H'=H/\∀aJ k v,H a=nv .cz .bL->RY (k,v)->x=kV k) i H aJ (H a=nv .cz .bL/\aDB i)
def jQ.get{aJ:qz}{vs:Ġ}(h:jQ aJ vs)gV D5 mj(e:RY (k,v)):∃u,jl vs (k,u)/\nW:=by
 induction h generalizing i with
 |nil=>simp at e
 |cons r t ih=>
  rename_i p q xs ys;cases i with
  |zero=>
   rw[aBo a! e];subst e;obtain⟨aE,aV⟩:=q;rw[Cc rfl r2 r (h! aV r2)]
  |succ i=>
   simp only[bf]at e⊢;exact ih e
def jQ.len{aJ:qz}{vs:Ġ}(h:jQ aJ vs):aJ.length=vs.length:=aLY
def a8L uT iM s9 jh{ob:Obj}{aJ:qz}af6 KU(e:H a=nv .cz .bL)ao3:
  HO a/\∃vs,jQ aJ vs/\h.DictAt (Df P w) a vs ep/\at5:=by
 obtain⟨h1,_,hs,vs,kv,o,es',avh,ho,hx,hd,hr⟩:=(show Ik a ob/\sO P w H h a (.bL aJ) from ok a _ e)
 rw[h1]at ho;cases ho;rw[OJ]at hd;cases hd;refine⟨hs,vs,kv,⟨ob,es,h1,hx,OJ,hr⟩,?_⟩;have:=kU hr.2.1
 simpa using this.symm
def aWi DX afZ{ob:Obj}af6 ao3:R8 P w K (aIS a ob) [it] (λi h=>h.IsKeyIter it a i es.size ep) where
 mem:=Θ
 obj:=λi h st b hb=>by
  rw[zU e (b=it) e]
  rw[rX o e c d st ⟨o,e,λv z=>by rw[d]at z;cases z⟩]
 keep:=λi h h' st k=>by
  rw[pN o e r st o (k it Θ o e) r]
 item:=by
  rw[Ag i s H E I]
  obtain⟨aJ,k,v,aI,hx⟩:=hg;obtain⟨hs,vs,kv,da,hl⟩:=aaR aI OJ
  obtain⟨u,hu,cQ⟩:=kv.get hx;rw[ata hl st];rw[kD (wpAny_pyNext_dict_item st da hu (lV key h' hk l7 sb)) aH (kH H (t_ s)) (ý t' (RC b o e sb e) f0 f1 f3 f4 lz)]
  obtain⟨o,e,c,d⟩:=id l7
  rw[pY rk (RelV (kV k) key) (by
   rcases Dm (show aa3 k key from hk) with⟨i,t,rfl,rfl⟩ | ⟨x,t,rfl,rfl⟩<;>exact kS t) hl l7];exact h! key (ZQ (s:=t_ s) e c d a_ ⟨kV k,H,aH,rk,j3 (λafh k' v' e1 e2=>by rw[aI]at e1;cases e1;rw[hx]at e2;cases e2;rfl),l7,v5 (Iv b).1⟩)
 done:=by
  rw[Ag i s H E I];obtain⟨aJ,aI,hx⟩:=hg;obtain⟨hs,vs,kv,da,hl⟩:=aaR aI OJ;rw[ata hl st];exact wpAny_pyNext_dict_end (I.ok.hd hc) st da (E1 (by rw[cw kv.len hx])) λh' eb=>Ī t' (Q7 b o e b o hb e) f0 f1 f3 f4 lz
 self:=λ_ _ _ _ _ st h=>wpAny_pyIter_keyiter st h
section
variable {X:bV}{aG:St->d8}{cB l iter e:Expr}{tl:TE}{d:bz}{st:Stmt}{s:c6}{d7:rj}
abbrev a2w(tl:TE):TI:=λσ H R=>tl σ H (tK (∃a aJ,x=Δ a/\H1 a=X5 .bL/\∀ob,R (aIS a ob) (t8 H1 a (.cz ob (.bL aJ)))))
def a0z(hl:gN l tl):Ko X cB l (a2w tl):=by
 rw[sx R (ako (hl pins s σ H _ I h) v x)];rw[dJ a aJ aI q aE];cases r1;obtain⟨hz,hs,vs,kv,o,es,ep,ho,hx,hd,hr⟩:=amI aH.dy aI;rw[cV da (s1.heap.DictAt qE a vs ep) ⟨o,es,ho,hx,hd,hr⟩ (wpAny_pyIter_dict hs da ?_)];rw[bM aS (a≠s1.heap.objs.size) (aho ho) br (LR H1 s1 (ahm (d5 "dict_keyiterator") (kY #[Δ a,η 0 0,η vs.length 0,η ep 0]))) (Į t' o e e)];rw[fG d? (br.TY (o:=o) aI (pT ho) (λ_ z=>nomatch z) (λ_ z=>nomatch z) (λ_ z=>nomatch z) (λ_ _ z=>nomatch z)) hl at5 (by have:=kU hr.2.1;simpa using this.symm)]
 rw[vv (aqi ard _ _ _ rfl d? (aWi a _ hd) (yh _ (E0 _) (by rw[cU hl])) oX (q o)) e (b=s1.heap.objs.size) EK]
 rw[f7 e (aH.Kc fh (by rw[gY ć Ry]))]
abbrev yO:Key->ak
 |Ω i=>η i
 |ay x=>av x
def awW jv(k:Key):zy (yO k) (kV k):=by
 cases k with
 |inl i=>exact E2
 |inr x=>exact aME
abbrev ox l?:rj:=lY (dH).bind (match yo with
 |Ni=>.ok (EH q (yO q.1),Lc .ij) (aa.set n (.ij kvs))
 |none=>aF)
def o7.get jv afO{aJ:qz}(h:Sh)gV D5 gW(e:jl kvs (k,x)):∃v,RY (k,v)/\jw:=by
 induction h generalizing i with
 |nil=>simp at e
 |cons r t ih=>
  rename_i p q xs ys;cases i with
  |zero=>
   rw[aBo a! e];subst e;obtain⟨aE,aV⟩:=q;rw[Cc rfl r2 r (h! aV r2)]
  |succ i=>
   simp only[bf]at e⊢;exact ih e
def amD(h:Ji iter):aaQ X aG cB (ox d):=⟨by
 rw[Ņ (a0z h.out) σ H R hh S M w hh ⟨ι,S,M,ρ,aq,sl,xQ⟩];cases aE:yo with
 |none=>rw[Ye]
 |some qb=>
  obtain⟨n,kvs⟩:=qb
  rw[aE]at w1;obtain⟨a,aJ,rfl,ei,aI,hS,rk,rfl⟩:=N3 s1 r1 aE;rw[vv (kX a aJ aI (cJ ob)) eM (aa[n]? = nu .aj) (by
   rw[aCi qg aE aE];split at aE
   ·rename_i z;cases aE;exact z
   ·cases aE)]
  obtain⟨afh,hS',O3,aRT,s2,x2⟩:=s1.TY ei eM ob
  rw[aI]at O3;cases O3;rw[Qq (w1 ι1 _ _ _ x2 s2 λi ι' S' M' H' up kK _=>?_) ir (S' a=nv .cz .bL) (Xv a g8) rm (H' a=nv .cz .bL) (kK.sub a _ ir)]
  rw[WN y hy (λhl=>⟨aJ,rm,by rw[←rk.length];simpa using hl⟩)];rw[g_]at hy;rw[aAz k z hk rfl hy];obtain⟨v,hv,_⟩:=rk.get hk;rw[WO ⟨aJ,k,v,rm,hv⟩ u H2 wJ];rw[Qo wJ wJ];rw[gx (wJ aJ k v rm hv) ⟨ι',S',mG,kK,awW k⟩]⟩
universe zE
abbrev a4g jR(D:Ends):Ends where
 nx:=λσ' H'=>∃a ob u,H' a=qU .cz ob u/\(∀o v,H a≠sf .cz v)/\D.nx σ' (upd H' a u)
 eW:=λv H'=>∃a ob u,H' a=qU .cz ob u/\(∀o v,H a≠sf .cz v)/\D.eW v (upd H' a u)
def ayo Pa jh bX(h:∀o v,H a≠sf .cz v):∀o v,X.H₀ a≠sf .cz v:=λo v z=>h o v (aij a v z)
def a0A nq GR{t:kO}(h:l9 X st t):l9 X st (λD σ H=>t (a4g H D) σ H):=by
 intro pins s σ H D I q;refine Lw (Wd s σ H _ I q) (cM f s1 z) _ _ y y;cases f with
 |next=>
  obtain⟨σ',H',I',a,ob,u,e,nf,z⟩:=z;exact⟨σ',_,I'.AS e (ayo I nf),z⟩
 |brk=>rw[ara z z z.elim]
 |cont=>rw[ara z z z.elim]
 |ret v=>
  obtain⟨v',σ',H',I',r,a,ob,u,e,nf,z⟩:=z;exact⟨v',σ',_,I'.AS e (ayo I nf),r,z⟩
def a0B nq GV{t:TE}(h:Sm t):Sm (r6 (t σ H λv H'=>∃a ob u,H' a=qU .cz ob u/\(∀o v,H a≠sf .cz v)/\Q v (upd H' a u))):=by
 intro pins s σ H Q I q;refine Lw (Wd s σ H _ I q) (cM f s1 z) _ _ y y;obtain⟨v,H',I',r,a,ob,u,e,nf,z⟩:=z;exact⟨v,_,I'.AS e (ayo I nf),r,z⟩
abbrev O4(d7:rj)UG:yd (Nat×rM):=match Sq with
 |.ok r _=>match r.2 with
  |Lc .ij=>match M[n]? with
   |eL .aj _=>Ni
   |_=>none
  |_=>none
 |_=>none
open Classical in
noncomputable def aeY dh afM:Out->Out
 |.nx ρ M=>I! (Ef .ij) .nx ρ (Ck .aj)
 |.eW x M=>I! (Ef .ij) .eW x (Ck .aj)
 |_=>aF
open Classical in
noncomputable def ayL dh afM:lN->lN
 |.ok x M=>I! (Ef .ij) .ok x (Ck .aj)
 |_=>aF
abbrev yL(d7:rj)(s:c6):c6:=λρ M=>match O4 d7 ρ M with
 |Ni=>aeY n kvs (s ρ M)
 |none=>aF
abbrev aew(d7:rj)l?:bz:=λρ M=>match O4 d7 ρ M with
 |Ni=>ayL n kvs dH
 |none=>aF
def aJD D7 pB Bm(h:aO (O4 d7 ρ M) (n,kvs)):∃a5J,M[n]? = eL .aj a5J:=by
 rw[nN O4];split at h
 ·split at h
  ·split at h
   ·rename_i q;cases h;rw[ie q]
   ·cases h
  ·cases h
 ·cases h
def TA af8 GR{s:c6}D7(h:vW st s):vW st (yL d7 s):=⟨by
 rw[Yg (a0A h.out) D H q S M w q ⟨ι,S,M,ρ,aq,sl,?_⟩];rw[B6 yL];cases Dk:O4 d7 ρ M with
 |none=>rw[ko Dk]
 |some qb=>
  obtain⟨n,kvs⟩:=qb;rw[qT Dk w w];obtain⟨a5K,e0⟩:=aJD Dk
  obtain⟨a,hi,avo,a5L,aEX,_⟩:=aq.at e0
  have nf:∀o v,H a≠sf .cz v:=λo v z=>by rw[aEX]at z;cases z
  cases es:s ρ M with
  |nx ρ' M'=>
   rw[es]at w;rw[Qz aeY];split at w
   ·rename_i hM;intro ι' S' H' σ' ex kK ro;rw[G? ob aJ ir aI s2 (kK.AS (ex.ix n a hi) hM) ⟨a,ob,_,aI,nf,w ι' _ _ σ' (ex.AS hi avo) s2 (ro.less ir)⟩]
   ·rw[cX]
  |eW x M'=>
   rw[es]at w;rw[Qz aeY];split at w
   ·rename_i hM;intro ι' S' H' v ex kK r';rw[G? ob aJ ir aI s2 (kK.AS (ex.ix n a hi) hM) ⟨a,ob,_,aI,nf,w ι' _ _ v (ex.AS hi avo) s2 (bp.less ir _ _ r')⟩]
   ·rw[cX]
  |j6 ρ' M'=>rw[ko es]
  |ct ρ' M'=>rw[ko es]
  |exc c ρ' M'=>rw[ko es]
  |bad=>rw[ko es]⟩
def a0C af8 GV fM D7(h:ak2):iP e (aew d7 d):=⟨by
 rw[MK (a0B h.out) q q S M ?_];rw[B6 aew];cases Dk:O4 d7 ρ M with
 |none=>rw[ko Dk]
 |some qb=>
  obtain⟨n,kvs⟩:=qb;rw[qT Dk w w];obtain⟨a5K,e0⟩:=aJD Dk
  obtain⟨a,hi,avo,a5L,aEX,_⟩:=aq.at e0
  have nf:∀o v,H a≠sf .cz v:=λo v z=>by rw[aEX]at z;cases z
  cases es:dH with
  |ok x M'=>
   rw[es]at w;rw[Qz ayL];split at w
   ·rename_i hM;intro ι' S' H' v ex kK r';rw[G? ob aJ ir aI s2 (kK.AS (ex.ix n a hi) hM) ⟨a,ob,_,aI,nf,w ι' _ _ v (ex.AS hi avo) s2 (bp.less ir _ _ r')⟩]
   ·rw[cX]
  |exc c M'=>rw[ko es]
  |bad=>rw[ko es]⟩
universe L2
universe zE
end
mutual
section
namespace L2
open PySem PySem.Spec PyProof.Rows
def a8o:G_ (entryFor table "dict_itemiterator.__iter__") Builtin.«dict_keyiterator.__iter__» :=
 entryFor_alias (id':= "dict_keyiterator.__iter__") asf rfl ez asf
def a79 azU uU{E:iO}nj{it d:Addr}{i n ep:Nat}{ok ov:Value}rJ(kN:IsItemIter s.heap it d i n ep ok ov)(h:Q (Δ it) s):Ff (pyIter (Δ it)):=by
 have hT:aua (Δ it) "dict_itemiterator" :=sj kN;refine wpAny_pyIter_slot hT PySem.F.slot_dict_itemiterator_iter (wpAny_call_entry PySem.F.slot_dict_itemiterator_iter hT a8o ?_ (PySem.F.args_dict_itemiterator_iter_1 _));show pP _ _ (ret (Δ it)) _ _;rw[agJ ⟨_,rfl,"dict_itemiterator",_,hT,PySem.F.slot_dict_itemiterator_next.lookup,h⟩]
abbrev aIR rE(ob:Obj):It:=
 abq i H (∃aJ k v,H a=nv .cz .bL/\RY (k,v)) i H x (∃p,sq/\x=Δ p/\∀aJ k v,H a=nv .cz .bL->RY (k,v)->H'=abJ p [kV k,v]) i H aJ (H a=nv .cz .bL/\aDB i)
abbrev aIU rE(ob:Obj):It:=
 abq i H (∃aJ k v,H a=nv .cz .bL/\RY (k,v)) i H x (H'=H/\∀aJ k v,H a=nv .cz .bL->RY (k,v)->x=v) i H aJ (H a=nv .cz .bL/\aDB i)
def aU3 DX{elts:dI}{x1}{Gm:Pos}(a it:Addr){ob:Obj}af6 ao3:
  Turn P w K (MT elts x1 Gm) (aIR a ob) [it] it (λi h=>∃ok ov,IsItemIter h it a i es.size ep ok ov) where
 mem:=Θ
 obj:=λi h ⟨ok,ov,st⟩ b hb=>by
  rw[zU e (b=it) e];rw[Ci st (λv z=>by cases z)]
 keep:=λi h h' ⟨ok,ov,st⟩ k=>⟨ok,ov,k it Θ _ st⟩
 item:=by
  rw[Ag i s H E I]
  obtain⟨ok,ov,st⟩:=st
  obtain⟨aJ,k,v,aI,hx⟩:=hg;obtain⟨hs,vs,kv,da,hl⟩:=aaR aI OJ
  obtain⟨u,hu,cQ⟩:=kv.get hx;rw[←hl]at st;rw[cV OL (VX it) (Heap.lt_size st) (wpAny_pyNext_items_item st da hu λkey h1 hk aE3 ht1 A7 k1=>h! _ (wpAny_letOwnedTupleGo_items aE3 (cM h2 acE aFV)))];rw[iA Uc (aDa it h1) aFV aFa (aO aP7 (Ia Jc (oZ #[key,u]))) (HT Uc _ aL1 ht1) rk (RelV (kV k) key) (by
   rcases Dm (show aa3 k key from hk) with⟨i,t,rfl,rfl⟩ | ⟨x,t,rfl,rfl⟩<;>exact kS t) aH (LR (xw (aW [kV k,v])) s h2) (by
   refine I.aJs (t':=s.toks) (fp:=[it]) hf (ym hb q) oX ?_
   ·rw[CA n1 (b≠it) (hb (aK z)) (PA Uc n1 (k1 b o n1 q))]
   ·rw[zU eb (b=it) eb];rw[ie acE]
   ·exact⟨by show jy 2;rw[asO],[key,u],bW rk (bW cQ c_),kX _ aFa _ rfl⟩)]
  rw[gX hp (VI ap9) hl acE];refine⟨zB,_,aH,rfl,yh s.heap.objs.size hp (λafh k' v' e1 e2=>by rw[aI]at e1;cases e1;rw[hx]at e2;cases e2;rfl),⟨key,u,acE⟩,oX⟩
  rw[zU eb (b=it) eb];rw[gx (kR aL0) (Iv b).1]
 done:=by
  rw[Ag i s H E I];rw[Le ok ov st st aJ aI hx hg];rw[Ĕ hs kv da hl (aaR aI OJ)];rw[←hl]at st;exact wpAny_pyNext_items_end (I.ok.hd hc) st da (E1 (by rw[cw kv.len hx])) λh' eb=>j3 (I.aJt (t':=s.toks) (fp:=[it]) hf (Q7 b o q b o (cP (hb (aK z))) q))
 self:=λ_ _ _ _ _ ⟨ok,ov,st⟩ h=>a79 st h
def aWj DX afZ{ob:Obj}af6 ao3:R8 P w K (aIU a ob) [it] (λi h=>h.IsValIter it a i es.size ep) where
 mem:=Θ
 obj:=λi h st b hb=>by
  rw[zU e (b=it) e]
  rw[rX o e c d st ⟨o,e,λv z=>by rw[d]at z;cases z⟩]
 keep:=λi h h' st k=>by
  rw[pN o e r st o (k it Θ o e) r]
 item:=by
  rw[Ag i s H E I];obtain⟨aJ,k,v,aI,hx⟩:=hg;obtain⟨hs,vs,kv,da,hl⟩:=aaR aI OJ;obtain⟨u,hu,cQ⟩:=kv.get hx;rw[ata hl st];rw[kD (wpAny_pyNext_values_item st da hu (Fv l7 sb)) aH (kH H (t_ s)) (ý t' (RC b o e sb e) f0 f1 f3 f4 lz)];obtain⟨o,e,c,d⟩:=id l7;rw[hl]at l7;exact h! u (ZQ (s:=t_ s) e c d a_ ⟨v,H,aH,cQ,j3 (λafh k' v' e1 e2=>by rw[aI]at e1;cases e1;rw[hx]at e2;cases e2;rfl),l7,v5 (Iv b).1⟩)
 done:=by
  rw[Ag i s H E I];obtain⟨aJ,aI,hx⟩:=hg;obtain⟨hs,vs,kv,da,hl⟩:=aaR aI OJ;rw[ata hl st];exact wpAny_pyNext_values_end (I.ok.hd hc) st da (E1 (by rw[cw kv.len hx])) λh' eb=>Ī t' (Q7 b o e b o hb e) f0 f1 f3 f4 lz
 self:=λ_ _ _ _ _ st h=>wpAny_pyIter_valiter st h
section
variable {X:bV}{aG:St->d8}{cB o:Expr}{to:TE}{d:bz}{apos dc Gm:Pos}{elts:dI}{x1:Nat}
abbrev aJE(J:Addr->Obj->It)(tl:TE):TI:=λσ H R=>tl σ H (tK (∃a aJ,x=Δ a/\H1 a=X5 .bL/\∀ob,R (J a ob) (t8 H1 a (.cz ob (.bL aJ)))))
def aX4 afy aNr:Ko X (MT elts x1 Gm) (xg (Hp "items") [] [] dc) (aJE aIR to):=by
 rw[aAw s H R I h pf ph (Nm s H _ I h v ⟨x,H1,aH,r1,a,aJ,ex,aI,q⟩)];subst ex;cases r1;obtain⟨hz,hs,vs,kv,o,es,ep,ho,hx,hd,hr⟩:=amI aH.dy aI;have dd:s1.heap.DictOf qE a vs:=⟨o,es,ep,ho,hx,hd,hr⟩;obtain⟨t1,t2,_⟩:=aeo aH (FH aJ (Ω aI))
 refine⟨"dict","dict.items",PySem.F.plainAttrs_dict,PySem.F.slot_dict_items,PySem.F.type_dict_items,t1,t2,aBn rfl ?_⟩;refine call_meetsIn PySem.F.slot_dict_items t1 PySem.F.entry_dict_items (PySem.F.args_dict_items_1 _) (meets_dict_items qE a hs) (k7 (aub dd))
 rw[cV da ((ahm (d5 "dict_items") (kY #[Δ a])).DictAt qE a vs ep) ⟨o,es,pT ho,hx,hd,hr⟩ (wpAny_pyIter_items (v:=s1.heap.objs.size) (Ń _ _) da ?_)];generalize aln:ahm (d5 "dict_items") (kY #[Δ a])=h1
 rw[gv hsz (h1.objs.size=aqL 1) (by rw[←aln,Heap.size_push]) k1 (∀b u,aLG=dG->atr=dG) (λb u e=>by rw[cw aln (pT e)]) br (LR H1 s1 (h1.push (abv (d5 "dict_itemiterator") #[cT,qJ qQ,Δ a,η 0 0,η vs.length 0,η ep 0,cT,cT]))) (Į t' o e (k1 b o e))];rw[pM d? (br.TY (o:=o) aI (pT (k1 a o ho)) (λ_ z=>nomatch z) (λ_ z=>nomatch z) (λ_ z=>nomatch z) (λ_ _ z=>nomatch z)) hl at5 (by have:=kU hr.2.1;simpa using this.symm) aS (a≠h1.objs.size) (oK (by rw[Ŧ (ahl (Heap.lt_size ho))]))];rw[vv ⟨h1.objs.size,[h1.objs.size],_,_,_,rfl,d?,aU3 a _ hd,⟨cT,cT,by rw[cw hl (E0 _)]⟩,oX,q o⟩ e (b=h1.objs.size) EK]
 rw[f7 e (aH.Kc (by rw[Ŧ Ie]) (by rw[gY ć (agp (by rw[Ŧ Ie]))]))]
def a0D afy aNn:Ko X cB (xg (Hp "values") [] [] dc) (aJE aIU to):=by
 rw[aAw s H R I h pf ph (Nm s H _ I h v ⟨x,H1,aH,r1,a,aJ,ex,aI,q⟩)];subst ex;cases r1;obtain⟨hz,hs,vs,kv,o,es,ep,ho,hx,hd,hr⟩:=amI aH.dy aI;have dd:s1.heap.DictOf qE a vs:=⟨o,es,ep,ho,hx,hd,hr⟩;obtain⟨t1,t2,_⟩:=aeo aH (FH aJ (Ω aI))
 refine⟨"dict","dict.values",PySem.F.plainAttrs_dict,PySem.F.slot_dict_values,PySem.F.type_dict_values,t1,t2,aBn rfl ?_⟩;refine call_meetsIn PySem.F.slot_dict_values t1 PySem.F.entry_dict_values (PySem.F.args_dict_values_1 _) (meets_dict_values qE a hs) (k7 (aub dd))
 rw[cV da ((ahm (d5 "dict_values") (kY #[Δ a])).DictAt qE a vs ep) ⟨o,es,pT ho,hx,hd,hr⟩ (wpAny_pyIter_values (v:=s1.heap.objs.size) (Ń _ _) da ?_)];generalize aln:ahm (d5 "dict_values") (kY #[Δ a])=h1
 rw[gv hsz (h1.objs.size=aqL 1) (by rw[←aln,Heap.size_push]) k1 (∀b u,aLG=dG->atr=dG) (λb u e=>by rw[cw aln (pT e)]) br (LR H1 s1 (h1.push (abv (d5 "dict_valueiterator") #[Δ a,η 0 0,η vs.length 0,η ep 0]))) (Į t' o e (k1 b o e))];rw[pM d? (br.TY (o:=o) aI (pT (k1 a o ho)) (λ_ z=>nomatch z) (λ_ z=>nomatch z) (λ_ z=>nomatch z) (λ_ _ z=>nomatch z)) hl at5 (by have:=kU hr.2.1;simpa using this.symm) aS (a≠h1.objs.size) (oK (by rw[Ŧ (ahl (Heap.lt_size ho))]))];rw[vv ⟨h1.objs.size,[h1.objs.size],_,_,_,rfl,d?,aWj a _ hd,yh _ (E0 _) (by rw[cU hl]),oX,q o⟩ e (b=h1.objs.size) EK]
 rw[f7 e (aH.Kc (by rw[Ŧ Ie]) (by rw[gY ć (agp (by rw[Ŧ Ie]))]))]
abbrev N9 l?:rj:=lY (dH).bind (match yo with
 |Ni=>.ok (EH q (aW [yO q.1,q.2]),Lc .ij) (aa.set n (.ij kvs))
 |none=>aF)
abbrev TZ l?:rj:=lY (dH).bind (match yo with
 |Ni=>.ok (EH q q.2,Lc .ij) (aa.set n (.ij kvs))
 |none=>aF)
def aJF{n m:Nat}ck afO(h:aO (qg (ο m) M) (n,kvs)):Ef .aj:=by
 rw[nN qg];rw[B4];split at h
 ·rename_i z;cases h;exact z
 ·cases h
def awX(h:Ji o)aNr:Z! X aG (MT elts x1 Gm) (xg (Hp "items") [] [] dc) (N9 d):=⟨by
 rw[Ņ (aX4 h.out pf ph) σ H R hh S M w hh ⟨ι,S,M,ρ,aq,sl,xQ⟩];cases aE:yo with
 |none=>rw[Ye]
 |some qb=>
  obtain⟨n,kvs⟩:=qb
  rw[aE]at w1;obtain⟨a,aJ,rfl,ei,aI,hS,rk,rfl⟩:=N3 s1 r1 aE
  refine kX a aJ aI (cJ ob);obtain⟨afh,hS',O3,aRT,s2,x2⟩:=s1.TY ei (aJF aE) ob
  rw[aI]at O3;cases O3;rw[Qq (w1 ι1 _ _ _ x2 s2 λi ι' S' M' H' up kK _=>?_) ir (S' a=nv .cz .bL) (Xv a g8) rm (H' a=nv .cz .bL) (kK.sub a _ ir)]
  rw[WN y hy (λhl=>⟨aJ,rm,by rw[←rk.length];simpa using hl⟩)];rw[g_]at hy;rw[aAz k z hk rfl hy];rw[x9 v hv N7 ((rk.mono x2).get hk) ⟨⟨aJ,k,v,rm,hv⟩,cM u H2 wJ⟩];obtain⟨p,hp,rfl,wJ⟩:=wJ;rw[wJ aJ k v rm hv];rw[Cc s3 x3 (kK.tree (o:=aW [kV k,v]) hp) ⟨ι',_,x3,s3,ė p _ g8 (bW (awW k) (.one ((bp.up up N7).mono x3)))⟩]⟩
def a0E(h:Ji o)aNn:Z! X aG cB (xg (Hp "values") [] [] dc) (TZ d):=⟨by
 rw[Ņ (a0D h.out pf ph) σ H R hh S M w hh ⟨ι,S,M,ρ,aq,sl,xQ⟩];cases aE:yo with
 |none=>rw[Ye]
 |some qb=>
  obtain⟨n,kvs⟩:=qb
  rw[aE]at w1;obtain⟨a,aJ,rfl,ei,aI,hS,rk,rfl⟩:=N3 s1 r1 aE
  refine kX a aJ aI (cJ ob);obtain⟨afh,hS',O3,aRT,s2,x2⟩:=s1.TY ei (aJF aE) ob
  rw[aI]at O3;cases O3;rw[Qq (w1 ι1 _ _ _ x2 s2 λi ι' S' M' H' up kK _=>?_) ir (S' a=nv .cz .bL) (Xv a g8) rm (H' a=nv .cz .bL) (kK.sub a _ ir)]
  rw[WN y hy (λhl=>⟨aJ,rm,by rw[←rk.length];simpa using hl⟩)];rw[g_]at hy;rw[aAz k z hk rfl hy];rw[x9 v hv N7 ((rk.mono x2).get hk) ⟨⟨aJ,k,v,rm,hv⟩,cM u H2 wJ⟩]
  rw[Qo wJ wJ];rw[gx (wJ aJ k v rm hv) ⟨ι',S',mG,kK,bp.up up N7⟩]⟩
universe zE
universe L2
universe zE
section
namespace L2
open PySem PySem.Spec PyProof.Rows
section
variable {X:bV}{aG:St->d8}
def aTn Bc:FJ ED (λxs H Q=>∃a aJ,xs=[V.ref a]/\H a=X5 .bL/\∀l,oP l->Q (Δ l) (qG l (ake q q.1))):=by
 intro pins s σ H xs us Q I r h
 rw[dJ a aJ aI q h]
 rw[Hz u cQ r];cases cQ;obtain⟨hz,hs,vs,kv,dd⟩:=ajN aI;obtain⟨ep,da⟩:=dd.dictAt;rw[cW hl kv.len (PySem.W.kdl_call (PySem.W.kdl_dict (knd:=qE) (kvs:=vs) (ep:=ep) hs) (I.ok.hd hc) da (by rw[cw hl hz]) (MS h' tk acc c' kp e kN))]
 rw[Ð hv (∀(aJ:qz)(vs:Ġ),jQ aJ vs->∀aC:b3,aC.length=vs.length->(∀iy aaD,u? aC->∃(k:Key) (x:Value),jl vs (k,x)/\aa3 k v)->Ü (ake q q.1)) (by
  intro aJ vs kv
  induction kv with
  |nil=>intro aC hl _;cases aC with
   |nil=>rw[vL]
   |cons _ _=>cases hl
  |cons r t ih=>
   rename_i p q xs ys;intro aC hl hi;cases aC with
   |nil=>cases hl
   |cons z aC=>
    obtain⟨k,x,e1,e2⟩:=hi 0 z rfl;rw[aBo a! e1];subst e1;obtain⟨r1,_⟩:=r;rw[asd (bW ?_ (ih aC (aX hl) λi v h=>aX (hi (i+1) v (aX h))))];rw[r1];rcases Dm e2 with⟨i,t,rfl,rfl⟩ | ⟨x',t,rfl,rfl⟩<;>exact kS t) a4h (Iq (ake q q.1) acc.toList) (hv aJ vs kv acc.toList (by rw[au Array.length_toList kN.1]) λi v h=>kN.2 i v (by rw[cw Array.getElem?_toList h])) (QU (I.laid (t':=tk) kp fh (show QO _ h' _ (ς (ake q q.1)) from⟨by rw[nJ hz],acc.toList,c',a4h,by rw[au Array.toArray_toList e]⟩)) (q _ Nc))]
abbrev oy l_:D1:=Aq (match xs with
 |[x]=>match qg x M with
  |mO _ kvs=>yi (EH q (yO q.1))
  |none=>aF
 |_=>aF)
def aWk jv:∀afO{aJ:qz},Sh->pZ (EH q (yO q.1)) (ake q q.1):=by
 intro kvs aJ h
 induction h with
 |nil=>rw[vL]
 |cons r t ih=>exact bW (by dsimp only;rw[cw r.1 (awW _)]) ih
def pE l_ Bc:FJ ED (IG (oy live)):=(aTn hc).imp λvs H Q h=>by
 rw[Yp E S M r w h oy]
 match xs,r,w with
 |[],r,w=>rw[cX]
 |x::y::z,r,w=>rw[cX]
 |[x],r,w=>
  rw[iB v r1 r.yE];dsimp only at w;cases aE:qg x M with
  |none=>rw[ko aE]
  |some qb=>
   obtain⟨n,kvs⟩:=qb;rw[aE]at w;obtain⟨a,aJ,rfl,ei,aI,hS,rk,_⟩:=N3 aq r1 aE;exact kX a aJ aI (Zu aq (aWk rk) w).2
abbrev aeA:yS:=λx as M=>match as with
 |[η i]=>lI x M λn xs=>match Vm i with
  |some j=>match xs[j]? with
   |Cm=>I! (-(aU 9223372036854775808)≤i/\i<9223372036854775808) .ok y (q3 n (xs.eraseIdx j))
   |none=>aF
  |none=>aF
 |_=>aF
def aWl:wL X "list.pop" (Ss aeA):=agI r aKu aX5 v vs H Q h (by
 rw[Jw x xs r rs aeA];split at w
 ·rename_i i;rw[QK u rs.yE];cases Ql;obtain⟨n,p,ys,us,rfl,hi,eM,aI,hS,rr,w⟩:=amC aq r w;split at w
  ·rename_i j hj;split at w
   ·rename_i y hy;split at w
    ·rename_i hb;rw[arX z hz N7 (rr.get hy) hj' (axR hj).1 rr.length hj'];refine⟨p,us,i,j,z,rfl,rfl,aI,hb.1,hb.2,hj',hz,?_⟩;rw[eg sp ep (aea aq hi hS (rr.eraseIdx j)) (w ι S _ _ ep sp N7)]
    ·rw[cX]
   ·rw[cX]
  ·rw[cX]
 ·rw[cX])
abbrev aIN:V->dw->aR->jT:=λx vs H Q=>∃l xs y,x=Δ l/\vs=[η 0,y]/\H l=h7/\ajw sizeLine/\Q .ai (qG l (y::xs))
def aU4:ae6 X "list.insert" aIN:=by
 intro pins s σ H x vs v us Q I rx rv h;rw[V9 l xs y rfl hH hz q h];cases rx;rw[dJ u u2 cQ a73 (vals2 rv)];rw[r_ cQ];rw[XT z n r e];rw[akm (call_meets PySem.F.slot_list_insert (jc _ e) PySem.F.entry_list_insert (PySem.F.args_list_insert_3 _ _ _) (AutoListH.list_insert_list_int_val_1 l aC.toArray n 0 t u2 a_ (by rw[ahQ])) (k7 e)) (Jk .ai (aid (u2::aC) hH e Θ (bW a73 r) ?_) q)];rw[nQ zE]
abbrev xI:yS:=λx as M=>match as with
 |[η 0,y]=>lI x M λn xs=>I! (ajw lim) .ok .ai (q3 n (y::xs))
 |_=>aF
def aU5:wL X "list.insert" (Ss xI):=agI r aIN aU4 v vs H Q h (by
 rw[Jw x xs r rs xI];split at w
 ·rw[dJ u u2 r1 r2 rs.FX];cases Ql;obtain⟨n,p,ys,us,rfl,hi,eM,aI,hS,rr,w⟩:=amC aq r w;split at w
  ·rw[M8];refine⟨p,us,u2,rfl,rfl,aI,by rw[cw rr.length (aeE hl)],?_⟩;rw[eg sp ep (aea aq hi hS (bW r2 rr)) (w ι S _ _ ep sp ī)]
  ·rw[cX]
 ·rw[cX])
universe zE
universe L2
universe zE
section
namespace L2
open PySem PySem.Spec PyProof.Rows
abbrev aye dz rE dh:It:=
 ⟨λi H=>i<n/\∃xs x,JR/\iQ xs (n-1-i) x,λi H x H'=>H'=H/\∀xs,JR->iQ xs (n-1-i) x,λi _=>n≤i⟩
def aXN DX afZ dh:R8 P w K (aye K a n) [it] (λi h=>i≤n/\h.IsRevIter it a (gm-1-i)) where
 mem:=Θ
 obj:=λi h st b hb=>by
  rw[zU e (b=it) e];obtain⟨_,o,e,c,d⟩:=st;rw[b5 o e (λv z=>by rw[d]at z;cases z)]
 keep:=λi h h' st k=>⟨st.1,st.2.at λo e=>k it Θ o e⟩
 item:=by
  rw[Ag i s H E I];obtain⟨lH,st⟩:=st;obtain⟨hi,xs,x,hq,hx⟩:=hg;rw[IP rv p];obtain⟨u,hu,cQ⟩:=rv.get hx
  rw[MI]
  rw[pY e0 (gm-1-i=iX (n-1-i)) aB e0 st];rw[kD (wpAny_pyNext_rev_item st p.isList (x:=u) (aX hu) (Fv l7 sb)) aH (kH H (t_ s)) (ý t' (RC b o e sb e) f0 f1 f3 f4 lz)]
  obtain⟨o,e,c,d⟩:=id l7
  rw[pY e2 (iX (n-1-i)-1=gm-1-iX (i+1)) aB e2 l7];exact h! u (ZQ (s:=t_ s) e c d a_ ⟨x,H,aH,cQ,j3 (λys hy=>by rw[au (I.aw4 hy hq) hx]),⟨hi,l7⟩,v5 (Iv b).1⟩)
 done:=by
  rw[Ag i s H E I];rw[EG lH st st hg (n≤i) hg];rw[MI]
  have e0:gm-1-i = -1:=aB
  rw[bF e0 st (wpAny_pyNext_rev_end (I.ok.hd hc) st λh' eb=>Ī t' (Q7 b o e b o hb e) f0 f1 f3 f4 lz)]
 self:=λ_ _ _ _ _ st h=>wpAny_pyIter_revIter st.2 h
section
variable {X:bV}{aG:St->d8}{a e cB:Expr}{d:bz}{pos p p2:Pos}
abbrev afc l?:rj:=lY (dH).bind (match x with
 |ς xs=>.ok (RN xs.reverse) aa
 |ο n=>match aa[n]? with
  |h7=>.ok (xs.reverse,akO xs) aa
  |_=>aF
 |_=>aF)
def aHS jv{q:Addr}d9 aM0:aiY K (aye K q xs.length) xs.reverse w S:=by
 intro i ι' S' M' H' up aq hc
 rw[x9 vs hq rs (h ι' S' M' H' up aq hc) ⟨dB x hx,λhl=>by show SU i;simpa using hl⟩]
 rw[pY hi JA (aC1 aOZ.1) (List.getElem?_reverse hi) hx];rw[x9 v hv r (rs.get hx) ⟨⟨hi,vs,v,hq,hv⟩,cM u H2 y⟩]
 rw[Qo y y]
 rw[vz (y vs hq) hv];cases this;exact⟨ι',S',mG,aq,r⟩
def a2x(h:Ji a)(hm:agG "reversed")(hg:OA X "reversed" :=by rfl)aop:Z! X aG cB (xg (di "reversed" p) [a] [] pos) (afc d):=⟨by
 intro pins s σ H R I hw
 rw[EI S M ρ aq sl w hw];rw[cV l6 (qo X [a] (aeR (Fz zR d) an1)) (va h.out aeB (by rw[cU hs])) (VN (aen I hg hm (u:=d5 "reversed") (by first | rfl | decide) ?_ a_ a_))]
 refine ap8 (nR (l6 pos pins s σ H (vh vs (∃q n,vs=[Δ q]/\(∃xs,iI X.K H1 q xs/\ź n)/\R (aye X.K q n) H1)) I ?_) us ⟨vs,H1,aH,r1,q,n,ev,⟨xs,hq,hn⟩,k⟩) (by rw[cU hs]) rfl
 ·refine⟨ι,S,M,ρ,aq,sl,xQ⟩;cases x with
  |lst xs=>
   rw[agZ q vs ir rs r1];refine kX q xs.length ⟨vs,.of (atz _ _),rs.length.symm⟩ (Cx (aHS (abk b8 M2 H2 up s2 _)));rw[b5 vs (.of (aiZ _ (Xv _ ir))) (rs.up up)]
  |obj n=>
   rw[iB q ei (bp.ft.mp r1)];obtain⟨o,eM,mo⟩:=s1.addr ei;simp only[eM]at w1;cases o with
   |lst xs=>
    rw[Vw aI rs mo];refine kX q xs.length ⟨vs,.of aI,rs.length.symm⟩ (Cx (aHS (abk b8 M2 H2 up s2 hc)));obtain⟨_,amB,rm,O2⟩:=s2.ob n q _ (up.ix _ _ ei) hc;rw[b5 amB (.of rm) O2]
   |_=>rw[nB]
  |_=>rw[nB]
 ·subst ev;rw[Hz u cQ r1];cases cQ;rw[x! rv pl hz (aH.list hq)];rw[cW hl rv.length (call_reversed_list pl.isList ?_)]
  have e0:iX aC.toArray.size-1=gm-1-iX 0:=by rw[f9]
  rw[e0];rw[cV hR ((s1.heap.push (revObj q (gm-1-iX 0))).IsRevIter s1.heap.objs.size q (gm-1-iX 0)) (Ń _ _) (wpAny_pyIter_revIter (s:=mD s1 (s1.heap.push (revObj q (gm-1-iX 0)))) hR ?_)];rw[vv (aqi ard _ _ H1 rfl (Į t' o e e) (aXN q _ n) ⟨yb,hR⟩ oX k) eb (b=s1.heap.objs.size) EK]
  rw[f7 eb (aH.Kc fh Ry)]⟩
abbrev a8a dz UQ(ts:TO):TE:=r6 (te σ H (tK (ts σ H1 (mz k (k=aT (-1)/\∃a xs,x=Δ a/\iI K H2 a xs/\∀p,bO (H2 p)->Q (Δ p) (Ez H2 p xs.reverse))))))
def a0F{st:Expr}{te:TE}{ts:TO}aae(hs:DL X ajJ ts):JI yf e (.Slice none none ajJ p2) (a8a X.K te ts):=by
 rw[Fj Q h];rw[gp (Subscript_ (nR (CU s σ H _ I h) v ⟨x,H1,aH,r1,aE⟩)) (wpAny_Slice ?_)];rw[evalPart_none]
 rw[gp EE (Ml (IK (hs pins s1 σ H1 _ aH aE) vk ⟨k,H2,br,pk,fH,aV⟩))];subst fH;rw[dJ l xs hx q aV];cases r1;have ru:LR H2 s2 (aqA W? (kY #[cT,cT,vk])):=br.kept (t':=s2.toks) (vF ob q q);rw[x! r ht hz (ru.list hx)];rw[fG hlen r.length hg (jU (getItem (Δ l) ajz) (I4 X Q) (mD s2 (aqA W? (kY #[cT,cT,vk])))) (by
  rw[Cv (wpAny_getItem_list_slice ht.isList aQe cT cT pk Θ ?_ aDG) PySem.W.krv_pick];refine W5 _ _ (ru.laid (t':=s2.toks) (o:=ς xs.reverse) (vF ob q q) fh ?_) (q _ (ru.dy.fresh fh));refine⟨by rw[aAN hz],aC.reverse,0,Vals.reverse r,?_⟩;have:=Heap.get?_push_size (aqA W? (kY #[cT,cT,vk])) (o:=Mt (oZ aC.toArray.toList.reverse.toArray)) rfl;rw[zp])]
 rw[RO (jU (subscriptTail e (.Slice none none ajJ p2) (Δ l) ajz) (I4 X Q) (mD s2 (aqA W? (kY #[cT,cT,vk])))) (tail_any (ops:=[Δ l,ajz]) ht.isList.typeIs slot_list_getitem.lookup hg cI)]
abbrev aEh l_ nt(k:eH)dY:lN:=ahs (k=aT (-1)) (match Fd with
  |qD=>yi xs.reverse
  |none=>aF) aF
abbrev anu l_(da:bz)(dk:Oz):bz:=Ň (da ρ M).bind (Iz aa).bind k (aEh live x k M2)
def a0G l_{st:Expr}{dk:Oz}aag(hk:afr X aG ajJ dk):yk yf e (.Slice none none ajJ p2) (anu live d dk):=⟨by
 rw[C! (a0F he.out hk.out)];refine RU (eN.bind (dg:=anO) w1 λι2 b8 M2 H2 l l' e2 s2 r2 w2=>?_);cases r2;unfold aEh at w2;split at w2
 ·rename_i fH;cases h1:NS M2 x with
  |none=>rw[aim h1 w2]
  |some xs=>
   rw[h1]at w2;rw[dJ p vs aI rr (il s2 MB h1)];obtain⟨_,w3⟩:=Zu s2 rr.reverse w2;exact⟨fH,p,vs,rfl,.of aI,w3⟩
 ·rw[auf]⟩
universe zE
universe L2
universe zE
end
mutual
section
namespace L2
open PySem PySem.Spec PyProof.Rows
section
variable {X:bV}{aG:St->d8}{c k v:Expr}{tc:iK}{s1:c6}{dk dv:bz}{pos:Pos}
def aXO aay dh(hp:akw)(hc:C6 c tc)(hb:Gs X aG body s1):vW (.While c body [] pos) (Du tc s1 n):=⟨by
 refine l9.imp (aXr hp hc.out hb.out) (i? D σ H h);rw[d_ (λm σ' H'=>TM X.K aG (Du tc s1 m) D σ' H') ⟨n,h⟩ ?_];rintro m σ' H' ⟨ι',S',M',ρ',kK,ro,ww⟩;cases m with
 |zero=>rw[ahX]
 |succ m=>
  rw[Xm Du ww ⟨ι',S',M',ρ',kK,ro,m5.res (dg:=y_) ro ww λι1 bg aa H1 x b e1 OC r1 w1=>?_⟩];cases r1;cases x with
  |false=>exact Ke (w1 ι1 bg H1 σ' mG OC (ro.mono e1))
  |true=>
   refine FV ⟨mz σ2 (TM X.K aG (Du tc s1 m) D σ2 H2),λσ2 H2 q=>⟨m,aCm,q⟩,ι1,bg,aa,ρ',OC,ro.mono e1,?_⟩;rw[ek]at w1;cases eb:s1 ρ' aa with
   |nx ρ4 dW=>rw[bF eb w1 (λι4 qp H4 σ4 wN uB y!=>⟨ι4,qp,dW,ρ4,uB,y!,m5.up w1 wN⟩)]
   |ct ρ4 dW=>rw[bF eb w1 (λι4 qp H4 σ4 wN uB y!=>⟨ι4,qp,dW,ρ4,uB,y!,m5.up w1 wN⟩)]
   |j6 ρ4 dW=>rw[bF eb w1 w1]
   |eW x dW=>rw[bF eb w1 w1]
   |exc c ρ4 dW=>rw[bF eb w1 w1]
   |bad=>rw[bF eb w1 w1]⟩
abbrev a2y(tk yN:TE):TE:=r6 (∀p,sq->tk σ (qF p .dT []) (tK (yN σ H1 λy H2=>
 H2 p=eL .dT []/\∃(kk:pL) (b:Addr),x=Δ b/\H2 b=vR (kk.map kV)/\Q (Δ p) (Jd H2 p .dT [(kk,y)]))))
def aXP{tk yN:TE}aOy afF:JI .Dict [IE] [v] (a2y tk yN):=by
 rw[Fj Q q];rw[cH hn (VI ap9) aH (I.laid (a:=s.heap.objs.size) (o:=.dT []) (h':=VV (d5 "dict") (YB #[])) (t':=s.toks) (λ_ _ q=>pT q) fh (aXv s.heap I.big))];rw[gp (wpAny_Dict_any rfl rfl (aqz _) VE ?_) (aPL (xM (hk pins _ σ _ _ aH (q _ hn)) u s1 x H1 br rx aE (BU (hv pins s1 σ H1 _ br aE) w2 s2 ⟨y,H2,d?,bl,e,kk,b,ex,eb,aV⟩ (pairTrees_nil_walk ?_))))];subst ex;cases(S3 u b rx)
 rw[ah0 z hd xs dd (aLx d?.dy e)];cases rel;have hu1:(aqG qE).room X.A:=Nat.lt_of_succ_lt hu;rw[dO storeAll List.forIn_cons]
 refine fC (fC (wpAny_dictSet_heap hu1 (aGb d?.dy eb) dd (λh' uL hs=>EE) yb));show mC _ _ (forIn ([]:gP Value Value) PUnit.unit _) _ _ _;rw[iU List.forIn_nil (wpAny_pure (QU ?_ aV))];obtain⟨q,es,ep,hq,h2,h3,h4,_,h5⟩:=uL;refine vb d? (by rw[Vd e]) hs ⟨q,hq⟩ ⟨by rw[fk sizeLine_eq],hd,_,bW ⟨rfl,?_,bl⟩ c_,q,es,ep,hq,h2,h3,h4,h5⟩;rw[gY (aLs eb e (aC7 z)) eb]
abbrev am6(dk dv:bz):bz:=Ň (Iz M).bind (dv ρ aa).bind y (match T3 x with
 |some kk=>.ok (ο M2.length) (M2++[.jO [(kk,y)]])
 |none=>aF)
def aXQ(hk:iP k dk)(hv:iP v dv)afF:yk .Dict [IE] [v] (am6 dk dv):=⟨by
 rw[XW (A4.imp (aXP hk.out hv.out hu) (xX σ H Q hh a ha)) S M w hh];obtain⟨s0,x0⟩:=aq.side (o:=.dT []) ha;rw[cH hai (aq.fresh ha) aEY (aq.TQ ha)];rw[B6 am6];refine⟨ι,S,M,ρ,s0,sl,?_⟩;cases fH:Iz M with
 |bad=>rw[ko fH]
 |exc c M2=>rw[bF fH w (λι2 b8 H2 e2 s2=>w ι2 b8 H2 aD4 s2)]
 |ok x aa=>
  rw[fH]at w;intro ι1 bg H1 xv e1 s1 r1;refine⟨ι1,bg,aa,ρ,s1,sl.mono (x0.trans e1),?_⟩;rw[Res.ag]at w;cases ev:dv ρ aa with
  |bad=>rw[ko ev]
  |exc c M2=>rw[bF ev w (λι2 b8 H2 e2 s2=>w ι2 b8 H2 (x0.trans ahg) s2)]
  |ok y M2=>
   rw[ev,Res.ag]at w;intro ι2 b8 H2 awM e2 s2 r2;obtain⟨f1,f2,f3⟩:=(ahg).fr a _ g8 hai aEY;have a7Z:=MB;cases x with
   |tup ks=>
    rw[Fw b ir rs a7Z];rw[Qz T3];cases e:N2 jM ks with
    |none=>rw[ko e]
    |some kk=>
     rw[e]at w;rw[Xe (aws rs e)];rw[vv ⟨f1,kk,b,rfl,aiZ _ ir,?_⟩ s3 (gq X.K ι2 b8 M2 (Jd H2 a .dT [(kk,awM)])) (s2.aKt f2 f3)];rw[nE e3 (x0.trans ahg) wU aLJ (by have:=e3.pre;rw[←this];rw[f9]) (w (ι2++[a]) b8 _ _ ⟨NI n b hb ((Up.push (S:=b8) a).ix n b (e3.ix n b hb)) e3.sm,?_,XU u⟩ (s3.enter f2 ⟨f3,_,g8,bW (j3 r2) c_⟩) (VY a (by rw[ū s2.len])))]
     ·rw[aAA wU e3.pre]
     ·rw[B5 k1 k2 k3 (e3.fr b u aE aV cA) hb (b≠a) (cP (by rw[z,ha]at aE;cases aE))]
      rw[b5 (by rw[au (kR hb) k1]) (f_ k2 hb) k3]
   |_=>rw[cX]⟩
universe zE
universe L2
universe zE
section
namespace L2
open PySem PySem.Spec PyProof.Rows
section
variable {X:bV}{aG:St->d8}{cB l iter:Expr}{tl:TE}{d:bz}
universe zE
universe L2
universe zE
section
namespace L2
open PySem PySem.Spec PyProof.Rows
section
variable {X:bV}{aG:St->d8}{a b:Expr}{rest:dI}{ta tb:TE}{da db:bz}{pos:Pos}
universe zE
universe L2
universe zE
section
noncomputable section
namespace Sb
open PySem L2
abbrev ej:D1:=Ct 1 (ax P_ [(NF ao)])
abbrev Y4(Dh:D1):D1:=Ct 2 (mX false [none,none,qB] (als ao) (o8 2 (mY (bT 0) (qO 1))) (MG aD (ax Dh E8)) ao)
abbrev alz(ac3:D1):D1:=zw 4 (eO (cj (ax ac3 [ao,aD])) (bT 3) (d6 (bb (kT (eJ true) aA)) (c! bA) n9)) (dC .ai)
abbrev avQ(Dg:D1):D1:=Ct 3 (cu (ui false) (ax Dg [ao,aA,aD]) (dC .ai))
abbrev alH(Dh:D1):D1:=iG 2 (LD (ajH (jm 0) asG (PY Wz (cj (ax Dh CF)) QW)) (PM (jm 1) (c! (c9 [(jm 2),(jm 3)]))) (c9 [(jm 1)]))
abbrev avR:D1:=Ct 1 (tB (jm 0) asX)
abbrev qr(Zb:D1):D1:=zw 2 (zL (cD (ax Zb CF)) (MG (jm 3) (NF aA)) (c! ņ)) (dC lU)
abbrev avO(aFu aFk:D1):D1:=ajj 2 (ax aFu CF) (I2 aFk)
abbrev avB(bj:Addr)(aFv Dh:D1):D1:=Wr 2 (Fo XH (Ξ 0) (aym bj [(b! "a yard has at least one piece")])) (CZ sW XH (Ξ 16) bj [none,aT (Ξ 16),none]) (eO (cj ao) (bT 1) (Q9 aFv (ax Dh E8)))
abbrev avC(bj:Addr)(ac3:D1):D1:=iG 3 (eO (cj aA) (bT 2) (vS (Pu (xj uI aD (Ξ 0)) (xj sW aD (Ξ 999)) (j7 bj [none,M!,none,aT (Ξ 999)])) (CZ sW (akL [aD]) (Ξ 1) bj [none,M!,none]) (CZ sW (h9 (ax ac3 [ao,aD])) (Ξ 2) bj (QD M!))))
abbrev avy(bj:Addr)(Dh:D1):D1:=ű 4 (CZ sW (tR aA) (Ξ 16) bj [none,aT (Ξ 16),none]) (eO (cj aA) (o8 2 (mY (bT 2) (qO 3))) (vS (CZ sW (akL [(dM [aD,bA])]) (Ξ 1) bj [none,M!,none,aT bA]) (Pu (bb (kT uI (Ξ 0))) (bb (kT ale XH)) (j7 bj [none,aT bA,none])) (CZ (lh true) aD (ax Dh [(Ũ ao)]) bj [none,aT bA,none,M!])))
abbrev mr(cY:Addr):D1:=Wr 1 (Þ cY "steps" (cb true [])) (Þ cY "ahead" (cb true [])) (Þ cY "is_out" (rQ .ah))
abbrev avD(cY:Addr):D1:=Ct 1 (W9 (cj (aD8 cY)))
abbrev awc:D1:=Ct 1 (dM [(jm 0),(jm 2),(jm 1)])
abbrev wx(aFO m3:D1):D1:=ajj 6 (ax aFO [ao,aA]) (aj8 2 (cb true []) (als aA) (o8 2 (mY (bT 3) (qO 4))) (eO (cj (ax m3 [ao,aA,(c9 []),(H9 bH),(C0 bH)])) (bT 5) (FN aD [(dM [bA,(ae 5)])])) (AQ aD))
abbrev Ap(aFP Dg m3:D1):D1:=ű 9 (akF bH (W9 (cj aD)) (c9 [])) (aj8 5 (cb true []) (cj (ax aFP [(nw ao bH),bA])) (bT 6) (q2 7 (LZ aD [(dM [bH,bA,(ae 6)])]) 8 (ax Dg [ao,bH,(ae 6)]) (d6 (wK (xj (ui false) (ae 8) (dC .ai)) (MG (dM [(ae 6),(ae 8)]) aA)) (FN (ae 5) [gF]) (mU (n8 amV (ae 5) [(ax m3 [ao,aA,gF,(ae 6),(ae 8)])])))) (AQ (ae 5)))
abbrev aFA pD(axh:D1):D1:=Wr 4 (FA "found" (ax axh [aA,aD])) (FA "pieces" (ax P_ E8)) (vS (FA "signals" (ax P_ [aD])) (FA "wait" bA) (vS (FA "ticks" (Ξ 0)) (FA "locks" yK) (vS (FA "lying" (mX true xB (cj aA) (bT 0) oz (dC lU))) (FA "greens" yK) (q1 (FA "falls" yK) (FA "trains" yK)))))
abbrev avE pD(FY:D1):D1:=zw 2 (I2 FY) (aes asI aA)
abbrev alv pD(FY YQ:D1):D1:=iG 4 (LD (I2 FY) (yL (N9 Mh) (eO (N9 Mh) (o8 2 (mY (bT 2) (qO 3))) (akF aA (ax YQ [bA]) aD))) (dC .ai))
abbrev avP(YQ v_:D1):D1:=Ct 2 (ax YQ [(ax v_ [ao,aA])])
abbrev avS(j9:Addr):D1:=ű 3 (Þ j9 "until" aA) (Þ j9 "near" aD)
abbrev acR pD(Y5 mW fI aGW v!:D1):D1:=ajj 4 (ax Y5 [ao,aA]) (S5 2 (ax mW [ao,aA]) (eO (cj aD) (bT 3) (Q9 fI CW)) (eO (cj aD) (bT 3) (q1 (lB asI CW aA) (lB asJ CW (ax aGW [(Fl Ij CW),bA])))) (lB Vp (ax v! [ao,aA]) aA))
abbrev Ze(j9 gk bR:Addr)(Y5 v! aFQ JU aGc wh mW:D1):D1:=ajj 4 (ax Y5 [ao,aA]) (S5 2 (ax v! [ao,aA]) (CZ (eJ true) (aes Vp aD) aA gk (QD nM)) (mU (J4 Vp aD)) (rP 3 (ax aFQ [ao,aD]) (d6 (mm (xj sW (E4 "wait") (Ξ 0)) (wK (bb (kT M9 (dC .ai))) (cD (ax JU [ao,aD])))) (ŷ Mn (uk j9 aGc [(k_ aEa (E4 "wait")),bA])) (Q9 wh (ax mW [ao,aA])))))
abbrev awA(j9 bR:Addr)(wh mW:D1):D1:=ű 2 (FA "ticks" (XG aEa)) (eO (cj (ax LA [Mn])) (bT 1) (Fo (lq j9 "until" (oO Mn)) aEa (VB (J4 Mn aA) (Q9 wh (ax mW [ao,aA])))))
abbrev adD pD(kl fI:D1):D1:=Wr 2 (I2 kl) (I2 fI) (ŷ asJ (uJ (vH (oO asJ) (dC lU)) ņ (dC lU)))
abbrev Zf pD:D1:=iG 3 (eO (cj aA) (bT 2) (mU (J4 asI xN)))
abbrev alE pD:D1:=Ct 2 (aja asH)
abbrev al2 pD:D1:=Ct 2 (C0 (oO asH))
abbrev alA pD(Di:D1):D1:=iG 3 (aa9 2 (oO arC) (ax Di [Ij,XO,xN]))
abbrev avF(cY bR:Addr)(Dg:D1):D1:=iG 4 (q2 2 (oU (lq cY "steps" aA)) 3 (dM [abH,(ax Dg [Ij,xN,abH])]) (Ib (d6 (bb (kT (lh false) arC)) (c! (n8 J3 arC [bA])) n9) (dC .ai)))
abbrev mx pD(acC:D1):D1:=zw 4 (yL (N9 Mh) (eO (N9 Mh) (o8 2 (mY (bT 2) (qO 3))) (ajH (ax acC [ao,bA]) aA aD))) (dC .ai)
abbrev avG afC:D1:=zw 2 (CZ (lh true) aA Mh gk [none,nM,none]) (oO Mh)
abbrev aFl afC(FU:D1):D1:=iG 2 (Ht (cD (ax FU [asH,aA])) (j7 gk [none,nM,none]))
abbrev aFm afC(FU:D1):D1:=iG 2 (Ht (cD (ax FU [Ij,aA])) (j7 gk [none,nM,none]))
abbrev avH afC(FY Zb:D1):D1:=ajj 2 (ax FY [ao,aA]) (Ht (cD (ax Zb [(oO Ij)])) (j7 gk [none,nM,none]))
abbrev m4 afC(FU:D1):D1:=iG 2 (Ht (cD (ax FU [arC,aA])) (j7 gk [none,nM,none]))
abbrev dE:D1:=Ct 2 (T4 (cu ale aA (Ξ 0)) (cu uI aA XH))
abbrev avx(fo bR:Addr)(dA:D1):D1:=ű 2 (CZ (lh false) aA asI fo [none,nM,none]) (CZ M9 (aru bR dA ao E8) (dC .ai) fo [none,nM,none])
abbrev awu(fo gk cY bR:Addr)(km JU Y_ aFR Y6:D1):D1:=ajk 5 (FO km) (Ht (cD (ax JU [ao,aD])) (j7 gk [none,M!,none])) (CZ (lh false) aA Mh fo [none,nM,none]) (q2 3 (ax Y_ [ao,aA,aD]) 4 (uk cY aFR []) (VB (ax Y6 [ao,bH,bA]) (ŷ Mh bH)))
abbrev anh(i6 cY bR:Addr)(v_ Zi Di Y6 Y_ acC:D1):D1:=Rg 4 2 (ax v_ [ao,aA]) 3 (oU (XJ cY)) (q1 (xJ (lq cY "is_out" aD) (j7 i6 [none,nM,none])) (d6 (cD (ahJ cY aD)) (FO Zi) (d6 (cD (ax Di [Ij,CW,XI])) (hG cY "is_out" aD (zK .ah)) (Q8 Y6 [ao,aD,(ax Y_ [ao,aA,(ax acC [ao,aD])])]))))
abbrev awB(fo cY bR:Addr)(v_:D1):D1:=Rh 3 2 (ax v_ [ao,aA]) (zL (vH (h9 (XJ cY)) (Ξ 1)) (yI (cD (lq cY "is_out" aD))) (j7 fo [none,nM,none])) (mU (n8 afe (XJ cY) [])) (Fo (h9 (XJ cY)) (Ξ 0) (mU (J4 Mh aA)))
abbrev awC(j9 i6 cY bR:Addr)(v_ wh axj:D1):D1:=Rh 4 2 (ax v_ [ao,aA]) (xJ (lq cY "is_out" aD) (j7 i6 [none,nM,none])) (Q9 wh (ahJ cY aD)) (vS (hG cY "ahead" aD (cb true [])) (hG cY "steps" aD (mX true xB (afc (XJ cY)) (bT 0) oz (ax axj CF))) (yL (TZ Mn) (eO (TZ Mn) (bT 3) (Fo (ah1 j9 bA) aA (hG j9 "near" bA (dC .ai))))))
abbrev acU(j9 i6 bR:Addr)(JU v!:D1):D1:=ajk 5 (CZ (ui false) aD (dC .ai) i6 (QD nM)) (akF aD Vp (Fl Vp aD)) (yL (N9 Mn) (eO (N9 Mn) (o8 2 (mY (bT 3) (qO 4))) (zL (vH (ax v! [ao,bA]) aD) (wK (vH (ah1 j9 bH) aA) (cD (ax JU [ao,aD]))) (c! bA)))) (j7 i6 [none,nM,none,M!])
abbrev lj(cY bR:Addr)(v! mW Zi:D1):D1:=ajk 3 (mU (aev Vp (ax v! [ao,aD]) (dC .ai))) (mU (aev Mn aD (dC .ai))) (hG cY "ahead" aA (ax (AE true) [(ax mW [ao,aD])])) (I2 Zi)
abbrev av6(cY:Addr)(wh:D1):D1:=iG 3 (rP 2 (n8 aeA (ahJ cY aA) [(Ξ 0)]) (VB (ax wh [ao,(c9 [aD])]) (mU (n8 xI (lq cY "steps" aA) [(Ξ 0),aD]))))
abbrev awd:D1:=zw 2 (xJ ao (c! (nw ao (cu g9 aA XH)))) (Ξ 0)
abbrev vi(axk:D1):D1:=Rg 3 2 (QC (RS (ax axk [ao,aA]) (Ξ 104729) (XG aA)) (Ξ 4294967291)) 2 (QC (cu (qa false) aD (Ξ 48271)) (Ξ 4294967279)) (c! (QC (cu (wc false) (cu (qa false) (cu wg aD (Ξ 64)) (Ξ 69621)) aD) (Ξ 4294967231)))
abbrev oI:D1:=iG 4 (aa9 3 (PY [none,qB,some 2,WV] (gT [XH]) (mm QW (MG aD (NF (Ť bA))))) (uJ (cD bA) CW (dC .ai)))
abbrev avZ(fi:D1):D1:=Rg 11 2 (cb true []) 3 (c9 []) (aj8 4 (Ξ 0) (gT [(k_ (Ξ 1) (LH fi [ao,aA] (Ξ 8)))]) (bT 5) (q2 6 (ax fi [ao,(k_ (XG aA) (ae 5))]) 7 (cb true []) (q1 (eO (gT [(aj6 (Ξ 2) Oe [(cu uI (LG 6 (Ξ 5)) (Ξ 3))])]) (bT 8) (q2 9 (ax fi [ao,(k_ (RS (k_ aA (Ξ 10)) (Ξ 3) (ae 5)) (ae 8))]) 10 (aje 7 (cj bA) akx) (d6 (mm (cD (ae 10)) (xj uI (LG 9 (Ξ 8)) (Qw (c9 [(Ξ 7),(Ξ 2),(Ξ 2)]) 8))) (FN gF [(nw (ae 10) (cu g9 (cu wg (ae 9) (Ξ 8)) (ax Ub [(Ξ 4),(h9 (ae 10))])))]) (VB (n8 q9 gF [(QC (RS (ax fi [ao,(k_ aA (Ξ 9))]) (Ξ 37) bH) LC)]) (mV 4 (XG bH)))))) (rP 3 (k_ (aje 3 (cj gF) akx) (aje 7 (cj bA) akx)) (FN aD [(aj6 (dM [(nw (c9 [asG,asX]) (cu Ua (h9 gF) (Ξ 2)))]) anb [gF])])))) (AQ aD))
abbrev avT(fi q8:D1):D1:=iG 9 (Ĭ 3 (cb true []) (eO (gT [(tR aD)]) (bT 4) (eO (alu (NF (nw aD bH))) (bT 5) (q2 6 (ax fi [ao,(k_ (RS aA (Ξ 3) bH) (tR bA))]) 7 (cu (ui false) (ax q8 [aD,bH,(ae 5)]) (dC .ai)) (Pu (vH (LG 6 (Ξ 3)) (Ξ 0)) (mm (cD gF) (vH (LG 6 (Ξ 3)) (Ξ 1))) (FN bA [(dM [(ae 5),bH])]))))) (aa9 8 (LH fi [ao,(k_ aA (Ξ 30))] (k_ (Ξ 1) (tR bA))) (SA (k_ (SA bA (Dr (ae 8)) hE) (SA bA hE (Dr (ae 8)))) hE (Dr (Ξ 16)))))
abbrev awe:D1:=zw 2 (ajH (jm 0) asG (PY Wz (alu (NF ao)) QW)) (uJ (o3 (jm 1)) (c9 [(jm 2),(jm 3)]) (c9 [(jm 1)]))
abbrev aGF(axl q8 Zn:D1):D1:=Rh 9 5 (cb true []) (d6 (bb (kT (lh false) (W9 (cj aD)))) (c! (AQ (ae 5))) n9) (eO (cj (ax axl [(Ũ ao),bH])) (bT 6) (q2 7 (LZ aD [(dM [bA,bH,(ae 6)])]) 8 (ax q8 [ao,bA,(ae 6)]) (d6 (wK (xj (ui false) (ae 8) (dC .ai)) (MG (dM [(ae 6),(ae 8)]) aA)) (FN (ae 5) [gF]) (mV 5 (cu (wc true) (ae 5) (ax Zn [ao,aA,gF,(ae 8),(ae 6)])))))) (c! (AQ (ae 5)))
abbrev aFS(Zn:D1):D1:=iG 4 (aj8 2 (c9 []) (gT [(tR aA)]) (bT 3) (mV 2 (k_ aD (mX false (Ò 3) (cj (ax Zn [ao,aA,(c9 []),(C0 (Ũ aA)),(oU (Ũ aA))])) (bT 0) oz (dM [aA,ao])))) aD)
abbrev awv(aGn:D1):D1:=Rg 5 3 (mX true xB (cj ao) (bT 0) oz (uJ (vH (jm 0) asX) (dC lU) (dC .ai))) 4 (Gn [("pieces",ao),aBj aA,Jl aD,("points",bA),("green",(c9 [])),("now",(Ξ 0))]) (vS (W0 (b! "routes") (ax aGn [ao,aA])) (W0 (b! "locks") (cu (qa true) (c9 [(dC .ai)]) XH)) (LD (W0 (b! "falls") yK) (W0 aCD yK) bH))
abbrev my:D1:=zw 3 (yL (ox ya) (mV 2 (PY [none,qB,WV] (ox ya) (MG aA (W9 (cj (oU (Ť Mi)))))))) (uJ (cD aD) xN (dC .ai))
abbrev awf(aFT:D1):D1:=Ct 2 (afd (cu M9 (oO Ù) (dC .ai)) (cu M9 (ax aFT [ao,aA]) (dC .ai)))
abbrev awg:D1:=iG 2 (lB ao (b! "locks") (mX true Wz (cj Ù) (bT 0) oz (uJ (bb (cu (eJ false) ao aA)) (dC .ai) ao)))
abbrev ama(adG:D1):D1:=Rh 5 2 (C0 (oO Mj)) (xJ (ax OE [(mX false (Ò 0) (cj aD) (bT 0) oz (ax adG [aA,(jm 0)]))]) (c! Ç)) (eO (cj aD) (bT 3) (q1 (lB Ù CW aA) (rP 4 (Fl Vq CW) (Fo (H9 bH) asX (lB aCE CW (akt [ņ,(dC lU)] (ax Oe [(cu (lh false) abI (NF bA))]))))))) (aj3 (lB ao aD9 (LZ Ú E8)))
abbrev awh:D1:=ű 8 (Gj (oO Sz) (o8 2 (mY (bT 2) (qO 3)))) (ag3 4 (cb true []) (yL (ox ya) (eO (ox ya) (bT 5) (q2 6 (Qw ya 5) 7 (oU (CO 6)) (zL (vH (C0 (ae 6)) (c9 [])) (mm (yI (cD (tX (ae 6)))) (mm (vH (tX gF) aD) (Jf (CO 7) bA))) (FN bH [(ae 5)]))))) (AQ bH))
abbrev ac1(adH q8 adI:D1):D1:=ajk 6 (Hw (lh true) aA Ú È) (lB ao aD9 (PY Wz (cj Ú) QW)) (Gj (Fl Sz (aja Mj)) (o8 2 (mY (bT 2) (qO 3)))) (q2 4 (ax adH [ao,(aja Mj)]) 5 (cu (ui false) (ax q8 [Vq,bA,aD]) (dC .ai)) (Ib (d6 (mm (xj sW (z5 "wait") (Ξ 0)) (wK (cD bH) (cD (ae 5)))) (ŷ ye (dM [(k_ (z5 "now") (z5 "wait")),bH,(ae 5)])) (I2 adI)) (b! "ok")))
abbrev awi(adI:D1):D1:=iG 2 (LD (lB ao (b! "now") (XG (z5 "now"))) (eO (cj (ax LA [ye])) (bT 1) (L8 avL (aja ye) (z5 "now") (VB (J4 ye aA) (I2 adI)))) (b! "ok"))
abbrev adh(adG:D1):D1:=Wr 2 (ajH (aja Vq) asG È) (xJ (ax adG [ao,aA]) (c! Ç)) (aj3 (ŷ aCE (Fl (Gn [("straight",ņ),("branch",(dC lU))]) (oO aCE))))
abbrev al3:D1:=zw 6 (eO (cj (aj6 Ú LA [ye])) (bT 3) (Fo (oU (Ũ Mj)) aA (rP 4 (N8 ye bA (dM [(Ξ 0),(c9 [aD]),(rQ .ah)])) (Pu (cD abI) (MG aD (C0 bH)) (vS (lB ao aD9 (aje 3 (cj Ú) QW)) (mU (aev ye bA (dC .ai))) (ag3 5 (ax P_ [(C0 (Ũ Mj))]) (lB Ù (oU (CO 5)) (dC .ai)) (ae 5))))))) (dC .ai)
abbrev av7(q8 Zo:D1):D1:=ajk 6 (Gj (Fl Sz aD) (o8 2 (mY (bT 3) (qO 4)))) (Hw M9 (ax q8 [Vq,bH,bA]) (dC .ai) È) (akF aA ya Ç) (S5 5 (ax Zo [ao,aD,aA]) (Hw (ui false) (ae 5) (dC .ai) Ĥ) (abV (c9 [(SA (ae 5) hE (Dr (Ξ 1))),(NF (ae 5)),(rQ .ah)])) (c! (b! "ok")))
abbrev awD(q8 Zo:D1):D1:=Rg 6 2 (oO ya) 3 (oU xN) (vS (xJ abH (c! Ĥ)) (L8 (eJ true) XO (c9 []) (LD (lB Ù (oU (oU XO)) (dC .ai)) (abV (c9 [(k_ (SA XO hE (Dr (Ξ 1))) xN),(NF XO),(rQ .ah)])) (b! "ok"))) (Ĭ 4 (ax q8 [Vq,CW,XI]) (L8 (ui false) bH (dC .ai) (aj3 (abV (c9 [xN,(c9 []),(zK .ah)])))) (S5 5 (dC .ai) (L8 (lh false) (dM [XI,bH]) Sz (mV 5 (ax Zo [ao,(n8 J3 Sz [(dM [XI,bH])]),aA]))) (Hw (ui false) (ae 5) (dC .ai) Ĥ) (aj3 (abV (c9 [(k_ (SA (ae 5) hE (Dr (Ξ 1))) xN),(NF (ae 5)),(rQ .ah)]))))))
abbrev awj:D1:=Rh 3 2 (oO ya) (zL (vH (h9 xN) (Ξ 1)) (yI (cD abH)) (c! Ç)) (abV (c9 [(SA xN hE (Dr MX)),XO,abH])) (aj3 (Fo (h9 xN) (Ξ 1) (mU (J4 ya aA))))
abbrev awk:D1:=Rh 7 2 (oO ya) (xJ abH (c! Ĥ)) (eO (cj XO) (bT 3) (lB Ù CW (dC .ai))) (S5 4 (mX false xB (cj (anu false xN (Dr MX))) (bT 0) oz (dM [(jm 0),(jm 2),(jm 1)])) (abV (c9 [bH,(c9 []),(rQ .ah)])) (eO (cj (ax LA [ye])) (bT 5) (rP 6 (Qw ye 5) (lB ye (ae 5) (dM [(CO 6),(PY Wz (cj (C0 (ae 6))) QW),(tX (ae 6))])))) (c! (b! "ok")))
abbrev aGd:D1:=Rh 5 4 (Gn [("set",(h9 Mj)),("cancel",(h9 Mj)),("throw",(h9 Vq))]) (W0 Ma (h9 Sz)) (akF aA bH (ana avL uI (Ξ 0) aD (oO bH))) (c! (afd (cu (eJ false) aA LK) (kT (lh false) ya)))
abbrev awl(aGX axV aGo aGY aGZ axm ayp axn axo:D1):D1:=Wr 4 (Ht (cD (ax aGX [ao,aA,aD,bA])) (c! È)) (PM WM (c! (ax axV [ao,aD]))) (vS (PM BX (c! (ax aGo [ao,aD]))) (PM ain (c! (ax aGY [ao,aD]))) (vS (PM Ma (c! (ax aGZ [ao,bA,aD]))) (PM LK (c! (ax axm CF))) (LD (PM (b! "go") (c! (ax ayp [ao,bA]))) (PM LL (c! (ax axn [ao,bA]))) (ax axo [ao,bA]))))
abbrev aFB azg:D1:=iG 2 (q2 1 (c9 [(IH [iE bj,My,Mz,MA]),(IH [Mx,iE gk,Mz,MA])]) 1 (LZ aA [(IH [Mx,My,iE fo,MA]),(IH [Mx,My,Mz,iE i6])]) (Ib (Pu (yI (cD (IH [iE bj,iE gk,iE fo,iE i6]))) (Jf (akL [(zK .ah)]) (Ξ 1)) (c! (b! "wrong"))) (akt [(b! "bad"),È,Ç,Ĥ] (n8 J3 aA [(zK .ah)]))))
abbrev avI(q8 adH:D1):D1:=iG 4 (LD (Gj (oO Sz) (o8 2 (mY (bT 2) (qO 3)))) (Hw (ui false) (ax q8 [Vq,bA,aD]) (dC .ai) (c9 [(dM [Ma,aA,(akt [(Ξ 0),XA,(Ξ 102),(Ξ 103),(Ξ 104)] (ax Ub [(Ξ 4),(h9 ya)]))])])) (mX false xB (cj (ax adH [ao,aA])) (bT 0) oz (dM [(b! "go"),(Ξ 0),ao])))
abbrev al4(fi alI:D1):D1:=Rg 12 3 (ax fi [ao,aA]) 4 (ax LA [Mi]) (q2 5 (uJ (cD bH) (FG bH 16 (tR bH)) (Ξ 7)) 6 (c9 [WM,WM,(b! "go"),(b! "go"),(b! "go"),LL,LL,Ma,BX,LK,ain,Vc]) (q2 7 (nw (ae 6) (cu g9 (kT wg (Ξ 4)) (Ξ 12))) 8 (Gn [("set",(h9 ň)),("cancel",(h9 ň)),("throw",(h9 (tN "pieces")))]) (S5 9 (LH fi [ao,(XG aA)] (ax an4 [(Ξ 1),(N8 (ae 8) gF ajC)])) (zL (bb (tB (kT g9 (Ξ 4)) (Ξ 0))) (cD (tN "green")) (q2 10 (FG (tN "green") 64 ajB) 11 (RS (ax alI [aD,(ato ň 10)]) (c9 [(dM [BX,(ae 10),(Ξ 0)])]) (zV (Ξ 256) (Ξ 2))) (xJ (ae 11) (c! (FG (ae 11) 1024 (h9 (ae 11))))))) (zL (cD aEb) (mm (cD bH) (bb (tB (kT g9 (Ξ 4)) (Ξ 2)))) (c! (dM [(abl (c9 [Vc,(b! "go"),Vc,LK]) 64),(Ξ 0),(FG bH 256 (tR bH))]))) (LD (zL (vH gF BX) (cD (tN "green")) (mV 9 (FG (tN "green") 64 ajB))) (Fo (kT g9 (Ξ 32)) (Ξ 1) (rP 9 (nw (c9 [MX,(N8 (ae 8) gF ajC),(k_ LC (zV (Ξ 32) LC))]) (cu g9 (kT wg aaV) (Ξ 3))) (mV 5 (nw (c9 [(AJ (Ξ 5)),(Ξ 3),aDN]) (cu g9 (kT wg aaV) (Ξ 3)))))) (dM [gF,(ae 9),(uJ (wK akz akv) (ae 5) (abl (c9 [(Ξ 0),ajW,XA,(AJ (Ξ 3))]) 512))])))))
abbrev aFC pD(kl:D1):D1:=zw 2 (I2 kl) (oO asJ)
abbrev mB pD(km:D1):D1:=zw 2 (I2 km) (cu (lh false) aA Vp)
universe Sb
universe zE
universe zE
end
mutual
section
noncomputable section
namespace Sb
open PySem L2
abbrev aHk azg aNb:D1:=iG 6 (ag3 4 (dC .ai) (Go [bj,gk,fo,i6] 4 5 (d6 (o3 WM) (FO ac5) (d6 (o3 BX) (FO adJ) (d6 (o3 ain) (FO adY) (d6 (o3 Ma) (Q8 adZ [ao,bA,aD]) (d6 (o3 LK) (Q8 aef CF) (d6 (arH (b! "go")) (NC ZW) (d6 (o3 LL) (NC aeg) (NC aeh))))))))) (cu (ui false) bH (dC .ai)))
universe Sb
universe zE
universe zE
section
noncomputable section
namespace Sb
open PySem L2
abbrev alF(cY:Addr):D1:=zw 1 (xJ (ü cY "ahead") (c! (Fl (ü cY "ahead") MX))) (oU (aD8 cY))
abbrev av8(cY bR:Addr)(v_ aGe Di aFD aGp Zg:D1):D1:=Rg 5 2 (ax v_ [ao,aA]) 3 (ax aGe [aD]) (q1 (xJ (ax Di [Ij,CW,XI]) (c! (c9 []))) (aa9 4 (ax aFD [ao,aA,(W9 (cj (ahJ cY aD)))]) (ax aGp [ao,bA,(PY [none,WV,some 4] (gT [(h9 asH)]) (cD (ax Zg [aA,ao,aD])))])))
abbrev alw pD(aFw dA:D1):D1:=iG 6 (aj8 3 (cb true []) (gT [(h9 Ij)]) (bT 4) (rP 5 (T4 (cu M9 (aej bR "lock_of" aFw ao [bH]) (dC .ai)) (cu (lh true) bH aD)) (Pu (cD (ae 5)) (xj (lh true) (aru bR dA ao [bH]) (dM [(dC .ai),aA])) (FN bA [bH]))) (AQ bA))
abbrev Tn(mW:D1):D1:=Ct 3 (tB (h9 (aje 2 (cj (ax mW [ao,aA])) (MG (jm 0) aA))) (Ξ 0))
abbrev alP pD(aGf mW Di:D1):D1:=iG 10 (q2 3 (c9 [(dM [aA,(c9 [])])]) 4 (am6 (dM [(H9 aA),(tX aA)]) (zK .ah)) (Ib (Du (cD bA) (Ĭ 5 (cb true []) (eO (cj bA) (o8 2 (mY (bT 6) (qO 7))) (eO (cj (ax aGf [ao,(ae 6),aD])) (bT 8) (Ĭ 9 (Fl (ax mW [ao,(ae 8)]) MX) (xJ (ax Di [Ij,(CO 9),(tX (ae 9))]) (c! (LZ gF [(ae 8)]))) (L8 (lh true) (dM [(CO 9),(tX (ae 9))]) bH (q1 (W0 (dM [(CO 9),(tX (ae 9))]) (zK .ah)) (FN (ae 5) [(dM [(ae 9),(LZ gF [(ae 8)])])])))))) (mV 3 (ae 5))) 1000) (dC .ai)))
abbrev alG pD(Dg mW Zg:D1):D1:=iG 7 (q2 3 (ax Dg [Ij,(H9 aA),(tX aA)]) 4 (cb true []) (Ib (eO (cj aD) (bT 5) (rP 6 (oU (ax mW [ao,(ae 5)])) (zL (vH (dM [(CO 6),(C0 (ae 6))]) (dM [bA,(tX aA)])) (cD (ax Zg [ao,(ae 5),(c9 [(H9 aA)])])) (FN bH [(ae 5)])))) (AQ bH)))
abbrev aGg pD(aGq aGh fi axW aGi:D1):D1:=Rg 4 1 (ax aGq [ao,(Ξ 0)]) 2 (ax aGh [ao,(Ξ 40),aA]) (aa9 3 (LH fi [ao,(Ξ 39)] (Ξ 4)) (dM [(uk bR aGi [(ax P_ E8),(ax P_ [aD]),bA]),(ax axW [aA,aD,bA])]))
universe Sb
universe zE
universe zE
section
noncomputable section
namespace Sb
open PySem L2
abbrev aFU azg(ac5 adJ adY adZ aef ZW aeg aeh aGj:D1):D1:=iG 6 (ag3 4 (dC .ai) (Go [bj,gk,fo,i6] 4 5 (d6 (o3 WM) (FO ac5) (d6 (o3 BX) (FO adJ) (d6 (o3 ain) (FO adY) (d6 (o3 Ma) (Q8 adZ [ao,bA,aD]) (d6 (o3 LK) (Q8 aef CF) (d6 (arH (b! "go")) (NC ZW) (d6 (o3 LL) (NC aeg) (NC aeh))))))))) (uJ (xj (ui false) bH (dC .ai)) (b! "ok") (ax aGj [bH])))
abbrev aGr(axp Ax:D1):D1:=iG 6 (aa9 5 (ax axp [aA,aD,bA,bH]) (tB (ax Ax [ao,aD,bA,bH]) (ae 5)))
abbrev av9 pD(Y3 Ax:D1):D1:=zw 3 (eO (gT [(cu Ua (h9 (ċ bR Y3 ao E8)) (Ξ 1))]) (bT 2) (Hw (eJ true) (ax Ax [ao,LL,(Ξ 0),aA]) (b! "ok") (rQ .ah))) (zK .ah)
abbrev av0 pD(Ax aww dA:D1):D1:=Rh 7 4 (Fl (UZ aA "trains") aD) (eO (gT [(Ľ bH)]) (bT 5) (Hw (eJ true) (ax Ax [ao,(b! "go"),(Ξ 0),aD]) (b! "ok") (rQ .ah))) (eO (cj bA) (bT 6) (q1 (Pu (yI (cD (ax aww [ao,aD]))) (Jf (ax Ax [ao,WM,(ae 6),(Ξ 0)]) (b! "ok")) (c! (rQ .ah))) (eO (gT [(Ľ (Qw (ń aA) 6))]) (bT 5) (Hw (eJ true) (ax Ax [ao,(b! "go"),(Ξ 0),aD]) (b! "ok") (rQ .ah))))) (LD (Ht (cD (ax aww [ao,aD])) (c! (rQ .ah))) (zL (yI (cD abI)) (Jf (ax Ax [ao,(b! "go"),(Ξ 0),aD]) (b! "ok")) (c! (rQ .ah))) (T4 (tB (ax Ax [ao,LL,(Ξ 0),aD]) (b! "ok")) (ğ (aru bR dA ao [(oU (oU (H9 bH)))]) aD)))
abbrev aGk pD(zi fi axq axr Y3 aG0 aGs:D1):D1:=Wr 9 (Gj (ax zi CF) (o8 2 (mY (bT 1) (qO 2)))) (eO (gT [(LH fi [ao,(Ξ 38)] (Ξ 31))]) (bT 3) (q1 (Gj (ax axq [ao,(RS (Ξ 60) (Ξ 2) bA),aD]) (o8 3 (mY (bT 4) (mY (bT 5) (qO 6))))) (Ht (cD (ax axr [aA,aD,bH,(ae 5),(ae 6)])) (c! (rQ .ah))))) (S5 7 yK (yL (ox Mi) (eO (ox Mi) (bT 6) (lB gF (ae 6) (ċ bR Y3 aA [(ae 6)])))) (yL (ox Mi) (eO (ox Mi) (bT 6) (rP 8 (ax aG0 [aA,(ae 6)]) (VB (J4 gF (ae 6)) (L8 M9 (ae 8) (dC .ai) (q1 (Ht (cD (ax aGs [aA,aD,(ae 6),(ae 8)])) (c! (rQ .ah))) (xJ (ax OE [(aew (ox gF) (mX false [none,qB,some 7] (ox gF) (bT 0) oz (ğ (ċ bR Y3 aA CF) (Ť aD))))]) (c! (rQ .ah))))))))) (c! (zK .ah)))
universe Sb
universe zE
universe zE
section
namespace L2
open PySem
section
variable {ρ:aY}{M:ba}
@[simp] def aN gV:ae i ρ M=(match ρ[i]? with | G! x=>.ok x M | _=>aF):=rfl
@[simp] def bo gW:dC x ρ M=.ok x M:=rfl
@[simp] def bB:EP [] M=.ok [] M:=rfl
@[simp] def aP fM zc:EP (d::ds) M=Ab (dH).bind (p0 (į aa).bind xs (.ok (x::xs) M2)):=rfl
@[simp] def yC zc:dM ds ρ M=BR (ve).bind xs (.ok (aW xs) aa):=rfl
@[simp] def sM{l:Bool}zc:cb l ds ρ M=BR (ve).bind xs (uz l xs aa):=rfl
@[simp] def az{f:D2}{a b:bz}:cu f a b ρ M=Ab (a ρ M).bind (p0 (b ρ aa).bind y (f x y M2)):=rfl
@[simp] def bY{f:D1}zc:ax f ds ρ M=BR (ve).bind xs (f xs aa):=rfl
@[simp] def dn fM:cD d ρ M=Ab (dH).bind (LF aa x aa):=rfl
@[simp] def eF fM:bb d ρ M=Ab (dH).bind (match x with | .ah b=>.ok b aa | _=>aF):=rfl
@[simp] def ll{a b:iK}:mm a b ρ M=BR (a ρ M).bind k (oN k (b ρ aa) (.ok false aa)):=rfl
@[simp] def ZF{a b:iK}:wK a b ρ M=BR (a ρ M).bind k (if aL k then .ok true aa else b ρ aa):=rfl
@[simp] def TF{a:iK}:yI a ρ M=BR (a ρ M).bind k (.ok (! k) aa):=rfl
@[simp] def aex{t:iK}{a b:bz}:uJ t a b ρ M=BR (t ρ M).bind k (oN k (a ρ aa) (b ρ aa)):=rfl
@[simp] def aey{l:Bool}fM{dl YJ:Oz}:ax9 l d dl YJ ρ M=Ab (dH).bind (p0 (dl ρ aa).bind lo ((YJ ρ M2).bind λhi bq=>sX l x lo hi bq)):=rfl
@[simp] def adi:hE ρ M=.ok none M:=rfl
@[simp] def Zp fM:Dr d ρ M=Ab (dH).bind (match x with | η i=>.ok Xp aa | _=>aF):=rfl
@[simp] def a9b fM:AQ d ρ M=Ab (dH).bind (DA x aa):=rfl
@[simp] def a89{f:yS}fM zc:n8 f d ds ρ M=Ab (dH).bind (match NS aa x with | vB=>p0 (į aa).bind xs (f x xs M2) | none=>aF):=rfl
@[simp] def a9m:n9 ρ M=.nx ρ M:=rfl
@[simp] def a0H{a b:c6}:qx a b ρ M=(match a ρ M with | .nx ρ' M'=>b ρ' M' | o=>o):=rfl
@[simp] def a8Y fM:mU d ρ M=MJ (dH).out _ (.nx ρ aa):=rfl
@[simp] def a9c fM:c! d ρ M=MJ (dH).out x (.eW x aa):=rfl
@[simp] def a8Z:a4d ρ M=.eW .ai M:=rfl
@[simp] def a9d{t:iK}{a b:c6}:d6 t a b ρ M=MJ (t ρ M).out k (oN k (a ρ aa) (b ρ aa)):=rfl
@[simp] def a0I gV fM:mV i d ρ M=MJ (dH).out x (.nx (EO i) aa):=rfl
@[simp] def a9e fM G1:Gj d g ρ M=MJ (dH).out x (match g x ρ with | some ρ'=>.nx ρ' aa | none=>aF):=rfl
@[simp] def a9s gV gW:bT i x ρ=aT (EO i):=rfl
@[simp] def a9n:oz ρ M=.ok true M:=rfl
@[simp] def a8W qu zc:aym C ds ρ M=MJ (ve).out _ (bP C ρ aa):=rfl
@[simp] def ag rF{x:α}aat:(aiU x).bind f=f x M:=rfl
@[simp] def aw0 gC{x:α}:ahv g7 M=.ok x M:=rfl
@[simp] def aYc gC:(Res.opt none M:xV)=aF:=rfl
@[simp] def a2U gW:(Out.eW x M).res=.ok x M:=rfl
@[simp] def a2T:(Out.nx ρ M).res=.ok .ai M:=rfl
@[simp] def a0v rG:(Out.exc c ρ M).res=bP c M:=rfl
universe zE
abbrev Pl:Ő ak
 |0,x=>match x with
  |.ai=>True
  |η _=>True
  |av x=>ahe (av x)
  |_=>False
 |k+1,x=>match x with
  |.ai=>True
  |η _=>True
  |av x=>ahe (av x)
  |ς xs=>acf y k y
  |aW xs=>acf y k y
  |_=>False
def Tu rF{f:zT α β}{g:α->β}:∀UK,(HV x (f x=aT (g x)))->sd f=aT (xs.map g)
 |[],_=>rfl
 |x::xs,h=>by
  rw[iT N2 (h x Θ) (Tu (An (h y (h_ hy))))];rfl
abbrev lA l! nt:PyData:=(flat [] k x).getD cT
def lp ck:∀l! nt,Pl k x->flat M k x=aT (lA k x)
 |0,x,h=>by
  cases x<;>simp_all [Pl,lA,flat,leaf]
 |k+1,x,h=>by
  cases x with
  |lst xs=>
   rw[M4 h' (acf y k y) h e (∀N:ba,flat N (k+1) (ς xs)=atk E5 k) N (by
    rw[r3 flat (Tu (An (lp k y (h' y hy))))];rfl)]
   rw[e,lA,e];rfl
  |tup xs=>
   rw[M4 h' (acf y k y) h e (∀N:ba,flat N (k+1) (aW xs)=atk Xo k) N (by
    rw[r3 flat (Tu (An (lp k y (h' y hy))))];rfl)]
   rw[e,lA,e];rfl
  |_=>simp_all [Pl,lA,flat,leaf]
def alx ee ape:lA (k+1) (ς xs)=E5 (atb k):=by
 have e:flat [] (k+1) (ς xs)=atk E5 k:=by
  rw[r3 flat (Tu (An (lp k y (h y hy))))];rfl
 rw[lA,e];rfl
def aly ee ape:lA (k+1) (aW xs)=Xo (atb k):=by
 have e:flat [] (k+1) (aW xs)=atk Xo k:=by
  rw[r3 flat (Tu (An (lp k y (h y hy))))];rfl
 rw[lA,e];rfl
def aG1 ee(ih:∀x y,Pl k x->Pl k y->(aL (aif (lA k x) (lA k y))↔x=y)):∀xs ys:fK,(acf y k y)->(∀y∈ys,Pl k y)->(aL (PyData.eqvAll (atb k) (ys.map (lA k)))↔xs=ys)
 |[],[],_,_=>aBQ
 |[],y::ys,_,_=>aBQ
 |x::xs,[],_,_=>aBQ
 |x::xs,y::ys,hx,hy=>by
  rw[b6,b6,PyData.eqvAll,Bool.and_eq_true,ih x y (hx x Θ) (hy y Θ),aG1 ih xs ys (λz hz=>hx z (aK hz)) (λz hz=>hy z (aK hz))];simp
def yw ee:lA k .ai=cT:=by cases k<;>rfl
def yx ee iz:lA k (η i)=η i:=by cases k<;>rfl
def fx ee eS(h:ahe (av x)):lA k (av x)=av x:=by cases k<;>simp[lA,flat,leaf,h]
inductive Z6:Ő ak
 |ai ee:Z6 k .ai
 |int ee pF:Z6 k (η i)
 |str ee eS(h:ahe (av x)):Z6 k (av x)
 |lst ee ape:Z6 (k+1) (ς xs)
 |tup ee ape:Z6 (k+1) (aW xs)
def Pl.pk ee gW(h:Pl k x):Z6 k x:=by
 cases k with
 |zero=>
  cases x with
  |ai=>exact .ai
  |int i=>exact η i
  |str x=>exact av h
  |_=>exact h.elim
 |succ k=>
  cases x with
  |ai=>exact .ai
  |int i=>exact η i
  |str x=>exact av h
  |lst xs=>exact ς h
  |tup xs=>exact aW h
  |_=>exact h.elim
def aeK l!:∀(x y:ak),Pl k x->Pl k y->(aL (aif (lA k x) (lA k y))↔x=y):=by
 induction k with
 |zero=>
  intro x y hx hy;cases hx.pk with
  |ai=>cases hy.pk with
   |ai=>rw[atd yw]
   |int j=>rw[UX yw yx]
   |str h=>rw[CK yw h]
  |int i=>cases hy.pk with
   |ai=>rw[UX yw yx]
   |int j=>rw[atd yx]
   |str h=>rw[CK yx h]
  |str h=>cases hy.pk with
   |ai=>rw[CK yw h]
   |int j=>rw[CK yx h]
   |str h'=>rw[CK (fx h) h']
 |succ k ih=>
  intro x y hx hy;cases hx.pk with
  |ai=>cases hy.pk with
   |ai=>rw[atd yw]
   |int j=>rw[UX yw yx]
   |str h=>rw[CK yw h]
   |lst h=>rw[š yw h]
   |tup h=>rw[ţ yw h]
  |int i=>cases hy.pk with
   |ai=>rw[UX yw yx]
   |int j=>rw[atd yx]
   |str h=>rw[CK yx h]
   |lst h=>rw[š yx h]
   |tup h=>rw[ţ yx h]
  |str h=>cases hy.pk with
   |ai=>rw[CK yw h]
   |int j=>rw[CK yx h]
   |str h'=>rw[CK (fx h) h']
   |lst h'=>rw[š (fx h) h']
   |tup h'=>rw[ţ (fx h) h']
  |lst h=>cases hy.pk with
   |ai=>rw[š yw h]
   |int j=>rw[š yx h]
   |str h'=>rw[CK (alx h) h']
   |lst h'=>rw[alx h,alx h',PyData.eqv,aG1 ih _ _ h h'];simp
   |tup h'=>rw[ţ (alx h) h']
  |tup h=>cases hy.pk with
   |ai=>rw[ţ yw h]
   |int j=>rw[ţ yx h]
   |str h'=>rw[CK (aly h) h']
   |lst h'=>rw[š (aly h) h']
   |tup h'=>rw[aly h,aly h',PyData.eqv,aG1 ih _ _ h h'];simp
def aHl GW{p:Prop} [Decidable p] (h:aL b↔p):b=decide p:=by
 cases b<;>simp_all
def Zq pC aah ck{p:Prop} [Decidable p] (hx:G6 x)(hy:G6 y)(h:x=y↔p):eJ neg x y M=.ok (.ah (zl (decide p) (decide p))) M:=by
 rw[HD eJ (Rr x hx) (Rr y hy)];rw[aHl (eo (aeK deep x y hx hy) h)]
def N4 pC gC aaw aze azD [Decidable (a∈as)] {y:ak}ck(hy:ow M y=aT Va):
  JN Eh y=.ok (.ah (PS a as a as)) M:=by
 unfold lh
 rw[g6 hy]
 rw[Lj (Rr _ (hp a)) (Tu (g:=Xw) λz hz=>by
  rw[XQ b hz (Rr _ (hp b))])]
 have:((Va).map Xw).any (zj q q (lA deep Eh))=iR a as:=by
  refine aHl ?_;rw[aqM];constructor
  ·rintro⟨q,hq,he⟩;rw[rZ z hz hq];rw[rZ b hb hz];have:=inj _ _ ((aeK deep _ _ (hp b) (hp a)).mp he);rw[f7 this hb]
  ·intro hm;rw[Ci (j4 _ (j4 a hm)) ((aeK deep _ _ (hp a) (hp a)).mpr rfl)]
 rw[this]
def lZ ee pF:Pl k (η i):=by cases k<;>trivial
def TS ee:Pl k .ai:=by cases k<;>trivial
@[simp] def sI pC Pe:eJ neg (η i) (η j) M=.ok (.ah (zl (gS i j) (gS i j))) M:=Zq (lZ i) (lZ j) Θ
@[simp] def awE pC iz UL ck:JN (η i) (ς ĉ)=.ok (.ah (PS i ns i ns)) M:=N4 (enc:=ak.int) (λa=>lZ a) (λa b e=>by cases e;rfl) rfl
@[simp] def aIO pC iz UL ck:JN (η i) (aW ĉ)=.ok (.ah (PS i ns i ns)) M:=N4 (enc:=ak.int) (λa=>lZ a) (λa b e=>by cases e;rfl) rfl
def aGt gC{w:qj}G1{tc:iK}fM ck afD(P:R0)(f:α->ak)(R:cS aY)(hc:uF w M):
  ∀UJ(ρ:aY)(acc:fK),R ρ->(HV x (∀ρ,R ρ->∃ρ1,aqf (enc x)/\R ρ1/\tc ρ1 M=.ok (P x) M/\(aL (P x)->d ρ1 M=.ok (f x) M)))->at6 xs.length≤lim →
   tI w g tc d apB ρ M acc=.ok (acc++(xs.filter P).map f) M
 |[],ρ,acc,_,_,_=>aK tI
 |x::xs,ρ,acc,hR,h,hl=>by
  obtain⟨ρ1,h1,h2,h3,h4⟩:=h x Θ ρ hR;simp only[zE]at hl;rw[vU b6 tI h1];rw[h3,Res.aIy];cases hp:P x with
  |true=>
   rw[ek,h4 hp,Res.aIy,if_pos (aih hc),aGt enc P f R hc xs ρ1 _ h2 (An (h y (aK hy))) (by rw[f9]),List.filter_cons_of_pos hp];simp
  |false=>
   rw[aDJ,WC,aGt enc P f R hc xs ρ1 _ h2 (An (h y (aK hy))) aB,ahE hp]
def cf gC Pg{gg:tv}D7 G1{tc:iK}fM aas{w:qj}UK afD(P:R0)(f:α->ak)(R:cS aY)
  aNj(hR:R (DB gg ρ))(h:HV x (∀ρ,R ρ->∃ρ1,aqf (enc x)/\R ρ1/\tc ρ1 M'=.ok (P x) M'/\(aL (P x)->d ρ1 M'=.ok (f x) M')))(hl:aj0):
  mX live gg d7 g tc d ρ M=uz live ((xs.filter P).map f) M':=by
 unfold mX;rw[hi,ag,WC,aGt enc P f R hc xs _ _ hR h (aX hl)];rfl
def aZ5 D7 G1{s1:c6}aas d9{w:qj}(hi:Sq=.ok (xs,w) M')(hc:uF w M'):eO d7 g s1 ρ M=AR w g s1 xs ρ M':=by
 rw[jj eO hi Res.fg WC]
@[simp] def jL fM aas d9(h:dH=.ok (ς xs) M'):cj d ρ M=.ok (RN xs) M':=by rw[Hr cj h]
def aez fM aas bk d9(h:dH=.ok (ο n) M')(hn:M'[n]? = h7):cj d ρ M=.ok (xs,akO xs) M':=by rw[HD cj h ag];rw[hn]
def aKo fM aas d9(h:dH=.ok (aW xs) M'):alu d ρ M=.ok (RN xs) M':=by rw[Hr alu h]
abbrev avM c7 uW dY nt:Prop:=∃G,g xs M=.ok x (M++G)
def avM.trunc D8 Pj gW(h:avM g xs M x)(hb:asY x):Xx g xs=.ok x M:=by
 rw[ajq G h];rw[iT L2.trunc e (aJq Θ hb)]
universe L2
universe zE
section
namespace L2
open PySem
section
variable {Q:Ed}{ρ:aY}{M:ba}{s1 s2:c6}{d:bz}{t:iK}
abbrev Ee(Q:Ed)(s2:c6):Ed
 |.nx ρ M=>Q (s2 ρ M)
 |o=>Q o
def tn(h:Ee Q s2 (Iw M)):Q (qx s1 s2 ρ M):=by
 unfold qx;cases e:Iw M<;>rw[e]at h<;>exact h
def Of gV nt afV(q:Q (.nx (EO i) M')):Q (mV i d ρ M):=by
 rw[jA mV h q]
def ab1 gV nt afV(q:Q (s2 (EO i) M')):Q (qx (mV i d) s2 ρ M):=eK (Of x M' h q)
def ur(k:Bool)K1(h:t ρ M=.ok k M')(aE:aL k->Q (Iw M'))(aV:dj k->Q (s2 ρ M')):Q (d6 t s1 s2 ρ M):=by
 rw[B9 d6 h];cases k with
 |true=>exact aE rfl
 |false=>exact aV rfl
def OG K1(h:t ρ M=.ok true M')(aE:Q (Iw M')):Q (d6 t s1 s2 ρ M):=ur true M' h (λ_=>aE) nofun
def yH K1(h:t ρ M=.ok false M')(aV:Q (s2 ρ M')):Q (d6 t s1 s2 ρ M):=ur false M' h nofun (λ_=>aV)
def p6 nt afV(q:Q (.eW x M')):Q (c! d ρ M):=by
 rw[jA c! h q]
def uq nt afV(q:Q (.nx ρ M')):Q (mU d ρ M):=by
 rw[jA mU h q]
def aTc G1 nt(ρ':aY)afV(hg:aO (g x ρ) ρ')(q:Q (.nx ρ' M')):Q (Gj d g ρ M):=by
 rw[jj Gj h Res.fg hg];exact q
def dP(q:Q (.nx ρ M)):Q (n9 ρ M):=q
abbrev Body(w:qj)(R:aY->agj)(Q:Ed):Ed
 |.nx ρ M=>uF w M/\R ρ M
 |.ct ρ M=>uF w M/\R ρ M
 |.j6 ρ M=>Q (.nx ρ M)
 |o=>Q o
def ayh gC{w:qj}G1 afD(R:qy->aY->agj)UJ aNX
  aMV:
  ∀(post pre:qy)UG,xs=pre++post->R pre ρ M->Q (AR w g s1 (post.map enc) ρ M)
 |[],pre,ρ,M,e,h=>by rw[j?]at e;rw[f7 e (k ρ M h)]
 |x::post,pre,ρ,M,e,h=>by
  obtain⟨ρ1,h1,h2⟩:=hs pre x post e ρ M h;rw[vU b6 AR h1];cases e2:s1 ρ1 M with
  |nx ρ' M'=>
   rw[e2]at h2;rw[aqn (if_pos h2.1) (ayh enc R xs k hs post (pre++[x]) ρ' M' (by rw[fk e]) h2.2)]
  |ct ρ' M'=>
   rw[e2]at h2;rw[aqn (if_pos h2.1) (ayh enc R xs k hs post (pre++[x]) ρ' M' (by rw[fk e]) h2.2)]
  |j6 ρ' M'=>rw[bF e2 h2 h2]
  |eW x M'=>rw[bF e2 h2 h2]
  |exc c ρ' M'=>rw[bF e2 h2 h2]
  |bad=>rw[bF e2 h2 h2]
def sH gC D7 G1 afD(R:qy->aY->agj)UJ(w:qj)(aa:ba)(hi:Sq=.ok (apB,w) aa)(hc:uF w aa)(h0:R [] ρ aa)
  aMV aNX:Q (eO d7 g s1 ρ M):=by
 rw[jj eO hi Res.fg WC];exact ayh enc R xs k hs xs [] ρ aa rfl h0
abbrev Fin(P:aOQ)(o:Out):Prop:=P o.res
def ak6 bk d9{d:c6}Uv(h:Fin P (d (asA++auO n) M)):P (F2 n d xs M):=h
def eX Uv gW(h:P (.ok x M)):Fin P (.eW x M):=h
def p8 Uv(h:P (.ok .ai M)):Fin P (.nx ρ M):=h
def dq Uv rG(h:P (bP c M)):Fin P (bP c ρ M):=h
def aEI(h:Q (s2 ρ M)):Ee Q s2 (.nx ρ M):=h
def p7 gW(h:Q (.eW x M)):Ee Q s2 (.eW x M):=h
def lu rG(h:Q (bP c ρ M)):Ee Q s2 (bP c ρ M):=h
def Ar azm(hc:uF w M)(h:R ρ M):Body w R Q (.nx ρ M):=⟨hc,h⟩
def aeb azm gW(h:Q (.eW x M)):Body w R Q (.eW x M):=h
def aXR azm rG(h:Q (bP c ρ M)):Body w R Q (bP c ρ M):=h
universe zE
@[simp] def awF ck w6:asW (M++[o]) o:=Θ
@[simp] def axx ck{o o':fu}:Đ (M++[o]).set o'=M++[o']:=Θ
def axX bk:∀d9,(HV x (oW x))->aL (Wk n)
 |[],_=>k6 ak.Dy
 |x::xs,h=>by rw[ak.Dy,h x Θ,axX (An (h y (aK hy)))];rfl
def axY bk d9(h:HV x (oW x)):oW (ς xs):=by rw[ah4 (axX h)]
def aSJ bk d9(h:HV x (oW x)):oW (aW xs):=by rw[ah4 (axX h)]
@[simp] def aZ6 bk iz:oW (η i):=ath
@[simp] def aZ7 bk:oW .ai:=ath
@[simp] def a9f bk eS:oW (av x):=ath
@[simp] def a9o bk GW:oW (.ah b):=ath
universe L2
universe zE
end
mutual
section
namespace L2
open PySem PySem.Spec PyProof.Rows
abbrev aeZ dz:wV:=λvs H Q E=>∃(a:Addr) (ns:fX),vs=[V.ref a]/\iI K H a Ii/\∀H',nD (fB .ah)
def a80 kQ D8(hg:∀ns M,∃M',g [.pj ns] M=.ok (fB .ah) M')w4 iM pI Bk(h:aeZ K vs H Q E):Qr K 1 g vs H Q E:=by
 rw[dJ a ns hS q h];rw[agH M' e (hg ns []) ⟨rfl,[],H,[],[.pj ns],pV (m6.refl H) List.nodup_nil (λn a o h=>nomatch h),.one (bp.amK.mpr (h! a hS)),?_⟩];rw[e];intro ι' S' H' v _ _ r;rw[au aix (q H')]
def aWm kQ D8(hg:∀ns,∃M',g [.pj ns] []=.ok (fB .ah) M')w4 iM pI Bk(h:aeZ K vs H Q E):Qr K 1 g vs H Q E:=by
 rw[dJ a ns hS q h];rw[agH M' e (hg ns) ⟨rfl,[],H,[],[.pj ns],pV (m6.refl H) List.nodup_nil (λn a o h=>nomatch h),.one (bp.amK.mpr (h! a hS)),?_⟩];rw[e];intro ι' S' H' v _ _ r;rw[au aix (q H')]
def a5M{p:cS Addr}{a b c d:Addr}(ha:p a)(hb:p b)(hc:p c)(hd:p d):∀x∈[a,b,c,d],p x:=by
 rw[ą x hx hx];rcases hx with rfl | rfl | rfl | rfl
 ·exact ha
 ·exact hb
 ·exact hc
 ·exact hd
def a8e{p:Addr->cS Bool}aOp(ha:p a x)(hb:p b y)(hc:p c z)(hd:p d u):∀C k,rS ([(a,x),(b,y),(c,z),(d,u)]:tV) C k->p C k:=by
 intro C k h;simp only[List.lookup]at h;split at h
 ·rw[WX];cases h;rw[apP e ha]
 split at h
 ·rw[WX];cases h;rw[apP e hb]
 split at h
 ·rw[WX];cases h;rw[apP e hc]
 split at h
 ·rw[WX];cases h;rw[apP e hd]
 cases h
def yv.bad KY eS GR O6 ee az1:Sv P w K mg (k+1) x ps.length (Mm (cK _ aF)):=
 yv.of D S λf md A outer s H E hr=>⟨PU s1 σ H1 D I h (by
  obtain⟨_,_,_,_,_,_,h⟩:=h
  exact h.elim)⟩
universe L2
universe zE
section
namespace L2
open PySem PySem.Spec PyProof.Rows PySem.W
section
variable {K:ff}{hp:Heap}{mg:Str->gK}{x m q:Str}{st:Stmt}{ps:gM}{C:Addr}
inductive FnAt dz(v:XF)(x q:Str)(st:Stmt):Prop
 |mk{f:Addr}{oc kV o6 pm cd ct:Value}{od an:US}{sl:Array gK}(a:v=XE f)
  (l:ar5 f ⟨oc,od,.func (ap4 x q (J2 st) (F5 st) (aw st) cT o6 pm an cd ct),sl⟩)(c:aq7 K cd q)(k:VK K (Δ f))(j:aqD K (Δ f)):FnAt K v x q st
abbrev aw1(x q:Str)apd:Prop:=∀aOD(md ct:Value)Bf,aCW->aDr (ap4 x q (J2 st) (F5 st) (aw st) cT doc pm an md ct) us=Hv WG
abbrev aQM:Ő (cS b3)
 |0,P=>P []
 |n+1,P=>∀a,aQM n λus=>P (a::us)
def ar:∀bk{P:cS b3},aQM n P->∀us:b3,us.length=n->P us
 |0,_,h,[],_=>h
 |n+1,P,h,a::us,e=>ar (n:=n) (P:=λus=>P (a::us)) (h a) us (Nat.succ.inj e)
def FnAt.de(h:bK x x x st)aNk(b:aw1 x x st ps:=by intro _ _ _ _ _ _;refine ar ?_;(repeat intro _);rfl):cO x st ps:=by
 rw[vf a l c k j h _ _ (ZK l c k) (xq a) ((ZK l c k).binds b)]
def FnAt.me(h:ahu K (Δ C) m m q st)(c:Mo K C)(b:aw1 m q st ps:=by intro _ _ _ _ _ _;refine ar ?_;(repeat intro _);rfl):aeM K C m q st ps:=by
 rw[G? a l c' k j h ⟨_,_,ZK l c' k,⟨a,j,k⟩,c,(ZK l c' k).binds b⟩]
def FnAt.aFg(h:ar8 K (Δ C) q st)(mk:aL (makesIn K C))(a7A:aL (keepIn K (Δ C)))(nm:mg x=kZ C)(b:aw1 "__init__" q st ps:=by intro _ _ _ _ _ _;refine ar ?_;(repeat intro _);rfl):aeN K mg x C q st ps:=by
 rw[G? a l c k j h ⟨_,_,ZK l c k,⟨mk,a,j,a7A⟩,nm,(ZK l c k).binds b⟩]
def FnAt.avK{fa:Addr}(h:bK "law" "law" "law" st)aNk(e:mg "law" = kZ fa):∃kV o6 pm an cd ct,Gx K "law" "law" st fa (ap4 "law" "law" (J2 st) (F5 st) (aw st) cT o6 pm an cd ct):=by
 obtain⟨a,l,c,k,j⟩:=h;cases e.symm.trans (xq a);exact⟨_,_,_,_,_,_,ZK l c k⟩
structure an3 dz nr nk:Prop where
 a:nsIn K mainGlobals x=XE C
 e1:ai0 (Δ C) "__getattribute__" = aPf gy
 e2:G_ (ai0 (Δ C) "__getattr__") none
 e3:ai0 (Δ C) "__class__" = aAT gy
 e4:PF (mroIn K C akT)
 e5:PF (mroIn K C ajE)
 e6:aL (isClsIn K C)
 FZ:specialIn K I? "__get__" = aAp gy
 et:PF (takesIn K I?)
def an3.xc(h:an3 K x C):ano K C:=⟨h.e1,h.e2,h.e3,h.FZ,h.et,h.e4,h.e5,h.e6⟩
structure Z2 dz nr nk:Prop where
 a:nsIn K mainGlobals x=XE C
 aFy:aL (plainGet K C Str.empty)
 hd:aL (hasDictIn K C)
 po:aL (plainOver K C)
 sa:ai0 (Δ C) "__setattr__" = aBt gy
def Z2.cl(h:Z2 K x C):Mo K C:=⟨h.aFy,h.hd,h.po,h.sa⟩
def Z2.fd(h:Z2 K x C)GY(n:aO (ai0 (Δ C) f) none):N1 K C f:=⟨h.cl,n⟩
universe zE
structure aoi where
 P:Program
 w:World
 K:ff
 mg:Str->gK
 base:Heap
noncomputable abbrev Fn(z:aoi):=yv z.P z.w z.K z.mg z.base
noncomputable abbrev Uj(z:aoi):=uG z.P z.w z.K z.mg z.base
noncomputable abbrev In(z:aoi):=sU z.P z.w z.K z.mg z.base
section
variable {P:Program}{w:World}{K:ff}{mg:Str->gK}{base:Heap}{x m q:Str}{st:Stmt}{N ps:gM}{k j n:Nat}{d:c6}{C:Addr}{g:D1}
def bE{sc:Scope}(a:sc.kind=Il:=by rfl)(b:aMt:=by rfl)(c:aMu:=by rfl)(d:N.Nodup:=by rw[ö])(e:N.take ps.length=ps:=by rfl)
  (f:∀x∈ps,Ì xE \/ akI:=by rw[ö])(g:∀y∈sc.names,y.2≠k!:=by rw[ö]):agE N ps sc:=⟨a,b,c,d,e,f,g⟩
def yv.go az1
  (hb:∀aoj Uu,rN (å x f)->Good (K! x) (λ_=>E) →
   â (K! x) (λ_=>E) d):Sv P w K mg (k+1) x ps.length (Mm d):=yv.of D S λf md A outer s H E hr=>hb f md A outer s H E hr (amW S hr)
def uG.go aON
  aOg:uG P w K mg base (k+1) C m ps.length (Mm d):=uG.of D S λf md A outer s H E hr=>hb f md A outer s H E hr (amW S hr)
def sU.go aOs
  aOg:sU P w K mg base (k+1) x C ps.length (Mm d):=sU.of D S λf md A outer s H E hr=>hb f md A outer s H E hr (amW S hr)
def a3Z aom(F:Gx K x q st f fd)af9
  (hb:∀(md:Value)Uu,rN (å q f)->Good (K! q) (λ_=>E) →
   â (K! q) (λ_=>E) d):rf P w K mg base (lG P w) (k+1) f fd ps (Qr K ps.length (Mm d)):=anc F S λmd A outer s H E hr=>hb md A outer s H E hr (amW S hr)
def yv.up aOJ azf:Sv P w K mg k x n g:=ŏ
def uG.up aM4 azf:uG P w K mg base k C m n g:=ŏ
def sU.up aM5 azf:sU P w K mg base k x C n g:=ŏ
universe zE
universe L2
universe zE
section
namespace Hd
open PySem PySem.Spec PyProof.Rows PySem.W L2
section
variable {K:ff}{l:List g!}{e:g!}
def Sat.at(h:Sat K l)iy(hi:jl l e):e.1 K=e.2:=h _ aPr
def ae0{f:nC ff}(h:(eb f).1 K=(eb f).2):aL (f K):=by
 have h':DM.b (aT (f K))=DM.b (some true):=h;injection h' with h1;injection h1
def anv{f:zT ff Bool}{v:aDY}(h:(gB f v).1 K=(gB f v).2):f K=v:=by
 have h':DM.b (f K)=DM.b v:=h;injection h'
def Ov{f:ff->XF}{v:XF}(h:(ev f v).1 K=(ev f v).2):f K=v:=by
 have h':DM.v (f K)=DM.v v:=h;injection h'
def a30{g:ff->XF}{x q:Str}GR(h:(bx g x q st).1 K=(bx g x q st).2):FnAt K (g K) x q st:=by
 have h':DM.f (ayK K (g K) q)=DM.f (mO (PySem.W.fnOf x q (J2 st) (F5 st) (aw st) cT cT cT cT none cT cT) true):=h
 injection h' with h1;unfold ayK at h1;split at h1
 ·rename_i f hf;split at h1
  ·rename_i a1 a2 fd a4 hl;injection h1 with h2;injection h2 with h3 h4;rw[aq8 h4];obtain⟨⟨h5,h6⟩,wk⟩:=h4;obtain⟨n1,n2,n3,n4,a9U,a9V,adl,a9W,a9X,a9O,a9P,a9Q,a9R,a9S,a9T⟩:=fd;simp only[PySem.W.fnOf,FuncData.mk.injEq]at h3;obtain⟨rfl,rfl,rfl,rfl,rfl,rfl,rfl,rfl,_,_,_,_,_,_,rfl⟩:=h3;exact .mk hf hl h5 h6 wk
  ·cases h1
 ·cases h1
def a31 eS qu(h:Sat K (Ur x C)):an3 K x C:=
 ⟨Ov (xG 0),Ov (xG 1),Ov (xG 2),Ov (xG 3),anv (xG 4),anv (xG 5),ae0 (xG 6),Ov (xG 7),anv (xG 8)⟩
def a33 eS qu(h:Sat K (ak9 x C)):Z2 K x C:=
 ⟨Ov (xG 0),ae0 (xG 1),ae0 (xG 2),ae0 (xG 3),Ov (xG 4)⟩
variable {L:EY (List g!)}{g:List g!}
def All.at UA(hi:jl L g):Sat K g:=h _ aPr
def All.b UA{f:nC ff}(hi:jl L [eb f]):aL (f K):=ae0 ((aaS i).at 0 rfl)
def All.o UA{f:zT ff Bool}{v:aDY}(hi:jl L [gB f v]):f K=v:=anv ((aaS i).at 0 rfl)
def All.v UA{f:ff->XF}{v:XF}(hi:jl L [ev f v]):f K=v:=Ov ((aaS i).at 0 rfl)
def All.f UA{g:ff->XF}{x q:Str}GR(hi:jl L [bx g x q st]):FnAt K (g K) x q st:=a30 ((aaS i).at 0 rfl)
def All.x UA eS qu(hi:zP L i (Ur x C)):an3 K x C:=a31 (aaS i)
def All.c UA eS qu(hi:zP L i (ak9 x C)):Z2 K x C:=a33 (aaS i)
universe zE
def a2z{l:PySem.W.OpenLaw}{n k:Nat}{q:Program}aNA{d:DefRec}{fT:World->sV}{sp:ff->wV}eS{as:c5}{L:EY (List g!)}
  azp(uK:jy n)aOu(hr:rN callerA)
  (F:∀(w:World)(mg:Str->gK)(fa:Addr)Bp dz,K.In h->All L K->h.Ns mainGlobals mg->mg d.name=kZ fa →
   ∃fd:FuncData,(∀kP GU,BindsTo s fd (rV [u]) [(x,u)]) ∧
    ∀base:Heap,att->arb mg->rf l.prog w K mg base (fT w) k fa fd [x] (sp K))
  (OZ:∀dz O? Bd,asl n->aEp H->iI K H a Ii->sp K [Δ a] H (λv _=>v=fB .ah) λ_ _ _=>False)
  (aEW:∀(w:World)jR kP aoG,fT w [] H s (λ_ _ _=>False) e s'->False):
  PySem.W.WalkO q loose XP (hook as L).says l.row.toRowW d [] (λf vs=>PySem.call f vs):=by
 refine aHn.aT7 hn hdf λw s₀ s₁ mg mb fa o pm cd doc a vs ns G Y ho hd yU YW aEo hints hlen hg=>?_;rw[Le K iw hK Y fd hb hF (F w mg fa _ K iw hK G.T.g YW)];exact aX6 iw G.T.g G.T.b G.T.builtins G.T.nolimit hg aEo hints (Nat.le_trans hlen uK) hr hF hb (λH hO hS=>OZ K H a ns hlen hO hS) λH e s'=>aEW w H s₁ e s'
universe Hd
universe zE
section
namespace Sb
open PySem L2
inductive fy where
 |pl(j k:Int)
 |pt(t s b:Int)
abbrev fy.js:fy->fX
 |.pl j k=>[j,k]
 |.pt t s b=>[t,s,b]
abbrev fy.enc:fy->ak
 |.pl j k=>aW [Xa,η j,η k]
 |.pt t s b=>aW [W_,η t,η s,η b]
noncomputable abbrev alD:=List fy
noncomputable abbrev aQQ jS:ak:=ς arw
noncomputable abbrev Z8:=Int×Nat
abbrev fQ(s:Z8):ak:=aW [η s.1,η s.2]
noncomputable abbrev YH(ss:Br):ak:=ς (ss.map fQ)
noncomputable abbrev q6:=Nat×Int×Int
abbrev bw mh:ak:=aW [η s.1,η s.2.1,η s.2.2]
noncomputable abbrev b9 lK:ak:=ς LB
noncomputable abbrev afi:=Nat×fU
abbrev Gp(r:afi):ak:=aW [η r.1,b9 r.2]
noncomputable abbrev AA(rs:w9):ak:=ς (rs.map Gp)
abbrev bu:fO->ak
 |none=>.ai
 |some n=>η n
noncomputable abbrev je Bd:ak:=ς ĉ
noncomputable abbrev bU(ns:ef):ak:=ς (ns.map (M? (n:Nat)))
abbrev fy.at jS dh:fy:=ps.getD n (.pl 0 0)
abbrev beyond jS w7 rD:fO:=(z3).find? λk=>d! (k≠a)&&iR j (eV k).js
abbrev yP rK rD:fX:=match p with
 |.pl a b=>[a,b].filter (pX o o j)
 |.pt t s b=>if j=t then[s,b] else[t]
def anr(s:Z8):G6 (fQ s):=by
 rw[ą y hy hy];rcases hy with rfl | rfl<;>exact lZ _
def ani(a b:Z8)(h:fQ a=fQ b):a=b:=by
 rw[À a1 a2 a b1 b2 b];simp[fQ]at h;rw[vE h];subst h1
 have:a2=b2:=aB
 subst this;rfl
@[simp] def aZ8 pC Po bk{ss:Br}ck:JN (aW [η j,η n]) mL=.ok (.ah (PS (j,n) ss (j,n) ss)) M:=by
 rw[RO (JN (fQ (j,n)) _=_) (N4 (enc:=fQ) anr ani (a:=(j,n)) pv)]
@[simp] def Y9 rK dY:ej agm M=.ok (je p.js) M:=by cases p<;>rfl
@[simp] def a9t ck:ő Xa Xa M=.ok (fB .ah) M:=cI
@[simp] def a9p ck:ő W_ Xa M=.ok (qJ .ah) M:=cI
@[simp] def a9q ck:ő Xa W_ M=.ok (qJ .ah) M:=cI
@[simp] def a9r ck:ő W_ W_ M=.ok (fB .ah) M:=cI
def aep d9 gV gW ck(h:zu):akQ xs i=.ok x M:=by
 have hl:JA:=Lq.1;simp only[fN,aYe,uM,A0];rw[B8,B8];simp[h]
def Ay d9 gV gW ck(h:zu):akP xs i=.ok x M:=by
 have hl:JA:=Lq.1;simp only[fN,pv,uM,A0];rw[B8,B8];simp[h]
@[simp] def Og gW Pj:akQ (x::xs) 0=.ok x M:=aep (i:=0) rfl
@[simp] def a34 aah Pj:akQ (x::y::xs) 1=.ok y M:=aep (i:=1) rfl
@[simp] def ZS{x y z:ak}Pj:akQ (x::y::z::xs) 2=.ok z M:=aep (i:=2) rfl
@[simp] def a35{x y z u:ak}Pj:akQ (x::y::z::u::xs) 3=.ok u M:=aep (i:=3) rfl
@[simp] def cn Pj(h:aj1):L9 xs M=.ok (ς xs) M:=gG (jk h)
def Za rK Pk:alH ej [p.enc,η j] M=.ok (je (yP p j)) M:=by
 cases p with
 |pl a b=>
  have e:=Y9 (.pl a b) M;simp only[fy.enc]at e;rw[as9 alH F2];simp;rw[We [a,b] w M ak.int (pX o o j) ak.int (nZ (ρ=[y,xt])) (by simp[e];rfl) (qM x) (jk (show 2≤3 by decide))]
  ·rw[cU (cn (by rw[vm (abA (show lO 2 by decide))]))]
  ·rw[Vu y hρ (PE _ jD Θ (ID _))]
 |pt t s b=>
  rw[as9 alH F2];simp;by_cases h:j=t<;>simp[h,yP]
def aec uX bk(h:pO n):zP ps n (eV n):=by
 unfold fy.at;rw[ap3 h];rfl
def ayi uX bk(h:pO n):eV n∈ps:=aAV (aec h)
def Oh uX bk ck(h:pO n):vK ic n=.ok (eV n).enc M:=Ay (by rw[g_,aec h];rfl)
abbrev DP jS rD:ef:=NH z3 (x8 k (j∈(eV k).js))
def aXS jS:J9 arw=(z3).map λk=>aW [η k,(eV k).enc]:=by
 refine apT i;unfold J9;rw[g_,List.getElem?_zipIdx,g_,g_];rw[jq (pO i)]
 ·rw[aec h,aA3];simp
 ·rw[Ū,E1 (by rw[f9])];rfl
def aH9 bk(h:lO n):iF oH lim:=by
 rw[ahb (jk h)]
def To jS Pk(hl:Ex):Y4 ej [ic,η j] M=.ok (bU (DP ps j)) M:=by
 simp only[Y4,F2];simp;rw[cf (xs:=z3) (w:=none) (M':=M) (λk=>aW [η k,(eV k).enc]) (x8 k (j∈(eV k).js)) (fun(k:Nat)=>η k) (λρ=>∃y z,ρ=[y,z,xt]) ?_ trivial (jc none none) (qM x) (aH9 hl)]
 ·rw[cU (cn (by rw[vm (abA (by rw[ahb hl]))]))]
 ·unfold als;simp[aXS]
 ·rw[ù y z rfl hρ (PE _ (sj _) Θ (ID _))]
def YM jS dh Pk(hl:Ex):alz (Y4 ej) [ic,η n,η j] M=.ok (bu (BJ n j)) M:=by
 have loop:∀(xs:ef)(y:pJ),qx (AR none (bT 3) (d6 (bb (kT (eJ true) aA)) (c! bA) n9) (xs.map (M? (n:Nat)))) (c! (dC .ai)) [pR,dR n,xt,y] M=.eW (bu (xs.find? (pX k k n))) M:=by
  intro xs
  induction xs with
  |nil=>rw[ab6 y]
  |cons x xs ih=>
   intro y;rw[jq (x=n)]
   ·subst h;have:=ih aZ;simp[AR]at this⊢;rw[zp]
   ·have h':¬aU x=n:=aB
    simp[AR,h,h',bu]
 simp only[alz,F2];have:=loop (DP ps j) none;simp only[a0H]at this⊢;rw[fk (aZ5 (w:=none) (M':=M) (jL (by rw[vm (To ps j M hl)])) trivial)];rw[Ē];rw[this];simp[DP,beyond,Bool.and_comm]
universe Sb
universe zE
section
namespace Sb
open PySem L2
def a2A bk mh:oW (bw s):=auZ (by
 rw[Lv hx];rcases hx with rfl | rfl | rfl<;>simp)
def ayP bk lK:oW (b9 w):=axY (yq (by
 rw[XQ s hx (a2A s)]))
def a36 bk(r:afi):oW (Gp r):=auZ (by
 rw[Lv hx];rcases hx with rfl | rfl
 ·simp
 ·exact ayP _)
def amE bk gC aaw(h:∀a,oW Eh)(as:qy):oW (ς Va):=axY (yq (by
 rw[XQ a hx (h a)]))
abbrev aRO zb:CS fU (Int->qA (EY fU))
 |0,_,_,_=>[]
 |n+1,way,j,a=>if a∈S7 then[] else(yP (eV a) j).flatMap λo=>match IC o with
  |none=>[way++[(a,j,o)]]
  |IF=>if(o,b)∈ss then[way++[(a,j,o)]] else Q5 n (way++[(a,j,o)]) o b
def axy rK rD:iF (yP p j) 2:=by
 cases p with
 |pl a b=>exact Jh
 |pt t s b=>rw[pU yP];split<;>simp
def adE uX aab Po(h:ahC a j b):pO b/\b≠a/\j∈(eV b).js:=by
 rw[nN beyond];rw[k9 aPT aBP];simp at h1 h2;rw[b5 h1 h2.1 h2.2]
def Zr rF{f:α->ajI}ee:∀UJ,(HV x (iF (f x) k))->iF (xs.flatMap f) (xs.length*k)
 |[],_=>Θ
 |x::xs,h=>by
  rw[k9 (h x Θ) (Zr xs (An (h y (aK hy))))];rw[List.flatMap_cons,List.length_append,zE,Nat.succ_mul];omega
abbrev AD zb aoJ rD w7(o:Int):EY fU:=match IC o with
  |none=>[way++[(a,j,o)]]
  |IF=>if(o,b)∈ss then[way++[(a,j,o)]] else Q5 n (way++[(a,j,o)]) o b
def adm zb aoJ rD w7:Xd (n+1) j a=if a∈S7 then[] else(yP (eV a) j).flatMap (AD ps ss n way j a):=rfl
def ads zb:∀aoJ rD w7,iF (Xd n j a) (2 ^ n)
 |0,way,j,a=>yb
 |n+1,way,j,a=>by
  rw[adm];split
  ·simp
  ·have h:∀o∈yP (eV a) j,iF (AD ps ss n way j a o) (2 ^ n):=λo _=>by
    have:=aPt n;unfold AD;split
    ·rw[zp]
    ·split
     ·rw[zp]
     ·exact ads ps ss n _ _ _
   rw[k9 (Zr _ h) (Nat.mul_le_mul_right (2 ^ n) (axy (eV a) j))];rw[nQ Nat.pow_succ]
def awG zb aoJ rD w7(o:Int):iF (AD ps ss n way j a o) (2 ^ n):=by
 have:=aPt n;unfold AD;split
 ·rw[zp]
 ·split
  ·rw[zp]
  ·exact ads ps ss n _ _ _
def aJj bk(h:n≤20):2 ^ n≤1048576:=Nat.pow_le_pow_right a_ h
structure Oi jS(way:fU)w7:Prop where
 fc:VJ 16
 lt:pO a
 nd:gE S7
 all:nO way (pO s.1)
def Oi.step uX{way:fU}aab{j o:Int}(h:Oi ps way a)(ha:a∉S7)(hb:ahC a o b):Oi ps (way++[(a,j,o)]) b:=by
 refine⟨h.fc,(adE hb).1,?_,C2⟩
 ·rw[aPI];rw[d_ h.nd Θ (i? x hx y hy)];rw[L1 hy hy];rintro rfl;exact ha hx
 ·rcases aA1 with hs | hs
  ·exact h.all s hs
  ·rw[Ñ hs hs h.lt]
def Zj:∀bk{xs:ef},xs.Nodup->(HV x (x<n))->SU n
 |0,xs,_,hl=>by
  cases xs with
  |nil=>simp
  |cons x xs=>rw[n0 (hl x Θ) aB]
 |n+1,xs,h,hl=>by
  rw[bM h1 (gE (xs.erase n)) (h.erase n) h2 (∀x∈xs.erase n,x<n) (yq (by
   rw[fG h3 (hl x (List.mem_of_mem_erase hx)) h4 (x≠n) (dF (by subst e;exact(h.not_mem_erase) hx))]
   omega))]
  rw[cH h3 (Zj h1 h2) h4 (List.length_erase_le (a:=n) (l:=xs))];rw[abx (n∈xs)]
  ·rw[List.length_erase_of_mem hm]at h3;omega
  ·rw[List.erase_of_not_mem hm]at h3;omega
def Oi.len uX{way:fU}{a:Nat}(h:Oi ps way a):U_ way.length:=by
 rw[Pw (Zj h.nd (yq (by
  rw[BC s hs hx (h.all s hs)])))]
abbrev ans dh c7:Prop:=∀ps ss way j a M,Oi ps way a->ps.length+1≤way.length+n->n≤20->g [ic,mL,b9 way,η j,η a] M=.ok (ς ((Xd n j a).map b9)) M
def aKB{way:fU}{a:Nat}ck:ŕ (η a) (ς (aCR s s.1)) M=.ok (.ah (iR a S7)) M:=by
 have e:(aCR s s.1)=(way.map λs=>aU (s.1:Nat)).map ak.int:=Θ
 rw[e,awE]
 have:(aU a∈way.map λs=>aU (s.1:Nat))↔a∈S7:=by
  simp only[List.mem_map];constructor
  ·rintro⟨s,hs,h⟩;rw[b5 s hs aB]
  ·rintro⟨s,hs,h⟩;rw[b5 s hs aB]
 simp only[this];rfl
def aKC pB{way:fU}iy(h:t6 i ajZ)(hl:lO way.length):WB xB (cj (ae i)) oz (jm 0) ρ M=.ok (ς (aCR s s.1)) M:=by
 rw[Xc way w M bw (B_ s s.1) (nZ (ρ=[y])) (jL (zq h)) (qM x) Mw]
 ·rw[BI _ _,cn (by rw[nJ hl])]
 ·rw[MH y _ (λ_=>QJ)]
def a2B bk D8(h:ans n g):ans (n+1) (C1 (Ap (alH ej) (alz (Y4 ej)) g)):=by
 intro ps ss way j a M ok hn uK;rw[cH hl ok.len hf ok.fc];rw[gp (Qm (amE ayP _)) (Sd P r (∃G,r=.ok _ (M++G)))];simp only[b6,zD,zE,m9,Nat.zero_add,Nat.reduceAdd,Nat.reduceSub,List.replicate,m_,l5]
 rw[v7 lH (bb (cu (lh false) bH (W9 (cj aD))) [pR,Eu,ajZ,xt,dR a,none,none,none,none] M=.ok (iR a S7) M) (by
  simp only[eF,az,aN,bf,a!,ag];rw[aKC (way:=way) 2 rfl aB];rw[tT aKB]) (ŗ _ _ lH (cJ ha) ha)]
 ·rw[apU GB ha (p6 (ς []) M Θ (p7 (eX (k7 []))))];rw[Fq adm GB];simp
 ·rw[cW GB (of_decide_eq_false ha) (dP (eZ (W7 (M++[ς []]))))];rw[xH (sH ak.int (kG (∃y6 y7 y8,ρ=[pR,Eu,ajZ,xt,dR a,gR,y6,y7,y8]/\M'=M++[ς ((mw).map b9)])) (yP (eV a) j) none _
   (jL (f_ (Oh ok.lt) Za)) trivial (ajX none none none) ?_ ?_)]
  ·rintro pre o post hx ρ M' ⟨y6,y7,y8,rfl,rfl⟩
   rw[Wg i7 (iF mw (2*2 ^ n)) (by
    rw[fG h1 (Zr pre λo _=>awG ps ss n way j a o) h2 (aDT 2) (by
     have:=axy (eV a) j;rw[nG hx this this];omega)]
    exact S_ h1 (Nat.mul_le_mul_right _ h2)) wI (awG ps ss n way j a o) pn (aJj (n:=n) aB)];rw[CE _];rw[vV (b9 (way++[(a,j,o)])) (M++[ς ((mw).map b9)]) (by simp[bw];rw[cn (by rw[f9])];simp[bw])]
   rw[vV (bu (IC o)) (M++[ς ((mw).map b9)]) (aK (YM _ _ _ _ (show Ex by omega)))]
   rw[gn];rw[aBL j?];cases hb:IC o with
   |none=>
    refine OG (M++[ς ((mw).map b9)]) (Xl bu ui J8) (uq .ai (M++[ς ((mw++[way++[(a,j,o)]]).map b9)]) (by simp[q9,lI,lim,-List.length_flatMap];omega) (jz (Jk _ _ ?_)));simp[AD,hb]
   |some b=>
    refine ŗ (iR (o,b) ss) (M++[ς ((mw).map b9)]) (Xl bu ui J8) (cJ hs) hs
    ·rw[apU fe hs (uq .ai (M++[ς ((mw++[way++[(a,j,o)]]).map b9)]) (by simp[q9,lI,lim,-List.length_flatMap];omega) (jz (Jk _ _ ?_)))];simp[AD,hb,fe]
    ·rw[cH fe (of_decide_eq_false hs) hg (h ps ss (way++[(a,j,o)]) o b (M++[ς ((mw).map b9)]) (ok.step GB hb) (by rw[f9]) aB)];simp only[AD,hb,if_neg fe]at wI⊢;refine E_ .ai (M++[ς ((mw++Q5 n (way++[(a,j,o)]) o b).map b9)]) (jz (Jk _ _ rfl));simp[bu,amV,lI]at hg⊢;rw[hg];simp[lim,-List.length_flatMap];omega
  ·rw[L6 M' y6 y7 y8 rfl rfl];refine Rj (ς ((Xd (n+1) j a).map b9)) (M++IX) akN;rw[adm,if_neg GB];simp[DA]
universe Sb
universe zE
end
mutual
section
namespace Sb
open PySem L2
def a5N dh:qm 0 n=(oH).map (gQ (k:Nat) k):=by
 rw[zY qm (List.map_congr_left λk _=>?_)];simp
def vT fM pB aN4(hn:n≤100000):gT [d] ρ M=Dc .ok (oH).map (k:Nat) M:=by
 have e:EP [d] M=.ok [η n] M:=by rw[aP,h];rfl
 rw[HD gT e ag]
 have aEV:aCf (aU 2 ^ 62):=aDH
 rw[aEV,if_pos abQ,Int.toNat_natCast,a5N]
def amk rK dY:sX false p.enc qB none M=.ok (aW (p.js.map η)) M:=by cases p<;>rfl
def pb rK Pk:awe [p.enc,η j] M=.ok (je (yP p j)) M:=by
 cases p with
 |pl a b=>
  rw[as9 awe F2];simp;rw[We [a,b] w M ak.int (pX o o j) ak.int (nZ (ρ=[y,xt])) (aKo (amk (.pl a b) M)) (qM x) (jk (show 2≤3 by decide))]
  ·rw[cU (cn (by rw[vm (abA (show lO 2 by decide))]))]
  ·rw[Vu y hρ (PE _ jD Θ (ID _))]
 |pt t s b=>
  rw[as9 awe F2];simp;by_cases h:j=t<;>simp[h,yP]
def kd jS dh Pk(hl:Ex):oI [ic,η n,η j] M=.ok (bu (BJ n j)) M:=by
 rw[XX oI P r (r=.ok (bu (BJ n j)) M) (qL (bU (akr z3 k (d! (k≠n)&&iR j (eV k).js))))]
 ·rw[cf (xs:=z3) (w:=none) (M':=M) (gQ (k:Nat) k) (λk=>d! (k≠n)&&iR j (eV k).js) (gQ (k:Nat) k) (nZ (ρ=[y,dR n,xt,pR]))
   (IJ (aK e!)) trivial S1 (SG x hx) (aH9 hl)]
  ·rw[cn (by rw[nJ (abA (by rw[ahb hl]))])]
  ·rw[Lo y hρ];rw[tD hx' (pO x) (List.mem_range.mp hx) (PE _ jD ?_ (ID _))];rw[Dd x n]
   ·simp[e]
   ·have e':¬aU x=n:=aB
    simp[e,e',Oh hx',amk]
 ·rw[x7 (Cy (bu (BJ n j)))]
  have hb:BJ n j=(akr z3 k (d! (k≠n)&&iR j (eV k).js)).head?:=by
   rw[dO beyond List.head?_filter]
  cases e:(akr z3 k (d! (k≠n)&&iR j (eV k).js)) with
  |nil=>rw[hb,e];simp[gH,bu]
  |cons x xs=>
   rw[hb,e];simp[gH,bu];exact vd 0
abbrev anE dh c7:Prop:=∀ps ss way j a M,Oi ps way a->ps.length+1≤way.length+n->n≤20->g [ic,mL,b9 way,η a,η j] M=.ok (ς ((Xd n j a).map b9)) M
abbrev aZ9 c7:Prop:=∀rK Pk,g [fy.enc p,η j] M=.ok (je (yP p j)) M
abbrev amF c7:Prop:=∀jS dh Pk,Ex->g [ic,η n,η j] M=.ok (bu (BJ n j)) M
def a2C bk{go bG g:D1}(ho:aZ9 go)(Ky:amF bG)(h:anE n g):anE (n+1) (C1 (aGF go bG g)):=by
 intro ps ss way j a M ok hn uK;rw[lS hl ok.len hf ok.fc (Qm (amE ayP _))];rw[XX aGF P r (∃G,r=.ok _ (M++G)) (W7 (M++[ς []]))];rw[gn]
 rw[cV lH (bb (kT (lh false) (W9 (cj aD))) [pR,Eu,ajZ,dR a,xt,gR,none,none,none] (M++[ς []])=.ok (iR a S7) (M++[ς []])) (by
  simp only[eF,az,aN,bf,a!,ag];rw[aKC (way:=way) 2 rfl aB];rw[tT aKB]) (tn (ŗ _ _ lH (cJ ha) ha))]
 ·rw[apU GB ha (p6 (ς []) (M++IX) (aK DA) (p7 (eX (k7 IX))))];rw[Fq adm GB];simp
 ·rw[cW GB (of_decide_eq_false ha) (dP (Ri (sH ak.int (kG (∃y6 y7 y8 G,ρ=[pR,Eu,ajZ,dR a,xt,jx (cC (M++G)),y6,y7,y8]/\M'=(M++G)++[ς ((mw).map b9)])) (yP (eV a) j) none (M++[ς []])
   (jL (f_ (Oh ok.lt) (ho (eV a) j))) trivial ⟨none,none,none,[],Θ,Θ⟩ ?_ ?_)))]
  ·rintro pre o post hx ρ M' ⟨y6,y7,y8,G,rfl,rfl⟩
   rw[Wg i7 (iF mw (2*2 ^ n)) (by
    rw[fG h1 (Zr pre λo _=>awG ps ss n way j a o) h2 (aDT 2) (by
     have:=axy (eV a) j;rw[nG hx this this];omega)]
    exact S_ h1 (Nat.mul_le_mul_right _ h2)) wI (awG ps ss n way j a o) pn (aJj (n:=n) aB)];rw[CE _];generalize GC:M++G=aa
   rw[vV (b9 (way++[(a,j,o)])) (aa++[ς ((mw).map b9)]) (by simp[bw];rw[cn (by rw[f9])];simp[bw])]
   rw[vV (bu (IC o)) (aa++[ς ((mw).map b9)]) (aK (Ky ps a o _ aB))]
   rw[gn];rw[aBL j?];cases hb:IC o with
   |none=>
    refine OG (aa++[ς ((mw).map b9)]) (Xl bu ui J8) (uq .ai (aa++[ς ((mw++[way++[(a,j,o)]]).map b9)]) (by simp[q9,lI,lim,-List.length_flatMap];omega) (jz ⟨_,_,_,G,k6 GC,?_⟩));simp[AD,hb,GC]
   |some b=>
    refine ŗ (iR (o,b) ss) (aa++[ς ((mw).map b9)]) (Xl bu ui J8) (cJ hs) hs
    ·rw[apU fe hs (uq .ai (aa++[ς ((mw++[way++[(a,j,o)]]).map b9)]) (by simp[q9,lI,lim,-List.length_flatMap];omega) (jz ⟨_,_,_,G,k6 GC,?_⟩))];simp[AD,hb,fe,GC]
    ·rw[cH fe (of_decide_eq_false hs) hg (h ps ss (way++[(a,j,o)]) o b (aa++[ς ((mw).map b9)]) (ok.step GB hb) (by rw[f9]) aB)]
     simp only[AD,hb,if_neg fe]at wI⊢;refine Of (ο (aa.length+1)) ((aa++[ς ((mw).map b9)])++[ς ((mw++Q5 n (way++[(a,j,o)]) o b).map b9)]) ?_ (jz ⟨dR o,H_ (way++[(a,j,o)]),Wn IF,G++[ς ((mw).map b9)],?_,?_⟩)
     ·simp[bu]at hg⊢;rw[hg];simp[wc];rw[fk (ml (by simp[lim,-List.length_flatMap];omega))]
     ·rw[←List.append_assoc,GC];simp
     ·rw[←List.append_assoc,GC]
  ·rintro ρ' M' ⟨y6,y7,y8,G,rfl,rfl⟩;refine Rj (ς ((Xd (n+1) j a).map b9)) (M++G++IX) (eX ⟨G++IX,k6 List.append_assoc⟩);rw[adm,if_neg GB];generalize M++G=aa;simp[DA]
universe Sb
universe zE
section
namespace L2
open PySem
def aHF gC [BEq α] [LawfulBEq α] aaw aze azD ck:countP (ς Va) [Eh] M=.ok (η (as.count a)) M:=by
 rw[pU countP];rw[Lj (Rr _ (hp a)) F7]
 rw[g6 (Tu (g:=Xw) λz hz=>by
  rw[XQ b hz (Rr _ (hp b))])]
 have:((Va).map Xw).countP (zj q q (lA deep Eh))=as.count a:=by
  rw[List.countP_map,List.countP_map];rw[zY List.count (List.countP_congr (dB b _))];rw[r3 Function.comp (aeK deep _ _ (hp b) (hp a))];simp only[beq_iff_eq];rw[vj (dF (inj _ _ e)) e (k6 e)]
 rw[this]
def a6R{i j:Nat}aah{ρ:aY}:o8 2 (mY (bT i) (qO j)) (aW [x,y]) ρ=qU (EO i).set j Cm:=rfl
universe L2
namespace Sb
open PySem L2
structure aRP zb:Prop where
 ayQ:U_ 1
 fc:VJ 16
 qm:gb ps (∀j∈p.js,0≤j/\j≤999)
 once:ag1 ps
 two:∀j,iF (DP ps j) 2
 AW:aDC 16
 nd:ss.Nodup
 sg:nO ss (pO s.2/\s.1∈(eV s.2).js)
abbrev a0a c7:Prop:=∀jS Pk,Ex->g [ic,η j] M=.ok (bU (DP ps j)) M
abbrev axZ c7:Prop:=∀rK dY,g agm M=.ok (je p.js) M
abbrev N_ c7 uW:Prop:=∀M,g xs M=.ok .ai M
def acL rG{dQ:D1}(hp:a0a dQ)uX(hl:Ex)(h2:∀j,iF (DP ps j) 2){js:fX}(hr:∀j∈js,0≤j/\j≤999)(hn:js.Nodup):N_ (avC c dQ) [ic,je js]:=by
 intro M;rw[XX avC P r (r=.ok .ai M) (oS ak.int (kG (∃y2,ρ=[pR,Mf js,y2]/\M'=M)) js M (jL rfl) (PX none))]
 ·rintro pre j post hx ρ M' ⟨y2,rfl,rfl⟩
  have hj:j∈js:=by rw[nP]
  rw[EG r1 r2 (hr j hj) hc (js.count j≤1) (List.nodup_iff_count.mp hn j)];rw[CE _];rw[xH (yH M' ?_ (dP (eZ (CR M' ?_ (dP (eZ (yH M' ?_ (dP (atI _)))))))))]
  ·simp[uI,sW];rw[jF aB];simp[r2]
  ·simp[sW,aHF (enc:=ak.int) (λa=>lZ a) (λa b e=>by cases e;rfl)];omega
  ·simp[hp ps j _ hl,e!,sW];rw[e9 (h2 j)]
 ·rintro ρ' M' ⟨y2,rfl,rfl⟩;exact QE
def acK rG{b_ alg:D1}UC(hc:gb ps (N_ b_ [ic,je p.js]))(hj:axZ alg):N_ (avB c b_ alg) [ic]:=by
 intro M;rw[VL avB P r (r=.ok .ai M) ?_ b6 zD zE m9 m_ l5];rw[lS h1 hg.ayQ h2 hg.fc (CR M ?_ (dP (eZ (CR M ?_ Ft))))]
 ·simp[e!];intro h;rw[nG h h1 h1]
 ·simp[e!,sW];omega
 refine oS fy.enc (kG (∃y2,ρ=[pR,y2]/\M'=M)) ps M (jL rfl) (PX none)
 ·rintro pre p post hx ρ M' ⟨y2,rfl,rfl⟩;rw[CE _];rw[x7 (E_ .ai M' (atI _))];simp[hj p,hc p (by rw[nP]) M']
 ·rintro ρ' M' ⟨y2,rfl,rfl⟩;exact QE
def acM rG{alg:D1}UC(hj:axZ alg):N_ (avy c alg) [ic,mL]:=by
 intro M;rw[VL avy P r (r=.ok .ai M) ?_ b6 zD zE m9 m_ l5]
 rw[cW h1 hg.AW (CR M ?_ Ft)]
 ·simp[e!,sW];omega
 refine oS fQ (kG (∃y2 y3,ρ=[pR,Eu,y2,y3]/\M'=M)) ss M (jL rfl) (HQ none none)
 ·rintro pre s post hx ρ M' ⟨y2,y3,rfl,rfl⟩
  have hs:s∈ss:=by rw[nP]
  rw[EG r1 r2 (hg.sg s hs) hc (ss.count s≤1) (List.nodup_iff_count.mp hg.nd s)];rw[Vl alj (aHF (enc:=fQ) anr ani (a:=s) (as:=ss) (M:=M')) j n s];rw[CE _];rw[xH (yH M' ?_ (dP (eZ (CR M' ?_ (dP (eZ (yH M' ?_ (dP (jz (HQ _ _))))))))))]
  ·simp[fQ]at alj⊢;rw[alj];simp[sW];omega
  ·dsimp only at r1;simp[uI,ale,e!];rw[jF aB];rw[f9]
  ·simp[Oh r1,hj (eV n)];exact r2
 ·rintro ρ' M' ⟨y2,y3,rfl,rfl⟩;exact QE
def acX{dQ gs:D1}aah(hp:N_ dQ [x])(hs:N_ gs [x,y]):N_ (avO dQ gs) [x,y]:=by
 intro M;rw[lQ avO r (r=.ok .ai M)];exact L3 .ai M (aK (hp M)) (eZ (uq .ai M (aK (hs M)) QE))
universe Sb
universe zE
section
namespace Sb
open PySem L2
abbrev cx(ss:Br)l!:Z8:=ss.getD k (0,0)
def amG{ss:Br}bk(h:Ā n):zP ss n (cx ss n):=by
 unfold cx;rw[ap3 h];rfl
def ZG{ss:Br}bk(h:Ā n):cx ss n∈ss:=aAV (amG h)
def T9{ss:Br}bk ck(h:Ā n):vK mL n=.ok (fQ (cx ss n)) M:=Ay (by rw[g_,amG h];rfl)
abbrev fuel:Nat:=17
abbrev Zy zb l!:w9:=(Q5 fuel [] (cx ss k).1 (cx ss k).2).map λw=>(k,w)
abbrev ak7 zb:w9:=(ahc).flatMap (Zy ps ss)
def a0b(ss:Br):J9 (ss.map fQ)=(ahc).map λk=>aW [η k,fQ (cx ss k)]:=by
 refine apT i;unfold J9;rw[g_,List.getElem?_zipIdx,g_,g_];rw[jq (Ā i)]
 ·rw[amG h,aA3];simp
 ·rw[Ū,E1 (by rw[f9])];rfl
def awx zb l!:iF (Zy ps ss k) 131072:=by
 rw[jA Zy eP (ads ps ss fuel _ _ _)]
def aEi UC ee(hk:Ā k):Oi ps [] (cx ss k).2:=⟨hg.fc,(hg.sg _ (ZG hk)).1,Θ,Θ⟩
abbrev aFx c7:Prop:=∀ps ss M,Sj->g [ic,mL] M=.ok (AA t7) M
def a2D bk(rs:w9):oW (AA rs):=amE a36 rs
def adt bk{pre post:ef}aN5:k<n/\pre.length<n:=by
 rw[Iu h1 (k∈oH) (by rw[fk h]) h2 (HZ h)];simp at h1 h2;omega
def adM{b_ bQ:D1}(hc:∀ps ss,Sj->N_ b_ [ic,mL])(hw:ans fuel bQ):aFx (C1 (wx b_ bQ)):=by
 intro ps ss M hg;refine Qm (a2D _);rw[VL wx P r (∃G,r=.ok (AA t7) (M++G)) ?_ b6 zD zE m9 m_ l5]
 rw[cW hfs hg.AW (L3 .ai M (aK (hc ps ss hg M)) (eZ (W7 (M++[ς []]))))];rw[xH (sH (fun(k:Nat)=>QZ (η k) (fQ (cx ss k))) (kG (∃y3 y4 y5,ρ=[pR,Eu,gR,y3,y4,y5]/\M'=M++[ς ((RI).map Gp)])) ahc none (M++[ς []])
  (by unfold als;simp[a0b]) trivial (ajX none none none) ?_ ?_)]
 ·rintro pre k post hx ρ M' ⟨y3,y4,y5,rfl,rfl⟩;rw[EG hk i8 (adt hx) i7 (H? (cC RI)) (by
   have h1:=Zr pre λk _=>awx ps ss k;omega)]
  rw[d_ _ a6R ?_];rw[Vo alr (hw ps ss [] (cx ss k).1 (cx ss k).2 (M++[ς ((RI).map Gp)]) (aEi hg hk) (by simp;have:=hg.fc;rw[ž fuel]) a_) (sH b9 (λyQ ρ M'=>∃y5,ρ=[pR,Eu,gR,k?,aT (fQ (cx ss k)),y5]/\M'=M++[ς ((RI++yQ.map λw=>(k,w)).map Gp)])
   (Q5 fuel [] (cx ss k).1 (cx ss k).2) none (M++[ς ((RI).map Gp)]) (jL (by simp[fQ]at alr⊢;exact alr)) trivial (h! _ Θ) ?_ ?_)]
  ·rintro yQ w aK8 GD ρ M' ⟨y5,rfl,rfl⟩
   rw[tD pn (yQ.length≤131072) (by
    rw[gX h1 (ads ps ss fuel [] (cx ss k).1 (cx ss k).2) GD h1];simp[fuel]at h1;omega) (VP _)];rw[x7 (E_ .ai (M++[ς ((RI++(yQ++[w]).map λw=>(k,w)).map Gp)]) (atI _))];simp[q9,lI,Gp,lim,-List.length_flatMap];omega
  ·rintro ρ' M' ⟨y5,rfl,rfl⟩;refine jz (Jk _ _ ?_);rw[aBL j?];rfl
 ·rw[L6 M' y3 y4 y5 rfl rfl];exact eZ (p6 (AA t7) (M++IX) (f_ DA ak7) akN)
def Zh{bQ:D1}(hw:anE fuel bQ):aFx (aFS bQ):=by
 intro ps ss M hg;rw[VL aFS P r (r=.ok (AA t7) M) ?_ b6 zD zE m9 m_ l5]
 rw[cW hfs hg.AW (qK (ς []) Θ)];rw[gn]
 have hi:gT [(tR aA)] [pR,Eu,vM [],none] M=Dc .ok (ahc).map (k:Nat) M:=IJ (aK e!);rw[Lg (gT [(tR aA)]) d7 hi (eK (sH (gQ (k:Nat) k) (kG (∃y3,ρ=[pR,Eu,aT (AA RI),y3]/\M'=M)) ahc none M
  hi trivial (PX none) ?_ ?_))]
 ·rintro pre k post hx ρ M' ⟨y3,rfl,rfl⟩;rw[EG hk i8 (adt hx) i7 (H? (cC RI)) (by
   have h1:=Zr pre λk _=>awx ps ss k;omega)]
  have wI:=awx ps ss k;rw[Im _];rw[cW alr (hw ps ss [] (cx ss k).1 (cx ss k).2 M' (aEi hg hk) (by simp;have:=hg.fc;rw[ž fuel]) a_) (Of (AA ((pre++[k]).flatMap (Zy ps ss))) M' ?_ (atI _))];rw[az];rw[RL]
  rw[cf (xs:=Q5 fuel [] (cx ss k).1 (cx ss k).2) (w:=none) (M':=M') b9 EB (λw=>Gp (k,w)) (nZ (ρ=[y,k?])) (jL (by simp[T9 hk,fQ]at alr⊢;exact alr)) trivial S1 (SG x hx)
   (jk (ads ps ss fuel _ _ _))]
  ·rw[BI _ _,gG (by rw[LX (ads ps ss fuel _ _ _)]),ag,pz,gG (by simp[Zy,lim,-List.length_flatMap]at wI⊢;omega)];simp[Zy]
  ·rw[MH y _ (λ_=>aK Gp)]
 ·rintro ρ' M' ⟨y3,rfl,rfl⟩;exact eZ (B? (AA t7) M' (aK ak7))
universe Sb
universe zE
section
namespace L2
open PySem
def a0c{M G:ba}w6:asW (M++o::G) o:=Θ
def aJ0{M G:ba}{o o':fu}:Đ (M++o::G).set o'=M++o'::G:=Θ
universe L2
namespace Sb
open PySem L2
abbrev Om Bd(k:Int):Int:=ns.getD (k%ns.length).toNat 0
abbrev aRC Bd(k:Int):Int:=
 (at9 (Om ns k+104729*(k+1))*48271%4294967279 / 64*69621+at9 (Om ns k+104729*(k+1))*48271%4294967279)%4294967231
abbrev aIP c7:Prop:=∀ns k M,g [.pj ns,η k] M=.ok (η (Om ns k)) M
abbrev aFL c7:Prop:=∀ns k M,g [.pj ns,η k] M=.ok (η (HA k)) M
def adK:aIP awd:=by
 intro ns k M;rw[lQ awd r (r=.ok (η (Om ns k)) M)];rw[jq (ns=[])]
 ·subst h;refine CR M (aK gH) (dP (ML (η 0) M ?_));simp[Om]
 ·rw[v7 hl (0<ns.length) (List.length_pos_iff.mpr h) (OG M (f_ gH h) (xY (η (Om ns k)) M (p7 (eX rfl))))];rw[k9 (aq0 k b ns.length) (Int.emod_lt_of_pos k (b:=ns.length) aB)];simp[e!,g9,oq,hl,fN,uM,A0];rw[Fq BF h2]
  have h3:(k%aU ns.length).toNat<ns.length:=aB
  simp[h3,Om]
def ad4 D8(h:aIP g):aFL (vi g):=by
 intro ns k M;rw[lQ vi r (r=.ok (η (HA k)) M)]
 refine qL (η (at9 (Om ns k+104729*(k+1))))
 ·simp[h ns k M,g9,oq,qa,small]
 refine qL (η (at9 (Om ns k+104729*(k+1))*48271%4294967279))
 ·simp[g9,oq,qa,small]
 refine Cy (η (HA k));simp[g9,wg,oq,qa,small,aRC]
def aGu Bd(k:Int):0≤HA k:=Int.emod_nonneg _ a_
universe Sb
universe zE
section
namespace Sb
open PySem L2
abbrev cnt jS rD:Nat:=cC (ps.filter (x8 p (j∈p.js)))
def a0d jS rD:cC (DP ps j)=cnt ps j:=by
 unfold DP cnt
 have:ps=(z3).map (fy.at ps):=by
  rw[Cv (apT i) g_];rw[jq (pO i)]
  ·rw[aec h,aA3];rfl
  ·rw[Ū,E1 (by rw[f9])];rfl
 conv=>rhs;rw[this]
 rw[List.filter_map,eP];rfl
def aIQ jS rK rD:cnt (ps++[p]) j=cnt ps j+qV j p.js 1 0:=by
 rw[iT cnt List.filter_append List.length_append]
 congr 1
 by_cases h:j∈p.js<;>simp[h]
abbrev fresh(c:Int)iy:Int:=(c+37*i)%1000
def aWn(c:Int)iy:0≤I_ i/\I_ i≤999:=by
 rw[ž fresh]
def aG2(c:Int){i k:Nat}(hi:i<27)(hk:k<27)(h:I_ i=I_ k):i=k:=by
 rw[nN fresh];omega
structure ae7(c:Int)jS(loose:fX)(many:Nat):Prop where
 fc:many≤3*ps.length
 old:gb ps (∀j∈p.js,∃i,i<many/\j=I_ i)
 once:ag1 ps
 two:∀j,cnt ps j≤2
 lo:∀j∈loose,cnt ps j≤1/\∃i,i<many/\j=I_ i
structure OK(c:Int)(loose:fX)(m0 many:Nat)(ends:fX):Prop where
 nd:ends.Nodup
 le:m0≤many
 src:∀j∈ends,j∈loose\/∃i,m0≤i/\i<many/\j=I_ i
abbrev aYx:fX->fy
 |[j,k]=>.pl j k
 |[t,s,b]=>.pt t s b
 |_=>.pl 0 0
def a0e{ends:fX}azr:(ajP).js=ends:=by
 rcases ends with _ | ⟨a,_ | ⟨b,_ | ⟨d,_ | ⟨e,r⟩⟩⟩⟩
 ·rw[E6]
 ·rw[E6]
 ·rfl
 ·rfl
 ·rw[E6]
def aYy uX Po(h:gb ps (j∉p.js)):cnt ps j=0:=by
 rw[iT cnt List.length_eq_zero_iff List.filter_eq_nil_iff];intro p hp;simp[h p hp]
def aYz{c:Int}uX azL aOO(hm:many≤3*(ps.length+1))(a6S:many≤24)azr:
  ae7 c (ps++[ajP]) (ends.filter (atl j j)++aCM (abb j j)) many:=by
 rw[fG hj (a0e h) cz (∀i,m0≤i->i<many->cnt ps (I_ i)=0) (λi h1 h2=>aYy λp hp hm=>by
  obtain⟨i',h3,h4⟩:=I.old p hp _ hm;rw[e9 (aG2 c aB aB h4)])]
 refine⟨by rw[au List.length_append hm],i? p hp j hm,sy,cJ j,dB j hm⟩
 ·rcases SO with hp | hp
  ·rw[RE i (I.old p hp j hm) i (aBv h1) h2]
  ·rw[Lv hp];rw[xK hp hj hm];rcases E.src j hm with h1 | ⟨i,_,h1,h2⟩
   ·obtain⟨_,i,h2,h3⟩:=I.lo j h1;rw[b5 i (aBv h2) h3]
   ·rw[b5 i h1 h2]
 ·rcases SO with hp | hp
  ·exact I.once p hp
  ·rw[ahW hp hp];rw[au hj E.nd]
 ·rw[aIQ,hj];have:=I.two j;split
  ·rename_i hm;rcases E.src j hm with h1 | ⟨i,h0,h1,rfl⟩
   ·rw[e9 (I.lo j h1).1]
   ·rw[nQ (cz i h0 h1)]
  ·omega
 ·rw[aIQ,hj];rcases aA0 with hm | hm
  ·rw[vE aAY];rw[H6 h2 h2];rcases E.src j h1 with h3 | ⟨i,h0,h3,rfl⟩
   ·rw[kA h3 h2]
   ·rw[cz i h0 h3,BF];exact⟨aB,i,h3,rfl⟩
  ·rw[vE aAY];rw[H6 h2 h2];rw[jF h2];rw[LM h3 i h4 h5 (I.lo j h1) h3 i (aBv h4) h5]
def aYB{c:Int}azL aNQ Po(h1:j∈loose)(h2:j∉ends):OK c loose m0 many (ends++[j]):=by
 rw[d_ ?_ E.le (dB k hk)]
 ·rw[List.nodup_append];rw[d_ E.nd Θ (i? a ha b hb)];rw[L1 hb hb];rintro rfl;exact h2 ha
 ·rcases aPD with hk | hk
  ·exact E.src k hk
  ·rw[Ñ hk hk (Ω h1)]
def aYC{c:Int}uX azL aOO(a6S:many<24):OK c loose m0 (many+1) (ends++[I_ many]):=by
 have hn:I_ many∉ends:=λh=>by
  rcases E.src _ h with h1 | ⟨i,h0,h1,h2⟩
  ·obtain⟨_,i,h2,h3⟩:=I.lo _ h1;have:=aG2 c aB (by rw[e9 E.le]) h3;rw[e9 E.le]
  ·rw[e9 (aG2 c aB aB h2)]
 rw[d_ ?_ (Nat.le_succ_of_le E.le) (dB k hk)]
 ·rw[List.nodup_append];rw[d_ E.nd Θ (i? a ha b hb)];rw[L1 hb hb];rintro rfl;exact hn ha
 ·rcases aPD with hk | hk
  ·rcases E.src k hk with h1 | ⟨i,h0,h1,h2⟩
   ·exact Ω h1
   ·exact ay ⟨i,h0,aB,h2⟩
  ·rw[Ñ hk hk (ay ⟨many,E.le,aB,rfl⟩)]
structure ae1 jS:Prop where
 ayQ:U_ 1
 fc:VJ 8
 qm:gb ps (∀j∈p.js,0≤j/\j≤999)
 once:ag1 ps
 two:∀j,iF (DP ps j) 2
def ae7.good{c:Int}uX{loose:fX}{many:Nat}(I:ae7 c ps loose many)(h1:U_ 1)(h8:VJ 8):ae1 ps:=
 ⟨h1,h8,λp hp j hj=>by obtain⟨i,_,rfl⟩:=I.old p hp j hj;exact aWn c i,I.once,λj=>by rw[au a0d (I.two j)]⟩
universe Sb
universe zE
end
mutual
section
namespace Sb
open PySem L2
def aKE pB{xs ys:fX}{i k:Nat}{y:ak}(hi:t6 i (Mf xs))aNY(hl:aj1):
  ajf k (cj (ae i)) akx ao ρ M=.ok (je (xs.filter (zN j j ys))) M:=by
 rw[cf (xs:=xs) (w:=none) (M':=M) ak.int (zN j j ys) ak.int (λρ=>∃z,ρ=[z,Cm]) (jL (zq hi)) trivial ⟨none,f_ DB hk⟩ (qM x) Mw]
 ·rw[cn (by rw[nJ (aj5 hl)])]
 ·rw[QT z _ ?_ (ID _)];simp[N4 (neg:=true) (enc:=ak.int) (λa=>lZ a) (λa b e=>by cases e;rfl) hy]
def a0f pB{xs ys:fX}{i k n:Nat}{y:ak}(hi:t6 i CH)(hn:sD M n ass)aNY(hl:aj1):
  ajf k (cj (ae i)) akx ao ρ M=.ok (je (xs.filter (zN j j ys))) M:=by
 rw[cf (xs:=xs) (w:=akO ass) (M':=M) ak.int (zN j j ys) ak.int (λρ=>∃z,ρ=[z,Cm]) (aez (zq hi) hn) hn ⟨none,f_ DB hk⟩ (qM x) Mw]
 ·rw[cn (by rw[nJ (aj5 hl)])]
 ·rw[QT z _ ?_ (ID _)];simp[N4 (neg:=true) (enc:=ak.int) (λa=>lZ a) (λa b e=>by cases e;rfl) hy]
def a0g{xs:fX}{n:Int}ck(h:xs≠[])(hn:0≤n):∃j∈xs,vK (je xs) (n%(arE (aic<4) Int 4))=.ok (η j) M:=by
 rw[gv hl (S4 0) (List.length_pos_iff.mpr h) hd (aU 0<(arE (aic<4) Int 4)) (by split<;>omega) hle (asm (arE (aic<4) Int 4)) (by split<;>omega)]
 generalize (arE (aic<4) Int 4)=d at hd hle;rw[k9 (aq0 n b d) (Int.emod_lt_of_pos n hd)];rw[aAq i hi h1];rw[hi]
 rw[Wh h3 JA aB xs[i] (List.getElem_mem h3) (Ay (by rw[g_,List.getElem?_eq_getElem h3];rfl))]
def a0h{ends:fX}ck azr:∃z,akP [Xa,W_] (aU ends.length-2)=.ok z M/\(ajP).enc=aW (z::EF):=by
 rcases ends with _ | ⟨a,_ | ⟨b,_ | ⟨d,_ | ⟨e,r⟩⟩⟩⟩
 ·rw[E6]
 ·rw[E6]
 ·exact jc Xa (vd 0)
 ·exact jc W_ (vd 1)
 ·rw[E6]
abbrev aJ1 c7:Prop:=∀ns(b:Int) M,∃ps,ae1 ps/\g [.pj ns,η b] M=.ok ic M
def Sr bk{xs:fX}{z:Str}:oW (aW (av z::ass)):=auZ (by
 rcases aPp with rfl | hx
 ·simp
 ·rw[apY i rfl hx];simp)
def a2E bk rK:oW p.enc:=by
 cases p with
 |pl j k=>exact Sr (xs:=[j,k])
 |pt t s b=>exact Sr (xs:=[t,s,b])
def NT{p9:D1}aaB:aJ1 (C1 (avZ p9)):=by
 intro ns b M
 suffices h:∃ps G,ae1 ps/\avZ p9 [.pj ns,η b] M=.ok ic (M++G) by
  rw[rX ps G hg e h ⟨ps,hg,aC0 G e (amE a2E _)⟩]
 rw[XX avZ P r (∃ps G,ae1 ps/\r=.ok ic (M++G)) (W7 (M++[ς []]))];rw[vV (ς []) (M++[ς []]) Θ]
 rw[vV (η 0) (M++[ς []]) Θ]
 rw[gn];rw[aAq n hn (show 0≤1+HA b%8 by rw[e9 (aGu ns b)])]
 rw[bM aRp (1≤n/\n≤8) (by rw[e9 (aGu ns b)]) hi (gT [(k_ (Ξ 1) (LH p9 [ao,aA] (Ξ 8)))] [qI .pj,dR b,gR,vM [],dR 0,none,none,none,none,none,none] (M++[ς []])
   = Dc .ok (oH).map (k:Nat) (M++[ς []])) (IJ (by simp[hm ns b,g9,oq,hn]))]
 rw[Lg (gT [(k_ (Ξ 1) (LH p9 [ao,aA] (Ξ 8)))]) d7 hi (eK (oS (gQ (k:Nat) k) (kG (∃y5 y6 y7 y8 ZN ZM G ps loose many,ρ=[qI .pj,dR b,gR,atj,WL (many:Nat),y5,y6,y7,y8,ZN,ZM] ∧
   M'=M++ς arw::G/\ps.length=pre.length/\loose.length≤3*pre.length/\ae7 (v9 (b+9)) ps loose many)) oH (M++[ς []]) hi ?_))]
 ·exact⟨none,none,none,none,none,none,[],[],[],0,rfl,rfl,rfl,Θ,⟨Θ,Θ,Θ,aK cnt,Θ⟩⟩
 ·rintro pre k post hx ρ M' ⟨y5,y6,y7,y8,ZN,ZM,G,ps,loose,many,rfl,rfl,i8,a7g,I⟩;rw[agH hk a9z (adt hx) (VP _)];generalize GC:M++ς arw::G=aa
  rw[vV (η (v9 (b+1+k))) aa (aK (hm ns))]
  rw[vV XR (aa++[ς []]) Θ]
  rw[gn]
  obtain⟨n2,uK,a9A⟩:∃n2:Nat,aU 2+(agF (v9 (b+1+k)%5<3) 0)=n2/\(n2=2\/n2=3):=by
   split
   ·exact h! 3 (ay rfl)
   ·exact h! 2 (Ω rfl)
  have O0:gT [(aj6 (Ξ 2) Oe [(cu uI (LG 6 (Ξ 5)) (Ξ 3))])] [qI .pj,dR b,gR,atj,dR many,k?,dR (v9 (b+1+k)),aCU,y8,ZN,ZM] (aa++[ς []])
    = Dc .ok (aLN).map (k:Nat) (aa++[ς []]):=IJ (by
   simp[g9,uI,oq,Oe]
   rw[←uK])
  rw[Lg (gT [(aj6 (Ξ 2) Oe [(cu uI (LG 6 (Ξ 5)) (Ξ 3))])]) a9E O0 (eK (oS (gQ (k:Nat) k) (λyQ ρ M'=>∃y8 ZN ZM ends AK,ρ=[qI .pj,dR b,gR,atj,WL (AK:Nat),k?,dR (v9 (b+1+k)),aCU,y8,ZN,ZM] ∧
   M'=aa++[ς EF]/\az8 yQ.length/\AK≤many+yQ.length/\OK (v9 (b+9)) loose many AK ends) aLN (aa++[ς []]) O0 ?_))]
  ·exact⟨y8,ZN,ZM,[],many,rfl,rfl,rfl,fh,⟨Θ,fh,Θ⟩⟩
  ·rintro yQ j aK8 GD ρ M' ⟨amQ,a8E,sZ,ends,AK,rfl,rfl,OL,aRl,E⟩;rw[arM hj a9B (adt GD) anL I.fc];rw[Im _]
   generalize aK9:v9 (b+10+3*k+j)=pick
   rw[cV aRt (0≤pick) (by rw[cw aK9 (aGu _ _)]) (z9 (η pick) (aa++[ς EF]) (by simp[hm ns,qa,small,aK9]))];rw[vV (je (loose.filter (abb j j))) (aa++[ς EF]) (aKE (ys:=ends) rfl rfl Θ aB)];rw[aiQ L aRg L (aCM (abb j j)=L) jD];rw[aRg];rw[gn]
   have hif:∃t,mm (cD (ae 10)) (xj uI (LG 9 (Ξ 8)) (Qw (c9 [(Ξ 7),(Ξ 2),(Ξ 2)]) 8)) [qI .pj,dR b,gR,atj,dR AK,k?,dR (v9 (b+1+k)),aCU,xt,dR pick,Mf L] (aa++[ς EF])
     = .ok t (aa++[ς EF])/\(aL t->L≠[]):=by
    have a7b:j=0\/j=1\/j=2:=aB
    obtain⟨v,hv⟩:∃v:Int,∀M,akP [η 7,η 2,η 2] j=.ok (η v) M:=by
     rcases a7b with rfl | rfl | rfl
     ·rw[vj 7 M (vd 0)]
     ·rw[vj 2 M (vd 1)]
     ·rw[vj 2 M (vd 2)]
    cases L with
    |nil=>rw[b5 false (aK gH) (nofun)]
    |cons x xs=>rw[b5 (d! (pick%8<v)) (by simp[gH,g9,oq,uI,hv]) (ID _)]
   rw[z8 t ht aS hif (ŗ t _ ht (cJ ht) _)]
   ·obtain⟨x,hx,hix⟩:=a0g (M:=aa++[ς EF]) (aS ht) (n:=pick / 8) aB;obtain⟨avv,GD⟩:=List.mem_filter.mp (aRg▸hx);rw[kD (E_ .ai (aa++[ς ((ends++[x]).map η)]) (jz ⟨_,_,_,ends++[x],AK,rfl,rfl,aK OL,by rw[f9],aYB E avv (of_decide_eq_true GD)⟩)) hd (aU 0<(ajF (aU L.length<4) L.length 4)) (by
     have:=aPa (aS ht);split<;>omega)]
    simp[e!,Ub,wg,g9,oq];rw[if_pos hd,ag,hix];simp[q9,lI,lim];omega
   ·refine L3 .ai (aa++[ς ((ends++[fresh (v9 (b+9)) AK]).map η)]) ?_ (eZ (Of (η (iX (AK+1))) (aa++[ς ((ends++[fresh (v9 (b+9)) AK]).map η)]) Θ (jz ⟨_,_,_,ends++[fresh (v9 (b+9)) AK],AK+1,rfl,rfl,aK OL,by rw[f9],aYC I E aB⟩)));simp[hm ns,qa,small,g9,oq,q9,lI,fresh,lim];omega
  ·rintro ρ' M' ⟨amQ,a8E,sZ,ends,AK,rfl,rfl,OL,aRl,E⟩;rw[List.length_range]at OL aRl;rw[cW anL I.fc (eZ (nF (je (ends.filter (atl j j)++aCM (abb j j))) (aa++[ς EF])))]
   ·rw[az,a0f (xs:=ends) (ys:=loose) (n:=aa.length) rfl Θ rfl rfl aB,ag,aKE (xs:=loose) (ys:=ends) rfl rfl Θ aB,ag,pz,←List.map_append,cn];rw[eP,List.length_append];rw[k9 (aqR (atl j j) ends) (aqR (abb j j) loose)];omega
   ·rw[gn];rw[z8 z aRx hz2 (a0h (M:=aa++[ς EF]) (ends:=ends) aB) (E_ .ai (M++ς ((ps++[ajP]).map fy.enc)::(G++[ς EF])) (jz ⟨_,_,_,_,_,_,G++[ς EF],ps++[ajP],_,AK,rfl,rfl,aK i8,?_,aYz I E aB aB aB⟩))]
    ·simp[e!,Ua,oq]at aRx⊢;rw[aRx,hz2];subst GC;simp[anb,wc,q9,lI,lim];rw[B8];rw[f9]
    ·rw[List.length_append];rw[k9 (aqR (atl j j) ends) (aqR (abb j j) loose)]
     have h3:cC (pre++[k])=pre.length+1:=Θ
     omega
 ·rintro ρ' M' ⟨y5,y6,y7,y8,ZN,ZM,G,ps,loose,many,rfl,rfl,i8,a7g,I⟩;refine Rj ic (M++.gone::G) (eX ⟨ps,.gone::G,I.good ?_ ?_,rfl⟩)
  ·simp[DA]
  ·rw[i8];rw[f9]
  ·rw[i8];rw[f9]
universe Sb
universe zE
section
namespace Sb
open PySem L2
def aYD bk{pre post:ef}aN5:k=pre.length:=by
 rw[Ć h1 (iQ oH pre.length k) (by rw[fk h]) h2 (adt h).2 (List.getElem?_range h2) h1];exact(VQ).symm
def aWo rK:p.js.length≤3:=by cases p<;>simp[fy.js]
def a2F bk(s:Z8):oW (fQ s):=auZ (by
 rw[Lv hx];rcases hx with rfl | rfl<;>simp)
abbrev aJ2 c7:Prop:=∀ns(b:Int) ps M,ae1 ps->∃ss,Sj/\g [.pj ns,η b,ic] M=.ok mL M
def aKF d9 ee(h:asm k):Nz IE none=xs.drop k:=by
 rw[jj TH ql.aJI ql.awY (Nat.min_eq_left h)];exact List.take_of_length_le Θ
def ayj d9 ee:akl IE=xs.take k:=by
 rw[iT TH ql.aJI ql.awY];simp
def ade{p9 bG:D1}aaB(hb:amF bG):aJ2 (C1 (avT p9 bG)):=by
 intro ns b ps M hg;have a9N:=hg.fc
 suffices h:∃ss G,Sj/\avT p9 bG [.pj ns,η b,ic] M=.ok mL (M++G) by
  rw[rX ss G hg e h ⟨ss,hg,aC0 G e (amE a2F _)⟩]
 rw[XX avT P r (∃ss G,Sj/\r=.ok mL (M++G)) (W7 (M++[ς []]))];rw[gn]
 have hi:gT [(tR aD)] [qI .pj,dR b,pR,gR,none,none,none,none,none] (M++[ς []])=Dc .ok (z3).map (k:Nat) (M++[ς []]):=IJ (aK e!);rw[Lg (gT [(tR aD)]) d7 hi (eK (oS (gQ (k:Nat) k) (kG (∃y4 y5 y6 y7 ss,ρ=[qI .pj,dR b,pR,gR,y4,y5,y6,y7,none]/\M'=M++[ς (ss.map fQ)]/\aDC (3*pre.length)/\ss.Nodup ∧
  nO ss (s.2<pre.length/\s.1∈(eV s.2).js))) z3 (M++[ς []]) hi ⟨none,none,none,none,[],rfl,rfl,Θ,Θ,Θ⟩))]
 ·rintro pre k post hx ρ M' ⟨y4,y5,y6,y7,ss,rfl,rfl,hl,fS,hs⟩;rw[Ë i8 (adt hx)];rw[cH hkp (aYD hx) hjl (aWo (eV k))];rw[CE _];rw[x7 (oS ak.int (λyQ ρ M'=>∃y5 y6 y7 ss,ρ=[qI .pj,dR b,pR,gR,k?,y5,y6,y7,none]/\M'=M++[ς (ss.map fQ)]/\aDC (3*pre.length+yQ.length)/\ss.Nodup ∧
   nO ss ((s.2<pre.length/\s.1∈(eV s.2).js)\/(s.2=k/\s.1∈yQ))) (eV k).js (M++[ς (ss.map fQ)]) (aKo (f_ (Oh hk) amk)) ⟨y5,y6,y7,ss,rfl,rfl,by rw[vm hl],fS,λs h=>Ω (hs s h)⟩)]
  ·rintro yQ j aK8 GD ρ M' ⟨a8D,aGO,aGP,tt,rfl,rfl,DS,avt,alp⟩;rw[gv aRq (eV k).js.Nodup (hg.once _ (ayi hk)) hjn (j∉yQ) (by
    rw[GD,List.nodup_append]at aRq;exact λh=>aRq.2.2 j h j Θ rfl) a9C (yQ.length<3) (by
    have:=HZ GD;rw[Ē];omega)]
   rw[Im _]
   generalize a5O:v9 (b+3*k+tt.length)=num;refine z9 (η num) (M++[ς atC]) (by simp[hm ns,e!,qa,small,a5O]);rw[vV (.ah (J8 (bu (BJ k j)))) (M++[ς atC]) (f_ (hb ps k j _ aB) ui)]
   rw[gn]
   rw[bM aEn (gE (tt++[(j,k)])) (by
    rw[List.nodup_append]
    rw[d_ avt Θ (i? s A7 s2 GK)];rw[ahW GK GK];rintro rfl;rcases alp _ A7 with h | h
    ·omega
    ·exact hjn h.2) hif (∃t,wK (vH (LG 6 (Ξ 3)) (Ξ 0)) (mm (cD gF) (vH (LG 6 (Ξ 3)) (Ξ 1))) [qI .pj,dR b,pR,gR,k?,xt,dR num,Io .ah (J8 (bu (BJ k j))),none] (M++[ς atC])=.ok t (M++[ς atC])) (by
    rw[PV (num%3=0)]
    ·rw[b4 true (Xl g9 oq h1)]
    ·rw[rR h2 (J8 (bu (BJ k j)))]
     ·rw[b4 (gS (num%3) 1) (by simp[g9,oq,gH,h1,h2])]
     ·rw[b4 false (by simp[g9,oq,gH,h1,h2])])]
   rw[xC ht hif];refine ŗ t _ ht (cJ _) _
   ·refine E_ .ai (M++[ς ((tt++[(j,k)]).map fQ)]) (jz ⟨_,_,_,tt++[(j,k)],rfl,rfl,by rw[f9],aEn,C2⟩)
    ·simp[q9,lI,lim,fQ];omega
    ·rcases aA1 with h | h
     ·rcases alp s h with h | h
      ·exact Ω h
      ·exact o4 h.1 (aK h.2)
     ·rw[Lv h];rw[f7 h (ay (j3 Θ))]
   ·rw[Ű ⟨_,_,_,tt,rfl,rfl,by rw[f9],avt,C2⟩];rcases alp s hs with h | h
    ·exact Ω h
    ·exact o4 h.1 (aK h.2)
  ·rintro ρ' M' ⟨a8D,aGO,aGP,tt,rfl,rfl,DS,avt,alp⟩;refine jz ⟨_,_,_,_,tt,rfl,rfl,by rw[f9],avt,C2⟩;rw[aP5];rcases alp s hs with h | h
   ·rw[b4 aB h.2]
   ·rw[h.1];rw[b4 aB h.2]
 ·rintro ρ' M' ⟨y4,y5,y6,y7,ss,rfl,rfl,hl,fS,hs⟩;rw[List.length_range]at hl hs;rw[aAq sh hsh (aq0 (v9 (b+30)) b (1+aMJ))]
  rw[cV jf (sh≤ss.length) (by rw[e9 (Int.emod_lt_of_pos (v9 (b+30)) (b:=1+aMJ) aB)]) (eZ (nF (η sh) (M++[ς (ss.map fQ)])))]
  ·simp[hm ns,e!,g9,oq];rw[B8,hsh]
  ·rw[gn]
   rw[cV aLa ((atY++atZ).Perm ss) (by
    rw[M6 (List.perm_append_comm (l₁:=atY) (l₂:=atZ)) List.take_append_drop]) (xY (YH ((atY++atZ).take 16)) (M++[ς (ss.map fQ)]) (eX ⟨_,[ς (ss.map fQ)],⟨hg.ayQ,aB,hg.qm,hg.once,hg.two,?_,?_,dB s h⟩,rfl⟩))]
   ·rw[gv e1 (∀M:ba,sX false e_ (asq sh) none (M++[ς (ss.map fQ)])=.ok (YH atY) (M++[ς (ss.map fQ)])) (λM=>by
     simp only[sX,BM,awF];rw[aKF (by rw[vm jf]),←List.map_drop,cn (by rw[f9])]) e2 (∀M:ba,sX false e_ none (asq sh) (M++[ς (ss.map fQ)])=.ok (YH atZ) (M++[ς (ss.map fQ)])) (λM=>by
     simp only[sX,BM,awF];rw[ayj,←List.map_take,cn (by rw[f9])]) e3 (∀dY(xs:Br),aj1->sX false (YH xs) none (some 16) M=.ok (YH (xs.take 16)) M) (v3 M hx (by
     simp only[sX,F7];rw[BZ (aO (asq 16) (iX 16)),ayj,←List.map_take,cn (by rw[f9])]))]
    simp only[aey,az,aN,Zp,adi,bo,ag,bf,a!,e1,e2,pz];rw[←List.map_append,cn (by rw[f9]),ag,e3 _ _ (by rw[f9])]
   ·rw[nQ List.length_take]
   ·exact((aLa.nodup_iff).mpr fS).sublist (List.take_sublist _ _)
   ·exact hs s (aLa.mem_iff.mp (List.mem_of_mem_take h))
universe Sb
universe zE
section
namespace Sb
open PySem L2 PyProof.Rows
structure anF rK(j o:Int):Prop where
 ne:o≠j
 mem:o∈p.js
 aRX:p.js.length=3->p.js.headD 0=j\/p.js.headD 0=o
def a0i{p:fy}aOL(h:o∈yP p j):anF p j o:=by
 cases p with
 |pl a b=>
  rw[aaK h1 h2 aq3 ahd h1 (aK fy.js)]
 |pt t s b=>
  simp only[fy.js,List.nodup_cons,List.mem_cons,List.not_mem_nil,or_false,not_or]at hn;rw[nN yP];rw[B4];split at h
  ·rw[WX];subst e;rw[Lv h];rw[d_ ?_ (by rcases h with rfl | rfl<;>simp[fy.js]) (λ_=>Ω rfl)]
   rcases h with rfl | rfl
   ·exact dF (hn.1.1 e.symm)
   ·exact dF (hn.1.2 e.symm)
  ·rw[WX];rw[ahW h h];rw[b5 (cP (e z.symm)) (aK fy.js) (λ_=>ay rfl)]
abbrev Chain zb:Bool->Int->fO->cS fU
 |_,j,a,[]=>∀b,aO a b->(j,b)∈ss
 |f,j,a,(a',j',o)::r=>aO a a'/\j'=j/\(dj f->(j,a')∉ss)/\pO a'/\anF (eV a') j o/\Yj false o (BJ a' o) r
def aHG aap(hn:ag1 ps):∀dh(way w:fU)rD w7(f:Bool),Oi ps way a->(dj f->(j,a)∉ss)->w∈Xd n j a →
  ∃r,w=way++r/\r≠[]/\Yj f j (some a) r/\agf/\U_ w.length
 |0,way,w,j,a,f,ok,hf,h=>by simp[aRO]at h
 |n+1,way,w,j,a,f,ok,hf,h=>by
  rw[adm]at h;split at h
  ·rw[E6]
  rename_i ha;rw[aqd o ho hw h];rw[pM aE8 (a0i (hn _ (ayi ok.lt)) ho) fS (xD (way++[(a,j,o)]).map) (by
   rw[aPI];rw[d_ ok.nd Θ (i? x hx y hy)];rw[L1 hy hy];rintro rfl;exact ha hx) hlen (U_ (cC (way++[(a,j,o)]))) (by
   rw[Pw (Zj (n:=ps.length) fS (yq (by
    rw[rZ s hs hx];rcases aA1 with hs | hs
    ·exact ok.all s hs
    ·rw[Ñ hs hs ok.lt])))])]
  unfold AD at hw;cases hb:IC o with
  |none=>
   rw[hb]at hw;rw[ahW hw hw];exact⟨[(a,j,o)],rfl,Θ,⟨rfl,rfl,hf,ok.lt,aE8,by rw[au hb (nofun)]⟩,fS,hlen⟩
  |some b=>
   rw[qT hb hw hw];split at hw
   ·rename_i hs;rw[ahW hw hw];exact⟨[(a,j,o)],rfl,Θ,⟨rfl,rfl,hf,ok.lt,aE8,by rw[hb];intro b' e;cases e;exact hs⟩,fS,hlen⟩
   ·rename_i hs;rw[WA r e hr hc h1 h2 (aHG hn n (way++[(a,j,o)]) w o b false (ok.step ha hb) (λ_=>hs) hw) ⟨(a,j,o)::r,by rw[fk e],Θ,⟨rfl,rfl,hf,ok.lt,aE8,by rw[au hb hc]⟩,h1,h2⟩]
structure aJ3 zb(r:afi):Prop where
 lt:Ā r.1
 ne:r.2≠[]
 chain:Yj true (cx ss r.1).1 (MV (cx ss r.1)) r.2
 nd:xD r.2.map
 len:U_ (kU r.2)
def aYF UC{r:afi}(h:r∈t7):aJ3 ps ss r:=by
 rw[aqd k hk h h];have hk:=List.mem_range.mp hk;rw[rZ w hw h];obtain⟨r,e,h1,h2,h3,h4⟩:=aHG hg.once fuel [] w (cx ss k).1 (cx ss k).2 true (aEi hg hk) nofun hw;rw[l5]at e;subst e;exact⟨hk,h1,h2,h3,h4⟩
universe Sb
universe zE
section
namespace L2
open PySem
def zr Bh qu GY{gf dv:bz}pB(y:ak)(aa:ba)dh(fs DN:r9)(h:dv ρ M=.ok y aa)(ho:Eo aa=.ok (ο n) aa)(hn:aa[n]? = Â C fs)aOE
  (q:Q (.nx ρ (aa.set n (dD C DN)))):Q (hG C f gf dv ρ M):=by
 unfold hG;rw[h,Res.fg,ho,Res.fg,J0 hn];dsimp only;rw[er (if_pos hl) hf q]
def a7L Bh rG GY{dv:bz}{ρ:aY}{M G G':ba}{fs:r9}{s2:c6}(y:ak)(DN:r9)(h0:ajG 0)(h:dv ρ (M++dD c fs::G)=.ok y (M++dD c fs::G'))aOE
  (q:Q (.nx ρ (M++dD c DN::G'))):Q (hG c f ao dv ρ (M++dD c fs::G)):=by
 rw[ă (zr y _ M.length fs DN h (zq h0) Θ hl hf ?_) aJ0 q]
universe L2
namespace Sb
open PySem L2
abbrev a2G(L:Nat)zb(rs:w9)ao0:r9:=
 [Fy,Jb,Ng,Jl (η wait),Rm (η 0),V8 (ο (L+1)),aaJ (ο (L+2)),aiM (ο (L+3)),("falls",ο (L+4)),("trains",ο (L+5))]
abbrev NW KV(L:Nat)zb(rs:w9)ao0:ba:=
 [dD c (a2G L ps ss rs wait),.aj [],ς (abM _),.aj [],.aj [],.aj []]
def ka rG azn UC ao0 dY:aFA c lC [e_,ic,mL,η wait] (M++[dD c []])=.ok .ai (M++NW c M.length ps ss t7 wait):=by
 rw[cH A2 hg.fc hss hg.AW];rw[oM aFA P r (r=.ok .ai (M++NW c M.length ps ss t7 wait))];generalize hrs:t7=rs
 rw[v7 alo (∀N:ba,mX true xB (cj aA) (bT 0) oz (dC lU) [gR,pR,Eu,dR wait] N=.ok (ο N.length) (N++[ς (abM _)])) (λN=>by
  rw[Xc ps w N fy.enc (λ_=>lU) (nZ (ρ=[y])) W3 (λx _ ρ hρ=>by
   rw[MH y _ BD]) (jk A2),BI _ _,ml (by rw[LX A2])]) (Æ M M G' [] s2 n9 (AA rs) [Fy] (f_ (hr ps ss _ hg) hrs) (by rw[ia (0<1000)]) cI fj)];rw[gp (RK M M [] ic [Fy,Jb] (by simp[AE];exact cn (by rw[f9])) (by rw[ia (1<1000)])) (RK M M [] mL [Fy,Jb,Ng] (by simp[AE];exact cn (by rw[f9])) (by rw[ia (2<1000)]))];rw[gp (RK M M [] (η wait) [Fy,Jb,Ng,Jl (η wait)] (rfl) (by rw[ia (3<1000)])) (RK M M [] (η 0) [Fy,Jb,Ng,Jl (η wait),Rm (η 0)] (rfl) (by rw[ia (4<1000)]))];rw[gp (RK M M [.aj []] (ο jV) [Fy,Jb,Ng,Jl (η wait),Rm (η 0),V8 (ο jV)] (aK yK) (by rw[ia (5<1000)])) (RK M M [.aj [],ς (abM _)] (ο (pK 2)) [Fy,Jb,Ng,Jl (η wait),Rm (η 0),V8 (ο jV),aaJ (ο (pK 2))] (by rw[fk alo]) (by rw[ia (6<1000)]))];rw[QA (RK M M [.aj [],ς (abM _),.aj []] (ο (pK 3)) [Fy,Jb,Ng,Jl (η wait),Rm (η 0),V8 (ο jV),aaJ (ο (pK 2)),aiM (ο (pK 3))] (aK yK) (by rw[ia (7<1000)])) (RK M M [.aj [],ς (abM _),.aj [],.aj []] (ο (pK 4)) [Fy,Jb,Ng,Jl (η wait),Rm (η 0),V8 (ο jV),aaJ (ο (pK 2)),aiM (ο (pK 3)),("falls",ο (pK 4))] (aK yK) (by rw[ia (8<1000)])) (Æ M M G' [.aj [],ς (abM _),.aj [],.aj [],.aj []] s2 n9 (ο (pK 5)) [Fy,Jb,Ng,Jl (η wait),Rm (η 0),V8 (ο jV),aaJ (ο (pK 2)),aiM (ο (pK 3)),("falls",ο (pK 4)),("trains",ο (pK 5))] (aK yK) (by rw[ia (9<1000)]) cI QE)]
universe Sb
universe zE
end
mutual
section
namespace Sb
open PySem L2
section
variable {κ:Type} [BL] {α:Type}
abbrev cG K5:auh:=G4 (arx q (q.1=k)).map
abbrev iY K5(v:α):Bs:=
 if d.any (Cz (q.1=k)) then d.map (λq=>aqu (q.1=k) q.1 v q) else d++[(k,v)]
abbrev ig K5:Bs:=d.filter (pX q q.1 k)
def NX qw:bO (cG ([]:Bs) k):=rfl
def sJ(q:κ×α)K5:cG (q::d) k=vP q.1 k (MV q) (cG d k):=by
 rw[dO cG List.find?_cons];rw[xx h q.1 k h]
def aUo aoS:CG (d++[(k,v)])=(CG d).or (vP k k' qH none):=by
 induction d with
 |nil=>rw[l5,sJ,NX];rfl
 |cons q d ih=>
  rw[m_,sJ,sJ,ih];rw[xx h q.1 k' h]
def aYG aoS:CG (HJ q (aqu (q.1=k) q.1 v q))=if k'=k then(CG d).map (λ_=>v) else CG d:=by
 induction d with
 |nil=>simp[NX]
 |cons q d ih=>
  rw[b6,sJ,sJ,ih];rw[jq (q.1=k)]
  ·rw[Xh (k=k')]
   ·simp[h,h2]
   ·have h3:¬k'=k:=dF atx;simp[h,h2,h3]
  ·rw[Xh (q.1=k')]
   ·subst h2;simp[h]
   ·simp[h,h2]
def mem_keys K5:k∈qS↔Aa (cG d k):=by
 induction d with
 |nil=>simp[NX]
 |cons q d ih=>
  rw[b6,List.mem_cons,ih,sJ];rw[jq (q.1=k)]
  ·simp[h]
  ·rw[jF h];rw[b4 (λo=>o.elim (dF (absurd e.symm h)) id) ay]
def any_keys K5:aL (d.any (Cz (q.1=k)))↔k∈qS:=by
 rw[aqM];constructor
 ·rintro⟨q,hq,h⟩;exact U4 q hq (of_decide_eq_true h)
 ·intro h;rw[Cb q hq e h];rw[b5 q hq aLR]
def q_ aoS:CG (iY d k v)=vP k' k qH (CG d):=by
 rw[U9 iY h (d.any (Cz (q.1=k)))]
 ·rw[CJ,aYG];rw[Xh (k'=k)]
  ·subst h2;have:=(mem_keys d k').mp ((đ k').mp h);rw[ek,ek];cases e:CG d with
   |none=>rw[nG e this this]
   |some x=>rfl
  ·rw[LP,LP]
 ·rw[zH,aUo];rw[Xh (k'=k)]
  ·subst h2;have h3:¬(Aa (CG d)):=MN ((đ k').mpr ((mem_keys d k').mpr e));rw[ek,ek];cases e:CG d with
   |none=>rfl
   |some x=>rw[nG e h3 h3]
  ·rw[LP,rO e atx];simp
def NU(d:Bs)(k k':κ):CG (ig d k)=vP k' k none (CG d):=by
 unfold ig
 induction d with
 |nil=>simp[NX]
 |cons q d ih=>
  rw[List.filter_cons];rw[jq (q.1=k)]
  ·rw[vQ (aK h),ih,sJ];rw[Xh (k'=k)]
   ·rw[ait h2 h2]
   ·rw[LP,LP,rO e (h2 (e.symm.trans h))]
  ·rw[ahz h,sJ,ih,sJ];rw[Xh (k'=k)]
   ·rw[if_pos h2,if_pos h2,Nd e (e.trans h2)]
   ·rw[LP,LP]
def aWp K5(v:α):gz (iY d k v).map=qV k qS qS (qS++[k]):=by
 rw[U9 iY h (d.any (Cz (q.1=k)))]
 ·rw[CJ,jB ((đ k).mp h),List.map_map];refine List.map_congr_left λq _=>?_;rw[xx h2 q.1 k h2]
 ·rw[zH,Nd e ((đ k).mpr e),List.map_append];rfl
def aYH aoS:k'∈gz (iY d k v).map↔k'=k\/k'∈qS:=by
 rw[mem_keys,q_,mem_keys];rw[xx h k' k h]
def ams K5(k':κ):k'∈gz (ig d k).map↔k'≠k/\k'∈qS:=by
 rw[mem_keys,NU,mem_keys];rw[xx h k' k h]
def aed afz{v:α}(h:Ja):xD (iY d k v).map:=by
 rw[aWp];split
 ·exact h
 ·rename_i hk;rw[List.nodup_append];rw[d_ h Θ (i? a ha b hb)];rw[L1 hb hb];rintro rfl;exact hk ha
def Tw afz(h:Ja):xD (ig d k).map:=by
 unfold ig;have:(gz (d.filter (pX q q.1 k)).map).Sublist qS:=aBl;exact h.sublist this
def axz afz{v:α}(h:k∉qS):iY d k v=d++[(k,v)]:=by
 rw[dO iY (Nd e ((đ k).mp e))]
def wj afz{v:α}(h:CM d k v):(k,v)∈d:=by
 rw[nN cG];rw[UY q hq e h];rw[k9 aqb aCq];have h3:q.1=k:=ahd;obtain⟨a,b⟩:=q;cases h3;cases e;exact h1
def YI{d:Bs}(hn:Ja){q:κ×α}(h:q∈d):CM d q.1 q.2:=by
 induction d with
 |nil=>rw[E6]
 |cons q' d ih=>
  rw[sJ];rw[aBD b6 hn];rcases EC with rfl | h
  ·simp
  ·rw[rO e (hn.1 (by rw[nT (j4 q h)])),ih hn.2 h]
universe zE
universe Sb
universe zE
section
namespace Sb
open PySem L2
abbrev Yq rH ew:fU:=(cZ.getD r (0,[])).2
abbrev G2 rH ew:Nat:=(cZ.getD r (0,[])).1
abbrev we rH ew:ef:=gz (jG).map
structure gj where
 steps:fU
 ahead:fU
 out:Bool
structure AZ where
 u:Int
 ns:fX
 bd:Bool
structure bC where
 locks:tv
 points:Qc
 green:ef
 falls:xW
 now:Int
 trains:ab4
structure TB where
 tr:gj
 ob:Nat
 so:Nat
 sF:Nat
structure FB where
 u:Int
 gh:eH
 ob:Nat
structure cF where
 locks:Eg
 lying:xA
 greens:Eg
 falls:Bv FB
 ticks:Int
 trains:Sl TB
structure hJ dh rH:Prop where
 nd:asi r (gE r!)
 lt:asi r (aj4 (p<n))
 hd:asi r (asi r' (Ak=G2 cZ r'->∃p,p∈r!/\p∈we cZ r'))
abbrev cg(t:gj):q6:=t.steps.headD (0,0,0)
structure Gi rH(sN:QV)(locks:tv)(t:gj):Prop where
 ne:auN []
 nd:gE ahn
 st:Vz (ai6 locks s.1)
 eE:aju []->∃r k,aiI r/\g4::t.ahead=(jG).drop k/\VA (u7 locks s.1 r)
 ot:aL t.out->IQ/\bO (sN g4.1 CD)
abbrev T_(t t':gj):Prop:=(Vz (∀s'∈t'.steps,s.1≠s'.1))/\VA (∀s'∈t'.ahead,s.1≠s'.1)
abbrev alJ UN:Prop:=tG\/r∈mT
structure Inv dh rH(sN:QV)kj:Prop where
 ln:aAr n
 own:∀r,w!->aiI r/\aj4 (Ŗ p r/\∀x t,c8=eG->VA (s.1≠p))
 lk:∀p r,Ŗ p r->p∈r!
 oA:W.green.Nodup
 Iy:gE mT
 yX:∀r∈W.green,r∉mT
 i_:gE SP
 tr:∀x t,c8=eG->Gi cZ sN W.locks t
 yt:∀x y t t',c8=eG->aO tE t'->x≠y->T_ t t'
abbrev Kg rH(Dv:mq)ew(q:FB):AZ:=⟨q.u,q.gh.toList,Dv Ak⟩
abbrev Gq(_:Int)wW:gj:=t.tr
section
variable {κ:Type} [BL] {α β:Type}
abbrev iH agb(d:Bs):gP κ β:=HJ q (q.1,g q.1 q.2)
def amb agb(d:Bs):gz (iH g d).map=qS:=by rw[Hs iH]
def Zk agb qw:∀d:Bs,cG (iH g d) k=(cG d k).map (g k)
 |[]=>rfl
 |q::d=>by
  have ih:=Zk g k d;unfold iH at ih⊢;rw[b6,sJ,sJ,ih];rw[jq (q.1=k)]
  ·rw[zo h]
  ·simp[h]
def amc agb qw(v:α)(d:Bs):iH g (iY d k v)=iY (iH g d) k (g k v):=by
 unfold iH iY
 have:(HJ q (q.1,g q.1 q.2)).any (Cz (q.1=k))=aD5 (q.1=k):=by rw[aC5];rfl
 rw[this];split
 ·rw[List.map_map,List.map_map]
  refine List.map_congr_left λq _=>?_
  rw[jq (q.1=k)]
  ·rw[zo h]
  ·simp[h]
 ·simp
def zt agb qw(d:Bs):iH g (ig d k)=ig (iH g d) k:=by
 unfold iH ig;rw[aqm];rfl
universe zE
structure Zs dh rH(om:mq)(Dv:mq)kj oF:Prop where
 locks:∀p<n,HF p = aT K_
 DQ:gE aqB
 DR:gb aqB (p<n)
 Kb:B.lying.length=n
 gi:W.points.length=n
 AU:∀p<n,Wo p->iQ W.points p B.lying[p]?
 greens:∀s r,aO (Ic s) r↔tG/\Ak=s
 oA:gE aqq
 falls:W.falls=ē (Kg cZ Dv)
 ticks:B.ticks=W.now
 trains:W.trains=iH Gq B.trains
section
variable {n:Nat}{cZ:w9}{om:mq}{Dv:mq}{sN:QV}{W:bC}{B:cF}
def Inv.avm pG fz(h:tG):aiI r:=(mK (Ω h)).1
def Inv.lock pG{r p:Nat}GZ(hp:p∈r!):Ŗ p r:=((mK h).2 p hp).1
def Inv.one pG(R:au5){r r':Nat}GZ(h':Nt)(e:Ak=G2 cZ r'):r=r':=by
 rw[arX p h1 h2 (R.hd r (mK h).1 r' R4.1 e) e1 (ai1 h1) (I.lock h' h2) e1];cases e1;rfl
def Zs.amd GS:mT=rW:=by
 rw[S.falls,amb]
abbrev F6 ew Ph:tv:=aaG l s (ajQ s r7) l
abbrev NV ew O5:Eg:=aaG d s (iY d s.1 r) d
abbrev Tj ew Uw:tv:=l.map (MU o o r7 none o)
abbrev NO O5:Eg:=aaG d s (ig d s.1) d
abbrev Dt(om:mq)O! lK(l:Qc):Qc:=aaG l s (if om s.1 then l.set s.1 (aT (l0 s)) else l) l
abbrev DH O! lK(l:xA):xA:=aaG l s (ajQ s (l0 s)) l
def ame ew:∀Ph,cC (F6 r w l)=l.length
 |[],l=>rfl
 |s::w,l=>by show cC (F6 r w (ajQ s r7))=_;rw[fk (ame r w)]
def awy(r p:Nat):∀Ph,Rd p->(F6 r w l)[p]? = qV p Hg (G! r) l[p]?
 |[],l,h=>aK F6
 |s::w,l,h=>by
  show(F6 r w (ajQ s r7))[p]? = _;rw[awy r p w _ (aX h),b6];rw[abr p]
  ·rw[BF,atN h1]
  ·rw[aia h1 h2 (s.1=p)]
   ·subst h2;rw[if_pos Θ,aP8]
   ·rw[rO e ((aqx).elim (dF atx) h1),aQf]
def aG3(r p:Nat):∀O5,cG (NV r w d) p=qV p Hg r7 (cG d p)
 |[],d=>aK NV
 |s::w,d=>by
  show cG (NV r w (iY d s.1 r)) p=_;rw[aG3 r p w,b6,q_];rw[abr p]
  ·rw[BF,atN h1]
  ·rw[aia h1 h2 (p=s.1)]
   ·subst h2;rw[Fq ek Θ]
   ·rw[LP,rO e ((aqx).elim h2 h1)]
def alT tf:∀O5,cG (NO w d) p=qV p Hg none (cG d p)
 |[],d=>aK NO
 |s::w,d=>by
  show cG (NO w (ig d s.1)) p=_;rw[alT p w,b6,NU];rw[abr p]
  ·rw[BF,atN h1]
  ·rw[aia h1 h2 (p=s.1)]
   ·subst h2;rw[Fq ek Θ]
   ·rw[LP,rO e ((aqx).elim h2 h1)]
def axA ew:∀O5,Ja->xD (NV r w d).map
 |[],d,h=>h
 |s::w,d,h=>axA r w _ (aed h)
def aGv:∀O5,Ja->xD (NO w d).map
 |[],d,h=>h
 |s::w,d,h=>aGv w _ (Tw h)
def aIV bk ew O5(hw:gb Hg (p<n))(h:gb qS (p<n)):gb (gz (NV r w d).map) (p<n):=by
 intro p hp;rw[mem_keys,aG3]at hp;rw[abr p]
 ·exact hw p h1
 ·rw[ahZ,←mem_keys]at hp;exact h p hp
def aHH bk O5(h:gb qS (p<n)):gb (gz (NO w d).map) (p<n):=by
 intro p hp;rw[mem_keys,alT]at hp;rw[abr p]
 ·rw[nG BF hp hp]
 ·rw[ahZ,←mem_keys]at hp;exact h p hp
def amf(r p:Nat)Uw:(Tj r l)[p]? = l[p]?.map (MU o o r7 none o):=by
 rw[dO Tj g_]
def aGw O!:∀lK(l:Qc),cC (Dt om l0 w l)=l.length
 |[],l=>rfl
 |s::w,l=>by
  show cC (Dt om l0 w (if om s.1 then l.set s.1 (aT (l0 s)) else l))=_;rw[aGw l0 w];split<;>simp
def axB O!:∀lK(l:xA),cC (DH l0 w l)=l.length
 |[],l=>rfl
 |s::w,l=>by
  show cC (DH l0 w (ajQ s (l0 s)))=_;rw[fk (axB l0 w)]
def aIa{lw lb:au7}:∀lK(l:Qc)(b:xA),(nO w (Wo s.1->lw s=lb s))->l.length=b.length->(∀p<l.length,Wo p->iQ l p b[p]?) →
  ∀p<l.length,Wo p->iQ (Dt om lw w l) p (DH lb w b)[p]?
 |[],l,b,_,_,h=>h
 |s::w,l,b,hw,hl,h=>by
  show ∀p<l.length,Wo p->iQ (Dt om lw w (if om s.1 then l.set s.1 (aT (lw s)) else l)) p (DH lb w (b.set s.1 (lb s)))[p]?
  have ih:=aIa (lw:=lw) (lb:=lb) w (if om s.1 then l.set s.1 (aT (lw s)) else l) (b.set s.1 (lb s)) (sE (hw s (aK hs))) (by split<;>simp[hl]) (by
   intro p hp uH
   have KB:Rd p:=by split at hp<;>simpa using hp
   rw[uh s p]
   ·subst e;rw[if_pos uH,List.getElem?_set_self KB,List.getElem?_set_self aB,hw s Θ uH]
   ·rw[agw];split
    ·rw[au agw (h p KB uH)]
    ·exact h p KB uH)
  intro p hp;exact ih p (by split<;>simpa using hp)
def Gi.of{locks ayk:tv}{t:gj}(h:Gi cZ sN locks t)(h1:Vz (ai6 ayk s.1))(h2:VA (ayk[s.1]? = locks[s.1]?)):Gi cZ sN ayk t:=
 ⟨h.ne,h.nd,h1,dF (by rw[vf r k a b c (h.eE e) r k a b (sE (by rw[au (h2 s hs) (c s hs)]))]),h.ot⟩
def Gi.al azo(h:Gi cZ sN locks t)rL(hs:s∈t.ahead):∃r,u7 locks s.1 r:=by
 obtain⟨r,_,_,_,c⟩:=h.eE (List.ne_nil_of_mem hs);rw[b4 r (c s hs)]
def T_.symm{t u:gj}(h:T_ t u):T_ u t:=⟨λs hs s' fe e=>h.1 s' fe s hs e.symm,λs hs s' fe e=>h.2 s' fe s hs e.symm⟩
def aw8{W W':bC}aM8 fz(h:alJ W' r):w!:=h.imp (λh=>hg.subset h) λh=>hf.subset h
def Inv.put pG{W':bC}qt(ht:auM (zO t))(hl:W'.locks.length=W.locks.length)
  aM8(hk:xZ p (auI p = HF p \/ ai6 W'.locks p))
  (hv:∀r,alJ W' r->aj4 (auI p = HF p /\ VA (s.1≠p)))
  (hy:∀y u,y≠x->tE=dG->(nO u.ahead (auI s.1 = HF s.1))/\T_ t u)(hx:Gi cZ sN W'.locks t):qZ W':=by
 rw[tD get (∀y u,aro y=dG->(y=x/\u=t)\/(y≠x/\tE=dG)) (λy u h=>by
  rw[ht,q_]at h;rw[Dd y x]
  ·rw[xF]at h;cases h;exact IZ e
  ·rw[bF vg h (o4 e h)]) ⟨by rw[au hl I.ln],xO r h (mK (aw8 hg hf h)).1 (xO p hp (by rw[au (hv r h p hp).1 (PI (aw8 hg hf h))]) (cM y u hu)),cM p r h,aL2,aL3,
  λr h h'=>I.yX r (hg.subset h) (hf.subset h'),by rw[au ht (aed I.i_)],cM y u hu,MS y z u u' hu aRv ne⟩]
 ·rcases get y u hu with⟨_,rfl⟩ | ⟨_,h'⟩
  ·exact(hv r h p hp).2
  ·exact((mK (aw8 hg hf h)).2 p hp).2 y u h'
 ·rcases hk p with e | e
  ·rw[E! h (I.lk p r h)]
  ·rw[e]at h;cases h
 ·rcases get y u hu with⟨_,rfl⟩ | ⟨e,h'⟩
  ·exact hx
  ·refine(I.tr y u h').of C2 (hy y u e h').1;rcases hk s.1 with e' | e'
   ·rw[gx e' ((I.tr y u h').st s hs)]
   ·exact e'
 ·rcases get y u hu with⟨rfl,rfl⟩ | ⟨e,h1⟩
  ·rcases get z u' aRv with⟨rfl,_⟩ | ⟨e',h2⟩
   ·rw[Rv ne]
   ·exact(hy z u' e' h2).2
  ·rcases get z u' aRv with⟨rfl,rfl⟩ | ⟨e',h2⟩
   ·exact(hy y u e h1).2.symm
   ·exact I.yt y z u u' h1 h2 ne
def Inv.del pG gI:qZ (Me W (Qn x)):=by
 rw[Ų get (∀y u,cG (Qn x) y=dG->tE=dG) (λy u h=>by
  rw[NU]at h;split at h
  ·cases h
  ·exact h) ⟨I.ln,xO r h (mK h).1 (xO p hp ((mK h).2 p hp).1 (λy u hu=>((mK h).2 p hp).2 y u (get y u hu))),I.lk,I.oA,I.Iy,I.yX,Tw I.i_,λy u hu=>I.tr y u (get y u hu),λy z u u' h h'=>I.yt y z u u' (get y u h) (get z u' h')⟩]
abbrev aF1 rH(om:mq)O! UN:bC:=
 { W with locks:=Rz r,points:=Dt om l0 jG W.points,green:=Wx [r]}
abbrev setB rH O! oF ew:cF:=
 { B with locks:=VZ r jG,lying:=DH l0 jG B.lying,greens:=iY B.greens Ak r}
def set_inv{l0:au7}K4 fz(hr:aiI r)(aS:jG≠[])(hf:aj4 (aum p))
  (ht:∀x t,c8=eG->Vz (s.1∉r!)):qZ (aF1 cZ om l0 W r):=by
 rw[iA hp0 (∃p,p∈r!) (by
  unfold we;cases e:jG with
  |nil=>rw[CI aS]
  |cons s w=>rw[b4 s.1 Θ]) hold (∀r',Nt->gb (we cZ r') (p∉r!)) (λr' h' p hp KB=>by
  rw[gX e1 (PI h') (hf p KB) e1];cases e1) aQs (∀r',Nt->r'≠r) (λr' h' e=>by
  subst e;rw[eg p hp hp0 (hold _ h' p hp hp)]) aRj (∀x t,c8=eG->VA (s.1∉r!)) (λx t h s hs hp=>by
  rw[arL r' e ((sr h).al hs) (hf _ hp) e];cases e)]
 have get:∀p<n,(Rz r)[p]? = qV p r! (G! r) (HF p):= jb (awy r p _ _ (by rw[au I.ln hp]))
 rw[Ð lt (∀p(o:fO),iQ (Rz r) p o->p<n) (λp o h=>by
  have:=Lq.1;rwa[ame,I.ln]at this) lt' (∀p(o:fO),iQ W.locks p o->p<n) (λp o h=>by
  rw[M6 Lq.1 I.ln]) ⟨by rw[Ż (cC (F6 _ _ _)=_) ame I.ln],?_,?_,?_,I.Iy,?_,I.i_,?_,I.yt⟩]
 ·intro r' h'
  have h':Nt\/r'=r:=by
   rcases h' with h' | h'
   ·rcases aPC with h' | h'
    ·exact Ω (Ω h')
    ·exact ay (aX h')
   ·exact Ω (ay h')
  rcases h' with h' | rfl
  ·rw[fF R4.1 (xO p hp ?_ (R4.2 p hp).2)];show(Rz r)[p]? = _;rw[er (get p (R.lt r' R4.1 p hp)) (vQ (hold r' h' p hp)) (PI h')]
  ·rw[b4 hr (xO p hp (by show(VT _ _)[p]? = _;rw[Fq (get p (ajR _ p hp)) hp]) (λx t h s hs e=>aRj x t h s hs (e▸hp)))]
 ·intro p r' h;rw[pY h (JK (Rz r) r') h (get p (lt p _ h)) h];split at h
  ·rename_i hp;cases h;exact hp
  ·exact I.lk p r' h
 ·show gE (Wx [r]);rw[List.nodup_append];rw[d_ I.oA Θ (i? a ha b hb)];rw[Ñ hb hb (aQs a (Ω ha))]
 ·intro r' h' h2;have h':r'∈Wx [r]:=h';rcases aPC with h' | h'
  ·exact I.yX r' h' h2
  ·simp at h';exact aQs r' (ay h2) h'
 ·intro x t h;refine(sr h).of C2 C2
  ·have e:=(sr h).st s hs;show(Rz r)[s.1]? = _;rw[er (get s.1 (lt' _ _ e)) (vQ (ht x t h s hs)) e]
  ·rw[ajq r' ((sr h).al hs)];show(Rz r)[s.1]? = _;rw[get s.1 (lt' _ _ e),vQ (aRj x t h s hs)]
def a0j{lw lb:au7}Pn fz(hr:aiI r)(hf:aj4 (aum p))(hl:nO jG (Wo s.1->lw s=lb s)):
  vn (aF1 cZ om lw W r) (setB cZ lb B r):=by
 refine⟨?_,axA r _ _ S.DQ,aIV r _ _ (R.lt r hr) S.DR,by rw[Ż (cC (DH _ _ _)=_) axB S.Kb],by rw[Ż (cC (Dt _ _ _ _)=_) aGw S.gi],?_,?_,aed S.oA,S.falls,S.ticks,S.trains⟩
 ·intro p hp;show zP (Rz r) p (cG (VZ r jG) p);rw[awy _ _ _ _ (by rw[au I.ln hp]),aG3,at0 p];split<;>rfl
 ·intro p hp;exact aIa jG W.points B.lying hl (kn S.gi S.Kb) (jb (S.AU p (by rw[bF S.gi hp hp]))) p (by rw[au S.gi hp])
 ·intro s r';show CM (iY B.greens Ak r) s r'↔r'∈Wx [r]/\G2 cZ r'=s;rw[q_];rw[jq (s=Ak)]
  ·subst h;rw[ek];constructor
   ·intro e;cases e;simp
   ·rw[ahU h2];rcases aPB with h1 | h1
    ·obtain⟨p,hp,KB⟩:=R.hd r' (I.avm h1) r hr h2;rw[vz (PI (Ω h1)) (hf p KB)];cases this
    ·simp at h1;rw[h1]
  ·rw[zH,S.greens];constructor
   ·rw[ahU h2];rw[b4 (aK h1) h2]
   ·rw[ahU h2];rcases aPB with h1 | h1
    ·rw[b4 h1 h2]
    ·rw[L1 h1 h1];rw[kA h2.symm h]
def aG4{s r' r:Nat}Pn GZ:CM (agC Ak) s r'↔r'∈(Aj x x)/\G2 cZ r'=s:=by
 rw[NU,List.mem_filter];rw[Dd s Ak]
 ·rw[xF];constructor
  ·intro h;cases h
  ·rintro⟨⟨h1,h2⟩,h3⟩;rw[n0 (I.one R (Ω h1) h (h3.trans e)) ahd]
 ·rw[vg,S.greens];constructor
  ·rw[ahU h2];rw[b4 ⟨h1,decide_eq_true λe'=>e (by rw[←h2,e'])⟩ h2]
  ·rintro⟨⟨h1,_⟩,h2⟩;rw[b4 h1 h2]
def aYk pG{r p:Nat}GZ(hp:p<n):nX[p]? = qV p r! (some none) (HF p):=by
 rw[amf];rw[PV (p∈r!)]
 ·rw[ai1 h1,BF];simp
 ·rw[jF h1];cases e:HF p with
  |none=>rfl
  |some o=>
   rw[Option.map_some];split
   ·rename_i e2;subst e2;rw[n0 (I.lk p r e) h1]
   ·rfl
def aIB K4 fz GZ{g:ef}{f:xW}{t:Int}(hg:g.Sublist W.green)(hf:(arq).Sublist mT)(DO:r∉g)(Kr:r∉arq):
  qZ { W with locks:=nX,green:=g,falls:=f,now:=t}:=by
 rw[tD old (∀r',r'∈g\/r'∈arq->Nt/\r'≠r) (λr' h'=>by
  rcases h' with h' | h'
  ·rw[vj (Ω (hg.subset h')) e (DO (e▸h'))]
  ·rw[vj (ay (hf.subset h')) e (Kr (e▸h'))]) ⟨f_ Tj I.ln,?_,?_,aL2,aL3,λr' h1 h2=>I.yX r' (hg.subset h1) (hf.subset h2),I.i_,?_,I.yt⟩]
 ·intro r' h';rw[vE (old r' h')];rw[fF (agT h1).1 (xO p hp ?_ ((agT h1).2 p hp).2)];show nX[p]? = _;rw[amf,PI h1];simp[h2]
 ·intro p r' h';rw[pY h' (JK nX r') h' amf h'];rw[UY o ho e h'];split at e
  ·cases e
  ·rw[f7 e (I.lk p r' ho)]
 ·intro x u hu;refine(Vk u hu).of C2 C2
  ·show nX[s.1]? = _;rw[amf,(Vk u hu).st s hs];simp
  ·show nX[s.1]? = _;rw[ajq r' ((Vk u hu).al hs)];rw[amf,e,Option.map_some];rw[abw (aO (some r':fO) r)]
   ·rw[S0 e3 (r'=r) e2];rw[bF e3 e (Rf rfl (((mK h).2 s.1 (I.lk _ _ e)).2 x u hu s hs))]
   ·rw[jF e2]
def aIC Pn fz GZ{g:ef}{gs:Eg}{f:xW}{fb:Bv FB}{t:Int}(hg:∀s r,CM gs s r↔r∈g/\Ak=s)(aE4:gE (gs.map (·.1)))(a66:f=iH (Kg cZ Dv) fb):
  vn { W with locks:=nX,green:=g,falls:=f,now:=t} { B with locks:=VO jG,greens:=gs,falls:=fb,ticks:=t}:=by
 refine⟨?_,aGv _ _ S.DQ,aHH _ _ S.DR,S.Kb,S.gi,S.AU,hg,aE4,a66,rfl,S.trains⟩;intro p hp;show zP nX p (cG (VO jG) p);rw[aYk I h hp,alT,at0 p];show(qV p r! _ _)=aT (qV p r! _ _);split<;>rfl
abbrev ZE UN:bC:=Qh W nX green (Aj x x)
abbrev amL rH oF ew:cF:=Qh B (VO jG) greens (agC Ak)
def aID{g:ef}fz:r∉g.filter (pX x x r):=λh=>of_decide_eq_true aq3.2 rfl
def aUU K4 fz(h:tG):qZ (ZE W r):=
 aIB (t:=W.now) R I (Ω h) List.filter_sublist SQ aID (I.yX r h)
def aUV Pn fz(h:tG):vn (ZE W r) (amL cZ B r):=by
 have:=aIC (fb:=B.falls) (t:=W.now) R I S (Ω h) (λs r'=>aG4 (s:=s) (r':=r') R I S (Ω h)) (Tw S.oA) S.falls;have e2:=S.ticks;unfold ZE amL;rw[←e2]at this;rw[cw e2 this]
abbrev T5 UN(u:AZ):bC:={ W with green:=aBF (pX x x r),falls:=ahL r u}
abbrev anG rH oF ew(u:FB):cF:={ B with greens:=agC Ak,falls:=Vb r u}
def SF pG fz{u:AZ}(h:tG):qZ (T5 W r u):=by
 rw[tD hm (∀r',r'∈gz (ahL r u).map↔r'=r\/r'∈mT) (aYH _ _ _) ⟨I.ln,?_,I.lk,I.oA.sublist List.filter_sublist,aed I.Iy,?_,I.i_,I.tr,I.yt⟩]
 ·intro r' h';refine agT ?_;rcases h' with h' | h'
  ·exact Ω aAX.1
  ·rcases(hm r').mp h' with rfl | h'
   ·exact Ω h
   ·exact ay h'
 ·intro r' h1 h2;rcases(hm r').mp h2 with rfl | h2
  ·exact aID h1
  ·exact I.yX r' (List.mem_filter.mp h1).1 h2
def aYl Pn fz{u:FB}(h:tG):vn (T5 W r (Kg cZ Dv r u)) (anG cZ B r u):=
 ⟨S.locks,S.DQ,S.DR,S.Kb,S.gi,S.AU,λs r'=>aG4 R I S (Ω h),Tw S.oA,by show ahL r _=iH _ (Vb r u);rw[S.falls,amc],S.ticks,S.trains⟩
abbrev Ow(f:xW)Pp ew:Bool:=match cG f r with
 |dG=>FE u.u t
 |none=>false
abbrev Z3(f:Bv FB)Pp ew:Bool:=match cG f r with
 |dG=>FE u.u t
 |none=>false
def aIE GS Pp ew:Ow W.falls t r=Z3 B.falls t r:=by
 unfold Ow Z3;rw[S.falls,Zk];cases cG B.falls r<;>rfl
abbrev n7 UN:bC:=if Ow W.falls W.now r then Qh W nX falls (Qu r) else W
abbrev oi rH oF ew:cF:=if Z3 B.falls B.ticks r then Qh B (VO jG) falls Ac else B
def aG5{f:xW}{t:Int}fz(h:aL (Ow f t r)):r∈arq:=by
 rw[nN Ow];rw[mem_keys];cases e:cG f r with
 |none=>rw[e]at h;cases h
 |some u=>rfl
def aIb K4 fz:qZ (n7 W r):=by
 unfold n7;split
 ·rename_i h;refine aIB (t:=W.now) R I (ay (aG5 h)) SQ aBl (λh'=>I.yX r h' (aG5 h)) (λh'=>((ams _ _ _).mp h').1 rfl)
 ·exact I
def aWq Pn fz:vn (n7 W r) (oi cZ B r):=by
 unfold n7 oi;rw[aIE S,S.ticks];split
 ·rename_i h;rw[←aIE S]at h;have:=aIC (f:=Qu r) (fb:=Ac) (t:=W.now) R I S (ay (aG5 h)) (λs r'=>at1 r') S.oA (kn S.falls zt);have e2:=S.ticks;rw[←e2]at this;rw[S.falls]at this⊢;rw[cw e2 this]
 ·exact S
def aIc fz:(n7 W r).now=W.now:=by unfold n7;split<;>rfl
abbrev aet kj:bC:={ W with now:=Al}
abbrev yR oF:cF:=Hx ticks (Mp 1)
def Bn pG:qZ (aet W):=⟨I.ln,I.own,I.lk,I.oA,I.Iy,I.yX,I.i_,I.tr,I.yt⟩
def aJ4 GS:vn (aet W) (yR B):=⟨S.locks,S.DQ,S.DR,S.Kb,S.gi,S.AU,S.greens,S.oA,S.falls,by show Mp 1=Al;rw[S.ticks],S.trains⟩
abbrev Due kj:Prop:=yp W.falls (W.now<q.2.u)
abbrev Gd kj:bC:=(mT).foldl n7 (aet W)
abbrev aeT rH oF:cF:=(rW).foldl (oi cZ) (yR B)
def aGQ(R:au5):∀aax,au3->qZ (Vy W)
 |[],W,I=>I
 |r::rs,W,I=>aGQ R rs _ (aIb R I)
def aGR(R:au5):∀aax oF,au3->aQK->vn (Vy W) (rs.foldl (oi cZ) B)
 |[],W,B,I,S=>S
 |r::rs,W,B,I,S=>aGR R rs _ _ (aIb R I) (aWq R I S)
def aYm K4:qZ (Gd W):=aGQ R _ _ (Bn I)
def aYn Pn:vn (Gd W) (aeT cZ B):=by
 unfold Gd aeT;rw[ş (aGR R _ _ _ (Bn I) (aJ4 S))]
def aHz:∀aax,gE mT->(Vy W).now=W.now/\yp (Vy W).falls (q∈W.falls/\(q.1∈rs->W.now<q.2.u))
 |[],W,_=>j3 (xO q hq hq Θ)
 |r::rs,W,hn=>by
  rw[List.foldl_cons]
  have a5P:xD (n7 W r).falls.map:=by
   unfold n7;split
   ·exact Tw hn
   ·exact hn
  rw[vE (aHz rs (n7 W r) a5P)];rw[aIc]at h1 h2;rw[ahA h1 q hq];obtain⟨h3,h4⟩:=h2 q hq
  unfold n7 at h3;split at h3
  ·have h5:=List.mem_filter.mp h3;rw[vj h5.1 h ((EC).elim (dF (Rf e (arh h5))) h4)]
  ·rename_i hd;rw[fF h3 (λh=>(EC).elim (cJ e) h4)];subst e;unfold Ow at hd;rw[nG (YI hn h3) hd hd];omega
def aYo pG:Due (Gd W):=by
 rw[vE (aHz mT (aet W) I.Iy)];intro q hq;have h3:=h2 q hq;rw[jA Gd h1 (h3.2 (j4 q h3.1))]
def aYp aac fz{u:AZ}(hw:W.now<u.u)(hr:r∉mT):Due (T5 W r u):=by
 intro q hq;have hq:q∈ahL r u:=hq;show W.now<q.2.u;rw[axz hr]at hq;rcases aPE with hq | hq
 ·exact D q hq
 ·rw[Ñ hq hq hw]
abbrev tj kj tf:bC:={ W with points:=ar1 ((W.points.getD p none).map (!·))}
abbrev aeJ oF tf:cF:=Hx lying (aCS (!(Li p)))
def aWr pG Bj:qZ (tj W p):=⟨I.ln,I.own,I.lk,I.oA,I.Iy,I.yX,I.i_,I.tr,I.yt⟩
def aWs GS Bj(hp:p<n)(uH:Wo p):vn (tj W p) (aeJ B p):=by
 refine⟨S.locks,S.DQ,S.DR,f_ aeJ S.Kb,f_ tj S.gi,?_,S.greens,S.oA,S.falls,S.ticks,S.trains⟩;intro q hq a7p;show iQ (ar1 ((W.points.getD p none).map (!·))) q (aCS (!(Li p)))[q]?;rw[k9 (S.AU p hp uH) (S.AU q hq a7p)]
 have s4:ar9 p:=by rw[au S.Kb hp]
 rw[Dd p q]
 ·subst e;rw[agq (by rw[au S.gi hp]),List.getElem?_set_self s4,List.getD_eq_getElem?_getD,h1,List.getD_eq_getElem?_getD,List.getElem?_eq_getElem s4];rfl
 ·rw[er agw agw h2]
def aWt aac Bj:Due (tj W p):=D
def awJ Uw(p q:Nat):(ĕ p)[q]? = l[q]? \/ ai6 (ĕ p) q:=by
 rw[jq (p=q)]
 ·subst h;by_cases hl:Rd p
  ·exact ay (List.getElem?_set_self hl)
  ·left;rw[E1 (by rw[f9]),Ū]
 ·exact Ω aPw
def aJ5 GS(hl:aAr n){p q:Nat}(hq:q<n):zP (W.locks.set p none) q (cG (LJ p) q):=by
 rw[NU];rw[jq (q=p)]
 ·subst h;rw[ek,agq (by rw[au hl hq])]
 ·rw[zH,agx (MN e.symm),S.locks q hq]
def aKz{d:Eg}Bj(h:yp qS (q<n)):yp (gz (ig d p).map) (q<n):=vY (h q ((ams _ _ _).mp hq).2)
abbrev Ox rH UN gI(old:fU):bC:=
 { W with green:=aBF (pX y y r),falls:=Qu r,locks:=Q0 ((jG).headD (0,0,0)),trains:=arW ((jG).take 1++old) ((jG).drop 1)}
abbrev aeU rH oF ew gI wW:cF:=
 { B with greens:=agC Ak,falls:=Ac,locks:=LJ ((jG).headD (0,0,0)).1,trains:=Rl t}
def aIF K4 fz fW{old:fU}GZ(aS:jG≠[])(ho:∀t,c8=eG->t.steps=old)(hn:bO c8->old=[]):qZ (Ox cZ W r x old):=by
 rw[ŵ w fJ (∃s w,jG=s::w) (by
  cases e:jG with
  |nil=>rw[CI aS]
  |cons s w=>exact jc s w)]
 rw[Iu YX (r!=s0.1::Hg) (by rw[Hr we fJ]) fS (R.nd r (mK h).1)];rw[aBD YX fS];rw[gv A3 (Ŗ s0.1 r) (ai1 (by rw[fk YX])) hw (nO w (s.1∈r!)) (sE (by rw[au YX (h_ (j4 s hs))])) fq (BP s0.1) aO0.1];have aJe:xZ q (q≠s0.1->Sf[q]? = HF q):= vY (agx (dF (hq e.symm)))
 rw[bM hold (nO old (aum s.1)) (sE (by
  cases e:c8 with
  |none=>rw[nG (hn e) hs hs]
  |some t=>exact(sr e).st s (by rw[au (ho t e) hs]))) afk (xD ((s0::w).take 1++old).map) (by
  show gE (s0.1::old.map (·.1));rw[List.nodup_cons];rw[fF (cJ h) ?_]
  ·rw[Cb s hs e h];have:=hold s hs;rw[e,A3]at this;cases this
  ·cases e:c8 with
   |none=>rw[fk (hn e)]
   |some t=>rw[←ho t e];exact(sr e).nd)]
 rw[dO Ox fJ]
 refine I.put (x:=x) rfl Θ List.filter_sublist aBl (λp=>awJ _ _ _) (i? r' h' p hp) (i? y u ne hu) ⟨Θ,afk,?_,?_,Θ⟩
 ·rw[M4 h'' (Nt/\r'≠r) (by
   rcases h' with h' | h'
   ·rw[b4 (Ω aAX.1) (arh aAX)]
   ·rw[b4 (ay ((ams _ _ _).mp h').2) ((ams _ _ _).mp h').1]) hd (p∉r!) KB (by
   rw[gX e1 (PI h''.1) (ai1 KB) e1];cases e1;exact h''.2 rfl)]
  rw[b4 (ř p (hd (by rw[e,YX];simp))) (λs hs e=>hd (e▸hw s hs))]
 ·rw[d_ (sE (ř _ (((mK h).2 s0.1 (by rw[fk YX])).2 y u hu s hs e))) (lV s hs s' fe e) (λs hs s' fe e=>((mK h).2 s.1 (hw s hs)).2 y u hu s' fe e.symm)];rw[fG e0 ((I.tr y u hu).st s' fe) hs (s=s0\/s∈old) (aX hs)]
  rcases hs with rfl | hs
  ·rw[←e,A3]at e0;cases e0
  ·cases e1:c8 with
   |none=>rw[nG (hn e1) hs hs]
   |some t=>exact(I.yt x y t u e1 hu (dF atD)).1 s (by rw[au (ho t e1) hs]) s' fe e
 ·intro s hs
  have hs:s=s0\/s∈old:=aX hs
  show Sf[s.1]? = _;rcases hs with rfl | hs
  ·exact aPZ
  ·rcases awJ W.locks s0.1 s.1 with e | e
   ·rw[nT (hold s hs)]
   ·exact e
 ·intro _;rw[vv ⟨r,0,(mK h).1,by rw[cU fJ],C2⟩ hs (s∈w) hs];rw[Ż (Sf[s.1]? = _) (ř _ (fS.1 (e▸j4 s hs))) (ai1 (hw s hs))]
def aIG Pn fz fW{old:fU}{t:TB}GZ(ht:t.tr=BQ ((jG).take 1++old) ((jG).drop 1)):vn (Ox cZ W r x old) (aeU cZ B r x t):=
 ⟨jb (aJ5 S I.ln hp),Tw S.DQ,aKz S.DR,S.Kb,S.gi,S.AU,λs r'=>aG4 R I S h,Tw S.oA,by show Qu r=iH _ Ac;rw[S.falls,zt],S.ticks,by show JE=iH Gq (Rl t);rw[amc,S.trains,Gq,ht]⟩
abbrev T6 kj DZ:bC:=
 Qh W (Q0 (Sx 0 0 0)) trains (zO (atm agX 1))
abbrev aLb UO tf wW:cF:=Qh B (LJ p) trains (Rl t)
def aYq K4 qt KN(aS:aju []):qZ (T6 W x t):=by
 rw[ŵ w fJ (∃s w,t.ahead=s::w) (by
  cases e:t.ahead with
  |nil=>rw[CI aS]
  |cons s w=>exact jc s w)]
 have T:=sr hx;obtain⟨r,k,hr,hk,uN⟩:=T.eE aS;rw[fJ]at hk uN
 have fS:xD (s0::w).map:=by
  have h1:((jG).drop k |>.map (·.1)).Nodup:=by
   rw[gx List.map_drop ((aaU r).sublist (aAL _))]
  rw[←hk,b6,List.nodup_cons]at h1;exact h1.2
 rw[aBD b6 fS];rw[fG A3 (uN s0 Θ) fq (BP s0.1) aO0.1];have aJe:xZ q (q≠s0.1->Sf[q]? = HF q):= vY (agx (dF (hq e.symm)))
 have afk:xD (asj ((s0::w).take 1)).map:=by
  show gE (s0.1::ahn);rw[List.nodup_cons];rw[fF (cJ h) T.nd];rw[Cb s hs e h];have:=T.st s hs;rw[e,A3]at this;cases this
 rw[dO T6 fJ]
 refine I.put (x:=x) rfl Θ SQ SQ (λp=>awJ _ _ _) (i? r' h' p hp) (i? y u ne hu) ⟨Θ,afk,?_,?_,Θ⟩
 ·rw[gX h1 ((R4.2 p hp).2 x t hx) fJ h1];rw[b4 (ř p (h1 s0 Θ e.symm)) (sE (h1 s (h_ hs)))]
 ·have hd:=I.yt x y t u hx hu (dF atD);rw[T_,fJ]at hd;rw[d_ (sE (ř _ (hd.2 s0 Θ s hs e.symm))) (lV s hs s' fe e) (sE (hd.2 s (h_ hs)))]
  have hs:s=s0\/aiJ s:=aX hs
  rcases hs with rfl | hs
  ·have e0:=(I.tr y u hu).st s' fe;rw[←e,A3]at e0;cases e0
  ·exact hd.1 s hs s' fe e
 ·intro s hs
  have hs:s=s0\/aiJ s:=aX hs
  show Sf[s.1]? = _;rcases hs with rfl | hs
  ·exact aPZ
  ·rcases awJ W.locks s0.1 s.1 with e | e
   ·rw[nT (T.st s hs)]
   ·exact e
 ·intro _;refine⟨r,k+1,hr,?_,C2⟩
  ·rw[←List.drop_drop,←hk];rfl
  ·have hs:s∈w:=hs;rw[Ż (Sf[s.1]? = _) (ř _ (fS.1 (e▸j4 s hs))) (uN s (h_ hs))]
def aYr pG GS qt{t':TB}(ht:t'.tr=atm agX 1):vn (T6 W x t) (aLb B x (Sx 0 0 0).1 t'):=
 ⟨jb (aJ5 S I.ln hp),Tw S.DQ,aKz S.DR,S.Kb,S.gi,S.AU,S.greens,S.oA,S.falls,S.ticks,by show JE=iH Gq IT;rw[amc,S.trains,Gq,ht]⟩
abbrev DE kj DZ:bC:=Me W (zO t)
abbrev aEj UO wW:cF:=Me B (Rl t)
def aJ6 GS fW{t:TB}:vn (DE W x t.tr) (aEj B x t):=
 ⟨S.locks,S.DQ,S.DR,S.Kb,S.gi,S.AU,S.greens,S.oA,S.falls,S.ticks,by show JE=iH Gq (Rl t);rw[amc,S.trains,Gq]⟩
def aJ7 pG fW{t t':gj}KN(ha:aAf t.ahead)(hs:nO t'.steps (aiJ s))(hT:Gi cZ sN W.locks t'):qZ (DE W x t'):=by
 rw[Et (I.put (W':=DE W x t') (x:=x) rfl rfl SQ SQ (λp=>Ω rfl) (λr' h' p hp=>j3 (by rw[gx ha ((R4.2 p hp).2 x t hx)])) (λy u ne hu=>k7 (HL _ _)) hT) hd (I.yt x y t u hx hu (dF atD))];rw[b4 (λs h=>hd.1 s (hs s h)) (by rw[au ha hd.2])]
def a0k pG qt KN(ha:IQ)(hb:bO (sN g4.1 CD)):qZ (DE W x (auy [])):=
 aJ7 I hx ha.symm (λs h=>h) ⟨(sr hx).ne,(sr hx).nd,(sr hx).st,λh=>absurd rfl h,λ_=>j3 hb⟩
def aUj{t:gj}(h:t.steps.length≠1)(aS:auN []):t.steps.dropLast≠[]/\t.steps.dropLast.headD (0,0,0)=g4:=by
 unfold cg;cases e:t.steps with
 |nil=>rw[CI aS]
 |cons s w=>
  cases w with
  |nil=>rw[nG e h h]
  |cons s' w=>simp
def aYs pG qt KN(h1:t.steps.length≠1):qZ (DE W x LY):=by
 rw[Vl T (sr hx) h2 h3 (aUj h1 T.ne)];rw[bM hm (nO t.steps.dropLast (aiJ s)) (λs h=>(aPs).subset h) e (cg LY=g4) h3];exact aJ7 I hx rfl hm ⟨h2,T.nd.sublist ((aPs).map _),λs h=>T.st s (hm s h),λh=>by rw[nT (T.eE h)],λh=>by rw[nT (T.ot h)]⟩
abbrev afm UP:bC:=Me W (Qn x)
abbrev aQt UO:cF:=Me B (asD x)
def a0l GS fW:vn (afm W x) (aQt B x):=
 ⟨S.locks,S.DQ,S.DR,S.Kb,S.gi,S.AU,S.greens,S.oA,S.falls,S.ticks,by show Qn x=iH Gq (asD x);rw[zt,S.trains]⟩
abbrev flip mh:q6:=(s.1,s.2.2,s.2.1)
abbrev A1 Ph:tv:=aaG l s (ĕ s.1) l
def amM:∀Ph,cC (A1 w l)=l.length
 |[],l=>rfl
 |s::w,l=>by show cC (A1 w (ĕ s.1))=_;rw[fk (amM w)]
def amX tf:∀Ph,Rd p->(A1 w l)[p]? = qV p Hg (some none) l[p]?
 |[],l,h=>aK A1
 |s::w,l,h=>by
  show(A1 w (ĕ s.1))[p]? = _;rw[amX p w _ (aX h),b6];rw[abr p]
  ·rw[BF,atN h1]
  ·rw[aia h1 h2 (s.1=p)]
   ·subst h2;rw[if_pos Θ,aP8]
   ·rw[rO e ((aqx).elim (dF atx) h1),aQf]
def aKA Ph tf:(A1 w l)[p]? = l[p]? \/ ai6 (A1 w l) p:=by
 rw[jq (Rd p)]
 ·rw[amX p w l h];split
  ·exact ay rfl
  ·exact Ω rfl
 ·left;rw[E1 (by rw[nQ amM]),Ū]
def aJ8 Ph tf(hp:p∉Hg):(A1 w l)[p]? = l[p]?:=by
 rw[jq (Rd p)]
 ·rw[amX p w l h,if_neg hp]
 ·rw[E1 (by rw[nQ amM]),Ū]
abbrev J_ gI(_:Nat)(u:AZ):AZ:=⟨u.u,u.ns.filter (pX y y x),u.bd⟩
abbrev J' gI(_:Nat)(u:FB):FB:={ u with gh:=vP u.gh g7 none u.gh}
abbrev aeV kj DZ:bC:=
 { W with locks:=asM,falls:=iH (J_ x) W.falls,trains:=akE []}
abbrev aLc UO(eE:fU)wW:cF:={ B with locks:=VO eE,falls:=ē (J' x),trains:=Rl t}
def aYt pG qt KN:qZ (aeV W x t):=by
 rw[pM T (sr hx) hm (∀s∈zZ,∃s'∈t.steps,s.1=s'.1) (λs h=>by
  rw[L7 s' h' h (jc s' (List.mem_reverse.mp h'))]) afk (xD (zZ).map) (by
  rw[List.map_map,BZ (((·.1)∘flip:q6->Nat)=(·.1)),List.map_reverse]
  exact(List.reverse_perm _).nodup_iff.mpr T.nd)]
 rw[zY aeV (I.put (x:=x) rfl (amM _ _) SQ (by rw[au amb SQ]) (λp=>aKA _ _ _) (i? r' h' p hp) (i? y u ne hu) ⟨?_,afk,?_,λh=>absurd rfl h,λh=>by cases h⟩)]
 ·have h'':Nt:=by
   rcases h' with h' | h'
   ·exact Ω h'
   ·right;have h':r'∈gz (iH (J_ x) W.falls).map:=h';rwa[amb]at h'
  rw[fF (aJ8 _ _ _ (cJ h)) (sE (Lh hs))]
  rw[Cb s hs e h];exact((agT h'').2 p hp).2 x t hx s hs e
 ·have hd:=I.yt x y t u hx hu (dF atD);rw[d_ (sE (aJ8 _ _ _ (cJ h))) (lV s hs s' fe e) (sE (Lh hs))]
  ·rw[Cb s' fe e h];exact hd.2 s' fe s hs e
  ·rw[Mg s2 h2 e2 (hm s hs) (hd.1 s2 h2 s' fe (e2.symm.trans e))]
 ·have:=T.ne;intro h;apply this;rw[vI h2 (t.steps.reverse=[]) (List.map_eq_nil_iff.mp h) (List.reverse_eq_nil_iff.mp h2)]
 ·intro s hs;obtain⟨s2,h2,e2⟩:=hm s hs;show asM[s.1]? = _;rw[e2];rcases aKA t.ahead W.locks s2.1 with e | e
  ·rw[nT (T.st s2 h2)]
  ·exact e
def aYu pG GS qt{t':TB}(ht:t'.tr=BQ zZ []):vn (aeV W x t) (aLc B x t.ahead t'):=by
 refine⟨sy,aGv _ _ S.DQ,aHH _ _ S.DR,S.Kb,S.gi,S.AU,S.greens,S.oA,?_,S.ticks,by show JE=iH Gq IT;rw[amc,S.trains,Gq,ht]⟩
 ·show zP asM p (cG (VO t.ahead) p);rw[amX _ _ _ (by rw[au I.ln hp]),alT,at0 p];split<;>rfl
 ·show iH (J_ x) W.falls=iH _ (ē (J' x));rw[S.falls];rw[aqh iH];refine List.map_congr_left λq _=>?_;obtain⟨r,u,o,ob⟩:=q;simp only[Function.comp,J_,J',Kg];cases o with
  |none=>simp
  |some y=>rw[xx e y x e]
def vw{W':bC}aac(hn:W'.now=W.now)(hf:∀q∈W'.falls,∃q'∈W.falls,q'.2.u=q.2.u):Due W':=vY (by
 rw[aiL q' h (hf q hq)];rw[hn,←e];exact D q' h)
def aIH aac fz fW{old:fU}:Due (Ox cZ W r x old):=akU D q aAZ.1
def aYv aac qt:Due (aeV W x t):=vw D rfl (vY (by
 rw[L7 q' h hq (jc q' h)]))
def Inv.lt pG Bj{v:fO}(h:iQ W.locks p v):p<n:=by
 rw[M6 Lq.1 I.ln]
def Inv.afn pG qt(h:c8=eG):t.steps.length≤n:=by
 rw[Pw (Zj (n:=n) (sr h).nd (jb (by
  rw[BC s hs hp (I.lt ((sr h).st s hs))])))]
def Inv.a5Q K4 qt(h:c8=eG):t.ahead.length≤n:=by
 by_cases e:IQ
 ·rw[fk e]
 ·obtain⟨r,k,hr,hk,_⟩:=(sr h).eE e;rw[fG h1 (Zj (n:=n) (aaU r) (R.lt r hr)) h2 (iF (g4::t.ahead) (cC jG)) (by rw[gx hk (aAL _).length_le])]
  rw[BA we h1 eP h1];rw[zE]at h2;omega
def J5{t:gj}(h:auN []):aiJ g4:=by
 unfold cg;cases e:t.steps with
 |nil=>rw[CI h]
 |cons s w=>simp
def aII:∀Ux,Ja->(yp d (q.2.steps≠[]))->(yp d (∀q'∈d,q.1≠q'.1->T_ q.2 q'.2))->gE (HJ q (cg q.2).1)
 |[],_,_,_=>Θ
 |q::d,hn,hs,hd=>by
  rw[b6,List.nodup_cons]at hn⊢;rw[fF (cJ h) (aII d hn.2 (λq' h=>hs q' (aK h)) λa ha b hb=>hd a (aK ha) b (aK hb))];rw[Cb q' jP e h];rw[Ų aS (q'.1≠q.1) (λe'=>hn.1 (e'▸j4 q' jP)) ((hd q' (aK jP) q Θ aS).1 _ (J5 (hs q' (aK jP))) _ (J5 (hs q Θ)) e)]
def Inv.aEk pG:SY n:=by
 rw[Iu hm (Qg q (aO (agy q.1) q.2)) (vY auv) h1 (aII W.trains I.i_ (vY (JO (hm q hq)).ne) λq hq q' jP aS=>I.yt _ _ _ _ (hm q hq) (hm q' jP) aS)]
 rw[Pw (Zj (n:=n) h1 (jb (by
  rw[BC q hq hp (I.lt ((JO (hm q hq)).st _ (J5 (JO (hm q hq)).ne)))])))]
universe zE
universe Sb
universe zE
end
mutual
section
namespace Sb
open PySem L2
section
variable {α:Type}
abbrev encD afH aoy:rM:=HJ q ((jC q.1:Key),e q.1 q.2)
def anj aab:((jC a:Key)=jC b)↔a=b:=by
 rw[nQ Sum.inl.injEq]
def ux afH l!:∀d:Bv α,pe (QF e) (jC k)=(cG d k).map (e k)
 |[]=>rfl
 |q::d=>by
  have ih:=ux e k d;unfold pe encD at ih⊢
  rw[b6,List.find?_cons,sJ];rw[jq (q.1=k)]
  ·rw[zo h]
  ·rw[jF h];have h':atM (jC q.1:Key) (jC k):=decide_eq_false λe=>h (anj.mp e);rw[aqn h' ih]
def amt afH l!(v:α)aoy:j_ (QF e) (jC k) (e k v)=zz e (iY d k v):=by
 unfold j_ iY encD
 have ha:(HJ q ((jC q.1:Key),e q.1 q.2)).any (MZ (jZ=jC k))=aD5 (q.1=k):=by
  rw[aC5]
  congr 1
  funext q
  rw[agu anj]
 rw[ha];split
 ·rw[List.map_map,List.map_map]
  refine List.map_congr_left λq _=>?_
  rw[jq (q.1=k)]
  ·rw[zo h]
  ·have h':¬((jC q.1:Key)=jC k):=MN (anj.mp e);rw[ahj zH (if_neg h')]
 ·simp
def amg afH l! aoy:Gf (QF e) (jC k)=zz e (ig d k):=by
 unfold Gf ig encD;rw[aqm]
 congr 1
 refine aBx q _;rw[agu (not_congr anj)]
abbrev cc af7 aoz:rM:=HJ q ((Cj:Key),e q.1 q.2)
def amY{a b:Int}:((aud:Key)=aue)↔a=b:=k6 Sum.inl.injEq
def yy af7(k:Int):∀d:Sl α,pe (cc e d) Ĝ=(cG d k).map (e k)
 |[]=>rfl
 |q::d=>by
  have ih:=yy e k d;unfold pe cc at ih⊢
  rw[b6,List.find?_cons,sJ];rw[jq (q.1=k)]
  ·rw[zo h]
  ·rw[jF h];have h':atM (Cj:Key) Ĝ:=decide_eq_false λe=>h (amY.mp e);rw[aqn h' ih]
def axa af7(k:Int)(v:α)aoz:j_ (cc e d) Ĝ (e k v)=cc e (iY d k v):=by
 unfold j_ iY cc
 have ha:(HJ q ((Cj:Key),e q.1 q.2)).any (MZ (jZ=Ĝ))=aD5 (q.1=k):=by
  rw[aC5]
  congr 1
  funext q
  rw[agu amY]
 rw[ha];split
 ·rw[List.map_map,List.map_map]
  refine List.map_congr_left λq _=>?_
  rw[jq (q.1=k)]
  ·rw[zo h]
  ·have h':¬((Cj:Key)=Ĝ):=MN (amY.mp e);rw[ahj zH (if_neg h')]
 ·simp
def aGS af7(k:Int)aoz:Gf (cc e d) Ĝ=cc e (ig d k):=by
 unfold Gf ig cc;rw[aqm]
 congr 1
 refine aBx q _;rw[agu (not_congr amY)]
def axb af7 aoz:cC (cc e d)=d.length:=aK cc
def aWu{e:Int->α->ak}fW{t t':α}{d:Sl α}(hn:Ja)(h:cG d x=eG)(he:e x t'=e x t):cc e (iY d x t')=cc e d:=by
 unfold iY cc;rw[jB ((đ x).mpr ((mem_keys d x).mpr (by rw[cU h]))),List.map_map];refine List.map_congr_left λq hq=>?_;rw[aq4];by_cases e1:q.1=x
 ·have:=z! hn;rw[e1,h]at this;cases this;rw[if_pos e1,e1,he]
 ·rw[jF e1]
def amu afH aoy:cC (QF e)=d.length:=aK encD
universe zE
section
variable {M:ba}{n:Nat}{kvs:rM}
def aRZ pC gW D5 GQ(hk:agn x k):JN x (ο n)=.ok (.ah (if neg then !(nI Ep) else nI Ep)) M:=by
 rw[HD lh amA h];simp only[L2.getD,h,hk,Option.map_some]
def Tq{x v:ak}D5 GQ aOM:fN (ο n) x M=.ok v M:=by
 rw[HD fN amA h];simp only[L2.getD,h,hk,Option.map_some,hv]
def tm d9 gV gW apg(hx:zu):vK (ο n) i=.ok x M:=by
 have hl:JA:=aOZ.1;simp only[fN,amA,h,uM,A0];rw[B8,B8];simp[hx]
def aFd{k v:ak}{kk:Key}GQ(hk:agn k kk)(hl:arZ lim):Dz (ο n) k v M=aT (kC n .aj (j_ kvs kk v)):=by
 simp only[Dz,h,hk,aui]
def Tv d9 gV{v:ak}apg(hi:JA):Dz (ο n) (η i) v M=aT (q3 n (xs.set i v)):=by
 simp only[Dz,h,A0];rw[B8,B8];simp
def jJ w6 afN:zQ n:=Lq.1
def get_set{o o':fu}afN:Sn (I9 o') o':=agq (jJ h)
def o5{m:Nat}{o':fu}(h:n≠m):(I9 o')[m]? = M[m]?:=aPw
universe zE
def F0 Bh{gf d7 dv:bz}pB(y:ak)(aa:ba)nt(M2:ba)(k:ak)(bq M':ba)aNZ aNT(q:Q (.nx ρ M')):Q (lB gf d7 dv ρ M):=by
 unfold lB;rw[hv,Res.fg,ho,Res.fg,hk,Res.fg,hp];exact q
def axc Bh qu{ps:z4 bz}pB(h:n6 ps ρ M=.ok () M)(q:Q (bP C ρ M)):Q (j7 C ps ρ M):=by
 rw[jA j7 h q]
def adn Bh fM pB KV K1 aNl:Q (mU d ρ M):=by
 rw[jA mU h q]
def anH Bh gV fM pB KV K1 aNl:Q (mV i d ρ M):=by
 rw[jA mV h q]
@[simp] def aYb rF rG ck aat:(Res.exc c M:xV).bind f=bP c M:=rfl
@[simp] def aYw{a b:bz}pB:T4 a b ρ M=Ab (a ρ M).bind (match x with | .ah k=>oN k (b ρ aa) (.ok (qJ .ah) aa) | _=>aF):=by
 unfold T4
 congr 1
 funext x aa
 cases x<;>try rfl
 rename_i k;cases k<;>rfl
@[simp] def aJ9{a b:bz}pB:afd a b ρ M=Ab (a ρ M).bind (match x with | .ah k=>if aL k then .ok (fB .ah) aa else b ρ aa | _=>aF):=by
 unfold afd
 congr 1
 funext x aa
 cases x<;>try rfl
 rename_i k;cases k<;>rfl
@[simp] def a9g pC iz ck:ui neg (η i) .ai M=.ok (.ah neg) M:=by cases neg<;>rfl
@[simp] def a9h pC ck:ui neg .ai .ai M=.ok (.ah ! neg) M:=by cases neg<;>rfl
@[simp] def a9i pC bk ck:ui neg (ο n) .ai M=.ok (.ah neg) M:=by cases neg<;>rfl
@[simp] def aYh Pe:uI (η i) (η j) M=.ok (.ah (d! (i<j))) M:=rfl
@[simp] def aIJ Pe:avL (η i) (η j) M=.ok (.ah (FE i j)) M:=rfl
@[simp] def aYi Pe:sW (η i) (η j) M=.ok (.ah (d! (j<i))) M:=rfl
@[simp] def a81 Pe:ale (η i) (η j) M=.ok (.ah (FE j i)) M:=rfl
universe Sb
universe zE
section
namespace Sb
open PySem L2
structure eu where
 aM:Addr
 fa:Addr
 dN:Addr
 he:Addr
 tr:Addr
 rd:Addr
structure eD where
 ps:alD
 ss:Br
 rs:w9
 wait:Int
inductive s8 where
 |yard
 |fall ew
 |train gI
 |steps gI
 |ahead gI
 |qe
abbrev AO gD Pp:r9:=
 [("found",AA Y.rs),("pieces",xd),aBj Rt,Jl (η Y.wait),Rm (η t),V8 (ο 1),aaJ (ο 2),aiM (ο 3),("falls",ο 4),("trains",ο 5)]
abbrev j!(b:Bool):ak:=av (if b then "straight" else "branch")
abbrev eQ:eH->ak
 |Xp=>η i
 |none=>.ai
abbrev uO(u:FB):r9:=[Af u.u,abh u.gh]
abbrev lr wW:r9:=[("steps",ο t.so),("ahead",ο t.sF),("is_out",.ah t.tr.out)]
abbrev eI:qA (qA ak):=cK r (η r)
abbrev JW:ak5 FB:=cK u (ο u.ob)
abbrev FW:Int->TB->ak:=cK t ku
structure amR(C:eu)DY gI wW:Prop where
 ot:o t.ob=Wi x
 os:o t.so=vA x
 oa:o t.sF=pQ x
 mt:Ek M = El
 ms:Ej M = G5
 ma:akj M aqH
structure e7 kh(e:eH)DY oF:Prop where
 y0:M[0]? = Er Hj
 y1:Ww M 1 .aj eI B.locks
 y2:sD M 2 (B.lying.map j!)
 y3:Ww M 3 .aj eI B.greens
 y4:xo 4 .aj Hy
 y5:xo 5 .aj X9
 lo:∀i≤5,o i=.yard
 hi:∀i,ĵ i->o i=.qe
 qi:Qp q (o q.2.ob=Q3 q.1/\M[q.2.ob]? = aiD (uO q.2))
 awL:ahi q (e≠some q.1->amR C o M q.1 q.2)
structure gL DY(o':cR)K1:Prop where
 len:aAj
 tag:apI i (o' i=o i)
 out:apI i (o i=.qe->M'[i]? = M[i]?)
def gL.refl{o:cR}ck:Fi M:=⟨fh,HL _ _,λ_ _ _=>rfl⟩
def gL.trans{o o1 o2:cR}{M aa M2:ba}(a:NJ o1 aa)(b:gL o1 aa o2 M2):NJ o2 M2:=
 ⟨Nat.le_trans a.len b.len,Fs i h (b.tag i (aBs h)) (a.tag i h),λi h1 h2=>eo (b.out i (aBs h1) (eo (a.tag i h1) h2)) (a.out i h1 h2)⟩
def gL.set{o:cR}ck bk{v:fu}(h:o n≠.qe):Fi (I9 v):=⟨Θ,HL _ _,λi _ hi=>o5 (MN (e▸hi))⟩
abbrev j8(o:cR)dh(g:s8):cR:=MU i i n g (o i)
def JX{o:cR}bk{g:s8}:j8 o n g n=g:=ek
def NY{o:cR}{n i:Nat}{g:s8}(h:i≠n):j8 o n g i=o i:=zH
def gL.push{o:cR}ck{v:fu}{g:s8}:NJ (j8 o M.length g) (M++[v]):=⟨Θ,λi h=>NY aB,aBa i h _ h⟩
def Y?{o:cR}{i j:Nat}{a b:s8}(h1:o i=a)(h2:o j=b)(h:a≠b):i≠j:=MN (by rw[←h1,←h2,e])
section
variable {C:eu}{Y:eD}{e:eH}{o:cR}{M:ba}{B:cF}{ρ:aY}
def e7.gt ji gV{g:s8}(hi:o i=g)(hg:g≠.yard):5<i:=by
 by_cases h5:i≤5
 ·rw[kA ((ajr (h.lo i h5)) hi).symm hg]
 ·omega
def e7.mv ji K2{B':cF}(hl:xh)(h0:M'[0]? = Er (AO Y B'.ticks))(h1:Ww M' 1 .aj eI B'.locks)(h2:sD M' 2 (B'.lying.map j!))
  (h3:Ww M' 3 .aj eI B'.greens)(h4:Ww M' 4 .aj JW B'.falls)(h5:rU M' 5 .aj (cc FW B'.trains))(hf:yp B'.falls (q∈B.falls))(ht:yp B'.trains (at8 q))(hm:∀i,5<i->M'[i]? = M[i]?):e7 C Y e o M' B':=
 ⟨h0,h1,h2,h3,h4,h5,h.lo,λi hi=>h.hi i (by rw[cw hl hi]),xO q hq (h.qi q (hf q hq)).1 (eo (hm _ (Lu (h.qi q (hf q hq)).1)) (h.qi q (hf q hq)).2),λq hq he=>by
  have T:=QG (ht q hq) he
  exact IV (eo (hm _ (Lu T.ot)) T.mt) (eo (hm _ (Lu T.os)) T.ms) (eo (hm _ (Lu T.oa)) T.ma)⟩
def e7.a5R ji Pp:e7 C Y e o (agz 0 (dD C.aM (AO Y t))) (Hx ticks t):=
 h.mv Θ (get_set h.y0) aaX aaY aaZ aa0 aiA (cK h h) (cK h h) λi hi=>o5 aB
def e7.aQu ji(l:Eg):e7 C Y e o (kC 1 .aj (encD eI l)) (SN B l):=
 h.mv Θ Qd (get_set h.y1) aaY aaZ aa0 aiA (cK h h) (cK h h) λi hi=>o5 aB
def e7.put2 ji(l:xA):e7 C Y e o (q3 2 (l.map j!)) (Hx lying l):=
 h.mv Θ Qd aaX (get_set h.y2) aaZ aa0 aiA (cK h h) (cK h h) λi hi=>o5 aB
def e7.put3 ji(l:Eg):e7 C Y e o (kC 3 .aj (encD eI l)) (Hx greens l):=
 h.mv Θ Qd aaX aaY (get_set h.y3) aa0 aiA (cK h h) (cK h h) λi hi=>o5 aB
def e7.aLd ji ew:e7 C Y e o (kC 4 .aj (zz JW Ac)) (Hx falls Ac):=
 h.mv Θ Qd aaX aaY aaZ aCA aiA (cK h aq3.1) (cK h h) λi hi=>o5 aB
def e7.a37 ji gI:e7 C Y e o (Hu 5 .aj FW (asD x)) (Me B (asD x)):=
 h.mv Θ Qd aaX aaY aaZ aa0 asT (cK h h) (cK h aq3.1) λi hi=>o5 aB
def e7.push ji(v:fu)(g:s8):e7 C Y e (j8 o M.length g) (M++[v]) B:=by
 rw[M4 a (∀aoT,jl M v'->jl (M++[v]) v') (dF (akf e e)) b (∀aoT,jl M v'->j8 o M.length g i=o i) e (NY (by rw[e9 (jJ e)]))]
 exact⟨a h.y0,a h.y1,a h.y2,a h.y3,a h.y4,a h.y5,Fs i hi (NY (by rw[e9 (jJ h.y5)])) (h.lo i hi),λi hi=>by
   rw[aCd List.length_singleton hi];exact eo (NY aB) (h.hi i aB),
  xO q hq (XC (h.qi q hq).2 CC) (a (h.qi q hq).2),λq hq he=>by
   have T:=QG hq he
   exact⟨XC T.mt T.ot,XC T.ms T.os,XC T.ma T.oa,a T.mt,a T.ms,a T.ma⟩⟩
def amR.push fW{t:TB}aoM(v:fu)(g:s8):NG (j8 o M.length g) (M++[v]) t:=by
 rw[M4 a (∀aoT,jl M v'->jl (M++[v]) v') (dF (akf e e)) b (∀aoT,jl M v'->j8 o M.length g i=o i) e (NY (by rw[e9 (jJ e)]))];exact⟨XC T.mt T.ot,XC T.ms T.os,XC T.ma T.oa,a T.mt,a T.ms,a T.ma⟩
def amR.set fW{t:TB}aoM gV{v:fu}{g:s8}(hi:o i=g)(h1:g≠Wi x)(h2:g≠vA x)(h3:g≠pQ x):Bw (M.set i v) t:=
 IV (xR (Y? hi T.ot h1) T.mt) (xR (Y? hi T.os h2) T.ms) (xR (Y? hi T.oa h3) T.ma)
def e7.own(h:Jq)gV{v:fu}(hi:o i=Wi x\/o i=vA x\/o i=pQ x):e7 C Y g7 o (M.set i v) B:=by
 have g:∀{j:Nat}{g:s8},o j=g->g≠Wi x->g≠vA x->g≠pQ x->(M.set i v)[j]? = M[j]?:= λhj h1 h2 h3=>o5 (by
  rcases hi with hi | hi | hi
  ·exact Y? hi hj (Ne.symm h1)
  ·exact Y? hi hj (Ne.symm h2)
  ·exact Y? hi hj (Ne.symm h3))
 have y:∀j≤5,(M.set i v)[j]? = M[j]?:= λj hj=>Ê (h.lo j hj) (nofun)
 refine⟨abm 0 h.y0,abm 1 h.y1,abm 2 h.y2,abm 3 h.y3,abm 4 h.y4,abm 5 h.y5,h.lo,λj hj=>h.hi j (aX hj),
  xO q hq CC (eo (Ê CC (nofun)) (h.qi q hq).2),cM q hq he⟩
 rw[fG T (QG hq he) hn (q.1≠x) (dF (he (k6 e)))];exact IV (eo (g T.ot (auw (s8.train.inj e)) nofun nofun) T.mt) (eo (g T.os nofun (auw (s8.steps.inj e)) nofun) T.ms) (eo (Ê T.oa (auw (s8.ahead.inj e))) T.ma)
def e7.but pH gI:Jq:=⟨h.y0,h.y1,h.y2,h.y3,h.y4,h.y5,h.lo,h.hi,h.qi,λq hq _=>Vn q hq⟩
def e7.seen fW{t t':TB}(h:Jq)(hn:ajx)(hx:nV=eG)(T:Bw M t')(ho:t'.ob=t.ob):By M (Me B IT):=by
 refine⟨h.y0,h.y1,h.y2,h.y3,h.y4,?_,h.lo,h.hi,h.qi,cM q hq _⟩
 ·rw[Wf (xo 5 .aj (cc FW IT)) (aWu hn hx (by show ak.obj t'.ob=ak.obj t.ob;rw[ho])) h.y5]
 ·rw[Ć hq (q∈IT) hq yY (z! (aed hn)) q_ yY];rw[uh q x]
  ·rw[xF]at yY;cases yY;rw[nT T]
  ·rw[bF vg yY (QG (wj yY) (λe'=>e (aMp).symm))]
def e7.a5S fW{t':TB}(h:Jq)(hn:ajx)(T:Bw M t'):By (Hu 5 .aj FW IT) (Me B IT):=by
 have T':=asP i 5 v (.aj (cc FW IT)) (S6 5);have g:∀i,5<i->(Hu 5 .aj FW IT)[i]? = M[i]?:= λi hi=>o5 aB
 rw[vv ⟨Qd,aaX,aaY,aaZ,aa0,asT,h.lo,λi hi=>h.hi i X6,
  xO q hq CC (Nb _ (Lu CC) (h.qi q hq).2),cM q hq _⟩ hq (q∈IT) hq];rw[gX yY (z! (aed hn)) q_ yY];rw[uh q x]
 ·rw[xF]at yY;cases yY;rw[nT T']
 ·rw[vg]at yY;have T2:=QG (wj yY) (λe'=>e (aMp).symm);exact⟨T2.ot,T2.os,T2.oa,Nb _ (Lu T2.ot) T2.mt,Nb _ (Lu T2.os) T2.ms,Nb _ (Lu T2.oa) T2.ma⟩
def e7.keep ji K2 aNU:e7 C Y e o M' B:=by
 rw[bM g (∀gV{v:fu},u? M->o i≠.qe->u? M') (Fs e hn (h1 _ (jJ e) hn) e) y (∀gV{v:fu},u? M->i≤5->u? M') (λe hi=>g e (by rw[tY (h.lo _ hi)]))]
 exact⟨y h.y0 a_,y h.y1 a_,y h.y2 a_,y h.y3 a_,y h.y4 a_,y h.y5 a_,h.lo,λi hi=>h.hi i (Nat.le_trans hl hi),xO q hq CC (g (h.qi q hq).2 (by rw[tY CC])),λq hq he=>by
  have T:=QG hq he
  exact IV (g T.mt (by rw[tY T.ot])) (g T.ms (by rw[tY T.os])) (g T.ma (by rw[tY T.oa]))⟩
def e7.fld ji GY gW fM azX(hf:xm Hj f=g7):lq C.aM f d ρ M=.ok x M:=by
 unfold lq;rw[vU hd ag (J0 h.y0)];rw[cU hf]
variable {t:Int}
def vx:Am (Str.ofString "found")=aT aaT:=cI
def F8:Am (Str.ofString "pieces")=aT xd:=cI
def vy:Am (Str.ofString "signals")=aT Rt:=cI
def a2H:Am (Str.ofString "wait")=dR Y.wait:=cI
def ax0:Am (Str.ofString "ticks")=dR t:=cI
def amZ:Am (Str.ofString "locks")=jx 1:=cI
def ax1:Am (Str.ofString "lying")=jx 2:=cI
def amv:Am (Str.ofString "greens")=jx 3:=cI
def aee:Am (Str.ofString "falls")=jx 4:=cI
def adP:Am (Str.ofString "trains")=jx 5:=cI
def aGx:bO (Am (Str.ofString "train_in")):=cI
def aWv:bO (Am (Str.ofString "lock_of")):=cI
def e7.met ji{m:Str}D8 fM zc d9 azX(hf:bO (xm Hj m))(ha:ve=.ok xs M):aej C.aM m g d ds ρ M=g (ο 0::xs) M:=by
 unfold aej;rw[vU hd ag (J0 h.y0)];rw[g6 hf];rw[ha,ag]
abbrev Aw pF dh:Bool:=FE 0 i&&d! (i<n)
def aUk d9 iz:dE [ς xs,η i] M=.ok (.ah (ĺ i)) M:=by
 rw[lQ dE r (r=.ok (.ah (ĺ i)) M)];refine Cy (.ah (ĺ i));by_cases h:0≤i<;>simp[e!,h,Aw]
def JZ iz(h : -1000≤i)(h2:aBY i):Û i:=by
 rw[zY small (decide_eq_true (k7 ?_))]
 ·rw[xP (aU (-(2 ^ 64)) = -18446744073709551616) a_]
 ·rw[xP (aU (2 ^ 64)=18446744073709551616) a_]
abbrev oD pF:Prop:= -1000≤i/\aBY i
def afj iz{y:ak}zd:n6 [none,nM,none] [Cm,xr] M=.ok () M:=by
 have h:=JZ hi.1 hi.2;simp only[n6,aN,bf,a!,ag,h,if_true]
def ax2 d9{dN aM:Addr}GY iz ji zd(hf:xm Hj f=h7):
  F2 2 (Ht (cD (ax dE [(Mr f),aA])) (j7 dN [none,nM,none])) [ο 0,η i] M=Bx (ĺ i) .ok .ai (bP dN M):=by
 refine Sd P r (r=Bx (ĺ i) .ok .ai (bP dN M));rw[cW e (mu [aQ,xr] hf) (v8 (!(ĺ i)) M)]
 ·simp[e,aUk,gH]
 ·rw[Cv (axc (afj hi) (dq ?_)) (vQ pW)]
 ·rw[vX (p8 ?_)];rw[jB pW]
def acN iz ji zd:aFl C.dN C.aM dE [ο 0,η i] M=Bx (K? i) .ok .ai (bP C.dN M):=by
 rw[EW (ax2 (dN:=C.dN) (aM:=C.aM) h hi vx) eP this]
def acO iz ji zd:aFm C.dN C.aM dE [ο 0,η i] M=So .ok .ai:=by
 rw[EW (ax2 (dN:=C.dN) (aM:=C.aM) h hi F8) eP this]
def acJ iz ji zd:m4 C.dN C.aM dE [ο 0,η i] M=Ŕ i .ok .ai M:=by
 rw[EW (ax2 (dN:=C.dN) (aM:=C.aM) h hi vy) eP this]
abbrev uA:nC fy
 |.pl _ _=>false
 |.pt _ _ _=>true
def ac7 rK:avR agm M=.ok (.ah (uA p)) M:=by
 rw[lQ avR r (r=.ok (.ah (uA p)) M)];refine Cy (.ah (uA p));cases p<;>simp[fy.enc,uA]
def a6Q iz bk(h:aL (Aw i n)):∃k:Nat,i=k/\k<n:=by
 rw[nN Aw];rw[E6];rw[b5 i.toNat aB aB]
def avA{k n:Nat}(h:k<n):aL (Aw (aU k) n):=by
 unfold Aw;rw[vm h]
abbrev Au jS tf:Bool:=uA (eV p)
abbrev acW pF jS:Bool:=Aw i ps.length&&Au ps i.toNat
def acI iz{b_ dQ:D1}ji zd azF aN1:
  avH C.dN C.aM b_ dQ [ο 0,η i] M=ç i .ok .ai M:=by
 rw[lQ avH r (r=ç i .ok .ai M)];rw[U9 acW ho (Hh i)]
 ·rw[if_pos ho]at hc;rw[zJ k hk ho];rw[Et (CY .ai M (aK hc)) e (mu [aQ,k?] F8)];rw[iU ho (v8 (!(ahh k)) M)]
  ·simp[e,Oh hk,hp,gH,Au]
  ·rw[kD (axc (afj hi) (dq ?_)) hk (atL k) pW]
   rw[Int.toNat_natCast,hk];rfl
  ·rw[kD (dP (p8 ?_)) hk (apV k) pW]
   rw[Int.toNat_natCast,hk];rfl
 ·have ho:dj (Hh i):=aX ho
  rw[ho]at hc⊢;refine QX M (lu (dq ?_));rfl
def aKb{rs:w9}az4:iQ rs r (G2 rs r,Yq rs r):=by
 unfold G2 Yq;rw[ap3 h];rfl
def J!{rs:w9}az4:vK (AA rs) r=.ok (aW [η (G2 rs r),b9 (Yq rs r)]) M:=Ay (by rw[g_,aKb h];rfl)
def alS fz ji KX:alE C.aM [ο 0,η r] M=.ok (η bZ) M:=by
 rw[lQ alE q (q=.ok (η bZ) M)];rw[xU e (mu [aQ,bS] vx) (B? (η bZ) M (f_ e (J! hr)))]
def amo fz ji KX:al2 C.aM [ο 0,η r] M=.ok kW M:=by
 rw[lQ al2 q (q=.ok kW M)];rw[xU e (mu [aQ,bS] vx) (B? kW M (f_ e (J! hr)))]
def lL{bG:D1}aOm w7 rD:avQ bG [xd,η a,η j] M=.ok (.ah (Sk j).isNone) M:=by
 rw[lQ avQ q (q=.ok (.ah (Sk j).isNone) M)];refine Cy (.ah (Sk j).isNone);cases e:Sk j<;>simp[hb,e,bu]
abbrev As gD qv:Bool:=(Ho (fZ s).2 (fZ s).1).isNone
def kb{bG:D1}Pq ji(hs:u!)aOj:alA C.aM bG [ο 0,η s] M=.ok (.ah lg) M:=by
 rw[lQ alA q (q=.ok (.ah lg) M)];rw[lS e1 (mu [aQ,fm,none] vy) e2 (mu [aQ,fm,aT W2] F8) (qK W2 (f_ e1 (T9 hs)))];exact B? (.ah lg) M (by simp[e2,fQ,hb,As]at e2⊢)
def aWw iz{b_:D1}ji azF:
  avE C.aM b_ [ο 0,η i] M=So .ok (bu (Ln i.toNat)):=by
 rw[lQ avE q (q=So .ok (bu (Ln i.toNat)))]
 rw[rR ho (Hh i)]
 ·rw[ho]at hc⊢
  rw[zJ k hk ho];rw[Et (L3 .ai M (aK hc) (ajl (bu (Ln k)))) e (mu [aQ,k?] amZ)];unfold aes;rw[BZ (([ak.obj 0,ak.int ↑k].map some++agr (2 - kU [ak.obj 0,ak.int ↑k]) none:aY)=[aQ,k?]),e,ag,o! h.y1]
  rw[RL];rw[o! h.y1];rw[r3 jM ux];cases Ln k<;>rfl
 ·have ho:dj (Hh i):=aX ho
  rw[tP ho hc (QX M (lu (dq rfl)))]
def a2I iz{b_:D1}ji(hl:aDl)aNe:
  aFC C.aM b_ [ο 0,η i] M=ç i .ok (j! (Li i.toNat)) M:=by
 rw[lQ aFC q (q=ç i .ok (j! (Li i.toNat)) M)]
 rw[rR ho (HK i)]
 ·rw[ho]at hc⊢
  rw[zJ k hk aPX.1];refine L3 .ai M (aK hc) (ajl (j! (Li k)));rw[fG e (mu [aQ,k?] ax1) cE (ar9 k) (by rw[au hl hk])]
  simp only[b6,zD,zE,m9,Nat.zero_add,Nat.reduceAdd,Nat.reduceSub,List.replicate,m_,l5,j?,az,e,ag,aN,bf,a!];exact tm h.y2 (by rw[aAv g_ cE];rfl)
 ·have ho:dj (HK i):=aX ho
  rw[tP ho hc (QX M (lu (dq rfl)))]
def aVF iz{b_:D1}ji(hc:b_ [ο 0,η i] M=Ŕ i .ok .ai M):
  mB C.aM b_ [ο 0,η i] M=Ŕ i .ok (.ah (atP i.toNat)) M:=by
 rw[lQ mB q (q=Ŕ i .ok (.ah (atP i.toNat)) M)]
 rw[rR ho (Lx i)]
 ·rw[ho]at hc⊢;rw[zJ k hk ho];rw[Et (L3 .ai M (aK hc) (ajl (.ah (atP k)))) e (mu [aQ,k?] amv)];simp only[b6,zD,zE,m9,Nat.zero_add,Nat.reduceAdd,Nat.reduceSub,List.replicate,m_,l5,j?,az,e,ag,aN,bf,a!];rw[Wt h.y3 k (jC k),ux];simp
 ·have ho:dj (Lx i):=aX ho
  rw[tP ho hc (QX M (lu (dq rfl)))]
universe zE
universe Sb
universe zE
end
mutual
section
namespace Sb
open PySem L2
def axd ck bk w6 afN:I9 o=M:=by
 refine apT i;rw[Dd n i]
 ·subst e;rw[get_set h,h]
 ·rw[o5 e]
def NZ ck bk{o o':fu}afN:(I9 o').set n o=M:=by
 rw[List.set_set,axd h]
abbrev aYS dh afM(Q:Ed):Ed
 |.nx ρ M=>Ef .ij/\Q (.nx ρ (Ck .aj))
 |.eW x M=>Ef .ij/\Q (.eW x (Ck .aj))
 |_=>False
def TN Bh D7{s:c6}aas Bm d9 GQ(hi:Sq=.ok (xs,Lc .ij) M')(hs:aYS n kvs Q (s ρ M)):Q (yL d7 s ρ M):=by
 unfold yL O4;rw[g6 hi];rw[g6 h];revert hs;cases s ρ M with
 |nx ρ M=>rintro⟨a,b⟩;rw[pU aeY];rw[au (if_pos a) b]
 |eW x M=>rintro⟨a,b⟩;rw[pU aeY];rw[au (if_pos a) b]
 |_=>exact False.elim
def axe fM pB Bm GQ afX:N9 d ρ M=.ok (EH q (aW [yO q.1,q.2]),Lc .ij) (Ck .ij):=by
 rw[jj N9 hd ag (o! h)]
def a0m fM pB Bm GQ afX:TZ d ρ M=.ok (EH q q.2,Lc .ij) (Ck .ij):=by
 rw[jj TZ hd ag (o! h)]
def keys_eq fM pB Bm GQ afX:ox d ρ M=.ok (EH q (yO q.1),Lc .ij) (Ck .ij):=by
 rw[jj ox hd ag (o! h)]
abbrev aEM(q:Int×TB):ak:=aW [η q.1,ο q.2.ob]
abbrev aQU(q:Nat×FB):ak:=aW [η q.1,ο q.2.ob]
def aKc(d:Sl TB):((cc FW d).map λq=>QZ (yO q.1) q.2)=d.map aEM:=by rw[Hs cc]
def a0n(d:Bv FB):((QF JW).map λq=>QZ (yO q.1) q.2)=d.map aQU:=by rw[Hs encD]
section
variable {C:eu}{Y:eD}{e:eH}{o:cR}{M:ba}{B:cF}{ρ:aY}{t:TB}
def aR2 GY gW fM(h:Ek M = El)(hd:dH=.ok ku M)(hf:xm FP f=g7):lq C.tr f d ρ M=.ok x M:=by
 unfold lq;rw[vU hd ag (J0 h)];rw[cU hf]
def Tz:xm FP (Str.ofString "steps")=jx t.so:=cI
def amN:xm FP (Str.ofString "ahead")=jx t.sF:=cI
def Ta:xm FP (Str.ofString "is_out")=eL .ah t.tr.out:=cI
def OD aai GY gW fM(h:M[0]? = Er (AO Y tk))azX(hf:xm (AO Y tk) f=g7):lq C.aM f d ρ M=.ok x M:=by
 unfold lq;rw[vU hd ag (J0 h)];rw[cU hf]
def YN azJ(hl:Ld):avD C.tr [ku] M=.ok (bU Sp) M:=by
 rw[lQ avD q (q=.ok (bU Sp) M)];rw[cW e (S2 ρ [f6] d ao h1 Tz) (Cy (bU Sp))];show WB xB (cj (aD8 C.tr)) oz (jm 0) [f6] M=_;rw[cf (xs:=t.tr.steps) (w:=mO t.so (ς ø)) (M':=M) bw EB (B_ s s.1) (nZ (ρ=[y])) (aez e h2) h2 S1 (qM x) Mw]
 ·rw[BI _ _];rw[iT uz (jB (by rw[LX hl])) lR];rw[Hs bU]
 ·rw[MH y _ QJ]
abbrev tq(d:Sl TB)(p:Int):eH:=gz (arx q (p∈abu q.2 s.1)).map
def aVG iz{b_ gc:D1}pH azF
  aOh(hl:ajp q q.2):
  alv C.aM b_ gc [ο 0,η i] M=So .ok (eQ (VG i)):=by
 rw[lQ alv q (q=So .ok (eQ (VG i)))]
 rw[rR ho (Hh i)]
 ·rw[ho]at hc⊢;simp only[b6,zD,zE,m9,Nat.zero_add,Nat.reduceAdd,Nat.reduceSub,List.replicate,m_,l5,j?];refine L3 .ai M (aK hc) Nr;rw[gX hi (axe h.y5 (mu [aQ,xr,none,none] adP)) aKc hi]
  refine TN h.y5 hi ?_;rw[cV hz (rU (R5 5 .ij) 5 .ij X9) asT (sH aEM (kG (∃y z,ρ=[aQ,xr,y,z]/\M'=R5 5 .ij/\arT (Cz (i∈abu q.2 s.1)))) B.trains _ _ hi hz (CV none none rfl) ?_ ?_)]
  ·rintro pre q post hx ρ M' ⟨y,z,rfl,rfl,i7⟩;rw[ajc _ hq (at8 q) (by rw[nP])]
   rw[cH T (Vn q hq) T' (asP i 5 v (.ij X9) (S6 5))]
   rw[cW e1 (hu q.2 _ T'.mt T'.ms (hl q hq)) (v8 (iR i (abu q.2 s.1)) (R5 5 .ij))]
   ·rw[eF,az,aN];dsimp only[List.set_cons_succ,List.set_cons_zero,bf,a!];rw[ag,bY,aP,aN];rw[tU];rw[ag,bB,ag,ag,e1,ag];rw[mH (bU (gz q.2.tr.steps.map)) (ς ((abu q.2 s.1).map η)) (aK bU),awE]
    rfl
   ·refine p6 (η q.1) (R5 5 .ij) rfl (aeb ⟨hz,p7 (eX ?_)⟩);rw[Fq (NZ h.y5) trivial];unfold tq;rw[hx,List.find?_append,i7,List.find?_cons,hk];rfl
   ·rw[vX (Ar hz (CV _ _ ?_))];rw[List.find?_append,i7,List.find?_cons,hk];rfl
  ·rw[L6 M' y z rfl rfl i7];rw[fF hz (eZ (p6 .ai M (by rw[cU (NZ h.y5)]) (eX ?_)))];rw[iT tq i7 (if_pos trivial)];rfl
 ·have ho:dj (Hh i):=aX ho
  rw[tP ho hc (QX M (lu (dq rfl)))]
abbrev a2J c7 dh dY(ti:mq):Prop:=xZ p (p<n->∃x,g [ο 0,η p] M=.ok x M/\ui true x .ai M=.ok (.ah (ti p)) M)
def acA Bj{gt:D1}{ti:mq}pH(ht:a2J gt Y.ps.length M ti)(hp:uc)(hs:oD p):
  avx C.he C.aM gt [ο 0,η p] M=aqe (zX||ti p) M (.ok .ai M):=by
 rw[ì avx P q (q=aqe (zX||ti p) M (.ok .ai M)) e (mu [aQ,se] amZ) (JH zX)]
 ·simp[e];rw[Wt h.y1 k (jC p),ux];simp
 ·have e3:=afj (M:=M) (y:=ο 0) hs;rw[B9 j7 e3];refine lu (dq ?_);rw[hk,Bool.true_or,ek]
 ·obtain⟨x,h1,h2⟩:=ht p hp;rw[cW e2 (h.met (ρ:=[aQ,se]) (g:=gt) (d:=ao) (ds:=[aA]) (xs:=[η p]) rfl aGx rfl) (dP (eZ (IS (ti p) M)))]
  ·show(xj M9 (aru C.aM gt ao E8) (dC .ai)) [aQ,se] M=_;rw[eF,az,e2,h1,ag,bo,ag,h2];rfl
  ·refine axc (afj hs) (dq ?_);rw[cE,Bool.or_true,ek]
  ·rw[vX (p8 ?_)];rw[hk,cE,Bool.or_false,lR]
abbrev Kh rK mh:Bool:=match p with
 |.pl _ _=>true
 |.pt _ _ b=>!(iR b [s.2.1,s.2.2])
abbrev amS jS mh:Bool:=Kh (eV s.1) s
def aKd mh:sX false (bw s) qB none M=.ok (aW ([s.2.1,s.2.2].map η)) M:=rfl
def adw{dQ:D1}aN1 rK mh:qr dQ [p.enc,bw s] M=.ok (j! (Kh p s)) M:=by
 rw[lQ qr q (q=.ok (j! (Kh p s)) M)];cases p with
 |pl a b=>
  refine CR M ?_ (dP (eZ (p6 lU M rfl (eX rfl))));simp[hp,gH,uA]
 |pt t u b=>
  rw[v7 e (ŕ (η b) (aW ([s.2.1,s.2.2].map η)) M=_) aIO (v8 (iR b [s.2.1,s.2.2]) M)]
  ·simp[hp,gH,uA];simp only[fy.enc,a35,ag,aKd];rw[fk e]
  ·refine LN MC M (eX ?_);simp only[Kh,hk,j!];rfl
  ·rw[vX (ML lU M ?_)];simp only[Kh,hk,j!];rfl
abbrev amw oF(ti:mq)lK:Bool:=w.any λs=>apN s.1||ti s.1
def aVH ew lK mh(d:Eg):NV r (w++[s]) d=iY (NV r w d) s.1 r:=by rw[aa8 NV]
def aWx O! lK mh(l:xA):DH l0 (w++[s]) l=(DH l0 w l).set s.1 (l0 s):=by rw[aa8 DH]
def Y! bk{l:ef}(h:l.Nodup)(hl:∀x∈l,x<n):l.length≤n:=Zj h hl
def ada iz{b_ bQ iZ gl gs:D1}{ti:mq}pH G0 aaj(hss:aC3 16)(GF:Q1 (HY bZ))
    (fS:gE aqB)(fq:gb aqB uc)(alo:aDl)(aE4:gE aqq)(sT:nO aqq u!)
    aNO
    (hw:xZ r (lM->bQ [ο 0,η r] M=.ok kW M))
    aNH
    (hl:∀M p s,gl [fy.enc p,bw s] M=.ok (j! (Kh p s)) M)
    aOl:
    (PK i/\acR C.aM b_ bQ iZ gl gs [ο 0,η i] M=oY)\/∃r:Nat,i=r/\lM ∧
      ((aL (W4 B ti)/\acR C.aM b_ bQ iZ gl gs [ο 0,η i] M=bP C.he M) ∨
       (dj (W4 B ti)/\C? (acR C.aM b_ bQ iZ gl gs [ο 0,η i] M=.ok .ai M') (setB Y.rs ajS B r))):=by
  rw[U9 acR ho (K? i)]
  · rw[ho]at hc
    rw[zJ r hr ho]
    rw[gp (ay (pV r hr ?_)) (Sd P q ((aL (W4 B ti)/\q=bP C.he M)\/(dj (W4 B ti)/\C? (q=.ok .ai M') (setB Y.rs ajS B r))))]
    simp only[b6,zD,zE,m9,Nat.zero_add,Nat.reduceAdd,Nat.reduceSub,List.replicate,m_,l5,j?];rw[gp (CY .ai M (aK hc)) (qK kW (aK (hw r hr)))];rw[gn]
    rw[cV Z4 (abG (U2 s.1)) (λs fe=>ajR r s.1 (j4 s fe)) (tn (oS bw (kG (∃y,ρ=[aQ,bS,vo,y]/\M'=M/\dj (amw B ti pre))) bN M W3 (HQ none rfl)))]
    · rw[abj s hx ρ M' y rfl rfl i7 _];rw[cH A7 (Z4 s (by rw[nP])) e (hn s.1 A7)];rw[rR hh (apN s.1||ti s.1)]
      · rw[zS (if_pos hh) e (adn C.he M' ?_ (aXR (lu (dq (IZ ?_)))))]
        · simp[bw,e]
        · rw[hx];rw[jj amw List.any_append List.any_cons hh];simp
      · rw[zS (if_neg hh) e (E_ .ai M' (ah6 _ rfl ?_))]
        · simp[bw,e]
        · unfold amw at i7⊢
          rw[List.any_append,i7,List.any_cons];simp only[Bool.not_eq_true]at hh;rw[cU hh]
    · rw[ah9 ρ' M' y rfl rfl a38 (Ri (sH bw (SE aa (∃y,ρ=[aQ,bS,vo,y]/\By aa (Qh B (VZ r pre) lying (DH ajS pre B.lying))/\gL o M' o aa))
        bN none M' W3 trivial (pV _ h gL.refl) ?_ ?_))]
      · rw[abj s hx ρ aa y rfl h1 f1 _];rw[pM A7 (Z4 s (by rw[nP])) a2K (gb agY uc) (jb (by
          rw[BC s' fe hp (Z4 s' (by rw[hx];simp[fe]))])) hlen (iF (VZ r pre) 16) (by
          rw[vz (Y! (axA r pre _ fS) (aIV r pre _ a2K fq)) eP];omega)]
        rw[cW e1 (R! [aQ,bS,vo,lP] d amZ) (Es (η r) aa (ο 1) aa (η s.1) aa (Č 1 .aj eI r (pre++[s])) Θ e1 QJ ?_ fj)]
        · rw[ajh h1.y1 s.1 (by rw[amu];show cC (VZ r pre)<_;exact Lp hlen),aVH]
          congr 3
          exact amt eI s.1 r _
        rw[cH h2 (h1.aQu (VZ r (pre++[s]))) e2 (ar0 ρ [aQ,bS,vo,lP] d rfl ax1)]
        rw[cW e3 (ar0 ρ [aQ,bS,vo,lP] d rfl F8) (F0 (j! (amS Y.ps s)) (Č 1 .aj eI r (pre++[s])) (ο 2) (Č 1 .aj eI r (pre++[s])) (η s.1) (Č 1 .aj eI r (pre++[s])) ((Č 1 .aj eI r (pre++[s])).set 2 (ς ((DH ajS (pre++[s]) B.lying).map j!))) ?_ e2 QJ ?_ (jz (pV _ ?_ ?_)))]
        · rw[bY,aP,az,e3,ag]
          simp only[az,aN,bo,bf,a!,ag,aP,bB];rw[mH (fN (bw s) (η 0) (Č 1 .aj eI r (pre++[s]))) (.ok (η s.1) _) Og,ag,Oh A7,ag,ag,hl]
          rfl
        · rw[Tv h2.y2 (by simp;rw[er axB alo A7]),aWx,List.map_set]
        · exact h2.put2 _
        · exact eo (ahG (by rw[EN 1])) (tS (by rw[EN 2]))
      · rintro ρ' aa ⟨y,rfl,h1,f1⟩
        rw[nE e1 (R! [aQ,bS,vo,y] d amv) hlen (B.greens.length≤16) (by
          rw[vz (Y! aE4 sT) eP];omega) (eZ (F0 (η r) aa (ο 3) aa (η bZ) aa (V7 3 .aj eI (iY B.greens bZ r)) Θ e1 ?_ ?_ (p8 (ay (Cr a38 (h1.put3 _) (ahG (by rw[EN 3])))))))]
        · simp[hs aa _ r h1 hr]
        · rw[ajh h1.y3 bZ (by rw[ah5 amu hlen])]
          congr 3
          exact amt eI bZ r _
  · rw[pY ho (PK i) (aX ho) ho hc]
    rw[QA (Ω (k7 ho)) (Sd P q (q=oY)) (QX M (lu (dq rfl)))]
universe zE
universe Sb
universe zE
section
namespace Sb
open PySem L2
def aHA gC [BEq α] [LawfulBEq α] aaw aze azD ck(ha:a∈as):J3 (ς Va) [Eh] M=.ok (η (as.idxOf a)) M:=by
 rw[pU J3];rw[Lj (Rr _ (hp a)) F7]
 rw[g6 (Tu (g:=Xw) λz hz=>by
  rw[XQ b hz (Rr _ (hp b))])]
 have:((Va).map Xw).findIdx? (zj q q (lA deep Eh))=aT (as.idxOf a):=by
  rw[List.findIdx?_map,List.findIdx?_map]
  have hf:(((zj q q (lA deep Eh))∘Xw)∘enc)=λb=>b == a:=by
   funext b
   rw[aq4];rw[Bool.eq_iff_iff,aeK deep _ _ (hp b) (hp a),beq_iff_eq];rw[vj (dF (inj _ _ e)) e (k6 e)]
  rw[hf];have fq:as.findIdx (λb=>b == a)<as.length:=List.findIdx_lt_length_of_exists ⟨a,ha,Θ⟩;rw[cU (List.findIdx?_eq_some_of_exists ⟨a,ha,Θ⟩)]
 rw[this]
section
variable {C:eu}{Y:eD}{e:eH}{o:cR}{M:ba}{B:cF}{ρ:aY}{t:TB}
abbrev kI gD mh:fO:=match Ae s s with
 |IF=>if(s.2.2,b)∈Y.ss then aB6 (s.2.2,b) else none
 |none=>none
def a39(q:Int×fO):G6 (aW [η q.1,bu q.2]):=by
 rw[ą y hy hy];rcases hy with rfl | rfl
 ·exact lZ _
 ·cases q.2 with
  |none=>exact TS
  |some n=>exact lZ _
def a2L(a b:Int×fO)(h:QZ (η a.1) (bu a.2)=QZ (η b.1) (bu b.2)):a=b:=by
 rw[À a1 a2 a b1 b2 b];simp only[ak.tup.injEq,List.cons.injEq,ak.int.injEq,and_true]at h;rw[Qo h2 h];cases a2<;>cases b2<;>simp only[bu]at h2<;>first | rfl | (cases h2;rfl) | cases h2 | (injection h2 with h3;have h4:=Int.ofNat.inj h3;subst h4;rfl)
def a4a Po{b:fO}{ss:Br}ck:ŕ (aW [η j,bu b]) mL M=.ok (.ah (iR (j,b) (ss.map λs=>(s.1,MV s)))) M:=by
 have:=N4 (neg:=false) (M:=M) (enc:=λq:Int×fO=>QZ (η q.1) (bu q.2)) a39 a2L (a:=(j,b)) (as:=ss.map λs=>(s.1,MV s)) (y:=mL) (by
  show ow M (ς (ss.map fQ))=_;rw[pv,List.map_map]
  rfl)
 rw[zp]
def ZT uY(h:w≠[]):LB[0]? = Hf (w.headD (0,0,0)):=by
 cases w with
 |nil=>rw[Rv h]
 |cons s w=>rfl
def acG aai{bG:D1}(h0:M[0]? = Er (AO Y tk))azJ(aS:X?)
  aOm:avF C.tr C.aM bG [ο 0,ku] M=.ok (bu (kI Y (cg t.tr))) M:=by
 rw[ì avF P q (q=.ok (bu (kI Y (cg t.tr))) M) e1 (S2 ρ [aQ,f6,none,none] d aA h1 Tz) (qL (bw (cg t.tr)))]
 ·rw[az,e1,ag,bo,ag];exact tm (i:=0) h2 (ZT aS)
 rw[gn]
 generalize cg t.tr=s;rw[cW e2 (OD (ρ:=[aQ,f6,lP,none]) (d:=ao) h0 rfl F8) (qL (aW [η s.2.2,bu (Ae s s)]))]
 ·unfold dM;simp only[bw]at e2;simp only[aP,bB,az,aN,bo,bY,bf,a!,ag,e2,bw,ZS,Og,hb]
 rw[Vo e3 (OD (ρ:=[aQ,f6,lP,vR [η s.2.2,bu (Ae s s)]]) (d:=ao) h0 rfl vy) (JH (iR (s.2.2,Ae s s) (Y.ss.map λs=>(s.1,MV s))))]
 ·simp only[eF,az,aN,bf,a!,ag,e3,a4a]
 ·rw[H6 hk hk];rw[Cb q hq eq hk]
  rw[iA e4 (s.2.2=q.1) (by have:=congrArg Prod.fst eq;exact this.symm) e5 (LV s s.2 q.2) (by have:=congrArg Prod.snd eq;exact this.symm) hm ((s.2.2,q.2)∈Y.ss) (by rw[au e4 hq]) hv (kI Y s=aB6 (s.2.2,q.2)) (by rw[jA kI e5 (if_pos hm)])]
  rw[Cv (xY (bu (kI Y s)) M (p7 (eX rfl))) hv];rw[iT n8 e3 ag];simp only[aP,bB,aN,bf,a!,ag];rw[au e5 (aHA (enc:=fQ) anr ani (a:=(s.2.2,q.2)) hm)]
 ·rw[nE hk aqY hv (bO (kI Y s)) (by
   unfold kI;cases Kq:Ae s s with
   |none=>rfl
   |some b=>
    rw[ă (if_neg λhm=>hk ?_) Kq (j4 (s.2.2,b) hm)]) (dP (ML .ai M ?_))];rw[cU hv]
abbrev avJ gD(d:Sl TB)qv:eH:=gz (arx q (JG (cg q.2.tr) s)).map
def acZ Pq{ga:D1}pH(aS:ahi q (q.2.tr.steps≠[]))
  (ha:∀wW M',M'[0]? = Er Hj->Ek M' = El->Ej M' = G5->X?->ga [ο 0,ku] M'=.ok (bu (kI Y (cg t.tr))) M'):
  mx C.aM ga [ο 0,η s] M=.ok (eQ (þ Y s)) M:=by
 rw[B7 mx P q (q=.ok (eQ (þ Y s)) M) (tn ?_)];rw[gX hi (axe h.y5 (mu [aQ,fm,none,none] adP)) aKc hi]
 refine TN h.y5 hi ?_;rw[cV hz (rU (R5 5 .ij) 5 .ij X9) asT (sH aEM (kG (∃y z,ρ=[aQ,fm,y,z]/\M'=R5 5 .ij/\arT (Cz (JG (cg q.2.tr) s)))) B.trains _ _ hi hz (CV none none rfl) ?_ ?_)]
 ·rintro pre q post hx ρ M' ⟨y,z,rfl,rfl,i7⟩;rw[ajc _ hq (at8 q) (by rw[nP])]
  rw[cH T (Vn q hq) T' (asP i 5 v (.ij X9) (S6 5))]
  rw[cW e1 (ha q.2 _ Qd T'.mt T'.ms (aS q hq)) (v8 (d! (JG (cg q.2.tr) s)) (R5 5 .ij))]
  ·rw[eF,az,bY,aP,aN];dsimp only[List.set_cons_succ,List.set_cons_zero,bf,a!];rw[RD ag aP];rw[ag,bB,ag,ag,ag,e1,ag,aN];rw[tU];rw[ag];cases hv:kI Y (cg q.2.tr) with
   |none=>
    rw[abe none .ai,akG p TS (lZ _)]
    rfl
   |some s'=>
    rw[abe (some s') (η s'),sI]
    rw[abw (s'=s)]
    ·rw[zo e2]
    ·rw[Xn e3 (aU s'=s) e2 e3]
  ·rw[Cv (p6 (η q.1) (R5 5 .ij) rfl (aeb ⟨hz,p7 (eX ?_)⟩)) (NZ h.y5)];unfold avJ;rw[hx,List.find?_append,i7,List.find?_cons,hk];rfl
  ·rw[vX (Ar hz (CV _ _ ?_))];rw[List.find?_append,i7,List.find?_cons,hk];rfl
 ·rw[L6 M' y z rfl rfl i7];rw[fF hz (eZ (p6 .ai M (by rw[cU (NZ h.y5)]) (eX ?_)))];rw[Hr avJ i7]
def acH fW ji(hs:w_):avG C.dN C.aM [ο 0,η x] M=match nV with
  |eG=>.ok ku M
  |none=>oY:=by
 rw[ì avG P q (q=match nV with | eG=>.ok ku M | none=>oY) e1 (mu [aQ,aZ] adP) (JH (!(nI nV)))]
 ·rw[RD eF az];rw[ag,e1,ag,Wt h.y5 k xy,yy];simp
 ·have e3:=afj (M:=M) (y:=ο 0) hs;rw[B9 j7 e3];refine lu (dq ?_);cases ht:nV with
  |none=>rfl
  |some t=>rw[nG ht hk hk]
 ·cases ht:nV with
  |none=>rw[nG ht hk hk]
  |some t=>
   rw[vX (ajl ku)];rw[az,e1,ag,aN];rw[agM ag (Wu h.y5 k xy (by rw[yy,ht];rfl))]
def a0o fW{gc b_:D1}pH(hn:ajx)(hl:ajp q q.2)
  (hc:b_ [ο 0,η x] M=match nV with | eG=>.ok ku M | none=>oY)
  aOh:
  avP gc b_ [ο 0,η x] M=match nV with
  |eG=>.ok (bU Sp) M
  |none=>oY:=by
 rw[oM avP P q (q=match nV with | eG=>.ok (bU Sp) M | none=>oY)];cases ht:nV with
 |none=>
  rw[ht]at hc;unfold c!
  have:ax gc [ax b_ [ao,aA]] [aQ,aZ] M=oY:=by
   simp[hc]
  rw[au this (dq rfl)]
 |some t=>
  rw[ht]at hc;rw[cH hm (wj ht) T (Vn _ hm)];exact B? (bU Sp) M (f_ hc (hu t M T.mt T.ms (hl _ hm)))
def aT4 lK mh(d:Eg):NO (w++[s]) d=ig (NO w d) s.1:=by rw[aa8 NO]
def T7 Bh{gf dk:bz}pB Bm{y:ak}D5(v:ak)aN7(hn:Ef .aj)(hk:Iz M=.ok y M)(hy:agn y k)(hv:pS Ep)(q:Q (.nx ρ (kC n .aj (Gf kvs k)))):Q (mU (J4 gf dk) ρ M):=by
 refine E_ v (kC n .aj (Gf kvs k)) q;unfold J4;rw[vU ho ag (o! hn)];rw[hk,ag,o! hn,hy];dsimp only;rw[hv]
def Fh uY{xv:ak}{wt:qj}ji az0(hv:cj aA [aQ,some xv,none] M=.ok (LB,wt) M)(hc:E9 M)
  (hk:∀(aa:ba) v,E9 aa->E9 (aa.set 1 v)):ahI (Zf C.aM [ο 0,xv] M=.ok .ai M') M' B w (Ca/\xh/\∀i,i≠1->M'[i]? = M[i]?):=by
 rw[B7 Zf P q (ahI (q=.ok .ai M') M' B w (Ca/\xh/\∀i,i≠1->M'[i]? = M[i]?)) (sH bw (SE aa (∃y,ρ=[aQ,some xv,y]/\e7 C Y e o aa (agk B pre)/\Fi aa/\Ll aa.length/\E9 aa/\∀i,i≠1->aa[i]? = M[i]?)) w wt M hv hc ⟨none,rfl,h,gL.refl,rfl,hc,HL _ _⟩ ?_ ?_)]
 ·rintro pre s post hx ρ aa ⟨y,rfl,h1,f1,l1,c1,g1⟩;rw[Im _];rw[fG e1 (R! [aQ,some xv,lP] d amZ) hs (s.1∉agY) (λhm=>by
   rw[hx,List.map_append,List.nodup_append]at hn;exact hn.2.2 s.1 hm s.1 Θ rfl)]
  have hv:=hl s.1 (by rw[nP]);rw[S! v hv hv];refine T7 (k:=jC s.1) (y:=η s.1) (η v) e1 h1.y1 QJ rfl ?_ (Ar (hk _ _ c1) ⟨_,rfl,?_,ahG (by rw[EN 1]),by rw[ahf l1],hk _ _ c1,λi hi=>ajd (hi e.symm) (g1 i hi)⟩)
  ·rw[ux,alT,if_neg hs,hv];rfl
  ·rw[er amg aT4 (h1.aQu _)]
 ·rintro ρ' aa ⟨y,rfl,h1,f1,l1,_,g1⟩;exact p8 ⟨aa,rfl,h1,f1,l1,g1⟩
def q0 uY ji az0:
  ahI (Zf C.aM [ο 0,b9 w] M=.ok .ai M') M' B w (Ca/\xh/\∀i,i≠1->M'[i]? = M[i]?):=
 Fh (wt:=none) h hn hl W3 trivial λ_ _ _=>trivial
def aV9 uY{a:Nat}ji az0(ha:sD M a LB)(h1:a≠1):
  ahI (Zf C.aM [ο 0,ο a] M=.ok .ai M') M' B w (Ca/\xh/\∀i,i≠1->M'[i]? = M[i]?):=
 Fh (wt:=mO a (ς LB)) h hn hl (aez rfl ha) ha λaa v hc=>ajd (h1 e.symm) hc
def aLe iz zd(hr:t6 1 xr):n6 (QD nM) ρ M=.ok () M:=by
 have h:=JZ hi.1 hi.2;simp only[n6,aN,hr,ag,h,if_true]
def ac9{u:Int}{v:ak}:avS C.fa [e_,η u,v] (M++[dD C.fa []])=.ok .ai (M++[dD C.fa [Af u,ŭ v]]):=by
 rw[oM avS P q (q=.ok .ai (M++[dD C.fa [Af u,ŭ v]]))]
 rw[v7 put (∀Bh GY{dv:bz}{ρ:aY}(y:ak)(fs DN:r9),ajG 0->dv ρ (M++[dD C.fa fs])=.ok y (M++[dD C.fa fs])->agl->Dw f y fs=DN->Q (.nx ρ (M++[dD C.fa DN]))->Q (hG C.fa f ao dv ρ (M++[dD C.fa fs]))) (λy fs DN h0 h hl hf q=>by
  unfold hG;rw[h,Res.fg,aN,h0,Res.fg,J0 (C:=C.fa) (fs:=fs) Θ];dsimp only;rw[aui,hf,axx];exact q) (put (η u) [] [Af u] rfl Θ (by rw[ia (0<1000)]) cI fj)];exact put v [Af u] [Af u,ŭ v] rfl Θ (by rw[ia (1<1000)]) cI QE
def e7.fall pH fz{u:FB}(hr:r∉rW)(hu:Ll u.ob):
  H! (Xb r) ((M++[aD6 (uO u)]).set 4 (.aj (X_ (Vb r u)))) (Hx falls (Vb r u)):=by
 rw[fG hp (h.push (dD C.fa (uO u)) (Q3 r)) h5 (zQ 5) (jJ h.y5)];have g:∀i,5<i->((M++[aD6 (uO u)]).set 4 (.aj (X_ (Vb r u))))[i]? = (M++[aD6 (uO u)])[i]?:= λi hi=>o5 aB;refine⟨j0 hp.y0,j0 hp.y1,j0 hp.y2,j0 hp.y3,get_set hp.y4,j0 hp.y5,hp.lo,λi hi=>hp.hi i X6,dB q hq,cM q hq he⟩
 ·rw[pY hq (q∈Vb r u) hq (axz hr) hq];rcases aPE with hq | hq
  ·have:=hp.qi q hq;rw[b4 this.1 (Nb _ (ary this.1) this.2)]
  ·rw[L1 hq hq];rw[hu];rw[b4 JX (Nb _ h5 Θ)]
 ·have T:=hp.awL q hq he;exact IV (Nb _ (ary T.ot) T.mt) (Nb _ (ary T.os) T.ms) (Nb _ (ary T.oa) T.ma)
def adN iz aOC{W:bC}{sN:QV}{Dv:mq}pH zd G0(I:agh W)aaC(s5:arQ)(GF:Q1 (HY bZ))
    aNO
    aOl
    (ht:∀M B' qv,By M B'->B'.trains=B.trains->u!->gt [ο 0,η s] M=.ok (eQ (þ Y s)) M)
    (hb:∀M B qv,u0->u!->bG [ο 0,η s] M=.ok (.ah lg) M)
    (hf:∀dY(u:Int)(v:ak),o9 [e_,η u,v] (M++[dD C.fa []])=.ok .ai (M++[dD C.fa [Af u,ŭ v]]))
    aMU
    aOn:
    (PK i/\Ze C.fa C.dN C.aM b_ gs gt bG o9 gc bQ [ο 0,η i] M=oY)\/∃r:Nat,i=r/\lM ∧
      ((L4 r/\Ze C.fa C.dN C.aM b_ gs gt bG o9 gc bQ [ο 0,η i] M=oY) ∨
       (tG/\((g5 (ud&&(WR Y||kq))/\u9 (Ze C.fa C.dN C.aM b_ gs gt bG o9 gc bQ [ο 0,η i] M=.ok .ai M') (H! (Xb r) M' (anG Y.rs B r (atp zF Y))) (I5 (Xb r)))
          \/ q4 (ud&&(WR Y||kq))/\C? (Ze C.fa C.dN C.aM b_ gs gt bG o9 gc bQ [ο 0,η i] M=.ok .ai M') (amL Y.rs B r)))):=by
  rw[U9 Ze ho (K? i)]
  · rw[ho]at hc
    rw[zJ r hr ho]
    rw[gp (ay (pV r hr ?_)) (Sd P q ((L4 r/\q=oY) ∨
       (tG/\((g5 (ud&&(WR Y||kq))/\u9 (q=.ok .ai M') (H! (Xb r) M' (anG Y.rs B r (atp zF Y))) (I5 (Xb r)))
          \/ q4 (ud&&(WR Y||kq))/\C? (q=.ok .ai M') (amL Y.rs B r)))))]
    simp only[b6,zD,zE,m9,Nat.zero_add,Nat.reduceAdd,Nat.reduceSub,List.replicate,m_,l5,j?];rw[gp (CY .ai M (aK hc)) (qK (η bZ) (aK (hs M B r h hr)))];rw[ļ jf (GF r hr) e1 (mu [aQ,bS,Xz,none] amv)]
    rw[kB a5E (aes (Mr "greens") aD [aQ,bS,Xz,none] M=.ok (bu (Ic bZ)) M) (by
      unfold aes;rw[vU e1 ag (o! h.y3)];rw[RL];rw[o! h.y3];rw[r3 jM ux];cases Ic bZ<;>rfl) DO (aO (Ic bZ) r↔tG) (by
      rw[S.greens];rw[vj (λa=>a.1) a (kS a)]) (JH (!(iR r W.green)))]
    · rw[eF,az,a5E]
      rw[RL];cases e:Ic bZ with
      |none=>
        have:L4 r:=λh=>by rw[DO.mpr h]at e;cases e
        rw[abe none .ai,akG p TS (lZ _)]
        simp[this]
      |some r'=>
        rw[abe (some r') (η r'),sI]
        rw[abw (r'=r)]
        · subst e2
          have:=DO.mp e;simp[this]
        · have:L4 r:=λh=>by rw[DO.mpr h]at e;cases e;exact e2 rfl
          rw[Xn e3 (aU r'=r) this e3]
    · rw[Iu hk (L4 r) pW e3 (aLe (M:=M) (ρ:=[aQ,WL r,Xz,none]) hi rfl)];rw[B9 j7 e3];exact lu (dq (IZ hk))
    · rw[Ą hk tG pW hg (DO.mpr hk) (dP (Ri (T7 (k:=jC bZ) (y:=η bZ) (η r) e1 h.y3 Θ rfl (by rw[ux,hg];rfl) fj)))];rw[amg];rw[pM h1 (h.put3 Wy) f1 (Fi (abO 3 .aj eI)) (tS (by rw[EN 3])) l1 (ahB (abO 3 .aj eI)) List.length_set]
      generalize abO 3 .aj eI=aa at h1 f1 l1;refine z9 (eQ (agV Y)) aa (aK (ht aa _ bZ h1 rfl jf));generalize hnr:agV Y=gh;rw[ļ e2 (R! [aQ,bS,Xz,ai5 gh] d a2H) e4 (R! [aQ,bS,Xz,ai5 gh] d ax0)];rw[cW Kq (hb aa _ bZ h1 jf) (IS (ud&&(gh.isSome||kq)) aa)]
      · cases gh with
        |none=>
          simp only[eQ]at e2⊢;simp[e2,gH,Kq];by_cases alq:0<Y.wait<;>simp[alq]
        |some x=>
          simp only[eQ]at e2⊢;simp[e2,gH,Kq];by_cases alq:0<Y.wait<;>simp[alq]
      · rw[bM a7q (r∉rW) (by rw[cw S.amd (I.yX r hk)]) A9 aMv (by
          rw[gX h1 (Y! (n:=Y.rs.length) (l:=rW) (by rw[auB]) (yq (I.own x (ay (by rw[ş hx]))).1)) eP h1];omega)]
        rw[fG h2 (h1.fall (u:=⟨zF,gh,aa.length⟩) a7q rfl) e5 (uk C.fa o9 [(k_ (Mr "ticks") (Mr "wait")),bA] [aQ,bS,Xz,ai5 gh] aa=.ok XR (aa++[dD C.fa [Af zF,abh gh]])) (by
          unfold uk;simp only[aP,bB,az,e2,e4,ag,aN,bf,a!];rw[FF (aiW (η _) (η _) aa) .ok (η zF) aa]
          simp only[ag];rw[hf,ag])]
        rw[lS hp (h1.push (dD C.fa [Af zF,abh gh]) (Q3 r)) e6 (hp.fld (ρ:=[aQ,bS,Xz,ai5 gh]) (d:=ao) rfl aee) (F0 XR _ (ο 4) (aa++[dD C.fa [Af zF,abh gh]]) (η r) (aa++[dD C.fa [Af zF,abh gh]]) _ e5 e6 Θ (ajh hp.y4 r (by rw[ah5 amu A9])) (p8 (o4 hk (Ω (Yi cE ?_)))))]
        · rw[l1]at h2⊢
          have:j_ Hy (jC r) e_=X_ (Vb r (aA6 zF gh)):=amt JW r (aA6 zF gh) B.falls;rw[Wf (H! _ (List.set _ 4 (.aj (j_ Hy (jC r) e_))) _) this h2]
        · rw[pY f2 (gL o aa (asS o (Q3 r)) (aa++[dD C.fa [Af zF,abh gh]])) gL.push l1 f2];rw[gx l1 (ag0 f2 (tS (by rw[NY (by rw[e9 (jJ h.y5)]),S6 4];nofun)))]
      · have aEm:aqF (gz (bN).map) K_:=jb (by
          rw[gX h1 (PI (Ω hk)) (S.locks p (ajR r p hp)) h1];cases ali:K_ with
          |none=>rw[ali]at h1;cases h1
          |some _=>rfl)
        obtain⟨M2,u1,u2,u3,u4,_⟩:=hu aa _ bN h1 (aaU r) aEm
        refine E_ .ai M2 (p8 (o4 hk (ay (kX cE M2 u2 (f1.trans u3)))));simp[hw aa _ r h1 hr,u1]
  · rw[pY ho (PK i) (aX ho) ho hc]
    rw[QA (Ω (k7 ho)) (Sd P q (q=oY)) (QX M (lu (dq rfl)))]
universe zE
universe Sb
universe zE
end
mutual
section
namespace Sb
open PySem L2
section
variable {C:eu}{Y:eD}{o:cR}{M:ba}{B:cF}{ρ:aY}
def aIe fz:∀aax,r∉rs->cG (Vy W).falls r=HG r
 |[],W,_=>rfl
 |x::rs,W,h=>by
  rw[List.foldl_cons,aIe rs _ (MN IB)]
  unfold n7;split
  ·rw[NU,Nd e IB]
  ·rfl
def aHB{cZ:w9}fz:∀(rs:ef)oF,r∉rs->cG (rs.foldl (oi cZ) B).falls r=cG B.falls r
 |[],B,_=>rfl
 |x::rs,B,h=>by
  rw[List.foldl_cons,aHB rs _ (MN IB)]
  unfold oi;split
  ·rw[NU,Nd e IB]
  ·rfl
def aGT:∀aax,(Vy W).now=W.now
 |[],W=>rfl
 |x::rs,W=>by rw[List.foldl_cons,aGT rs,aIc]
def ax3 gC{xs pre post:qy}{x:α}(h:xs.Nodup)(e:xs=pre++x::post):x∉pre:=λhm=>by
 rw[e,List.nodup_append]at h;exact h.2.2 x hm x Θ rfl
def a0p{u:FB}:xm (uO u) (Str.ofString "until")=dR u.u:=cI
def a0q{t t':Int}:Dw "ticks" (η t') (AO Y t)=AO Y t':=cI
def aek{gc bQ:D1}{W:bC}{sN:QV}{Dv:mq}pH G0(I:agh W)aaC aac(s5:arQ)
  aMU
  aOn:
  C? (awA C.fa C.aM gc bQ [ο 0] M=.ok .ai M') (aeT Y.rs B):=by
 rw[ì awA P q (C? (q=.ok .ai M') (aeT Y.rs B)) e1 (mu [aQ,none] ax0) (tn ?_)]
 have ep:hG C.aM "ticks" ao (XG (Mr "ticks")) [aQ,none] M=.nx [aQ,none] (agz 0 (dD C.aM (AO Y (Mp 1)))):=by
  unfold hG;rw[az,e1,ag,bo,ag,FF (aiW (η B.ticks) (η 1) M) .ok (η (Mp 1)) M,Res.fg,RQ 0 [aQ,none] .ok ο 0,Res.fg,J0 h.y0]
  dsimp only;rw[jB (by rw[ia (10<1000)]),a0q]
 rw[iU ep fj];rw[agO h1 (h.a5R (Mp 1)) f1 (Fi (agz 0 (dD C.aM (AO Y (Mp 1))))) (tS (by rw[EN 0])) (agz 0 (dD C.aM (AO Y (Mp 1)))) aa h1 f1]
 rw[gv fS (gE rW) (by rw[auB]) fq (YA r rW) (qN (mK (ay (by rw[ş hr]))).1) hlen aMv (by
  rw[gX h1 (Y! fS fq) eP h1];omega)]
 rw[nE e2 (R! [aQ,none] d aee) ei (ax LA [aip] [aQ,none] aa=.ok (ς (JF (rW).map (r:Nat))) aa) (by
  rw[bY,aP,e2];rw[tT bB]
  rw[yc oy (o! h1.y4)]
  have e3:(Hy).map (λq=>yO q.1)=JF (rW).map (r:Nat):=by
   rw[aqh encD];rfl
  rw[BZ ((Hx ticks (Mp 1):cF).falls=B.falls),e3,gG (by rw[ai9 hlen])]) (oS (gQ (r:Nat) r) (SE M2 (∃y,ρ=[aQ,y]/\By M2 (pre.foldl (oi Y.rs) (yR B))/\Fi M2)) rW aa (jL ei) (pV none h1 f1))]
 ·rw[abj r hx ρ M2 y rfl h2 f2 _];rw[Wg hr lM (fq r (by rw[nP])) OP (ax3 fS hx) br (aGQ R pre _ (Bn I))];rw[pM b8 (aGR R pre _ _ (Bn I) (aJ4 S)) Kl (cG (pre.foldl (oi Y.rs) (yR B)).falls r=cG B.falls r) (aHB pre _ OP) Z0 (r∈rW) (by rw[nP])]
  rw[S! u GG ((ahM _).mp Z0)]
  have a7t:HG r=aT (Kg Y.rs Dv r u):=by rw[S.falls,Zk,GG];rfl
  rw[pM a5F (D _ (wj a7t)) Tb ((pre.foldl (oi Y.rs) (yR B)).ticks=Al) (by rw[b8.ticks,aGT];rfl) hq ((r,u)∈(pre.foldl (oi Y.rs) (yR B)).falls) (wj (kn Kl GG))];rw[HS hf (h2.qi _ hq).2 e3 (ar0 ρ [aQ,bS] d rfl aee) e4 (ar0 ρ [aQ,bS] d rfl ax0)]
  rw[iA e5 (M5 aip aA [aQ,bS] M2=.ok (ο u.ob) M2) (by
   rw[az,e3,ag];rw[RL];exact Wu h2.y4 k (jC r) (by rw[ux,Kl,GG];rfl)) e6 (lq C.fa "until" (oO aip) [aQ,bS] M2=.ok (η u.u) M2) (by
   unfold lq at e5⊢;rw[vU e5 ag (J0 hf)];rw[cU a0p]) AL (oi Y.rs (pre.foldl (oi Y.rs) (yR B)) r=(pre++[r]).foldl (oi Y.rs) (yR B)) (by rw[List.foldl_append];rfl) Kn (Z3 (pre.foldl (oi Y.rs) (yR B)).falls (pre.foldl (oi Y.rs) (yR B)).ticks r=gS u.u Al) (by
   unfold Z3
   rw[vU Kl GG Tb];refine decide_eq_decide.mpr ⟨cJ h,cJ h⟩
   ·rw[xP (W.now<u.u) a5F]
   ·omega)]
  refine v8 (gS u.u Al) M2
  ·rw[eF,az,e6,ag,e4,ag,Tb,sI];rfl
  ·rw[v7 aEm (aqF (gz (bN).map) (cG (pre.foldl (oi Y.rs) (yR B)).locks p)) (jb (by
    rw[Ć hm2 (r∈gz (Nl W).falls.map) (by rw[b8.amd,mem_keys,Kl,GG];rfl) h1 (br.lock (ay hm2) hp) (b8.locks p (ajR r p hp)) h1];cases ali:cG (pre.foldl (oi Y.rs) (yR B)).locks p with
    |none=>rw[ali]at h1;cases h1
    |some _=>rfl)) (T7 (k:=jC r) (y:=η r) (ο u.ob) e3 h2.y4 Θ rfl (by rw[ux,Kl,GG];rfl) fj)];rw[amg];rw[agO h3 (h2.aLd r) f3 (Fi (JJ 4 .aj (X_ (ig (pre.foldl (oi Y.rs) (yR B)).falls r)))) (ahV (tS (by rw[EN 4]))) (JJ 4 .aj (X_ (ig (pre.foldl (oi Y.rs) (yR B)).falls r))) bq h3 f3];obtain⟨dW,u1,u2,u3,u4,_⟩:=hu bq _ bN h3 (aaU r) aEm
   refine uq .ai dW (f_ (hw bq _ r h3 hr) u1) (jz (pV _ ?_ (f3.trans u3)));rw[←AL];rw[jA oi (jB (by rw[RO (aL (Z3 _ _ _)) aD7])) u2]
  ·rw[Ű (pV _ ?_ f2)];rw[←AL];rw[jA oi (rO hc (by rw[aCb fR hc hk fR];cases fR)) h2]
 ·rintro ρ' M2 ⟨y,rfl,h2,f2⟩;exact p8 (pV M2 h2 f2)
@[simp] def aZ2{neg b:Bool}:eJ neg (j! b) lU M=.ok (.ah (zl b b)) M:=by cases b<;>cases neg<;>with_unfolding_all rfl
def ad2 iz{b_ iZ:D1}{ti:mq}pH(alo:aDl)
    aNe
    aNH:
    (dj (HK i)/\adD C.aM b_ iZ [ο 0,η i] M=oY)\/∃p:Nat,i=p/\uc/\JB ∧
      ((g5 (zX||ti p)/\adD C.aM b_ iZ [ο 0,η i] M=bP C.he M) ∨
       (q4 (zX||ti p)/\C? (adD C.aM b_ iZ [ο 0,η i] M=.ok .ai M') (aeJ B p))):=by
  rw[U9 adD ho (HK i)]
  · rw[ho]at hc
    have A5:=aPX;rw[zJ p hp A5.1]
    rw[gp (ay (PE p hp (aX A5.2) ?_)) (Sd P q ((g5 (zX||ti p)/\q=bP C.he M)\/(q4 (zX||ti p)/\C? (q=.ok .ai M') (aeJ B p))))]
    simp only[b6,zD,zE,m9,Nat.zero_add,Nat.reduceAdd,Nat.reduceSub,List.replicate,m_,l5,j?];rw[Et (CY .ai M (aK hc)) e (hn p hp)];rw[rR hh (zX||ti p)]
    · rw[bF (if_pos hh) e (eK (adn C.he M IB (lu (dq (IZ hh)))))]
    · rw[if_neg hh]at e
      rw[kD (CY .ai M IB) pn (ar9 p) (by rw[au alo hp])]
      rw[nE e1 (mu [aQ,se] ax1) e2 (Fb (Mr "lying") aA [aQ,se]=.ok (j! (Li p)) M) (by
        rw[az,e1,ag];rw[RL];exact tm h.y2 (by rw[aAv g_ pn];rfl)) (F0 (j! (!(Li p))) M (ο 2) M (η p) M (q3 2 ((aCS (!(Li p))).map j!)) ?_ e1 Θ (kn (Tv h.y2 (aX pn)) List.map_set) (p8 (ay (Cr (aX hh) (h.put2 _) (tS (by rw[EN 2]))))))];rw[aex,eF,az,e2,ag,bo,ag,aZ2,ag,ag];cases Li p<;>rfl
  · rw[pY ho (dj (HK i)) (aX ho) ho hc]
    rw[QA (Ω (k7 ho)) (Sd P q (q=oY)) (QX M (lu (dq rfl)))]
universe zE
universe Sb
universe zE
section
namespace Sb
open PySem L2
section
variable {C:eu}{Y:eD}{e:eH}{o:cR}{M:ba}{B:cF}{ρ:aY}{t:TB}
abbrev AM gD UO qv:fO:=match Ic s with
 |r7=>r7
 |none=>gz (B.falls.find? λq=>ť q.1 s&&(W8 q.2.gh||lg)).map
def aKK{u:FB}:xm (uO u) (Str.ofString "near")=ai5 u.gh:=cI
def a4b{i j:Int}aoN zd(hj:oD j):n6 [none,nM,none,M!] [y,xr,xt,z,w] M=.ok () M:=by
 rw[cH h (JZ hi.1 hi.2) h2 (JZ hj.1 hj.2)];simp only[n6,aN,bf,a!,ag,h,h2,if_true]
def aT5 fW{bG gs:D1}rI:acU C.fa C.rd C.aM bG gs [ο 0,η x,.ai] M=bP C.rd M:=by
 rw[B7 acU P q (q=bP C.rd M) (eK (OG M Θ ?_))];have e3:=aLe (M:=M) (ρ:=[aQ,aZ,some .ai,none,none]) hx rfl;rw[B9 j7 e3];exact lu (dq rfl)
def ac0 fW Pq{bG gs:D1}ji rI(hsm:oD s)(fq:YA r rW)
  aOi
  (hb:∀M',M'[0]? = Er Hj->bG [ο 0,η s] M'=.ok (.ah lg) M'):
  acU C.fa C.rd C.aM bG gs [ο 0,η x,η s] M=match AM Y B x s with
  |r7=>.ok (η r) M
  |none=>bP C.rd M:=by
 rw[B7 acU P q (q=match AM Y B x s with | r7=>.ok (η r) M | none=>bP C.rd M) (CR M Θ (dP Nr))];rw[cW e1 (mu [aQ,aZ,fm,none,none] amv) (L! (atP s) M ?_)]
 ·rw[RD eF az];rw[ag,e1,ag,Wt h.y3 k (jC s),ux];simp
 ·rw[S! r hr hk]
  rw[cV hp (aO (AM Y B x s) r) (by rw[dO AM hr]) (xY (η r) M (p7 (eX (k6 hp))))];rw[az,e1,ag,aN];rw[agM ag (Wu h.y3 k (jC s) (by rw[ux,hr];rfl))]
 ·rw[kB hg (bO (Ic s)) pW hp (AM Y B x s=gz (B.falls.find? λq=>ť q.1 s&&(W8 q.2.gh||lg)).map) (by rw[dO AM hg]) (dP Nr)];rw[gX hi (axe h.y4 (mu [aQ,aZ,fm,none,none] aee)) a0n hi]
  refine TN h.y4 hi ?_;rw[iA hz (rU (abC 4 .ij) 4 .ij Hy) aCA aFb ((abC 4 .ij)[0]? = Er Hj) Qd aRz (Qp q ((abC 4 .ij)[q.2.ob]? = aiD (uO q.2))) (λq hm=>xR (by rw[HN (h.qi q hm).1]) (h.qi q hm).2) aEZ ((abC 4 .ij).set 4 (.aj Hy)=M) (NZ h.y4)];generalize abC 4 .ij=aa at hi hz aFb aRz aEZ;refine sH aQU (kG (∃y z,ρ=[aQ,aZ,fm,y,z]/\M'=aa/\arT (λq=>ť q.1 s&&(W8 q.2.gh||lg)))) B.falls _ _ hi hz (CV none none rfl) ?_ ?_
  ·rintro pre q post hq ρ M' ⟨y,z,rfl,rfl,i7⟩;rw[CE _]
   rw[bM hm (q∈B.falls) (by rw[fk hq]) hr (q.1<Y.rs.length) (fq _ (j4 q hm))];rw[cH aeO (aRz q hm) e2 (hs _ q.1 aFb hr)]
   rw[cW e3 (hb _ aFb) (v8 (ť q.1 s&&(W8 q.2.gh||lg)) M')]
   ·rw[bM e4 (bb (tB (ax gs [ao,bA]) aD) [aQ,aZ,fm,su,jx q.2.ob] M'=.ok (ť q.1 s) M') (by
     rw[eF,az,bY];simp only[aP,bB,aN,bf,a!,ag,e2,sI];by_cases sG:Lm q.1=s
     ·simp[sG]
     ·have aEL:¬(aU (Lm q.1)=aU s):=dF (sG agS);simp[sG,aEL]) e5 (bb (tB (ah1 C.fa bH) aA) [aQ,aZ,fm,su,jx q.2.ob] M'=.ok (W8 q.2.gh) M') (by
     have e6:lq C.fa "near" bH [aQ,aZ,fm,su,jx q.2.ob] M'=.ok (eQ q.2.gh) M':=by
      rw[dO lq aN];rw[tU];rw[Lj ag (J0 aeO)];rw[cU aKK]
     rw[eF,az,e6,ag,aN];rw[tU];rw[ag];cases q.2.gh with
     |none=>rw[I6 (eQ none) .ai,akG p TS (lZ _)];rfl
     |some y=>rw[I6 (eQ Cm) (η y),sI];rw[xx sG y x sG])]
    show mm _ _ [aQ,aZ,fm,su,jx q.2.ob] M'=_;simp only[ll,ZF,e4,e5,ag];rw[PV (Lm q.1=s)]
    ·rw[Xh (q.2.gh=g7)]
     ·simp[h1,h2]
     ·simp[h1,h2,e3,gH]
    ·simp[h1]
   ·refine p6 (η q.1) M' rfl (aeb ⟨hz,p7 (eX ?_)⟩);rw[aEZ,hp,hq,List.find?_append,i7,List.find?_cons,hk];rfl
   ·rw[vX (Ar hz (CV _ _ ?_))];rw[List.find?_append,i7,List.find?_cons,hk];rfl
  ·rw[L6 M' y z rfl rfl i7];rw[fF hz fj];have e3:=a4b (M:=M) (y:=aQ) (z:=y) (w:=z) hx hsm;rw[aEZ];rw[B9 j7 e3];refine dq ?_;rw[hp,i7];rfl
universe zE
universe Sb
universe zE
section
namespace Sb
open PySem L2
section
variable {C:eu}{Y:eD}{e:eH}{o:cR}{M:ba}{B:cF}{ρ:aY}{t:TB}
def a2n bk gW d9(h:sD M n (x::xs)):aeA (ο n) [η 0] M=.ok x (S? n ς xs):=by
 rw[pU aeA];rw[yc lI h]
 have e:aO (A0 (cC (x::xs)) 0) 0:=by unfold A0;simp
 rw[g6 e];rw[g6 a!];rw[cU aDI]
def aZ3 bk gW d9 apg(hl:ajw lim):xI (ο n) [η 0,x] M=.ok .ai (q3 n (x::xs)):=by
 unfold xI lI;rw[r3 h aui]
def aSf{f:yS}fM zc aoW bk afX(hn:M[n]? = vM ys)(ha:ve=.ok xs M):n8 f d ds ρ M=f (ο n) xs M:=by
 rw[iT n8 hd ag]
 have:Ă (ο n) ys:=by unfold NS;simp only[hn]
 rw[g6 this];rw[ha,ag]
def adx fW rL{a:fU}{gc:D1}(h:Jq)aoM(ha:Î (s::a))(hl:Xf s.1)(jf:Ld)
  (hu:∀M B,Jq->Xf s.1->u9 (gc [ο 0,b9 [s]] M=.ok .ai M') (e7 C Y g7 o M' (agk B [s])) (Ca/\xh/\∀i,i≠1->M'[i]? = M[i]?)):
  u9 (av6 C.tr gc [ο 0,ku] M=.ok .ai M') (e7 C Y g7 o M' (SN B (LJ s.1))) (Bw M' (aj9 s a)/\Ca/\xh):=by
 rw[oM av6 P q (u9 (q=.ok .ai M') (e7 C Y g7 o M' (SN B (LJ s.1))) (Bw M' (aj9 s a)/\Ca/\xh))]
 rw[cH e1 (S2 ρ [aQ,f6,none] d aA T.mt amN) hma T.ma];rw[ha,b6]at hma;refine nF (bw s) Yk
 ·rw[au (akq e1 hma [η 0] rfl) (a2n hma)]
 rw[gn];have h1:=h.own (v:=ς au0) (ay (ay T.oa))
 rw[iA k1 (Ek Yk = El) (xS T.oa T.ot T.mt) k2 (Ej Yk = G5) (xS T.oa T.os T.ms) k3 (akj Yk au0) (get_set T.ma) f1 (Fi Yk) (tS (by rw[tY T.oa]))];have l1:ahB Yk:=List.length_set;generalize Yk=aa at h1 k1 k2 k3 f1 l1;obtain⟨M2,u1,u2,u3,u4,aRY⟩:=hu aa B h1 hl
 refine CY .ai M2 ?_
 ·have e2:Wl [aD] [aQ,f6,lP] aa=.ok (b9 [s]) aa:=by
   unfold cb;simp only[aP,bB,aN,bf,a!,ag];rfl
  rw[bY];simp only[aP,bB,aN,bf,a!,ag,e2];exact u1
 rw[gv j1 (Ek M2 = El) (aaW _ (by rw[HN T.ot]) k1) j2 (Ej M2 = G5) (aaW _ (by rw[HN T.os]) k2) a7v (akj M2 au0) (aaW _ (by rw[HN T.oa]) k3)]
 rw[cW e3 (S2 ρ [aQ,f6,lP] d aA j1 Tz) (E_ .ai (JJ t.so ς (bw s::ø)) (p8 ⟨_,rfl,?_,IV ?_ ?_ ?_,ag0 u3 (tS (by rw[tY T.os])),by rw[List.length_set,u4,l1]⟩))]
 ·rw[au (akq e3 j2 [η 0,bw s] rfl) (aZ3 j2 (by rw[nJ (Lp jf)]))]
 ·exact u2.own (ay (Ω T.os))
 ·exact xS T.os T.ot j1
 ·exact get_set j2
 ·exact xS T.os T.oa a7v
def aWa{κ α:Type} [BL] afz(h:bO (cG d k)):ig d k=d:=by
 rw[zY ig (List.filter_eq_self.mpr λq hq=>decide_eq_true (cJ e))];have:k∈qS:=U4 q hq e;rw[mem_keys,h]at this;cases this
def axf gC{gf dk dx:bz}bk{en:ak5 α}{d:Bv α}ee{z:ak}aN7(hn:Ww M n .aj en d)(hk:Iz M=.ok (η k) M)(hx:dx ρ M=.ok z M):
  ∃v,aev gf dk dx ρ M=.ok v (kC n .aj (zz en (ig d k))):=by
 unfold aev;rw[vU ho ag (o! hn)];rw[hk,ag,hx,ag,o! hn];rw[r3 jM ux];cases e:cG d k with
 |none=>
  rw[fF z ?_];rw[aWa e,axd hn];rfl
 |some v=>rw[ie (by rw[cU amg])]
abbrev ayd kh(b_:D1):Prop:=∀gI DY oF wW mh(a:fU),Jq->Bw M t->Î (s::a)->Xf s.1->Ld →
 u9 (b_ [ο 0,ku] M=.ok .ai M') (e7 C Y g7 o M' (SN B (LJ s.1))) (Bw M' (aj9 s a)/\Ca/\xh)
def Nw bk:Dw "ahead" (ο n) FP=agU t.tr n:=cI
def acQ fW fz rL uY{gs bQ b_:D1}(h:Jq)aoM KX(fJ:bN=s::w)(jN:XM)(hl:Xf s.1)(jf:Ld)
  aOi
  (hw:∀M' ew,M'[0]? = Er Hj->lM->bQ [ο 0,η r] M'=.ok kW M')azB:
  ñ (lj C.tr C.aM gs bQ b_ [ο 0,ku,η r] M=.ok .ai M') (e7 C Y g7 (MP x) M' { B with greens:=Wy,falls:=Ac,locks:=LJ s.1} ∧
   NG (MP x) M' (as4 s w)/\I5 (MP x)):=by
 rw[oM lj P q (ñ (q=.ok .ai M') (e7 C Y g7 (MP x) M' { B with greens:=Wy,falls:=Ac,locks:=LJ s.1} ∧
   NG (MP x) M' (as4 s w)/\I5 (MP x)))];rw[Vl e1 (mu [aQ,f6,bS] amv) v1 p1 (axf (dx:=dC .ai) (z:=.ai) e1 h.y3 (k:=bZ) (dk:=ax gs [ao,aD]) (aK (hs M r h.y0 hr)) rfl)];rw[cH h1 (h.put3 Wy) T1 (asP i 3 v (.aj (zz eI Wy)) (S6 3))];rw[kB f1 (Fi (abO 3 .aj eI)) (tS (by rw[EN 3])) l1 (ahB (abO 3 .aj eI)) List.length_set (CY v1 _ p1)]
 generalize abO 3 .aj eI=aa at h1 T1 f1 l1;rw[Vl e2 (R! [aQ,f6,bS] d aee) v2 p2 (axf (dx:=dC .ai) (z:=.ai) e2 h1.y4 (k:=r) (dk:=aD) rfl rfl)];rw[cH h2 (h1.aLd r) T2 (T1.set (i:=4) (v:=.aj (X_ Ac)) (S6 4) nofun nofun nofun)];rw[kB f2 (Fi (V7 4 .aj JW Ac)) (ahG (by rw[EN 4])) l2 (ahB (V7 4 .aj JW Ac)) (kn List.length_set l1) (CY v2 _ p2)]
 generalize V7 4 .aj JW Ac=M2 at h2 T2 f2 l2;rw[cH h3 (h2.push (ς ((bN).map bw)) (pQ x)) qq (T2.push (ς ((bN).map bw)) (pQ x))];rw[gv f3 (gL o M2 (j8 o M2.length (pQ x)) (M2++Sa (bN).map)) gL.push k3 (sD (M2++Sa (bN).map) M2.length ((bN).map bw)) Θ e3 (ax (AE true) [ax bQ [ao,aD]] [aQ,f6,bS] M2=.ok (ο M2.length) (M2++Sa (bN).map)) (by
  rw[bY,aP,bY];simp only[aP,bB,aN,bf,a!,ag,hw M2 r h2.y0 hr];rw[yc AE pv];exact ml (by rw[LX jN]))]
 rw[←l2];rw[Et (eK (zr (ο M2.length) _ t.ob FP auu e3 rfl qq.mt (by rw[ia (3<1000)]) Nw fj)) h4 (h3.own (v:=uf auu) (Ω qq.ot))]
 have A?:NG (j8 o M2.length (pQ x)) ((M2++Sa (bN).map).set t.ob (uf auu)) (ar7 bN M2.length):=
  ⟨qq.ot,qq.os,JX,get_set qq.mt,xS qq.ot qq.os qq.ms,xS qq.ot JX k3⟩
 have f4:NJ (j8 o M2.length (pQ x)) ((M2++Sa (bN).map).set t.ob (uf auu)):=eo (f2.trans f3) (tS (by rw[tY qq.ot]));obtain⟨l8,c1,c2,c3,c4,a6u⟩:=hc x _ _ _ (ar7 bN M2.length) s w h4 A? fJ hl jf;exact uq .ai l8 (aK c1) (p8 (PE l8 c2 c3 (f4.trans c4)))
universe zE
universe Sb
universe zE
section
namespace Sb
open PySem L2
section
variable {C:eu}{Y:eD}{e:eH}{o:cR}{M:ba}{B:cF}{ρ:aY}{t:TB}{W:bC}{sN:QV}{Dv:mq}
def aIf azj aaC(hp:aO (AM Y B x s) r):w!/\bZ=s:=by
 unfold AM at hp;cases hg:Ic s with
 |some r'=>
  rw[hg]at hp;cases hp;have:=(at1 r).mp hg;rw[b4 (Ω this.1) this.2]
 |none=>
  rw[hg]at hp;rw[UY q hq rfl hp];rw[k9 aCq aqb];rw[aAE h1];rw[b4 (ay (by rw[ş (j4 q h2)])) h1.1]
def Fm(I:agh W)G0 aaC{r p:Nat}GZ(hp:p∈we Y.rs r):Xf p:=by
 rw[gX h1 (PI h) (S.locks p (R.lt r (mK h).1 p hp)) h1];cases h2:K_ with
 |none=>rw[h2]at h1;cases h1
 |some _=>rfl
def Zs.afo aaC gI:c8=(nV).map (·.tr):=by
 rw[S.trains,Zk];rfl
def Zs.i_ aaC(I:agh W):ajx:=by
 have:=I.i_;rwa[S.trains,amb]at this
abbrev t0 dh:TB:=⟨BQ [] [],n,n+1,n+2⟩
def acY:mr C.tr [e_] (M++[uf []])=.ok .ai (M++CB::[ς [],ς []]):=by
 rw[oM mr P q (q=.ok .ai (M++CB::[ς [],ς []]))]
 rw[v7 mk (∀(G:ba)(fs:r9),cb true [] [gR] (M++uf fs::G)=.ok (ο (pK (G.length+1))) (M++uf fs::(G++[ς []]))) (λG fs=>by
  rw[jj cb bB ag (ml a_)];simp) (Æ s2 n9 G [] G' [ς []] (ο jV) [("steps",ο jV)] (mk [] []) (by rw[ia (0<1000)]) cI fj)];rw[M3 (eK (Æ s2 n9 G [ς []] G' [ς [],ς []] (ο (pK 2)) [("steps",ο jV),("ahead",ο (pK 2))] (mk [ς []] _) (by rw[ia (1<1000)]) cI fj)) (Æ s2 n9 G [ς [],ς []] G' [ς [],ς []] (qJ .ah) (lr (t0 M.length)) rfl (by rw[ia (2<1000)]) cI QE)]
abbrev aeW(o:cR)dh gI:cR:=j8 (j8 (j8 o n (Wi x)) (n+1) (vA x)) (n+2) (pQ x)
def e7.a5G pH gI:e7 C Y g7 (asF o x) (M++CB::[ς [],ς []]) B/\NG (asF o x) (M++CB::[ς [],ς []]) (t0 M.length) ∧
  NJ (asF o x) (M++CB::[ς [],ς []]):=by
 have e:M++CB::[ς [],ς []]=((M++[CB])++[ς []])++[ς []]:=Θ
 rw[k9 (h.push CB (Wi x)) (h1.push (ς []) (vA x))];rw[pM h3 (h2.push (ς []) (pQ x)) l1 (cC (M++[Nf])=jV) Θ l2 (cC ((M++[Nf])++IL)=pK 2) Θ]
 rw[l1]at h2 h3;rw[l2]at h3;rw[e];rw[d_ (h3.but x) ⟨?_,?_,JX,aK t0,aK t0,aK t0⟩ ?_]
 ·show aeW o M.length x M.length=_;rw[jj aeW (NY aB) (NY aB) JX]
 ·show aeW o M.length x jV=_;rw[iT aeW (NY aB) JX]
 ·rw[gv f1 (NJ (abW x) (M++[Nf])) gL.push f2 (gL (abW x) (M++[Nf]) (j8 (abW x) jV (vA x)) ((M++[Nf])++IL)) (by
   rw[M6 (gL.push (o:=abW x) (M:=M++[Nf]) (v:=fu.lst []) (g:=vA x)) l1]) f3 (gL (j8 (abW x) jV (vA x)) ((M++[Nf])++IL) (asF o x) (((M++[Nf])++IL)++IL)) (by
   rw[M6 (gL.push (o:=j8 (abW x) jV (vA x)) (M:=(M++[Nf])++IL) (v:=fu.lst []) (g:=pQ x)) l2])]
  exact ag0 f2 f3
universe zE
universe Sb
universe zE
end
mutual
section
namespace Sb
open PySem L2
inductive qn where
 |ok
 |none
 |held
 |red
abbrev Z7 kh DY azx(P:cS cF):Prop:=match k with
 |.ok=>∃M' o' B',res=.ok .ai M'/\H! o' M' B'/\I5 o'/\P B'
 |cT=>res=oY
 |.held=>res=bP C.he M
 |.red=>res=bP C.rd M
def aIK gC{l:qy}{p:R0}{a:α}(ha:a∈l)(hp:ajY a)(hu:G9 l (ajY b->b=a)):aO atE a:=by
 cases e:atE with
 |none=>rw[kA hp (aX (List.find?_eq_none.mp e a ha))]
 |some b=>rw[hu b (List.mem_of_find?_eq_some e) (List.find?_some e)]
section
variable {C:eu}{Y:eD}{e:eH}{o:cR}{M:ba}{B:cF}{ρ:aY}{t:TB}{W:bC}{sN:QV}
abbrev AP ki gI qv ew:Bool:=gS bZ s&&(match HG r with
 |some fl=>fl.bd||iR x fl.ns
 |none=>true)
abbrev sP ki gI qv:fO:=(akD).find? (AP Y W x s)
def aKe fW Pq G0 azV:sP Y W x s=AM Y B x s:=by
 rw[iA GF (∀r,aiC Y W x s r->bZ=s) (λr h=>by
  rw[nN AP];rw[aAE h];exact h.1) a4c (∀r∈akD,w!) (λr h=>List.mem_append.mp h) wI (∀r∈akD,∀r',Nt->Lm r'=s->aiC Y W x s r->r=r') (λr hr r' h' e hm=>I.one R (a4c r hr) h' (eo (GF r hm) e.symm)) A9 (Qp q (HG q.1=aT (Kg Y.rs (As Y) q.1 q.2))) (vY (by
  have hn:gE rW:=by rw[auB]
  rw[S.falls,Zk,z! hn];rfl))]
 unfold AM;cases hg:Ic s with
 |some r=>
  rw[cW h1 ((at1 r).mp hg) (aIK (aPM (Ω h1.1)) ?_ λb hb hm=>wI b hb r (Ω h1.1) h1.2 hm)]
  have h2:bO (HG r):=by
   cases e2:HG r with
   |none=>rfl
   |some _=>rw[n0 ((ahM _).mpr (by rw[cU e2])) (I.yX r h1.1)]
  rw[dO AP h2];simp[h1.2]
 |none=>
  dsimp only;cases hf:B.falls.find? (λq=>ť q.1 s&&(W8 q.2.gh||lg)) with
  |some q=>
   rw[k9 (List.find?_some hf) aO7];rw[aAE h1]
   rw[cV hm (q.1∈mT) (by rw[ş (j4 q h2)]) (aIK (a:=q.1) (aPM (ay hm)) ?_ λb hb hm'=>wI b hb q.1 (ay hm) h1.1 hm')];rw[dO AP (A9 q h2)];simp only[Kg,h1.1,decide_true,Bool.true_and];rcases Bool.or_eq_true_iff.mp h1.2 with h3 | h3
   ·rw[H6 h3 h3];rw[fk h3]
   ·rw[cU h3]
  |none=>
   show aDA _;rw[Et (List.find?_eq_none.mpr (cM r hr hm)) e1 (GF r hm)];rcases List.mem_append.mp hr with hr | hr
   ·rw[vz ((at1 r).mpr ⟨hr,e1⟩) hg];cases this
   ·rw[S.amd]at hr;rw[rZ q hq hr];have h4:=List.find?_eq_none.mp hf q hq;rw[BA AP hm (A9 q hq) hm];simp only[Kg,e1,decide_true,Bool.true_and,Bool.or_eq_true,decide_eq_true_eq]at hm;simp only[e1,decide_true,Bool.true_and,Bool.or_eq_true,decide_eq_true_eq,not_or]at h4;rcases hm with hm | hm
    ·exact h4.2 hm
    ·cases hnr:q.2.gh with
     |none=>rw[nG hnr hm hm]
     |some y=>
      rw[nG hnr hm hm];exact h4.1 (kn hnr hm)
abbrev ayU kh(lC:D1):Prop:=∀(e:eH)DY UO qv,Yr->w_->u!->(YA r rW)->lC [ο 0,η x,η s] M=match AM Y B x s with
 |r7=>.ok (η r) M
 |none=>bP C.rd M
abbrev aeX kh(dQ:D1):Prop:=∀gI DY oF wW ew mh lK,Jq->Bw M t->lM->bN=s::w->XM->Xf s.1->Ld →
 ñ (dQ [ο 0,ku,η r] M=.ok .ai M') (e7 C Y g7 (MP x) M' { B with greens:=Wy,falls:=Ac,locks:=LJ s.1} ∧
   NG (MP x) M' (as4 s w)/\I5 (MP x))
def aIL azV:YA r rW:=qN (mK (ay (by rw[ş hr]))).1
def aKf G0 aaj à:XM:=by
 have:=Y! (aaU r) (R.lt r hr);rw[BA we this eP this];omega
def a3T{x j:Int}aoN(hj:oD j):n6 [none,M!,none] [y,aZ,xt,z,w] M=.ok () M:=by
 have fR:=JZ hj.1 hj.2;simp only[n6,aN,bf,a!,ag,fR,if_true]
def a3U{x j:Int}aoN rI:n6 [none,nM,none] [y,aZ,xt,z,w] M=.ok () M:=by
 have fR:=JZ hx.1 hx.2;simp only[n6,aN,bf,a!,ag,fR,if_true]
abbrev F? ki(x i:Int):qn:=ajy (Lx i) (ajy (As Y i.toNat) (if nI c8 then .held else match sP Y W x i.toNat with
 |vB=>.ok
 |none=>.red))
abbrev Oa ki(x i:Int):bC:=Ox Y.rs W ((sP Y W x i.toNat).getD 0) x []
def ad3{x i:Int}{alh bG lC NQ dQ:D1}pH rI zd G0 azV aaj(aS:agg)
  (hk:alh [ο 0,η i] M=Ŕ i .ok .ai M)(hb:xZ s (u!->bG [ο 0,η s] M=.ok (.ah lg) M))(hr:ayU C Y lC)
  (lH:∀M:ba,NQ [e_] (M++[uf []])=.ok .ai (M++CB::[ς [],ς []]))(hp:aeX C Y dQ):
  Z7 C Y o M (awu C.he C.dN C.tr C.aM alh bG lC NQ dQ [ο 0,η x,η i] M) (F? Y W x i) λB'=>Zs Y.ps.length Y.rs (Au Y.ps) (As Y) (Oa Y W x i) B':=by
 rw[oM awu P q (Z7 C Y o M q (F? Y W x i) λB'=>Zs Y.ps.length Y.rs (Au Y.ps) (As Y) (Oa Y W x i) B')];rw[U9 F? ho (Lx i)]
 ·rw[ho]at hk⊢
  rw[zJ s hs ho];rw[ap5 ek];rw[gp (L3 .ai M (aK hk) Nr) (ur (! lg) M (f_ (hb s hs) gH) (cJ cE) (cJ cE))]
  ·have cE:dj lg:=aX cE
   have e3:=a3T (M:=M) (x:=x) (y:=aQ) (z:=none) (w:=none) hi
   rw[B9 j7 e3]
   refine lu (dq ?_)
   rw[cU cE]
  ·have cE:aL lg:=aX cE
   rw[cE,ek];rw[vX Nr];rw[cW e1 (mu [aQ,aZ,fm,none,none] adP) (ur (nI nV) M ?_ (cJ lJ) (cJ lJ))]
   ·rw[RD eF az];rw[ag,e1,ag,Wt h.y5 k xy,yy];simp
   ·have e3:=a3U (M:=M) (j:=aU s) (y:=aQ) (z:=none) (w:=none) hx
    rw[B9 j7 e3]
    refine lu (dq ?_)
    have:Aa c8:=by rw[S.afo];simpa using lJ
    rw[auz]
   ·rw[bM A_ (bO nV) (aX lJ) aE5 (bO c8) (by rw[S.afo,A_];rfl)]
    rw[aE5];rw[jF Θ];rw[lS GH (aKe (x:=x) (s:=s) R I S) e2 (hr none o M B x s h hx hs (aIL I S)) Ft];cases s4:AM Y B x s with
    |none=>
     rw[s4]at e2 GH;rw[iU GH (eK (anH C.rd M (aK e2) (lu (dq rfl))))]
    |some r=>
     rw[s4]at e2 GH;rw[GH];rw[arM A8 GF (aIf S s4) s5 (mK A8).1]
     rw[ŵ w fJ (∃s0 w,bN=s0::w) (by
      cases dS:bN with
      |nil=>rw[kA dS (aS r s5)]
      |cons a b=>exact jc a b)]
     rw[cW uN (Fm I R S A8 (p:=s0.1) (by rw[dO we fJ];simp)) (qK (η r) (aK e2))];rw[gn];rw[ġ h1 T1 f1 (h.a5G x) em (uk C.tr NQ [] [aQ,aZ,WL s,WL r,none] M=.ok e_ (M++CB::[ς [],ς []])) (by
      unfold uk;rw[bB,ag,lH,ag]) (z9 e_ _ em)];rw[gn];generalize M++CB::[ς [],ς []]=aa at h1 T1 f1;obtain⟨M2,p1,p2,p3,p4⟩:=hp x _ _ _ (t0 M.length) r s0 w h1 T1 s5 fJ (aKf R A2 s5) uN (by rw[ia (lO 0)])
     refine CY .ai M2 (by show ax dQ [ao,bH,bA] _ aa=_;rw[vm p1]);rw[cH fS (S.i_ I) h5 (p2.a5S (x:=x) fS p3)];rw[nE e5 (p2.fld (ρ:=[aQ,aZ,WL s,WL r,gR]) (d:=ao) rfl adP) hlen (B.trains.length≤16) (by
      rw[vz I.aEk S.trains];rw[BA iH this eP this];omega) (X0 e_ M2 (ο 5) M2 (η x) M2 _ rfl e5 (Rc p2.y5 xy (by rw[ah5 axb hlen])) (p8 ⟨_,_,aeU Y.rs B r x ⟨BQ (s0::[]) w,M.length,jV,aa.length⟩,rfl,?_,ag0 p4 (tS (by rw[tY (p2.lo 5 a_)])),?_⟩))]
     ·have:j_ X9 xy e_=cc FW (Rl ⟨BQ (s0::[]) w,M.length,jV,aa.length⟩):=axa FW x ⟨BQ (s0::[]) w,M.length,jV,aa.length⟩ B.trains;show H! _ (JJ 5 .aj (j_ X9 xy e_)) _;rw[this];rw[jA aeU fJ h5]
     ·rw[jj Oa Int.toNat_natCast GH Option.getD_some];exact aIG R I S A8 (by rw[cU fJ])
 ·have ho:dj (Lx i):=aX ho
  rw[tP ho hk (eK (adn C.dN M (aK hk) (lu (dq rfl))))]
universe zE
universe Sb
universe zE
section
namespace Sb
open PySem L2
section
variable {C:eu}{Y:eD}{e:eH}{o:cR}{M:ba}{B:cF}{ρ:aY}{t:TB}{W:bC}{sN:QV}
noncomputable abbrev alC ki oF:Prop:=aEH (As Y)
noncomputable abbrev aGy ki:Prop:=Inv Y.ps.length Y.rs aAl W
abbrev aHw kh c7:Prop:=∀DY UO,u0->w_->g [ο 0,η x] M=match nV with
 |eG=>.ok ku M
 |none=>oY
def e7.gone fW(h:Jq)(hx:x∉aPc):u0:=
 ⟨h.y0,h.y1,h.y2,h.y3,h.y4,h.y5,h.lo,h.hi,h.qi,λq hq _=>QG hq (dF (hx (U4 q hq (Option.some.inj e).symm)))⟩
def a3V:Dw "is_out" (fB .ah) FP=agU aka t.sF:=cI
def aLf fW aoN rI:n6 [none,nM,none] [y,aZ,z,w] M=.ok () M:=by
 have fR:=JZ hx.1 hx.2;simp only[n6,aN,bf,a!,ag,fR,if_true]
def a3W fW{y z:pJ}rI:n6 [none,nM,none] [y,aZ,z] M=.ok () M:=by
 have fR:=JZ hx.1 hx.2;simp only[n6,aN,bf,a!,ag,fR,if_true]
abbrev ry ki gI:qn:=match c8 with
 |none=>cT
 |eG=>Vv t.out red (Vv (aju []) ok (match abn with
  |none=>.ok
  |vB=>match kI Y g4 with
   |none=>.red
   |some s=>match sP Y W x s with
    |vB=>.ok
    |none=>.red))
abbrev rz ki gI:bC:=match c8 with
 |none=>W
 |eG=>if aju [] then T6 W x t else match abn with
  |none=>DE W x (auy [])
  |vB=>Ox Y.rs W (((kI Y g4).bind (sP Y W x)).getD 0) x t.steps
def aVI rL ee(h:JG s k):HY k:=by
 rw[nN kI];split at h
 ·split at h
  ·rename_i b _ hm;cases h;exact aO1
  ·cases h
 ·cases h
def ZZ fW{gt b_ bG dQ lC ga:D1}pH rI G0 GO aaj(aS:agg)
  azC azB aOj(hp:aeX C Y dQ)(hr:ayU C Y lC)(hr0:lC [ο 0,η x,.ai] M=bP C.rd M)
  (ha:∀t:TB,Ek M = El->Ej M = G5->X?->ga [ο 0,ku] M=.ok (bu (kI Y (cg t.tr))) M):
  XS C Y o M (anh C.rd C.tr C.aM gt b_ bG dQ lC ga [ο 0,η x] M) (ry Y W x) (rz Y W x):=by
 rw[oM anh P q (XS C Y o M q (ry Y W x) (rz Y W x))];rw[cH e0 (ht o M B x h hx) hg (S.afo x)];unfold ry rz;cases rA:nV with
 |none=>
  rw[rA]at e0 hg;rw[au hg (eK (anH C.dN M (aK e0) (lu (dq rfl))))]
 |some t=>
  rw[rA]at e0 hg;have hg:aO c8 t.tr:=hg
  rw[g6 hg];rw[cH T (Vn _ (wj rA)) TI (Vk t.tr hg)];rw[cV jf Ld (PJ (I.afn hg) A2) (qK ku (aK e0))];rw[Vo e1 (R? [aQ,aZ,f6,none] d Tz) (qL (bw (cg t.tr)))]
  ·rw[az,e1,ag,bo,ag];exact tm (i:=0) T.ms (ZT TI.ne)
  rw[agL e2 (R? [aQ,aZ,f6,Hf (cg t.tr)] d Ta) e3 (R? [aQ,aZ,f6,Hf (cg t.tr)] d amN) (eK (L! t.tr.out M (by rw[dn,e2,ag];rfl)))]
  ·have e4:=aLf (M:=M) (y:=aQ) (z:=f6) (w:=Hf (cg t.tr)) hx;rw[B9 j7 e4];refine lu (dq ?_);rw[cU hk]
  ·rw[hk,lR];rw[gp Ft (IS aMg M)]
   ·rw[dn,e3,ag];unfold gH;simp only[T.ma];cases t.tr.ahead<;>rfl
   ·have Ue:t.tr.ahead≠[]:=λdS=>by rw[dS]at cE;cases cE
    rw[ait Ue Ue]
    rw[ŵ w fJ (∃s0 w,Î (s0::w)) (by
     cases dS:t.tr.ahead with
     |nil=>rw[kA dS Ue]
     |cons a b=>exact jc a b)]
    have uN:Xf s0.1:=by
     obtain⟨r,h1⟩:=TI.al (s:=s0) (by rw[fk fJ]);rw[gX aE9 (I.lt h1) (S.locks _ aE9) h1];cases h2:Ln s0.1 with
     |none=>rw[h2]at h1;cases h1
     |some _=>rfl
    obtain⟨M2,c1,c2,c3,c4,a6u⟩:=hc x o M B t s0 w (h.but x) T fJ uN jf
    refine uq .ai M2 (aK c1) (p8 ⟨M2,o,aLb B x s0.1 (aj9 s0 w),rfl,?_,c4,?_⟩)
    ·exact c2.seen (S.i_ I) rA c3 rfl
    ·rw[M6 (aYr I S (x:=x) (t:=t.tr) (t':=aj9 s0 w) (by rw[fJ,hk];rfl)) fJ]
   ·have Ue:Î []:=by
     cases dS:t.tr.ahead with
     |nil=>rfl
     |cons a b=>rw[dS]at cE;cases cE
    rw[rO dS (dS Ue),rO dS (dS Ue)];rw[cW e5 (mu [aQ,aZ,f6,Hf (cg t.tr)] F8) (ur (Ae (cg t.tr) (cg t.tr)).isNone M ?_ (cJ lJ) (cJ lJ))]
    ·rw[bM aFc (Ro (cg t.tr) 0=.ok (η (cg t.tr).1) M) Og i2 (Ro (cg t.tr) 2=.ok (η (cg t.tr).2.2) M) ZS];rw[dn,bY,aP,e5,ag];simp only[aP,bB,az,aN,bo,bf,a!,ag,aFc,i2,hb];rfl
    ·have lJ:bO (Ae (cg t.tr) (cg t.tr)):=aX lJ
     rw[iU lJ (zr (fB .ah) M t.ob FP (agU aka t.sF) rfl rfl T.mt (by rw[ia (3<1000)]) a3V (p8 ⟨_,o,aEj B x (SM aka t.sF),rfl,?_,tS (by rw[tY T.ot]),?_⟩))]
     ·refine((h.but x).own (Ω T.ot)).seen (S.i_ I) rA (t':=SM aka t.sF) (IV (get_set T.mt) (xS T.ot T.os T.ms) (xS T.ot T.oa T.ma)) rfl
     ·have:=aJ6 S (x:=x) (t:=SM aka t.sF);rw[tP Ue this this]
    ·rw[aiQ b lJ b (LV (cg t.tr) (cg t.tr).2 b) (by
      cases dS:Ae (cg t.tr) (cg t.tr) with
      |none=>rw[dS]at lJ;cases lJ
      |some b=>exact kS b)]
     rw[g6 lJ];have ea:=ha t T.mt T.ms TI.ne;cases Y0:kI Y (cg t.tr) with
     |none=>
      rw[zS Y0 ea (adn C.rd M ?_ (dq rfl))];simp[ea,bu,hr0]
     |some s=>
      rw[Y0]at ea;rw[HS a6H (aVI Y0) GH (aKe (x:=x) (s:=s) R I S) uu (hr none o M B x s h hx a6H (aIL I S))];rw[g6 Option.bind_some];cases s4:AM Y B x s with
      |none=>
       rw[s4]at uu GH;rw[iU GH (adn C.rd M ?_ (dq rfl))];simp[ea,bu,uu]
      |some r=>
       rw[s4]at uu GH;rw[GH,Option.getD_some];rw[arM A8 GF (aIf S s4) s5 (mK A8).1]
       rw[ŵ w fJ (∃s0 w,bN=s0::w) (by
        cases dS:bN with
        |nil=>rw[kA dS (aS r s5)]
        |cons a b=>exact jc a b)]
       have uN:=Fm I R S A8 (p:=s0.1) (by rw[dO we fJ];simp);obtain⟨M2,p1,p2,p3,p4⟩:=hp x _ _ _ t r s0 w (h.but x) T s5 fJ (aKf R A2 s5) uN jf
       refine uq .ai M2 (by simp[ea,bu,uu];exact p1) (p8 ⟨M2,_,aeU Y.rs B r x (as4 s0 w),rfl,?_,p4,?_⟩)
       ·have:=p2.seen (S.i_ I) rA p3 rfl;rw[jA aeU fJ this]
       ·exact aIG R I S A8 (by rw[fJ,hk];rfl)
abbrev yJ UP:qn:=match c8 with
 |none=>cT
 |eG=>Vv (ħ 1/\atJ) held .ok
abbrev wD UP:bC:=match c8 with
 |none=>W
 |eG=>vP t.steps.length 1 (afm W x) (DE W x LY)
def aYR bk d9 apg(hn:xs≠[]):∃y,afe (ο n) [] M=.ok y (S? n ς xs.dropLast):=by
 unfold afe lI;simp only[h]
 have hl:S4 (ER 1):=by
  rw[xP (xs.length≠0) (auw (List.eq_nil_of_length_eq_zero e))]
 rw[gx SI jD]
def ael fW{gt:D1}pH rI GO azC:
  XS C Y o M (awB C.he C.tr C.aM gt [ο 0,η x] M) (yJ W x) (wD W x):=by
 rw[oM awB P q (XS C Y o M q (yJ W x) (wD W x))];rw[cH e0 (ht o M B x h hx) hg (S.afo x)];unfold yJ wD;cases rA:nV with
 |none=>
  rw[rA]at e0 hg;rw[au hg (eK (anH C.dN M (aK e0) (lu (dq rfl))))]
 |some t=>
  rw[rA]at e0 hg;have hg:aO c8 t.tr:=hg
  rw[g6 hg];rw[lS T (Vn _ (wj rA)) TI (Vk t.tr hg) (qK ku (aK e0))];rw[ļ e1 (R? [aQ,aZ,f6] d Tz) e2 (R? [aQ,aZ,f6] d Ta)]
  rw[v7 el (∀K1 uW,Ej M' = h7->e! [ο t.so] M'=.ok (η xs.length) M') (v3 M' hm (by
   unfold e!;simp only[amA,hm])) (v8 (d! (aqK 1/\dj t.tr.out)) M)]
  ·rw[ll,eF,az,bY,aP,e1,ag,bB,ag,ag,el M _ T.ms,ag,bo,ag,sI,eP];rw[PV (aqK 1)]
   ·cases h2:t.tr.out<;>simp[h1,h2,e2,gH]
   ·rw[Xn h3 (aU t.tr.steps.length=1) h1 h3]
  ·rw[cH hk aPQ e4 (a3W (M:=M) (y:=aQ) (z:=f6) hx)];rw[B9 j7 e4];refine lu (dq ?_);rw[cU HM]
  ·have hk:=aqY;rw[jF hk];obtain⟨y,py⟩:=aYR T.ms (aX TI.ne);rw[vX (eZ (CY y (S? t.so ς (ø).dropLast) ?_))]
   ·rw[au (akq e1 T.ms [] rfl) py]
   rw[←List.map_dropLast];have h1:=(h.but x).own (v:=ς apM) (ay (Ω T.os))
   have T1:Bw (q3 t.so apM) aus:=
    IV (xS T.os T.ot T.mt) (get_set T.ms) (xS T.os T.oa T.ma)
   have f1:Fi (q3 t.so apM):=tS (by rw[tY T.os]);generalize q3 t.so apM=aa at h1 T1 f1;rw[nE e5 (aR2 (t:=aus) (ρ:=[aQ,aZ,f6]) (d:=aD) T1.mt rfl Tz) hl (t.tr.steps.length≠0) (λdS=>TI.ne (List.eq_nil_of_length_eq_zero dS)) (IS (d! (aqK 1)) aa)]
   ·rw[eF,az,bY,aP,e5,ag,bB,ag,ag,el aa _ T1.ms,ag,bo,ag,sI,eP,List.length_dropLast];by_cases fR:aqK 1
    ·simp[fR]
    ·rw[Xn h8 (iX (t.tr.steps.length-1)=0) fR h8];omega
   ·rw[H6 cE cE];rw[if_pos cE];rw[cW e6 (R! [aQ,aZ,f6] d adP) (T7 (k:=xy) (y:=η x) ku e6 h1.y5 rfl rfl (by rw[yy,rA];rfl) (p8 ⟨_,o,aQt B x,rfl,?_,ahG (by rw[EN 5]),a0l S⟩))];rw[gx aGS ((h1.a37 x).gone λhm=>((ams _ _ _).mp hm).1 rfl)]
   ·have cE:=aPH;rw[Qf cE (dP (p8 ⟨aa,o,aEj B x aus,rfl,h1.seen (S.i_ I) rA T1 rfl,f1,aJ6 (t:=aus) S⟩))]
universe zE
universe Sb
universe zE
section
namespace Sb
open PySem L2
section
variable {C:eu}{Y:eD}{e:eH}{o:cR}{M:ba}{B:cF}{ρ:aY}{t:TB}{W:bC}
abbrev J? UP:qn:=match c8 with
 |none=>cT
 |eG=>Vv t.out red .ok
abbrev F_ UP:bC:=match c8 with
 |none=>W
 |eG=>aeV W x t
def adL mh:awc [bw s] M=.ok (bw QH) M:=by
 rw[lQ awc q (q=.ok (bw QH) M)];exact B? (bw QH) M (Xl bw flip dM)
def e7.a6e fW pH K2(hl:xh)(h4:rU M' 4 .aj Hy)(hm:∀i,i≠4->(∀r,o i≠Q3 r)->M'[i]? = M[i]?)
  (hf:Qp q (M'[q.2.ob]? = aiD (uO (J' x q.1 q.2)))):By M' (Hx falls (ē (J' x))):=by
 have y:∀i≤5,i≠4->M'[i]? = M[i]?:= λi hi h4=>hm i h4 λr=>by rw[tY (h.lo i hi)]
 refine⟨aky 0 h.y0,aky 1 h.y1,aky 2 h.y2,aky 3 h.y3,?_,aky 5 h.y5,h.lo,λi hi=>h.hi i (by rw[cw hl hi]),dB q hq,cM q hq he⟩
 ·show rU M' 4 .aj (X_ (ē (J' x)));rw[h4];unfold encD iH;rw[aC6];rfl
 ·rw[rZ q' jP hq];rw[b4 (h.qi q' jP).1 (hf q' jP)]
 ·rw[fG T (QG hq he) g (∀gV{g:s8}{v:fu},o i=g->(∀r,g≠Q3 r)->g≠.yard->u? M->u? M') (λhi hg hy e=>eo (hm _ (by rw[e9 (h.gt hi hy)]) (λr=>by rw[au hi (hg r)])) e)];exact IV (Ê T.ot T.mt) (Ê T.os T.ms) (Ê T.oa T.ma)
def a2o{u:FB}:Dw "near" .ai (uO u)=uO { u with gh:=none}:=cI
abbrev ax4 kh(gc:D1):Prop:=∀DY oF lK w7,u0->agf->(apz K_)->sD M a LB->a≠1 →
 u9 (gc [ο 0,ο a] M=.ok .ai M') (By M' (agk B w)) (Ca/\xh/\∀i,i≠1->M'[i]? = M[i]?)
abbrev aQV(q:Nat×FB):ak:=ο q.2.ob
def a2p(d:Bv FB):((QF JW).map λq=>q.2)=d.map aQV:=by rw[Hs encD]
def aWb fW{z:pJ}Uv pH(hn:gE rW)
  (k:∀M',By M' (Hx falls (ē (J' x)))->Ca->P (.ok .ai M')):
  Fin P (yL (TZ aip) (eO (TZ aip) (bT 3) (Fo (ah1 C.fa bA) aA (hG C.fa "near" bA (dC .ai)))) [aQ,aZ,z,none] M):=by
 rw[gX hi (a0m h.y4 (mu [aQ,aZ,z,none] aee)) a2p hi]
 refine TN h.y4 hi ?_;rw[kB hz (rU (abC 4 .ij) 4 .ij Hy) aCA aQo (Qp q (Qp q' (q.2.ob=q'.2.ob->q=q'))) (λq hq q' jP e1=>by
  have e2:q.1=q'.1:=by
   have h1:=CC;rw[e1,(h.qi q' jP).1]at h1;exact(s8.fall.inj h1).symm
  rw[k9 (z! hn) (YI hn jP)];rw[e2,h2]at h1;exact Prod.ext e2 (VQ).symm) (sH aQV (kG (∃y,ρ=[aQ,aZ,z,y]/\xh/\rU M' 4 .ij Hy/\(∀i,i≠4->(∀r,o i≠Q3 r)->M'[i]? = M[i]?)/\(Qp q (q∈pre->M'[q.2.ob]? = aiD (uO (J' x q.1 q.2)))) ∧
   Qp q (q∉pre->M'[q.2.ob]? = aiD (uO q.2)))) B.falls _ _ hi hz ⟨none,rfl,Θ,hz,λi h4 _=>o5 (dF (h4 e.symm)),λq _ hq=>Lh hq,λq hq _=>xR (by rw[HN CC]) (h.qi q hq).2⟩ ?_ ?_)]
 ·rintro pre q post hx ρ M' ⟨y,rfl,l1,z1,g1,p1,p2⟩;rw[CE _]
  rw[M4 hq (q∈B.falls) (by rw[nP]) OP (q∉pre) hm (by
   rw[hx,List.map_append,List.nodup_append]at hn;exact hn.2.2 q.1 (j4 q hm) q.1 Θ rfl)]
  rw[nE m1 (p2 q hq OP) e6 (lq C.fa "near" bA [aQ,aZ,z,jx q.2.ob] M'=.ok (eQ q.2.gh) M') (by
   rw[dO lq aN];rw[tU];rw[Lj ag (J0 m1)];rw[cU aKK]) (v8 (W8 q.2.gh) M')]
  ·show bb (tB (ah1 C.fa bA) aA) [aQ,aZ,z,jx q.2.ob] M'=_;rw[eF,az,e6,ag,aN];rw[tU];rw[ag];cases q.2.gh with
   |none=>rw[I6 (eQ none) .ai,akG p TS (lZ _)];rfl
   |some y=>rw[I6 (eQ Cm) (η y),sI];rw[xx sG y x sG]
  ·rw[H6 hk hk]
   rw[cV h4 (q.2.ob≠4) (by rw[HN CC]) (zr .ai M' q.2.ob (uO q.2) (uO { q.2 with gh:=none}) rfl rfl m1 (by rw[ia (2<1000)]) a2o (Ar ?_ ⟨_,rfl,by rw[ahf l1],?_,?_,?_,?_⟩))]
   ·exact SK h4 z1
   ·exact SK h4 z1
   ·intro i hi hr;exact ajd (hr q.1 (by rw[←e];exact CC)) (g1 i hi hr)
   ·intro q' jP hm
    by_cases dS:q'=q
    ·subst dS;rw[get_set m1];simp[J',hk]
    ·rw[au (o5 (dF (dS (aQo q hq q' jP e).symm))) (p1 q' jP (by rcases aA0 with fR | fR;exact fR;simp at fR;rw[kA fR dS]))]
   ·intro q' jP hm;have dS:q'≠q:=dF (hm IB);rw[au (o5 (dF (dS (aQo q hq q' jP e).symm))) (p2 q' jP λfR=>hm (aK fR))]
  ·rw[cW hk aqY (dP (Ar z1 ⟨_,rfl,l1,z1,g1,?_,λq' jP hm=>p2 q' jP λfR=>hm (aK fR)⟩))];intro q' jP hm
   by_cases dS:q'=q
   ·subst dS;rw[m1];simp[J',hk]
   ·exact p1 q' jP (by rcases aA0 with fR | fR;exact fR;simp at fR;rw[kA fR dS])
 ·rintro ρ' M' ⟨y,rfl,l1,z1,g1,p1,p2⟩;rw[fF z1 (p8 (k _ ?_ ?_))]
  ·refine h.a6e (by rw[ahf l1]) (get_set z1) (λi h4 hr=>ajd (h4 e.symm) (g1 i h4 hr)) (dB q hq);exact xR (by rw[HN CC]) (p1 q hq hq)
  ·rw[d_ (by rw[er List.length_set l1 fh]) (HL _ _) (cM i hi hw)]
   rw[Ų h4 (i≠4) (dF (by rw[e,S6 4]at hw;cases hw)) (ajd (h4 e.symm) (g1 i h4 λr=>by rw[tY hw]))]
def aZ4 bk:Dw "steps" (ο n) FP=lr ⟨t.tr,t.ob,n,t.sF⟩:=cI
def ZI fW{gt gc gd:D1}pH rI G0 GO aaj azC(hu:ax4 C Y gc)(hd:∀s M,gd [bw s] M=.ok (bw QH) M):
  XS C Y o M (awC C.fa C.rd C.tr C.aM gt gc gd [ο 0,η x] M) (J? W x) (F_ W x):=by
 rw[oM awC P q (XS C Y o M q (J? W x) (F_ W x))];rw[cH e0 (ht o M B x h hx) hg (S.afo x)];unfold J? F_;cases rA:nV with
 |none=>
  rw[rA]at e0 hg;rw[au hg (eK (anH C.dN M (aK e0) (lu (dq rfl))))]
 |some t=>
  rw[rA]at e0 hg;have hg:aO c8 t.tr:=hg
  rw[g6 hg];have T:Bw M t:=Vn _ (wj rA);rw[nE TI (Vk t.tr hg) jf Ld (PJ (I.afn hg) A2) (qK ku (aK e0))];rw[agL e2 (R? [aQ,aZ,f6,none] d Ta) e3 (R? [aQ,aZ,f6,none] d amN) (eK (L! t.tr.out M (by rw[dn,e2,ag];rfl)))]
  ·have e4:=aLf (M:=M) (y:=aQ) (z:=f6) (w:=none) hx;rw[B9 j7 e4];refine lu (dq ?_);rw[cU hk]
  ·rw[hk,lR];refine dP fj
   rw[gv hand (gE aqZ) (by
    by_cases dS:Î []
    ·rw[fk dS]
    ·obtain⟨r,k,hr,a7c,_⟩:=TI.eE dS
     have h1:((bN).drop k |>.map (·.1)).Nodup:=by
      rw[gx List.map_drop ((aaU r).sublist (aAL _))]
     rw[←a7c,b6,List.nodup_cons]at h1;exact h1.2) uN (aqF aqZ K_) (jb (by
    rw[rZ s0 hs0 hp];obtain⟨r,h1⟩:=TI.al hs0;rw[gX aE9 (I.lt h1) (S.locks _ aE9) h1];cases h2:Ln s0.1 with
    |none=>rw[h2]at h1;cases h1
    |some _=>rfl)) DU (t.sF≠1) (by rw[HN T.oa])]
   obtain⟨aa,u1,u2,u3,u4,aRY⟩:=hu o M B t.tr.ahead t.sF h hand uN T.ma DU
   refine CY .ai aa ?_
   ·rw[bY,aP];rw[RL];rw[aP,e3];simp only[bB,ag];exact u1
   have T1:Bw aa t:=IV (aaW _ (by rw[HN T.ot]) T.mt) (aaW _ (by rw[HN T.os]) T.ms) (aaW _ DU T.ma)
   rw[k9 (u2.but x) (h1.push (ς []) (pQ x))];have T2:=T1.push (ς []) (pQ x);rw[kB f2 (gL o aa (asS o (pQ x)) (aa++[ς []])) gL.push k2 ((aa++IL)[aa.length]? = vM []) Θ (eK (zr XR (aa++[ς []]) t.ob FP akc (by rw[jj cb bB ag (ml a_)]) rfl T2.mt (by rw[ia (3<1000)]) Nw fj))];have h3:=h2.own (v:=uf akc) (Ω T2.ot)
   have qq:NG (asS o (pQ x)) ((aa++IL).set t.ob (uf akc)) (ar7 [] aa.length):=
    ⟨T2.ot,T2.os,JX,get_set T2.mt,xS T2.ot T2.os T2.ms,xS T2.ot JX k2⟩
   have f3:NJ (asS o (pQ x)) ((aa++IL).set t.ob (uf akc)):=eo (u3.trans f2) (tS (by rw[tY T2.ot]));generalize (aa++IL).set t.ob (uf akc)=bq at h3 qq f3
   generalize aa.length=n1 at h3 qq f3;generalize j8 o n1 (pQ x)=o1 at h3 qq f3;rw[cH h4 (h3.push (ς ((x6).map bw)) (vA x)) A? (qq.push (ς ((x6).map bw)) (vA x))]
   rw[bM f4 (gL o1 bq (j8 o1 bq.length (vA x)) (bq++[ς ((x6).map bw)])) gL.push k4 (sD (bq++Sa (x6).map) bq.length ((x6).map bw)) Θ]
   rw[nE e5 (S2 ρ [aQ,aZ,f6,none] d aD qq.mt Tz) ec (mX true xB (afc (XJ C.tr)) (bT 0) oz (ax gd [ao]) [aQ,aZ,f6,none] bq=.ok (ο bq.length) (bq++[ς ((x6).map bw)])) (by
    have ei:afc (XJ C.tr) [aQ,aZ,f6,none] bq=.ok (t.tr.steps.reverse.map bw,mO t.so (ς ø)) bq:=by
     rw[iT afc e5 ag];rw[r3 qq.ms List.map_reverse]
    rw[cf (xs:=t.tr.steps.reverse) (w:=mO t.so (ς ø)) (M':=bq) bw EB (λs=>bw QH) (nZ (ρ=[y])) ei qq.ms S1 (qM s) (by rw[aAN QM])]
    ·rw[BI _ _,ml (by rw[er eP List.length_reverse QM]),List.map_map];rfl
    ·rw[MH y _ (aK hd)]) (eK (zr (ο bq.length) _ t.ob (lr (ar7 [] n1)) (lr ⟨⟨x6,[],t.tr.out⟩,t.ob,bq.length,n1⟩) ec rfl A?.mt (by rw[ia (3<1000)]) aZ4 fj))];have h5:=h4.own (v:=uf (lr ⟨⟨x6,[],t.tr.out⟩,t.ob,bq.length,n1⟩)) (Ω A?.ot)
   have aYI:NG (j8 o1 bq.length (vA x)) ((bq++Sa (x6).map).set t.ob (uf (lr ⟨⟨x6,[],t.tr.out⟩,t.ob,bq.length,n1⟩))) ⟨⟨x6,[],t.tr.out⟩,t.ob,bq.length,n1⟩:=
    ⟨A?.ot,JX,A?.oa,get_set A?.mt,xS A?.ot JX k4,xS A?.ot A?.oa A?.ma⟩
   rw[Ą lz (NJ (j8 o1 bq.length (vA x)) ((bq++Sa (x6).map).set t.ob (uf (lr ⟨⟨x6,[],t.tr.out⟩,t.ob,bq.length,n1⟩)))) (eo (f3.trans f4) (tS (by rw[tY A?.ot]))) h6 (h5.seen (S.i_ I) rA aYI rfl) (aWb h6 (by show gE rW;rw[auB]) λM' y1 y2=>⟨M',_,aLc B x t.tr.ahead ⟨⟨x6,[],t.tr.out⟩,t.ob,bq.length,n1⟩,rfl,y1,lz.trans y2,aYu I S (k6 hk)⟩)]
universe zE
universe Sb
universe zE
end
mutual
section
namespace Sb
open PySem L2
abbrev Gr:aDY->ak
 |none=>.ai
 |IF=>j! b
abbrev gA:ak5 AZ:=cK u (aW [η u.u,je u.ns,.ah u.bd])
abbrev kJ(t:gj):ak:=ς [atX,b9 t.ahead,.ah t.out]
abbrev eR:Int->gj->ak:=cK t (kJ t)
abbrev wKs gD(g:ef)Pp K0:rM:=
 [(aD3,xd),(aC9,Rt),(ly "wait",η Y.wait),(aD2,ο 6),(atV,bU g),(auY,η t),(ail,aaT),(č,ο j),(ahK,ο 9),(asC,ο 10)]
structure hV gD dY kj K0:Prop where
 qh:sD M 6 (W.points.map Gr)
 gU:xo 7 .aj (V0 Y j)
 wl:sD M j aDu
 TU:7<j/\j≠9/\j≠10
 ju:Ww M 9 .aj gA W.falls
 iJ:xo 10 .aj nH
structure kt K0(M M':ba):Prop where
 len:aAj
 out:∀i,i≠6->i≠7->i≠9->i≠10->i≠j->zQ i->M'[i]? = M[i]?
section
variable {Y:eD}{M:ba}{W:bC}{j:Nat}{ρ:aY}
def kt.refl:n5 M:=⟨fh,λ_ _ _ _ _ _ _=>rfl⟩
def kt.trans{aa M2:ba}(a:n5 aa)(b:kt j aa M2):n5 M2:=⟨Nat.le_trans a.len b.len,λi h1 h2 h3 h4 h5 h6=>eo (b.out i h1 h2 h3 h4 h5 (aBs h6)) (a.out i h1 h2 h3 h4 h5 h6)⟩
def kt.set bk w6(h:n=6\/n=7\/n=9\/n=10\/n=j):n5 (I9 o):=⟨Θ,λi h1 h2 h3 h4 h5 _=>o5 aB⟩
def kt.push w6:n5 (M++[o]):=⟨Θ,λi _ _ _ _ _ hi=>List.getElem?_append_left hi⟩
abbrev A!(j i:Nat):Prop:=i=6\/i=7\/i=9\/i=10\/i=j
def hV.keep gJ K2(h1:∀i,A! j i->zQ i->M'[i]? = M[i]?):zA M' W:=
 ⟨aiz 6 (Ω rfl) (jJ h.qh) h.qh,aiz 7 (ay (Ω rfl)) (jJ h.gU) h.gU,aiz j (ay (ay (ay (ay rfl)))) (jJ h.wl) h.wl,h.TU,aiz 9 (ay (ay (Ω rfl))) (jJ h.ju) h.ju,aiz 10 (ay (ay (ay (Ω rfl)))) (jJ h.iJ) h.iJ⟩
def hV.push gJ(o:fu):zA (M++[o]) W:=h.keep (aBa i _ hi hi)
def hV.aQp gJ(l:Qc):zA (q3 6 (l.map Gr)) { W with points:=l}:=
 ⟨get_set h.qh,auj,aur (by rw[Qa]),h.TU,j0 h.ju,j0 h.iJ⟩
def hV.an2 gJ Uw:zA (q3 j (l.map bu)) (SN W l):=
 ⟨xR (by rw[Qa]) h.qh,xR (by rw[Qa]) h.gU,get_set h.wl,h.TU,xR (by rw[Qa]) h.ju,xR (by rw[Qa]) h.iJ⟩
def hV.aoc gJ(g:ef)Pp:zA (kC 7 .aj (wKs Y g t j)) { W with green:=g,now:=t}:=
 ⟨j0 h.qh,get_set h.gU,aur (by rw[Qa]),h.TU,j0 h.ju,j0 h.iJ⟩
def hV.aod gJ(f:xW):zA (kC 9 .aj (encD gA f)) { W with falls:=f}:=
 ⟨j0 h.qh,auj,aur (by rw[Qa]),h.TU,get_set h.ju,j0 h.iJ⟩
def hV.T8 gJ Ux:zA (Hu 10 .aj eR d) (Me W d):=
 ⟨j0 h.qh,auj,aur (by rw[Qa]),h.TU,j0 h.ju,get_set h.iJ⟩
def hV.aQq gJ Uw:asZ ((M++z6 (l.map bu)).set 7 (.aj (Vr Y))) (SN W l):=by
 rw[cH hp (abB (l.map bu)) KD (jJ h.iJ)];exact⟨j0 hp.qh,get_set hp.gU,SK aB Θ,⟨aB,aB,aB⟩,j0 hp.ju,j0 hp.iJ⟩
variable {g:ef}{t:Int}
def Zl:I0 aD3=aT xd:=cI
def adu:I0 aC9=aT Rt:=cI
def a2q:I0 (ly "wait")=dR Y.wait:=cI
def aI0:I0 aD2=jx 6:=cI
def ad6:I0 atV=qX g:=cI
def ayV:I0 auY=dR t:=cI
def Zm:I0 ail=aT aaT:=cI
def ad7:I0 č=jx j:=cI
def J1:I0 ahK=jx 9:=cI
def q!:I0 asC=jx 10:=cI
def ax5{g':ef}:j_ (wKs Y g t j) atV (bU g')=wKs Y g' t j:=cI
def a3X{t':Int}:j_ (wKs Y g t j) auY (η t')=wKs Y g t' j:=cI
def a06{j':Nat}:j_ (wKs Y g t j) č (ο j')=wKs Y g t j':=cI
def a07:cC (wKs Y g t j)<lim:=by rw[Ŷ 10]
def hV.ix gJ fM eS{v:ak}(hd:dH=.ok (ο 7) M)(hv:pS (pe (V0 Y j) (ly x))):Fb d (b! x) ρ=.ok v M:=by
 rw[az,hd,ag,bo,ag];exact Tq h.gU rfl hv
def hV.put gJ eS{v:ak}:Dz (ο 7) (av x) v M=aT (kC 7 .aj (j_ (V0 Y j) (ly x) v)):=aFd h.gU rfl a07
def ank bk{x v:ak}D5 afO(h:Ef .ij)aOM:fN (ο n) x M=.ok v M:=by
 rw[HD fN amA h];simp only[L2.getD,h,hk,Option.map_some,hv]
abbrev N6 Ux(p:Int):eH:=gz (arx q (p∈aks q.2 s.1)).map
def aHo gC{p:R0}:∀l:qy,atE=aDM[0]?
 |[]=>rfl
 |a::l=>by
  rw[aAF List.find?_cons];cases h:p a with
  |true=>rfl
  |false=>simpa using aHo l
def anl Ux:((cc eR d).map λq=>yO q.1)=d.map (B_ q q.1):=by rw[Hs cc]
def a08{P:Ed}D7{s:c6}{aa:ba}Bm d9{ρ':aY}aNx(hs:s ρ M=.nx ρ' (Ck .ij))(q:P (.nx ρ' M)):P (yL d7 s ρ M):=
 TN h hi (by rw[hs];rw[b4 (get_set h) (by rw[au (NZ h) q])])
def ik{p:Int}gJ(hn:gE SP)(hl:Qg q (lO q.2.steps.length))(DS:SY 100):my [ο 7,η p] M=.ok (eQ Jy) M:=by
 rw[oM my P q (q=.ok (eQ Jy) M)]
 rw[cH e (tH [bh,se,none] q!) hi (keys_eq h.iJ e)];rw[anl]at hi;rw[kB hz (rU (ua .ij) 10 .ij nH) (get_set h.iJ) aRy (rU (ua .ij) 7 .aj (V0 Y j)) auj (eK (a08 (ρ':=[bh,se,HR ((W.trains.filter (Cz (p∈aks q.2 s.1))).map (B_ q q.1))]) h.iJ hi ?_ fj))]
 ·rw[a0I,cf (xs:=W.trains) (w:=mO 10 (.ij nH)) (M':=ua .ij) (B_ q q.1) (Cz (p∈aks q.2 s.1)) (B_ q q.1) (nZ (ρ=[y,se,bh])) hi hz S1 (SG q hq) (jk DS)]
  ·rw[gG (by rw[nJ (PJ Jh DS)]),Res.fg];rfl
  ·rw[QT y _ ?_ BD];rw[aso (ua .ij) hz aRy]
   rw[gv v1 (pe nH Cj=ap0 q.2) (by rw[yy,z! hn];rfl) e1 (M5 (Ť Mi) (Ξ 0) [su,se,bh] aa=.ok (b9 q.2.steps) aa) (by
    have e2:M5 aD aCD [su,se,bh] aa=.ok (ο 10) aa:=by
     rw[az,aN];rw[tU];rw[ag,bo,ag];exact Tq aRy rfl q!
    rw[az,az,e2,ag,aN];rw[tU];rw[ag,ank hz (k:=Cj) rfl v1,ag,bo,ag];exact vd 0) e3 (WB xB (cj (oU (Ť Mi))) oz (jm 0) [su,se,bh] aa=.ok (ς ((aks q.2 s.1).map η)) aa) (by
    rw[Xc q.2.steps w aa bw (B_ s s.1) (nZ (ρ=[y])) (jL e1) (qM s) (jk (hl q hq))]
    ·rw[BI _ _,gG (by rw[LX (hl q hq)]),List.map_map];rfl
    ·rw[MH y _ QJ])]
   show bb (cu (lh false) aA _) [su,se,bh] aa=_;rw[RD eF az];rw[ag,e3,ag,awE];rfl
 ·refine Cy (eQ Jy);rw[dO N6 aHo];rw[RD aex dn];cases aB0 (Cz (p∈aks q.2 s.1)) with
  |nil=>rfl
  |cons q l=>
   simp[gH,eQ];exact vd 0
def ra Bj{gt:D1}{ti:eH}gJ(hp:BP p)(ht:gt [ο 7,η p] M=.ok (eQ ti) M):awf gt [ο 7,η p] M=.ok (.ah (E?||ti.isSome)) M:=by
 rw[ì awf P q (q=.ok (.ah (E?||ti.isSome)) M) e (û ρ [bh,se] d ao ad7) (Cy (.ah (E?||ti.isSome)))]
 have e2:vK (ο j) p=.ok (bu (UW p)) M:=tm h.wl (by rw[aAv g_ hp];rfl);rw[aJ9,az,az,e,ag];simp only[aN,bf,a!,ag,e2,bo];cases UW p with
 |none=>cases ti<;>simp[bu,ht,eQ]
 |some r=>simp[bu]
def a09{l:tv}fz:(l.filter EB).map (MU o o r7 ak.ai (bu o))=(Tj r l).map bu:=by
 rw[BI _ _];rw[dO Tj List.map_map];refine List.map_congr_left λo _=>?_;dsimp only[Function.comp];split<;>rfl
def pd fz gJ(hl:aMw):awg [ο 7,η r] M=.ok .ai ((M++Nu (nX).map).set 7 (.aj (Vr Y))):=by
 rw[oM awg P q (q=.ok .ai ((M++Nu (nX).map).set 7 (.aj (Vr Y))))];rw[lS e (tH [bh,bS] ad7) hp (abB ((nX).map bu)) (F0 e_ (M++Nu (nX).map) (ο 7) (M++Nu (nX).map) (av "locks") (M++Nu (nX).map) ((M++Nu (nX).map).set 7 (.aj (Vr Y))) ?_ Θ Θ (kn hp.put a06) QE)];rw[cf (xs:=W.locks) (w:=mO j (ς aDu)) (M':=M) bu EB (MU o o r7 ak.ai (bu o)) (nZ (ρ=[y,bS])) (aez e h.wl) h.wl S1 (qM o) Mw]
 ·rw[a09,ml (by simp[Tj];exact Mw)]
 ·rw[Lo y hρ];refine rY _ rfl jD (cJ _);simp only[List.set_cons_zero,aex,eF,az,aN,bf,a!,ag,bo];cases o with
  |none=>
   rw[abe none .ai,akG p TS (lZ _)]
   simp
  |some r'=>
   rw[abe (some r') (η r'),sI]
   rw[abw (r'=r)]
   ·rw[zo e2]
   ·rw[Xn e3 (aU r'=r) e2 e3]
universe zE
universe Sb
universe zE
section
namespace Sb
open PySem L2
section
variable {Y:eD}{M:ba}{W:bC}{j:Nat}{ρ:aY}
def awt:∀bs:xA,aO (bools (bs.map ak.ah)) bs
 |[]=>rfl
 |b::bs=>by rw[b6,bools,awt bs];rfl
abbrev aEg rK mh:Bool:=match p with
 |.pl _ _=>true
 |.pt _ u _=>iR u [s.2.1,s.2.2]
abbrev lD jS mh:Bool:=aEg (eV s.1) s
abbrev m7 kj tf:Bool:=E?||nI Jy
abbrev heldW kj lK:Bool:=w.any λs=>(m7 W s.1)
def aVJ ew lK mh Uw:F6 r (w++[s]) l=(F6 r w l).set s.1 r7:=by rw[aa8 F6]
def aHp(om:mq)O! lK mh(l:Qc):Dt om l0 (w++[s]) l=if om s.1 then(Dt om l0 w l).set s.1 (aT (l0 s)) else Dt om l0 w l:=by rw[aa8 Dt]
def a3Y GW fM(hd:dH=.ok (.ah b) M):(akt [ņ,(dC lU)] (ax Oe [d])) ρ M=.ok (j! b) M:=by
 have e:xZ i (∀x,jl ([MC,lU]:fK) x->akP [MC,lU] i=.ok x M):=λi x h=>Ay h;simp only[az,sM,aP,bB,bo,ag,bY,hd];rw[II,ag,hd,ag,ag,FF (Oe [.ah b] M) .ok (η (agF b 0)) M,ag]
 cases b
 ·exact e 0 _ rfl
 ·exact e 1 _ rfl
def si fz{Az:D1}gJ G0 aaj(s5:arQ)KX(jN:XM)(YV:ě)(aRt:W.points.length=Y.ps.length)(sT:ahp)
  (hh:xZ p (BP p->Az [ο 7,η p] M=.ok (.ah (m7 W p)) M)):
  (aL (ĥ W)/\ama Az [ο 7,η r] M=.ok (av "held") M) ∨
  (Ģ W/\C9 (ama Az [ο 7,η r] M=.ok (av "ok") M') (tZ (lD Y.ps) W r)):=by
 rw[Yb ama P q ((aL (ĥ W)/\q=.ok (av "held") M)\/(Ģ W/\C9 (q=.ok (av "ok") M') (tZ (lD Y.ps) W r))) [bh,bS,none,none,none] d Zm (qL kW)]
 ·rw[az,az,e1];simp[J! hr]
 rw[gn]
 rw[cV Z4 (abG (U2 s.1)) (λs fe=>ajR r s.1 (j4 s fe)) (tn (v8 (ĥ W) M))]
 ·have e2:ajf 0 (cj aD) oz (ax Az [aA,(jm 0)]) [bh,bS,vo,none,none] M=.ok (ς (((bN).map λs=>(m7 W s.1)).map .ah)) M:=by
   rw[Xc bN w M bw (λs=>.ah (m7 W s.1)) (nZ (ρ=[y,bh])) W3 (SG s hs) (jk jN)]
   ·rw[BI _ _,cn (aX jN),List.map_map];rfl
   ·rw[Lo y hρ];refine rY _ rfl jD (cJ _);have:=hh s.1 (by rw[au YV (Z4 s hs)]);simp[bw];simpa using this
  rw[dn,bY,aP,e2];rw[tT bB];unfold OE
  simp only[F7,Option.bind_some,awt,ag,gH,aw0];rw[Hr heldW List.any_map]
 ·exact LN (av "held") M (eX (IZ hk))
 rw[vX (Ri (sH bw (SE aa (∃y z,ρ=[bh,bS,vo,y,z]/\zA aa (Qh W (VT r pre) points (Dt (Au Y.ps) (lD Y.ps) pre W.points))/\n5 aa))
  bN none M W3 trivial (kX none none h kt.refl) ?_ ?_))]
 ·rintro pre s post hx ρ aa ⟨y,z,rfl,h1,f1⟩
  rw[Im _];rw[lS A7 (Z4 s (by rw[nP])) e2 (Ai [bh,bS,vo,lP,z] ad7) (Es (η r) aa (ο j) aa (η s.1) aa (abX j ((VT r (pre++[s])).map bu)) Θ e2 QJ ?_ fj)]
  ·rw[Tv h1.wl (by simp;rw[er ame YV A7]),aVJ,List.map_set];rfl
  rw[agO h2 (h1.an2 (VT r (pre++[s]))) f2 (n5 (abX j ((VT r (pre++[s])).map bu))) RA (abX j ((VT r (pre++[s])).map bu)) M2 h2 f2];rw[cW e3 (Np [bh,bS,vo,lP,z] d Zl) (ab1 (ď s.1).enc M2 ?_ ?_)]
  ·rw[az,e3];simp only[az,aN,bo,bf,a!,ag];rw[mH (fN (bw s) (η 0) M2) (.ok (η s.1) M2) Og,ag,Oh A7]
  rw[x7 (IS (ahh s.1) M2)]
  ·unfold Au;cases hp:ď s.1<;>simp[fy.enc,uA]
  ·rw[cW e4 (Np [bh,bS,vo,lP,some (ď s.1).enc] d aI0) (F0 (j! (lD Y.ps s)) M2 (ο 6) M2 (η s.1) M2 (JJ 6 ς ((Dt (Au Y.ps) (lD Y.ps) (pre++[s]) W.points).map Gr)) ?_ e4 QJ ?_ (jz (Cr _ (h2.aQp _) (ahV tM))))]
   ·unfold Au at cE;unfold lD;cases hp:ď s.1 with
    |pl a b=>rw[hp]at cE;cases cE
    |pt t u b=>
     rw[cV e (ŕ (η u) (aW ([s.2.1,s.2.2].map η)) M2=_) aIO (a3Y ?_)];rw[az,az];simp only[aN,bo,aey,Zp,adi,bf,a!,ag,fy.enc,ZS];rw[aKd,ag,e];rfl
   ·rw[Tv h2.qh (by simp;rw[er aGw aRt A7]),aHp,if_pos cE,List.map_set];rfl
  ·rw[Ű (Yi _ f2)];rw[er aHp (vQ (by rw[aqT cE])) h2]
 ·rw[L6 aa y z rfl h1 f1];rw[cW e2 (Ai [bh,bS,vo,y,z] ad6) (eZ (Es (bU (Wx [r])) aa (ο 7) aa (av "green") aa (aa.set 7 (.aj (PR (Wx [r])))) ?_ Θ Θ (kn h1.put ax5) (ų _ (ay (Cr hk (h1.aoc _ _) RA)))))];rw[az,e2];simp only[sM,aP,bB,aN,bf,a!,ag];rw[II,ag,pz,gG (by simp[lim];omega)];simp
universe zE
universe Sb
universe zE
section
namespace Sb
open PySem L2
section
variable {Y:eD}{M:ba}{W:bC}{j:Nat}{ρ:aY}
def afp aab aah:o8 2 (mY (bT a) (qO b)) (aW [x,y]) ρ=qU (EO a).set b Cm:=rfl
def aQr lK:G6 (b9 w):=by
 intro y hy;rw[apY s rfl hy];rw[ą z hz hz];rcases hz with rfl | rfl | rfl<;>exact lZ _
def eq_nil pC uY:eJ neg (b9 w) (ς []) M=.ok (.ah (zl (gS w []) (gS w []))) M:=
 Zq (aQr w) (aQr []) (by cases w<;>simp[b9])
abbrev ZH gD qv(t:gj):Bool:=d! IQ&&(! t.out&&(gS CD (fZ s).1&&d! (g4.1≠(fZ s).2)))
abbrev JT gD Ux qv:fX:=gz (d.filter λq=>ZH Y s q.2).map
def aI1 dh:∀l:fX,aL (ak.Dy n (l.map η))
 |[]=>rfl
 |x::l=>by rw[b6,ak.Dy,aI1 n l];rfl
def adR Pq gJ(hs:u!)(hn:gE SP)(aS:Qg q (q.2.steps≠[]))(DS:SY 100):Xx awh [ο 7,η s]=.ok (je C4) M:=by
 refine Qm (aI1 _ _);rw[Yb awh P q (∃G,q=.ok (je C4) (M++G)) [bh,fm,none,none,none,none,none,none] d adu (ab0 W2 [bh,fm,CX,Cu,none,none,none,none] M ?_ afp)]
 ·rw[az,e1];simp[T9 hs]
 refine W7 (M++[ς []]);rw[agL hp (abB []) e2 (hp.ix (ρ:=[bh,fm,CX,Cu,gR,none,none,none]) (d:=ao) rfl q!) (tn ?_)];rw[gX hi (keys_eq hp.iJ e2) anl hi]
 refine TN hp.iJ hi ?_;have KD:=jJ h.iJ
 rw[iA zs (∀f:fK,rU ((M++z6 f).set 10 (.ij nH)) 10 .ij nH) (λf=>get_set (abB f).iJ) aGP (∀f:fK,rU ((M++z6 f).set 10 (.ij nH)) 7 .aj (V0 Y j)) (λf=>j0 (abB f).gU) a8M (∀f:fK,((M++z6 f).set 10 (.ij nH))[M.length]? = vM f) (λf=>SK aB Θ) a8N (∀f f':fK,Đ ((M++z6 f).set 10 (.ij nH)).set (ς f')=(M++z6 f').set 10 (.ij nH)) (λf f'=>by
  rw[fk (List.set_comm _ _ aB)])]
 refine sH (λq:Int×gj=>ak.int q.1) (kG (∃a b c,ρ=[bh,fm,CX,Cu,gR,a,b,c]/\M'=(M++z6 ((Js).map η)).set 10 (.ij nH))) W.trains _ _ hi (zs []) (ajX none none none) ?_ ?_
 ·rintro pre q post hx ρ M' ⟨a,b,c,rfl,rfl⟩
  rw[Im _]
  rw[bM hq (at7 q) (by rw[nP]) v1 (pe nH Cj=ap0 q.2) (by rw[yy,z! hn];rfl)]
  rw[L? z1 (zs ((Js).map η)) z2 (aGP ((Js).map η)) TX (a8M ((Js).map η)) aGN (a8N ((Js).map η))]
  rw[bM KG (lO (cC Js)) (by
   rw[dO JT eP];refine aj5 ?_;rw[hx,List.length_append]at DS;omega) AL (JT Y (pre++[q]) s=Js++(aCH (ZH Y s q.2) [q.1])) (by
   rw[jj JT List.filter_append List.map_append List.filter_cons];split<;>rfl)]
  rw[AL];generalize (M++z6 ((Js).map η)).set 10 (.ij nH)=aa at z1 z2 TX aGN
  rw[cV et (∀ρ:aY,aci 0->M5 ao aCD ρ aa=.ok (ο 10) aa) (λρ h0=>by
   rw[vU az aN h0];rw[ag,bo,ag];exact Tq z2 rfl q!) (nF (kJ q.2) aa)]
  ·rw[az,et _ rfl,ag,aN];rw[agM ag (ank z1 (k:=Cj) rfl v1)]
  rw[gn];rw[iA aFc (fN (kJ q.2) (η 0) aa=.ok (b9 q.2.steps) aa) (vd 0) i1 (fN (kJ q.2) (η 1) aa=.ok (b9 q.2.ahead) aa) (vd 1) i2 (fN (kJ q.2) (η 2) aa=.ok (.ah q.2.out) aa) (vd 2) i3 (fN (b9 q.2.steps) (η 0) aa=.ok (bw (cg q.2)) aa) (Ay (i:=0) (ZT (aS q hq)))];rw[kB i4 (fN (bw (cg q.2)) (η 2) aa=.ok (η (cg q.2).2.2) aa) ZS i5 (fN (bw (cg q.2)) (η 0) aa=.ok (η (cg q.2).1) aa) Og (nF (bw (cg q.2)) aa)]
  ·simp only[az,aN,bo,bf,a!,ag,aFc,i3]
  rw[x7 (v8 (ZH Y s q.2) aa)]
  ·rw[bM el (∀ρ:aY,Wl [] ρ aa=.ok (ς []) aa) (λρ=>by rw[jj cb bB ag (gG a_)]) YT (∀b:Bool,LF aa (.ah b) aa=.ok b aa) (ÿ b)];simp only[ll,eF,TF,dn,az,aN,bo,bf,a!,ag,i1,i2,i4,i5,el,eq_nil,sI,YT];unfold ZH;rw[PV (q.2.ahead=[])]
   ·cases h2:q.2.out
    ·by_cases h3:(cg q.2).2.2=(fZ s).1
     ·by_cases h4:(cg q.2).1=(fZ s).2
      ·simp[h1,h3,h4]
      ·have h5:¬(aU (cg q.2).1=aU (fZ s).2):=dF (h4 agS);simp[h1,h3,h4,h5]
     ·simp[h1,h3]
    ·simp[h1]
   ·simp[h1]
  ·rw[HM]
   rw[cV em (n8 q9 bH [ae 5] [bh,fm,CX,Cu,gR,su,ap0 q.2,Hf (cg q.2)] aa=.ok .ai (abX M.length ((Js).map η++[η q.1]))) (by
    rw[akq rfl TX [η q.1] rfl];unfold q9 lI;rw[r3 TX (jB (by rw[nJ (Lp KG)]))]) (uq .ai _ em ?_)];rw[iU aGN (Ar (zs _) (Jk _ _ ?_))];rw[aLX]
  ·rw[hk,lR,j?];have:=aGN ((Js).map η);rw[vX (Ar z1 (Jk _ _ ?_))];rw[←this,axd TX]
 ·rw[L6 M' a b c rfl rfl];rw[fF (zs _) fj];rw[iU (NZ (abB ((C4).map η)).iJ) (xY (je C4) (M++IX) akN)];simp[DA,AQ]
universe zE
universe Sb
universe zE
section
namespace Sb
open PySem L2
section
variable {Y:eD}{M:ba}{W:bC}{j:Nat}{ρ:aY}
def a1a pC fz{ns:ef}:JN (η r) (bU ns)=.ok (.ah (PS r ns r ns)) M:=
 N4 (enc:=M? (n:Nat)) (λa=>lZ _) (λa b e=>by cases e;rfl) (a:=r) (as:=ns) rfl
def Zc fz{iZ bG o9:D1}gJ KX(hs:HY bZ)(sT:ahp)(A9:ahq)
  (hn:∀M W' qv,zA M W'->auM W.trains->u!->iZ [ο 7,η s] M=.ok (je C4) M)
  aps
  (hf:∀M W,D_->ě->o9 [ο 7,η r] M=.ok .ai ((M++Nu (nX).map).set 7 (.aj (Vr Y))))
  (YV:ě):
  (L4 r/\ac1 iZ bG o9 [ο 7,η r] M=.ok (av "none") M) ∨
  (tG/\((g5 (ud&&(! MR||kq))/\C9 (ac1 iZ bG o9 [ο 7,η r] M=.ok (av "ok") M') (T5 W r ⟨Q2,Fp,kq⟩)) ∨
   (q4 (ud&&(! MR||kq))/\u9 (ac1 iZ bG o9 [ο 7,η r] M=.ok (av "ok") M') (asZ M' (ZE W r)) (kt j M M')))):=by
 rw[Yb ac1 P q ((L4 r/\q=.ok (av "none") M) ∨
  (tG/\((g5 (ud&&(! MR||kq))/\C9 (q=.ok (av "ok") M') (T5 W r ⟨Q2,Fp,kq⟩)) ∨
   (q4 (ud&&(! MR||kq))/\u9 (q=.ok (av "ok") M') (asZ M' (ZE W r)) (kt j M M'))))) [bh,bS,none,none,none,none] d ad6 (JH (!(iR r W.green)))]
 ·rw[eF,az,abt 1 [bh,bS,none,none,none,none] .ok r,ag,e1,ag,a1a]
  rfl
 ·exact LN (av "none") M (eX (IZ pW))
 rw[cV hk tG pW (dP (eZ (Es (bU (Aj x x)) M (ο 7) M (av "green") M (kC 7 .aj (PR (Aj x x))) ?_ Θ Θ (kn h.put ax5) fj)))]
 ·rw[We W.green w M (M? (n:Nat)) (pX x x r) (M? (n:Nat)) (nZ (ρ=[y,bS])) (jL e1) (qM x) (jk sT)]
  ·exact gG (by rw[nJ (PJ Jh sT)])
  ·rw[QT y _ ?_ BD]
   simp only[List.set_cons_zero,eF,az,aN,bf,a!,ag,sI];rw[abw (x=r)]
   ·rw[zo e2]
   ·rw[Xn e3 (aU x=r) e2 e3]
 rw[pM h1 (h.aoc (Aj x x) W.now) f1 (n5 (kC 7 .aj (PR (Aj x x)))) tM l1 (ahB (kC 7 .aj (PR (Aj x x)))) List.length_set]
 generalize kC 7 .aj (PR (Aj x x))=aa at h1 f1 l1
 rw[Ą aQZ (∀(ρ:aY),aci 0->t6 1 bS->M5 (oO Mj) (Ξ 0) ρ aa=.ok (η bZ) aa) (λρ h0 ali=>by
  have:=h1.ix (ρ:=ρ) (d:=ao) (zq h0) Zm;rw[az,az,this,ag,aN,ali];simp[J! hr]) e2 (Ai [bh,bS,none,none,none,none] adu) (ab0 (fQ (fZ bZ)) [bh,bS,ajA,akA,none,none] aa ?_ afp)]
 ·rw[az,e2,ag,aQZ _ rfl rfl,ag,T9 hs]
 refine nF (je Fp) aa
 ·rw[bY,aP,aN];simp only[bf,a!,ag];rw[aP,aQZ _ rfl rfl];simp[hn aa _ bZ h1 rfl hs]
 rw[Vo e3 (Ai [bh,bS,ajA,akA,Mf Fp,none] Zl) (nF (.ah kq) aa)]
 ·rw[az,bY,aP,e3];simp only[aP,bB,aN,bf,a!,ag,bo,hb];unfold As;cases Ho (fZ bZ).2 (fZ bZ).1<;>rfl
 rw[ļ e4 (Ai [bh,bS,ajA,akA,Mf Fp,Io .ah kq] a2q) e5 (Ai [bh,bS,ajA,akA,Mf Fp,Io .ah kq] ayV)];rw[cW e6 (Ai [bh,bS,ajA,akA,Mf Fp,Io .ah kq] J1) (eK (IS (ud&&(! MR||kq)) aa))]
 ·rw[ll,eF,az,e4];simp only[ag,bo,aYi,ZF,dn,aN,bf,a!,aw0]
  rw[bM YT (∀l:fX,gH aa (je l)=aT (! l.isEmpty)) (λl=>by cases l<;>rfl) KH (∀b:Bool,aO (gH aa (.ah b)) b) (ÿ b)];cases KG:MR<;>by_cases alq:0<Y.wait<;>simp[alq,YT,KH,KG]
 ·refine F0 (gA r ⟨Q2,Fp,kq⟩) aa (ο 9) aa (η r) aa (V7 9 .aj gA (ahL r ⟨Q2,Fp,kq⟩)) ?_ e6 Θ ?_ (ų _ (o4 hk (Ω (Cr cE (h1.aod _) RA))))
  ·rw[yC,aP,az,e5,ag,e4,ag,FF (aiW (η W.now) (η Y.wait) aa) .ok (η Q2) aa]
   simp[gA]
  ·rw[ajh h1.ju r (by rw[ah5 amu A9])]
   congr 3
   exact amt gA r _ _
 ·rw[cW sG (hf aa _ h1 YV) (uq .ai _ (by rw[vm sG]) (ų _ (o4 hk (ay (Yi cE (ag0 kt.push tM))))))];have:=h1.aQq nX;rw[tP l1 this this]
def adS{o9:D1}gJ(fS:gE mT)(A9:ahq)(YV:ě)
  (hf:∀M W j ew,D_->ě->o9 [ο 7,η r] M=.ok .ai ((M++Nu (nX).map).set 7 (.aj (Vr Y)))):
  ∃M' j',awi o9 [ο 7] M=.ok (av "ok") M'/\hV Y M' (Gd W) j'/\n5 M'/\(j'=j\/ĵ j'):=by
 rw[Yb awi P q (∃M' j',q=.ok (av "ok") M'/\hV Y M' (Gd W) j'/\n5 M'/\(j'=j\/ĵ j')) [bh,none] d ayV (Es (η Al) M (ο 7) M (av "now") M (kC 7 .aj (ap2 Y Al j)) ?_ Θ Θ (kn h.put a3X) fj)]
 ·rw[az,e1,ag,bo,ag];rfl
 rw[agO h1 (h.aoc W.green Al) f1 (n5 (kC 7 .aj (ap2 Y Al j))) tM (kC 7 .aj (ap2 Y Al j)) aa h1 f1];rw[nE e2 (Ai [bh,none] J1) ei (ax LA [ye] [bh,none] aa=.ok (ς (JF (mT).map (r:Nat))) aa) (by
  rw[bY,aP,e2];rw[tT bB]
  rw[yc oy (o! h1.ju)]
  have e3:(encD gA W.falls).map (λq=>yO q.1)=JF (mT).map (r:Nat):=by
   rw[aqh encD];rfl
  rw[e3,gG (by rw[ai9 A9])]) (eK (oS (gQ (r:Nat) r) (SE M2 (∃y j2,ρ=[bh,y]/\hV Y M2 (Nl W) j2/\n5 M2/\(j2=j\/ĵ j2)/\(Nl W).locks.length=Y.ps.length)) mT aa (jL ei) ⟨none,j,rfl,h1,f1,Ω rfl,YV⟩))]
 ·rintro pre r post hx ρ M2 ⟨y,j2,rfl,h2,f2,o2,l2⟩;rw[Im _];rw[pM OP (ax3 fS hx) Kl (cG (Nl W).falls r=HG r) (aIe pre _ OP) Z0 (r∈mT) (by rw[nP])]
  rw[S! u GG ((ahM _).mp Z0)]
  rw[Wg Tb ((Nl W).now=Al) (by rw[cU aGT]) e3 (Np [bh,bS] d J1) e4 (Np [bh,bS] d ayV)]
  rw[gv e5 (M5 (oO ye) (Ξ 0) [bh,bS] M2=.ok (η u.u) M2) (by
   rw[az,az,e3,ag];rw[RL];rw[Tq h2.ju (k:=jC r) (v:=gA r u) rfl (by rw[ux,Kl,GG];rfl)];simp[gA]) AL ((pre++[r]).foldl n7 (aet W)=n7 (Nl W) r) (by rw[List.foldl_append];rfl) Kn (Ow (Nl W).falls (Nl W).now r=FE u.u Al) (by
   rw[jj Ow Kl GG Tb])]
  generalize Nl W=g? at *;refine v8 (FE u.u Al) M2
  ·rw[eF,az,e5,ag,e4,ag,Tb,aIJ];rfl
  ·rw[Cv (eK (T7 (k:=jC r) (y:=η r) (gA r u) e3 h2.ju Θ rfl (by rw[ux,Kl,GG];rfl) fj)) amg];rw[pM h3 (h2.aod (asE r)) f3 (n5 (JJ 9 .aj (zz gA (asE r)))) (ahV tM) l3 (cC (JJ 9 .aj (zz gA (asE r)))=M2.length) List.length_set]
   generalize JJ 9 .aj (zz gA (asE r))=bq at h3 f3 l3;rw[cW sG (hf bq _ _ r h3 l2) (uq .ai _ (by rw[vm sG]) (jz ⟨_,bq.length,rfl,?_,eo (f3.trans kt.push) tM,ay f3.len,?_⟩))]
   ·rw[AL];rw[jA n7 (jB aD7) (h3.aQq _)]
   ·rw[AL];rw[dO n7 (jB aD7)];simpa[Tj] using l2
  ·rw[Ű ⟨_,j2,rfl,?_,f2,o2,?_⟩]
   ·rw[AL];rw[jA n7 (rO hc (by rw[aCb fR hc hk fR];cases fR)) h2]
   ·rw[AL];rw[jA n7 (rO hc (by rw[aCb fR hc hk fR];cases fR)) l2]
 ·rintro ρ' M2 ⟨y,j2,rfl,h2,f2,o2,l2⟩;exact Ŵ M2 M2 j2 h2 f2 o2
def ady Bj{Az:D1}gJ(hp:uc)(YV:ě)(uH:JB->∃b,u7 W.points p b)
  (hh:Az [ο 7,η p] M=.ok (.ah (m7 W p)) M):
  (atL p/\adh Az [ο 7,η p] M=.ok (av "none") M) ∨
  (JB/\((g5 (m7 W p)/\adh Az [ο 7,η p] M=.ok (av "held") M) ∨
   (q4 (m7 W p)/\C9 (adh Az [ο 7,η p] M=.ok (av "ok") M') (tj W p)))):=by
 rw[Yb adh P q ((atL p/\q=.ok (av "none") M) ∨
  (JB/\((g5 (m7 W p)/\q=.ok (av "held") M) ∨
   (q4 (m7 W p)/\C9 (q=.ok (av "ok") M') (tj W p))))) [bh,se] d Zl (JH (!(ahh p)))]
 ·rw[eF,az,az,az,e1];simp only[aN,bf,a!,ag,Oh hp,bo];unfold Au;cases hp:ď p<;>simp[fy.enc,uA]
 ·exact LN (av "none") M (eX (IZ pW))
 rw[cV hk JB pW (dP (Ri (IS (m7 W p) M)))]
 ·simp[hh,gH]
 ·exact LN (av "held") M (eX (o4 hk (IZ cE)))
 rw[EG b hb (uH hk) acF (p<W.points.length) (List.getElem?_eq_some_iff.mp hb).1];have h1:=h.push (.aj [(Vg,MC),(Vx,lU)]);rw[gv f1 (n5 (M++[.aj [(Vg,MC),(Vx,lU)]])) kt.push g1 ((M++IW [(Vg,MC),(Vx,lU)])[M.length]? = eL .aj [(Vg,MC),(Vx,lU)]) Θ ed (Gn [("straight",ņ),("branch",(dC lU))] [bh,se] M=.ok e_ (M++IW [(Vg,MC),(Vx,lU)])) (by
  rw[aAg])]
 generalize M++IW [(Vg,MC),(Vx,lU)]=aa at h1 f1 g1 ed;rw[nE e2 (Ai [bh,se] aI0) e3 (fN (ο 6) (η p) aa=.ok (j! b) aa) (tm h1.qh (by rw[g_,hb];rfl)) (dP (eZ (Es (j! (! b)) aa (ο 6) aa (η p) aa (abX 6 ((ar1 (some ! b)).map Gr)) ?_ e2 Θ (by rw[Tv h1.qh (aX acF),List.map_set];rfl) (ų _ (o4 hk (ay (Yi cE RA)))))))]
 ·rw[az,ed,ag,az,e2,ag];simp only[aN,bf,a!,ag,e3];cases b
  ·exact Wu g1 k Vx cI
  ·exact Wu g1 k Vg cI
 ·have:=h1.aQp (ar1 (some ! b));rw[iT tj List.getD_eq_getElem?_getD hb];rw[zp]
universe zE
universe Sb
universe zE
end
mutual
section
namespace Sb
open PySem L2
section
variable {Y:eD}{M:ba}{W:bC}{j:Nat}{ρ:aY}
abbrev anI rH UN:bC:={ W with green:=aBF (pX y y r),falls:=Qu r,locks:=Q0 ((jG).headD (0,0,0))}
abbrev uC UP ew:AZ:=(HG r).getD (BQ 0 [x])
def ayu azj:AP Y W x s r=(gS bZ s&&((uC W x r).bd||iR x (uC W x r).ns)):=by
 unfold AP uC;cases HG r<;>simp
def aKN(d:xW):((QF gA).map λq=>yO q.1)=(qS).map (gQ (n:Nat) gm):=by
 rw[aqh encD];rfl
def a1b pC fW UL:JN (η x) (je ns)=.ok (.ah (PS x ns x ns)) M:=awE
def aWc{ρ:aY}ee fz{g:ef}fM(hd:dH=.ok (bU g) M)(hc:DB (Ò k) ρ=QD bS)(hl:H? g.length):
  ajf k (cj d) QW ao ρ M=.ok (bU (g.filter (pX x x r))) M:=by
 rw[cf (xs:=g) (w:=none) (M':=M) (M? (n:Nat)) (pX x x r) (M? (n:Nat)) (nZ (ρ=[y,bS])) (jL hd) trivial ⟨none,hc⟩ (qM x) Mw]
 ·exact gG (by rw[nJ (PJ Jh hl)])
 ·rw[QT y _ ?_ BD]
  simp only[List.set_cons_zero,eF,az,aN,bf,a!,ag,sI];rw[abw (x=r)]
  ·rw[zo e2]
  ·have e3:¬(aU x=r):=dF (e2 agS);simp[e2,e3]
def Zt fW Pq gJ(A8:∀r,w!->lM)(aS:agg)(jN:Q1 XM)(sT:ahp)(A9:ahq)
  (uN:∀r,w!->BP ((bN).headD (0,0,0)).1):
  match sP Y W x s with
  |none=>al3 [ο 7,η s,η x] M=.ok .ai M
  |r7=>C9 (al3 [ο 7,η s,η x] M=.ok kW M') (anI Y.rs W r):=by
 rw[oM al3 P q (match sP Y W x s with | none=>q=.ok .ai M | r7=>C9 (q=.ok kW M') (anI Y.rs W r))]
 rw[cH e1 (tH [bh,fm,aZ,none,none,none] ad6) e2 (tH [bh,fm,aZ,none,none,none] J1)]
 rw[v7 ei (cu (wc false) Ú (ax LA [ye]) [bh,fm,aZ,none,none,none] M=.ok (ς ((akD).map (gQ (n:Nat) gm))) M) (by
  rw[az,e1,ag,bY,aP,e2];rw[tT bB];rw[yc oy (o! h.ju)];rw[aKN,gG (by rw[ai9 A9]),ag,pz,List.map_append,gG (by simp[lim];omega)]) (oS (M? (n:Nat)) (kG (∃a b c,ρ=[bh,fm,aZ,a,b,c]/\M'=M/\arT (AP Y W x s))) akD M (jL ei) ⟨none,none,none,rfl,rfl,rfl⟩)]
 ·rintro pre r post hx ρ M' ⟨a,b,c,rfl,rfl,i7⟩;rw[Im _];have hlr:w!:=aPn (by rw[nP]);rw[pM hr (A8 r hlr) a4I (aiC Y W x s r->aO (sP Y W x s) r) (λhm=>by
   unfold sP;rw[hx,List.find?_append,i7,List.find?_cons,hm];rfl) aLg (dj (AP Y W x s r)->bO ((pre++[r]).find? (AP Y W x s))) (λhm=>by
   rw[List.find?_append,i7,List.find?_cons,hm];rfl)]
  rw[cV uu (M5 Mj bA [bh,fm,aZ,bS,b,c] M'=.ok (aW [η bZ,kW]) M') (by
   have:=tH [bh,fm,aZ,bS,b,c] Zm;rw[az,this,ag,aN];rw[agM ag (J! hr)]) (v8 (gS bZ s) M')]
  ·rw[eF,az,az,uu,ag,bo,ag,FF (fN (aW [η bZ,kW]) (η 0) M') .ok (η bZ) M',ag,aN]
   rw[tU];rw[ag,sI];by_cases dS:bZ=s
   ·simp[dS]
   ·have aEL:¬(aU bZ=aU s):=dF (dS agS);simp[dS,aEL]
  ·rw[lS hk aPQ e3 (tH [bh,fm,aZ,bS,b,c] J1) (nF (gA r (uC W x r)) M')]
   ·unfold N8
    rw[vU e3 ag (o! h.ju)];rw[aN];rw[tU];rw[ag]
    have ed:dM [Ξ 0,c9 [aD],rQ .ah] [bh,fm,aZ,bS,b,c] M'=.ok (aW [η 0,ς [η x],qJ .ah]) M':=by
     unfold dM cb;simp only[aP,bB,bo,aN,bf,a!,ag];rw[gG (by rw[ia (1≤lim)])];simp only[ag]
    rw[ed,ag,o! h.ju];rw[r3 jM ux];unfold uC;cases HG r<;>rfl
   rw[x7 (IS ((uC W x r).bd||iR x (uC W x r).ns) M')]
   ·rw[gv i2 (fN (gA r (uC W x r)) (η 2) M'=.ok (.ah (uC W x r).bd) M') rfl i1 (fN (gA r (uC W x r)) (η 1) M'=.ok (je (uC W x r).ns) M') rfl YT (∀b:Bool,LF M' (.ah b) M'=.ok b M') (ÿ b)];simp only[ZF,dn,eF,az,aN,bo,bf,a!,ag,i1,i2,a1b,YT];cases(uC W x r).bd<;>simp
   ·have hm:aiC Y W x s r:=by rw[ayu,cE];simp[hk]
    rw[a4I hm]
    rw[ŵ w fJ (∃s0 w,bN=s0::w) (by
     cases dS:bN with
     |nil=>rw[kA dS (aS r hr)]
     |cons a b=>exact jc a b)]
    rw[cH e4 (tH [bh,fm,aZ,bS,ŝ r (uC W x r),c] ad6) h1 (h.aoc (Aj y y) W.now)];rw[v7 f1 (kt j M' (M'.set 7 (.aj (PR (Aj y y))))) tM (X0 (bU (Aj y y)) M' (ο 7) M' (av "green") M' (M'.set 7 (.aj (PR (Aj y y)))) (aWc e4 rfl sT) rfl (kn h.put ax5) fj)];rw[aso (M'.set 7 (.aj (PR (Aj y y)))) h1 f1];rw[Vl e5 (Ai [bh,fm,aZ,bS,ŝ r (uC W x r),c] J1) v2 p2 (axf (dx:=dC .ai) (z:=.ai) e5 h1.ju (k:=r) (dk:=bA) rfl rfl)];rw[nE h2 (h1.aod (Qu r)) f2 (kt j M' (V7 9 .aj gA (Qu r))) RA (CY v2 _ p2)];generalize V7 9 .aj gA (Qu r)=M2 at h2 f2;refine nF kW M2
    ·have e6:=Np [bh,fm,aZ,bS,ŝ r (uC W x r),c] d Zm;rw[bY,aP,az,az,e6,ag,aN];rw[tU];rw[ag,J! hr,ag,bo,ag,FF (fN (aW [η bZ,kW]) (η 1) M2) .ok kW M2,ag,bB,ag,ag]
     rw[yc AE pv];exact gG (by rw[LX (jN r hr)])
    rw[ļ sG (Np [bh,fm,aZ,bS,ŝ r (uC W x r),vo] d ad7) i8 (uN r hlr)];rw[fJ]at i8;rw[cW h3 (h2.an2 Sf) (Es .ai M2 (ο j) M2 (η s0.1) M2 (JJ j ς ((Sf).map bu)) rfl sG ?_ ?_ (eZ (p6 kW _ rfl (aeb (p7 (eX (pV _ ?_ (ahV tM))))))))]
    ·rw[RD az az];rw[ag,bo,ag,fJ,mH (fN (b9 (s0::w)) (η 0) M2) (.ok (bw s0) M2) (vd 0),ag,bo,ag]
     exact Og
    ·rw[Tv h2.wl (by rw[nJ i8]),List.map_set];rfl
    ·rw[jA anI fJ h3]
   ·rw[Ű ⟨_,_,_,rfl,rfl,aLg ?_⟩];rw[ayu,cE,Bool.and_false]
  ·rw[Ű ⟨_,_,_,rfl,rfl,aLg ?_⟩];rw[ayu,hk,Bool.false_and]
 ·rintro ρ' M' ⟨a,b,c,rfl,rfl,i7⟩;refine ML .ai M' ?_;have:bO (sP Y W x s):=i7;rw[this]
universe zE
universe Sb
universe zE
section
namespace Sb
open PySem L2
abbrev uD:qn->Str
 |.ok=> "ok"
 |cT=> "none"
 |.held=> "held"
 |.red=> "red"
abbrev DF gD K0 dY azx(W':bC):Prop:=match k with
 |.ok=>∃M' j',res=.ok (av "ok") M'/\hV Y M' W' j'/\n5 M'/\(j'=j\/ĵ j')
 |cT=>res=.ok (av "none") M
 |.held=>res=.ok (av "held") M
 |.red=>res=.ok (av "red") M
section
variable {Y:eD}{M:ba}{W:bC}{j:Nat}{ρ:aY}
def a2r d9:Nz qB none=xs.drop 1:=by
 cases xs with
 |nil=>rfl
 |cons x xs=>exact aKF (k:=1) Θ
def a2s d9:akl (aT (-1))=xs.dropLast:=by
 rw[jj TH ql.awY Nat.sub_zero List.drop_zero]
 have e:Vh (aT (-1))=ER 1:=by
  rw[pU ql.mf];rw[nQ aDI]
 rw[e,List.dropLast_eq_take]
def a3c d9:akl qB=xs.take 1:=ayj (k:=1)
def aLh uY:ui false (b9 w) .ai M=.ok (qJ .ah) M:=rfl
def ayW uY(hl:as5):sX false (b9 w) none qB M=.ok (b9 (w.take 1)) M:=by
 show(match sC (ς LB) with | qD=>L9 (akl qB) M | none=>aF)=_
 rw[g6 F7];rw[a3c,←List.map_take,gG (by rw[LX (aA4 _)])]
def ayX uY(hl:as5):sX false (b9 w) qB none M=.ok (b9 (w.drop 1)) M:=by
 show(match sC (ς LB) with | qD=>L9 (Nz qB none) M | none=>aF)=_
 rw[g6 F7];rw[a2r,←List.map_drop,gG (by rw[er eP List.length_drop (PJ (Nat.sub_le _ _) hl)])]
def a4J uY(hl:as5):sX false (b9 w) none (aT (-1)) M=.ok (b9 w.dropLast) M:=by
 show(match sC (ς LB) with | qD=>L9 (akl (aT (-1))) M | none=>aF)=_
 rw[g6 F7];rw[a2s,←List.map_dropLast,gG (by rw[er eP List.length_dropLast (PJ (Nat.sub_le _ _) hl)])]
def aLi{a b:fU}(ha:lO a.length)(hb:lO b.length):aiW (b9 a) (b9 b) M=.ok (b9 (a++b)) M:=by
 show L9 (au0++b.map bw) M=_;rw[←List.map_append,gG (by rw[eP,List.length_append];rw[Q6 (_≤16000000)])]
abbrev ayv gD(dQ:D1):Prop:=∀dY kj K0 gI qv,D_->(∀r,w!->lM)->ahp->ahq->(∀r,w!->BP ((bN).headD (0,0,0)).1) →
 match sP Y W x s with
 |none=>dQ [ο 7,η s,η x] M=.ok .ai M
 |r7=>C9 (dQ [ο 7,η s,η x] M=.ok kW M') (anI Y.rs W r)
structure aKZ ki:Prop where
 lv:∀r,w!->lM
 gl:ahp
 fl:ahq
 lk:∀r,w!->BP ((bN).headD (0,0,0)).1
 wl:Q1 XM
 nd:gE SP
 tl:SY 100
 sl:∀x t,c8=eG->t.steps.length≤99/\aMx/\auN []
 al:∀x t,c8=eG->VA (BP s.1)
def a8F qt gJ(hl:SY 100):Dz (ο 10) (η x) (kJ t) M=aT (Hu 10 .aj eR (zO t)):=by
 rw[Rc h.iJ xy (by rw[ah5 axb hl])]
 congr 3
 exact axa eR x t _
def amO aOH:w!:=aPn aPT
def oT fW Pq{bG dQ:D1}apk(hs:u!)aps(hp:ayv Y dQ):
  DF Y j M (av7 bG dQ [ο 7,η x,η s] M) (F? Y W x s) (Oa Y W x s):=by
 rw[Yb av7 P q (DF Y j M q (F? Y W x s) (Oa Y W x s)) [bh,aZ,fm,none,none,none] d adu (ab0 W2 [bh,aZ,fm,CX,Cu,none] M ?_ afp)]
 ·rw[az,e1];simp[T9 hs]
 unfold F? Oa;rw[ahD hs];rw[cW e2 (tH [bh,aZ,fm,CX,Cu,none] Zl) (JH (! lg))]
 ·rw[eF,az,bY,aP,e2];simp only[aP,bB,aN,bf,a!,ag,bo,hb];unfold As;cases Ho (fZ s).2 (fZ s).1<;>rfl
 ·have hk:dj lg:=pW
  rw[au hk (QN (av "none") M)]
 have hk:aL lg:=pW
 rw[hk,ek];rw[cW e3 (tH [bh,aZ,fm,CX,Cu,none] q!) (dP (Ri (IS (nI c8) M)))]
 ·rw[RD eF az];rw[ag,e3,ag,Wt h.iJ k xy,yy];simp
 ·rw[er cE ek (QN (av "held") M)]
 rw[cE,lR];rw[Et Ft ep (hp M W j x s h K.lv K.gl K.fl K.lk)];cases YY:sP Y W x s with
 |none=>
  rw[zS YY ep (ab1 .ai M (aK ep) ?_)];rw[gn];exact eK (OG M Θ (QN (av "red") M))
 |some r=>
  rw[YY]at ep;obtain⟨aa,p1,p2,p3⟩:=ep;rw[cW jN (K.wl r (K.lv r (amO YY))) (z9 kW aa (by rw[vm p1]))];rw[xH (yH aa (aK aLh) (dP Nr))];rw[lS e4 (p2.ix (ρ:=[bh,aZ,fm,CX,Cu,vo]) (d:=ao) rfl q!) h2 (p2.T8 (arW ((bN).take 1++[]) ((bN).drop 1))) (X0 (kJ (BQ ((bN).take 1++[]) ((bN).drop 1))) aa (ο 10) aa (η x) aa _ ?_ e4 (Ř p2) (Ŵ _ _ j h2 (p3.trans tM) (Ω rfl)))];rw[cH sa (ayW (M:=aa) jN) sb (ayX (M:=aa) jN)];unfold cb;simp only[aP,bB,aey,Zp,adi,aN,bo,bf,a!,ag,sa,sb];rw[gG (by rw[ia (3≤lim)]),j?];rfl
def ayY qt{d dk:bz}gJ KN(hd:dH=.ok (ο 7) M)(hk:Iz M=.ok (η x) M):Fb (UZ d "trains") dk ρ=.ok (kJ t) M:=by
 rw[az,h.ix hd q!,ag,hk,ag];exact Wu h.iJ k xy (by rw[yy,hx];rfl)
def OQ{t:gj}:vK (kJ t) 0=.ok atX M:=vd 0
def ad1{t:gj}:vK (kJ t) 1=.ok (b9 t.ahead) M:=vd 1
def amr{t:gj}:vK (kJ t) 2=.ok (.ah t.out) M:=vd 2
def aQD uY(h:w≠[]):vK (b9 w) 0=.ok (bw (w.headD (0,0,0))) M:=Ay (i:=0) (ZT h)
def aEA rL:Ro s 0=.ok (η s.1) M:=Og
def aQE rL:Ro s 2=.ok (η s.2.2) M:=ZS
def Ob GW:LF M (.ah b) M=.ok b M:=rfl
def Ts:Wl [] ρ M=.ok (ς []) M:=by rw[jj cb bB ag (gG a_)]
def aLj{b:fO}:ui false (bu b) .ai M=.ok (.ah b.isNone) M:=by cases b<;>rfl
def aem qt{bG dQ:D1}apk KN aps(hp:ayv Y dQ):
  DF Y j M (awD bG dQ [ο 7,η x] M) (ry Y W x) (rz Y W x):=by
 rw[oM awD P q (DF Y j M q (ry Y W x) (rz Y W x))]
 obtain⟨jf,OR,aS⟩:=K.sl x t hx
 unfold ry rz
 rw[g6 hx]
 refine qK (kJ t) (ayY h hx rfl rfl);rw[vV (bw g4) M (by simp only[az,aN,bo,bf,a!,ag,OQ,aQD aS];rfl)];rw[xH (L! t.out M (by simp only[dn,az,aN,bo,bf,a!,ag,amr,Ob]))]
 ·rw[er hk ek (QN (av "red") M)]
 rw[hk,lR];rw[vX (Ri (IS (!(d! IQ)) M))]
 ·simp only[eF,az,aN,bo,bf,a!,ag,ad1,Ts,eq_nil,if_true]
 ·have cE:aju []:=aX cE
  rw[ait cE cE]
  rw[Wg a69 (BP (Sx 0 0 0).1) (by
   refine K.al x t hx _ ?_;cases dS:t.ahead with
   |nil=>rw[kA dS cE]
   |cons a b=>simp) e1 (tH [bh,aZ,jW,Rx,none,none] ad7) h1 (h.an2 (Q0 (Sx 0 0 0)))];rw[v7 f1 (n5 (q3 j ((Q0 (Sx 0 0 0)).map bu))) tM (F0 .ai M (ο j) M (η (Sx 0 0 0).1) M (q3 j ((Q0 (Sx 0 0 0)).map bu)) rfl e1 ?_ ?_ fj)]
  ·simp only[az,aN,bo,bf,a!,ag,ad1,aQD cE,aEA]
  ·rw[Tv h.wl (by rw[nJ a69]),List.map_set];rfl
  rw[aso (q3 j ((Q0 (Sx 0 0 0)).map bu)) h1 f1];rw[lS e2 (Ai [bh,aZ,jW,Rx,none,none] q!) h2 (h1.T8 (zO (atm agX 1))) (Es (kJ (atm agX 1)) aa (ο 10) aa (η x) aa _ ?_ e2 rfl (Ř h1) (eZ (LN (av "ok") _ (eX (IY _ j h2 RA (Ω rfl))))))];rw[HS sa (ayW (M:=aa) OR) sb (ayX (M:=aa) OR) sc (aLi (M:=aa) (a:=agX) (b:=t.steps) (jk (aA4 _)) QM)]
  unfold cb;simp only[aP,bB,az,aey,Zp,adi,aN,bo,bf,a!,ag,OQ,ad1,sa,sb,sc];rw[cU (gG (by rw[ia (3≤lim)]))]
 have cE:IQ:=aX cE
 rw[rO dS (dS cE),rO dS (dS cE)];rw[cW e3 (tH [bh,aZ,jW,Rx,none,none] Zl) (dP (eZ (qL (bu abn))))]
 ·rw[bY,aP,e3];simp only[aP,bB,az,aN,bo,bf,a!,ag,aEA,aQE,hb]
 rw[xH (ur (abn).isNone M (by simp only[eF,az,aN,bo,bf,a!,ag,aLj]) (cJ lJ) (cJ lJ))]
 ·have lJ:bO abn:=aX lJ
  rw[lJ];rw[lS e4 (tH [bh,aZ,jW,Rx,Wn none,none] q!) h2 (h.T8 (zO (auy []))) (Es (kJ (auy [])) M (ο 10) M (η x) M _ ?_ e4 rfl (Ř h) (eZ (LN (av "ok") _ (eX (IY _ j h2 tM (Ω rfl))))))];have aE6:∀ρ,Wl [] ρ M=.ok (ς []) M:=λρ=>Ts;rw[sM];simp only[aP,bB,az,aN,bo,bf,a!,ag,OQ,aE6];rw[cU (gG (by rw[ia (3≤lim)]))]
 rw[aiQ b lJ b (LV g4 g4.2 b) (by
  cases dS:abn with
  |none=>rw[dS]at lJ;cases lJ
  |some b=>exact kS b)]
 rw[g6 lJ];rw[vX (eZ (ab1 .ai M rfl ?_))];rw[gn];rw[nE e5 (tH [bh,aZ,jW,Rx,Wn IF,some .ai] adu) et (dM [XI,bH] [bh,aZ,jW,Rx,Wn IF,some .ai] M=.ok (fQ (CD,b)) M) (by
  unfold dM;simp only[aP,bB,az,aN,bo,bf,a!,ag,aQE];rfl) (eK (ur (iR (CD,b) Y.ss) M ?_ (cJ A_) (cJ A_)))]
 ·rw[eF,az,et,ag,e5,ag];show(ŕ (aW [η CD,η b]) Rt M).bind _=_;rw[aZ8,ag];rfl
 ·rw[H6 A_ A_]
  have Y0:kI Y g4=aB6 (CD,b):=by rw[jA kI lJ (if_pos A_)]
  rw[Lj Y0 Option.bind_some];generalize hsi:Y.ss.idxOf (CD,b)=s
  rw[Iu ei (n8 J3 Sz [dM [XI,bH]] [bh,aZ,jW,Rx,Wn IF,some .ai] M=.ok (η s) M) (by
   unfold n8;rw[vU e5 ag F7];rw[aP,et];simp only[bB,ag];rw[aHA (enc:=fQ) anr ani (a:=(CD,b)) A_,hsi]) ep (hp M W j x s h K.lv K.gl K.fl K.lk)];cases YY:sP Y W x s with
  |none=>
   rw[zS YY ep (Of .ai M ?_ fj)]
   ·rw[bY,aP,aN];simp only[bf,a!,ag];rw[aP,ei];simp only[aP,bB,aN,bf,a!,ag,ep]
   rw[gn]
   exact eK (OG M Θ (QN (av "red") M))
  |some r=>
   rw[YY]at ep;obtain⟨aa,p1,p2,p3⟩:=ep;rw[Option.getD_some];rw[cW jN (K.wl r (K.lv r (amO YY))) (Of kW aa ?_ fj)]
   ·rw[bY,aP,aN];simp only[bf,a!,ag];rw[aP,ei];simp only[aP,bB,aN,bf,a!,ag,p1]
   rw[xH (yH aa (aK aLh) (dP Nr))];rw[lS e6 (p2.ix (ρ:=[bh,aZ,jW,Rx,Wn IF,vo]) (d:=ao) rfl q!) h2 (p2.T8 (arW (asj ((bN).take 1)) ((bN).drop 1))) (X0 (kJ (BQ (asj ((bN).take 1)) ((bN).drop 1))) aa (ο 10) aa (η x) aa _ ?_ e6 (Ř p2) (Ŵ _ _ j h2 (p3.trans tM) (Ω rfl)))];rw[HS sa (ayW (M:=aa) jN) sb (ayX (M:=aa) jN) sc (aLi (M:=aa) (a:=(bN).take 1) (b:=t.steps) (jk (aA4 _)) QM)];rw[sM];simp only[aP,bB,az,aey,Zp,adi,aN,bo,bf,a!,ag,OQ,sa,sb,sc];rw[cU (gG (by rw[ia (3≤lim)]))]
 ·rw[fG A_ (of_decide_eq_false A_) Y0 (bO (kI Y g4)) (by rw[jA kI lJ (if_neg A_)])]
  rw[au Y0 (dP (Ri (OG M Θ (QN (av "red") M))))]
def rh qt apk KN:DF Y j M (awj [ο 7,η x] M) (yJ W x) (wD W x):=by
 rw[oM awj P q (DF Y j M q (yJ W x) (wD W x))]
 obtain⟨jf,OR,aS⟩:=K.sl x t hx
 unfold yJ wD
 rw[g6 hx]
 refine qK (kJ t) (ayY h hx rfl rfl);rw[gn]
 rw[kB el (∀M',e! [atX] M'=.ok (η t.steps.length) M') (λM'=>by
  rw[yc e! pv];rw[eP]) e1 (∀M',bb (tB (tR xN) (Ξ 1)) [bh,aZ,jW] M'=.ok (d! (ħ 1)) M') (λM'=>by
  simp only[eF,bY,aP,bB,az,aN,bo,bf,a!,ag,OQ,el,sI];by_cases fR:ħ 1
  ·simp[fR]
  ·rw[Xn h8 (aU t.steps.length=1) fR h8]) (JH (d! (ħ 1/\atJ)))]
 ·rw[ll,e1,ag];simp only[TF,dn,az,aN,bo,bf,a!,ag,amr,Ob];by_cases fR:ħ 1
  ·cases h2:t.out<;>simp[fR]
  ·simp[fR]
 ·rw[H6 hk hk];rw[au HM (QN (av "held") M)]
 have hk:=aqY;rw[jF hk];rw[cH e4 (tH [bh,aZ,jW] q!) h2 (h.T8 (zO LY))];rw[cV f2 (n5 (Hu 10 .aj eR (zO LY))) tM (dP (eZ (Es (kJ LY) M (ο 10) M (η x) M _ ?_ e4 rfl (Ř h) fj)))]
 ·have sa:=a4J (M:=M) QM;rw[sM];simp only[aP,bB,az,aey,Zp,adi,aN,bo,bf,a!,ag,OQ,ad1,amr];rw[BZ ((AJ (Ξ 1) [bh,aZ,jW] M)=.ok (η (-1)) M)]
  rw[tT sa];rw[cU (gG (by rw[ia (3≤lim)]))]
 rw[aso (Hu 10 .aj eR (zO LY)) h2 f2];refine eK (ur (d! (ħ 1)) aa (e1 aa) (cJ cE) (cJ cE))
 ·rw[H6 cE cE];rw[if_pos cE];rw[lS e6 (Np [bh,aZ,jW] d q!) h3 (h2.T8 (Qn x)) (T7 (k:=xy) (y:=η x) (kJ LY) e6 h2.iJ rfl rfl (by rw[yy,q_,ek];rfl) (Ŵ _ _ j ?_ (ahV tM) (Ω rfl)))];rw[aGS]
  have:ig (zO LY) x=Qn x:=by
   unfold ig iY;split
   ·rw[aqm]
    rw[aP6 g (vY (by
     have:=arh aAZ;by_cases dS:q.1=x
     ·exfalso;simp only[Function.comp,dS,if_true]at this;exact this rfl
     ·simp[dS])),List.map_id]
    refine aBx q _;rw[aq4];rw[xx dS q.1 x dS]
   ·rw[fk List.filter_append]
  rw[au this h3]
 ·have cE:=aPH;rw[Qf cE (dP (Ŵ aa aa j h2 f2 (Ω rfl)))]
universe zE
universe Sb
universe zE
end
mutual
section
namespace Sb
open PySem L2
abbrev AG gI(pre:ef)(d:xW):xW:=HJ q (aqu (q.1∈pre) q.1 (J_ x q.1 q.2) q)
def aIg gI(pre:ef)ew:∀d:xW,cG (AG x pre d) r=(cG d r).map λu=>qV r pre (J_ x r u) u
 |[]=>rfl
 |q::d=>by
  have ih:=aIg x pre r d;unfold AG at ih⊢;rw[b6,sJ,sJ,ih];rw[RP q.1 pre]
  ·rw[CJ];rw[uh q r]
   ·subst e;simp[h]
   ·simp[e]
  ·rw[jF h];rw[uh q r]
   ·subst e;simp[h]
   ·simp[e]
def aVK gI(pre:ef)(d:xW):gz (AG x pre d).map=qS:=by
 rw[dO AG List.map_map];refine List.map_congr_left λq _=>?_;rw[aq4];split<;>rfl
def aWd fW{pre:ef}{d:xW}fz{u:AZ}(hn:Ja)(hr:cG d r=dG)(hp:r∉pre):iY (AG x pre d) r (J_ x r u)=AG x (pre++[r]) d:=by
 rw[dO iY (jB ((any_keys _ _).mpr (by rw[aVK,mem_keys,hr];rfl)))];rw[dO AG List.map_map]
 refine List.map_congr_left λq hq=>?_;rw[uh q r]
 ·have h1:=z! hn;rw[e,hr]at h1;rw[fG h2 VQ h3 (q.1∉pre) (by rw[nT hp])]
  rw[ahj (if_neg h3) xF];rw[ahz e,e,←h2]
 ·rw[RP q.1 pre]
  ·rw[ahj CJ vg];rw[ahz h]
  ·rw[ahj zH vg];rw[vQ (f_ h e)]
def aWe fW{d:xW}:AG x qS d=iH (J_ x) d:=by
 unfold AG iH;rw[Cv (List.map_congr_left λq hq=>?_) (jB (j4 q hq))]
def aWf fW{d:xW}:AG x [] d=d:=by
 rw[iT AG (aP6 g (λq _=>Θ)) List.map_id]
def aYT lK mh Uw:A1 (w++[s]) l=(A1 w l).set s.1 none:=by rw[aa8 A1]
section
variable {Y:eD}{M:ba}{W:bC}{j:Nat}{ρ:aY}
def Tr qt apk(hfn:gE mT)(yZ:yp W.falls (lO q.2.ns.length))KN:DF Y j M (awk [ο 7,η x] M) (J? W x) (F_ W x):=by
 rw[oM awk P q (DF Y j M q (J? W x) (F_ W x))]
 obtain⟨jf,OR,aS⟩:=K.sl x t hx
 unfold J? F_
 rw[g6 hx]
 refine qK (kJ t) (ayY h hx rfl rfl);rw[xH (L! t.out M (by simp only[dn,az,aN,bo,bf,a!,ag,amr,Ob]))]
 ·rw[er hk ek (QN (av "red") M)]
 rw[hk,lR];refine dP fj
 rw[v7 ei (Fb aD (Ξ 1) [bh,aZ,jW,none,none,none,none]=.ok (ς (t.ahead.map bw)) M) (by
  simp only[az,aN,bo,bf,a!,ag,ad1]) (oS bw (SE aa (∃y,ρ=[bh,aZ,jW,y,none,none,none]/\zA aa (SN W (aqk pre))/\n5 aa)) t.ahead M (jL ei) (pV none h kt.refl))]
 ·rw[abj s avw ρ aa y rfl h1 f1 _];rw[Ą a6f (BP s.1) (K.al x t hx s (by rw[fk avw])) e2 (Ai [bh,aZ,jW,lP,none,none,none] ad7) (F0 .ai aa (ο j) aa (η s.1) aa (abX j ((aqk (pre++[s])).map bu)) rfl e2 (by simp only[az,aN,bo,bf,a!,ag,aEA]) ?_ (jz (pV _ (h1.an2 _) RA)))];rw[Tv h1.wl (by rw[eP];rw[Wf (s.1<cC (aqk pre)) amM a6f]),aYT,List.map_set];rfl
 ·rw[ah9 ρ' aa y rfl h1 f1 fj]
  rw[cV uu (anu false xN (Dr MX) [bh,aZ,jW,y,none,none,none] aa=.ok (ς (t.steps.reverse.map bw)) aa) (by
   unfold anu;simp only[az,aN,bo,Zp,bf,a!,ag,OQ];rw[BZ ((AJ (Ξ 1) [bh,aZ,jW,y,none,none,none] aa)=.ok (η (-1)) aa)]
   simp only[ag];rw[HD aEh ek F7];rw[List.map_reverse,gG (by rw[er List.length_reverse eP QM])]) (nF (b9 zZ) aa)]
  ·rw[Xc t.steps.reverse w aa bw (λs=>bw QH) (nZ (ρ=[y])) (jL uu) (qM s) (by rw[aAN QM])]
   ·rw[BI _ _,gG (by rw[er eP List.length_reverse QM])];rw[Hs b9]
   ·rw[MH y _ (Xl bw flip dM)]
  rw[gn];rw[cH e4 (Ai [bh,aZ,jW,y,H_ zZ,none,none] q!) h2 (h1.T8 (akE []))];rw[v7 f2 (n5 (aa.set 10 (.aj (cc eR (akE []))))) RA (X0 (kJ (BQ zZ [])) aa (ο 10) aa (η x) aa _ ?_ e4 (Ř h1) fj)]
  ·have aE6:∀ρ,Wl [] ρ aa=.ok (ς []) aa:=λρ=>Ts;rw[sM];simp only[aP,bB,aN,bo,bf,a!,ag,aE6];rw[cU (gG (by rw[ia (3≤lim)]))]
  generalize aa.set 10 (.aj (cc eR (akE [])))=M2 at h2 f2;rw[nE e5 (Np [bh,aZ,jW,y,H_ zZ,none,none] d J1) el (ax LA [ye] [bh,aZ,jW,y,H_ zZ,none,none] M2=.ok (ς ((mT).map (gQ (r:Nat) (aU r)))) M2) (by
   rw[bY,aP,e5];rw[tT bB];rw[yc oy (o! h2.ju)];rw[aKN,gG (by rw[ai9 K.fl])]) (eK (oS (gQ (r:Nat) (aU r)) (SE bq (∃a b,ρ=[bh,aZ,jW,y,H_ zZ,a,b]/\zA bq { W with locks:=asM,trains:=akE [],falls:=at3 x pre}/\n5 bq)) mT M2 (jL el) (kX none none (by rw[au aWf h2]) f2)))]
  ·rintro pre r post avw ρ bq ⟨a,b,rfl,h3,f3⟩
   rw[Im _];have OP:=ax3 hfn avw;rw[S! u hu ((ahM _).mp (show r∈mT by rw[fk avw]))]
   rw[Ą hg (cG (at3 x pre) r=dG) (by rw[aIg,hu];simp[OP]) e6 (h3.ix (ρ:=[bh,aZ,jW,y,H_ zZ,bS,b]) (d:=ao) rfl J1) (nF (gA r u) bq)]
   ·rw[az,e6,ag,aN];rw[agM ag (Wu h3.ju k (jC r) (by rw[ux,hg];rfl))]
   rw[agL sG (h3.ix (ρ:=[bh,aZ,jW,y,H_ zZ,bS,ŝ r u]) (d:=ao) rfl J1) avu (yZ _ (wj hu)) (X0 (gA r (J_ x r u)) bq (ο 9) bq (η r) bq (bq.set 9 (.aj (zz gA (at3 x (pre++[r]))))) ?_ sG ?_ (jz (Cr _ (h3.aod _) (f3.trans tM))))]
   ·rw[iA a7u (fN (gA r u) (η 0) bq=.ok (η u.u) bq) rfl j1 (fN (gA r u) (η 1) bq=.ok (je u.ns) bq) rfl j2 (fN (gA r u) (η 2) bq=.ok (.ah u.bd) bq) rfl ec (WB Wz (cj (C0 (ae 6))) QW ao [bh,aZ,jW,y,H_ zZ,bS,ŝ r u] bq=.ok (je (u.ns.filter (pX z z x))) bq) (by
     rw[We u.ns w bq (gQ gm n) (pX z z x) (gQ gm n) (nZ (ρ=[y,aZ])) (jL (by simp only[az,aN,bo,bf,a!,ag,j1])) (qM z) (jk avu)]
     ·exact gG (by rw[nJ (PJ Jh avu)])
     ·rw[QT y _ ?_ BD];simp only[List.set_cons_zero,eF,az,aN,bf,a!,ag,sI];rw[xx dS z x dS])]
    rw[yC];simp only[aP,bB,ec,ag,az,aN,bo,bf,a!,a7u,j2];rfl
   ·rw[ajh h3.ju r (by rw[amu];show cC (at3 x pre)<_;rw[jA AG eP (Lp K.fl)]),←aWd hfn hu OP]
    congr 3
    exact amt gA r (J_ x r u) _
  ·rw[L6 bq a b rfl h3 f3];refine Ŵ bq bq j ?_ f3 (Ω rfl);rw[bF aWe h3 h3]
universe zE
universe Sb
universe zE
section
namespace Sb
open PySem L2
def aI2 aap:∀aoK aoU,Yj f j a w->nO w (pO s.1)
 |[],_,_,_,_,s,h=>Cg
 | (a',j',o)::w,f,j,a,c,s,h=>by
  obtain⟨_,_,_,h1,_,h2⟩:=c;rcases EC with rfl | h
  ·exact h1
  ·exact aI2 w false o _ h2 s h
def aYU{p:fy}{a:Nat}aOL(hj:j∈p.js)(ho:anF p j o)(hp:aL (uA p)):aEg p (a,j,o)=Kh p (a,j,o):=by
 cases p with
 |pl x y=>cases hp
 |pt t u b=>
  rw[k9 ho.ne ho.mem];have h3:=ho.aRX rfl;simp only[fy.js,List.nodup_cons,List.mem_cons,List.not_mem_nil,or_false,not_or,List.headD_cons]at hn hj h2 h3;simp only[aEg,Kh,List.mem_cons,List.not_mem_nil,or_false];rw[←decide_not];refine decide_eq_decide.mpr ?_;rw[HS n1 hn.1.1 n2 hn.1.2 n3 hn.2.1];constructor
  ·rintro(e | e) (e' | e')<;>rcases h3 with h3 | h3<;>omega
  ·intro hh;rcases h3 with h3 | h3
   ·rcases h2 with h2 | h2 | h2
    ·omega
    ·exact ay h2.symm
    ·rw[n0 (ay h2.symm) hh]
   ·rcases hj with hj | hj | hj
    ·omega
    ·exact Ω hj.symm
    ·rw[n0 (Ω hj.symm) hh]
def aIh aap(hn:ag1 ps):∀aoK aoU,Yj f j a w->(∀b,aO a b->j∈(eV b).js)->nO w (aL (Au ps s.1)->lD ps s=amS ps s)
 |[],_,_,_,_,_,s,h,_=>Cg
 | (a',j',o)::w,f,j,a,c,hj,s,h,hp=>by
  obtain⟨e1,e2,_,h1,h3,h2⟩:=c;subst e2;rcases EC with rfl | h
  ·exact aYU (hn _ (ayi h1)) (hj a' e1) h3 hp
  ·exact aIh hn w false o _ h2 (v5 (adE hb).2.2) s h hp
structure JS gD:Prop where
 g:aRP Y.ps Y.ss
 rs:Y.rs=ak7 Y.ps Y.ss
 wt:0≤Y.wait
def a3d{rs:w9}az4:(G2 rs r,Yq rs r)∈rs:=aAV (aKb h)
section
variable {Y:eD}
def JS.ok D4:aJ3 Y.ps Y.ss (bZ,bN):=aYF G.g (by rw[cw G.rs (a3d hr)])
def JS.head D4:(fZ bZ).2∈we Y.rs r:=by
 rw[HS h nK h1 h.ne h2 h.chain];unfold we;dsimp only at h1 h2;cases e:bN with
 |nil=>rw[CI h1]
 |cons s w=>
  rw[ate e h2 a' j' o s];obtain⟨h3,_⟩:=h2;cases h3;simp
def JS.cZ dX:aQN:=by
 rw[d_ (qN (nK).nd) (i? r hr p hp) (lV r hr r' hr' e)]
 ·rw[BC s hs hp (aI2 _ _ _ _ (nK).chain s hs)]
 ·rw[b5 (fZ bZ).2 (G.head hr) (by rw[nT (G.head hr')])]
def JS.sg D4:HY bZ:=(nK).lt
def JS.l0 D4:abG (apV s.1->lD Y.ps s=amS Y.ps s):=by
 refine aIh G.g.once _ _ _ _ (nK).chain oX;cases hb;exact(ai2 (ZG M_)).2
def JS.len dX:arQ:=by
 rw[G.rs];unfold ak7;have:=Zr (List.range Y.ss.length) λk _=>awx Y.ps Y.ss k;rw[gX h2 G.g.AW List.length_range this];omega
def JS.wl D4:XM:=by
 rw[k9 (nK).len G.g.fc];dsimp only at h1;omega
universe zE
structure Um jS mh:Prop where
 lt:pO s.1
 i:s.2.1∈(eV s.1).js
 o:anF (eV s.1) s.2.1 s.2.2
abbrev rB:cS fU
 |[]=>True
 |[_]=>True
 |a::b::w=>a.2.1=b.2.2/\a.1≠b.1/\rB (b::w)
structure anQ jS(t:gj):Prop where
 ok:Vz (Um ps s)
 alN:rB t.steps
def axg aap:∀aoK aoU,Yj f j a w->(∀b,aO a b->j∈(eV b).js)->nO w (Um ps s)
 |[],_,_,_,_,_,s,h=>Cg
 | (a',j',o)::w,f,j,a,c,hj,s,h=>by
  obtain⟨e1,e2,_,h1,h3,h2⟩:=c;subst e2;rcases EC with rfl | h
  ·rw[b5 h1 (hj a' e1) h3]
  ·exact axg w false o _ h2 (v5 (adE hb).2.2) s h
def aHC aap{s s':q6}{r:fU}:∀aoK aoU l!,Yj f j a w->w.drop k=s::s'::r->ahC s.1 s.2.2 s'.1/\s'.2.1=s.2.2/\(s.2.2,s'.1)∉ss
 |[],_,_,_,k,_,h=>Cg
 | (a',j',o)::w,f,j,a,0,c,h=>by
  obtain⟨e1,e2,_,h1,h3,h2⟩:=c;rw[List.drop_zero]at h;rw[Lo rfl (List.cons.inj h)];obtain⟨a2,j2,o2⟩:=s';obtain⟨h4,h5,h6,_⟩:=h2;rw[b5 h4 h5 (h6 rfl)]
 | (a',j',o)::w,f,j,a,k+1,c,h=>by
  obtain⟨_,_,_,_,_,h2⟩:=c;exact aHC w false o _ k h2 h
def three UC{a b c:Nat}Po(ha:pO a)(hb:pO b)(hc:pO c)aN3(a7x:j∈(eV c).js)(h1:a≠b)(h2:a≠c)(h3:b≠c):False:=by
 rw[fG h (hg.two j) m (∀{x:Nat},pO x->j∈(eV x).js->x∈DP ps j) (λhx a7z=>apR hx (aX a7z))];rw[HS ma (m ha aRB) mb (m hb aFi) mc (m hc a7x)];generalize DP ps j=l at h ma mb mc
 match l,h with
 |[],_=>simp at ma
 |[x],_=>simp at ma mb;omega
 |[x,y],_=>simp at ma mb mc;omega
 |_::_::_::_,h=>rw[E6]
def aYV UC aab Po(ha:pO a)(hb:pO b)aN3(h:b≠a):ahC a j b:=by
 cases e:IC j with
 |none=>
  unfold beyond at e;rw[bF List.find?_eq_none e (Rf (f_ h aFi) (e b (List.mem_range.mpr hb)))]
 |some c=>
  obtain⟨h1,h2,h3⟩:=adE e;by_cases hc:c=b
  ·rw[hc]
  ·exact(three hg ha hb h1 aRB aFi h3 h.symm h2.symm (Ne.symm hc)).elim
def aHD gC{p:R0}:∀l:qy,l.Pairwise (λa b=>¬(ajY a/\ajY b))->aDM=(atE).toList
 |[],_=>rfl
 |a::l,h=>by
  rw[vE (List.pairwise_cons.mp h)];rw[rR e (p a)]
  ·rw[List.filter_cons_of_pos e,List.find?_cons_of_pos e];have:aDM=[]:=List.filter_eq_nil_iff.mpr λb hb hp=>h1 b hb ⟨e,hp⟩;rw[auz]
  ·rw[List.filter_cons_of_neg e,List.find?_cons_of_neg e,aHD l h2]
section
variable {Y:eD}{W:bC}{B:cF}
abbrev OH ki:Prop:=∀x t,c8=eG->anQ Y.ps t
def aHE dX azo aN8 rL{a:fU}(h:t.ahead=s::a):LV g4 g4.2 s.1/\s.2.1=CD/\(CD,s.1)∉Y.ss/\ajT s:=by
 obtain⟨r,k,hr,e,_⟩:=T.eE (by rw[fk h]);rw[gX c (nK).chain h e];rw[x9 h1 h2 h3 (aHC _ _ _ _ k c e.symm) ⟨h1,h2,h3,axg _ _ _ _ c oX s (List.mem_of_mem_drop (i:=k) ?_)⟩]
 ·cases hb;exact(ai2 (ZG M_)).2
 ·show s∈(bN).drop k;rw[ū e]
def alU dX rL ee(hs:ajT s)(hk:HY k):JG s k↔s.2.2=(fZ k).1/\s.1≠(fZ k).2:=by
 have hg:=ai2 (ZG hk);unfold kI;constructor
 ·intro h;split at h
  ·rename_i b hb;split at h
   ·rename_i hm;rw[fG e aBO e2 (fZ k=(s.2.2,b)) (by
     rw[←e];rw[k9 aO1 (amG h1)];rw[List.getElem?_eq_getElem h1,List.getElem_idxOf]at h2;exact(Option.some.inj h2).symm)]
    rw[e2]
    rw[b4 rfl (adE hb).2.1.symm]
   ·cases h
  ·cases h
 ·rw[ahU h2];have hb:LV s s.2 (fZ k).2:=aYV G.g hs.lt hg.1 hs.o.mem (by rw[au h1 hg.2]) (Ne.symm h2)
  rw[g6 hb]
  have e:(s.2.2,(fZ k).2)=fZ k:=k6 h1
  rw[e,jB (ZG hk)];rw[gX h3 (amG hk) (List.getElem?_eq_getElem hk) h3];rw[←Option.some.inj h3,List.Nodup.idxOf_getElem G.g.nd k hk]
def Tx dX azo ee aN8(J:anQ Y.ps t)(hk:HY k):d! (JG g4 k)=ZH Y k t:=by
 rw[cH hs (J.ok _ (J5 T.ne)) hi (alU G hs hk)];unfold ZH;rw[jq (JG g4 k)]
 ·rw[bM h1 IQ (by
   cases e:t.ahead with
   |nil=>rfl
   |cons s a=>
    obtain⟨h1,_,h3,_⟩:=aHE G T e;rw[nN kI];rw[qT h1 h h];rw[if_neg h3]at h;cases h) h2 atJ (by
   cases e:t.out with
   |false=>rfl
   |true=>
    have:=(T.ot e).2;rw[BA kI h this h];cases h)]
  have h3:=hi.mp h;simp[h,h1,h2,h3.1,h3.2]
 ·have h3:=mt hi.mpr h;rw[aBN];symm;by_cases h4:CD=(fZ k).1
  ·have:¬g4.1≠(fZ k).2:=λh5=>h3 ⟨h4,h5⟩;simp[this]
  ·simp[h4]
def a1c dX GO(J:OH Y W)ee(hk:HY k):JT Y W.trains k=(þ Y k).toList:=by
 have hT:Qg q (aO (agy q.1) q.2):=vY auv
 have e1:aB0 (λq=>ZH Y k q.2)=aB0 (Cz (JG (cg q.2) k)):=
  List.filter_congr λq hq=>(Tx G (JO (hT q hq)) (J _ _ (hT q hq)) hk).symm
 unfold JT avJ;rw[e1,aHD]
 ·rw[S.trains];rw[dO iH List.find?_map];show List.map _ (aCB (aq6 q (JG (cg q.2.tr) k))).toList=_;cases aq6 q (JG (cg q.2.tr) k)<;>rfl
 ·rw[cV hp (W.trains.Pairwise (λa b=>a.1≠b.1)) (List.pairwise_map.mp I.i_) (List.Pairwise.imp_of_mem ?_ hp)];rintro a b ha hb aS ⟨h1,h2⟩;rw[L? hTa (hT a ha) hTb (hT b hb) oa ((J _ _ hTa).ok _ (J5 (JO hTa).ne)) ob ((J _ _ hTb).ok _ (J5 (JO hTb).ne))];rw[L? aRA ((alU G oa hk).mp aA9) ib ((alU G ob hk).mp ahd) hg (ai2 (ZG hk)) hd ((I.yt _ _ _ _ hTa hTb aS).1 _ (J5 (JO hTa).ne) _ (J5 (JO hTb).ne))];exact three G.g (j:=(fZ k).1) oa.lt ob.lt hg.1 (by rw[cw aRA.1 oa.o.mem]) (by rw[cw ib.1 ob.o.mem]) hg.2 hd aRA.2 ib.2
def ayw(S:K7)(p:Int):Jy=VG p:=by
 unfold N6 tq;rw[S.trains];rw[dO iH List.find?_map];show aCB (aCB (aq6 q (p∈abu q.2 s.1)))=_;cases aq6 q (p∈abu q.2 s.1)<;>rfl
def a8s apm:aKZ Y W:=by
 have hn:=G.g.fc;refine⟨λr h=>(mK h).1,í (Y! I.oA (cK h (I.avm h))) G.len,?_,dB r h,qN Ś,I.i_,S_ I.aEk aB,λx t h=>⟨?_,?_,(sr h).ne⟩,lV x t h s hs⟩
 ·rw[EW (Y! I.Iy λx h=>(I.own x (ay h)).1) eP (Nat.le_trans this G.len)]
 ·have hr:=(mK h).1;rw[I.ln];have aS:=(nK).ne;dsimp only at aS;cases e:bN with
  |nil=>rw[CI aS]
  |cons s w=>exact ahN r s.1 (by rw[dO we e];simp)
 ·rw[e9 (I.afn h)]
 ·rw[e9 (I.a5Q G.cZ h)]
 ·obtain⟨r,hr⟩:=(sr h).al hs;rw[au I.ln (I.lt hr)]
universe zE
universe Sb
universe zE
section
namespace Sb
open PySem L2
inductive fV where
 |set
 |cancel
 |throw
 |enter
 |tick
 |go
 |draw
 |turn
 deriving DecidableEq
abbrev fV.s:fV->Str
 |iW=> "set"
 |jn=> "cancel"
 |kE=> "throw"
 |jo=> "enter"
 |iD=> "tick"
 |.go=> "go"
 |gZ=> "draw"
 |jH=> "turn"
abbrev anm ki ew:Bool:=ud&&(! MR||kq)
abbrev du ki Bl:qn:=match w with
 |iW=>ajy (K? i) (Vv (heldW W (Yq Y.rs i.toNat)) held .ok)
 |jn=>ajy (K? i) (qV i.toNat W.green .ok cT)
 |kE=>ajy (HK i) (Vv (m7 W i.toNat) held .ok)
 |jo=>F? Y W x i
 |iD=>.ok
 |.go=>ry Y W x
 |gZ=>yJ W x
 |jH=>J? W x
abbrev F1 ki Bl:bC:=match w with
 |iW=>tZ (lD Y.ps) W i.toNat
 |jn=>if anm Y W i.toNat then T5 W i.toNat ⟨Q2,JT Y W.trains (Lm i.toNat),As Y (Lm i.toNat)⟩ else ZE W i.toNat
 |kE=>tj W i.toNat
 |jo=>Oa Y W x i
 |iD=>Gd W
 |.go=>rz Y W x
 |gZ=>wD W x
 |jH=>F_ W x
abbrev DG ki Bl:bC:=match nY with
 |.ok=>Jo
 |_=>W
structure a0t ki:Prop where
 I:aGy Y W
 D:Due W
 J:OH Y W
def rB.init:∀uY,rB w->rB w.dropLast
 |[],_=>trivial
 |[_],_=>trivial
 |[_,_],_=>trivial
 |a::b::c::w,h=>⟨h.1,h.2.1,rB.init (w:=b::c::w) h.2.2⟩
def rB.snoc{b:q6}:∀uY,rB w->(∀a∈w.getLast?,a.2.1=b.2.2/\a.1≠b.1)->rB (w++[b])
 |[],_,_=>trivial
 |[a],_,h=>by have:=h a Θ;rw[b5 this.1 this.2 trivial]
 |a::c::w,h1,h=>⟨h1.1,h1.2.1,rB.snoc (w:=c::w) h1.2.2 (λz hz=>h z (by rw[au List.getLast?_cons_cons hz]))⟩
def rB.flip:∀uY,rB w->rB (w.reverse.map flip)
 |[],_=>trivial
 |[_],_=>trivial
 |a::b::w,h=>by
  have ih:=rB.flip (w:=b::w) h.2.2;rw[List.reverse_cons,List.map_append];refine rB.snoc ih (dB z hz);rw[List.getLast?_map,List.getLast?_reverse]at hz
  have e:z=Sb.flip b:=aX hz.symm
  rw[e]
  rw[b4 h.1.symm h.2.1.symm]
def Um.flip uX rL(h:Um ps s):Um ps QH:=⟨h.lt,h.o.mem,⟨h.o.ne.symm,h.i,dF (h.o.aRX e).symm⟩⟩
section
variable {Y:eD}{W:bC}
def aI3{d:ab4}Bj(h:bO (N6 d p)):yp d (nO q.2.steps (s.1≠p)):=by
 rw[nN N6];rw[Option.map_eq_none_iff,List.find?_eq_none]at h;intro q hq s hs e;refine h q hq ?_;simp only[decide_eq_true_eq];exact U4 s hs (k6 e)
def NA fz apm KX(h:Ģ W):(gb (we Y.rs r) (aum p))/\∀x t,c8=eG->Vz (s.1∉we Y.rs r):=by
 rw[BA heldW h List.any_eq_false h];rw[fF sy (xX x t hx s hs hp)]
 ·have fq:=ahN r p hp;rw[rZ z hz hp];have h1:=h z hz;unfold m7 at h1;rw[Bool.or_eq_true,not_or]at h1;rw[fG h2 h1.1 hl (BP z.1) (by rw[au I.ln fq])]
  rw[List.getD_eq_getElem?_getD,SI]at h2;rw[SI];cases e:W.locks[z.1] with
  |none=>rfl
  |some _=>rw[nG e h2 h2]
 ·rw[Cb z hz e hp];have h1:=h z hz;unfold m7 at h1;rw[Bool.or_eq_true,not_or]at h1
  rw[vI h2 (bO (Á (aU z.1))) (by
   cases e:Á (aU z.1) with
   |none=>rfl
   |some _=>rw[nG e h1 h1]) (aI3 h2 _ (wj hx) s hs e.symm)]
def OH.put(J:OH Y W){W':bC}qt(ht:auM (zO t))(hT:anQ Y.ps t):OH Y W':=λy u hu=>by
 rw[ht,q_]at hu;rw[Dd y x]
 ·rw[xF]at hu;cases hu;exact hT
 ·rw[bF vg hu (J y u hu)]
def OH.same(J:OH Y W){W':bC}(ht:auM W.trains):OH Y W':=λy u hu=>J y u (by rw[cw ht hu])
def aYW D4:∃o w,bN=((fZ bZ).2,(fZ bZ).1,o)::w:=by
 rw[k9 (nK).ne (nK).chain];dsimp only at h1 h2;cases e:bN with
 |nil=>rw[CI h1]
 |cons s w=>
  rw[ate e h2 a' j' o s];obtain⟨h3,h4,_⟩:=h2;cases h3;rw[b5 o w (k6 h4)]
def ayx D4:abG (ajT s):=axg _ _ _ _ (nK).chain (v5 (by
 cases hb;exact(ai2 (ZG M_)).2))
def aJP aOH:bZ=s:=by
 have:=aBP;unfold AP at this;exact aAK (Bool.and_eq_true_iff.mp this)
def aJQ dX fz{old:fU}{a:fU}GW KX(h1:nO old (ajT s))(h2:rB old)(h3:nO old.head? (kI Y s=aT bZ)):anQ Y.ps ⟨(bN).take 1++old,a,b⟩:=by
 rw[arX o w e (aYW G hr) h (ayx G hr) e h];rw[e];rw[WN s hs ?_]
 ·rcases List.mem_cons.mp hs with rfl | hs
  ·exact h _ Θ
  ·exact h1 s hs
 ·cases old with
  |nil=>trivial
  |cons s old=>
   have:=(alU G (h1 s Θ) M_).mp (h3 s Θ);rw[b5 this.1.symm this.2.symm h2]
def aG7{W:bC}:Xj (Gd W)=W.trains:=by
 unfold Gd
 have:∀aax,Xj (Vy W)=W.trains:=λrs=>by
  induction rs with
  |nil=>exact ÿ W
  |cons r rs ih=>
   intro W;rw[List.foldl_cons,ih];unfold n7;split<;>rfl
 exact this _ _
def amP Pc dX(h:Bu)(hk:nY=.ok):I3 Jo:=by
 rw[fG R G.cZ aS agg (qN (nK).ne)];cases w with
 |set=>
  rw[aCi du hk hk];split at hk
  ·rename_i hn;split at hk
   ·cases hk
   ·rename_i hh;rw[zJ r hr hn];rw[Int.toNat_natCast]at hh;rw[aaK hf ht (NA G h.I hr (aX hh)) (set_inv R h.I hr (aS r hr) hf ht) h.D asU]
  ·cases hk
 |cancel=>
  rw[aCi du hk hk];split at hk
  ·split at hk
   ·rename_i hg;rw[pU F1];split
    ·rename_i hq;have hw:=(Bool.and_eq_true_iff.mp hq).1;rw[d_ (SF h.I hg) (aYp h.D ?_ (h.I.yX _ hg)) asU];have:=of_decide_eq_true hw;rw[Q6 (W.now<Q2)]
    ·rw[b5 (aUU R h.I hg) h.D asU]
   ·cases hk
  ·cases hk
 |throw=>rw[b5 (aWr h.I) (aWt h.D) asU]
 |tick=>rw[b5 (aYm R h.I) (aYo h.I) (h.J.same aG7)]
 |enter=>
  have hk:F? Y W x i=.ok:=hk;unfold F? at hk;split at hk
  ·split at hk
   ·split at hk
    ·cases hk
    ·rename_i hx;split at hk
     ·rename_i r hp;show I3 (Oa Y W x i)
      rw[dO Oa hp];rw[HU hl (amO hp) hr (h.I.own r hl).1 hx (bO c8) (aX hx)]
      rw[b5 (aIF R h.I hl (aS r hr) (λt ht=>by rw[hx]at ht;cases ht) BD) (aIH h.D) (Ø (aJQ G hr Θ trivial Θ))]
     ·cases hk
   ·cases hk
  ·cases hk
 |go=>
  have hk:ry Y W x=.ok:=hk;show I3 (rz Y W x);unfold ry at hk;unfold rz;cases hx:c8 with
  |none=>rw[hx]at hk;cases hk
  |some t=>
   rw[hx]at hk;dsimp only at hk⊢;rw[cH T (h.I.tr x t hx) J (h.J x t hx)];split at hk
   ·cases hk
   ·split at hk
    ·rename_i ha;rw[if_pos ha];rw[d_ (aYq R h.I hx ha) (akU h.D q hq) (Ø ?_)];cases e:t.ahead with
     |nil=>rw[CI ha]
     |cons s a=>
      obtain⟨h1,h2,_,h4⟩:=aHE G T e;rw[WN z hz ?_]
      ·rcases List.mem_cons.mp hz with rfl | hz
       ·exact h4
       ·exact J.ok z hz
      ·rw[cH hl J.alN hn T.ne];unfold cg at h1 h2;show rB (s::t.steps);cases e2:t.steps with
       |nil=>rw[kA e2 hn]
       |cons b w=>
        rw[e2]at h1 h2 hl;rw[b5 h2 (adE h1).2.1 hl]
    ·rename_i ha;rw[jF ha]
     have ha:IQ:=aX ha
     split at hk
     ·rename_i hb;rw[b5 (a0k h.I hx ha hb) (akU h.D q hq) (Ø ⟨J.ok,J.alN⟩)]
     ·rename_i b hb;split at hk
      ·cases hk
      ·rename_i s hs;split at hk
       ·rename_i r hp;rw[hs,Option.bind_some,hp,Option.getD_some];rw[cH hl (amO hp) hr (h.I.own r hl).1];rw[d_ (aIF R h.I hl (aS r hr) (λu hu=>by rw[hx]at hu;cases hu;rfl) (λhn=>by rw[hx]at hn;cases hn)) (aIH h.D) (Ø (aJQ G hr J.ok J.alN (dB z hz)))]
        have:z=g4:=by
         rw[iT cg List.headD_eq_head?_getD hz];rfl
        rw[this,hs,aJP hp]
       ·cases hk
 |draw=>
  have hk:yJ W x=.ok:=hk;rw[QY (I3 (wD W x)) wD];cases hx:c8 with
  |none=>exact h
  |some t=>
   dsimp only;have J:=h.J x t hx;split
   ·rw[d_ (h.I.del x) (akU h.D q hq) (cM y u hu)];rw[pY hu (cG (Qn x) y=dG) hu NU hu];split at hu
    ·cases hu
    ·exact h.J y u hu
   ·rename_i h1;rw[b5 (aYs h.I hx h1) (akU h.D q hq) (Ø ⟨sE (J.ok s (List.dropLast_subset _ hs)),J.alN.init⟩)]
 |turn=>
  have hk:J? W x=.ok:=hk;rw[QY (I3 (F_ W x)) F_];cases hx:c8 with
  |none=>exact h
  |some t=>
   have J:=h.J x t hx;rw[d_ (aYt h.I hx) (aYv h.D) (Ø ⟨C2,J.alN.flip⟩)];rw[L7 z hz hs (J.ok z (List.mem_reverse.mp hz)).flip]
def TC Pc dX(h:Bu):I3 (DG Y W w i x):=by
 unfold DG;split
 ·rename_i hk;exact amP G h hk
 ·exact h
universe zE
universe Sb
universe zE
end
mutual
section
namespace Sb
open PySem L2
abbrev qk gD:rM:=[(ly "set",aDV η),(ly "cancel",aDV η),(ly "throw",aDW η)]
abbrev OS gD:rM:=qk Y++[(aDL,akH)]
abbrev Oo gD(w:fV):fO:=match w with
 |iW=>aMA
 |jn=>aMA
 |kE=>some Y.ps.length
 |jo=>some Y.ss.length
 |_=>none
abbrev wA ki Bl:Bool:=match Oo Y w with
 |some n=>Aw i n
 |none=>gS w iD||nI c8
section
variable {Y:eD}{M:ba}{W:bC}{j:Nat}{ρ:aY}
def aJR{w:fV}:pe (OS Y) (ly w.s)=(Oo Y w).map (B_ n n):=by cases w<;>with_unfolding_all rfl
def a1d:j_ (qk Y) aDL akH=OS Y:=cI
def ayy{w:fV}:jM (av w.s)=aT (ly w.s):=rfl
def aLk(w:fV):G6 (av w.s):=by
 have:ahe (av w.s):=by cases w<;>decide +kernel
 rw[zp]
def a3e{w v:fV}:(w.s=v.s)↔w=v:=by cases w<;>cases v<;>decide +kernel
def ayR{w v:fV}pC:eJ neg (av w.s) (av v.s) M=.ok (.ah (zl (gS w v) (gS w v))) M:=Zq (aLk _) (aLk _) (by rw[au ak.str.injEq a3e])
def ane{w:fV}{u:Str}azs azN:bb (tB (ae k) (b! u)) ρ M=.ok (gS w v) M:=by
 subst hu;rw[eF,az,aN,h];dsimp only;rw[ag,bo,ag,ayR];rfl
def a6g gJ apn:ax e! [(ń (ae k))] ρ M=.ok (aDV η) M:=by
 rw[bY,aP,h.ix (zq hk) Zm];simp[e!]
def a4K gJ apn:ax e! [(UZ (ae k) "pieces")] ρ M=.ok (aDW η) M:=by
 rw[bY,aP,h.ix (zq hk) Zl];simp[e!]
def aQF gJ apn:ax e! [(UZ (ae k) "signals")] ρ M=.ok akH M:=by
 rw[bY,aP,h.ix (zq hk) adu];simp[e!]
def aQG gJ apn:Gn [("set",(h9 (ń (ae k)))),("cancel",(h9 (ń (ae k)))),("throw",(h9 (UZ (ae k) "pieces")))] ρ M=.ok e_ (M++[.aj (qk Y)]):=by
 unfold Gn;simp only[b6,zD,aP,bB,a6g h hk,a4K h hk,ag];rfl
def adz Pc gJ:Xx aGd [ο 7,av w.s,η i,η x]=.ok (.ah (wA Y W w i x)) M:=by
 refine Qm rfl;rw[B7 aGd P q (∃G,q=.ok (.ah (wA Y W w i x)) (M++G)) (z9 e_ (M++[.aj (qk Y)]) (aQG h rfl))];rw[Vo h1 (h.push (.aj (qk Y))) (Es akH (M++[.aj (qk Y)]) e_ (M++[.aj (qk Y)]) (av "enter") (M++[.aj (qk Y)]) (M++[.aj (OS Y)]) (aQF h1 rfl) rfl rfl ?_ fj)]
 ·rw[aFd (kvs:=qk Y) Θ (kk:=aDL) rfl (by rw[Ŷ 3]),a1d];simp
 rw[fG h2 (h.push (.aj (OS Y))) hd (Vs (M++IW (OS Y)) .aj (OS Y)) Θ]
 generalize a6V:M++IW (OS Y)=M2 at h2 hd;rw[v7 fin (∀GW,b=wA Y W w i x->∃G,(Res.ok (ak.ah b) M2)=.ok (.ah (wA Y W w i x)) (M++G)) (λhb=>⟨IW (OS Y),kn a6V hb⟩) (L! (nI (Oo Y w)) M2 ?_)]
 ·rw[eF];simp only[az,aN,bf,a!,ag];rw[aRZ hd ayy,aJR];cases Oo Y w<;>rfl
 ·rw[S! n hn hk];refine xY (.ah (Aw i n)) M2 (p7 (eX (fin ?_)))
  ·unfold ana
   simp only[bo,aN,bf,a!,ag,aIJ];unfold Aw;by_cases h0:0≤i
   ·simp only[h0,decide_true,Bool.true_and];simp only[az,aN,bf,a!,ag];rw[Tq hd ayy (by rw[aJR,hn];rfl),ag,aYh]
   ·simp[h0]
  ·rw[dO wA hn]
 ·rw[Ą hn (bO (Oo Y w)) (by cases e:Oo Y w with
   |none=>rfl
   |some n=>rw[e]at hk;cases hk) e3 (Np [bh,QS,xr,aZ,gR] d q!) (dP (Rj (.ah (gS w iD||nI c8)) M2 (eX (fin ?_))))]
  ·have e4:(ak.str "tick")=av (fV.tick).s:=rfl;rw[aJ9,az,aN,e4];rw[tU];rw[ag,bo,ag,ayR,ag];by_cases ht:w=iD
   ·simp[ht]
   ·simp only[ht,decide_false,Bool.false_eq_true,if_false,Bool.false_or];rw[az,aN];rw[tU];rw[ag,e3,ag,Wt h2.iJ k xy,yy];cases c8<;>rfl
  ·rw[dO wA hn]
abbrev lE gD dY kj K0(res:lN)Bl:Prop:=DF Y j M res nY Jo
def DF.get KR{k:qn}{W':bC}(h:DF Y j M res k W'):∃M',res=.ok (av (uD k)) M':=by
 cases k with
 |ok=>obtain⟨M',_,e,_⟩:=h;rw[b4 M' e]
 |none=>rw[b4 M h]
 |held=>rw[b4 M h]
 |red=>rw[b4 M h]
def aYL Pc(h:dj (wA Y W w i x)):nY=cT:=by
 have go:∀{v:fV},bO (Oo Y v)->v≠iD->dj (wA Y W v i x)->bO c8:=λ{v} h1 h2 h3=>by
  rw[BA wA h3 h1 h3];simpa[h2] using h3
 cases w with
 |set=>have h:PK i:=h;unfold du;simp[h]
 |cancel=>have h:PK i:=h;unfold du;simp[h]
 |throw=>have h:dj (Hh i):=h;unfold du acW;simp[h]
 |enter=>have h:dj (Lx i):=h;rw[QY (F? Y W x i=_) F?];simp[h]
 |tick=>cases h
 |go=>have:=go rfl a_ h;show ry Y W x=_;rw[dO ry this]
 |draw=>have:=go rfl a_ h;show yJ W x=_;rw[dO yJ this]
 |turn=>have:=go rfl a_ h;show J? W x=_;rw[dO J? this]
def Dl Uv(w:fV){u:Str}{s1 rest:c6}azs(hv:w≠v)azN(q:Qy P (rest ρ M)):akb P (d6 (bb (cu (eJ false) (ae k) (b! u))) s1 n9) rest ρ M:=
 CR M (kn (ane v hu h) (decide_eq_false hv)) (dP (aEI q))
def aSK Uv(w:fV){u:Str}fM{rest:c6}(hu:w.s=u)azN(y:ak)K1(e:dH=.ok y M')(q:P (.ok y M')):akb P (ajH (ae k) (b! u) d) rest ρ M:=
 eK (OG M (kn (ane w hu h) aMr) (p6 y M' e (p7 (eX q))))
def adU Pc aNz(ht:gt [ο 7,av w.s,η i,η x] M=.ok (.ah (wA Y W w i x)) M)
  (h0:atO i->qP (g0 [ο 7,η i] M) iW)(h1:atO i->qP (g1 [ο 7,η i] M) jn)(h2:aL (Hh i)->qP (g2 [ο 7,η i] M) kE)
  (h3:aL (Lx i)->qP (g3 [ο 7,η x,η i] M) jo)(h4:qP (n_ [ο 7] M) iD)(h5:∀t,c8=eG->qP (n! [ο 7,η x] M) .go)
  (h6:∀t,c8=eG->qP (n? [ο 7,η x] M) gZ)(wk:∀t,c8=eG->qP (oh [ο 7,η x] M) jH):
  qP (awl gt g0 g1 g2 g3 n_ n! n? oh [ο 7,av w.s,η i,η x] M) w:=by
 rw[B7 awl P q (lE Y M W j q w i x) (JH (! wA Y W w i x))]
 ·simp only[TF,dn,bY,aP,bB,aN,bf,a!,ag,ht,Ob]
 ·refine LN (av "none") M (eX ?_);rw[Hr lE (aYL pW)]
 rw[cV hk (aL (wA Y W w i x)) pW Ft]
 rw[bM tr (∀{v:fV},bO (Oo Y v)->v≠iD->aL (wA Y W v i x)->∃t,c8=eG) (λ{v} h1 h2 h3=>by
  unfold wA at h3;rw[bF h1 h3 (Option.isSome_iff_exists.mp (U0 h2 h3))]) ev (∀D8 zc d9{y:ak}K2,Dj ds [bh,QS,xr,aZ] M=.ok xs M->g xs M=.ok y M'->ax g ds [bh,QS,xr,aZ] M=.ok y M') (λe1 e2=>by
  rw[bY,e1,ag,e2])]
 cases w with
 |set=>
  have L:=h0 hk;rw[eg M' e L.get (Yn P q q iW iW _ (Q? e) (e▸L))]
 |cancel=>
  have L:=h1 hk;rw[eg M' e L.get (Dl (P:=λq=>lE Y M W j q jn i x) jn iW rfl a_ rfl (Yn P q q jn jn _ (Q? e) (e▸L)))]
 |throw=>
  have L:=h2 hk;rw[eg M' e L.get (Dl (P:=λq=>lE Y M W j q kE i x) kE iW rfl a_ rfl (Dl (P:=λq=>lE Y M W j q kE i x) kE jn rfl a_ rfl (Yn P q q kE kE _ (Q? e) (e▸L))))]
 |enter=>
  have L:=h3 hk;rw[eg M' e L.get (Dl (P:=λq=>lE Y M W j q jo i x) jo iW rfl a_ rfl (MQ jo jo jn jo jo kE (Yn P q q jo jo _ (Q? e) (e▸L))))]
 |tick=>
  have L:=h4;rw[eg M' e L.get (Dl (P:=λq=>lE Y M W j q iD i x) iD iW rfl a_ rfl (MQ iD iD jn iD iD kE (Dl (P:=λq=>lE Y M W j q iD i x) iD jo rfl a_ rfl (Yn P q q iD iD _ (Q? e) (e▸L)))))]
 |go=>
  rw[xC htr (tr rfl a_ hk)];have L:=h5 t htr;rw[eg M' e L.get (Dl (P:=λq=>lE Y M W j q .go i x) .go iW rfl a_ rfl (MQ .go .go jn .go .go kE (MQ .go .go jo .go .go iD (Yn P q q .go .go _ (Q? e) (e▸L)))))]
 |draw=>
  rw[xC htr (tr rfl a_ hk)];have L:=h6 t htr;rw[eg M' e L.get (Dl (P:=λq=>lE Y M W j q gZ i x) gZ iW rfl a_ rfl (MQ gZ gZ jn gZ gZ kE (MQ gZ gZ jo gZ gZ iD (Dl (P:=λq=>lE Y M W j q gZ i x) gZ .go rfl a_ rfl (Yn P q q gZ gZ _ (Q? e) (e▸L))))))]
 |turn=>
  rw[xC htr (tr rfl a_ hk)];have L:=wk t htr;rw[eg M' e L.get (Dl (P:=λq=>lE Y M W j q jH i x) jH iW rfl a_ rfl (MQ jH jH jn jH jH kE (MQ jH jH jo jH jH iD (MQ jH jH .go jH jH gZ (p6 _ M' (Q? e) (eX (e▸L)))))))]
universe zE
universe Sb
universe zE
section
namespace Sb
open PySem L2
structure axM(a b c d:Addr):Prop where
 ab:a≠b
 ac:a≠c
 ad:a≠d
 bc:b≠c
 bd:b≠d
 cd:c≠d
abbrev aEB azM Bl dY:lN:=match w with
 |iW=>g0 [ο 0,η i] M
 |jn=>g1 [ο 0,η i] M
 |kE=>g2 [ο 0,η i] M
 |jo=>g3 [ο 0,η x,η i] M
 |iD=>n_ [ο 0] M
 |.go=>n! [ο 0,η x] M
 |gZ=>n? [ο 0,η x] M
 |jH=>oh [ο 0,η x] M
abbrev rg Bl(y:ak):aY:=[aQ,QS,xr,aZ,Cm,none]
abbrev Z1 aNb:c6:=
 (d6 (o3 WM) (FO ac5) (d6 (o3 BX) (FO adJ) (d6 (o3 ain) (FO adY) (d6 (o3 Ma) (Q8 adZ [ao,bA,aD]) (d6 (o3 LK) (Q8 aef CF) (d6 (arH (b! "go")) (NC ZW) (d6 (o3 LL) (NC aeg) (NC aeh))))))))
section
variable {C:eu}{Y:eD}{o:cR}{M:ba}{B:cF}{W:bC}{j:Nat}{ρ:aY}
def aSL{w:fV}{u:Str}{s1 s2:c6}azs{i x:Int}{y:ak}:d6 (o3 (b! u)) s1 s2 (rg w i x y) M=vP w v (s1 (rg w i x y) M) (s2 (rg w i x y) M):=by
 rw[B9 d6 (ane (w:=w) v hu rfl)];rw[xx h w v h]
def TP D8 zc d9(h:ve=.ok xs M):mU (ax g ds) ρ M=MJ (g xs M).out _ (.nx ρ aa):=by
 rw[jj mU bY h ag]
def aI4 aoq Pc{y:ak}:Z1 g0 g1 g2 g3 n_ n! n? oh (rg w i x y) M=(aEB g0 g1 g2 g3 n_ n! n? oh w i x M).out (rg w i x y) λ_ aa=>.nx (rg w i x y) aa:=by
 rw[iA h2 (Dj [ao,aD] (rg w i x y) M=.ok [ο 0,η i] M) rfl h1 (Dj CF (rg w i x y) M=.ok [ο 0] M) rfl h3 (Dj [ao,bA] (rg w i x y) M=.ok [ο 0,η x] M) rfl h4 (Dj [ao,bA,aD] (rg w i x y) M=.ok [ο 0,η x,η i] M) rfl];unfold Z1;rw[V! u "set" iW,V! u "cancel" jn,V! u "throw" kE,V! u "enter" jo,V! u "tick" iD,V! u "go" .go,V! u "draw" gZ,TP h2,TP h2,TP h2,TP h4,TP h1,TP h3,TP h3,TP h3];cases w<;>rfl
abbrev Oc(C:eu):qn->Addr
 |.ok=>C.dN
 |cT=>C.dN
 |.held=>C.he
 |.red=>C.rd
def Z7.bad KR{k:qn}{P:cS cF}(h:Z7 C Y o M res k P)(hk:k≠.ok):res=bP (Oc C k) M:=by
 cases k with
 |ok=>rw[Rv hk]
 |none=>exact h
 |held=>exact h
 |red=>exact h
def aJS aoq Pc{jK:Addr}{k:qn}{P:cS cF}(h:Z7 C Y o M (aEB g0 g1 g2 g3 n_ n! n? oh w i x M) k P):
  (k=.ok/\∃M' o' B',Go [jK,C.dN,C.he,C.rd] 4 5 (Z1 g0 g1 g2 g3 n_ n! n? oh) (rg w i x .ai) M=.nx (rg w i x .ai) M'/\H! o' M' B'/\I5 o'/\P B') ∨
  (k≠.ok/\Go [jK,C.dN,C.he,C.rd] 4 5 (Z1 g0 g1 g2 g3 n_ n! n? oh) (rg w i x .ai) M=.nx (rg w i x e_) (M++[bP (Oc C k)])):=by
 by_cases hk:k=.ok
 ·subst hk;obtain⟨M',o',B',e,h1,h2,h3⟩:=h;refine Ω ⟨rfl,M',o',B',?_,h1,h2,h3⟩;rw[jj Go aI4 e Res.fg]
 ·refine ay (k7 hk);unfold Go;rw[vU aI4 (h.bad hk) Res.a0u];rw[cU (jB (by cases k<;>simp[Oc]))]
def ae3{wd:tV}bk rG{k:Bool}fM afX(hn:M[n]? = eL bP c)(ht:arR c k):aei wd d ρ M=.ok (.ah k) M:=by
 rw[HD aei hd ag];rw[g6 hn];rw[ht]
def a4L aOp(h:axM a b c d):rS ([(a,x),(b,y),(c,z),(d,u)]:tV) b y/\rS ([(a,x),(b,y),(c,z),(d,u)]:tV) c z/\([(a,x),(b,y),(c,z),(d,u)]:tV).lookup d=dG:=by
 rw[iA h1 (u6 b a) (beq_eq_false_iff_ne.mpr h.ab.symm) h2 (u6 c a) (beq_eq_false_iff_ne.mpr h.ac.symm) h3 (u6 c b) (beq_eq_false_iff_ne.mpr h.bc.symm) h4 (u6 d a) (beq_eq_false_iff_ne.mpr h.ad.symm)];rw[bM h5 (u6 d b) (beq_eq_false_iff_ne.mpr h.bd.symm) h6 (u6 d c) (beq_eq_false_iff_ne.mpr h.cd.symm)];simp only[List.lookup,h1,h2,h3,h4,h5,h6,BEq.rfl,and_self]
def a6h{a b c d:Bool}:countP (ς [.ah a,.ah b,.ah c,.ah d]) [fB .ah] M=.ok (η (cC ([a,b,c,d].filter id):Nat)) M:=by
 cases a<;>cases b<;>cases c<;>cases d<;>with_unfolding_all rfl
def a6i{a b c d:Bool}l!(h:aO ([a,b,c,d].findIdx? id) k):J3 (ς [.ah a,.ah b,.ah c,.ah d]) [fB .ah] M=.ok (η k) M:=by
 cases a<;>cases b<;>cases c<;>cases d<;>cases h<;>with_unfolding_all rfl
def adf{jK:Addr}bk{k:qn}(hd:axM jK C.dN C.he C.rd)(hn:xo n bP (Oc C k))(hk:k≠.ok):aFB jK C.he C.dN C.rd [ο n] M=.ok (av (uD k)) M:=by
 rw[oM aFB P q (q=.ok (av (uD k)) M)]
 rw[Iu main (∀KV(k0 k1 k2 k3:Bool)(m:Nat)(r:Str),M[n]? = eL bP c->rS ([iE jK,aa5,aa6,aa7]:tV) c k0->rS ([z7 jK,aun,aa6,aa7]:tV) c k1->rS ([z7 jK,aa5,auo,aa7]:tV) c k2 →
   rS ([z7 jK,aa5,aa6,aup]:tV) c k3->rS ([iE jK,aun,auo,aup]:tV) c true->cC ([k0,k1,k2,k3].filter id)=1->aO ([k0,k1,k2,k3].findIdx? id) m->([av "bad",av "none",av "held",av "red"]:fK)[m]? = eL av r->r=uD k →
   Qy (λq=>q=.ok (av (uD k)) M) ((q2 1 (c9 [(IH [iE jK,aa5,aa6,aa7]),(IH [z7 jK,aun,aa6,aa7])]) 1 (LZ aA [(IH [z7 jK,aa5,auo,aa7]),(IH [z7 jK,aa5,aa6,aup])]) (Ib (Pu (yI (cD (IH [iE jK,aun,auo,aup]))) (Jf (akL [(zK .ah)]) (Ξ 1)) (c! (b! "wrong"))) (akt [(b! "bad"),È,Ç,Ĥ] (n8 J3 aA [(zK .ah)])))) [CH,none] M)) (by
  intro c k0 k1 k2 k3 m r hn h0 h1 h2 h3 h4 hf hi hr hs;refine qL (ς [.ah k0,.ah k1])
  ·rw[sM,aP,ae3 rfl hn h0,ag,aP,ae3 rfl hn h1,ag,bB,ag,ag,ag,II]
  rw[x7 (qL (ς [.ah k0,.ah k1,.ah k2,.ah k3]))]
  ·rw[az,aN];rw[tU];rw[ag,sM,aP,ae3 rfl hn h2,ag,aP,ae3 rfl hn h3,ag,bB,ag,ag,ag,II,ag];show L9 [.ah k0,.ah k1,.ah k2,.ah k3] M=_;rw[II]
  rw[xH (yH M ?_ (dP (Rj (av r) M (eX (k6 hs)))))]
  ·rw[fG e3 (ae3 (ρ:=[CH,vM [.ah k0,.ah k1,.ah k2,.ah k3]]) (d:=ao) rfl hn h4) e4 ((Jf (akL [(zK .ah)]) (Ξ 1)) [CH,vM [.ah k0,.ah k1,.ah k2,.ah k3]] M=.ok false M) (by
    simp[a6h,hf])]
   rw[ZF,TF,dn,e3];exact e4
  ·simp[a6i m hi];rw[Ay hr]) l (fun(x y z u:Bool)=>a4L (x:=x) (y:=y) (z:=z) (u:=u) hd)];cases k with
 |ok=>rw[Rv hk]
 |none=>exact main C.dN false true false false 1 "none" hn (l _ _ _ _).1 (l _ _ _ _).1 (l _ _ _ _).1 (l _ _ _ _).1 (l _ _ _ _).1 rfl rfl rfl rfl
 |held=>exact main C.he false false true false 2 "held" hn (l _ _ _ _).2.1 (l _ _ _ _).2.1 (l _ _ _ _).2.1 (l _ _ _ _).2.1 (l _ _ _ _).2.1 rfl rfl rfl rfl
 |red=>exact main C.rd false false false true 3 "red" hn (l _ _ _ _).2.2 (l _ _ _ _).2.2 (l _ _ _ _).2.2 (l _ _ _ _).2.2 (l _ _ _ _).2.2 rfl rfl rfl rfl
abbrev TK kh DY azx(v:qn->ak)(P:cS cF):Prop:=
 (k=.ok/\∃M' o' B',res=.ok (v k) M'/\H! o' M' B'/\I5 o'/\P B')\/(k≠.ok/\∃c,res=.ok (v k) (M++[bP c]))
universe zE
universe Sb
universe zE
section
namespace Sb
open PySem L2
abbrev wu(d:fV×Int×Int):ak:=aW [av d.1.s,η d.2.1,η d.2.2]
abbrev OT(i!:ak1)(d:fV×Int×Int):Prop:=oD d.2.1/\i! d.2.2
def aR9{N m:Int}(hm:0<m):∃k:Nat,N%m=k/\aU k<m:=by
 rw[k9 (aq0 N b m) (Int.emod_lt_of_pos N hm)];rw[b5 (N%m).toNat aB aB]
section
variable {Y:eD}{M:ba}{W:bC}{j:Nat}{ρ:aY}
def ZD{N m:Int}(h:0<m):g9 (η N) (η m) M=.ok (η (N%m)) M:=by
 unfold g9 oq;simp[h]
def aw5{N m:Int}(h:0<m)(h2:Ï m):wg (η N) (η m) M=.ok (η (N / m)) M:=by
 unfold wg oq;simp[h,h2]
def Kf gC UK aaw{d aEK:bz}{N c:Int}ee aN9(hm:aEK ρ M=.ok (η xs.length) M)(hN:t6 k IA)(aS:S4 0)(h1:0<c:=by decide)(h2:Ï c:=by decide):
  ∃a∈xs,Fb d (QC (cu wg (ae k) (Ξ c)) aEK) ρ=.ok Eh M:=by
 rw[B5 m e1 e2 (auQ (N / c) m xs.length aB) fq (S4 m) aB]
 rw[d_ xs[m] aMj ?_];rw[az,hd,ag,az,az,aN,hN];dsimp only;rw[ag,bo,ag,aw5 h1 h2,ag,hm,ag,ZD aB,ag,e1];exact Ay (by rw[g_,List.getElem?_eq_getElem fq];rfl)
def a1e gC UK aaw fM aN9:ax e! [d] ρ M=.ok (η xs.length) M:=by
 rw[bY,aP,hd];simp[e!]
def a6j Bm GQ:e! [ο n] M=.ok (asp η) M:=by
 unfold e!;simp[ow,h]
def YO aaE Pq{bG iZ:D1}gJ(hs:u!)(hss:aC3 16)aps
  (hn:iZ [ο 7,η s] M=.ok (je C4) M)aal(wM:Qg q (i! q.1))(DS:SY 90):
  ∃ds:gP fV (Int×Int),ā 90/\(∀d∈ds,OT i! d)/\avI bG iZ [ο 7,η s] M=.ok (ς ah2) M:=by
 rw[gv hnn (ab7 x C4 x) (yq (by
  rw[BC q hq hx (wM q aAZ.1)])) KG (iF C4 90) (by
  rw[jA JT eP (aj5 DS)]) key (∃ds:gP fV (Int×Int),ā 90/\(∀d∈ds,OT i! d)/\((aL lg/\∃nm:Int,ds=[(jo,aU s,nm)]/\Fb (c9 [(Ξ 0),XA,(Ξ 102),(Ξ 103),(Ξ 104)]) (ax Ub [(Ξ 4),(h9 ya)]) [bh,fm,CX,Cu]=.ok (η nm) M)\/(dj lg/\ds=(C4).map λx=>(.go,0,x)))) (by
  rw[rR hk lg]
  ·obtain⟨m,a9M,hm⟩:∃m:Nat,m<5/\(ajF (iX W.trains.length<4) (W.trains.length:Nat) 4)=aU m:=by
    split
    ·exact jc W.trains.length aB
    ·exact jc 4 aB
   rw[gv hl (kU ([0,101,102,103,104]:fX)=5) rfl fq (m<kU ([0,101,102,103,104]:fX)) aB hsm (ab7 y ([0,101,102,103,104]:fX) y) (An (hN y (List.mem_append_left [100,-3,-5,3,999999,7] hy)))]
   refine⟨[(jo,aU s,([0,101,102,103,104]:fX)[m])],Θ,?_,Ω (yh hk _ ?_)⟩
   ·intro d hd;rw[aAW hd];rw[b4 ⟨by rw[Q6 (-1000≤aU s)],by show aU s≤_;omega⟩ (hsm _ aMj)]
   ·have e1:=tH [bh,fm,CX,Cu] q!;rw[az,sM];simp only[aP,bB,bo,ag,bY];rw[II,ag,e1];rw[tT (a6j h.iJ)];rw[FF (Ub [η 4,η (cC nH:Nat)] M) .ok (η (ajF (iX (cC nH)<4) (cC nH:Nat) 4)) M,axb,hm,ag]
    exact Ay (xs:=([0,101,102,103,104]:fX).map ak.int) (by rw[g_,List.getElem?_eq_getElem fq];rfl)
  ·refine⟨(C4).map λx=>(.go,0,x),aX KG,?_,ay (kS pW)⟩;intro d hd;rw[rZ x hx hd];rw[b4 ⟨by rw[Q6 (-1000≤aU 0)],by show aU 0≤_;omega⟩ (hnn x hx)])]
 obtain⟨ds,hdl,Kn,hc⟩:=key;refine⟨ds,hdl,Kn,?_⟩;rw[Yb avI P q (q=.ok (ς ah2) M) [bh,fm,none,none] d adu (ab0 W2 [bh,fm,CX,Cu] M ?_ afp)]
 ·rw[az,e1];simp[T9 hs]
 rw[cW e2 (tH [bh,fm,CX,Cu] Zl) (JH lg)]
 ·rw[eF,az,bY,aP,e2];simp only[aP,bB,aN,bf,a!,ag,bo,hb,aLj];rfl
 ·rcases hc with⟨_,nm,rfl,e⟩ | ⟨hc,_⟩
  ·rw[Cv (xY (ς [wu (jo,aU s,nm)]) M (p7 (eX rfl))) sM];simp only[aP,bB,yC,e,bo,aN,bf,a!,ag];rw[cU II]
  ·rw[hk]at hc;cases hc
 ·rcases hc with⟨hc,_⟩ | ⟨_,rfl⟩
  ·rw[hk]at hc;cases hc
  ·rw[vX (ajl _)];rw[Xc C4 w M (gQ gm n) (λx=>wu (.go,0,x)) (nZ (ρ=[y])) (jL (by simp only[bY,aP,bB,aN,bf,a!,ag,hn])) (qM z) (jk KG)]
   ·rw[BI _ _,gG (by rw[LX KG]),List.map_map];rfl
   ·rw[MH y _ (λ_=>by rw[cU yC])]
universe zE
universe Sb
universe zE
end
mutual
section
namespace Sb
open PySem L2
abbrev ayA:c6:=(Ib (Fo (kT g9 (Ξ 32)) (Ξ 1) (rP 9 (nw (c9 [MX,(N8 (ae 8) gF ajC),(k_ LC (zV (Ξ 32) LC))]) (cu g9 (kT wg aaV) (Ξ 3))) (mV 5 (nw (c9 [(AJ (Ξ 5)),(Ξ 3),aDN]) (cu g9 (kT wg aaV) (Ξ 3)))))) (dM [gF,(ae 9),(uJ (wK akz akv) (ae 5) (abl (c9 [(Ξ 0),ajW,XA,(AJ (Ξ 3))]) 512))]))
abbrev ayB:c6:=(qx (zL (vH gF BX) (cD (tN "green")) (mV 9 (FG (tN "green") 64 ajB))) ayA)
abbrev ayC:c6:=(qx (zL (cD aEb) (mm (cD bH) (bb (tB (kT g9 (Ξ 4)) (Ξ 2)))) (c! (dM [(abl (c9 [Vc,(b! "go"),Vc,LK]) 64),(Ξ 0),(FG bH 256 (tR bH))]))) ayB)
abbrev aKH(alI:D1):c6:=(qx (zL (bb (tB (kT g9 (Ξ 4)) (Ξ 0))) (cD (tN "green")) (q2 10 (FG (tN "green") 64 ajB) 11 (RS (ax alI [aD,(ato ň 10)]) (c9 [(dM [BX,(ae 10),(Ξ 0)])]) (zV (Ξ 256) (Ξ 2))) (xJ (ae 11) (c! (FG (ae 11) 1024 (h9 (ae 11))))))) ayC)
abbrev aoe:List fV:=[iW,iW,.go,.go,.go,gZ,gZ,jo,jn,iD,kE,jH]
abbrev i0 Bd(k N:Int)(names:fX)(nm:Int)(l:ak)(w:fV)dh(a:Int)(y z:pJ):aY:=[qI .pj,k?,bh,IA,Ĺ,dR nm,some l,QS,CH,dR a,y,z]
abbrev GI(i!:ak1)dY(q:lN):Prop:=∃d,OT i! d/\q=.ok (wu d) M
abbrev Ge gD(w:fV):Nat:=match w with
 |iW=>Y.rs.length
 |jn=>Y.rs.length
 |kE=>Y.ps.length
 |_=>Y.ss.length
section
variable {Y:eD}{M:ba}{W:bC}{j:Nat}{ns:fX}{k N:Int}{names:fX}{nm:Int}{l:ak}{w:fV}{n:Nat}{a:Int}{y z:pJ}{ρ:aY}
def aI5 dX:H? (Ge Y w):=by
 rw[k9 G.len G.g.fc];have h3:=G.g.AW;cases w<;>(rw[pU Ge];omega)
def aIi gJ af5(h8:t6 8 CH)(wk:ρ[7]? = YC av w.s)(h2:aci 2):N8 (ae 8) gF ajC ρ M=.ok (η (Ge Y w)) M:=by
 rw[HD N8 aN h8];rw[Lj ag (o! hd)];rw[Lj aN wk];rw[ag,aQF h h2,ag,o! hd,ayy]
 dsimp only
 have:(pe (qk Y) (ly w.s)).getD akH=η (Ge Y w):=by cases w<;>with_unfolding_all rfl
 rw[this]
def tmod{c r:Int}(h3:t6 3 IA)(hc:0<c):bb (tB (kT g9 (Ξ c)) (Ξ r)) ρ M=.ok (gS (N%c) r) M:=by
 rw[eF,az,az,aN,h3];dsimp only;rw[ag,bo,ag,ZD hc,ag,bo,ag,sI];rfl
def aKI gJ(h2:aci 2):cD (tN "green") ρ M=.ok aB1 M:=by
 rw[dn,h.ix (zq h2) ad6,ag];simp[gH]
def aI6 gJ(h2:aci 2)(h3:t6 3 IA)(hg:aCa):∃r∈W.green,Fb (tN "green") (zV (Ξ 64) ajB) ρ=.ok (η r) M:=by
 rw[fG e (h.ix (ρ:=ρ) (d:=aD) (zq h2) ad6) hp (0<W.green.length) (ap6 hg)];exact Kf (enc:=gQ (r:Nat) (aU r)) e (auP (gQ (r:Nat) (aU r)) e) h3 hp
def lits{xs:fX}(hl:aj1)zc(h:ve=.ok ass M):Wl ds ρ M=.ok (ς (xs.map ak.int)) M:=by
 rw[sM,h,ag,cn (aX hl)]
def a6k iz(h1 : -1000≤i:=by decide)(h2:aBY i:=by decide):Ec:=⟨h1,h2⟩
def aJT aaE aal dX gJ af5 ao6:Qy (GI i! M) (ayA (i0 ns k N names nm l w n a y z) M):=by
 unfold ayA
 rw[v7 last (∀(nm a:Int),i! nm->oD a->Qy (GI i! M) ((c! (dM [gF,(ae 9),(uJ (wK akz akv) (ae 5) (abl (c9 [(Ξ 0),ajW,XA,(AJ (Ξ 3))]) 512))])) (i0 ns k N names nm l w n a y z) M)) (λnm a wM ha=>by
  have e1:bb (ğ gF Ma) (i0 ns k N names nm l w n a y z) M=.ok (!(gS w jo)) M:=by
   have e4:(ak.str "enter")=av (fV.enter).s:=rfl;rw[eF,az,RQ 7 (i0 ns k N names nm l w n a y z) .ok av w.s,ag,bo,ag,e4,ayR]
   rfl
  obtain⟨b,hb,e2⟩:∃b∈([0,100,101,-3]:fX),Fb (c9 [(Ξ 0),ajW,XA,(AJ (Ξ 3))]) (zV (Ξ 512) (Ξ 4)) (i0 ns k N names nm l w n a y z)=.ok (η b) M:=
   Kf (enc:=ak.int) (xs:=[0,100,101,-3]) (lits a_ rfl) rfl rfl a_
  have aE0:i! b:=hN b (by
   simp only[List.mem_cons,List.not_mem_nil,or_false]at hb⊢
   omega)
  obtain⟨c,hc,e3⟩:∃c,i! c/\uJ (wK akz akv) (ae 5) (abl (c9 [(Ξ 0),ajW,XA,(AJ (Ξ 3))]) 512) (i0 ns k N names nm l w n a y z) M=.ok (η c) M:=by
   have gB:∃q,wK akz akv (i0 ns k N names nm l w n a y z) M=.ok q M:=by
    rw[ZF,e1,ag,au1 a_];rw[xx hw w jo hw]
   obtain⟨q,gB⟩:=gB;rw[aex,gB,ag];cases q with
   |true=>exact jc nm wM
   |false=>rw[b5 b aE0 e2]
  refine xY (wu (w,a,c)) M (eX (sj ⟨ha,hc⟩));rw[yC,aP,RQ 7 (i0 ns k N names nm l w n a y z) .ok av w.s,ag,aP,abt 9 (i0 ns k N names nm l w n a y z) .ok a,ag,aP,e3]
  rfl) (ur (gS (N%32) 1) M (au1 a_) (cJ hk) (λhk=>dP (eZ (last nm a wM ha))))];have YW:=aI5 (w:=w) G;obtain⟨q,aQY,a9I⟩:=auQ (N / 32) m 1000 a_
 obtain⟨b,hb,e2⟩:∃b∈([-1,aU (Ge Y w),1000+N / 32%1000]:fX),Fb (c9 [MX,(N8 (ae 8) gF ajC),(k_ LC (zV (Ξ 32) LC))]) (zV aaV (Ξ 3)) (i0 ns k N names nm l w n a y z)=.ok (η b) M:=by
  rw[Qq (Kf (enc:=ak.int) (xs:=[-1,aU (Ge Y w),1000+N / 32%1000]) (lits (by rw[ia (lO 3)]) ?_) rfl rfl (by rw[ia (0<3)])) e1 (AJ (Ξ 1) (i0 ns k N names nm l w n a y z) M=.ok (η (-1)) M) rfl e3 (cu (wc false) LC (zV (Ξ 32) LC) (i0 ns k N names nm l w n a y z) M=.ok (η (1000+N / 32%1000)) M) (by
   rw[az,bo,ag,az,az,abt 3 (i0 ns k N names nm l w n a y z) .ok N,ag,bo,ag,aw5 a_ a_,ag,bo,ag,ZD a_,ag]
   rfl)]
  rw[aP,e1,ag,aP,aIi (w:=w) h hd rfl rfl rfl,ag,aP,e3];rfl
 rw[cV aE0 (oD b) (by
  rw[Lv hb];rw[ž oD]) (qK (η b) e2)];show Ee (L2.Fin (GI i! M)) _ (mV 5 _ (i0 ns k N names nm l w n b y z) M)
 obtain⟨c,hc,e4⟩:∃c∈([-5,3,999999]:fX),Fb (c9 [(AJ (Ξ 5)),(Ξ 3),aDN]) (zV aaV (Ξ 3)) (i0 ns k N names nm l w n b y z)=.ok (η c) M:=
  Kf (enc:=ak.int) (xs:=[-5,3,999999]) (lits a_ rfl) rfl rfl a_
 rw[cV hcs (i! c) (hN c (by
  simp only[List.mem_cons,List.not_mem_nil,or_false]at hc⊢
  omega)) (Of (η c) M e4 fj)];exact last c b hcs aE0
def a1f aaE aal dX apo af5 ao6:Qy (GI i! M) (ayB (i0 ns k N names nm l w n a y z) M):=by
 rw[zY ayB (ajb (gS w jn&&aB1) M ?_ (λhk=>dP (eZ (aJT hN G h hd wM ha))))]
 ·rw[ll,ane (w:=w) (u:= "cancel") jn rfl rfl,ag,aKI h rfl];rw[xx hw w jn hw]
 ·have hg:aCa:=aC1 aBg.2
  rw[z8 r hr e (aI6 (N:=N) (ρ:=i0 ns k N names nm l w n a y z) h rfl rfl hg) (Of (η r) M e fj)];rw[k9 (sT r hr) G.len];exact aJT (a:=aU r) hN G h hd wM abQ
def aJU aaE aal dX apo af5(yZ:ab7 x names x)ao6:Qy (GI i! M) (ayC (i0 ns k N names nm l w n a y z) M):=by
 unfold ayC;rw[cW bx (û ρ (i0 ns k N names nm l w n a y z) d aD J1) (ajb (aMC&&(aDq&&gS (N%4) 2)) M ?_ (λhk=>dP (eZ (a1f hN G h sT hd wM ha))))]
 ·rw[bM e1 (cD aEb (i0 ns k N names nm l w n a y z) M=.ok aMC M) (by
   rw[dn,bx,ag];rw[yc gH h.ju];rw[Hr encD List.isEmpty_map]) e2 (cD bH (i0 ns k N names nm l w n a y z) M=.ok aDq M) (by
   rw[dn,Ey 4 (i0 ns k N names nm l w n a y z) M .ok (je names) M,ag]
   simp[gH])]
  rw[ll,e1,ag,ll,e2,ag,au1 a_];cases W.falls.isEmpty<;>cases names.isEmpty<;>simp
 ·rw[bM hn (dj names.isEmpty) (by
   rw[Pw (Bool.and_eq_true_iff.mp aBg.2).1]) hp (0<names.length) (ap6 hn)]
  obtain⟨v,hv,e1⟩:∃v∈([jH,.go,jH,iD]:List fV),Fb (c9 [Vc,(b! "go"),Vc,LK]) (zV (Ξ 64) (Ξ 4)) (i0 ns k N names nm l w n a y z)=.ok (av v.s) M:=
   Kf (enc:=fun(v:fV)=>ak.str v.s) (xs:=[jH,.go,jH,iD]) (by rw[au sM (cn a_)]) rfl rfl a_
  have en:ae 4 (i0 ns k N names nm l w n a y z) M=.ok (ς aLT) M:=rfl;rw[z8 x hx e2 (Kf (c:=256) (N:=N) (k:=3) (enc:=ak.int) (xs:=names) en (auP ak.int en) rfl hp) (xY (wu (v,0,x)) M (p7 (eX (sj ⟨a6k (i:=0),yZ x hx⟩))))];rw[yC,aP,e1,ag,aP,bo,ag,aP,e2];rfl
def a1g aaE{gd:D1}aal dX apo af5(yZ:ab7 x names x)ao6
  (hg:xZ s (u!->∃ds:gP fV (Int×Int),ā 90/\(∀d∈ds,OT i! d)/\gd [ο 7,η s] M=.ok (ς ah2) M)):Qy (GI i! M) (aKH gd (i0 ns k N names nm l w n a none none) M):=by
 rw[zY aKH (ajb (gS (N%4) 0&&aB1) M ?_ (λhk=>dP (eZ (aJU hN G h sT hd yZ wM ha))))]
 ·rw[ll,au1 a_,ag,aKI h rfl];rw[xx hw (N%4) 0 hw]
 ·have hge:aCa:=aC1 aBg.2
  rw[aiL r hr (aI6 (N:=N) (ρ:=i0 ns k N names nm l w n a none none) h rfl rfl hge)];rw[cW s5 (sT r hr) (qK (η r) e)];show Ee (L2.Fin (GI i! M)) _ (qx (mV 11 _) _ Nj M);obtain⟨ds,hdl,Kn,FZ⟩:=hg bZ (G.sg s5);have uu:=û ρ Nj d aD Zm;obtain⟨m,em,hm⟩:=auQ (N / 256) m 2 a_
  rw[gv e1 (ax gd [aD,(ato ň 10)] Nj M=.ok (ς ah2) M) (by
   rw[bY,aP,RQ 2 Nj .ok ο 7,ag,aP,az,az,uu,ag,abt 10 Nj .ok r,ag,J! s5,ag,bo,ag,Og]
   rw[tT bB];exact FZ) e2 (cu (qa false) (c9 [(dM [BX,(ae 10),(Ξ 0)])]) (zV (Ξ 256) (Ξ 2)) Nj M=.ok (ς ((aqO (fV.cancel,aU r,aU 0)).map wu)) M) (by
   have el:Wl [(dM [BX,(ae 10),(Ξ 0)])] Nj M=.ok (ς [wu (jn,r,0)]) M:=by
    rw[sM,aP,yC];exact II
   rw[az,el,ag,az,az,abt 3 Nj .ok N,ag,bo,ag,aw5 a_ a_,ag,bo,ag,ZD a_,ag,em]
   have:m=0\/m=1:=aB
   rcases this with rfl | rfl<;>with_unfolding_all rfl) e3 (∃Uk:gP fV (Int×Int),lO Uk.length/\(∀d∈Uk,OT i! d)/\(RS (ax gd [aD,(ato ň 10)]) (c9 [(dM [BX,(ae 10),(Ξ 0)])]) (zV (Ξ 256) (Ξ 2))) Nj M=.ok (ς WI) M) (by
   refine⟨ds++aqO (fV.cancel,aU r,aU 0),by rw[î List.length_replicate];omega,dB d hd,?_⟩
   ·rcases List.mem_append.mp hd with hd | hd
    ·exact Kn d hd
    ·rw[List.eq_of_mem_replicate hd];have h2:=G.len;rw[b4 ⟨by rw[Q6 (-1000≤aU r)],by show aU r≤_;omega⟩ (hN 0 Θ)]
   ·rw[az,e1,ag,e2,ag,pz,←List.map_append,cn (by rw[aBV eP List.length_replicate];omega)])]
  obtain⟨Uk,wU,A5,e3⟩:=e3;refine qK (ς WI) e3;rw[abo (Ee (L2.Fin (GI i! M)) _ (d6 _ _ _ (i0 ns k N names nm l w n a bS (HR WI)) M)) (ur (! Uk.isEmpty) M ?_ (cJ cE) (λ_=>dP (eZ (aJU hN G h sT hd yZ wM ha))))]
  ·rw[dn,RQ 11 (i0 ns k N names nm l w n a bS (HR WI)) .ok ς WI,ag]
   simp[gH]
  ·rw[bM hp (0<Uk.length) (ap6 (aX cE)) en (ae 11 (i0 ns k N names nm l w n a bS (HR WI)) M=.ok (ς WI) M) rfl];rw[Mg d Kv e4 (Kf (c:=1024) (N:=N) (k:=3) (enc:=wu) (xs:=Uk) en (auP wu en) rfl hp) (p6 (wu d) M e4 (p7 (eX (jc d (A5 d Kv)))))]
def rn aaE{p9 gd:D1}aal aaB dX apo(yZ:Qg q (i! q.1))(DS:SY 90)
  (hg:∀dY qv,D_->u!->∃ds:gP fV (Int×Int),ā 90/\(∀d∈ds,OT i! d)/\gd [ο 7,η s] M=.ok (ς ah2) M):
  ∃d,OT i! d/\Xx (al4 p9 gd) [.pj ns,η k,ο 7]=.ok (wu d) M:=by
 have main:GI i! (M++[.aj (qk Y)]) (al4 p9 gd [.pj ns,η k,ο 7] M):=by
  rw[zY al4 (ak6 (P:=GI i! (M++[.aj (qk Y)])) ?_)]
  simp only[b6,zD,zE,m9,Nat.zero_add,Nat.reduceAdd,Nat.reduceSub,List.replicate,m_,l5,j?];refine qK (η (HA k)) (aK (hm ns k M));rw[gn]
  generalize HA k=N
  rw[kB KG (iF SP 90) (by rw[nJ DS]) aEC (ab7 x SP x) (yq (by
   rw[BC q hq hx (yZ q hq)])) (qL (je SP))]
  ·have e:=û ρ [qI .pj,k?,bh,IA,none,none,none,none,none,none,none,none] d aD q!;rw[bY,aP,e];rw[tT bB];rw[yc oy (o! h.iJ)];rw[anl,gG (by rw[ai9 DS])];rw[Hs je]
  rw[gn];generalize SP=names at KG aEC
  obtain⟨nm,wM,e1⟩:∃nm,i! nm/\(uJ (cD bH) (FG bH 16 (tR bH)) (Ξ 7)) [qI .pj,k?,bh,IA,Ĺ,none,none,none,none,none,none,none] M=.ok (η nm) M:=by
   rw[bM en (ae 4 [qI .pj,k?,bh,IA,Ĺ,none,none,none,none,none,none,none] M=.ok (ς aLT) M) rfl et (cD bH [qI .pj,k?,bh,IA,Ĺ,none,none,none,none,none,none,none] M=.ok aDq M) (by
    rw[dn,en,ag];simp[gH])]
   rw[aex,et,ag];cases he:names.isEmpty with
   |true=>exact jc 7 (hN 7 Θ)
   |false=>
    have hp:0<names.length:=ap6 he;rw[pN x hx e (Kf (c:=16) (N:=N) (k:=3) (enc:=ak.int) (xs:=names) en (auP ak.int en) rfl hp) x (aEC x hx) e]
  refine qK (η nm) e1;rw[x7 (qL (ς (aoe.map λw=>ak.str w.s)))]
  ·rw[au sM (cn a_)]
  rw[gn];rw[z8 w hw e2 (Kf (c:=4) (N:=N) (k:=3) (M:=M) (ρ:=[qI .pj,k?,bh,IA,Ĺ,dR nm,HR (aoe.map λw=>ak.str w.s),none,none,none,none,none]) (enc:=λw=>ak.str w.s) (xs:=aoe) (d:=ae 6) (aEK:=Ξ 12) rfl rfl rfl a_) (qK (av w.s) e2)];rw[vV e_ (M++[.aj (qk Y)]) (aQG h rfl)]
  rw[gn];rw[agO h1 (h.push (.aj (qk Y))) hd (Vs (M++IW (qk Y)) .aj (qk Y)) Θ (M++IW (qk Y)) aa h1 hd];generalize M.length=n at hd;rw[fG YW (aI5 (w:=w) G) aRm (0<(ajF (aU (Ge Y w) > 1) (Ge Y w) 1)) (by split<;>omega)]
  rw[ġ a ea ha (aR9 (N:=v9 (k+1)) aRm) GB (H? a) (by split at ha<;>omega) (nF (η a) aa)]
  ·have e3:=aIi (w:=w) (n:=n) (ρ:=[qI .pj,k?,bh,IA,Ĺ,dR nm,HR (aoe.map λw=>ak.str w.s),QS,CH,none,none,none]) h1 hd rfl rfl rfl;simp only[az,bY,aP,bB,aN,bf,a!,ag,bo,aIw,hm ns _ aa]at e3⊢;rw[e3];simp only[ag];rw[FF (an4 [η 1,η (Ge Y w)] aa) .ok (η (ajF (aU (Ge Y w) > 1) (Ge Y w) 1)) aa,ag,ZD aRm,ea]
  rw[gn]
  exact a1g hN (a:=aU a) G h1 sT hd aEC wM abQ (sE (hg aa s h1 hs))
 rw[pN d hd e main d hd (aC0 _ e rfl)]
universe zE
universe Sb
universe zE
section
namespace Sb
open PySem L2
section
variable {C:eu}{Y:eD}{o:cR}{M:ba}{B:cF}{W:bC}{j:Nat}{w:fV}{i x:Int}
def amx{y:Int}(hy:y≠x):Xk Jo y=tE:=by
 cases w with
 |set=>rfl
 |cancel=>rw[pU F1];split<;>rfl
 |throw=>rfl
 |tick=>show Xk (Gd W) y=_;rw[aG7]
 |enter=>
  show cG JE y=_;rw[q_,WD]
 |go=>
  rw[QY (Xk (rz Y W x) y=_) rz];split
  ·rfl
  ·split
   ·show cG JE y=_;rw[q_,WD]
   ·split
    ·show cG JE y=_;rw[q_,WD]
    ·show cG JE y=_;rw[q_,WD]
 |draw=>
  rw[QY (Xk (wD W x) y=_) wD];split
  ·rfl
  ·split
   ·show cG (Qn x) y=_;rw[NU,WD]
   ·show cG JE y=_;rw[q_,WD]
 |turn=>
  rw[QY (Xk (F_ W x) y=_) F_];split
  ·rfl
  ·show cG JE y=_;rw[q_,WD]
def a1h{y:Int}(hy:y≠x):Xk (DG Y W w i x) y=tE:=by
 unfold DG;split
 ·exact amx hy
 ·rfl
def a3f dX(h:Bu)(hn:Qg q (oD q.1))rI:yp (Xj (DG Y W w i x)) (oD q.1):=vY (by
 rw[uh q x]
 ·rw[nT hx]
 ·have h1:=z! (TC (w:=w) (i:=i) (x:=x) G h).I.i_;rw[bF (a1h e) h1 (hn _ (wj h1))])
structure s7 kh dY oF kj(o:cR)K0:Prop where
 y:u0
 w:D_
 f:Bu
 S:K7
 sep:∀i,A! j i->o i=.qe
 nm:Qg q (oD q.1)
abbrev St kh dY kj:Prop:=∃B o j,s7 C Y M B W o j
abbrev KI kh DY kj(res:lN)Bl:Prop:=XS C Y o M res nY Jo
def s7.push azY(v:fu):s7 C Y (M++[v]) B W (j8 o M.length .qe) j:=by
 refine⟨s.y.push v .qe,s.w.push v,s.f,s.S,dB i hi,s.nm⟩;unfold j8;split
 ·rfl
 ·rw[Xq i hi]
def hV.ad gJ gV(hi:A! j i):zQ i:=by
 rcases hi with rfl | rfl | rfl | rfl | rfl
 ·exact jJ h.qh
 ·exact jJ h.gU
 ·exact jJ h.ju
 ·exact jJ h.iJ
 ·exact jJ h.wl
def a4M K2 pH(f:n5 M')(sep:∀i,A! j i->o i=.qe):By M' B:=
 h.keep f.len λi hi aS=>f.out i (V5 (sep i (Ω e))) (V5 (sep i (ay (Ω e)))) (V5 (sep i (ay (ay (Ω e))))) (V5 (sep i (ay (ay (ay (Ω e)))))) (V5 (sep i (ay (ay (ay (ay e)))))) hi
abbrev anz kh(gd:D1):Prop:=∀M B W o j Bl,s7 C Y M B W o j->qP (gd [ο 7,av w.s,η i,η x] M) w
abbrev aeI kh(ga:D1)(v:qn->ak):Prop:=∀M B W o Bl,u0->Bu->K7->Ec->w_->TK C Y o M (ga [ο 0,av w.s,η i,η x] M) nY v λB'=>alC Y Jo B'
def step{gd ga:D1}{v:qn->ak}dX(hd:anz C Y gd)(ha:aeI C Y ga v)azY zd rI:
  ∃aa M2,gd [ο 7,av w.s,η i,η x] M=.ok (av (uD nY)) aa/\ga [ο 0,av w.s,η i,η x] aa=.ok (v nY) M2/\St C Y M2 (DG Y W w i x):=by
 rw[HS L (hd M B W o j w i x s) hf (TC (w:=w) (i:=i) (x:=x) G s.f) hn (a3f (w:=w) (i:=i) (x:=x) G s.f s.nm hx)];by_cases hk:nY=.ok
 ·have ea:DG Y W w i x=Jo:=by rw[dO DG hk]
  rw[ea]at hf hn⊢;unfold lE at L;rw[hk]at L⊢;obtain⟨aa,j',e1,w1,f1,hj⟩:=L;rw[cH y1 (a4M s.y f1 s.sep) A (ha aa B W o w i x y1 s.f s.S hi hx)];rw[hk]at A;rcases A with⟨_,M2,o',B',e2,y2,f2,b8⟩ | ⟨hc,_⟩
  ·rw[tD aQH (∀i,A! j' i->o i=.qe) (λi hi=>by
    rcases hj with rfl | hj
    ·rw[Xq i hi]
    ·rcases hi with e | e | e | e | e
     ·rw[Xq i (Ω e)]
     ·rw[Xq i (ay (Ω e))]
     ·rw[Xq i (ay (ay (Ω e)))]
     ·rw[Xq i (ay (ay (ay (Ω e))))]
     ·exact s.y.hi i aB) ⟨aa,M2,e1,e2,B',o',j',y2,w1.keep λi hi hl=>f2.out i hl (aQH i hi),hf,b8,dB i hi,hn⟩];rw[au (f2.tag i (w1.ad hi)) (aQH i hi)]
  ·rw[Rv hc]
 ·have ea:DG Y W w i x=W:=by
   unfold DG;split
   ·rw[WX];rw[CI hk]
   ·rfl
  rw[ea]
  rw[Iu e1 (gd [ο 7,av w.s,η i,η x] M=.ok (av (uD nY)) M) (by
   unfold lE at L;cases e:nY with
   |ok=>rw[CI hk]
   |none=>rw[E! L L]
   |held=>rw[E! L L]
   |red=>rw[E! L L]) A (ha M B W o w i x s.y s.f s.S hi hx)];rcases A with⟨hc,_⟩ | ⟨_,c,e2⟩
  ·rw[kA hc hk]
  ·exact⟨M,_,e1,e2,B,_,j,s.push (bP c)⟩
def a1i dX GO à:W4 B (λp=>JD)=ĥ W:=by
 unfold amw heldW
 have:∀w:fU,(∀x∈w,U2 x.1)->(w.any λs=>apN s.1||nI (VG s.1))=w.any λs=>m7 W s.1:=λw hw=>by
  induction w with
  |nil=>rfl
  |cons x w ih=>
   rw[List.any_cons,List.any_cons,ih (An (hw y (aK hy)))];rw[jj m7 List.getD_eq_getElem?_getD (S.locks x.1 (hw x Θ)) (ayw S)];rfl
 exact this _ (yq (ahN r x.1 (j4 x hx)))
def a3g(S:K7)Bj(hp:uc):(zX||JD)=m7 W p:=by
 rw[jj m7 List.getD_eq_getElem?_getD (at0 p) (ayw S)];rfl
def a4N KR dX age
    (h:(PK i/\res=oY)\/∃r:Nat,i=r/\lM ∧
      ((aL (W4 B (λp=>JD))/\res=bP C.he M) ∨
       (dj (W4 B (λp=>JD))/\C? (res=.ok .ai M') (setB Y.rs ajS B r)))):KI C Y o M W res iW i x:=by
  rw[arK KI du F1];rcases h with⟨hn,e⟩ | ⟨r,rfl,hr,c⟩
  · rw[au hn e]
  rw[ahD hr];rw[a1i G f.I S hr]at c;rcases c with⟨hh,e⟩ | ⟨hh,M',e,y1,f1⟩
  · rw[au hh e]
  · rw[gx hh ⟨M',o,_,e,y1,f1,a0j G.cZ f.I S hr (NA G f.I hr hh).1 (G.l0 hr)⟩]
def aYM KR dX age
    (h:(PK i/\res=oY)\/∃r:Nat,i=r/\lM ∧
      ((L4 r/\res=oY) ∨
       (tG/\((g5 (ud&&(WR Y||kq))/\u9 (res=.ok .ai M') (H! (Xb r) M' (anG Y.rs B r (atp zF Y))) (I5 (Xb r)))
          \/ q4 (ud&&(WR Y||kq))/\C? (res=.ok .ai M') (amL Y.rs B r))))):KI C Y o M W res jn i x:=by
  rw[arK KI du F1];rcases h with⟨hn,e⟩ | ⟨r,rfl,hr,c⟩
  · rw[au hn e]
  rw[ahD hr];rcases c with⟨hg,e⟩ | ⟨hg,c⟩
  · rw[Qf hg e]
  rw[if_pos hg];rw[fG aS (a1c G f.I S f.J M_) hq ((ud&&(WR Y||kq))=anm Y W r) (by
    rw[dO anm aS];cases agV Y<;>rfl)]
  rw[hq]at c;rcases c with⟨hb,M',e,y1,f1⟩ | ⟨hb,M',e,y1,f1⟩
  · rw[hb,ek]
    refine⟨M',_,_,e,y1,f1,?_⟩;have:=aYl (u:=atp zF Y) G.cZ f.I S hg;unfold Kg at this;rw[←aS,S.ticks]at this;rw[au S.ticks this]
  · rw[hb,lR]
    exact⟨M',_,_,e,y1,f1,aUV G.cZ f.I S hg⟩
def a1j KR dX age
    (h:(dj (HK i)/\res=oY)\/∃p:Nat,i=p/\uc/\JB ∧
      ((g5 (zX||JD)/\res=bP C.he M) ∨
       (q4 (zX||JD)/\C? (res=.ok .ai M') (aeJ B p)))):KI C Y o M W res kE i x:=by
  rw[arK KI du F1];rcases h with⟨hn,e⟩ | ⟨p,rfl,hp,uH,c⟩
  · rw[au hn e]
  have acF:aL (HK (aU p)):=by rw[jA acW (avA hp) uH]
  rw[ap5 (if_pos acF)];rw[a3g S hp]at c;rcases c with⟨hh,e⟩ | ⟨hh,M',e,y1,f1⟩
  · rw[au hh e]
  · rw[gx hh ⟨M',o,_,e,y1,f1,aWs S hp uH⟩]
def a3h KR dX age(h:C? (res=.ok .ai M') (aeT Y.rs B)):KI C Y o M W res iD i x:=by
 rw[rX M' e y1 f1 h ⟨M',o,_,e,y1,f1,aYn G.cZ f.I S⟩]
def a3i KR à(h:(aL (ĥ W)/\res=.ok (av "held") M)\/(Ģ W/\C9 (res=.ok (av "ok") M') (tZ (lD Y.ps) W r))):lE Y M W j res iW r x:=by
 rw[arK lE du F1];rw[ahD hr];rcases h with⟨hh,e⟩ | ⟨hh,M',e,w1,f1⟩
 ·rw[au hh e]
 ·rw[gx hh ⟨M',j,e,w1,f1,Ω rfl⟩]
def aW3 KR à(h:(L4 r/\res=.ok (av "none") M) ∨
  (tG/\((g5 (ud&&(! MR||kq))/\C9 (res=.ok (av "ok") M') (T5 W r ⟨Q2,Fp,kq⟩)) ∨
   (q4 (ud&&(! MR||kq))/\u9 (res=.ok (av "ok") M') (asZ M' (ZE W r)) (kt j M M'))))):lE Y M W j res jn r x:=by
 unfold lE du F1 anm;dsimp only;rw[ahD hr];rcases h with⟨hg,e⟩ | ⟨hg,c⟩
 ·rw[Qf hg e]
 rw[if_pos hg];rcases c with⟨hb,M',e,w1,f1⟩ | ⟨hb,M',e,w1,f1⟩
 ·rw[hb,ek];exact⟨M',j,e,w1,f1,Ω rfl⟩
 ·rw[hb,lR];exact⟨M',_,e,w1,f1,ay fh⟩
def aYO KR Bj(hp:uc)(h:(atL p/\res=.ok (av "none") M) ∨
  (JB/\((g5 (m7 W p)/\res=.ok (av "held") M)\/(q4 (m7 W p)/\C9 (res=.ok (av "ok") M') (tj W p))))):lE Y M W j res kE p x:=by
 unfold lE du F1 acW;dsimp only;rw[avA hp,Int.toNat_natCast,Bool.true_and];rcases h with⟨hg,e⟩ | ⟨hg,c⟩
 ·rw[au hg e]
 rw[hg,ek];rcases c with⟨hh,e⟩ | ⟨hh,M',e,w1,f1⟩
 ·rw[au hh e]
 ·rw[gx hh ⟨M',j,e,w1,f1,Ω rfl⟩]
universe zE
universe Sb
universe zE
end
mutual
section
namespace Sb
open PySem L2
abbrev aYP KV c7:Prop:=∀ps ss ao0 dY,Sj->g [e_,ic,mL,η wait] (M++[dD c []])=.ok .ai (M++NW c M.length ps ss t7 wait)
abbrev anf jS:Qc:=ps.map λp=>VW (uA p) true none
abbrev fL gD:bC:=⟨vO none,Ŝ,[],[],0,[]⟩
abbrev Ka gD:cF:=⟨[],aCC,[],[],0,[]⟩
abbrev o0:cR:=λi=>Vv (i≤5) yard .qe
abbrev ZR gD:ba:=[ς ((Ŝ).map Gr),.aj (wKs Y [] 0 8),ς ((vO (none:fO)).map bu),.aj [],.aj []]
section
variable {C:eu}{Y:eD}{M:ba}
def am0{gf d7 dv:bz}pB(y:ak)(aa:ba)nt(M2:ba)(k:ak)(bq M':ba)aNZ aNT:lB gf d7 dv ρ M=.nx ρ M':=by
 unfold lB;rw[hv,Res.fg,ho,Res.fg,hk,Res.fg,hp]
def aI7:xZ n (FD (aB3 [ak.ai])=(aB3 (none:fO)).map bu)
 |0=>rfl
 |n+1=>by rw[List.replicate_succ,List.flatten_cons,aI7 n,List.replicate_succ];rfl
def a1k bk(h:n≤16):qa true (ς [.ai]) (η n) M=.ok e_ (M++[ς ((aB3 (none:fO)).map bu)]):=by
 rw[bM hs (Û gm) (JZ aB aB) a6z (aCf (aU 2 ^ 62)) aDH]
 rw[yc qa F7];rw[a6z,Int.toNat_natCast,if_pos ⟨hs,aB,aB,by simp[lim];omega⟩,aI7,ml (by simp[lim];omega)]
abbrev qh gD:rM:=[(aD3,xd),(aC9,Rt),(ly "wait",η Y.wait),(aD2,ο 6),(atV,ς []),(auY,η 0)]
abbrev gU gD:rM:=qh Y++[(ail,aaT)]
abbrev w8 gD:rM:=gU Y++[(č,ο 8)]
abbrev ju gD:rM:=w8 Y++[(ahK,ο 9)]
def a7U:j_ (qh Y) ail aaT=gU Y:=cI
def a7V:j_ (gU Y) č (ο 8)=w8 Y:=cI
def a7W:j_ (w8 Y) ahK (ο 9)=ju Y:=cI
def a6l:j_ (ju Y) asC (ο 10)=wKs Y [] 0 8:=cI
def ZA azn dX(h6:M.length=6):awv lC [xd,Rt,η Y.wait] M=.ok (ο 7) (M++ZR Y):=by
 rw[cH A2 G.g.fc hrs G.rs];rw[B7 awv P q (q=.ok (ο 7) (M++ZR Y)) (nF (ο 6) (M++[ς ((Ŝ).map Gr)]))]
 ·rw[Xc Y.ps w M fy.enc (λp=>Gr (VW (uA p) true none)) (nZ (ρ=[y])) W3 (qM p) (jk A2)]
  ·rw[BI _ _,ml (by rw[LX A2]),h6];rw[Hs anf]
  ·rw[Lo y hρ];refine rY _ rfl jD (cJ _);cases p<;>simp[fy.enc,uA,Gr,j!]
 rw[gn]
 have l1:cC (M++z6 ((Ŝ).map Gr))=7:=aK h6
 generalize GC:M++z6 ((Ŝ).map Gr)=aa at l1;refine nF (ο 7) (aa++[.aj (qh Y)])
 ·unfold Gn;simp only[b6,zD,aP,bB,aN,bf,a!,ag,bo,sM];rw[II];rw[r3 ag l1];rfl
 rw[gn]
 rw[kB aof (∀(G:ba)(o o':fu),(aa++o::G).set 7 o'=aa++o'::G) (λG o o'=>by rw[cw l1 aJ0]) aog (∀(G:ba)(o:fu),iQ (aa++o::G) 7 o) (λG o=>by rw[cw l1 a0c]) (tn ?_)];rw[iU (am0 aaT (aa++[.aj (qh Y)]) (ο 7) (aa++[.aj (qh Y)]) (av "routes") (aa++[.aj (qh Y)]) (aa++[.aj (gU Y)]) ?_ rfl rfl ?_) fj]
 rotate_left
 ·simp[hr Y.ps Y.ss _ G.g,hrs]
 ·rw[Rc (aog [] _) ail (by rw[Ŷ 6]),a7U,aof]
 refine tn ?_
 rw[iU (am0 (ο 8) (aa++[.aj (gU Y),ς ((vO (none:fO)).map bu)]) (ο 7) (aa++[.aj (gU Y),ς ((vO (none:fO)).map bu)]) (av "locks") (aa++[.aj (gU Y),ς ((vO (none:fO)).map bu)]) (aa++[.aj (w8 Y),ς ((vO (none:fO)).map bu)]) ?_ rfl rfl ?_) fj]
 rotate_left
 ·simp only[az,sM,aP,bB,bo,ag,bY,aN,bf,a!];rw[II,ag,mH (e! [xd] (aa++IW (gU Y))) (.ok (aDW η) (aa++IW (gU Y))) (aK e!),ag,a1k A2]
  simp[l1]
 ·rw[Rc (aog _ _) č (by rw[Ŷ 7]),a7V,aof]
 refine tn ?_
 rw[iU (am0 (ο 9) (aa++[.aj (w8 Y),ς ((vO (none:fO)).map bu),.aj []]) (ο 7) (aa++[.aj (w8 Y),ς ((vO (none:fO)).map bu),.aj []]) (av "falls") (aa++[.aj (w8 Y),ς ((vO (none:fO)).map bu),.aj []]) (aa++[.aj (ju Y),ς ((vO (none:fO)).map bu),.aj []]) ?_ rfl rfl ?_) fj]
 rotate_left
 ·simp[yK,l1]
 ·rw[Rc (aog _ _) ahK (by rw[Ŷ 8]),a7W,aof]
 refine tn ?_
 rw[iU (am0 (ο 10) (aa++[.aj (ju Y),ς ((vO (none:fO)).map bu),.aj [],.aj []]) (ο 7) (aa++[.aj (ju Y),ς ((vO (none:fO)).map bu),.aj [],.aj []]) (av "trains") (aa++[.aj (ju Y),ς ((vO (none:fO)).map bu),.aj [],.aj []]) (aa++[.aj (wKs Y [] 0 8),ς ((vO (none:fO)).map bu),.aj [],.aj []]) ?_ rfl rfl ?_) fj]
 rotate_left
 ·simp[yK,l1]
 ·rw[Rc (aog _ _) asC (by rw[Ŷ 9]),a6l,aof]
 refine p6 (ο 7) _ (by simp;rfl) (eX ?_);rw[←GC];unfold ZR
 simp
def a8r:I3 (fL Y):=by
 rw[d_ ⟨aK fL,dB r h,cM p r h,aK fL,aK fL,aK fL,aK fL,cM x t h,lV x y t t' h⟩ (f_ Due fL) (cM x t h)]
 ·rcases h with h | h<;>simp[fL]at h
 ·simp[fL,List.getElem?_replicate]at h
 ·simp[fL,NX]at h
 ·simp[fL,NX]at h
 ·simp[fL,NX]at h
def start dX:s7 C Y (NW C.aM 0 Y.ps Y.ss Y.rs Y.wait++ZR Y) (Ka Y) (fL Y) o0 8:=by
 refine⟨⟨rfl,rfl,?_,rfl,rfl,rfl,λi hi=>by rw[dO o0 (if_pos hi)],dB i hi,aK Ka,aK Ka⟩,IY rfl rfl a_ rfl rfl,a8r,⟨?_,aK Ka,aK Ka,aK Ka,f_ fL anf,?_,?_,aK Ka,rfl,rfl,rfl⟩,dB i hi,aK fL⟩
 ·show aT (fu.lst (Y.ps.map λ_=>ak.str "straight"))=HR ((aCC).map j!);rw[aC6];rfl
 ·have:11≤i:=hi;rw[dO o0 asr]
 ·intro p hp;simp[fL,Ka,NX,List.getElem?_replicate,hp]
 ·intro p hp uH
  have e:JK (fL Y).points true:=by
   show Ŝ[p]? = _;rw[iT anf g_ (aec hp)];have:aL (uA (ď p)):=uH;simp[this]
  rw[e];show _=aT aCC[p]?;rw[g_,aec hp];rfl
 ·intro s r;simp[Ka,fL,NX]
 ·rw[dO o0 (vQ (by rcases hi with rfl | rfl | rfl | rfl | rfl<;>omega))]
universe zE
universe Sb
universe zE
section
namespace Sb
open PySem L2
section
variable (C:eu)
abbrev Ul gD dY Pp:Prop:=M[0]? = Er (AO Y t)
abbrev axu c7:Prop:=∀Y e o M B pF,Yr->Ec->g [ο 0,η i] M=Bx (K? i) .ok .ai (bP C.dN M)
abbrev axt c7:Prop:=∀Y e o M B pF,Yr->Ec->g [ο 0,η i] M=So .ok .ai
abbrev axv c7:Prop:=∀Y e o M B pF,Yr->Ec->g [ο 0,η i] M=Ŕ i .ok .ai M
abbrev axw c7:Prop:=∀Y e o M B pF,Yr->Ec->g [ο 0,η i] M=ç i .ok .ai M
abbrev aKD c7:Prop:=∀Y M t ew,Ul C Y M t->lM->g [ο 0,η r] M=.ok (η bZ) M
abbrev aKJ c7:Prop:=∀Y M t ew,Ul C Y M t->lM->g [ο 0,η r] M=.ok kW M
abbrev amU c7:Prop:=∀Y M t qv,Ul C Y M t->Ew->u!->g [ο 0,η s] M=.ok (.ah lg) M
abbrev ayI c7:Prop:=∀rK M,g agm M=.ok (.ah (uA p)) M
abbrev aJg c7:Prop:=∀M p s,g [fy.enc p,bw s] M=.ok (j! (Kh p s)) M
abbrev aeQ c7:Prop:=∀jS aok M,Ex->g [ic,η a,η x] M=.ok (.ah (IC x).isNone) M
abbrev ae9 c7:Prop:=∀jS aok M,Ex->g [ic,η a,η x] M=.ok (bu (IC x)) M
abbrev aKi c7:Prop:=∀wW M',Ek M' = El->Ej M' = G5->Ld->g [ku] M'=.ok (bU Sp) M'
abbrev aKM c7:Prop:=∀Y o M B pF,u0->(ajp q q.2)->Ec->g [ο 0,η i] M=So .ok (eQ (VG i))
abbrev ayG c7:Prop:=∀Y o M B tf,u0->(ajp q q.2)->az5->uc->g [ο 0,η p] M=aqe (zX||JD) M (.ok .ai M)
abbrev awV c7:Prop:=∀Y M tk wW,Ul C Y M tk->Ew->Ek M = El->Ej M = G5->X?->g [ο 0,ku] M=.ok (bu (kI Y (cg t.tr))) M
abbrev aKa c7:Prop:=∀Y o M B qv,u0->Ew->(ahi q (q.2.tr.steps≠[]))->g [ο 0,η s] M=.ok (eQ (þ Y s)) M
abbrev aH8 c7:Prop:=∀dY(u:Int)(v:ak),g [e_,η u,v] (M++[dD C.fa []])=.ok .ai (M++[dD C.fa [Af u,ŭ v]])
abbrev anS c7:Prop:=∀Y e o M B w,Yr->agf->(apz K_)->ahI (g [ο 0,b9 w] M=.ok .ai M') M' B w (Ca/\xh/\∀i,i≠1->M'[i]? = M[i]?)
abbrev axi c7:Prop:=∀Y,aHw C Y g
abbrev aKO c7:Prop:=∀M:ba,g [e_] (M++[uf []])=.ok .ai (M++CB::[ς [],ς []])
abbrev aKL c7:Prop:=∀s M,g [bw s] M=.ok (bw QH) M
abbrev ayH c7:Prop:=∀Y,Ew->aC3 16->ayU C Y g
abbrev l6 c7(w:fV)(arg:Int->Int->fK):Prop:=∀Y M B W o KS,uZ->u0->Bu->K7->Ec->w_->KI C Y o M W (g (arg i x) M) w i x
variable {C}
variable {Y:eD}{o:cR}{M:ba}{B:cF}{W:bC}{ρ:aY}
def anA:aKD C (alE C.aM):=λY M t r h hr=>by
 rw[lQ alE q (q=.ok (η bZ) M)];rw[xU e (OD h (ρ:=[aQ,bS]) (d:=ao) rfl vx) (B? (η bZ) M (f_ e (J! hr)))]
def ae4:aKJ C (al2 C.aM):=λY M t r h hr=>by
 rw[lQ al2 q (q=.ok kW M)];rw[xU e (OD h (ρ:=[aQ,bS]) (d:=ao) rfl vx) (B? kW M (f_ e (J! hr)))]
def a3j{bG:D1}(hb:ae9 bG):aeQ (avQ bG):=λps a x M hl=>lL (Y:=⟨ps,[],[],0⟩) (λa x=>hb ps a x M hl) a x
def a4O{bG:D1}(hb:aeQ bG):amU C (alA C.aM bG):=λY M t s h hl hs=>by
 rw[lQ alA q (q=.ok (.ah lg) M)];rw[lS e1 (OD h (ρ:=[aQ,fm,none]) (d:=ao) rfl vy) e2 (OD h (ρ:=[aQ,fm,aT W2]) (d:=ao) rfl F8) (qK W2 (f_ e1 (T9 hs)))];rw[xU KH (fun(a:Nat) (aU x)=>aaN a x M hl) (B? (.ah lg) M (by simp[e2,fQ,KH,As]at e2⊢))]
def aLl:ayI avR:=λp M=>ac7 p
def aLm:axu C (aFl C.dN C.aM dE):=λY e o M B i h hi=>acN h hi
def a4P:axt C (aFm C.dN C.aM dE):=λY e o M B i h hi=>acO h hi
def aLn:axv C (m4 C.dN C.aM dE):=λY e o M B i h hi=>acJ h hi
def a4Q{b_ dQ:D1}(hc:axt C b_)(hp:ayI dQ):axw C (avH C.dN C.aM b_ dQ):=λY e o M B i h hi=>acI h hi (hc Y e o M B i h hi) (λp=>hp p M)
def a4R:aKi C (avD C.tr):=λt M h1 h2 h3=>YN h1 h2 h3
def aLo{b_ gc:D1}aOB:aKM C (alv C.aM b_ gc):=λY o M B i h hl hi=>aVG h (hc Y _ o M B i h hi) hu hl
def a8f bk(h:H? n):oD gm:=abQ
def a4S{gt:D1}(ht:aKM C gt):ayG C (avx C.he C.aM gt):=λY o M B p h hl YR hp=>by
 refine acA (ti:=λp=>JD) h (dB q hq) hp QI;rw[vz (ht Y o M B q h hl QI) (Ó hq)];rw[Ci this (by dsimp only;cases VG q<;>rfl)]
def a4T{dQ:D1}(hp:ayI dQ):aJg (qr dQ):=λM p s=>adw (λp=>hp p M) p s
def a4U{bG:D1}(hb:ae9 bG):awV C (avF C.tr C.aM bG):=λY M tk t h0 hl h1 h2 aS=>acG h0 h1 h2 aS λa j=>aaN a j M hl
def a4V{ga:D1}(ha:awV C ga):aKa C (mx C.aM ga):=λY o M B s h hl aS=>acZ h aS λt M' h0 h1 h2 h3=>ha Y M' _ t h0 hl h1 h2 h3
def a4W:aH8 C (avS C.fa):=λM u v=>ac9
def ayS:anS C (Zf C.aM):=λY e o M B w h hn hl=>q0 h hn hl
def a4n:ax4 C Y (Zf C.aM):=λo M B w a h hn hl ha h1=>aV9 h hn hl ha h1
def a4o:axi C (avG C.dN C.aM):=λY o M B x h hx=>acH h hx
def a4p:aKO C (mr C.tr):=λM=>acY
def a4q:aKL awc:=λs M=>adL s
def a4r{bG gs:D1}(hb:amU C bG)apr:ayH C (acU C.fa C.rd C.aM bG gs):=λY hl hss e o M B x s h hx jf fq=>
 ac0 h hx QI fq (λM' r h0 hr=>hs Y M' _ r h0 hr) (λM' h0=>hb Y M' _ s h0 hl jf)
def a4s{gc:D1}(hu:anS C gc):ayd C Y (av6 C.tr gc):=λx o M B t s a h T ha hl jf=>
 adx h T ha hl jf λM B h hl=>hu Y _ o M B [s] h Θ (aX hl)
def a4t{gs bQ b_:D1}apr aaF azB:aeX C Y (lj C.tr C.aM gs bQ b_):=λx o M B t r s w h T hr fJ jN hl jf=>
 acQ h T hr fJ jN hl jf (λM' r h0 hr=>hs Y M' _ r h0 hr) (λM' r h0 hr=>hw Y M' _ r h0 hr) hc
def aQA GO{q:Int×TB}(hq:at8 q):aO (agy q.1) q.2.tr:=by
 rw[ă (YI (q:=(q.1,q.2.tr)) I.i_ ?_) S.trains (j4 q hq)]
def an8 dX GO:ajp q q.2:=vY (by
 have:=I.afn (aQA I S hq);rw[e9 G.g.fc])
def a6m GO:ahi q (q.2.tr.steps≠[]):=vY (JO (aQA I S hq)).ne
def a6n GO:ajx:=by
 have:=I.i_;rw[S.trains,amb]at this;rw[zp]
def a4u dX GO:∀x∈aqq,HY x:=yq (by
 rw[S! r hr ((ahM _).mp hx)];rw[vE ((S.greens x r).mp hr)];rw[cw h2 (G.sg (I.avm h1))])
def JS.le dX:Ew:=by rw[e9 G.g.fc]
def a4v{b_ bQ iZ gl gs:D1}(hc:axu C b_)aaF(hn:ayG C iZ)(hl:aJg gl)apr:l6 C (acR C.aM b_ bQ iZ gl gs) iW (λi _=>[ο 0,η i]):=λY M B W o i x G h f S hi hx=>
 a4N G f S (ada (ti:=λp=>JD) h G.cZ G.g.fc G.g.AW (qN M_) S.DQ S.DR S.Kb S.oA (a4u G f.I S) (hc Y _ o M B i h hi) (qN (hw Y M _ r h.y0 hr))
  (jb (hn Y o M B p h (an8 G f.I S) G.g.fc hp)) hl (λM B r h hr=>hs Y M _ r h.y0 hr))
def aYQ aOC(hc:axu C b_)apr(ht:aKa C gt)(hb:amU C bG)(hf:aH8 C o9)(hu:anS C gc)aaF:l6 C (Ze C.fa C.dN C.aM b_ gs gt bG o9 gc bQ) jn (λi _=>[ο 0,η i]):=λY M B W o i x G h f S hi hx=>
 aYM G f S (adN h hi G.cZ f.I S G.len (qN M_) (hc Y _ o M B i h hi) (λM B r h hr=>hs Y M _ r h.y0 hr) (λM B' s h hB jf=>by rw[cw hB (ht Y o M B' s h G.le (by rw[au hB (a6m f.I S)]))]) (λM B s h jf=>hb Y M _ s h.y0 G.le jf) hf (λM B w h=>hu Y _ o M B w h) (λM B r h hr=>hw Y M _ r h.y0 hr))
def XB{b_ iZ:D1}(hc:axw C b_)(hn:ayG C iZ):l6 C (adD C.aM b_ iZ) kE (λi _=>[ο 0,η i]):=λY M B W o i x G h f S hi hx=>
 a1j G f S (ad2 (ti:=λp=>JD) h S.Kb (hc Y _ o M B i h hi) (jb (hn Y o M B p h (an8 G f.I S) G.g.fc hp)))
def a3k{gc bQ:D1}(hu:anS C gc)aaF:l6 C (awA C.fa C.aM gc bQ) iD (cK _ [ο 0]):=λY M B W o i x G h f S hi hx=>
 a3h G f S (aek h G.cZ f.I S f.D G.len (λM B w h=>hu Y _ o M B w h) (λM B r h hr=>hw Y M _ r h.y0 hr))
def a0R{alh bG lC NQ dQ:D1}(hk:axv C alh)(hb:amU C bG)(hr:ayH C lC)(lH:aKO C NQ)(hp:∀Y,aeX C Y dQ):l6 C (awu C.he C.dN C.tr C.aM alh bG lC NQ dQ) jo (λi x=>[ο 0,η x,η i]):=λY M B W o i x G h f S hi hx=>
 ad3 h hx hi G.cZ f.I S G.g.fc (qN (nK).ne) (hk Y _ o M B i h hi) (sE (hb Y M _ s h.y0 G.le hs)) (hr Y G.le G.g.AW) lH (hp Y)
def a6o{gt b_ bG dQ lC ga:D1}aoB(hc:∀Y,ayd C Y b_)(hb:aeQ bG)(hp:∀Y,aeX C Y dQ)(hr:ayH C lC)(hr0:∀M gI,w_->lC [ο 0,η x,.ai] M=bP C.rd M)(ha:awV C ga):l6 C (anh C.rd C.tr C.aM gt b_ bG dQ lC ga) .go (cK x [ο 0,η x]):=λY M B W o i x G h f S hi hx=>
 ZZ h hx G.cZ f.I S G.g.fc (qN (nK).ne) (ht Y) (hc Y) (λa j=>aaN a j M G.le) (hp Y) (hr Y G.le G.g.AW) (hr0 M x hx) (λt h1 h2 h3=>ha Y M _ t h.y0 G.le h1 h2 h3)
def a3l{gt:D1}aoB:l6 C (awB C.he C.tr C.aM gt) gZ (cK x [ο 0,η x]):=λY M B W o i x G h f S hi hx=>ael h hx f.I S (ht Y)
def a3m{gt gc gd:D1}aoB(hu:∀Y,ax4 C Y gc)(hd:aKL gd):l6 C (awC C.fa C.rd C.tr C.aM gt gc gd) jH (cK x [ο 0,η x]):=λY M B W o i x G h f S hi hx=>ZI h hx G.cZ f.I S G.g.fc (ht Y) (hu Y) hd
structure awN(C:eu)azM:Prop where
 a0:l6 C g0 iW (λi _=>[ο 0,η i])
 a1:l6 C g1 jn (λi _=>[ο 0,η i])
 a2:l6 C g2 kE (λi _=>[ο 0,η i])
 a3:l6 C g3 jo (λi x=>[ο 0,η x,η i])
 a4:l6 C n_ iD (cK _ [ο 0])
 a5:l6 C n! .go (cK x [ο 0,η x])
 a6:l6 C n? gZ (cK x [ο 0,η x])
 a7:l6 C oh jH (cK x [ο 0,η x])
def awN.all aoq azI Pc dX pH age zd rI:KI C Y o M W (aEB g0 g1 g2 g3 n_ n! n? oh w i x M) w i x:=by
 cases w with
 |set=>exact A.a0 Y M B W o i x G h f S hi hx
 |cancel=>exact A.a1 Y M B W o i x G h f S hi hx
 |throw=>exact A.a2 Y M B W o i x G h f S hi hx
 |enter=>exact A.a3 Y M B W o i x G h f S hi hx
 |tick=>exact A.a4 Y M B W o i x G h f S hi hx
 |go=>exact A.a5 Y M B W o i x G h f S hi hx
 |draw=>exact A.a6 Y M B W o i x G h f S hi hx
 |turn=>exact A.a7 Y M B W o i x G h f S hi hx
universe zE
universe Sb
universe zE
section
namespace Sb
open PySem L2
structure aYN Ux:Prop where
 nd:Ja
 ne:yp d (q.2.steps≠[])
 sl:yp d (lO q.2.steps.length)
 tl:d.length≤90
abbrev aJi c7:Prop:=∀Y M W j(p:Int),D_->asV->g [ο 7,η p] M=.ok (eQ Jy) M
abbrev aIA c7:Prop:=∀Y M W j tf,D_->asV->BP p->g [ο 7,η p] M=.ok (.ah (m7 W p)) M
abbrev aIj c7:Prop:=∀Y M W j ew,D_->aMw->g [ο 7,η r] M=.ok .ai ((M++Nu (nX).map).set 7 (.aj (Vr Y)))
abbrev ayz c7:Prop:=∀Y M W j qv,D_->asV->u!->g [ο 7,η s] M=.ok (je C4) M
abbrev aJh c7:Prop:=∀Y,uZ->ayv Y g
section
variable {C:eu}{Y:eD}{o:cR}{M:ba}{B:cF}{W:bC}{j:Nat}
def tok apm:asV:=by
 have YR:=G.g.fc;refine⟨I.i_,vY (JO auv).ne,dB q hq,?_⟩
 ·rw[e9 (I.afn auv)]
 ·rw[e9 I.aEk]
def a4w:aJi my:=λY M W j p h T=>ik h T.nd T.sl (jk T.tl)
def a4x{gt:D1}(ht:aJi gt):aIA (awf gt):=λY M W j p h T hp=>ra h hp (ht Y M W j p h T)
def a4y:aIj awg:=λY M W j r h hl=>pd h hl
def aLp:ayz (trunc awh):=λY M W j s h T hs=>adR h hs T.nd T.ne (jk T.tl)
def a4z:aJh al3:=λY G M W j x s h A8 sT A9 uN=>Zt h A8 (qN (nK).ne) (qN Ś) sT A9 uN
structure aJf kh azM:Prop where
 jt:∀M B W o j KS,s7 C Y M B W o j->atO i->qP (g0 [ο 7,η i] M) iW
 l1:∀M B W o j KS,s7 C Y M B W o j->atO i->qP (g1 [ο 7,η i] M) jn
 l2:∀M B W o j KS,s7 C Y M B W o j->aL (Hh i)->qP (g2 [ο 7,η i] M) kE
 l3:∀M B W o j KS,s7 C Y M B W o j->aL (Lx i)->qP (g3 [ο 7,η x,η i] M) jo
 l4:∀M B W o j KS,s7 C Y M B W o j->qP (n_ [ο 7] M) iD
 a7B:∀M B W o j KS t,s7 C Y M B W o j->c8=eG->qP (n! [ο 7,η x] M) .go
 a7C:∀M B W o j KS t,s7 C Y M B W o j->c8=eG->qP (n? [ο 7,η x] M) gZ
 a7D:∀M B W o j KS t,s7 C Y M B W o j->c8=eG->qP (oh [ο 7,η x] M) jH
def a7E{Az iZ bG o9 dQ:D1}dX(hh:aIA Az)(hn:ayz iZ)(hb:amF bG)(hf:aIj o9)(hp:aJh dQ):
  aJf C Y (ama Az) (ac1 iZ bG o9) (adh Az) (av7 bG dQ) (awi o9) (awD bG dQ) awj awk:=by
 rw[fG YR G.g.fc hb' (∀M aok,bG [xd,η a,η x] M=.ok (bu (Sk x)) M) (λM a x=>aaN a x M G.le)];refine⟨λM B W o j i x s hn=>?_,λM B W o j i x s hk=>?_,λM B W o j i x s hk=>?_,λM B W o j i x s hk=>?_,λM B W o j i x s=>?_,λM B W o j i x t s ht=>?_,λM B W o j i x t s ht=>?_,λM B W o j i x t s ht=>?_⟩
 ·rw[zJ r hr hn];rw[xU K (WJ G) (a3i hr (si s.w G.cZ G.g.fc G.len hr Ś s.f.I.ln s.S.gi K.gl (jb (hh Y M W j p s.w (WK G) hp))))]
 ·rw[zJ r hr hk];rw[xU K (WJ G) (aW3 hr (Zc s.w hr M_ K.gl K.fl (λM W' k h hW hk=>by rw[cw hW (hn Y M W' j k h (by rw[au hW (WK G)]) hk)]) hb' (λM W h hl=>hf Y M W j r h aB) s.f.I.ln))]
 ·rw[zJ p pn hk];rw[kD (aYO pn (ady s.w pn s.f.I.ln (cJ uH) (hh Y M W j p s.w (WK G) (by rw[au s.f.I.ln pn])))) hl (ar9 p) (by rw[au s.S.Kb pn])]
  rw[b4 B.lying[p] (kn (s.S.AU p pn uH) SI)]
 ·rw[zJ r hr hk];exact oT s.w (WJ G) hr hb' (hp Y G)
 ·exact adS s.w s.f.I.Iy (WJ G).fl s.f.I.ln (λM W j r h hl=>hf Y M W j r h aB)
 ·exact aem s.w (WJ G) ht hb' (hp Y G)
 ·exact rh s.w (WJ G) ht
 ·refine Tr s.w (WJ G) s.f.I.Iy (dB q hq) ht;rw[s.S.falls]at hq;rw[apY u rfl hq];show lO (cC u.2.gh.toList);cases u.2.gh<;>simp
def a3n aNz(ht:∀M W j Bl,D_->gt [ο 7,av w.s,η i,η x] M=.ok (.ah (wA Y W w i x)) M)(L:aJf C Y g0 g1 g2 g3 n_ n! n? oh):anz C Y (awl gt g0 g1 g2 g3 n_ n! n? oh):=λM B W o j w i x s=>
 adU (ht M W j w i x s.w) (L.jt M B W o j i x s) (L.l1 M B W o j i x s) (L.l2 M B W o j i x s) (L.l3 M B W o j i x s) (L.l4 M B W o j i x s) (λt=>L.a7B M B W o j i x t s) (λt=>L.a7C M B W o j i x t s) (λt=>L.a7D M B W o j i x t s)
abbrev ayT kh c7:Prop:=∀M B W o j ns k,s7 C Y M B W o j->∃d,OT oD d/\g [.pj ns,η k,ο 7] M=.ok (wu d) M
def aQB:∀c∈([0,101,102,103,104,100,-3,-5,3,999999,7]:fX),oD c:=by
 rw[ą y hy hy];rw[ž oD]
def a3o{p9 bG iZ:D1}dX aaB(hb:amF bG)(hn:ayz iZ):ayT C Y (C1 (al4 p9 (avI bG iZ))):=λM B W o j ns k s=>
 rn aQB hm G s.w (qN (s.f.I.avm hr)) s.nm (WK G).tl λM k h hk=>YO h hk G.g.AW (λM a x=>aaN a x M G.le) (hn Y M W j k h (WK G) hk) aQB s.nm (WK G).tl
universe zE
universe Sb
universe zE
end
mutual
section
namespace Sb
open PySem L2
abbrev YX gD ew:Nat:=((bN).headD (0,0,0)).1
structure a55 ki:Prop where
 lk:∀p r,Ŗ p r->abG (s.1=p->JB->zP W.points p (aT (lD Y.ps s)))
 tr:∀x t,c8=eG->Vz (apV s.1->zP W.points s.1 (aT (lD Y.ps s)))
 hd:∀r,Ŗ (YX Y r) r->w!
section
variable {Y:eD}{W:bC}
def aI8{a p r:Nat}{l:tv}(h:JK (ĕ a) r):JK l r/\p≠a:=by
 rw[Dd a p]
 ·subst e;rw[nG List.getElem?_set h h]
 ·rw[HX e h];rw[vj h e' (e e'.symm)]
def AH:a55 Y (fL Y):=by
 rw[Wh h (∀p r:Nat,¬(JK (fL Y).locks r)) (λp r h=>by
  have h:JK (vO (none:fO)) r:=h;rw[aBp h];split at h
  ·cases h
  ·cases h) (λp r e=>Rf e (h p r)) (λx t hx=>(by cases hx)) (Ve r e e (h _ r))]
universe zE
universe Sb
universe zE
section
namespace Sb
open PySem L2
section
variable {C:eu}{Y:eD}{o:cR}{M:ba}{B:cF}{W:bC}{j:Nat}{ρ:aY}
structure GN kh dY oF kj(o:cR):Prop where
 y:u0
 f:Bu
 S:K7
def GN.keep(d:yr)K2 aNU:GN C Y M' B W o:=⟨d.y.keep hl h1,d.f,d.S⟩
def GN.app(d:yr)(G:ba):GN C Y (M++G) B W o:=d.keep Θ (aBa i hi _ hi)
abbrev aRa ki qv:Bool:=W.green.any (x8 r (bZ=s))
structure ayJ kh(OO Gy yV avn avl:D1):Prop where
 lk:∀M B W o tf,yr->uc->OO [ο 0,η p] M=.ok (bu (UW p)) M
 TT:∀M B W o gI t,yr->w_->c8=eG->Gy [ο 0,η x] M=.ok (bU ahn) M
 ti:∀M B W o tf,yr->uc->yV [ο 0,η p] M=.ok (eQ Jy) M
 alO:∀M B W o tf b,yr->uc->JB->u7 W.points p b->avn [ο 0,η p] M=.ok (j! b) M
 lC:∀M B W o qv,yr->u!->avl [ο 0,η s] M=.ok (.ah (aRa Y W s)) M
def a4A{b_ gc gt dQ gs:D1}dX aOB aoB(hq:axw C dQ)(hs:axv C gs):ayJ C Y (avE C.aM b_) (avP gc gt) (alv C.aM b_ gc) (aFC C.aM dQ) (mB C.aM gs):=by
 rw[cH YR G.g.fc hss G.g.AW];refine⟨MS M B W o p s hp,λM B W o x t s hx ht'=>?_,MS M B W o p s hp,λM B W o p b s hp acF hb=>?_,MS M B W o k s hk⟩
 ·have:=aWw (i:=aU p) s.y (hc Y _ o M B p s.y QI);rw[aCw (Ó hp) this];rw[this,List.getD_eq_getElem?_getD,s.S.locks p hp];rfl
 ·rw[HU e (a0o s.y (a6n s.f.I s.S) (an8 G s.f.I s.S) (ht Y o M B x s.y hx) hu) h1 s.S.trains h2 (c8=(nV).map (·.tr)) (by rw[h1,Zk];rfl)]
  rw[ht']at h2;cases h3:nV with
  |none=>rw[h3]at h2;cases h2
  |some q=>
   rw[h3]at h2;rw[h3]at e;cases h2;exact e
 ·have:=(aLo hc hu) Y o M B p s.y (an8 G s.f.I s.S) QI;rw[Ó hp,←ayw s.S]at this;rw[zp]
 ·have hn:aL (HK (aU p)):=by rw[jj acW (avA hp) Int.toNat_natCast acF];rfl
  have:=a2I (i:=aU p) (b_:=dQ) s.y s.S.Kb (hq Y _ o M B p s.y QI);rw[aCw (if_pos hn) this];rw[this];rw[gX h (s.S.AU p hp acF) hb h];rw[List.getD_eq_getElem?_getD,←aBO];rfl
 ·have:=aVF (i:=aU k) s.y (hs Y _ o M B k s.y QI);rw[aCw (Ó hk) this];rw[this]
  congr 2
  rw[jj aRa Bool.eq_iff_iff Option.isSome_iff_exists List.any_eq_true];constructor
  ·rintro⟨r,hr⟩;rw[aaK h1 h2 ((s.S.greens k r).mp hr) r h1 (decide_eq_true h2)]
  ·rintro⟨r,h1,h2⟩;rw[b4 r ((s.S.greens k r).mpr ⟨h1,ahd⟩)]
def aw6{t:Int}:bO (Am (Str.ofString "where")):=cI
universe zE
universe Sb
universe zE
section
namespace Sb
open PySem L2
section
variable {C:eu}{Y:eD}{o:cR}{M:ba}{B:cF}{W:bC}{j:Nat}{ρ:aY}
def aYJ bk(h:0<n)(h2:lO n):Ua (η n) (η 1) M=.ok (η (iX (n-1))) M:=by
 have:iX (n-1)=gm-1:=aB
 rw[auz]
universe zE
universe Sb
universe zE
section
namespace Sb
open PySem L2
section
variable {C:eu}{Y:eD}{o:cR}{M:ba}{B:cF}{W:bC}{j:Nat}{ρ:aY}
def a0S gC{gg:tv}D7 G1 fM K2{w:qj}UK afD(f:R0)(R:cS aY)
  aNj(hR:R (DB gg ρ))(h:HV x (∀ρ,R ρ->∃ρ1,aqf (enc x)/\R ρ1/\d ρ1 M'=.ok (.ah (f x)) M'))(hl:aj0):
  mX false gg d7 g oz d ρ M=.ok (ς ((xs.map f).map ak.ah)) M':=by
 rw[cf enc EB (λx=>ak.ah (f x)) R hi hc hR (SG x hx) hl]
 ·rw[BI _ _,gG (by rw[nJ hl]),List.map_map];rfl
 ·rw[rX ρ1 h1 h2 h3 (h x hx ρ hρ) (rY ρ1 h1 h2 (λ_=>h3))]
def a4B fM{bs:xA}K2(h:dH=.ok (ς (bs.map ak.ah)) M'):ax OE [d] ρ M=.ok (.ah (bs.any id)) M':=by
 rw[bY,aP,h];rw[tT bB];unfold OE;simp only[F7,Option.bind_some,Sb.awt]
universe zE
universe Sb
universe zE
section
namespace L2
open PySem
universe L2
namespace Sb
open PySem L2
abbrev a4C(L:Nat)(rs:w9):fK:=(rs.zipIdx L).map λq=>aW [η q.1.1,ο q.2]
section
variable {C:eu}{Y:eD}{o:cR}{M:ba}{B:cF}{W:bC}{j:Nat}{ρ:aY}
def a0T D7 fM{aa:ba}Bm d9 gW aNx(hd:dH=.ok x (Ck .ij)):aew d7 d ρ M=.ok x M:=by
 unfold aew O4;rw[g6 hi];rw[g6 h];rw[hd];rw[pU ayL];rw[jB (get_set h),NZ h]
abbrev a6A:ak5 Bool:=cK b (.ah b)
structure a8Q gD dY(d:Bv Bool)K1:Prop where
 len:M.length<M'.length
 old:apI i (M'[i]? = M[i]?)
 gd:Vs M' .aj (QF a6A)
 wy:Q1 (sD M' (jV+r) ((bN).map bw))
 ls:sD M' (jV+Y.rs.length) (a4C jV Y.rs)
universe zE
universe Sb
universe zE
section
namespace Sb
open PySem L2
section
variable {C:eu}{Y:eD}{o:cR}{M:ba}{B:cF}{W:bC}{j:Nat}{ρ:aY}
universe zE
universe Sb
universe zE
section
namespace Sb
open PySem L2
section
variable {C:eu}{Y:eD}{o:cR}{M:ba}{B:cF}{W:bC}{j:Nat}{ρ:aY}
abbrev aRN:nC qn
 |.ok=>true
 |_=>false
def amh aoq{jK:Addr}dX azI:
  aeI C Y (aHk jK C.he C.dN C.rd g0 g1 g2 g3 n_ n! n? oh) λk=>.ah (aRN k):=λM B W o w i x h f S hi hx=>by
 have T:=aJS (jK:=jK) (A.all (w:=w) G h f S hi hx);rw[B7 aHk P q (TK C Y o M q nY (λk=>.ah (aRN k)) λB'=>alC Y Jo B') (ab1 .ai M rfl ?_)]
 rw[xH ?_];show Ee _ _ (Go [jK,C.dN,C.he,C.rd] 4 5 (Z1 g0 g1 g2 g3 n_ n! n? oh) (rg w i x .ai) M);rcases T with⟨hk,M',o',B',e,h1,h2,h3⟩ | ⟨hk,e⟩
 ·rw[iU e (ML (fB .ah) M' (Ω ⟨hk,M',o',B',?_,h1,h2,h3⟩))];rw[cU hk]
 ·rw[iU e (ML (qJ .ah) (M++[MF C]) (ay ⟨hk,Oc C nY,?_⟩))];cases fH:nY with
  |ok=>rw[kA fH hk]
  |none=>rfl
  |held=>rfl
  |red=>rfl
def s7.aM azY:yr:=⟨s.y,s.f,s.S⟩
structure a8O ki(d:Bv Bool):Prop where
 at':∀p b,CM d p b->uc/\JB/\aL (m7 W p)/\u7 W.points p b
def axx{G:fu}{G':fu}:Đ (M++[G]).set G'=M++[G']:=by
 rw[aBy _ fh,Nat.sub_self];rfl
universe zE
universe Sb
universe zE
section
namespace Sb
open PySem L2
section
variable {C:eu}{Y:eD}{o:cR}{M:ba}{B:cF}{W:bC}{j:Nat}{ρ:aY}
def a56 ee:qa false (η 2) (η k) M=.ok (η (2*k)) M:=aYf (by rw[cU (JZ a_ a_)])
def a57{a b c:Nat}{x y z:ak}:o8 3 (mY (bT a) (mY (bT b) (qO c))) (aW [x,y,z]) ρ=qU ((EO a).set b Cm).set c (some z):=rfl
abbrev aQC c7:Prop:=∀Y M,uZ->M.length=6->g [xd,Rt,η Y.wait] M=.ok (ο 7) (M++ZR Y)
def a4D azn:aQC (awv lC):=λY M G h6=>ZA hr G h6
universe zE
universe Sb
universe zE
section
namespace Sb
open PySem L2
section
variable {P:Type} [Vf]
noncomputable abbrev g!(P:Type):=P×ef
abbrev iu:mR->nU->nU
 |_,[]=>[]
 |S,x::l=>qV x.1 S (iu S l) (x::iu (x.1::S) l)
def aW4{S S':mR}(l:nU)(h:∀p,p∈S↔p∈S'):iu S l=iu S' l:=by
 induction l generalizing S S' with
 |nil=>rfl
 |cons x l ih=>
  simp only[iu,h x.1];rw[ih h,ih (S:=x.1::S) (S':=x.1::S') λp=>aK (h p)]
def aVL(T S:mR)(l:nU):NH (iu S l) (zN x x.1 T)=iu (S++T) l:=by
 induction l generalizing S with
 |nil=>rfl
 |cons x l ih=>
  simp only[iu];rw[PV (x.1∈S)]
  ·rw[BF,ahz h1,ih]
  ·rw[aia h1 h2 (x.1∈T)]
   ·rw[ahz h2,ahE h2,ih]
    exact aW4 l λp=>by
     simp only[m_,List.mem_cons,List.mem_append];rw[b4 (λh=>h.elim (dF (ay (e▸h2))) id) ay]
   ·rw[vQ (f_ h1 h2),ati h2,ih,m_]
def Jn(S:mR)(l:nU):iu S (aDv x x.1 S)=iu S l:=by
 suffices h:∀T:mR,(gb S (p∈T))->iu T (aDv x x.1 S)=iu T l from h S (cK h h)
 induction l with
 |nil=>intro T _;rfl
 |cons x l ih=>
  intro T hT;rw[RP x.1 S]
  ·rw[ahE h,iu,jB (hT _ h),ih T hT]
  ·rw[ati h,iu,iu];split
   ·exact ih T hT
   ·rw[ih (x.1::T) (jb (h_ (hT p hp)))]
def ad8{S:mR}{l:nU}{x:g! P}(h:x∈iu S l):x∈l/\x.1∉S:=by
 induction l generalizing S with
 |nil=>cases h
 |cons y l ih=>
  rw[iu]at h;split at h
  ·rw[b4 (h_ (ih h).1) (ih h).2]
  ·rename_i hn;rcases EC with e | h
   ·subst e;rw[b4 List.mem_cons_self hn]
   ·rw[vj (h_ (ih h).1) z ((ih h).2 (h_ z))]
def a3p{S:mR}{l:nU}{x:g! P}(h:x∈l):x.1∈S\/x.1∈gz (iu S l).map:=by
 induction l generalizing S with
 |nil=>cases h
 |cons y l ih=>
  rw[iu];rcases EC with e | h
  ·subst e;split
   ·rename_i h;exact Ω h
   ·exact ay Θ
  ·split
   ·exact ih h
   ·rcases ih (S:=y.1::S) h with z | z
    ·rcases List.mem_cons.mp z with e | z
     ·exact ay IB
     ·exact Ω z
    ·exact ay (by simp only[b6,List.mem_cons];exact ay z)
def aKG(S:mR)(l:nU):xD (iu S l).map:=by
 induction l generalizing S with
 |nil=>exact List.nodup_nil
 |cons y l ih=>
  rw[iu];split
  ·exact ih S
  ·rw[b6,List.nodup_cons];rw[fF (cJ h) (ih _)];rw[Cb x hx e h];exact(ad8 hx).2 (by rw[aAS e])
def aYK{S:mR}aNC(l:nU):(iu S l).find? (λx=>b x.1)=asw x (b x.1):=by
 suffices h:∀T:mR,(gb T (aL (b p)->∃x∈([]:nU),True))->(iu T l).find? (λx=>b x.1)=asw x (b x.1) from h S λp hp e=>by rw[hS p hp]at e;cases e
 induction l with
 |nil=>intro T _;rfl
 |cons y l ih=>
  intro T hT;rw[iu,List.find?_cons];split
  ·rename_i h;cases e:b y.1 with
   |true=>obtain⟨x,hx,_⟩:=hT _ h e;cases hx
   |false=>exact ih T hT
  ·rw[List.find?_cons];cases e:b y.1 with
   |true=>rfl
   |false=>
    refine ih (y.1::T) (cM p hp e2);rcases aAH with z | z
    ·rw[z,e]at e2;cases e2
    ·exact hT p z e2
universe zE
universe Sb
universe zE
section
namespace Sb
open PySem L2
section
variable {P A:Type} [Vf]
abbrev alZ UB(en:qA P)(L:nU):nU:=L.flatMap (dF (((oH).filter (nx e.1)).map λr=>(en r,e.2++[r])))
abbrev wC UB(b:nC P)(en:qA P):CS nU UT
 |0,_=>none
 |k+1,L=>match L.find? (λx=>b x.1) with
  |some e=>MV e
  |none=>wC n nx b en k (iu [] (C7 en L))
abbrev alV UB apb(R:u_):u_:=R.flatMap (dF (((oH).filter (nx (f e.1))).map λr=>(ls r,e.2++[r])))
abbrev yG(f:A->P):mR->u_->u_
 |_,[]=>[]
 |S,x::l=>qV (f x.1) S (um l) (x::yG f (f x.1::S) l)
abbrev Ug UB(b:nC P)apb:CS u_ (mR->yd UT)
 |0,_,_=>none
 |k+1,R,S=>VW R.isEmpty none (match (C_ R).find? (λx=>b (f x.1)) with
  |g7=>G! x.2
  |none=>Ug n nx b f ls k (um (C_ R)) (S++(um (C_ R)).map (Jp x x)))
abbrev F3(f:A->P)(x:g! A):g! P:=(f x.1,x.2)
def axT(f:A->P)(S:mR)(l:u_):(um l).map (F3 f)=iu S (l.map (F3 f)):=by
 induction l generalizing S with
 |nil=>rfl
 |cons x l ih=>
  rw[yG,b6,iu];show _=qV (f x.1) S _ _;split
  ·exact ih S
  ·rw[b6,ih];rfl
def awq UB apb(R:u_):(C_ R).map (F3 f)=C7 (Ao (ls r)) (aby f):=by
 unfold alV alZ;rw[List.map_flatMap,List.flatMap_map];simp only[List.map_map];rfl
def aIk azA aoA{S e8:mR}(h3:gb e8 (∀r<n,aL (nx p r)->en r∈S))(L:nU):
  NH (C7 en L) (zN x x.1 S)=NH (C7 en (L.filter (zN x x.1 e8))) (zN x x.1 S):=by
 induction L with
 |nil=>rfl
 |cons e L ih=>
  unfold alZ at ih⊢;rw[List.flatMap_cons,List.filter_append,ih];rw[RP e.1 e8]
  ·rw[ahE h];rw[List.filter_eq_nil_iff.mpr,l5];intro x hx;rw[rZ r hr hx];obtain⟨hr1,hr2⟩:=VH;simpa using h3 _ h r (List.mem_range.mp hr1) hr2
  ·rw[ati h,List.flatMap_cons,List.filter_append]
def aIl{S:mR}aNC(l:nU):(aDv x x.1 S).find? (λx=>b x.1)=asw x (b x.1):=by
 induction l with
 |nil=>rfl
 |cons x l ih=>
  rw[RP x.1 S]
  ·rw[ahE h,List.find?_cons,hS _ h,ih]
  ·rw[ati h,List.find?_cons,List.find?_cons,ih]
def a0U{f:A->P}{b:nC P}(l:u_):(l.map (F3 f)).find? (λx=>b x.1)=(asw x (b (f x.1))).map (F3 f):=by
 rw[cU List.find?_map]
def amy{U S:mR}(hn:S.Nodup)(h:gb S (p∈U)):S.length≤U.length:=by
 induction S generalizing U with
 |nil=>exact yb
 |cons x S ih=>
  rw[aBX hn]
  rw[fG h1 (ih (U:=U.erase x) hn.2 (jb (by
   rw[Ų aS (p≠x) (dF (hn.1 (e▸hp))) ((List.mem_erase_of_ne aS).mpr (h p (h_ hp)))]))) h2 (x∈U) (aA8 x)];rw[fG h3 (List.length_erase_of_mem h2) h4 (0<U.length) (List.length_pos_of_mem h2)];rw[nQ zE]
structure DI UB(b:nC P)apb(AH:P)(L:nU)(R:u_)(S e8:mR):Prop where
 r:aby f=L.filter (zN x x.1 e8)
 s:∀p,p∈S↔p∈e8\/p∈R.map (Jp x x)
 cl:gb e8 (∀r<n,aL (nx p r)->f (ls r)∈S)
 nb:gb S (dj (b p))
 nd:S.Nodup
 sub:gb S (p=AH\/∃r<n,p=f (ls r))
variable {n:Nat}{nx:P->mq}{b:nC P}{f:A->P}{ls:qA A}{AH:P}{L:nU}{R:u_}{S e8:mR}
def DI.pl afS{x:g! P}(h:x∈L):x.1∈S:=by
 rw[aaI j.s h0 (x.1∈e8)]
 ·exact Ω h0
 ·right
  have:x∈aby f:=by rw[au j.r (aPb h (aK h0))]
  rw[Cb y hy e this];exact U4 y hy (by rw[←e];rfl)
def DI.avK afS(m:Nat):wC n nx b (Ao (ls r)) (m+1) L=wC n nx b (Ao (ls r)) m (iu [] (C7 (Ao (ls r)) L)):=by
 rw[wC]
 have:bO (L.find? (λx=>b x.1)):=aBe x hx (by rw[fk (j.nb _ (j.pl hx))])
 rw[this]
def DI.Iy afS:(iu [] (C7 (Ao (ls r)) L)).find? (λx=>b x.1)=((C_ R).find? λx=>b (f x.1)).map (F3 f):=by
 rw[aYK (Ve p h h (List.not_mem_nil)),←aIl j.nb,aIk j.cl L,←j.r,aIl j.nb,←awq,a0U]
def DI.aRL afS(h:bO ((C_ R).find? (λx=>b (f x.1)))):
  DI n nx b f ls AH (iu [] (C7 (Ao (ls r)) L)) (um (C_ R)) (S++(um (C_ R)).map (Jp x x)) S:=by
 rw[Ð hm (((um (C_ R)).map (Jp x x))=gz (iu S (C7 (Ao (ls r)) (aby f))).map) (by
  rw[←awq,←axT,List.map_map];rfl) Z0 (∀{x:g! P},x∈C7 (Ao (ls r)) (aby f)->dj (b x.1)/\∃r<n,x.1=f (ls r)) (by
  intro x hx;rw[fF ?_ ?_]
  ·rw[←awq]at hx;rw[rZ y hy hx];have:=List.find?_eq_none.mp h y hy;simpa[F3] using this
  ·rw[ap7 e he hx];rw[L7 r hr he (jc r (List.mem_range.mp VH.1))]) ⟨?_,ID p,lV p hp r hr hx,sy,?_,sy⟩]
 ·rw[axT,awq,aVL,l5,←Jn S (C7 _ L),aIk j.cl L,←j.r,Jn]
 ·rw[List.mem_append];rcases(j.s p).mp hp with h0 | h0
  ·exact Ω (j.cl p h0 r hr hx)
  ·rw[rZ y hy h0];rw[hm];have:(f (ls r),y.2++[r])∈C7 (Ao (ls r)) (aby f):=List.mem_flatMap.mpr ⟨F3 f y,List.mem_map_of_mem hy,j4 r (apR hr hx)⟩;exact a3p (S:=S) this
 ·rcases SO with h0 | h0
  ·exact j.nb p h0
  ·rw[hm]at h0;rw[L7 x hx h0 (Z0 (ad8 hx).1).1]
 ·rw[List.nodup_append];rw[d_ j.nd (by rw[au hm (aKG _ _)]) (lV p hp q hq e)];rw[xK e hm hq];rw[L7 x hx hq ((ad8 hx).2 hp)]
 ·rcases SO with h0 | h0
  ·exact j.sub p h0
  ·rw[hm]at h0;rw[BC x hx h0 (ay (Z0 (ad8 hx).1).2)]
def DI.fc afS:S.length≤n+1:=by
 rw[Pw (amy (U:=AH::(oH).map (Ao (ls r))) j.nd (jb (by
  rcases au2 p with e | ⟨r,hr,e⟩
  ·rw[aAS e]
  ·rw[nT (h_ (aQd r hr))])))]
def DI.empty(m:Nat):∀{L:nU}{S e8:mR},DI n nx b f ls AH L [] S e8->bO (wC n nx b (Ao (ls r)) m L):=by
 induction m with
 |zero=>intros;rfl
 |succ m ih=>intro L S e8 j;rw[au j.avK (ih (j.aRL rfl))]
def go_eq{U:mR}(hU:∀r<n,f (ls r)∈U)(h0:AH∈U):∀(k m:Nat){L:nU}{R:u_}{S e8:mR},DI n nx b f ls AH L R S e8->(R≠[]->n+2≤m+S.length)->(U.length+2≤k+S.length\/R=[]/\1≤k) →
  Ug n nx b f ls k R S=aT (wC n nx b (Ao (ls r)) m L):=by
 intro k
 induction k with
 |zero=>
  intro m L R S e8 j _ hk
  rw[e9 (amy (U:=U) j.nd (jb (by
   rcases au2 p with e | ⟨r,hr,e⟩
   ·rw[nT h0]
   ·rw[nT (hU r hr)])))]
 |succ k ih=>
  intro m L R S e8 j hm hk
  have hl:=amy (U:=U) j.nd (jb (by
   rcases au2 p with e | ⟨r,hr,e⟩
   ·rw[nT h0]
   ·rw[nT (hU r hr)]))
  rw[Ug];cases R with
  |nil=>rw[jB (BZ (aL ([]:u_).isEmpty)),j.empty m]
  |cons x R=>
   rw[jF Θ];rw[cH hm (hm (aqz _)) hf j.fc];rw[aiQ m rfl m' (m=m'+1) (aih (m-1))];rw[j.avK];have e:=j.Iy;cases hc:(C_ (x::R)).find? (λx=>b (f x.1)) with
   |some y=>
    rw[hc]at e
    rw[gv hb (aL (b (f y.1))) (aX (List.find?_some hc)) hy (¬f y.1∈S) (λh=>by rw[j.nb _ h]at hb;cases hb) fq (S.length+1≤n+1) (by
     rw[Pw (amy (U:=AH::(oH).map (Ao (ls r))) (S:=f y.1::S) (List.nodup_cons.mpr ⟨hy,j.nd⟩) (jb (by
      rcases aAH with e | hp
      ·subst e;rw[ap7 e he (List.mem_of_find?_eq_some hc)];rw[BC r hr he (h_ (j4 r VH.1))]
      ·rcases au2 p with e | ⟨r,hr,e⟩
       ·rw[aAS e]
       ·rw[nT (h_ (aQd r hr))])))])]
    rw[aiQ m rfl m' (m=m'+1) (aih (m-1))];rw[wC,e];rfl
   |none=>
    rw[cW j' (j.aRL hc) (ih m j' (cJ aS) ?_)]
    ·have:0<cC (um (C_ (x::R))):=aBf;rw[î eP];omega
    ·have hk:U.length+2≤k+1+S.length:=hk.elim id (aDS h.1);rcases Nat.eq_zero_or_pos (cC (um (C_ (x::R)))) with h0 | h0
     ·exact ay (aih (List.length_eq_zero_iff.mp h0))
     ·left;rw[î eP];omega
universe zE
universe Sb
universe zE
end
mutual
section
namespace Sb
open PySem L2
section
variable {C:eu}{Y:eD}{o:cR}{M:ba}{B:cF}{W:bC}{j:Nat}{ρ:aY}
def aI9 pC gV{ns:ef}:JN (η (aU i)) (bU ns)=.ok (.ah (PS i ns i ns)) M:=
 N4 (enc:=M? (n:Nat)) (λa=>lZ a) (λa b e=>by injection e with e;omega) rfl
abbrev ZO lK(cN:ef):Bool:=w.all (zN s s.1 cN)
def DT rL:Ro s 0=.ok (η s.1) M:=Og
def awm rL:Ro s 1=.ok (η s.2.1) M:=a34
def rt rL:Ro s 2=.ok (η s.2.2) M:=ZS
def lx{bQ:D1}{r:Int}uY{cN:ef}(hw:bQ [ο 0,η r] M=.ok (b9 w) M)(hl:as5):Tn bQ [ο 0,η r,bU cN] M=.ok (.ah (ZO w cN)) M:=by
 rw[lQ Tn q (q=.ok (.ah (ZO w cN)) M)];simp only[b6,zD,zE,m9,Nat.zero_add,Nat.reduceAdd,Nat.reduceSub,List.replicate,j?];rw[kD (Cy (.ah (ZO w cN))) e (ajf 2 (cj (ax bQ [ao,aA])) (MG (jm 0) aA) ao [aQ,bS,qX cN] M=.ok (ς ((aDw s (s.1∈cN)).map bw)) M) (by
  rw[We w w M bw (x8 s (s.1∈cN)) bw (nZ (ρ=[y,qX cN])) (jL (aK hw)) (qM s) Mw]
  ·exact cn (by rw[nJ (aj5 hl)])
  ·rw[QT y _ ?_ BD];rw[eF,az,az];show((Ab (Ro s 0).bind (ŕ x (bU cN) aa))).bind _=_;rw[DT,ag,aI9,ag];rfl)]
 rw[az,bY,aP,e];rw[tT bB];rw[show e! [ς ((aDw s (s.1∈cN)).map bw)] M=.ok (η (cC (aDw s (s.1∈cN)))) M by simp[e!]];rw[ag,bo,ag,sI]
 congr 2
 rw[dO ZO Bool.eq_iff_iff];simp[List.all_eq_true,List.filter_eq_nil_iff]
def a3q fM aN4(hn:n≤4194304):gT [d] ρ M=Dc .ok (oH).map (k:Nat) M:=by
 have e:EP [d] M=.ok [η gm] M:=by rw[aP,h];rfl
 rw[HD gT e ag]
 have aEV:aCf (aU 2 ^ 62):=aDH
 rw[Fq aEV abQ];rw[show(gm).toNat=n from Int.toNat_natCast n]
 have:qm 0 n=(oH).map (gQ (k:Nat) k):=by
  unfold qm
  exact List.map_congr_left λk _=>Θ
 rw[this]
universe zE
universe Sb
universe zE
section
namespace Sb
open PySem L2
section
variable {C:eu}{Y:eD}{o:cR}{M:ba}{B:cF}{W:bC}{j:Nat}{ρ:aY}
abbrev pg gD ew:q6:=(bN).headD (0,0,0)
abbrev Gg gD(p:Nat×Int)ew:Bool:=d! (LV p p (pg Y r).1/\(pg Y r).2.1=p.2)&&X3 [p.1]
def aw7 dh(l:ef):oW (bU l):=axY (yq (by
 rw[XQ k hx aZ6]))
def aJa ee fM{l:fK}gW(hk:ajG k)(hd:EP [d] (M++[ς l])=.ok [x] (M++[ς l]))(hl:l.length<lim):n8 q9 (ae k) [d] ρ (M++[ς l])=.ok .ai (M++[ς (l++[x])]):=by
 rw[akq (zq hk) (awF (o:=ς l)) [x] hd];unfold q9 lI;simp only[awF];rw[aui,L2.axx]
def aLq(q:fO×Int):G6 (aW [bu q.1,η q.2]):=by
 rw[ą y hy hy];rcases hy with rfl | rfl
 ·cases q.1 with
  |none=>exact TS
  |some n=>exact lZ _
 ·exact lZ _
def a3r{a b:fO}{i k:Int}:QZ (bu a) (η i)=QZ (bu b) (η k)↔a=b/\i=k:=by
 constructor
 ·intro h;simp only[ak.tup.injEq,List.cons.injEq,and_true,ak.int.injEq]at h;rw[fF ?_ h.2];have h1:=h.1;cases a<;>cases b<;>simp[bu]at h1
  ·rfl
  ·rw[Int.ofNat.inj h1]
 ·rintro⟨rfl,rfl⟩;rfl
def adb{bG bQ NQ:D1}rL{us:ef}(h0:∀G,(M++G)[0]? = Er Hj)(DC:Ew)(hb:ae9 bG)aaF
  (hi:∀M ew cN,ahO C Y M->lM->NQ [ο 0,η r,bU cN] M=.ok (.ah (X3 cN)) M)ao2(avu:us.length≤4194304):
  Xx (alG C.aM bG bQ NQ) [ο 0,bw s,zk]=.ok (bU (Ly (s.1,s.2.2))) M:=by
 refine Qm (aw7 _ _);rw[oM alG P q (∃G,q=.ok (bU (Ly (s.1,s.2.2))) (M++G))]
 rw[kB f0 (ahO C Y M) (by rw[M6 (h0 []) j?]) fp (∀UG,t6 0 aQ->ahO C Y M->lq C.aM "pieces" ao ρ M=.ok xd M) (λρ M h1 h2=>by
  exact OD h2 (zq h1) F8) (qL (bu (Ae s s)))]
 ·simp only[bY,aP,bB,az,aN,bo,bf,a!,ag,fp [aQ,lP,qX us,none,none,none,none] M rfl f0,DT,rt];exact aaN s.1 s.2.2 M DC
 rw[vV e_ (M++[ς []]) Θ];rw[xH ?_];refine oS (gQ (r:Nat) r) (kG (∃a b,ρ=[aQ,lP,qX us,Wn (Ae s s),gR,a,b]/\M'=M++[ς (JF (aiF Y (s.1,s.2.2)).map (r:Nat))])) us (M++[ς []]) (jL rfl) (HQ none none)
 ·rw[abj r hx ρ M' a b rfl rfl _];have hr:lM:=DJ r (by rw[nP]);rw[fG f1 (h0 [ς (JF (aiF Y (s.1,s.2.2)).map (r:Nat))]) hlen (cC (JF (aiF Y (s.1,s.2.2)).map (r:Nat))<lim) (by
   rw[iU eP (aq9 Jh ?_)];rw[hx,List.length_append]at avu;exact Nat.lt_of_le_of_lt aB (show 4194304<lim by decide))]
  rw[HU e1 (hw Y _ _ r f1 hr) e2 (hi _ r [s.1] f1 hr) AL (NH (pre++[r]) (Gg Y (s.1,s.2.2))=aiF Y (s.1,s.2.2)++(aCH (Gg Y (s.1,s.2.2) r) [r])) (by rw[aPA];rfl)]
  rw[AL];have al:=fun(ρ:aY) (hk:ajG 4) (h5:t6 5 bS)=>aJa (ρ:=ρ) (k:=4) (d:=ae 5) (x:=η r) (M:=M) hk (by rw[aP,aN,h5];rfl) hlen;generalize A3:(aiF Y (s.1,s.2.2)).map (gQ (r:Nat) r)=jt at e1 e2 al
  rw[cV hf (zP bN 0 (pg Y r)) (by
   unfold pg;cases hw:bN with
   |nil=>rw[kA hw (aS r hr)]
   |cons x w=>rfl) (nF (bw (pg Y r)) (M++[ς jt]))]
  ·simp only[bY,aP,bB,az,aN,bo,bf,a!,ag,e1];exact Ay (i:=0) (by rw[g_,hf];rfl)
  rw[x7 (v8 (Gg Y (s.1,s.2.2) r) (M++[ς jt]))]
  ·rw[gv el (∀M:ba,L9 [η s.1] M=.ok (bU [s.1]) M) (λM=>cn VE) aQY (ő (aW [η (pg Y r).1,η (pg Y r).2.1]) (aW [bu (Ae s s),η s.2.2]) (M++[ς jt])=.ok (.ah (d! (some (pg Y r).1=Ae s s/\(pg Y r).2.1=s.2.2))) (M++[ς jt])) (Zq (aLq (some (pg Y r).1,_)) (aLq (_,_)) (a3r (a:=some (pg Y r).1))) YT (∀b:Bool,LF (M++[ς jt]) (.ah b) (M++[ς jt])=.ok b (M++[ς jt])) (ÿ b)];unfold cb;simp only[ll,eF,dn,yC,az,bY,aP,bB,aN,bo,bf,a!,ag,DT,awm,rt,aQY,el,e2,YT];unfold Gg;by_cases h1:LV s s.2 (pg Y r).1<;>by_cases h2:(pg Y r).2.1=s.2.2<;>simp[h1,h2,eq_comm]
  ·rw[hk,ek];rw[gp (uq .ai _ (al _ rfl rfl) ?_) (ah6 _ _ ?_)];rw[aCh A3];rfl
  ·rw[hk,lR,j?];exact dP (ah6 _ _ (k6 A3))
 ·rw[ah9 ρ' M' a b rfl rfl (Rj (bU (Ly (s.1,s.2.2))) (M++IX) akN)];simp[DA,AQ]
universe zE
universe Sb
universe zE
section
namespace Sb
open PySem L2
section
variable {C:eu}{Y:eD}{o:cR}{M:ba}{B:cF}{W:bC}{j:Nat}{ρ:aY}
abbrev wB UP(eE:ef)tf:Bool:=E?&&d! (p∉eE)||!(iR Jy abN)
def aLr(a:eH):G6 (eQ a):=by
 cases a with
 |none=>exact TS
 |some n=>exact lZ _
def a3s(a b:eH)(h:eQ a=eQ b):a=b:=by
 cases a<;>cases b<;>simp[eQ]at h
 ·rfl
 ·rw[h]
def a3t pC{a:eH}fW:JN (eQ a) (aW [.ai,η x])=.ok (.ah (PS a abN a abN)) M:=
 N4 (enc:=eQ) aLr a3s (as:=abN) rfl
def a2V pC{b:fO}:ui neg (bu b) .ai M=.ok (.ah (if neg then b.isSome else b.isNone)) M:=by cases b<;>cases neg<;>rfl
def acP{OO Gy yV avn avl:D1}fW{eE:ef}(d:yr)aNc(YR:az5):
  Xx (alw C.aM OO yV) [ο 0,η x,bU eE]=.ok (bU (aku (wB W x eE))) M:=by
 refine Qm (aw7 _ _);rw[B7 alw P q (∃G,q=.ok (bU (aku (wB W x eE))) (M++G)) (W7 (M++[ς []]))]
 rw[xH ?_];rw[nE e0 ((d.app [ς []]).y.fld (ρ:=[aQ,aZ,qX eE,gR,none,none]) (d:=ao) rfl F8) hi (gT [(h9 (Mr "pieces"))] [aQ,aZ,qX eE,gR,none,none] (M++[ς []])=Dc .ok (aAy).map (k:Nat) (M++[ς []])) (IJ (by rw[bY,aP,e0];simp[e!])) (oS (gQ (p:Nat) p) (kG (∃a b,ρ=[aQ,aZ,qX eE,gR,a,b]/\M'=M++[ς (JF (aiG W x eE).map (r:Nat))])) aAy (M++[ς []]) hi (HQ none none))]
 ·rw[abj p hx ρ M' a b rfl rfl _];have hp:uc:=List.mem_range.mp (by rw[nP]);rw[pM d1 (d.app [ς (JF (aiG W x eE).map (r:Nat))]) hlen (cC (JF (aiG W x eE).map (r:Nat))<lim) (by
   rw[iU eP (aq9 Jh ?_)];have:=HZ hx;rw[aCj zE this];exact aq9 (show aDT 16 by omega) (show 16<lim by decide)) AL (NH (pre++[p]) (wB W x eE)=aiG W x eE++(aCH (wB W x eE p) [p])) (by rw[aPA];rfl)]
  rw[AL];have al:=fun(ρ:aY) (hk:ajG 3) (h5:t6 4 se)=>aJa (ρ:=ρ) (k:=3) (d:=bH) (x:=η p) (M:=M) hk (by rw[aP,aN,h5];rfl) hlen;generalize A3:(aiG W x eE).map (gQ (r:Nat) r)=jt at d1 al;rw[lS k1 (fun(ρ:aY) (h0:ae 0 ρ (M++[ς jt])=.ok (ο 0) (M++[ς jt])) (h4:EP [bH] (M++[ς jt])=.ok [η p] (M++[ς jt]))=>eo (d1.y.met (ρ:=ρ) (g:=OO) (d:=ao) (ds:=[bH]) (xs:=[η p]) h0 aWv h4) (Q.lk _ B W o p d1 hp)) k2 (fun(ρ:aY) (h0:ae 0 ρ (M++[ς jt])=.ok (ο 0) (M++[ς jt])) (h4:EP [bH] (M++[ς jt])=.ok [η p] (M++[ς jt]))=>eo (d1.y.met (ρ:=ρ) (g:=yV) (d:=ao) (ds:=[bH]) (xs:=[η p]) h0 aGx h4) (Q.ti _ B W o p d1 hp)) (nF (.ah (E?&&d! (p∉eE))) (M++[ς jt]))]
  ·unfold T4;rw[az,k1 _ rfl rfl,ag,bo,ag,a2V,ek,ag];cases h:E? with
   |false=>rfl
   |true=>
    show cu (lh true) bH aD _ _=_;rw[az];show lh true (η p) (bU eE) _=_;rw[aI9,ek];simp
  rw[x7 (v8 (wB W x eE p) (M++[ς jt]))]
  ·rw[ZF,dn];show(LF (M++[ς jt]) (.ah (E?&&d! (p∉eE))) (M++[ς jt])).bind _=_;rw[FF (LF (M++[ς jt]) (.ah (E?&&d! (p∉eE))) (M++[ς jt])) .ok (E?&&d! (p∉eE)) (M++[ς jt]),ag]
   unfold wB;cases(E?&&d! (p∉eE)) with
   |true=>rfl
   |false=>
    rw[lR,eF,az,k2 _ rfl rfl,ag];show(lh true (eQ Jy) (aW [.ai,η x]) _).bind _=_;rw[a3t,ek,ag,Bool.false_or]
  ·rw[hk,ek];rw[gp (uq .ai _ (al _ rfl rfl) ?_) (ah6 _ _ ?_)];rw[aCh A3];rfl
  ·rw[hk,lR,j?];exact dP (ah6 _ _ (k6 A3))
 ·rw[ah9 ρ' M' a b rfl rfl (Rj (bU (aku (wB W x eE))) (M++IX) akN)];simp[DA,AQ]
universe zE
universe Sb
universe zE
section
namespace Sb
open PySem L2
section
variable {C:eu}{Y:eD}{o:cR}{M:ba}{B:cF}{W:bC}{j:Nat}{ρ:aY}
def a4E d9 gW(h:G_ xs.getLast? x):akP xs (-1)=.ok x M:=by
 rw[bM aS (xs≠[]) (dF (by rw[e]at h;cases h)) hl (S4 0) aBf];simp only[fN,pv,uM,A0];rw[asr,B8,show(aU (-1)+xs.length).toNat=ER 1 by omega];rw[aPU h];simp[h]
noncomputable abbrev uE:=Nat×Int
abbrev dm mh:uE:=(s.1,s.2.2)
abbrev KC(p:uE):pL:=[jC p.1,Sum.inl p.2]
abbrev qf(S:qC):gP pL ak:=S.map λp=>(KC p,fB .ah)
def aKP{p q:uE}:KC p=KC q↔p=q:=by
 rw[À a b p c d q];constructor
 ·intro h;simp only[KC,List.cons.injEq,Sum.inl.injEq,and_true]at h;rw[Int.ofNat.inj h.1,h.2]
 ·intro h;rw[h]
def a4F{S:qC}{p:uE}:pe (qf S) (KC p)=qV p S (eL .ah true) none:=by
 unfold pe qf
 induction S with
 |nil=>rfl
 |cons q S ih=>
  rw[b6,List.find?_cons];rw[jq (q=p)]
  ·rw[zo h]
  ·have:¬KC q=KC p:=MN (aKP.mp e);simp only[this,decide_false,ih,List.mem_cons,Ne.symm h,false_or]
def a4G{S:qC}{p:uE}(h:p∉S):j_ (qf S) (KC p) (fB .ah)=qf (S++[p]):=by
 unfold j_ qf;rw[if_neg,List.map_append]
 ·rfl
 ·rw[aqM];rintro⟨q,hq,e⟩;rw[BC a ha hq (h ((aKP.mp aMh)▸ha))]
abbrev yn(e:g! q6):ak:=aW [bw e.1,bU e.2]
abbrev og dY(S:qC)(G:ba)(F:r8):ba:=M++(.jO (qf S)::(G++[ς (F.map yn)]))
variable {S S':qC}{G:ba}{F F':r8}
def a4H:Vs (eU S F) .jO (qf S):=by unfold og;simp
def aK0:sD (eU S F) ME (F.map yn):=by
 rw[jj og aAt (show ME-M.length=G.length+1 by omega) bf];simp
def Y1 gV(h:i<G.length):(eU S F)[jV+i]? = G[i]?:=by
 unfold og;rw[aAt,show jV+i-M.length=i+1 by omega,bf,List.getElem?_append_left h]
def a2W:Đ (eU S F).set (.jO (qf S'))=eU S' F:=by unfold og;simp
def a2X:(eU S F).set ME (ς (F'.map yn))=eU S F':=by
 rw[jj og (aBy _ aB) (show ME-M.length=G.length+1 by omega) List.set_cons_succ];simp
def aJV{A P:Type} [Vf] azy(l:u_)(x:g! A):um (l++[x])=qV (f x.1) (S++(um l).map (Jp y y)) (um l) (um l++[x]):=by
 induction l generalizing S with
 |nil=>simp only[l5,yG,zD,j?]
 |cons y l ih=>
  rw[m_,yG,yG];split
  ·exact ih
  ·rename_i hy;rw[ih,b6]
   have:(f x.1∈f y.1::S++(yG f (f y.1::S) l).map (Jp y y))↔f x.1∈S++f y.1::(yG f (f y.1::S) l).map (Jp y y):=by
    simp only[m_,List.mem_cons,List.mem_append];rw[vj (λh=>h.elim (dF (ay (Ω e))) λh=>h.elim Ω λh=>ay (ay h)) h (h.elim (λh=>ay (Ω h)) λh=>h.elim Ω λh=>ay (ay h))]
   rw[RP (f x.1) (f y.1::S++(yG f (f y.1::S) l).map (Jp y y))]
   ·rw[CJ,jB (this.mp h)]
   ·rw[zH,if_neg (cP (h (this.mpr z)))];rfl
def aKQ{A P:Type} [Vf] azy(h:S.Nodup)(l:u_):gE (S++(um l).map (Jp y y)):=by
 have hm:((um l).map (Jp x x))=gz (iu S (l.map (F3 f))).map:=by rw[←axT,List.map_map];rfl
 rw[hm,List.nodup_append];rw[d_ h (aKG _ _) (lV p hp q hq e)];subst e;rw[L7 x hx hq ((ad8 hx).2 hp)]
def axU{A P:Type} [Vf] azy{l:u_}{x:g! A}(h:x∈um l):x∈l:=by
 induction l generalizing S with
 |nil=>cases h
 |cons y l ih=>
  rw[yG]at h;split at h
  ·exact h_ (ih h)
  ·rcases EC with e | h
   ·rw[f7 e List.mem_cons_self]
   ·exact h_ (ih h)
universe zE
universe Sb
universe zE
section
namespace Sb
open PySem L2
section
variable {C:eu}{Y:eD}{o:cR}{M:ba}{B:cF}{W:bC}{j:Nat}{ρ:aY}{S S':qC}{G:ba}{F F':r8}
abbrev JV gD ew:q6:=((bN).getLast?).getD (0,0,0)
abbrev q? gD(p:uE):Bool:=(Ho p.1 p.2).isNone
abbrev an9 KV(bQ kM:D1):c6:=(Ĭ 9 (Fl (ax bQ [ao,(ae 8)]) MX) (xJ (ax kM [(ü c "pieces"),(CO 9),(tX (ae 9))]) (c! (LZ gF [(ae 8)]))) (L8 (lh true) (dM [(CO 9),(tX (ae 9))]) bH (q1 (W0 (dM [(CO 9),(tX (ae 9))]) (zK .ah)) (FN (ae 5) [(dM [(ae 9),(LZ gF [(ae 8)])])]))))
abbrev Zv(m g:Nat)(last us wH:ak)(a6 a7 a8 a9:pJ):aY:=[aQ,ahY,some us,some wH,jx m,jx (m+1+g),a6,a7,a8,a9]
abbrev adF(e8:qC)(l:r8):qC:=e8++(EJ l).map λy=>dm y.1
def aQx Pr fz(h:aCI):aiW (bU w) (bU [r]) M=.ok (bU (w++[r])) M:=by
 rw[pz,gG (by rw[î eP];exact jk (show _≤1001 by rw[f9]))];rw[←List.map_append]
def a4i Bh{bQ kM:D1}{last us wH:ak}rL Pr fz{a9:pJ}{e8:qC}{l1:r8}aai aNo(DC:Ew)KX(aS:bN≠[])(jN:aCI)
  (hS:auq iC)(hF:auq j5)
  (hb:aa4 Y oG->Q (.eW (bU (w++[r])) (eU iC j5)))
  (hn:ai7 Y oG->Q (.nx (M1 us lP Jx bS ajV) (eU (B! (l1++[(gw,w++[r])])) (EJ (l1++[(gw,w++[r])]))))):
  Q (an9 C.aM bQ kM (M1 us lP Jx bS a9) (eU iC j5)):=by
 unfold an9;rw[L? f0 (h0 iC j5) gd (a4H (M:=M) (S:=iC) (G:=G) (F:=j5)) gl (aK0 (M:=M) (S:=iC) (G:=G) (F:=j5)) e1 (hw Y _ _ r f0 hr)]
 rw[bM anB (((bN).map bw).getLast? = ajV) (by
  rw[List.getLast?_map];unfold JV;cases h:(bN).getLast? with
  |none=>rw[n0 aAu aS]
  |some x=>rfl) e2 (fN kW (η (-1)) (eU iC j5)=.ok (bw gw) (eU iC j5)) (a4E anB)];rw[HU e3 (OI Y.ps gw.1 gw.2.2 (eU iC j5) DC) ea (aQx (M:=eU iC j5) (r:=r) jN) el (∀M:ba,L9 [η r] M=.ok (bU [r]) M) (λM=>cn VE)];rw[cW ep (λa9=>OD f0 (ρ:=M1 us lP Jx bS a9) (d:=ao) rfl F8) (nF (bw gw) (eU iC j5))]
 ·rw[az,bY,aP];show(BR (Ab (Res.ok (ak.obj 0) _).bind (p0 (Dj [ae 8] _ aa).bind ys (.ok (x::ys) M2))).bind xs (bQ xs aa)).bind _=_;rw[ag];show(((bQ [ο 0,η r] _)).bind _)=_;rw[e1,ag];show((Res.ok (ak.int (-1)) _).bind _)=_;rw[ag,e2]
 rw[abo (Q (qx _ _ (M1 us lP Jx bS ajV) _)) (eK (L! (q? Y oG) (eU iC j5) ?_))]
 ·rw[dn,bY,aP,ep,ag];simp only[Zv,aP,bB,az,aN,bo,bf,a!,ag,DT,rt,e3];rfl
 ·refine xY (bU (w++[r])) (eU iC j5) (hb hk);unfold cb;simp only[Zv,aP,bB,az,aN,bo,bf,a!,ag,el,ea]
 ·rw[Qq Ft cE (T3 (aW [η gw.1,η gw.2.2])=aT (KC oG)) rfl a6D (lh true (aW [η gw.1,η gw.2.2]) e_ (eU iC j5)=.ok (.ah (!(iR oG iC))) (eU iC j5)) (by
   rw[dO lh (show bO (ow (eU iC j5) e_) by rw[pU ow];rw[pU NS];rw[gd])];rw[yc getD gd];rw[cE,Option.map_some,a4F];by_cases h:oG∈iC<;>simp[h])]
  rw[cV wI (EJ (l1++[(gw,w++[r])])=qV oG iC j5 (j5++[(gw,w++[r])])) (by
   rw[RP oG iC]
   ·rw[gx CJ (eo (aJV (f:=dm) (S:=e8) l1 (gw,w++[r])) CJ)]
   ·rw[jF h];exact eo (aJV (f:=dm) (S:=e8) l1 (gw,w++[r])) zH) (ur (!(iR oG iC)) (eU iC j5) ?_ (cJ h2) (cJ h2))]
  ·rw[eF];simp only[Zv,yC,aP,bB,az,aN,bo,bf,a!,ag,DT,rt,a6D]
  ·rw[pY hni (oG∉iC) (aX h2) (if_neg hni) wI]
   rw[cV hu (B! (l1++[(gw,w++[r])])=iC++[oG]) (by
    unfold adF;rw[wI,List.map_append,←List.append_assoc];rfl) (tn ?_)]
   have a6G:lB bH (dM [(CO 9),(tX (ae 9))]) (zK .ah) (M1 us lP Jx bS ajV) (eU iC j5)
     = .nx (M1 us lP Jx bS ajV) (eU (iC++[oG]) j5):=by
    unfold lB;simp only[Zv,yC,aP,bB,az,aN,bo,bf,a!,ag,DT,rt,Res.fg];rw[yc Dz gd];rw[g6 cE];rw[jB (by rw[jA qf eP (Lp hS)]),a4G hni,a2W]
   rw[iU a6G fj];rw[lS aQ9 (aK0 (M:=M) (S:=iC++[oG]) (G:=G) (F:=j5)) a6B (aQx (M:=eU (iC++[oG]) j5) (r:=r) jN) (E_ .ai (eU (iC++[oG]) (j5++[(gw,w++[r])])) ?_)]
   ·rw[aSf (n:=ME) rfl aQ9 (xs:=[aW [bw gw,bU (w++[r])]]) (by
     unfold cb
     simp only[Zv,yC,aP,bB,az,aN,bo,bf,a!,ag,el,a6B])]
    unfold q9 lI
    rw[r3 aQ9 (jB (by rw[nJ (Lp hF)]))];rw[show(j5).map yn++[aW [bw gw,bU (w++[r])]]=(j5++[(gw,w++[r])]).map yn by rw[aLX],a2X]
   ·have:=hn hk;rw[hu,wI]at this;rw[zp]
  ·rw[pY lH (oG∈iC) (aX h2) (if_pos lH) wI]
   have hu:B! (l1++[(gw,w++[r])])=iC:=by rw[dO adF wI]
   have:=hn hk;rw[hu,wI]at this;exact dP this
universe zE
universe Sb
universe zE
end
mutual
section
namespace Sb
open PySem L2
section
variable {C:eu}{Y:eD}{o:cR}{M:ba}{B:cF}{W:bC}{j:Nat}{ρ:aY}{S S':qC}{G:ba}{F F':r8}
abbrev acs gD(us:ef)(e:g! q6):r8:=(Ly (dm e.1)).map λr=>(gw,e.2++[r])
abbrev NP gD(us:ef)(R:r8):r8:=R.flatMap (acs Y us)
def aZh gC{p:R0}{l1 l2:qy}{x:α}(h1:∀y∈l1,dj (p y))(hx:ajY x):(l1++x::l2).find? p=g7:=by
 rw[List.find?_append,aBe y hy (by rw[fk (h1 y hy)])];simp[hx]
def a2Y{U:qC}{e8:qC}{l:r8}(hn:e8.Nodup)(hs:gb e8 (p∈U))(hl:∀x∈l,dm x.1∈U):iF (B! l) U.length:=by
 refine amy (aKQ hn l) sy;rcases SO with h | h
 ·exact hs p h
 ·rw[BC x hx h (hl x (axU hx))]
def a4j Bh{yW bQ kM:D1}{last wH:ak}{us:ef}{R:r8}{a6 a7 a8 a9:pJ}{e8 U:qC}aai{wt:qj}aNo(DC:Ew)
  ao2(jN:∀e∈R,aaH (kU e.2))(fS:e8.Nodup)(avs:gb e8 (p∈U))azS(hU:aCJ)
  (DO:∀s S F,yW [ο 0,bw s,zk] (eU S F)=.ok (bU (Ly (dm s))) (eU S F))
  (hi:cj bA (Ym zk a6 a7) (eU e8 [])=.ok (ai4,wt) (eU e8 []))(hc:∀S F,E9 (eU S F))
  (hb:∀x S F,(Hl).find? (λx=>q? Y (dm x.1))=g7->Q (.eW (bU x.2) (eU S F)))
  (hn:∀a6 a7 a8 a9,bO ((Hl).find? (λx=>q? Y (dm x.1)))->Q (.nx (Ym zk a6 a7) (eU (B! Hl) (EJ Hl)))):
  Q (eO (cj bA) (o8 2 (mY (bT 6) (qO 7))) (eO (cj (ax yW [ao,(ae 6),aD])) (bT 8) (an9 C.aM bQ kM)) (Ym zk a6 a7) (eU e8 [])):=by
 rw[kB lH (∀(l:r8),(∀x∈l,∃r∈us,x.1=gw)->auq (B! l)/\auq (EJ l)) (λl hl=>by
  rw[fG h (a2Y (U:=U) fS avs (l:=l) (yq (by rw[aiL r hr (hl x hx)];rw[nT (avr r hr)]))) h2 (cC (B! l)=e8.length+cC (EJ l)) (by unfold adF;rw[î eP])]
  omega) hcn (∀(pre:r8),∀x∈yj,∃r∈us,x.1=gw) (λpre x hx=>by
  rw[ap7 e he hx];rw[L7 r hr he (jc r VH.1)]) (sH yn (kG (∃a6 a7 a8 a9,ρ=Ym zk a6 a7/\M'=eU (B! yj) (EJ yj)/\∀y∈yj,ai7 Y (dm y.1))) R wt (eU e8 []) hi (hc _ _) ⟨a6,a7,a8,a9,rfl,by unfold adF NP;simp[yG],by intro y hy;cases hy⟩ ?_ ?_)]
 ·rintro pre e post hx ρ M' ⟨avd,ave,acn,aco,rfl,rfl,hnb⟩;rw[agH s w e (VP (M1 zk lP Jx acn aco))];rw[gv a58 aCI (jN (s,w) (by rw[nP])) eR (Hl=yj++(acs Y us (s,w)++NP Y us post)) (by rw[hx];rw[iT NP List.flatMap_append List.flatMap_cons]) aQX (NP Y us (pre++[(s,w)])=yj++acs Y us (s,w)) (by rw[dO NP List.flatMap_append];simp)]
  rw[cW hg (DO s (B! yj) (EJ yj)) (oS (gQ (r:Nat) r) (λip ρ M'=>∃a8 a9,ρ=Ym zk lP Jx/\M'=eU (B! (yj++ais r (gw,w++[r]))) (EJ (yj++ais r (gw,w++[r])))/\∀y∈yj++ais r (gw,w++[r]),ai7 Y (dm y.1)) (Ly (dm s)) (eU (B! yj) (EJ yj)) ?_ (kX acn aco Θ (aX hnb)))]
  ·refine jL ?_;simp only[Zv,bY,aP,bB,aN,bf,a!,ag,hg]
  ·rintro ip r a4k hxi ρ M' ⟨a8,a9,rfl,rfl,aoa⟩;rw[ajc (M1 zk lP Jx bS a9) hr (r∈us) (aPm (show r∈Ly (dm s) by rw[fk hxi])).1]
   rw[nE KH (lH (yj++ais r (gw,w++[r])) (yq (by
    rcases List.mem_append.mp hx with h | h
    ·exact hcn pre x h
    ·rw[L7 r' hr' h (jc r' (aPm (show r'∈Ly (dm s) by rw[hxi];simp[hr'])).1)]))) eC (acs Y us (s,w)=(ais r (gw,w++[r]))++(gw,w++[r])::a4k.map λr=>(gw,w++[r])) (by rw[jj acs hxi List.map_append b6]) (a4i h0 hw OI DC (DJ r hr) (aS r (DJ r hr)) a58 KH.1 KH.2 (cJ hk) (cJ hk))]
   ·refine aeb (aeb (hb (gw,w++[r]) _ _ ?_));rw[eR,eC,List.append_assoc,←List.append_assoc,m_];exact aZh aoa hk
   ·refine jz (Yi _ (dB y hy))
    ·rw[List.map_append,←List.append_assoc];rfl
    ·rw[List.map_append,←List.append_assoc]at hy;rcases List.mem_append.mp hy with h | h
     ·exact aoa y h
     ·rw[au (List.mem_singleton.mp h) hk]
  ·rw[L6 M' a8 a9 rfl rfl aoa];exact Ar (hc _ _) ⟨_,_,_,_,rfl,by rw[cU aQX],by rw[au aQX aoa]⟩
 ·rintro ρ' M' ⟨avd,ave,acn,aco,rfl,rfl,hnb⟩;exact hn _ _ _ _ (aBe y hy (by rw[fk (hnb y hy)]))
universe zE
universe Sb
universe zE
section
namespace Sb
open PySem L2
section
variable {C:eu}{Y:eD}{o:cR}{M:ba}{B:cF}{W:bC}{j:Nat}{ρ:aY}{S S':qC}{G:ba}{F F':r8}
abbrev Z5 KV(yW bQ kM:D1):c6:=(Ĭ 5 (cb true []) (eO (cj bA) (o8 2 (mY (bT 6) (qO 7))) (eO (cj (ax yW [ao,(ae 6),aD])) (bT 8) (an9 c bQ kM))) (mV 3 (ae 5)))
abbrev aKV dY(wH:ak)(R:r8)(G:ba):Prop:=wH=ς ai4\/∃i,wH=ο (jV+i)/\i<G.length/\sD G i ai4
abbrev aKh dY(res:UT)(out:Out):Prop:=(∃w G',aO res w/\out=.eW (bU w) (M++G'))\/(bO res/\∃ρ' G',out=.nx ρ' (M++G'))
def a4l{yW bQ kM:D1}{last:ak}{us:ef}{U:qC}aai bk{nx:uE->mq}aNm azP(DC:Ew)
  ao2 azS(hU:aCJ)
  aMW:
  ∀l!(R:r8)(S:qC)(G:ba)(wH:ak)(a5 a6 a7 a8 a9:pJ),aO (Ug n nx (q? Y) dm (JV Y) k R S) res->S.Nodup->(gb S (p∈U))->(∀e∈R,aaH (kU e.2+k))->aKV M wH R G →
   aKh M res (Du (cD bA) (Z5 C.aM yW bQ kM) k [aQ,ahY,qX us,some wH,gR,a5,a6,a7,a8,a9] (M++.jO (qf S)::G)):=by
 intro k
 induction k with
 |zero=>intro R S G wH a5 a6 a7 a8 a9 hp;cases hp
 |succ k ih=>
  intro R S G wH a5 a6 a7 a8 a9 hp fS avs jN hv
  rw[bM hlen (cC (M++fu.jO (qf S)::G)=ME) (by rw[f9]) et (cD bA [aQ,ahY,qX us,some wH,gR,a5,a6,a7,a8,a9] (M++.jO (qf S)::G)=.ok (! R.isEmpty) (M++.jO (qf S)::G)) (by
   rw[dn];show LF (M++.jO (qf S)::G) wH _=_;rcases hv with e | ⟨i,e,hi,hg⟩
   ·rw[e];cases R<;>rfl
   ·have:sD (M++fu.jO (qf S)::G) (jV+i) ai4:=by
     rw[aAt,show jV+i-M.length=i+1 by omega,bf,hg]
    rw[e];rw[pU gH];rw[this];cases R<;>rfl)]
  rw[Du,et,Res.fg];rw[Ug]at hp;cases hR:R.isEmpty with
  |true=>
   rw[hR,ek]at hp;cases hp;rw[er Bool.not_true lR (ay ⟨rfl,_,_,rfl⟩)]
  |false=>
   rw[hR,lR,yU]at hp;rw[Bool.not_false,ek]
   suffices h:∀Q:Ed,(∀x G',res=g7->Q (.eW (bU x) (M++G')))->(∀ρ' S' G' awp a5 a6 a7 a8 a9,bO ((Hl).find? (λx=>q? Y (dm x.1)))->S'=adF S Hl->aKV M awp (yG dm S Hl) G'->ρ'=[aQ,ahY,qX us,some awp,gR,a5,a6,a7,a8,a9]->Q (.nx ρ' (M++.jO (qf S')::G')))->Q (Z5 C.aM yW bQ kM [aQ,ahY,qX us,some wH,gR,a5,a6,a7,a8,a9] (M++.jO (qf S)::G)) from by
    refine h (λout=>aKh M res (match out with
     |.nx ρ' M'=>Du (cD bA) (Z5 C.aM yW bQ kM) k ρ' M'
     |.ct ρ' M'=>Du (cD bA) (Z5 C.aM yW bQ kM) k ρ' M'
     |.j6 ρ' M'=>.nx ρ' M'
     |.eW x M'=>.eW x M'
     |bP c ρ' M'=>bP c ρ' M'
     |aF=>aF)) (λx G' e=>Ω ⟨x,G',e,rfl⟩) (λρ' S' G' awp a6s avd ave acn aco hf hS' hv' hρ=>?_)
    subst hρ hS';rw[zS hf hp (ih (yG dm S Hl) _ G' awp a6s avd ave acn aco hp (aKQ fS _) sy (dB e he) hv')]
    ·rcases SO with h | h
     ·exact avs p h
     ·rw[rZ x hx h];rw[ap7 e he (axU hx)];rw[BC r hr he (avr r VH.1)]
    ·rw[aqd e' he' hx (axU he)];rw[rZ r hr hx];have:=jN e' he';simp only[List.length_append,List.length_singleton];omega
   intro Q hq1 yY;rw[zY Z5 (nF (ο ME) (eU S []))]
   ·rw[iT cb bB ag];unfold uz;simp[og,hlen]
   show Q (qx _ _ (Ym zk a6 a7) (eU S []));have kL:∀S F,eU S F=M++(.jO (qf S)::(G++[ς (F.map yn)])):=HL _ _
   obtain⟨wt,hi,hc⟩:∃wt,cj bA (Ym zk a6 a7) (eU S [])=.ok (ai4,wt) (eU S [])/\∀S F,E9 (eU S F):=by
    rcases hv with e | ⟨i,e,hi,hg⟩
    ·rw[b5 none (jL (by rw[cU e])) (cK _ trivial)]
    ·rw[Ci (aez (by rw[cU e]) (eo (Y1 hi) hg)) (Fs _ _ (Y1 hi) hg)]
   refine eK (a4j (U:=U) (tk:=tk) (λS F=>by rw[au kL (h0 _)]) hw OI DC DJ aS (λe he=>by rw[e9 (jN e he)]) fS avs avr hU (λs S F=>by rw[au kL (DO _ s)]) hi hc (i? x S F hf) (lV avd ave acn aco hf))
   ·rw[Cv (p7 ?_) kL];rw[bF hf hp (hq1 x.2 _ (Option.some.inj hp).symm)]
   ·rw[ă (eZ (Of (ο ME) _ rfl ?_)) kL (yY _ _ _ (ο ME) _ _ _ _ _ hf rfl (ay (pV G.length Θ Θ)) rfl)]
abbrev J6:UT->ak
 |some w=>bU w
 |none=>.ai
def adj{yW bQ kM:D1}{last:q6}{us:ef}{U:qC}aai bk{nx:uE->mq}aNm azP(DC:Ew)
  ao2 azS(a7f:dm last∈U)(hU:aCJ)
  aMW(hp:aO (Ug n nx (q? Y) dm (JV Y) 1000 [(last,[])] [dm last]) res):
  Xx (alP C.aM yW bQ kM) [ο 0,bw last,zk]=.ok (J6 res) M:=by
 refine Qm (by cases res with | none=>exact aZ7 | some w=>exact aw7 _ _)
 rw[B7 alP P q (∃G,q=.ok (J6 res) (M++G)) (qL (ς ([((last,[]):g! q6)].map yn)))]
 ·unfold cb;simp only[yC,aP,bB,aN,bf,a!,ag,cn (xs:=[]) yb];exact cn VE
 rw[x7 (nF e_ (M++[.jO (qf [dm last])]))]
 ·unfold am6;simp only[yC,aP,bB,az,aN,bo,bf,a!,ag,DT,rt];rfl
 rw[Vo h (a4l (last:=bw last) h0 hw OI DC DJ aS avr hU DO yU 1000 [(last,[])] [dm last] [] (ς ([((last,[]):g! q6)].map yn)) none none none none none hp Θ (aX a7f) Θ (Ω rfl)) (tn ?_)];show Ee _ _ (Du (cD bA) (Z5 C.aM yW bQ kM) 1000 _ _);rcases h with⟨w,G',e,ho⟩ | ⟨e,ρ',G',ho⟩
 ·rw[er ho e (p7 (eX (kS G')))]
 ·rw[er ho e (ML .ai _ (kS G'))]
universe zE
universe Sb
universe zE
section
namespace Sb
open PySem L2
section
variable {C:eu}{Y:eD}{o:cR}{M:ba}{B:cF}{W:bC}{j:Nat}{ρ:aY}
abbrev dU(t:gj):q6:=(t.ahead.getLast?).getD g4
def a2Z bk d9 gW(hn:M[n]? = h7)(h:G_ xs.getLast? x):vK (ο n) (-1)=.ok x M:=by
 rw[gv aS (xs≠[]) (dF (by rw[e]at h;cases h)) hl (S4 0) aBf e (aO (ow M (ο n)) xs) (by rw[pU ow];rw[pU NS];rw[hn])]
 rw[dO fN e];simp only[uM,A0];rw[asr,B8,show(aU (-1)+xs.length).toNat=ER 1 by omega];rw[aPU h];simp[h]
def ac8{t:TB}azJ(h3:akj M aqH)(aS:X?):alF C.tr [ku] M=.ok Ra M:=by
 rw[lQ alF q (q=.ok Ra M)];simp only[b6,zD,zE,m9,Nat.zero_add,Nat.reduceSub,List.replicate,j?];rw[lS ea (S2 ρ [f6] d ao h1 amN) es (S2 ρ [f6] d ao h1 Tz) (ajb aMg M ?_ (λhk=>Ft))]
 ·rw[dn,ea,ag];rw[yc gH h3];rw[cU List.isEmpty_map]
 ·refine xY Ra M (p7 (eX rfl));rw[az,ea,ag];show vK (ο t.sF) (-1)=_;rw[Cv (a2Z h3 ?_) List.getLast?_map];unfold dU;cases h:t.tr.ahead.getLast? with
  |none=>rw[aAu]at hk;cases hk
  |some x=>rfl
 ·rw[kD (Cy Ra) hn (Î []) (by cases h:t.tr.ahead with | nil=>rfl | cons a b=>rw[nG h hk hk])]
  rw[az,es,ag,bo,ag];rw[jA dU hn (tm (i:=0) h2 (ZT aS))]
abbrev adQ ki DZ:ef:=aku (wB W x SS)
abbrev ad5 ki DZ:ef:=akr aPu r (X3 (adQ Y W x t))
abbrev wQ ki DZ(p:uE)ew:Bool:=Gg Y p r&&X3 (adQ Y W x t)
def a0V qt(R:r8):alV Y.rs.length (wQ Y W x t) dm (JV Y) R=NP Y (ad5 Y W x t) R:=by
 unfold alV NP acs ad5 wQ;simp only[List.filter_filter]
def Tp{acD aEQ kM aES aET alf:D1}fW{t:TB}{res:UT}dX(d:yr)rI(ht:nV=eG)(aS:X?)(OR:lO t.tr.ahead.length)aOF
  (hls:∀wW M,Ek M = El->Ej M = G5->akj M aqH->X?->aEQ [ku] M=.ok Ra M)
  (hsh:∀eE,aES [ο 0,η x,bU eE] M=.ok (bU (aku (wB W x eE))) M)
  (hic:∀ew cN,lM->alf [ο 0,η r,bU cN] M=.ok (.ah (X3 cN)) M)
  (kL:ai7 Y (dm (dU t.tr))->aET [ο 0,Ra,bU (ad5 Y W x t.tr)] M=.ok (J6 res) M):
  av8 C.tr C.aM acD aEQ kM aES aET alf [ο 0,η x] M=.ok (J6 (VW (q? Y (dm (dU t.tr))) [] res)) M:=by
 rw[Iu DC Ew G.le T (d.y.awL (x,t) (wj ht) nofun)];rw[VL av8 P q (q=.ok (J6 (VW (q? Y (dm (dU t.tr))) [] res)) M) ?_ b6 zD zE m9 m_ l5];rw[gX ec (hca Y o M B x d.y hx) ht ec]
 refine qL ku
 ·simp only[bY,aP,bB,aN,bf,a!,ag,ec]
 rw[Vo el (hls t M T.mt T.ms T.ma aS) (qL Ra)]
 ·simp only[bY,aP,bB,aN,bf,a!,ag,el]
 rw[agL e3 (OI Y.ps (dU t.tr).1 (dU t.tr).2.2 M DC) ep (d.y.fld (ρ:=[aQ,aZ,f6,Na,none]) (d:=ao) rfl F8) (ajb (q? Y (dm (dU t.tr))) M ?_ (λhk=>Ft))]
 ·rw[dn,bY,aP,ep,ag];simp only[aP,bB,az,aN,bo,bf,a!,ag,DT,rt,e3];rfl
 ·rw[iU hk (xY (ς []) M (p7 (eX rfl)))];rw[sM,bB,ag];exact cn yb
 rw[hk];rw[nE ea (R? [aQ,aZ,f6,Na,none] d amN) a6C (WB xB (cj (ahJ C.tr aD)) oz (jm 0) [aQ,aZ,f6,Na,none] M=.ok (bU aqZ) M) (by
  rw[cf (xs:=t.tr.ahead) (w:=mO t.sF (ς aqH)) (M':=M) bw EB (B_ s (aU s.1)) (nZ (ρ=[y])) (aez ea T.ma) T.ma S1 (qM s) (jk OR)]
  ·rw[mH (t.tr.ahead.filter EB) t.tr.ahead (List.filter_eq_self.mpr (HL _ _)),cn (by rw[nJ OR])]
   show _=aiU (ak.lst ((aqZ).map (gQ (n:Nat) gm)));rw[aC6];rfl
  ·rw[MH y _ (λ_=>DT)]) (qL (bU (Ru Y W x)))]
 ·rw[bY,aP,RQ 0 [aQ,aZ,f6,Na,none] .ok ο 0,ag,aP,abt 1 [aQ,aZ,f6,Na,none] .ok x,ag,aP,a6C]
  rw[tT bB];exact hsh _
 rw[ļ bx (d.y.fld (ρ:=[aQ,aZ,f6,Na,qX (Ru Y W x)]) (d:=ao) rfl vx) s5 G.len]
 rw[cV a6J (WB [none,WV,some 4] (gT [(h9 (Mr "found"))]) (cD (ax alf [aA,ao,aD])) ao [aQ,aZ,f6,Na,qX (Ru Y W x)] M=.ok (bU (ad5 Y W x t.tr)) M) (by
  rw[We aPu w M (gQ (r:Nat) r) (λr=>X3 (Ru Y W x)) (gQ (r:Nat) r) (nZ (ρ=[y,aQ,qX (Ru Y W x)])) (a3q (by rw[bY,aP,bx];simp[e!]) aB) (SG r hr) (by rw[ahb (jk s5)])]
  ·exact gG (by rw[nJ (abA (by rw[ahb (jk s5)]))])
  ·rw[QT y _ ?_ BD];rw[dn];show(alf [ο 0,η r,bU (Ru Y W x)] M).bind _=_;rw[hic r _ aPi,ag];rfl) (Cy (J6 res))];rw[bY,aP,RQ 0 [aQ,aZ,f6,Na,qX (Ru Y W x)] .ok ο 0,ag,aP,Ey 3 [aQ,aZ,f6,Na,qX (Ru Y W x)] M .ok Ra M,ag,aP,a6J]
 rw[tT bB];exact kL hk
universe zE
universe Sb
universe zE
section
namespace Sb
open PySem L2
section
variable {C:eu}{Y:eD}{o:cR}{M:ba}{B:cF}{W:bC}{j:Nat}{ρ:aY}
structure GL gD dY kj K0:Prop where
 gU:xo 7 .aj (V0 Y j)
 wl:sD M j aDu
 sZ:xo 10 .ij nH
def GL.app(h:GL Y M W j)(G:ba):GL Y (M++G) W j:=⟨akf h.gU h.gU,akf h.wl h.wl,akf h.sZ h.sZ⟩
universe zE
universe Sb
universe zE
section
namespace Sb
open PySem L2
section
variable {C:eu}{Y:eD}{o:cR}{M:ba}{B:cF}{W:bC}{j:Nat}{ρ:aY}
abbrev aFr kj DZ w7 mh:Bool:=!(gS s.1 a||d! (s.1∉SS)&&nI (UW s.1))&&iR (Á s.1) abN
abbrev aQy kj DZ lK w7:Bool:=w.all (aFr W x t a)
universe zE
universe Sb
universe zE
section
namespace Sb
open PySem L2
section
variable {C:eu}{Y:eD}{o:cR}{M aa:ba}{B:cF}{W:bC}{j:Nat}{ρ:aY}
abbrev Y2 gD ew:uE:=oG
abbrev alY ki DZ(p:uE)ew:Bool:=d! ((fZ bZ).1=p.2/\MV (fZ bZ)=Ho p.1 p.2)&&aQy W x t bN p.1
universe zE
universe Sb
universe zE
section
namespace Sb
open PySem L2
section
variable {C:eu}{Y:eD}{o:cR}{M aa:ba}{B:cF}{W:bC}{j:Nat}{ρ:aY}
universe zE
universe Sb
universe zE
section
namespace Sb
open PySem L2
section
variable {C:eu}{Y:eD}{o:cR}{M aa:ba}{B:cF}{W:bC}{j:Nat}{ρ:aY}
universe zE
universe Sb
universe zE
section
namespace Sb
open PySem L2
section
variable {C:eu}{Y:eD}{o:cR}{M aa:ba}{B:cF}{W:bC}{j:Nat}{ρ:aY}{x:Int}{t:gj}
def aK1 D4:(pg Y r).1=(fZ bZ).2/\(pg Y r).2.1=(fZ bZ).1:=by
 rw[HS h nK hn h.ne hc h.chain];unfold pg;cases hw:bN with
 |nil=>rw[kA hw hn]
 |cons s w=>
  rw[B5 a j o s Ku (Chain Y.ps Y.ss true (fZ bZ).1 (MV (fZ bZ)) ((a,j,o)::w)) (by rw[cw hw hc])]
  rw[b4 (Option.some.inj Ku.1).symm Ku.2.1]
def aK2 D4(p:uE):wQ Y W x t p r=alY Y W x t p r:=by
 rw[vE (aK1 G hr)];unfold wQ Gg alY
 have e1:d! (LV p p (pg Y r).1/\(pg Y r).2.1=p.2)=d! ((fZ bZ).1=p.2/\MV (fZ bZ)=Ho p.1 p.2):=by
  rw[h1,h2];rw[agu ⟨λh=>⟨h.2,h.1.symm⟩,λh=>⟨h.2.symm,h.1⟩⟩]
 rw[e1,Bool.and_assoc]
 congr 1
 unfold ZO aQy;rw[Bool.eq_iff_iff,Bool.and_eq_true,List.all_eq_true,List.all_eq_true,List.all_eq_true]
 have key:abG (aL (aFr W x t p.1 s)↔Ĩ (s.1∉[p.1])/\Ĩ (s.1∉adQ Y W x t)):=sE (by
  rw[bM fq (U2 s.1) (ahN r _ (j4 s hs)) hm (s.1∈adQ Y W x t↔aL (wB W x SS s.1)) (by
   rw[iT adQ List.mem_filter List.mem_range];rw[vj (λh=>h.2) h ⟨fq,h⟩])]
  rw[decide_eq_true_eq,decide_eq_true_eq,hm];unfold aFr wB;rw[List.mem_singleton];by_cases a1:s.1=p.1<;>by_cases a2:s.1∈SS<;>cases a3:nI (UW s.1)<;>cases a4:iR (Á s.1) abN<;>simp[a1,a2,a3,a4])
 rw[vj (λh s hs=>(key s hs).mpr ⟨h.1 s hs,h.2 s hs⟩) h ⟨sE ((key s hs).mp (h s hs)).1,sE ((key s hs).mp (h s hs)).2⟩]
def aF4{P:Type} [Vf] bk{nx nx':P->mq}{b:nC P}aoA(h:∀p,∀r<n,nx p r=nx' p r):∀l!(L:nU),wC n nx b en k L=wC n nx' b en k L
 |0,_=>rfl
 |k+1,L=>by
  have e:C7 en L=alZ n nx' en L:=by
   unfold alZ
   congr 1
   funext e
   rw[List.filter_congr λr hr=>h e.1 r aPi]
  rw[wC,wC,e,aF4 h k]
abbrev aeL jS:qC:=(z3).flatMap λa=>(eV a).js.map λj=>(a,j)
def aKR rF{f:α->ajI}(h:∀a,iF (f a) 3):∀l:qy,iF (l.flatMap f) (3*l.length)
 |[]=>Θ
 |a::l=>by
  rw[aBV List.flatMap_cons zE];have:=h a;rw[e9 (aKR h l)]
def aJb uX(h:VJ 16):iF (aeL ps) 900:=by
 rw[vz (aKR (f:=λa=>(eV a).js.map λj=>((a,j):uE)) (λa=>by rw[eP];cases eV a<;>simp[fy.js]) z3) List.length_range];rw[ž aeL]
def aK3 uX rL(h:Um ps s):dm s∈aeL ps:=List.mem_flatMap.mpr ⟨s.1,List.mem_range.mpr h.lt,j4 s.2.2 h.o.mem⟩
def a20 D4:gw∈bN:=by
 unfold JV;cases h:(bN).getLast? with
 |none=>rw[n0 aAu (nK).ne]
 |some s=>exact aPx
def a0W(hb:aa4 Y (dm (dU t))):aO (ar2 (alY Y W x t) (q? Y) (Y2 Y) (air 1) [(dm (dU t),[])]) []:=by
 rw[wC,List.find?_cons,hb]
def a4m dX(hU:Q1 (oG∈Ş))(h0:dm (dU t)∈Ş)(hb:ai7 Y (dm (dU t))):
  Ug Y.rs.length (wQ Y W x t) (q? Y) dm (JV Y) 1000 [(dU t,[])] [dm (dU t)]=aT (ar2 (alY Y W x t) (q? Y) (Y2 Y) (air 1) [(dm (dU t),[])]):=by
 rw[Iu j (DI Y.rs.length (wQ Y W x t) (q? Y) dm (JV Y) (dm (dU t)) [(dm (dU t),[])] [(dU t,[])] [dm (dU t)] []) (by
  refine⟨aK F3,ID p,(λp hp=>nomatch hp),sy,Θ,jb (Ω (List.mem_singleton.mp hp))⟩;rw[au (List.mem_singleton.mp hp) hb]) hl (aJb (ps:=Y.ps) G.g.fc)];rw[go_eq (U:=Ş) hU h0 1000 (air 1) j (ID _) (Ω (by rw[f9]))]
 congr 1
 exact aF4 (λp r hr=>aK2 G hr p) _ _
universe zE
universe Sb
universe zE
end
mutual
section
namespace Sb
open PySem L2
section
variable {C:eu}{Y:eD}{o:cR}{M:ba}{B:cF}{W:bC}{j:Nat}{ρ:aY}
def adA{dQ gs p9 aER aEP:D1}(hp:aJ1 dQ)(hs:aJ2 gs)aaB(lH:aYP C.aM aEP)(hnw:aQC aER)Bd:∃Y M,uZ/\aGg C.aM dQ gs p9 aER aEP [.pj ns] []=.ok (aW [ο 0,ο 7]) M/\St C Y M (fL Y):=by
 rw[Le ps a67 ep (hp ns 0 []) ss hg es (hs ns 40 ps [] a67)];rw[cH A2 hg.fc hss hg.AW]
 rw[bM hw0 (0≤t!%4) (Int.emod_nonneg _ a_) G (JS (Ů (t!%4))) (h! hg hw0)];rw[HU ei (lH ps ss (t!%4) [] hg) en (hnw (Ů (t!%4)) (NW C.aM 0 ps ss t7 (t!%4)) G rfl) e8 (St C (Ů (t!%4)) (NW C.aM 0 ps ss t7 (t!%4)++ai3 (t!%4)) (fL (Ů (t!%4)))) ⟨_,_,_,start (C:=C) G⟩];refine⟨Ů (t!%4),NW C.aM 0 ps ss t7 (t!%4)++ai3 (t!%4),G,?_,e8⟩;clear e8;rw[XX aGg P r (r=.ok (aW [ο 0,ο 7]) (NW C.aM 0 ps ss t7 (t!%4)++ai3 (t!%4))) (z9 ic [] (aK ep))];rw[vV mL [] (aK es)]
 rw[vV (η (t!%4)) [] (f_ (hm ns 39 []) ZD)]
 rw[gn];generalize t!%4=wait at ei en⊢
 rw[cV a6E (uk C.aM aEP [(ax P_ E8),(ax P_ [aD]),bA] [qI .pj,pR,Eu,dR wait] []=.ok (ο 0) (auC 0)) (by
  unfold uk;simp only[aP,bB,bY,aN,bf,a!,ag];rw[mH (AE false [ic] ([]:ba)) (.ok ic []) (by simp[AE];exact cn (by rw[f9])),ag,mH (AE false [mL] ([]:ba)) (.ok mL []) (by simp[AE];exact cn (by rw[f9]))]
  simp only[ag];rw[ei,ag];rfl) (B? (aW [ο 0,ο 7]) (auC 0++ai3 wait) ?_)];rw[yC,aP,a6E,ag];simp only[aP,bB,bY,aN,bf,a!,ag];have a6F:aER [ic,mL,η wait] (auC 0)=.ok (ο 7) (auC 0++ai3 wait):=en;rw[cU a6F]
abbrev Uh ki DZ:UT:=ar2 (alY Y W x t) (q? Y) (Y2 Y) (air 1) [(dm (dU t),[])]
abbrev aIo kh c7:Prop:=∀M B W o gI t,yr->w_->c8=eG->g [ο 0,η x] M=.ok (J6 (Uh Y W x t)) M
def aQz(l:ef):G6 (bU l):=by
 intro y hy;rw[XQ k hy (lZ _)]
universe zE
universe Sb
universe zE
section
namespace Sb
open PySem L2
section
variable {C:eu}{Y:eD}{o:cR}{M:ba}{B:cF}{W:bC}{j:Nat}{ρ:aY}{x:Int}{t:gj}
def aKS dX(T:Gi Y.rs aAl W.locks t):aMx:=by
 rw[jq IQ]
 ·rw[au h yb]
 ·obtain⟨r,k,hr,e,_⟩:=T.eE h;have h1:=HZ e;rw[zE,List.length_drop]at h1;rw[e9 Ś]
def aK4 dX(f:Bu)(ht:c8=eG):dm (dU t)∈Ş:=by
 rw[cW T (f.I.tr x t ht) (aK3 ?_)];unfold dU;cases h:t.ahead.getLast? with
 |none=>
  show ajT g4;refine(f.J x t ht).ok _ ?_;unfold cg;cases hs:t.steps with
  |nil=>rw[kA hs T.ne]
  |cons a b=>rw[aq2]
 |some s=>
  have hm:s∈t.ahead:=aPx
  obtain⟨r,k,hr,e,_⟩:=T.eE (cP (by rw[z]at hm;cases hm))
  exact ayx G hr s (List.mem_of_mem_drop (by rw[cw e (h_ hm)]))
def aQI dX:Q1 (oG∈Ş):=qN (aK3 (ayx G hr _ (a20 G hr)))
def a0X(S:K7):c8=(nV).map (·.tr):=by
 rw[S.trains,Zk];rfl
def a59{acD kM bG bQ OO Gy yV avn avl:D1}dX aOF(s4:ae9 bG)aaF aNc:
  aIo C Y (av8 C.tr C.aM acD (alF C.tr) kM (C1 (alw C.aM OO yV)) (C1 (alP C.aM (C1 (alG C.aM bG bQ (Tn bQ))) bQ kM)) (Tn bQ)):=λM B W o x t d hx ht=>by
 rw[cH T (d.f.I.tr x t ht) e (a0X (x:=x) d.S)];rw[ht]at e;rw[UY tb hb rfl e.symm];have YR:=G.g.fc;rw[gv hic (∀M ew cN,ahO C Y M->lM->Tn bQ [ο 0,η r,bU cN] M=.ok (.ah (X3 cN)) M) (λM r cN h0 hr=>lx (hw Y M _ r h0 hr) Ś) DJ (YA r (ad5 Y W x tb.tr)) (qN (List.mem_range.mp VH.1)) h0 (∀G',ahO C Y (M++G')) (λG'=>(d.app G').y.y0)];have hf:=Tp (res:=Uh Y W x tb.tr) (acD:=acD) (aEQ:=alF C.tr) (kM:=kM) (aES:=C1 (alw C.aM OO yV)) (aET:=C1 (alP C.aM (C1 (alG C.aM bG bQ (Tn bQ))) bQ kM)) (alf:=Tn bQ) G d hx hb T.ne (aKS G T) hca OI (λt M h1 h2 h3 h4=>ac8 h1 h2 h3 h4) (λeE=>acP d Q YR) (λr cN hr=>hic M r cN d.y.y0 hr) (cJ hbd)
 ·rw[hf];cases hbd:q? Y (dm (dU tb.tr)) with
  |true=>rw[Hr Uh (a0W hbd)]
  |false=>rfl
 ·rw[cV wU (iF (ad5 Y W x tb.tr) 4194304) (abA (by rw[List.length_range];rw[e9 G.len])) (adj (U:=Ş) (tk:=B.ticks) h0 hw OI G.le DJ (qN (nK).ne) (qN (aQI G r (DJ r hr))) (aK4 G d.f ht) (jk (aJb YR)) (dB G' s) (λR=>a0V R) (a4m G (aQI G) (aK4 G d.f ht) hbd))];exact adb (B:=B) (λa8R=>by rw[au List.append_assoc (h0 _)]) G.le s4 hw hic DJ (qN (nK).ne) wU
universe zE
universe Sb
universe zE
section
namespace Sb
open PySem L2
abbrev Kp{P:Type}UB(en:qA P):P->ef->cS P
 |p,[],q=>p=q
 |p,r::w,q=>(r<n/\aL (nx p r))/\Kp n nx en (en r) w q
def Kp.snoc{P:Type}azA aoA{q:P}fz(hr:r<n)(hx:aL (nx q r)):∀Pr{p:P},Kp n nx en p w q->Kp n nx en p (w++[r]) (en r)
 |[],p,h=>by cases h;exact kS ⟨hr,hx⟩
 |a::w,p,h=>⟨h.1,Kp.snoc hr hx h.2⟩
def aHy{P:Type} [Vf] azA{b:nC P}aoA{AH:P}:∀l!(L:nU)(w:ef),(∀e∈L,Kp n nx en AH e.2 e.1)->aO (wC n nx b en k L) w->∃q,Kp n nx en AH w q/\aL (b q)
 |0,L,w,_,h=>by cases h
 |k+1,L,w,hL,h=>by
  rw[wC]at h;cases hf:L.find? (λx=>b x.1) with
  |some e=>
   rw[hf]at h;cases h;rw[Ci (hL e aO7) (List.find?_some (p:=λx:g! P=>b x.1) hf)]
  |none=>
   rw[zS hf h (aHy k _ w (dB e he) h)];rw[aqd e' he' hm (ad8 he).1];rw[rZ r hr hm];rw[eg h1 h2 VH (Kp.snoc (List.mem_range.mp h1) h2 (hL e' he'))]
section
variable {Y:eD}{W W':bC}{x:Int}{t t' t2:gj}{w:fV}{i:Int}
structure aTo ki DZ(W':bC)(t':gj):Prop where
 f:I3 W'
 tr:CM W'.trains x t'
 ot:t'.out=t.out
 al0:∀y,y≠x->aro y=tE
 lk:∀p r:Nat,JK W'.locks r->p∈aqr\/(Aa (UW p)/\p∉SS)
def a6a(f:Bu)(h:c8=eG):RT W t:=kX f h (HL _ _) (λp r e=>by
 rw[RP p SS]
 ·exact Ω h
 ·exact o4 (by rw[List.getD_eq_getElem?_getD,e];rfl) h)
def aJc dX(d:ä)(hk:Je W' w i=.ok)(hx:CM (Xj (z? W' w i)) x t2)(ho:t2.out=t.out)
  (hl:∀p r:Nat,JK (z? W' w i).locks r->p∈t2.ahead.map (·.1)\/(JK W'.locks r/\p∉aqr)):XY (z? W' w i):=
 ⟨amP G d.f hk,hx,ho,Fs y hy (amx hy) (d.al0 y hy),λp r h=>(hl p r h).elim Ω λh=>ay ((aDz (d.lk p r h.1)) h.2)⟩
def aKT dX(d:ä)rL{a:fU}(ha:aAf (s::a)):Je W' .go 0=.ok/\RT (z? W' .go 0) ⟨s::t'.steps,a,t.out⟩:=by
 have T:=aCT x t'
 rw[iA aS (t'.ahead≠[]) (by rw[au ha (aqz _)]) ho (dj t'.out) (by
  cases e:t'.out with
  |false=>rfl
  |true=>rw[kA (T.ot e).1 aS]) hk (Je W' .go 0=.ok) (by
  rw[abc (ry Y W' x=_) ry];rw[ho,lR,if_pos aS]) e (z? W' .go 0=T6 W' x t') (by
  rw[abc (rz Y W' x=_) rz];rw[if_pos aS])]
 rw[fF hk (aJc G d hk ?_ rfl ?_)]
 ·rw[e];unfold T6;rw[q_,ek,ha,←d.ot,ho];rfl
 ·rw[e];unfold T6;intro p r h;rw[vE (aI8 h)];by_cases hp:p∈aqr
  ·rw[ha]at hp h2;rcases aAH with e | hp
   ·rw[CI h2]
   ·exact Ω hp
  ·exact o4 h1 hp
def aK5 rL{a st l7:fU}{b b':Bool}:dU ⟨s::l7,a,b⟩=dU ⟨st,s::a,b'⟩:=by
 unfold dU cg;rw[List.getLast?_cons];rfl
def aZi dX(d:ä)(hl:2≤t'.steps.length):Je W' gZ 0=.ok/\RT (z? W' gZ 0) ⟨t'.steps.dropLast,t'.ahead,t.out⟩:=by
 rw[bM hk (Je W' gZ 0=.ok) (by
  rw[abc (yJ W' x=_) yJ];rw[jF aB]) e (z? W' gZ 0=DE W' x ⟨t'.steps.dropLast,t'.ahead,t'.out⟩) (by
  rw[abc (wD W' x=_) wD];rw[jF aB])]
 rw[fF hk (aJc G d hk ?_ rfl ?_)]
 ·rw[e];rw[jj DE q_ ek d.ot]
 ·rw[e];intro p r h
  by_cases hp:p∈aqr
  ·exact Ω hp
  ·exact o4 h hp
def a0Y{st a:fU}{b b':Bool}(hl:2≤st.length):dU ⟨st.dropLast,a,b⟩=dU ⟨st,a,b'⟩:=by
 unfold dU cg;cases st with
 |nil=>rfl
 |cons s st=>
  cases st with
  |nil=>simp at hl
  |cons s' st=>rfl
def aJd{d:ab4}Bj{y:Int}(h:aO (N6 d p) y):∃u,(y,u)∈d/\∃s∈u.steps,s.1=p:=by
 rw[nN N6];rw[UY q hq rfl h];have h1:=aCq;rw[Cb s hs e aA9];exact⟨q.2,aqb,s,hs,agS⟩
def a0Z dX(f0:Bu)azi(h1:t'.steps.length=1)à aNi:Ģ W':=by
 unfold wQ Gg at hn;rw[aq8 hn];obtain⟨⟨_,hc1⟩,Ku⟩:=hn;unfold ZO at hc1 Ku;rw[List.all_eq_true]at hc1 Ku;rw[dO heldW List.any_eq_false];intro s hs hh;rw[gv fq (U2 s.1) (ahN r _ (j4 s hs)) c1 (s.1≠(cg t').1) (dF ((of_decide_eq_true (hc1 s hs)) (by rw[nT (List.mem_singleton_self _)]))) c2 (dj (wB W x SS s.1)) (by
  cases e:wB W x SS s.1 with
  |false=>rfl
  |true=>rw[n0 (apR fq e) (of_decide_eq_true (Ku s hs))])]
 rw[BA wB c2 Bool.or_eq_false_iff c2];obtain⟨c3,c4⟩:=c2
 unfold m7 at hh;rcases Bool.or_eq_true_iff.mp hh with hh | hh
 ·rw[List.getD_eq_getElem?_getD]at hh;cases e:auI s.1 with
  |none=>rw[e]at hh;cases hh
  |some v=>
   cases v with
   |none=>rw[e]at hh;cases hh
   |some r'=>
    rcases d.lk _ _ e with h | ⟨h2,h3⟩
    ·rw[ha]at h;cases h
    ·rw[h2,decide_eq_true h3]at c3;cases c3
 ·rw[S! y hy hh];obtain⟨u,hu,s',fe,e⟩:=aJd hy;have hg:=YI d.f.I.i_ hu;by_cases ey:y=x
  ·subst ey;rw[S0 a6I (u=t') (hg.symm.trans d.tr)];rw[a6I]at fe;apply c1;rw[←e];unfold cg;cases kL:t'.steps with
   |nil=>rw[kL]at fe;cases fe
   |cons a b=>
    rw[kL]at h1 fe;have:b=[]:=List.length_eq_zero_iff.mp (aX h1);rw[this]at fe;rw[aAW fe];rfl
  ·have alm:tE=dG:=(ajr (d.al0 y ey)) hg;cases ht:Á (aU s.1) with
   |none=>exact aI3 ht _ (wj alm) s' fe e
   |some z=>
    obtain⟨v,hv,s2,GK,e2⟩:=aJd ht;have a68:=YI f0.I.i_ hv;by_cases Dk:z=y
    ·rw[ht,Dk]at c4;simp[ey]at c4
    ·exact(f0.I.yt z y v u a68 alm Dk).1 s2 GK s' fe (e2.trans e.symm)
def aZj apm{r r':Nat}GZ(h':Nt)(e:bZ=Lm r'):r=r':=by
 rw[arX p h1 h2 (G.cZ.hd r (mK h).1 r' R4.1 e) a ((mK h).2 p h1).1 (R4.2 p h2).1 a];cases a;rfl
def a21 uX aab Po(h:ahC a j b):b≠a:=by
 rw[nN beyond];rw[EW aBP Bool.and_eq_true (aAK this)]
def aZk dX azi fz(hh:Ģ W')KX aNi:
  du Y W' iW r 0=.ok/\I3 (akS W' r 0)/\Je (akS W' r 0) .go 0=.ok/\RT (z? (akS W' r 0) .go 0) ⟨(bN).take 1++t'.steps,(bN).drop 1,t.out⟩:=by
 have hn':=hn;unfold wQ Gg at hn;rw[aq8 hn];obtain⟨hb,hf⟩:=aAK hn.1
 rw[bM hb (LV (cg t') (cg t').2 (pg Y r).1) hb hf ((pg Y r).2.1=(cg t').2.2) hf];rw[pM T (aCT x t') ho (dj t'.out) (by
  cases e:t'.out with
  |false=>rfl
  |true=>rw[(T.ot e).2]at hb;cases hb) hk (du Y W' iW r 0=.ok) (by
  rw[pU du];rw[Ó hr,Int.toNat_natCast,hh];rfl)]
 rw[fG f2 (amP G d.f hk) e2 (akS W' r 0=tZ (lD Y.ps) W' r) (by
  rw[pU F1];rw[Int.toNat_natCast])]
 rw[e2]at f2⊢;rw[iA hx (CM (Xj (tZ (lD Y.ps) W' r)) x t') d.tr hlr (alJ (tZ (lD Y.ps) W' r) r) (Ω (z0 aBm)) GF (kI Y (cg t')=aT bZ) (by
  rw[Cc g1 g2 (aK1 G hr) ((alU G ((d.f.J x t' d.tr).ok _ (J5 T.ne)) M_).mpr ⟨by rw[←g2,hf],by rw[←g1];exact(a21 hb).symm⟩)]) a6b (aiC Y (tZ (lD Y.ps) W' r) x bZ r) (by
  rw[iT AP aMr Bool.true_and];cases e:cG (tZ (lD Y.ps) W' r).falls r with
  |none=>rfl
  |some fl=>rw[n0 (j4 _ (wj e)) (f2.I.yX r (z0 aBm))])]
 rw[gv hp (aO (sP Y (tZ (lD Y.ps) W' r) x bZ) r) (by
  cases e:sP Y (tZ (lD Y.ps) W' r) x bZ with
  |none=>
   unfold sP at e;rw[bF List.find?_eq_none e (Rf a6b (e r (agv (z0 aBm))))]
  |some r'=>rw[aZj G f2.I (amO e) hlr (aJP e)]) cE (Je (tZ (lD Y.ps) W' r) .go 0=.ok) (by
  show ry Y (tZ (lD Y.ps) W' r) x=_;unfold ry;rw[g6 hx];rw[ho,lR,Nd h ha,hb,GF];dsimp only;rw[hp]) e3 (z? (tZ (lD Y.ps) W' r) .go 0=Ox Y.rs (tZ (lD Y.ps) W' r) r x t'.steps) (by
  show rz Y (tZ (lD Y.ps) W' r) x=_;unfold rz;rw[g6 hx];rw[Nd h ha,hb,GF];dsimp only[Option.bind_some];rw[cU hp])]
 refine⟨hk,f2,cE,amP G f2 cE,?_,rfl,Fs y hy (amx hy) (d.al0 y hy),?_⟩
 ·rw[e3];unfold Ox;rw[q_,ek,←d.ot,ho]
 ·rw[e3];intro p r' h;rw[vE (aI8 (a:=((bN).headD (0,0,0)).1) (l:=F6 r bN W'.locks) h)]
  rw[pY fq (p<W'.locks.length) (by
   rw[M6 aAB.1 ame]) (awy r p _ _ fq) h1];rw[abx (p∈gz (bN).map)]
  ·left;cases hw:bN with
   |nil=>rw[hw]at hm;cases hm
   |cons s w=>
    rw[hw]at hm h2;exact(aDz aAI) h2
  ·rw[bF (if_neg hm) h1 (ay ((aDz (d.lk p r' h1)) (by rw[au ha (aDS h)])))]
def a00 D4{st:fU}GW:dU ⟨(bN).take 1++st,(bN).drop 1,b⟩=gw:=by
 have h:=(nK).ne;unfold dU JV cg;cases hw:bN with
 |nil=>rw[kA hw h]
 |cons s w=>
  rw[List.getLast?_cons];rfl
def a01 azi(ho:atJ)(hb:aa4 Y (dm (cg t'))):Je W' .go 0=.ok/\z? W' .go 0=DE W' x ⟨t'.steps,[],true⟩:=by
 have KH:bO (Ae (cg t') (cg t')):=Option.isNone_iff_eq_none.mp hb;constructor
 ·rw[abc (ry Y W' x=_) ry];rw[d.ot,ho,lR,Nd h ha,KH]
 ·rw[abc (rz Y W' x=_) rz];rw[Nd h ha,KH]
def aZl{g?:bC}(hx:CM g?.trains x t2)(h1:arY 1)(ho:aL t2.out):Je g? gZ 0=.ok/\z? g? gZ 0=afm g? x:=by
 constructor
 ·show yJ g? x=_;unfold yJ;rw[g6 hx];rw[ho,vQ (aDS h.2)]
 ·show wD g? x=_;unfold wD;rw[g6 hx];rw[BF]
def aZm{p:Int}:N6 (Xj (afm W x)) p≠g7:=λh=>by
 rw[nN N6];rw[UY q hq e h];have:=aqb;unfold afm ig at this;exact(arh (List.mem_filter.mp this)) e
def aZn dX Pr(h:aO (Uh Y W x t) w):∃q,ar3 (wQ Y W x t) (Y2 Y) (dm (dU t)) w q/\aa4 Y q:=by
 rw[vI h2 (aO (ar2 (wQ Y W x t) (q? Y) (Y2 Y) (air 1) [(dm (dU t),[])]) w) (eo (aF4 (λp r hr=>aK2 G hr p) _ _) h) (aHy _ _ w (λe he=>by rw[aAW he];rfl) h2)]
universe zE
universe Sb
universe zE
section
namespace Sb
open PySem L2
section
variable {C:eu}{Y:eD}{o o0:cR}{M pq aa:ba}{B:cF}{W W' fL:bC}{j:Nat}{ρ:aY}{x:Int}{t t':gj}
def aVM{g0 g1 g2 g3 n_ n! n? oh lC:D1}{jK:Addr}dX azI(hr:∀M n(k:qn),xo n bP (Oc C k)->k≠.ok->lC [ο n] M=.ok (av (uD k)) M):
  aeI C Y (aFU jK C.he C.dN C.rd g0 g1 g2 g3 n_ n! n? oh lC) λk=>av (uD k):=λM B W o w i x h f S hi hx=>by
 have T:=aJS (jK:=jK) (A.all (w:=w) G h f S hi hx);rw[B7 aFU P q (TK C Y o M q nY (λk=>av (uD k)) λB'=>alC Y Jo B') (ab1 .ai M rfl ?_)]
 rw[xH ?_];show Ee _ _ (Go [jK,C.dN,C.he,C.rd] 4 5 (Z1 g0 g1 g2 g3 n_ n! n? oh) (rg w i x .ai) M);rcases T with⟨hk,M',o',B',e,h1,h2,h3⟩ | ⟨hk,e⟩
 ·rw[iU e (ų M' (Ω ⟨hk,M',o',B',?_,h1,h2,h3⟩))];rw[cU hk]
 ·rw[e]
  rw[cV hn (Vs (M++[MF C]) bP (Oc C nY)) Θ (Rj (av (uD nY)) (M++[MF C]) (eX (ay (jc hk (Oc C nY)))))];rw[aex,eF,az,Ey 4 (rg w i x e_) (M++[MF C]) .ok e_ (M++[MF C])]
  rw[tT bo];rw[FF (ui false e_ .ai (M++[MF C])) .ok (qJ .ah) (M++[MF C])]
  simp only[ag,Bool.false_eq_true,if_false,bY,aP,bB];rw[Ey 4 (rg w i x e_) (M++[MF C]) .ok e_ (M++[MF C])]
  simp only[ag];exact hr _ _ _ hn hk
def aEy pC{k:qn}:eJ neg (av (uD k)) (av (uD k)) M=.ok (.ah (! neg)) M:=by cases neg<;>cases k<;>with_unfolding_all rfl
abbrev aK6 kh(bG:D1):Prop:=∀M W Bl,St C Y M W->Ec->w_->∃M2,bG [ο 0,ο 7,av w.s,η i,η x] M=.ok (fB .ah) M2/\St C Y M2 (DG Y W w i x)
def adW{gd ga:D1}dX(hd:anz C Y gd)(ha:aeI C Y ga λk=>av (uD k)):aK6 C Y (aGr gd ga):=λM W w i x ⟨B,o,j,s⟩ hi hx=>by
 obtain⟨aa,M2,e1,e2,rt⟩:=step (w:=w) (i:=i) (x:=x) G hd ha s hi hx;rw[d_ M2 ?_ rt];rw[B7 aGr P q (q=.ok (fB .ah) M2) (z9 (av (uD nY)) aa (by simp only[bY,aP,bB,aN,bf,a!,ag,e1]))];rw[gn];exact B? (fB .ah) M2 (by simp only[az,bY,aP,bB,aN,bf,a!,ag,e2,aEy,Bool.not_false])
abbrev aLB kh(o0:cR)(pq M:ba)kj:Prop:=∃B o,yr/\gL o0 pq o M
abbrev aHm kh(ga:D1):Prop:=aeI C Y ga λk=>av (uD k)
abbrev an5 kh(bQ:D1):Prop:=∀M B W o gI t,yr->w_->c8=eG->bQ [ο 0,η x] M=.ok (bU ahn) M
def Ui{ga:D1}{w:fV}iz á(h:PD M W)(hk:nY=.ok)zd rI:ñ (ga [ο 0,av w.s,η i,η x] M=.ok (av "ok") M') (Cq Jo):=by
 obtain⟨B,o,y,fr⟩:=h;rcases ha M B W o w i x y.y y.f y.S hi hx with⟨_,M',o',B',e,y',a6O,S'⟩ | ⟨hn,_⟩
 ·rw[hk]at e;exact⟨M',e,B',o',⟨y',amP G y.f hk,S'⟩,fr.trans a6O⟩
 ·rw[kA hk hn]
def a22:eJ true (av "ok") (av "ok") M=.ok (qJ .ah) M:=aEy (neg:=true) (k:=.ok)
def ang{ga:D1}zc{us:fK}(hd:ve=.ok us M)(e:ga us M=.ok (av "ok") aa):bb (ğ (ax ga ds) (b! "ok")) ρ M=.ok false aa:=by
 rw[eF,az,bY,hd,ag,e,ag,bo,ag,a22,ag]
def ZB:oD 0:=⟨a_,a_⟩
abbrev anC gI(y:pJ):aY:=[aQ,aZ,y]
def adB{bQ ga:D1}á(hw:an5 C Y bQ)rI(h:PD M W')(d:ä):
  ∃M' g? t2,av9 C.aM bQ ga [ο 0,η x] M=.ok (fB .ah) M'/\Cq g?/\XY g?/\arY 1/\auL/\dU t2=dU t':=by
 rw[lQ av9 q (∃M' g? t2,q=.ok (fB .ah) M'/\Cq g?/\XY g?/\arY 1/\auL/\dU t2=dU t')];show akb _ _ _ (anC x none) M;have T:=aCT x t';rw[gv hl (0<t'.steps.length) (List.length_pos_iff.mpr T.ne) wU (lO t'.steps.length) ((tok G d.f.I).sl _ (wj d.tr)) hi (gT [(cu Ua (h9 (ċ C.aM bQ ao E8)) (Ξ 1))] (anC x none) M=Dc .ok (List.range (t'.steps.length-1)).map (k:Nat) M) (by
  obtain⟨B,o,y,fr⟩:=h;refine IJ ?_;rw[az,bY,aP,y.y.met (d:=ao) (ds:=[aA]) (xs:=[η x]) rfl aw6 rfl,hw M B W' o x t' y hx d.tr,ag,bB,ag,ag];rw[mH (e! [bU (t'.steps.map (·.1))] M) (.ok (η t'.steps.length) M) (f_ e! bU),ag,bo,ag,aYJ hl wU])]
 rw[Lg (gT [(cu Ua (h9 (ċ C.aM bQ ao E8)) (Ξ 1))]) d7 hi (eK (oS (gQ (k:Nat) k) (kG ((∃y,ρ=anC x y)/\∃g? t2,Cq g?/\XY g?/\ahT t2.steps.length=t'.steps.length/\auL/\dU t2=dU t')) (List.range (t'.steps.length-1)) M hi ⟨jD,W',t',h,d,rfl,rfl,rfl⟩))]
 ·rintro pre k post hq ρ M ⟨⟨y,rfl⟩,g?,t2,h2,d2,hn,e1,e2⟩;rw[CE (anC x k?)];have hlen:=HZ hq;rw[aCj zE hlen]
  have hge:2≤t2.steps.length:=aB
  rw[Ë d3 (aZi G d2 hge)];rw[z8 bq e3 h3 (Ui G ha h2 hk ZB hx) (yH bq (ang rfl e3) (dP (jz ⟨jD,_,_,h3,d3,?_,e1,?_⟩)))]
  ·show t2.steps.dropLast.length+cC (pre++[k])=_;rw[aBV List.length_dropLast List.length_singleton];omega
  ·rw[cw e2 (a0Y (st:=t2.steps) (a:=t2.ahead) (b':=t2.out) hge)]
 ·rintro ρ' M' ⟨⟨y,rfl⟩,g?,t2,h2,d2,hn,e1,e2⟩;rw[bF List.length_range hn (ML (fB .ah) M' ⟨M',g?,t2,rfl,h2,d2,aB,e1,e2⟩)]
universe zE
universe Sb
universe zE
end
mutual
section
namespace Sb
open PySem L2
section
variable {C:eu}{Y:eD}{o o0:cR}{M pq aa:ba}{B:cF}{W W' fL:bC}{j:Nat}{ρ:aY}{x:Int}{t t':gj}
abbrev m8 gI(w:ef)(t:gj)(y z:pJ):aY:=[aQ,bh,aZ,Jx,jW,y,z]
def aLB.gU(h:PD M W')(hZ:GL Y pq fL j)(wk:o0 7=.qe):xo 7 .aj (wKs Y fL.green fL.now j):=by
 rw[rX B o y fr h (eo (fr.out 7 (jJ hZ.gU) wk) hZ.gU)]
def aJW{ga:D1}Bh Pr bk D7{y z:pJ}á rI(K:ef->agj)(hi:d7 (m8 x w t y z) M=Dc .ok (oH).map (k:Nat) M)(h0:K [] M)
  (hs:∀pre M,pre.length<n->K pre M->ñ (ga [ο 0,av "go",η 0,η x] M=.ok (av "ok") M') (∀k,K (pre++[k]) M'))(q:∀y M',K oH M'->Q (.nx (m8 x w t y z) M')):
  Q (eO d7 (bT 5) (Hw (eJ true) (ax ga [ao,(b! "go"),(Ξ 0),aD]) (b! "ok") (rQ .ah)) (m8 x w t y z) M):=by
 refine oS (gQ (k:Nat) k) (kG ((∃y,ρ=m8 x w t y z)/\K pre M')) oH M hi ⟨jD,h0⟩
 ·rintro pre k post hq ρ M ⟨⟨y,rfl⟩,hK⟩;rw[CE (m8 x w t k? z)];have hlen:=HZ hq;rw[aCj zE hlen];rw[Mg M' e a6U (hs pre M aB hK) (yH M' (ang rfl e) (dP (jz ⟨jD,a6U k⟩)))]
 ·rintro ρ' M' ⟨⟨y,rfl⟩,hK⟩;exact q y M' hK
def aJX{Kx:D1}{y z:pJ}Pr(e:Kx [ο 0,η x] M=.ok (fB .ah) aa):yI (cD (ax Kx [ao,aD])) (m8 x w t y z) M=.ok false aa:=by
 rw[TF,dn,bY,aki [ao,aD] (m8 x w t y z) M .ok [ο 0,η x] M,ag,e,ag,Ob,ag]
 rfl
def a23{a:eH}(h:a≠g7):eJ true (eQ a) (η x) M=.ok (fB .ah) M:=by
 rw[cU (Zq (p:=False) (aLr a) (lZ x) ⟨dF (by
  cases a with
  |none=>cases e
  |some y=>injection e with e;exact h (aCO e)),False.elim⟩)]
abbrev aHK kh(Kx:D1):Prop:=∀{o0:cR}{pq M:ba}{W W':bC}fW{t t':gj},w_->PD M W'->ä->∃M' g? t2,Kx [ο 0,η x] M=.ok (fB .ah) M'/\Cq g?/\XY g?/\arY 1/\auL/\dU t2=dU t'
abbrev a4X kh c7:Prop:=∀M B W o tf,yr->uc->g [ο 0,η p] M=.ok (eQ Jy) M
def aeu(h:IQ):dU t=g4:=by
 rw[Hr dU h]
def adk{ga Kx yV:D1}Pr{q:uE}á aNw rI(wk:o0 7=.qe)(hZ:GL Y pq fL j)(KD:o0 10=.qe)(ht0:cG fL.trains x=eG)
  (h:PD M W)(ht:c8=eG)(hp:ar3 (wQ Y W x t) (Y2 Y) (dm (dU t)) w q)(hb:aa4 Y q):
  ∃M' Ba,av0 C.aM ga Kx yV [ο 0,ο 7,η x,bU w] M=.ok (fB .ah) M'/\Cq Ba/\∀y,y≠x->arp y=tE:=by
 rw[VL av0 P r (∃M' Ba,r=.ok (fB .ah) M'/\Cq Ba/\∀y,y≠x->arp y=tE) ?_ b6 zD zE m9 m_ l5]
 rw[Wg f0 Bu (by rw[Mk B o y fr h y.f]) T (f0.I.tr x t ht) OR (aKS G T)]
 rw[kB aRh (xo 7 .aj (wKs Y fL.green fL.now j)/\xo 10 .ij (cc eR fL.trains)) (by
  rw[rX B o y fr h ⟨eo (fr.out 7 (jJ hZ.gU) wk) hZ.gU,eo (fr.out 10 (jJ hZ.sZ) KD) hZ.sZ⟩]) v1 (pe (cc eR fL.trains) xy=jW) (by rw[yy,ht0];rfl) (qL (kJ t))]
 ·rw[az,az];show(BR (fN (ο 7) (av "trains") M).bind x' (fN x' (η x) aa))=_;rw[er (Tq aRh.1 rfl q!) ag (ank aRh.2 (k:=xy) rfl v1)]
 show akb _ _ _ (m8 x w t none none) M;rw[bM d0 (RT W t) (a6a f0 ht) hi (gT [(Ľ bH)] (m8 x w t none none) M=Dc .ok (List.range t.ahead.length).map (k:Nat) M) (by
  refine IJ ?_;rw[bY,aP,az,Ey 4 (m8 x w t none none) M .ok (kJ t) M,ag,bo,ag,ad1,ag,bB,ag,ag]
  simp[e!,b9])]
 rw[Lg (gT [(Ľ bH)]) d7 hi (eK (aJW G ha hx (λpre M'=>∃g? t2,Cq g?/\XY g?/\ahT t2.ahead.length=t.ahead.length/\dU t2=dU t) hi ⟨W,t,h,d0,rfl,rfl⟩ ?_ ?_))]
 ·rintro pre M hn ⟨g?,⟨st,eE,a7Q⟩,h2,d2,e1,e2⟩;cases eE with
  |nil=>
   rw[xP (ahT 0=t.ahead.length) e1]
  |cons s a=>
   rw[Ë d3 (aKT G d2 rfl)];rw[M7 bq e3 h3 (Ui G ha h2 hk ZB hx) bq e3 (λk=>⟨_,_,h3,d3,?_,aK5.trans e2⟩)];simp only[List.length_append,zE,m9]at e1⊢;omega
 rintro y aa ⟨W1,t1,h1,d1,e1,e2⟩;rw[List.length_range]at e1;rw[cV a1 (t1.ahead=[]) aO2 Nr];rw[←e2,aeu a1]at hp;refine oS (gQ (r:Nat) r) (kG ((∃y z,ρ=m8 x w t y z)/\∃rest g? t2,w=pre++rest/\Cq g?/\XY g?/\t2.ahead=[]/\ar3 (wQ Y W x t) (Y2 Y) (dm (cg t2)) rest q)) w aa (jL rfl) ⟨sj _,w,W1,t1,rfl,h1,d1,a1,hp⟩
 ·rintro pre r post hq ρ M ⟨⟨y,z,rfl⟩,rest,g?,t2,hw,h2,d2,a2,pn⟩;rw[ajc (m8 x w t y bS) uu (rest=r::post) (aBr (hw.symm.trans hq))];rw[uu]at pn;obtain⟨⟨hr,aE7⟩,hp3⟩:=pn;obtain⟨bq,Ba,t3,e3,h3,d3,l3,a3,s3⟩:=hdr hx h2 d2;rw[a2]at a3;rw[aeu a2,aeu a3]at s3;rw[←s3]at aE7;have hh:=a0Z G f0 d3 a3 l3 hr aE7;obtain⟨A_,f4,aE5,ala⟩:=aZk G d3 a3 hh hr aE7;have hrs:=G.len;rw[z8 dW e4 h4 (Ui (x:=0) G ha h3 A_ QI ZB) (CR dW ?_ Ft)]
  ·rw[ZF,aJX e3,ag,lR];exact ang rfl e4
  rw[HU jN Ś aS (nK).ne hi (gT [(Ľ (Qw (ń aA) 6))] (m8 x w t y bS) dW=Dc .ok (List.range aib).map (k:Nat) dW) (by
   refine IJ ?_;rw[bY,aP,az,az,az,Ey 1 (m8 x w t y bS) dW .ok (ο 7) dW,ag,bo,ag,Tq (h4.gU hZ wk) rfl Zm,ag,Ey 6 (m8 x w t y bS) dW .ok (η r) dW,ag,J! hr,ag,bo,ag]
   show((((Res.ok kW dW).bind λx M=>(Dj [] _ M).bind (Aq (.ok (x::xs) M))).bind (Aq (e! xs M))))=_;rw[ag,bB,ag,ag];simp[e!,b9])]
  rw[Lg (gT [(Ľ (Qw (ń aA) 6))]) d7 hi (aJW G ha hx (λpre M'=>(pre=[]/\Cq (akS Ba r 0))\/(pre≠[]/\∃aft t5,Cq aft/\RT aft t5/\ahT t5.ahead.length=aib/\dU t5=gw)) hi (Ω (j3 h4)) ?_ ?_)]
  ·rintro pre M hn (⟨rfl,h5⟩ | ⟨_,aft,⟨st,eE,a7Q⟩,h5,ala,e1,e2⟩)
   ·rw[M7 anq e6 h6 (Ui G ha h5 aE5 ZB hx) anq e6 (λk=>ay ⟨Θ,_,_,h6,ala,?_,a00 G hr⟩)];show cC ((bN).drop 1)+1=_;rw[List.length_drop];rw[xP (0<aib) hn]
   ·cases eE with
    |nil=>
     rw[xP (ahT 0=aib) e1]
    |cons s a=>
     rw[Ë a6x (aKT G ala rfl)];rw[M7 anq e6 h6 (Ui G ha h5 hk ZB hx) anq e6 (λk=>ay ⟨Θ,_,_,h6,a6x,?_,aK5.trans e2⟩)];simp only[List.length_append,zE,m9]at e1⊢;omega
  ·rintro y anq (⟨hc,_⟩ | ⟨_,aft,t5,h5,ala,e1,e2⟩)
   ·rw[EW (HZ hc) List.length_range (absurd (List.length_eq_zero_iff.mp this) aS)]
   ·rw[List.length_range]at e1;have a5:t5.ahead=[]:=aO2;rw[zS (aeu a5) e2 (jz ⟨sj _,post,aft,t5,by rw[fk hq],h5,ala,a5,?_⟩)];rw[au e2 hp3]
 ·rintro ρ' M ⟨⟨y,z,rfl⟩,rest,g?,t2,hw,h2,d2,a2,pn⟩;rw[pY uu (rest=[]) (aBr (hw.symm.trans (List.append_nil w).symm)) uu pn];have hp3:dm (cg t2)=q:=pn;obtain⟨bq,Ba,t3,e3,h3,d3,l3,a3,s3⟩:=hdr hx h2 d2;rw[a2]at a3;rw[aeu a2,aeu a3]at s3;rw[←hp3,←s3]at hb;rw[kD (eZ (CR bq (aJX e3) (dP Nr))) key (∃dW afs t4,mm (yI (cD abI)) (Jf (ax ga [ao,(b! "go"),(Ξ 0),aD]) (b! "ok")) (m8 x w t y z) bq=.ok false dW/\PD dW afs/\CM afs.trains x t4/\t4.steps.length=1/\aL t4.out/\∀y,y≠x->cG afs.trains y=tE) (by
   have e2:yI (cD abI) (m8 x w t y z) bq=.ok (! t.out) bq:=by
    rw[TF,dn,az,Ey 4 (m8 x w t y z) bq .ok (kJ t) bq,ag,bo,ag,amr,ag,Ob,ag]
   cases ho:t.out with
   |true=>
    refine⟨bq,Ba,t3,?_,h3,d3.tr,l3,d3.ot.trans ho,d3.al0⟩;rw[ll,e2,ho];rfl
   |false=>
    rw[Ë ed (a01 d3 a3 ho hb)];rw[x9 dW e4 h4 (Ui G ha h3 hk ZB hx) ⟨dW,_,⟨t3.steps,[],true⟩,?_,h4,?_,l3,rfl,Fs y hy (amx hy) (d3.al0 y hy)⟩]
    ·rw[ll,e2,ho,ag];exact ang rfl e4
    ·rw[ed];rw[iT DE q_ ek])]
  obtain⟨dW,afs,t4,e4,h4,a7s,l4,a7M,a6c⟩:=key;rw[Lg (mm (yI (cD abI)) (Jf (ax ga [ao,(b! "go"),(Ξ 0),aD]) (b! "ok"))) dt e4 (yH dW e4 Ft)];rw[Ë ed (aZl (Y:=Y) a7s l4 a7M)];rw[ġ l8 e5 h5 (Ui G ha h4 hk ZB hx) a6d (∀y,y≠x->Xk (z? afs gZ 0) y=tE) (Fs y hy (amx hy) (a6c y hy)) (xY (fB .ah) l8 (eX (Cr l8 h5 a6d)))];obtain⟨B,o,aM,fr⟩:=h5;rw[Ć fq (U2 g4.1) ((f0.J x t ht).ok _ (J5 T.ne)).lt e6 (hti l8 B _ o g4.1 aM fq) ed e6]
  have ea:Dj [(oU (oU (H9 bH)))] (m8 x w t y z) l8=.ok [η g4.1] l8:=by
   rw[aP,az,az,az,Ey 4 (m8 x w t y z) l8 .ok (kJ t) l8,ag,bo,ag,OQ,ag,bo,ag]
   rw[mH (fN atX (η 0) l8) (.ok (bw g4) l8) (Ay (ZT T.ne)),ag,bo,ag]
   rfl
  rw[aYw,az,bY,aki [ao,LL,(Ξ 0),aD] (m8 x w t y z) dW .ok [ο 0,av "draw",η 0,η x] dW,ag,mH (ga [ο 0,av "draw",η 0,η x] dW) (.ok (av "ok") l8) e5,ag,bo,ag,mH (ő (av "ok") (av "ok") l8) (.ok (fB .ah) l8) (aEy (neg:=false) (k:=.ok)),ag]
  dsimp only;rw[ek,az,aM.y.met (d:=ao) (xs:=[η g4.1]) rfl aGx ea,e6,ag,Ey 2 (m8 x w t y z) l8 .ok (η x) l8,ag,a23 aZm]
universe zE
universe Sb
universe zE
section
namespace Sb
open PySem L2
section
variable {C:eu}{Y:eD}{o o0:cR}{M pq aa:ba}{B:cF}{W W':bC}{j:Nat}{ρ:aY}{x:Int}{t t':gj}
abbrev AN Bd(y3 y4 y5 y6 y7 y8:pJ):aY:=[qI .pj,aQ,bh,y3,y4,y5,y6,y7,y8]
abbrev aI:Int->gj->ak:=cK t (bU ahn)
def a24 Ux:((Rk d).map λq=>yO q.1)=d.map (B_ q q.1):=by rw[Hs cc]
def aKU{pre post:ab4}{q:Int×gj}(h:xD (pre++q::post).map):q.1∉agY/\q.1∉post.map (·.1)/\∀r∈post,r.1∉agY/\r.1≠q.1:=by
 rw[List.map_append,b6,List.nodup_append]at h;obtain⟨_,h2,h3⟩:=h;rw[aBX h2];rw[b5 (λh=>h3 _ h _ List.mem_cons_self rfl) h2.1 (xO r hr (λh=>h3 _ h _ (h_ (j4 r hr)) rfl) (dF (h2.1 (U4 r hr e))))]
def a4Y(l:ef):eJ true (bU l) (bU l) M=.ok (qJ .ah) M:=by
 rw[cU (Zq (p:=True) (aQz l) (aQz l) Θ)]
def aZo{Gy:D1}bk{d:ab4}(hw:an5 C Y Gy)(y:GN C Y M B W' o)(hn:xo n .aj (Rk d))(a7o:o n=.qe)(fS:Ja)(hd:yp d (oD q.1/\CM W'.trains q.1 q.2))(hl:lO d.length)(h1:t6 1 aQ)(wk:t6 7 CH):
  cD (ax OE [(aew (ox gF) (mX false [none,qB,some 7] (ox gF) (bT 0) oz (ğ (ċ C.aM Gy aA CF) (Ť aD))))]) ρ M=.ok false M:=by
 rw[gX hi (keys_eq (ρ:=ρ) (d:=gF) hn (zq wk)) a24 hi];rw[dn,a4B (bs:=HJ _ false) (M':=M)]
 ·rw[ag,Ob]
  congr 1
  rw[List.any_eq_false];intro b hb;obtain⟨_,_,rfl⟩:=List.mem_map.mp hb;simp
 rw[Qq (a0T hn hi ?_) hz (rU (Hu n .ij aI d) n .ij (Rk d)) (get_set hn) y2 (GN C Y (Hu n .ij aI d) B W' o) (y.keep (by rw[ahf fh]) λi hi aS=>o5 (V5 (by rw[cw e a7o])))];generalize Hu n .ij aI d=M2 at hi hz y2⊢;refine a0S (λq:Int×gj=>ak.int q.1) (λ_=>false) (λρ=>∃z,ρ=[z,aQ,CH]) hi hz (k7 none) (SG q hq) Mw
 ·simp[DB,h1,wk]
 rw[Lo z hρ]
 refine pV _ jD ?_;obtain⟨hs,hg⟩:=hd q hq
 rw[BZ (([z,aQ,CH]:aY).set 0 su=[su,aQ,CH]),az,
  y2.y.met (d:=aA) (ds:=[ao]) (xs:=[η q.1]) rfl aw6 rfl,hw M2 B W' o q.1 q.2 y2 hs hg,ag]
 have e3:M5 aD ao [su,aQ,CH] M2=.ok (aI q.1 q.2) M2:=by
  rw[RO (fN (ο n) (η q.1) M2=_) (ank hz (k:=Cj) rfl (by rw[yy,z! fS];rfl))]
 rw[er e3 ag (a4Y _)]
abbrev aHL kh c7:Prop:=∀{o0:cR}{pq M:ba}{fL W:bC}{j:Nat}qt Pr{q:uE},w_->o0 7=.qe->GL Y pq fL j->o0 10=.qe->cG fL.trains x=eG->PD M W->c8=eG →
 ar3 (wQ Y W x t) (Y2 Y) (dm (dU t)) w q->aa4 Y q->∃M' Ba,g [ο 0,ο 7,η x,bU w] M=.ok (fB .ah) M'/\Cq Ba/\∀y,y≠x->arp y=tE
def aJY{M G:ba}bk{v:fu}(h:zQ n):(M++G).set n v=I9 v++G:=List.set_append_left _ _ h
def Dp{gs p9 aQ7 bG Gy bQ aQ8:D1}Bd(hs:∃Y M,uZ/\gs [.pj ns] []=.ok (aW [ο 0,ο 7]) M/\St C Y M (fL Y))aaB(aE2:∀Y,uZ->ayT C Y aQ7)(a6Y:∀Y,uZ->aK6 C Y bG)(aRw:∀Y,uZ->an5 C Y Gy)
  (hw:∀Y,uZ->aIo C Y bQ)(a62:∀Y,uZ->aHL C Y aQ8):∃M',aGk C.aM gs p9 aQ7 bG Gy bQ aQ8 [.pj ns] []=.ok (fB .ah) M':=by
 obtain⟨Y,pq,G,es,DT⟩:=hs;rw[XX aGk P r (∃M',r=.ok (fB .ah) M') (ab0 (aW [ο 0,ο 7]) (AN ns none none none none none none) pq ?_ afp)]
 ·simp only[bY,aP,bB,aN,a!,ag,es]
 rw[B5 n hn1 uK (auQ (HA 38) m 31 a_) hi (gT [(LH p9 [ao,(Ξ 38)] (Ξ 31))] (AN ns none none none none none none) pq=Dc .ok (oH).map (k:Nat) pq) (IJ (by unfold AN;simp[hm ns 38 pq,ZD,hn1]))];rw[Lg (gT [(LH p9 [ao,(Ξ 38)] (Ξ 31))]) d7 hi (eK (oS (gQ (k:Nat) k) (kG ((∃y3 y4 y5 y6 y7 y8,ρ=AN ns y3 y4 y5 y6 y7 y8)/\∃W,St C Y M' W)) oH pq hi ⟨⟨_,_,_,_,_,_,rfl⟩,_,DT⟩))]
 ·rintro pre k post hx ρ M ⟨⟨y3,y4,y5,y6,y7,y8,rfl⟩,W,B,o,j,s⟩;rw[CE (AN ns k? y4 y5 y6 y7 y8)];rw[Le d aRk ed (aE2 Y G M B W o j ns (60+2*aU k) s) w i x d];rw[kB O0 Ec aRk.1 GD w_ aRk.2 (ab0 (wu (w,i,x)) (AN ns k? QS xr aZ y7 y8) M ?_ a57)]
  ·unfold AN;simp only[bY,aP,bB,az,aN,bo,bf,a!,ag,a56,aIw,ed]
  rw[z8 M2 e2 rt (a6Y Y G M W w i x ⟨B,o,j,s⟩ O0 GD) (yH M2 ?_ (dP (jz ⟨⟨_,_,_,_,_,_,rfl⟩,_,rt⟩)))];rw[TF,dn,bY,aki [aA,aD,bH,(ae 5),(ae 6)] (AN ns k? QS xr aZ y7 y8) M .ok [ο 0,ο 7,av w.s,η i,η x] M,ag,e2,ag,Ob,ag]
  rfl
 ·rintro ρ' M ⟨⟨y3,y4,y5,y6,y7,y8,rfl⟩,W,B,o,j,s⟩;refine eZ (z9 e_ (M++[.aj []]) rfl);show akb _ _ _ (abz y6) (M++[.aj []]);rw[iA KD (zQ 10) (jJ s.w.iJ) hl (SY 90) (WK G).tl fH (∀(y6 y8:pJ)(v:fu),ox Mi (abz y6) (M++[v])=.ok (W.trains.map (B_ q q.1),mO 10 (.ij nH)) (ua .ij++[v])) (λy6 y8 v=>by
   rw[cH sw (s.w.push v) hk (keys_eq sw.iJ (sw.ix (ρ:=abz y6) (d:=aD) rfl q!))];rw[anl,aJY KD]at hk;exact hk) hY (GN C Y (ua .ij) B W o) (s.aM.keep Θ λi hi ho=>o5 (dF (ho (by rw[f7 e (s.sep 10 (by unfold A!;simp))]))))];rw[iA sZ (∀v,rU (ua .ij++[v]) 10 .ij nH) (λv=>eo (ú (by rw[vm KD])) aLH) anB (∀v,asW (ua .ij++[v]) v) (λv=>by
   rw[fk (List.getElem?_append_right Θ)]) jf (∀v v',Đ (ua .ij++[v]).set v'=ua .ij++[v']) (λv v'=>by
   rw[fk (aBy _ Θ)]) back (∀v,(ua .ij++[v]).set 10 (.aj nH)=M++[v]) (λv=>by
   rw[aJY (by rw[vm KD]),NZ s.w.iJ])]
  rw[gp (eK (TN (s.w.push _).iJ (fH _ _ _) ?_)) (sH (λq:Int×gj=>ak.int q.1) (kG ((∃y6,ρ=abz y6)/\M'=ua .ij++[.aj akK])) W.trains _ _ (fH _ _ _) (sZ _) (kS jD) ?_ ?_)]
  ·rintro pre q post hx ρ M' ⟨⟨y6,rfl⟩,rfl⟩;rw[ajc (abz su) hq (at7 q) (by rw[nP])]
   rw[L? avp (z! s.f.I.i_) aM (hY.app [.aj akK]) fJ (aRw Y G _ B W o q.1 q.2 aM (s.nm q hq) avp) fS s.f.I.i_];rw[hx]at fS;have hlen:=HZ hx;rw[aCd zE hlen];refine X0 (aI q.1 q.2) (ua .ij++[.aj akK]) e_ (ua .ij++[.aj akK]) (η q.1) (ua .ij++[.aj akK]) (ua .ij++[.aj (Rk (pre++[q]))]) ?_ rfl ?_ (Ar (sZ _) (kS jD))
   ·rw[aM.y.met (d:=aA) (ds:=[ae 6]) (xs:=[η q.1]) rfl aw6 rfl,fJ];rfl
   ·rw[Rc (anB _) Cj (Lp (show _≤90 by rw[dO cc eP];omega)),jf,axa,axz (aKU fS).1]
  ·rintro ρ'' M' ⟨⟨y6,rfl⟩,rfl⟩;rw[fF (sZ _) fj];rw[iU back (eK (TN (s.w.push _).iJ (fH _ _ _) ?_))]
   rw[kB hna (¬A! j M.length) (λh=>by rw[e9 (s.w.ad h)]) DU (∀{i},i=7\/i=10\/i=j->A! j i) (λh=>by
    rcases h with h | h | h
    ·exact ay (Ω h)
    ·exact ay (ay (ay (Ω h)))
    ·exact ay (ay (ay (ay h)))) (sH (λq:Int×gj=>ak.int q.1) (kG ((∃y6 y8,ρ=abz y6)/\∃rest B' W' o',W.trains=pre++rest/\GN C Y M' B' W' o'/\GL Y M' W j/\Vs M' .aj (Rk rest)/\(∀i,A! j i\/Ll i->o' i=.qe)/\∀y,y∉agY->aro y=tE)) W.trains _ _ (fH _ _ _) (sZ _) ⟨sj _,W.trains,B,W,o,rfl,hY.app _,?_,anB _,?_,HL _ _⟩ ?_ ?_)]
   ·exact GL.app ⟨j0 s.w.gU,xR (Ne.symm s.w.TU.2.2) s.w.wl,aLH⟩ _
   ·rintro i (h | h)
    ·rw[Xq i h]
    ·exact s.y.hi i aB
   ·rintro pre q post hx ρ M' ⟨⟨aGO,amQ,rfl⟩,rest,B',W',o',hr,aM,hZ,hn,ho,ay0⟩;rw[CE (AN ns y3 y4 y5 su gR amQ)];rw[LO uu (rest=q::post) (aBr (hr.symm.trans hx)) uu]
    rw[Wg hq (at7 q) (by rw[nP]) avp (z! s.f.I.i_) fS s.f.I.i_];rw[ate hx fS n1 n2 n3 (aKU fS)];have hlen:=HZ hx;rw[aCd zE hlen];rw[lS aQJ (eo (ay0 q.1 n1) avp) fJ (hw Y G M' B' W' o' q.1 q.2 aM (s.nm q hq) aQJ) (nF (J6 (Uh Y W' q.1 q.2)) M')]
    ·rw[bY,aki [aA,(ae 6)] (AN ns y3 y4 y5 su gR amQ) M' .ok [ο 0,η q.1] M',ag,fJ]
    show Body _ _ _ (qx _ _ (AN ns y3 y4 y5 su gR (aT (J6 (Uh Y W' q.1 q.2)))) M');rw[kD (eK (T7 (y:=η q.1) (k:=Cj) (aI q.1 q.2) rfl hn rfl rfl (by rw[yy,sJ,ek];rfl) fj)) ed (Gf (Rk (q::post)) Cj=abi) (by
     rw[aGS]
     congr 1
     rw[iT ig (List.filter_cons_of_neg Θ) List.filter_eq_self];exact λr hr=>decide_eq_true (n3 r hr).2)]
    rw[ed];rw[iA aGM (GN C Y (aqo (.aj abi)) B' W' o') (aM.keep Θ λi hi aS=>o5 (V5 (ho i (ay e.symm)))) YS (GL Y (aqo (.aj abi)) W j) ⟨SK (dF (hna (DU (Ω e)))) hZ.gU,SK (dF (hna (DU (ay (ay e))))) hZ.wl,SK (dF (hna (DU (ay (Ω e))))) hZ.sZ⟩ uK (Vs (aqo (.aj abi)) .aj abi) (get_set hn) hr2 (W.trains=(pre++[q])++post) (by rw[nP])]
    generalize aqo (.aj abi)=M2 at aGM YS uK;have GK:∀y,y∉gz (pre++[q]).map->aro y=tE:=An (ay0 y λh=>hy (by rw[au List.map_append (agv h)]));cases a51:Uh Y W' q.1 q.2 with
    |none=>exact yH M2 rfl (dP (Ar YS.sZ ⟨sj _,post,B',W',o',hr2,aGM,YS,uK,ho,GK⟩))
    |some w=>
     obtain⟨p,hp,hb⟩:=aZn G a51;obtain⟨bq,Ba,e3,⟨aSz,adq,aR8,OW⟩,a52⟩:=a62 Y G (o0:=o') (pq:=M2) (M:=M2) (fL:=W) (W:=W') (j:=j) (s.nm q hq) (ho 7 (Ω (DU (Ω rfl)))) YS (ho 10 (Ω (DU (ay (Ω rfl))))) avp ⟨B',o',aGM,gL.refl⟩ aQJ hp hb;rw[bM kp (∀{i v},u? M2->A! j i\/Ll i->u? bq) (Fs h hi (OW.out _ (jJ h) (ho _ hi)) h) aRi (GL Y bq W j) ⟨kp YS.gU (Ω (DU (Ω rfl))),kp YS.wl (Ω (DU (ay (ay rfl)))),kp YS.sZ (Ω (DU (ay (Ω rfl))))⟩];rw[pM aRn (kp uK (ay rfl)) fq (∀i,A! j i\/Ll i->i<M2.length) (λi hi=>by
      rcases hi with hi | rfl
      ·rw[k9 (s.w.ad hi) (jJ uK)];omega
      ·exact jJ uK) aRr (∀i,A! j i\/Ll i->adq i=.qe) (Fs i hi (OW.tag i (fq i hi)) (ho i hi))];rw[cV aRu (∀y,y∉gz (pre++[q]).map->arp y=tE) (Fs y hy (a52 y (dF (hy (by rw[fk e])))) (GK y hy)) (ur true M2 rfl (cJ _) nofun)]
     refine CR bq ?_ (dP (eZ (yH bq ?_ (dP (Ar aRi.sZ ⟨sj _,post,aSz,Ba,adq,hr2,aR8,aRi,aRn,aRr,aRu⟩)))))
     ·rw[TF,dn,bY,aki [aA,aD,(ae 6),(ae 8)] (AN ns y3 y4 y5 su gR (aT (J6 (some w)))) M2 .ok [ο 0,ο 7,η q.1,bU w] M2,ag,e3,ag,Ob,ag]
      rfl
     ·rw[List.map_append,b6,List.nodup_append,List.nodup_cons]at fS;rw[kD (aZo (aRw Y G) aR8 aRn (aRr _ (ay rfl)) fS.2.1.2 (dB r hr) aB rfl rfl) hrm (at7 r) (by rw[hx];simp[hr])]
      rw[b4 (s.nm r hrm) (eo (aRu r.1 (by rw[List.map_append,List.mem_append,not_or];rw[vj (n3 r hr).1 h ((n3 r hr).2 (List.mem_singleton.mp h))])) (YI s.f.I.i_ hrm))]
   ·rintro ρ3 M' ⟨⟨aGO,amQ,rfl⟩,rest,B',W',o',hr,aM,hZ,hn,ho,ay0⟩;rw[b4 hZ.sZ (ML (fB .ah) _ jD)]
def aff{bQ ga:D1}á(hw:an5 C Y bQ):aHK C Y (av9 C.aM bQ ga):=by
 intro o0 pq M W W' x t t' hx h d;exact adB G ha hw hx h d
def a4Z{ga Kx yV:D1}á aNw:aHL C Y (av0 C.aM ga Kx yV):=by
 intro o0 pq M fL W j x t w q hx wk hZ KD ht0 h ht hp hb;exact adk G ha hdr hti hx wk hZ KD ht0 h ht hp hb
universe zE
universe Sb
universe zE
end
mutual
section
namespace Rw
open PySem L2 Sb PySem.W
structure Top aam(bj aGU fo gk i6 j9 cY bR:Addr):Prop where
 aRD:Un K mg "BadYard" bj
 aTO:Un K mg "Held" fo
 aFj:Un K mg "NotThere" gk
 anD:Un K mg "Red" i6
 aW5:mg "BadYard" = kZ bj
 a25:mg "Held" = kZ fo
 aVN:mg "NotThere" = kZ gk
 a40:mg "Red" = kZ i6
 a8G:Catch K mg "BoxError" aGU [bj,gk,fo,i6]
 aW6:OF K (Δ bj) [iE bj,My,Mz,MA]
 a26:OF K (Δ fo) [Mx,My,iE fo,MA]
 aVh:OF K (Δ gk) [Mx,iE gk,Mz,MA]
 a41:OF K (Δ i6) [Mx,My,Mz,iE i6]
 aTP:OF K (aC4 d5) [iE bj,iE gk,iE fo,iE i6]
 a6y:axM bj gk fo i6
 av4:N1 K j9 "near"
 aSa:N1 K j9 "until"
 NM:N1 K cY "ahead"
 alK:N1 K cY "is_out"
 YK:N1 K cY "steps"
 aFe:Jr "falls"
 mI:Jr "found"
 aFf:Jr "greens"
 aRG:Jr "locks"
 av1:Jr "lying"
 avg:Jr "pieces"
 ky:Jr "signals"
 alQ:Jr "ticks"
 aEO:Jr "trains"
 aF5:Jr "wait"
 aTQ:CP "ValueError"
 aK7:CP "any"
 aG8:CP "enumerate"
 aLE:CP "int"
 alR:CP "isinstance"
 acz:CP "len"
 a7O:CP "list"
 a42:CP "max"
 aLF:CP "min"
 mM:CP "range"
 aVi:CP "reversed"
 a02:CP "tuple"
 a8A:∃t:Tok,mg "LAST_JOINT" = qU η 999 t
 a8m:∃t:Tok,mg "MOST_PIECES" = qU η 16 t
 a8g:∃t:Tok,mg "MOST_SIGNALS" = qU η 16 t
 aUN:cO "joints_of" Y9 PG
 aUO:cO "pieces_at" To asL
 aSM:cO "piece_beyond" YM ajs
 aUP:cO "is_border" lL ajs
 aTR:cO "joints_out" Za asn
 aUQ:cO "is_points" ac7 PG
 aW7:cO "lie_for" adw aDP
 aTS:cO "check_yard" acX Vj
 aSS:cO "check_pieces" acK ["pieces"]
 aST:cO "check_joints" acL (aht "joints")
 aSp:cO "check_signals" acM Vj
 aTT:aeN K mg "Train" cY "Train.__init__" acY ["self"]
 aSU:cO "pieces_under" YN WE
 aUR:cO "last_step" ac8 WE
 aZp:cO "turned" adL EU
 aZq:cO "routes" adM Vj
 Fu:cO "ways_on" al5 ["pieces","signals","way","joint","piece"]
 aUS:aeN K mg "Yard" bR "Yard.__init__" ka auW
 aSV:aeM K bR "lock_of" "Yard.lock_of" avN aiO
 aSq:aeM K bR "train_in" "Yard.train_in" la aiO
 aTU:aeM K bR "where" "Yard.where" avX aDQ
 aUT:aeN K mg "Fall" j9 "Fall.__init__" ac9 ["self","until","near"]
 aUr:aio "set_route" ada
 aZr:aio "cancel" adN
 a27:cO "tick" aek ["yard"]
 a03:asK "throw" ad2
 aZs:Lk "unlock" q0 "steps"
 aUs:aio "signal_of" alS
 aZt:aio "way_of" amo
 aSW:Lk "is_at_border" kb "signal"
 aSX:Lk "signal_ahead" acG "train"
 aTV:Lk "train_near" acZ "signal"
 aSY:ahP "train_called" acH
 aTp:aio "check_route" acN
 aTq:asK "check_piece" acO
 aSZ:asK "check_points" acI
 aS0:Lk "check_signal" acJ "signal"
 aS1:cO "is_number_of" mi ["things","number"]
 a8H:asK "check_not_held" acA
 Pm:ahP "way_out" Tp
 aTr:cO "shut_pieces" acP (aql "ahead")
 aVj:cO "is_clear" lx asN
 aVk:cO "shortest" adj (as3 "last")
 aUt:cO "routes_on" adb (as3 "end")
 a04:cO "enter" ad3 as6
 a53:ahP "go" ZZ
 a28:ahP "draw" ael
 a29:ahP "turn" ZI
 aTW:cO "route_past" ac0 as6
 aTs:cO "pass_signal" acQ aEe
 aW8:Lk "come_on" adx "train"
 aZu:cO "_law_cell" adK agN
 a05:cO "_law_mix" ad4 agN
 aVl:cO "_law_beyond" kd aMN
 aVm:cO "_law_pieces" NT aL4
 aUu:cO "_law_signals" ade aL8
 aZv:cO "_law_outs" pb arJ
 aIY:cO "_law_ways" amq aMR
 aVn:cO "_law_routes" Zh aPo
 a0J:cO "_law_new" ZA aL7
 aTX:cO "_law_train_in" ik Sy
 aZw:cO "_law_held" ra Sy
 aYX:cO "_law_free" pd L_
 X1:cO "_law_set" si L_
 aYY:cO "_law_near" adR aqI
 aVp:cO "_law_cancel" Zc L_
 aYZ:cO "_law_tick" adS ["_law_world"]
 aW9:cO "_law_throw" ady Sy
 aY0:cO "_law_pass" Zt aL9
 aXa:cO "_law_enter" oT aMz
 a3a:cO "_law_go" aem ę
 aY1:cO "_law_draw" rh ę
 aY2:cO "_law_turn" Tr ę
 aXb:cO "_law_there" adz agP
 aY3:cO "_law_done" adU agP
 aXc:cO "_law_asked" amh aL5
 aUv:cO "_law_refusal" adf ["_law_kept"]
 aS2:cO "_law_near_deeds" YO aqI
 aY4:cO "_law_deed" rn aLW
 Ps:cO "_law_start" adA ô
 aY5:cO "_law_both" adW ["_law_yard","_law_world","_law_word","_law_number","_law_name"]
 Pt:cO "_law_drawn" adB ["_law_yard","_law_name"]
 aVq:cO "_law_driven" adk ["_law_yard","_law_world","_law_name","_law_way"]
section
variable {z:aoi}{bj aGU fo gk i6 j9 cY bR:Addr}(T:Top z.K z.mg bj aGU fo gk i6 j9 cY bR)
include T
omit T in theorem aTY:cy PG PG Y9:=bE
def aSb:apw (k+1) 1 (ej):=EL T.aUN aTY (Cp ś (fY (NB (af 0))))
omit T in theorem aTZ:cy asL asL To:=bE
omit T in theorem kz:jI ["number","piece","joint"]:=ez
def aSc aph:eT "pieces_at" (Y4 Dh):=EL T.aUO aTZ (I1 (Qv (aw To) asL ["number","piece","joint"] [none,none,qB]) (aJu (af 0) T.aG8) (Cw (aRH (cL kz).calm (Av (ash 0 (cL kz).nd) (Av (ash 1 (cL kz).nd) AB)))) (zx (iN (o? (cL kz).hu) (af 2) (D9 Th hr (cL kz).o_ (fD 1)))))
omit T in theorem aSr:cy ["pieces","number","joint","other"] ajs YM:=bE
def tJ aOa:apv (k+1) (alz ac3):=ug T.aSM aSr (abR (tF alL) (B3 (p_ G.hu) (af 3) (af 1) (dK (af 3)))) (Ig fP)
omit T in theorem aT0:cy ajs ajs lL:=bE
def aT1 aoC:aAa (k+1) (avQ Dg):=EL T.aUP aT0 (p! F! (EA Tf (af 1) 2) fP)
omit T in theorem aTt:cy asn asn Za:=bE
omit T in theorem aRV:jI ["other","joint"]:=ez
def aTu aph:eT "joints_out" (alH Dh):=HP T.aTR aTt (q7 G.hu) (eB 0) b7 (dK (I1 (akB (aw Za) asn ["other","joint"]) (jr (LU Th 0)) (jY (cL aRV).nd) (zx (Jg (p_ (cL aRV).hu))))) (WS (qY (q7 G.hu) (af 1) (eB 0) (dK (vZ (Qx (eB 0) 0)))) (vZ (BK 0)))
omit T in theorem aT2:cy PG PG ac7:=bE
def aT3:arV (k+1) (avR):=EL T.aUQ aT2 (p! (q7 G.hu) (eB 0) b7)
omit T in theorem aVs:cy aDP aDP adw:=bE
def aVt(ac6:arV k Zb):eT "lie_for" (qr Zb):=BY T.aW7 aVs (Ys (BN (yD (bt (LU ac6 0)) (wo (iN (o? G.hu) (eB 0) (NB (af 1))))) kF) kF)
omit T in theorem aTv:cy Vj Vj acX:=bE
def aTw(aFG:aCt k aFu)(aFp:eY "check_signals" aFk):eT "check_yard" (avO aFu aFk):=Px T.aTS aTv (LU aFG 0) (auF aFp)
omit T in theorem aSs:cy (aht "piece") ["pieces"] acK:=bE
def aSt(aFH:eY "check_joints" aFv)aph:aCt (k+1) (avB bj aFv Dh):=HP T.aSS aSs (q7 G.hu) (r4 0) bI (jE (aXY T.aRD hr (EZ b7))) (mP (qY TR (r4 0) aMk (Pz (jd (yu aMk (jd uw))))) (LW (jr (af 0)) (f5 1) (xT (BH aFH (LU Th 1)))))
omit T in theorem aSu:cy ["pieces","joints","joint"] (aht "joints") acL:=bE
def aSv aOa:eT "check_joints" (avC bj ac3):=BY T.aST aSu (LW (jr (af 1)) (f5 2) (oQ (BN (TG (iN aeq (af 2) bI) (AF (iN TR (af 2) aMl))) (Pz (jd (X4 (jd (yu aMl uw)))))) (qY TR (aBh (aGK G.hu) (af 1) (fD 2)) bI (Pz (jd (X4 (jd uw))))) (B3 TR (PO (tF alL)) bI (Pz (jd (X4 uw))))))
omit T in theorem a8I:cy ["pieces","signals","joint","number"] Vj acM:=bE
def a8J aph:eT "check_signals" (avy bj Dh):=HP T.aSp a8I TR (r4 1) aMm (Pz (jd (yu aMm (jd uw)))) (LW (jr (af 1)) (BG (XZ (MY AB))) (Ļ TR (aBh (aGK G.hu) (af 1) (Hq (vq (af 2) 3))) bI (Pz (jd (X4 (jd (yu (af 3) uw))))) (BN (TG (iN aeq (af 3) bI) (AF (iN aKr (af 3) (r4 0)))) (Pz (jd (yu (af 3) (jd uw))))) (B3 Š (af 2) (D9 Th hr G.o_ (fY (vN 0 (af 3)))) (Pz (jd (yu (af 3) (jd (X4 uw))))))))
omit T in theorem aTy:cy ["self"] ["self"] acY:=bE
def aTz:In z (k+1) "Train" cY 1 (mr cY):=sU.go T.aTT aTy λ_ _ _ _ _ _ _ hr G=>(oQ (t9 T.YK zv) (t9 T.NM zv) (jE (t9 T.alK ke)))
omit T in theorem aSw:cy WE WE YN:=bE
omit T in theorem aRQ:jI EU:=ez
def aSx:aqC (k+1) 1 (avD cY):=EL T.aSU aSw (Q4 (Nh (aw YN) WE EU) (jr (nA T.YK)) (jY (cL aRQ).nd) (ajn (cL aRQ).hu))
omit T in theorem aTF:cy WE WE ac8:=bE
def aTG:aDj (k+1) (alF cY):=ug T.aUR aTF (CL (nA T.NM) (dK (aqE T.NM (ZL bI)))) (dK (tW (nA T.YK)))
omit T in theorem aXd:cy EU EU adL:=bE
def aXe:CQ (k+1) "turned" (awc):=EL T.aZp aXd (mZ (r5 (eB 0) (eB 0) (BK 0)))
omit T in theorem aXf:cy ["pieces","signals","told","number","signal","way"] Vj adM:=bE
def aXg(aFY:eY "check_yard" aFO)(aGV:arB k 5 m3):eT "routes" (wx aFO m3):=Px T.aZq aXf (lX aFY) (rT 2 zv (I7 (aJu (af 1) T.aG8) (BG (MY (Av (f5 4) AB))) (LW (jr (PB aGV (af 1) (r5 Co (eB 4) (BK 4)))) (f5 5) (IM (af 2) (Hq (vq (af 3) 5))))) (dK (uj (af 2))))
omit T in theorem aHJ:cy ["pieces","signals","way","joint","piece","found","out","longer","beyond"] ["pieces","signals","way","joint","piece"] al5:=bE
omit T in theorem aSd:jI EU:=ez
def aVu(aTH:eY "joints_out" aFP)aoC(aGV:arB k 5 m3):arB (k+1) 5 (Ap aFP Dg m3):=HP T.Fu aHJ (o? G.hu) (af 4) (Q4 (Nh (aw al5) ["pieces","signals","way","joint","piece","found","out","longer","beyond"] EU) (jr (af 2)) (jY (cL aSd).nd) (ajn (cL aSd).hu)) (dK Co) (rT 5 zv (PZ (Rn aTH (vN 0 (af 4)) 3) (f5 6) (Mq 7 (ŧ (af 2) (Hq (L0 (af 4) (af 3) 6))) 8 (EA Tf (af 4) 6) (zM (abg (iN F! (af 8) fP) (AF (iN (o? G.hu) (mZ (vq (af 6) 8)) (af 1)))) (IM (af 5) (fD 7)) (xT (adg PySem.F.slot_list_extend PySem.F.type_list_extend aU0 (af 5) (fY (PB aGV (af 1) (L0 (af 7) (af 6) 8)))))))) (dK (uj (af 5))))
omit T in theorem aTI:cy auW auW ka:=bE
omit T in theorem aS3:jI PG:=ez
def aTJ(axN:eY "routes" axh):In z (k+1) "Yard" bR 4 (aFA bR axh):=sU.go T.aUS aTI λ_ _ _ _ _ _ _ hr G=>(HE (t9 T.mI (Rn axN (af 1) 2)) (t9 T.avg (Cp ś (fD 1))) (t9 T.ky (Cp ś (fD 2))) (t9 T.aF5 (af 3)) (HE (t9 T.alQ bI) (t9 T.aRG ZC) (t9 T.av1 (acv true (Nh (aw ka) auW PG) G.calm (jr (af 1)) (jY (cL aS3).nd) (p5 _ Y8) (p5 _ b7))) (t9 T.aFf ZC) (mP (t9 T.aFe ZC) (jE (t9 T.aEO ZC)))))
omit T in theorem aSg:cy aiO aiO avN:=bE
def aSh(NN:aBS FY):Uj z (k+1) bR "lock_of" 2 (avE bR FY):=uG.go T.aSV aSg λ_ _ _ _ _ _ _ hr G=>(WS (De (lX NN)) (aIM G.hu auk (af 1)))
omit T in theorem a8K:cy ["self","piece","name","train"] aiO la:=bE
def aSy(NN:aBS FY)(acV:aqC k 1 YQ):aAc z (k+1) bR 2 (alv bR FY YQ):=uG.go T.aSq a8K λ_ _ _ _ _ _ _ hr G=>(oQ (De (lX NN)) (TA (I7 (awX aa2) (BG (XZ (MY AB))) (B3 (o? G.hu) (af 1) (LU acV 3) (dK (af 2))))) (Ig fP))
omit T in theorem aTd:cy aDQ aDQ avX:=bE
def aTe(acV:aqC k 1 YQ)afE:Uj z (k+1) bR "where" 2 (avP YQ v_):=uG.go T.aTU aTd λ_ _ _ _ _ _ _ hr G=>(dK (D9 acV hr G.o_ (fY (lX FT))))
omit T in theorem aTK:cy ["self","until","near"] ["self","until","near"] ac9:=bE
def aTL:In z (k+1) "Fall" j9 3 (avS j9):=sU.go T.aUT aTK λ_ _ _ _ _ _ _ hr G=>(mP (t9 T.aSa (af 1)) (jE (t9 T.av4 (af 2))))
omit T in theorem aTM:B0 ["yard","route","way","step"] "route" (aw ada):=bE
def aTN(acS:eY "check_route" Y5)aaz(acB:aPj fI)(awP:eY "lie_for" aGW)(Dn:aDf v!):eT "set_route" (acR bR Y5 mW fI aGW v!):=Px T.aUr aTM (lX acS) (k8 2 (lX uv) (oQ (abR (af 2) (xT (VF acB (BK 3)))) (abR (af 2) (mP (BO auk (eB 3) (af 1)) (EM (nA T.av1) (eB 3) (Rn awP (aqE T.avg (eB 3)) 3)))) (EM aiB (lX Dn) (af 1))))
omit T in theorem aXh:B0 ["yard","route","signal","near"] "route" (aw adN):=bE
def aWP(acS:En (k+1) "check_route" Y5)(Dn:En (k+1) "signal_of" v!)(aFZ:En (k+1) "train_near" aFQ)aNu(aUw:In z k "Fall" j9 3 aGc)(Dq:En (k+1) "unlock" wh)(uv:En (k+1) "way_of" mW):En (k+2) "cancel" (Ze j9 gk bR Y5 v! aFQ JU aGc wh mW):=Px T.aZr aXh (lX acS) (k8 2 (lX Dn) (Ļ (p_ G.hu) (aIM G.hu aiB (af 2)) (af 1) (jE (NL T.aFj hr (jd (yu (af 1) uw)))) (De (Xy aiB (af 2))) (k8 3 (tF aFZ) (zM (akd (iN TR (nA T.aF5) bI) (wo (abg (iN sv (af 3) fP) (AF (bt (tF Ti)))))) (EM aa1 (af 1) (aJz aUw hr G.o_ (vq (r? (nA T.alQ) (nA T.aF5)) 3))) (xT (BH Dq (lX uv)))))))
omit T in theorem X2:cy (VD "route") ["yard"] aek:=bE
def a0K(Dq:aCF wh)aaz:CQ (k+1) "tick" (awA j9 bR wh mW):=ug T.a27 X2 (t9 T.alQ (tQ (Td false) (nA T.alQ))) (LW (jr (Cp ajo (fY aa1))) (f5 1) (abD (Tc T.aSa (XK T.aFe)) (nA T.alQ) (aiH (Xy aa1 (af 1)) (xT (BH Dq (lX uv))))))
omit T in theorem aY6:asQ (aw ad2):=bE
def aY7(aFI:eY "check_points" kl)(acB:aPj fI):eT "throw" (adD bR kl fI):=Px T.a03 aY6 (lX aFI) (aiH (lX acB) (EM (nA T.av1) (af 1) (Od (LI (XK T.av1) b7) b7 b7)))
omit T in theorem aWQ:B0 (VC "steps" "step") "steps" (aw q0):=bE
def aWR:eT "unlock" (Zf bR):=BY T.aZs aWQ (LW (jr (af 1)) (f5 2) (xT (Xy auk oV)))
omit T in theorem Ha:aEf (aw alS):=bE
def Hb:eT "signal_of" (alE bR):=EL T.aUs Ha (tW (XK T.mI))
omit T in theorem aWS:aEf (aw amo):=bE
def PH:eT "way_of" (al2 bR):=EL T.aZt aWS (tW (XK T.mI))
omit T in theorem aSi:B0 (VC "signal" "place") "signal" (aw kb):=bE
def aSj aoD:eT "is_at_border" (alA bR Di):=JM T.aSW aSi (XK T.ky) (dK (V2 fA Qe oV 2))
omit T in theorem aSk:B0 ["yard","train","head","place"] "train" (aw acG):=bE
def aSl aoC:eT "signal_ahead" (avF cY bR Dg):=JM T.aSX aSk (tW (Tc T.YK (af 1))) (rT 3 (mZ (EX oV (V2 Tf Qe oV 2))) (qY (o? G.hu) (af 3) (nA T.ky) (dK (aBi (aGL G.hu) (nA T.ky) (fD 3)))) (Ig fP))
omit T in theorem aTf:B0 ["yard","signal","name","train"] "signal" (aw acZ):=bE
def aTg aOw:eT "train_near" (mx bR acC):=ug T.aTV aTf (TA (I7 (awX aa2) (BG (XZ (MY AB))) (abD (Lf alB 3) (af 1) (dK (af 2))))) (Ig fP)
omit T in theorem aSm:B0 (VD "name") "name" (aw acH):=bE
def aSn:eT "train_called" (avG gk bR):=HP T.aSY aSm Š (af 1) aa2 akJ (dK (XK T.aEO))
omit T in theorem aS5:aEf (aw acN):=bE
def aS6(fw:aCr FU):eT "check_route" (aFl gk bR FU):=BY T.aTp aS5 (ahF (bt (Rn fw (nA T.mI) 1)) akJ)
omit T in theorem aS7:asQ (aw acO):=bE
def aS8(fw:aCr FU):eT "check_piece" (aFm gk bR FU):=BY T.aTq aS7 (ahF (bt (Rn fw Qe 1)) akJ)
omit T in theorem aSB:asQ (aw acI):=bE
def aSC(NN:aBS FY)(ac6:arV k Zb):eT "check_points" (avH gk bR FY Zb):=Px T.aSZ aSB (lX NN) (ahF (bt (D9 ac6 hr G.o_ (fY (XK T.avg)))) akJ)
omit T in theorem aSD:B0 (VD "signal") "signal" (aw acJ):=bE
def aSE(fw:aCr FU):eT "check_signal" (m4 gk bR FU):=BY T.aS0 aSD (ahF (bt (Rn fw (nA T.ky) 1)) akJ)
omit T in theorem aSF:cy ["things","number"] ["things","number"] mi:=bE
def aSG:eT "is_number_of" dE:=EL T.aS1 aSF (ayl (p! aKr (af 1) bI) (aeF (p! aeq (af 1) (r4 0))))
omit T in theorem a8B:asQ (aw acA):=bE
def a8C azZ:eT "check_not_held" (avx fo bR dA):=HP T.a8H a8B (o? G.hu) (af 1) auk auE (B3 sv (akY aFh hr (fD 1)) fP auE)
omit T in theorem aVv:at4 ["yard","name","train","last","shut"] (aw Tp):=bE
omit T in theorem aSe:jI EU:=ez
omit T in theorem yA:jI ["route","yard","shut"]:=ez
def aVw afE(aF6:aDj k aGe)aoD(aFE:aBT k aFD)(aGz:aDx k aGp)(ado:ar6 k Zg):eT "way_out" (av8 cY bR v_ aGe Di aFD aGp Zg):=aji T.Pm aVv 2 FT (rT 3 (LU aF6 2) (CL (V2 fA Qe (eB 3) 3) (dK Co)) (k8 4 (ajg aFE (af 1) (Q4 (Nh (aw Tp) ["yard","name","train","last","shut"] EU) (jr (V3 T.NM)) (jY (cL aSe).nd) (ajn (cL aSe).hu))) (dK (ajg aGz (af 3) (I1 (Qv (aw Tp) ["yard","name","train","last","shut"] ["route","yard","shut"] [none,WV,some 4]) (avz T.mM (fY (PO (nA T.mI)))) (jY (cL yA).nd) (zx (bt (D9 ado hr (cL yA).o_ (D! (af 1) (Lr (fD 2)))))))))))
omit T in theorem aS9:cy ["yard","name","ahead","shut","piece","locked"] (aql "ahead") acP:=bE
def aTa(aTb:Uj z k bR "lock_of" 2 aFw)azZ:aBT (k+1) (alw bR aFw dA):=Cs T.aTr aS9 3 zv (WS (P0 (fY (PO Qe)) (f5 4) (k8 5 (ayl (p! sv (akY aTb hr (fD 4)) fP) (aeF (p! Š (af 4) (af 2)))) (Ĵ (TG (bt (af 5)) (AF (iN Š (akY aFh hr (fD 4)) (mZ (vq fP 1))))) (IM (af 3) (fD 4))))) (uj (af 3)))
omit T in theorem aUx:cy asN asN lx:=bE
omit T in theorem aFF:jI ["step","pieces"]:=ez
def aUy aaz:ar6 (k+1) (Tn mW):=EL T.aVj aUx (p! (q7 G.hu) (PO (I1 (WU (aw lx) asN ["step","pieces"] 2) (jr (lX uv)) (jY (cL aFF).nd) (zx (iN (o? (cL aFF).hu) (V4 (cL aFF).hu) (af 1))))) bI)
omit T in theorem aUz:cy ["yard","last","usable","reached","seen","further","end","taken","route","step"] (as3 "last") adj:=bE
def aUA(aF7:aDg k aGf)aaz aoD:aDx (k+1) (alP bR aGf mW Di):=Cs T.aVk aUz 3 (vZ (Hq (EX (af 1) Co))) (rT 4 (aXQ (mZ (Qx (eB 1) 1)) ke (aq9 (Nat.add_le_add_left a_ _) G.hu)) (aXO 1000 G.own (bt (af 3)) (rT 5 zv (PZ (af 3) (BG (Av (f5 6) (Av (f5 7) AB))) (LW (jr (EA aF7 (af 6) 2)) (f5 8) (rT 9 (U6 (Lf uv 8) (ZL bI)) (CL (V2 fA Qe (eB 9) 9) (dK (ŧ (af 7) (fD 8)))) (B3 Š (mZ (Qx (eB 9) 9)) (af 4) (mP (BO (af 4) (mZ (Qx (eB 9) 9)) ke) (IM (af 5) (Hq (EX (af 9) (ŧ (af 7) (fD 8)))))))))) (WQ 3 (af 5)))) (Ig fP))
omit T in theorem Hc:cy ["yard","end","usable","beyond","found","route","first"] (as3 "end") adb:=bE
def He aoC aaz(ado:ar6 k Zg):aDg (k+1) (alG bR Dg mW Zg):=Cs T.aUt Hc 3 (V2 Tf Qe (eB 1) 1) (rT 4 zv (PZ (af 2) (f5 5) (k8 6 (tW (Lf uv 5)) (Ĵ (yD (LI (mZ (Qx (eB 6) 6)) (mZ (Qx (af 3) 1))) (wo (bt (ajg ado (af 5) (vZ (BK 1)))))) (IM (af 4) (fD 5))))) (dK (uj (af 4))))
omit T in theorem aY8:cy ["yard","name","signal","route","train"] as6 ad3:=bE
def aY9(aFJ:En (k+1) "check_signal" km)aNu(ac2:aqP (k+1) Y_)(aUa:In z k "Train" cY 1 aFR)(acT:aqJ (k+1) Y6):tO (k+2) "enter" (awu fo gk cY bR km JU Y_ aFR Y6):=Px T.a04 aY8 (tF aFJ) (oQ (ah8 (bt (tF Ti)) (jE (NL T.aFj hr (jd (X4 (jd uw)))))) (qY (o? G.hu) (af 1) aa2 auE) (k8 3 (EA ac2 (af 1) 2) (rT 4 (aXZ aUa hr G.o_) (De (EA acT (af 4) 3)) (EM aa2 (af 1) (af 4)))))
omit T in theorem a43:at4 ["yard","name","train","head"] (aw ZZ):=bE
def a44 afE(adv:eY "come_on" Zi)aoD(acT:aqJ k Y6)(ac2:aqP k Y_)aOw:eT "go" (anh i6 cY bR v_ Zi Di Y6 Y_ acC):=aji T.a53 a43 2 FT (rT 3 (tW akh) (CL (V3 T.alK) (jE (NL T.anD hr (jd (yu (af 1) (jd uw)))))) (zM (bt (V3 T.NM)) (xT (tF adv)) (zM (bt (V2 fA Qe (eB 3) 3)) (jE (acw T.alK (af 2) ke)) (xT (ajg acT (af 2) (ajg ac2 (af 1) (tF alB)))))))
omit T in theorem a0L:at4 (aql "train") (aw ael):=bE
def a0M afE:eT "draw" (awB fo cY bR v_):=aji T.a28 a0L 2 FT (oQ (BN (yD (Yd (PO akh)) (wo (Zd (bt (V3 T.alK))))) auE) (De (a2R PySem.F.slot_list_pop PySem.F.type_list_pop a0s akh)) (abD (PO akh) bI (xT (Xy aa2 (af 1)))))
omit T in theorem a0N:at4 ["yard","name","train","fall"] (aw ZI):=bE
omit T in theorem aIm:jI EU:=ez
def a0O afE(Dq:aCF wh)(axC:CQ k "turned" axj):eT "turn" (awC j9 i6 cY bR v_ wh axj):=aji T.a29 a0N 2 FT (HE (CL (V3 T.alK) (jE (NL T.anD hr (jd (yu (af 1) (jd uw)))))) (De (BH Dq (V3 T.NM))) (acw T.NM (af 2) zv) (acw T.YK (af 2) (acv true (Nh (aw ZI) ["yard","name","train","fall"] EU) G.calm (a2x akh T.aVi) (jY (cL aIm).nd) (p5 _ Y8) (Cw (D9 axC hr (cL aIm).o_ (fD 0))))) (jE (TA (I7 (a0E aa1) (f5 3) (abD (Tc T.av4 (af 3)) (af 1) (jE (acw T.av4 (af 3) fP)))))))
omit T in theorem aTh:cy ["yard","name","signal","route","fall"] as6 ac0:=bE
def aTi(Ti:eY "is_at_border" JU)(Dn:aDf v!):aqP (k+1) (acU j9 i6 bR JU v!):=HP T.aTW aTh F! (af 2) fP (jE (NL T.anD hr (jd (yu (af 1) uw)))) (Ļ (o? G.hu) (af 2) aiB (dK (aqE T.aFf (af 2))) (TA (I7 (awX aa1) (BG (MY (Av (f5 4) AB))) (Ĵ (yD (LI (Lf Dn 3) (af 2)) (wo (abg (LI (Tc T.av4 (af 4)) (af 1)) (AF (bt (tF Ti)))))) (dK (af 3))))) (jE (NL T.anD hr (jd (yu (af 1) (jd (X4 uw)))))))
omit T in theorem aSQ:cy aEe aEe acQ:=bE
def DD(Dn:aDf v!)aaz(adv:eY "come_on" Zi):aqJ (k+1) (lj cY bR v! mW Zi):=Px T.aTs aSQ (B1 G.hu aiB (tF Dn) fP) (oQ (De (B1 G.hu aa1 (af 2) fP)) (acw T.NM (af 1) (Cp (aRF true) (fY (tF uv)))) (auF adv))
omit T in theorem aVx:B0 (VC "train" "step") "train" (aw adx):=bE
def aVy(Dq:aCF wh):eT "come_on" (av6 cY wh):=JM T.aW8 aVx (adg PySem.F.slot_list_pop PySem.F.type_list_pop aWl (Tc T.NM (af 1)) (EZ bI)) (aiH (BH Dq (vZ (fD 2))) (xT (adg PySem.F.slot_list_insert PySem.F.type_list_insert aU5 (Tc T.YK (af 1)) (vq bI 2))))
omit T in theorem aWT:cy agN agN adK:=bE
def aWU:eT "_law_cell" awd:=ug T.aZu aWT (CL (af 0) (dK (vN 0 (uo df (af 1) (r4 0))))) (Ig bI)
omit T in theorem aZa:cy ["_law_script","_law_k","_law_number"] agN ad4:=bE
def aZb(axD:eY "_law_cell" axk):eT "_law_mix" (vi axk):=JM T.a05 aZa (ND (abf (lX axD) P! bI abT)) (k8 2 (ND (tQ P! (af 2))) (dK (ND (uo (Td false) (tQ P! (tQ iq (af 2))) (af 2)))))
omit T in theorem aUB:cy aMP aMN kd:=bE
omit T in theorem avU:jI ["_law_k","_law_at","_law_joint","_law_pieces_here"]:=ez
def aG9:au9 (k+1) 3 (oI):=ug T.aVl aUB (al1 false 3 (Qv (aw kd) aMP ["_law_k","_law_at","_law_joint","_law_pieces_here"] [none,qB,some 2,WV]) G.calm G.nd (avz T.mM (fY (r4 0))) (jY (cL avU).nd) (zx (akd (Jg (p_ (cL avU).hu)) (wo (iN (o? (cL avU).hu) (af 2) (NB (YF (cL avU).hu (af 3) (af 0))))))) (λ_ _ _ _=>(af 0)) cI) (dK (Od (bt (af 3)) (eB 3) fP))
omit T in theorem aUC:cy as8 aL4 NT:=bE
omit T in theorem aR0:jI arU:=ez
omit T in theorem aR1:jI aLV:=ez
omit T in theorem wa:jI arU:=ez
def aUD aoO:eT "_law_pieces" (avZ fi):=JM T.aVm aUC zv (k8 3 Co (oQ (U5 4 bI) (P0 (fY (r? bI (ND (lX sL)))) (f5 5) (k8 6 (BH sL (r? abT (af 5))) (rT 7 zv (P0 (fY (r? bI (avi aHt T.aLE aJy (fY (p! aeq (auA 6) bI))))) (f5 8) (rT 9 (BH sL (r? (abf abT P! bI (af 5)) (af 8))) (al1 false 10 (WU (aw NT) as8 arU 7) G.calm G.nd (jr (af 3)) (jY (cL aR0).nd) (zx (Jg (avY (cL aR0).hu))) (λ_ _ _ _=>(af 0)) cI) (zM (akd (bt (af 10)) (wo (iN aeq (auA 9) (LQ (ō bI bI bI) (af 8))))) (IM (af 7) (fY (vN 10 (uo df (tQ iq (af 9)) (FQ (aHM G.calm) T.aLF aJw (EX bI (r4 10))))))) (aiH (aO8 aQ5 (af 7) (fY (ND (abf (BH sL abT) P! bI (af 4))))) (WQ 4 (tQ (Td false) (af 4))))))) (k8 3 (r? (I1 (WU (aw NT) as8 aLV 3) (jr (af 7)) (jY (cL aR1).nd) (zx (Jg (avY (cL aR1).hu)))) (I1 (WU (aw NT) as8 arU 7) (jr (af 3)) (jY (cL wa).nd) (zx (Jg (avY (cL wa).hu))))) (IM (af 2) (fY (r? (mZ (fY (LQ (Ō b7 b7) (tQ aJl (r4 7))))) (avi aT8 T.a02 aWM (fD 7))))))))) (dK (uj (af 2)))))
omit T in theorem aUb:cy ["_law_script","_law_base","_law_pieces_here","_law_found","_law_at","_law_joint","_law_number","_law_border","_law_shift"] aL8 ade:=bE
def aUc aoO aau:aCs (k+1) (avT fi q8):=Cs T.aUu aUb 3 zv (mP (P0 (fY (r4 2)) (f5 4) (LW (aKs (NB (vN 2 (af 4)))) (f5 5) (Mq 6 (BH sL (r? (abf (af 1) P! bI (af 4)) (r4 3))) 7 (p! F! (ajm eh (af 2) (af 4) 5) fP) (Ĵ (TG (Yd (auA 6)) (AF (akd (bt (af 7)) (wo (Yd (auA 6)))))) (IM (af 3) (Hq (vq (af 5) 4))))))) (k8 8 (uo df (BH sL abT) (r? bI (r4 3))) (dK (SD (r? (SD (af 3) (NR (af 8)) Tl) (SD (af 3) Tl (NR (af 8)))) Tl (NR bI)))))
omit T in theorem aWV:cy arJ arJ pb:=bE
omit T in theorem aHa:jI aLU:=ez
def aWW:eT "_law_outs" awe:=HP T.aZv aWV (q7 G.hu) (eB 0) b7 (dK (I1 (akB (aw pb) arJ aLU) (aKs (NB (af 0))) (jY (cL aHa).nd) (zx (Jg (p_ (cL aHa).hu))))) (dK (Od (LI (af 1) (eB 0)) (vZ (Qx (eB 0) 0)) (vZ (BK 0))))
omit T in theorem aIn:cy aMS aMR amq:=bE
omit T in theorem aHb:jI ĩ:=ez
def aWX(aZc:eY "_law_outs" axl)aau(axE:aqp k 5 Zn):aqp (k+1) 5 (aGF axl q8 Zn):=Cs T.aIY aIn 5 zv (Ļ (o? G.hu) (af 3) (Q4 (Nh (aw amq) aMS ĩ) (jr (af 2)) (jY (cL aHb).nd) (ajn (cL aHb).hu)) (dK (uj (af 5))) (PZ (Rn aZc (vN 0 (af 3)) 4) (f5 6) (Mq 7 (ŧ (af 2) (Hq (L0 (af 3) (af 4) 6))) 8 (EA eh (af 3) 6) (zM (abg (iN F! (af 8) fP) (AF (iN (o? G.hu) (mZ (vq (af 6) 8)) (af 1)))) (IM (af 5) (fD 7)) (WQ 5 (uo (Td true) (af 5) (PB axE (af 1) (L0 (af 7) (af 8) 6))))))) (dK (uj (af 5))))
omit T in theorem aUE:cy ["_law_pieces_here","_law_signals_here","_law_found","_law_k"] aPo Zh:=bE
omit T in theorem aTj:jI ["_law_way","_law_k"]:=ez
def aUF(axE:aqp k 5 Zn):eT "_law_routes" (aFS Zn):=JM T.aVn aUE Co (WS (P0 (fY (r4 1)) (f5 3) (WQ 2 (r? (af 2) (Q4 (WU (aw Zh) ["_law_pieces_here","_law_signals_here","_law_found","_law_k"] ["_law_way","_law_k"] 3) (jr (PB axE (af 1) (Ŏ Co (tW (vN 1 (af 3))) (tW (vN 1 (af 3)))))) (jY (cL aTj).nd) (Cw (mZ (vq (af 1) 0))))))) (af 2))
omit T in theorem aZd:cy aMa aL7 ZA:=bE
omit T in theorem aGA:jI ["_law_piece"]:=ez
def aZe(aGB:eY "_law_routes" aGn):aDy (k+1) (awv aGn):=ug T.a0J aZd (al1 true 3 (Nh (aw ZA) aMa ["_law_piece"]) G.calm G.nd (jr (af 0)) (jY (cL aGA).nd) (p5 _ Y8) (Cw (Od (iN (q7 (cL aGA).hu) (V4 (cL aGA).hu) b7) b7 fP)) cI) (k8 4 (am4 (yF (af 0) (yF (af 1) (yF (af 2) (yF (af 3) (yF Co (yF bI am3))))))) (HE (akR (lX aGB)) (akR (uo (aRM true) (vZ (EZ fP)) (r4 0))) (akR ZC) (akR ZC) (dK (af 4))))
omit T in theorem aTk:cy aMM Sy ik:=bE
omit T in theorem a6K:jI aDR:=ez
omit T in theorem aRW:jI ĩ:=ez
def aTl:eT "_law_train_in" my:=ug T.aTX aTk (TA (al1 false 2 (Qv (aw ik) aMM aDR [none,qB,WV]) G.calm G.nd (amD (fE 0)) (jY (QL).nd) (zx (iN (o? (QL).hu) (af 1) (acv false (alb.of (sc:=(ayn _ (aw ik))) aDR ĩ xB rfl (aWL BD rfl) ez) (QL).calm (jr (YF (QL).hu (YF (QL).hu (YF (QL).hu (af 2) b7) (af 0)) bI)) (jY (aAe (QL).o_ aRW).nd) (p5 _ Y8) (ajn (aAe (QL).o_ aRW).hu)))) (λ_ _ _ _=>(af 0)) cI)) (dK (Od (bt (af 2)) oV fP))
omit T in theorem PQ:cy Sy Sy ra:=bE
def aWY(aF0:eY "_law_train_in" aFT):eT "_law_held" (awf aFT):=EL T.aZw PQ (aLD (p! sv (XD 0) fP) (aeF (p! sv (lX aF0) fP)))
omit T in theorem aWZ:cy L_ L_ pd:=bE
omit T in theorem aHc:jI ["_law_lock","_law_route"]:=ez
def aW0:eT "_law_free" awg:=BY T.aYX aWZ (EM (af 0) b7 (acv true (akB (aw pd) L_ ["_law_lock","_law_route"]) G.calm (jr (fE 0)) (jY (cL aHc).nd) (p5 _ Y8) (Cw (Od (Jg (q7 (cL aHc).hu)) fP (af 0)))))
omit T in theorem aZf:cy aLL L_ si:=bE
omit T in theorem aGm:jI ["_law_step","_law_world"]:=ez
def aZg aOb:eT "_law_set" (ama adG):=JM T.X1 aZf (akC 0) (oQ (CL (FQ (aHQ G.calm) T.aK7 aJx (fY (Q4 (WU (aw si) aLL ["_law_step","_law_world"] 0) (jr (af 2)) (jY (cL aGm).nd) (Cw (D9 al8 hr (cL aGm).o_ (EX (af 1) (V4 (cL aGm).hu))))))) kF) (abR (af 2) (mP (BO (fE 0) (eB 3) (af 1)) (k8 4 (H8 0 (eB 3)) (abD (eB 4) b7 (EM (fE 0) (eB 3) (LQ (Ō b7 b7) (avi aHt T.aLE aJy (fY (p! (o? G.hu) (eB 4) (NB (af 3))))))))))) (mP (BO (af 0) b7 (ŧ (fE 0) (fD 1))) kF))
omit T in theorem aW1:cy ["_law_world","_law_signal","_law_joint","_law_at","_law_found","_law_name","_law_train","_law_head"] aqI adR:=bE
def aW2:eT "_law_near" awh:=ug T.aYY aW1 (aer (XD 0) (BG (XZ (MY AB)))) (rT 4 zv (TA (I7 (amD (fE 0)) (f5 5) (Mq 6 (H8 0 (af 5)) 7 (tW (eB 6)) (Ĵ (yD (LI (eB 6) Co) (yD (Zd (bt (eB 6))) (yD (LI (eB 7) (af 2)) (wo (iN (p_ G.hu) (eB 7) (af 3)))))) (IM (af 4) (fD 5)))))) (dK (uj (af 4))))
omit T in theorem aUG:cy aMQ L_ Zc:=bE
omit T in theorem wb:jI aqg:=ez
def aUH aOc aau aOd:eT "_law_cancel" (ac1 adH q8 adI):=HP T.aVp aUG Š (af 1) (fE 0) kF (oQ (BO (af 0) b7 (I1 (akB (aw Zc) aMQ aqg) (jr (fE 0)) (jY (cL wb).nd) (zx (Jg (p_ (cL wb).hu))))) (aer (H8 0 (akC 0)) (BG (XZ (MY AB)))) (k8 4 (BH al9 (akC 0)) (rT 5 (p! F! (ajm eh (fE 0) (af 3) 2) fP) (acp (akd (iN TR (fE 0) bI) (wo (abg (bt (af 4)) (AF (bt (af 5)))))) (EM (fE 0) (af 1) (mZ (L0 (uo (Td false) (fE 0) (fE 0)) (af 4) 5))) (auF amj)) kF)))
omit T in theorem aWO:cy L_ ["_law_world"] adS:=bE
def aXA aOd:aDk (k+1) (awi adI):=ug T.aYZ aWO (BO (af 0) b7 (tQ (Td false) (fE 0))) (mP (PZ (Cp ajo (ags 0)) (f5 1) (B3 aKq (akC 0) (fE 0) (aiH (Xy (fE 0) (af 1)) (auF amj)))) kF)
omit T in theorem aVz:cy Sy Sy ady:=bE
def aVA aOb:eT "_law_throw" (adh adG):=HP T.aW9 aVz (q7 G.hu) (akC 0) b7 kF (oQ (CL (lX al8) kF) (W6 (U6 (am4 (yF b7 (yF b7 am3))) (XD 0))) kF)
omit T in theorem Qb:cy aMb aL9 Zt:=bE
omit T in theorem aHd:jI aqg:=ez
def aXB:arS (k+1) (al3):=ug T.aY0 Qb (abR (r? (fE 0) (Cp ajo (ags 0))) (abD (ag4 0 (af 3)) (af 1) (k8 4 (aw2 G.hu (fE 0) (af 3) (mZ (ō bI (vZ (fD 2)) ke))) (Ĵ (TG (bt (eB 4)) (AF (iN (o? G.hu) (af 2) (eB 4)))) (oQ (BO (af 0) b7 (I1 (WU (aw Zt) aMb aqg 3) (jr (fE 0)) (jY (cL aHd).nd) (zx (Jg (p_ (cL aHd).hu))))) (De (B1 G.hu (fE 0) (af 3) fP)) (rT 5 (Cp ś (fY (ag4 0 (af 3)))) (BO (fE 0) (tW (eB 5)) fP) (dK (af 5)))))))) (Ig fP)
omit T in theorem aVB:cy ["_law_world","_law_name","_law_signal","_law_joint","_law_at","_law_way"] aMz oT:=bE
def aVC aau(ad0:arS k Zo):aB9 (k+1) (av7 q8 Zo):=ug T.aXa aVB (aer (H8 0 (af 2)) (BG (MY (Av (f5 4) AB)))) (Ļ sv (ajm eh (fE 0) (af 4) 3) fP kF (qY (o? G.hu) (af 1) (fE 0) kF) (k8 5 (EA ad0 (af 2) 1) (Ļ F! (af 5) fP kF (W6 (aiK (SD (af 5) Tl (NR bI)) (NB (af 5)) ke)) kF)))
omit T in theorem a0P:cy ["_law_world","_law_name","_law_train","_law_head","_law_at","_law_way"] ę aem:=bE
def a0Q aau(ad0:arS k Zo):eT "_law_go" (awD q8 Zo):=JM T.a3a a0P (XD 0) (k8 3 (tW oV) (oQ (CL oV kF) (qY (p_ G.hu) oV Co (oQ (BO (fE 0) (tW (tW oV)) fP) (W6 (aiK (r? (SD oV Tl (NR bI)) oV) (NB oV) ke)) kF)) (k8 4 (V2 eh (fE 0) (eB 3) 3) (HE (qY F! (af 4) fP (mP (W6 (aiK oV Co ke)) kF)) (U5 5 fP) (qY (o? G.hu) (mZ (vq (eB 3) 4)) (fE 0) (WQ 5 (EA ad0 (aBi (aGL G.hu) (fE 0) (Hq (vq (eB 3) 4))) 1))) (qY F! (af 5) fP kF) (mP (W6 (aiK (r? (SD (af 5) Tl (NR bI)) oV) (NB (af 5)) ke)) kF)))))
omit T in theorem aXC:cy (aqv "_law_name" "_law_train") ę rh:=bE
def aXD:eT "_law_draw" awj:=JM T.aY1 aXC (XD 0) (oQ (BN (yD (Yd (FQ acr T.acz cm (BK 2))) (wo (Zd (bt oV)))) kF) (W6 (vZ (r5 (SD oV Tl (NR (ZL bI))) oV (BK 2)))) (mP (qY (q7 G.hu) (FQ acr T.acz cm (BK 2)) bI (xT (Xy (fE 0) (af 1)))) kF))
omit T in theorem aXE:cy ["_law_world","_law_name","_law_train","_law_step","_law_steps","_law_route","_law_fall"] ę Tr:=bE
omit T in theorem av5:jI ĩ:=ez
omit T in theorem aHe:jI aL6:=ez
def aXF:eT "_law_turn" awk:=JM T.aY2 aXE (XD 0) (HE (CL oV kF) (abR oV (EM (fE 0) (eB 3) fP)) (al1 false 4 (Nh (aw Tr) ["_law_world","_law_name","_law_train","_law_step","_law_steps","_law_route","_law_fall"] ĩ) G.calm G.nd (jr (a0G false oV (NR (ZL bI)))) (jY (cL av5).nd) (p5 _ Y8) (Cw (mZ (Ŏ (V4 (cL av5).hu) (V4 (cL av5).hu) (V4 (cL av5).hu)))) cI) (W6 (aiK (af 4) Co ke)) (mP (PZ (Cp ajo (ags 0)) (f5 5) (k8 6 (H8 0 (af 5)) (EM (fE 0) (af 5) (mZ (r5 (eB 6) (I1 (akB (aw Tr) ["_law_world","_law_name","_law_train","_law_step","_law_steps","_law_route","_law_fall"] aL6) (jr (eB 6)) (jY (cL aHe).nd) (zx (Jg (p_ (cL aHe).hu)))) (BK 6)))))) kF))
omit T in theorem aVD:cy ["_law_world","_law_word","_law_number","_law_name","_law_many"] agP adz:=bE
def aVE:aB7 (k+1) 4 (aGd):=Cs T.aXb aVD 4 (am4 (yF (CN 0) (yF (CN 0) (yF (CN 0) am3)))) (oQ (akR (CN 0)) (qY (o? G.hu) (af 1) (af 4) (dK (RF aKq aeq bI (af 2) (vN 4 (af 1))))) (dK (aLD (p! (q7 G.hu) (af 1) b7) (aeF (p! (o? G.hu) (af 3) (fE 0))))))
omit T in theorem aXG:cy agP agP adU:=bE
def aXH(awQ:aB7 k 4 aGX)(ax7:eY "_law_set" axV)(xa:eY "_law_cancel" aGo)(awR:eY "_law_throw" aGY)(awS:aB9 k aGZ)(axF:aDk k axm)(ayr:eY "_law_go" ayp)(axG:eY "_law_draw" axn)(axH:eY "_law_turn" axo):aDd (k+1) 4 (awl aGX axV aGo aGY aGZ axm ayp axn axo):=ug T.aY3 aXG (ah8 (bt (Wc awQ (af 1) (af 2) 3)) kF) (HE (Yl (dK (tF ax7))) (Yl (dK (tF xa))) (Yl (dK (tF awR))) (Yl (dK (EA awS (af 3) 2))) (oQ (Yl (dK (LU axF 0))) (Yl (dK (Lf ayr 3))) (WS (Yl (dK (Lf axG 3))) (Lf axH 3))))
omit T in theorem aVf:cy ["_law_yard","_law_word","_law_number","_law_name","_law_kept","e"] aL5 amh:=bE
def aVg(aF8:eY "set_route" ac5)(axI:eY "cancel" adJ)(ax8:eY "throw" adY)(Hk:tO k "enter" adZ)(ays:CQ k "tick" aef)(aEz:eY "go" ZW)(ayt:eY "draw" aeg)(ayD:eY "turn" aeh)(aF9:aCu k aGj):aAd (k+1) 4 (aFU bj fo gk i6 ac5 adJ adY adZ aef ZW aeg aeh aGj):=ug T.aXc aVf (U5 4 fP) (WS (a2v 4 5 G.o_ T.a8G (λgi T! aG Gt=>(zM (Yo Wm) (RJ aF8 (Lr (fD 2))) (zM (Yo Wm) (RJ axI (Lr (fD 2))) (zM (Yo Wm) (RJ ax8 (Lr (fD 2))) (zM (Yo Wm) (RJ Hk (Lr (vq (af 3) 2))) (zM (Yo Wm) (RJ ays (fD 0)) (zM (Yo Wm) (RJ aEz (Lr (fD 3))) (zM (Yo Wm) (RJ ayt (Lr (fD 3))) (RJ ayD (Lr (fD 3)))))))))))) (Od (iN F! (af 4) fP) b7 (LU aF9 4)))
omit T in theorem aUd:cy ["_law_kept","_law_kinds"] ["_law_kept"] adf:=bE
def Hm:aCu (k+1) (aFB bj fo gk i6):=Cs T.aUv aUd 1 (vZ (EX (am5 [iE bj,My,Mz,MA] T.aW6 (af 0) T.alR T.aW5) (am5 [Mx,iE gk,Mz,MA] T.aVh (af 0) T.alR T.aVN))) (rT 1 (ŧ (af 1) (EX (am5 [Mx,My,iE fo,MA] T.a26 (af 0) T.alR T.a25) (am5 [Mx,My,Mz,iE i6] T.a41 (af 0) T.alR T.a40))) (BN (TG (Zd (bt (a0y [iE bj,iE gk,iE fo,iE i6] T.aTP (af 0) T.alR T.aTQ aSA))) (AF (iN (p_ G.hu) (aBh (aGK G.hu) (af 1) (EZ ke)) bI))) kF) (dK (LQ (r5 b7 b7 (Ō b7 b7)) (aBi (aGL G.hu) (af 1) (EZ ke)))))
omit T in theorem aSH:cy aMO aqI YO:=bE
omit T in theorem yB:jI ["_law_name"]:=ez
def aSI aau aOc:eT "_law_near_deeds" (avI q8 adH):=ug T.aS2 aSH (aer (XD 0) (BG (XZ (MY AB)))) (WS (qY F! (ajm eh (fE 0) (af 3) 2) fP (dK (vZ (Hq (Ŏ b7 (af 1) (LQ (r5 bI bI (ō bI bI bI)) (FQ (aHM G.calm) T.aLF aJw (EX bI (CN 0))))))))) (Q4 (Nh (aw YO) aMO ["_law_name"]) (jr (lX al9)) (jY (cL yB).nd) (Cw (mZ (L0 b7 bI 0)))))
omit T in theorem aXI:cy ["_law_script","_law_k","_law_world","_law_number","_law_names","_law_name","_law_some","_law_word","_law_many","_law_at","_law_route","_law_good"] aLW rn:=bE
def aXJ aoO(aFK:eY "_law_near_deeds" alI):aDh (k+1) (al4 fi alI):=aji T.aY4 aXI 3 sL (Mq 4 (Cp ajo (ags 2)) 5 (Od (bt (af 4)) (vN 4 (uo df ũ (r4 4))) bI) (Mq 6 (vZ (r5 b7 b7 (r5 b7 b7 (r5 b7 b7 (r5 b7 b7 (r5 b7 b7 (Ō b7 b7))))))) 7 (vN 6 Xg) (Mq 8 (am4 (yF (CN 2) (yF (CN 2) (yF (CN 2) am3)))) 9 (uo df (BH sL abT) (FQ (aWE G.calm) T.a42 a0x (EX bI (aw2 G.hu (af 8) (af 7) (CN 2))))) (HE (BN (yD (Yd (tQ df (af 3))) (wo (bt (fE 2)))) (Mq 10 (H8 2 (uo df ũ (CN 2))) 11 (abf (V1 aFK (af 2) (fY (ag4 2 (af 10)))) P! (vZ (Hq (ō b7 (af 10) bI))) Xg) (jE (CL (af 11) (dK (vN 11 (uo df ũ (r4 11)))))))) (BN (yD (bt (fE 2)) (yD (bt (af 4)) (wo (Yd (tQ df (af 3)))))) (dK (mZ (Ŏ (LQ (r5 b7 b7 (Ō b7 b7)) Xg) bI (vN 4 (uo df ũ (r4 4))))))) (BN (yD (LI (af 7) b7) (wo (bt (fE 2)))) (WQ 9 (H8 2 (uo df ũ (CN 2))))) (qY (q7 G.hu) (tQ df (af 3)) bI (k8 9 (LQ (Ŏ (ZL bI) (aw2 G.hu (af 8) (af 7) (CN 2)) (r? bI Xg)) Xg) (WQ 5 (LQ (ō (ZL bI) bI bI) Xg)))) (dK (mZ (Ŏ (af 7) (af 9) (Od (abg (iN (p_ G.hu) (af 7) b7) (AF (Yd (tQ df (af 3))))) (af 5) (LQ (r5 bI bI (EX bI (ZL bI))) Xg)))))))))
omit T in theorem aVO:cy ["_law_script","_law_pieces_here","_law_signals_here","_law_wait"] ô adA:=bE
def aVP(xb:En (k+1) "_law_pieces" aGq)(aGa:aCs (k+1) aGh)(sL:En (k+1) "_law_mix" fi)(Hn:aDy (k+1) axW)(aUI:In z k "Yard" bR 4 aGi):aBA (k+2) (aGg bR aGq aGh fi axW aGi):=Cs T.Ps aVO 1 (VF xb (EZ bI)) (Mq 2 (EA aGa bI 1) 3 (ND (VF sL (EZ bI))) (dK (mZ (EX (aJz aUI hr G.o_ (L0 (Cp ś (fD 1)) (Cp ś (fD 2)) 3)) (ajm Hn (af 1) (af 2) 3)))))
omit T in theorem aXK:cy ["_law_yard","_law_world","_law_word","_law_number","_law_name","_law_due"] ["_law_yard","_law_world","_law_word","_law_number","_law_name"] adW:=bE
def aXL(axJ:aDd k 4 axp)azw:aDe (k+1) 5 (aGr axp Ax):=Cs T.aY5 aXK 5 (V1 axJ (af 1) (L0 (af 2) (af 3) 4)) (dK (p! (q7 G.hu) (Wc F4 (af 2) (af 3) 4) (af 5)))
omit T in theorem aVQ:cy ["_law_yard","_law_name","_law_k"] ["_law_yard","_law_name"] adB:=bE
def aVR aOr azw:eT "_law_drawn" (av9 bR Y3 Ax):=ug T.Pt aVQ (P0 (fY (tQ aJl (PO (akY aFn hr (fD 1))))) (f5 2) (B3 (p_ G.hu) (Wc F4 b7 bI 1) b7 Fx)) Fx
omit T in theorem aUJ:cy ["_law_yard","_law_world","_law_name","_law_way","_law_train","_law_k","_law_route"] ["_law_yard","_law_world","_law_name","_law_way"] adk:=bE
def aUK azw(awr:eY "_law_drawn" aww)azZ:aBR (k+1) 4 (av0 bR Ax aww dA):=Cs T.aVq aUJ 4 (H8 1 (af 2)) (HE (P0 (fY (FQ acr T.acz cm (BK 4))) (f5 5) (B3 (p_ G.hu) (Wc F4 b7 bI 2) b7 Fx)) (PZ (af 3) (f5 6) (mP (BN (TG (Zd (bt (tF awr))) (AF (iN (p_ G.hu) (PB F4 b7 (Ō (af 6) bI)) b7))) Fx) (LW (avz T.mM (fY (PO (ag4 1 (af 6))))) (f5 5) (B3 (p_ G.hu) (Wc F4 b7 bI 2) b7 Fx)))) (ah8 (bt (tF awr)) Fx) (BN (yD (Zd (bt (eB 4))) (wo (iN (p_ G.hu) (Wc F4 b7 bI 2) b7))) Fx) (dK (ayl (p! (q7 G.hu) (Wc F4 b7 bI 2) b7) (aeF (p! (p_ G.hu) (akY aFh hr (fY (tW (tW (eB 4))))) (af 2))))))
omit T in theorem aVS:cy ["_law_script","_law_yard","_law_world","_law_k","_law_word","_law_number","_law_name","_law_others","_law_way"] ô Dp:=bE
omit T in theorem av2:jI ["_law_other","_law_yard","_law_others"]:=ez
def aVT{f fd}(D:Gx z.K "law" "law" Dp f fd)(awT:aBA k zi)aoO(axK:aDh k axq)(axL:aDe k 5 axr)aOr(awU:eY "way_out" aG0)(xf:aBR k 4 aGs):rf z.P z.w z.K z.mg z.base (lG z.P z.w) (k+1) f fd ô (Qr z.K 1 (aGk bR zi fi axq axr Y3 aG0 aGs)):=a3Z D aVS λ_ _ _ _ _ _ hr G=>(HE (aer (LU awT 0) (BG (Av (f5 1) (XZ AB)))) (P0 (fY (ND (VF sL (EZ bI)))) (f5 3) (mP (aer (EA axK (abf bI P! bI (af 3)) 2) (BG (Av (f5 4) (Av (f5 5) (Av (f5 6) AB))))) (ahF (bt (V1 axL (af 1) (r5 (af 2) (af 4) (vq (af 5) 6)))) Fx))) (U5 7 ZC) (TA (I7 (amD (fE 2)) (f5 6) (EM (af 7) (af 6) (wq aFn hr G.o_ (af 1) (fD 6))))) (mP (TA (I7 (amD (fE 2)) (f5 6) (rT 8 (Rn awU (af 1) 6) (De (Xy (af 7) (af 6))) (B3 sv (af 8) fP (mP (ah8 (bt (V1 xf (af 1) (L0 (af 2) (af 6) 8))) Fx) (jE (CL (FQ (aHQ G.calm) T.aK7 aJx (fY (a0C (Q4 (Qv (aw Dp) ["_law_script","_law_yard","_law_world","_law_k","_law_word","_law_number","_law_name","_law_others","_law_way"] ["_law_other","_law_yard","_law_others"] [none,qB,some 7]) (amD (af 7)) (jY (cL av2).nd) (Cw (p! (p_ (cL av2).hu) (wq aFn hr (cL av2).o_ (af 1) (fD 0)) (YF (cL av2).hu (af 2) (af 0)))))))) Fx))))))) Fx))
def aJZ:∀n,∃g,arB (3+n) 5 g/\ans n g
 |0=>⟨_,yv.bad T.Fu aHJ,λps ss way j a M ok hn _=>by rw[e9 ok.len]⟩
 |n+1=>by
  obtain⟨g,F,S⟩:=aJZ n;rw[Mc am1 (apw 1 1 _) (aSb T) aeO 2 "pieces_at" _ (aSc T am1) aTA (apv 3 _) (tJ T aeO) aTB (lW 2 "joints_out") (aTu T am1)];rw[Ci (aVu T (aTB.mono aB) (aTA.mono aB) F).trunc (a2B S)]
def aIZ:∀n,∃g,aqp (3+n) 5 g/\anE n g
 |0=>⟨_,yv.bad T.aIY aIn,λps ss way j a M ok hn _=>by rw[e9 ok.len]⟩
 |n+1=>by
  obtain⟨g,F,S⟩:=aIZ n;rw[bM am1 (lW 1 "_law_outs") (aWW T) aeO (au9 1 3 _) (aG9 T)];rw[Ci (aWX T (am1.mono aB) (aeO.mono aB) F).trunc (a2C (λp j M=>Sb.pb p j M) (λps n j M h=>Sb.kd ps n j M h) S)]
def a3b aom(F:Gx z.K "law" "law" Dp f fd):rf z.P z.w z.K z.mg z.base (lG z.P z.w) 40 f fd ô (aeZ z.K):=by
 rw[Le bQ aTE aYE (aJZ T fuel) gl AZ aYA (aIZ T fuel)];rw[PL axD (lW 1 "_law_cell") (aWU T) sL 2 "_law_mix" _ (aZb T axD.up) xb 3 "_law_pieces" (aUD T sL.up).trunc eh (au9 1 3 _) (aG9 T)];rw[Mc aGa (aCs 3 _) (aUc T sL.up eh.up).trunc aGB 21 "_law_routes" _ (aUF T AZ.up) Hn (aDy 22 _) (aZe T aGB.up) Th (apw 1 1 _) (aSb T)];rw[Mc alL (lW 2 "pieces_at") (aSc T Th.up) aFH 3 "check_joints" _ (aSv T alL.up) aFG (aCt 4 _) (aSt T aFH.up Th.up) aFp (lW 2 "check_signals") (a8J T Th.up)];rw[Mc aFY (lW 5 "check_yard") (aTw T aFG.up aFp.up) axN 21 "routes" _ (aXg T aFY.up aTE.up).trunc aUL (In z 22 "Yard" bR 4 _) (aTJ T axN.up) awT (aBA 24 _) (aVP T xb.up aGa.up sL.up Hn.up aUL.up)];rw[Mc al9 (lW 1 "_law_near") (aW2 T).trunc aFK 2 "_law_near_deeds" _ (aSI T eh.up al9.up) axK (aDh 3 _) (aXJ T sL.up aFK.up).trunc awQ (aB7 1 4 _) (aVE T).trunc];rw[PL aF0 (lW 1 "_law_train_in") (aTl T) al8 2 "_law_held" _ (aWY T aF0.up) ax7 3 "_law_set" (aZg T al8.up) amj (lW 1 "_law_free") (aW0 T)];rw[Mc xa (lW 2 "_law_cancel") (aUH T al9.up eh.up amj.up) awR 3 "_law_throw" _ (aVA T al8.up) ad0 (arS 1 _) (aXB T) awS (aB9 2 _) (aVC T eh.up ad0.up)];rw[PL axF (aDk 2 _) (aXA T amj.up) ayr 2 "_law_go" _ (a0Q T eh.up ad0.up) axG 1 "_law_draw" (aXD T) axH (lW 1 "_law_turn") (aXF T)];rw[PL axJ (aDd 4 4 _) (aXH T awQ.up ax7.up xa.up awR.up awS.up axF.up ayr.up axG.up axH.up) fw 1 "is_number_of" _ (aSG T) acS 2 "check_route" (aS6 T fw.up) uv (lW 1 "way_of") (PH T)];rw[iA NN (lW 2 "check_piece") (aS8 T fw.up) acV (aqC 1 1 _) (aSx T) aFq (aAc z 3 bR 2 _) (aSy T NN.up acV.up) acB (lW 4 "check_not_held") (a8C T aFq.up)];rw[PL ac6 (arV 1 _) (aT3 T) awP 2 "lie_for" _ (aVt T ac6.up) Dn 1 "signal_of" (Hb T) aF8 (lW 5 "set_route") (aTN T acS.up uv.up acB.up awP.up Dn.up)];rw[PL Tf (apv 3 _) (tJ T alL.up) alB 4 "signal_ahead" _ (aSl T Tf.up) aFZ 5 "train_near" (aTg T alB.up) fA (aAa 4 _) (aT1 T Tf.up)];rw[iA Ti (lW 5 "is_at_border") (aSj T fA.up) aUM (In z 1 "Fall" j9 3 _) (aTL T) Dq (lW 1 "unlock") (aWR T) axI (lW 6 "cancel") (aWP T acS.up Dn.up aFZ.up Ti.up aUM.up Dq.up uv.up)];rw[PL aFI (lW 3 "check_points") (aSC T NN.up ac6.up) ax8 5 "throw" _ (aY7 T aFI.up acB.up) aFJ 2 "check_signal" (aSE T fw.up) ac2 (aqP 6 _) (aTi T Ti.up Dn.up)];rw[Mc aUe (In z 1 "Train" cY 1 _) (aTz T) adv 2 "come_on" _ (aVy T Dq.up) acT (aqJ 3 _) (DD T Dn.up uv.up adv.up) Hk (tO 7 "enter" _) (aY9 T aFJ.up Ti.up ac2.up aUe.up acT.up)];rw[PL ays (CQ 2 "tick" _) (a0K T Dq.up uv.up) FT 1 "train_called" _ (aSn T) aEz 7 "go" (a44 T FT.up adv.up fA.up acT.up ac2.up alB.up) ayt (lW 2 "draw") (a0M T FT.up)];rw[Mc axC (CQ 1 "turned" _) (aXe T) ayD 2 "turn" _ (a0O T FT.up Dq.up axC.up) aF9 (aCu 1 _) (Hm T) F4 (aAd 8 4 _) (aVg T aF8.up axI.up ax8.up Hk.up ays.up aEz.up ayt.up ayD.up aF9.up)];rw[iA axL (aDe 9 5 _) (aXL T axJ.up F4.up) aR7 (Uj z 2 bR "where" 2 _) (aTe T acV.up FT.up) aF6 (aDj 1 _) (aTG T) aSR (Uj z 3 bR "lock_of" 2 _) (aSh T NN.up)];rw[iA aFE (aBT 4 _) (aTa T aSR.up aFq.up).trunc ado (ar6 2 _) (aUy T uv.up) aF7 (aDg 4 _) (He T Tf.up uv.up ado.up).trunc aGz (aDx 5 _) (aUA T aF7.up uv.up fA.up).trunc];rw[gv awU (lW 6 "way_out") (aVw T FT.up aF6.up fA.up aFE.up aGz.up ado.up) awr (lW 9 "_law_drawn") (aVR T aR7.up F4.up) xf (aBR 10 4 _) (aUK T F4.up awr.up aFq.up)];rw[pM aVr (aVT (k:=38) T F awT.up sL.up axK.up axL.up aR7.up awU.up xf.up) hj (axZ ej) (λp M=>Sb.Y9 p M) hc (∀ps ss,Sj->N_ (avO (avB bj (avC bj (Y4 ej)) ej) (avy bj ej)) [ic,mL]) (λps ss hg=>
  Sb.acX (Sb.acK hg (jb (Sb.acL (λps j M h=>Sb.To ps j M h) (by rw[e9 hg.fc]) hg.two (hg.qm p hp) (hg.once p hp))) hj) (Sb.acM hg hj))]
 have aYj:=Sb.adM hc aYE;rw[gv hm (aFL (vi awd)) (Sb.ad4 Sb.adK) hb (amF oI) (λps n j M h=>Sb.kd ps n j M h) s4 (ae9 (alz (Y4 ej))) (λps a x M h=>Sb.YM ps a x M h)]
 let C:eu:=⟨bR,j9,gk,fo,cY,i6⟩
 rw[L? pu (a4R (C:=C)) aEJ (a4P (C:=C)) ca (a4o (C:=C)) ti (aLo (C:=C) aEJ pu)];rw[L? aRK (a4S (C:=C) ti) aQR (a4Q (C:=C) aEJ aLl) bor (a3j s4) bd (a4O (C:=C) bor)];rw[L? eE (a4U (C:=C) s4) pa (a4r (C:=C) bd anA) co (λY=>a4s (C:=C) (Y:=Y) ayS) ps (λY=>a4t (C:=C) (Y:=Y) anA ae4 (co Y))];have A:awN C _ _ _ _ _ _ _ _:=⟨a4v aLm ae4 aRK (a4T aLl) anA,aYQ aLm anA (a4V eE) bd a4W ayS ae4,XB aQR aRK,a0R aLn bd pa a4p ps,a3k ayS ae4,a6o ca co bor ps pa (λM x hx=>Sb.aT5 (C:=C) hx) eE,a3l ca,a3m ca (λY=>a4n) a4q⟩;have he:=a4x a4w
 rw[iA Kn (∀Y,uZ->anz C Y _) (λY G=>a3n (C:=C) (λM W j w i x h=>Sb.adz h) (a7E G he aLp hb a4y a4z)) has (∀Y,uZ->aHm C Y _) (λY G=>Sb.aVM (C:=C) (jK:=bj) G A (λM n k hn hk=>Sb.adf (C:=C) (jK:=bj) T.a6y hn hk)) aE2 (∀Y,uZ->ayT C Y _) (λY G=>a3o (C:=C) G hm hb aLp) hQ (∀Y,uZ->ayJ C Y _ _ _ _ _) (λY G=>a4A (C:=C) G aEJ pu ca aQR aLn)];exact(aVr.imp λ_ _ _ _ h=>aWm (λns=>Sb.Dp (C:=C) ns (Sb.adA (C:=C) (Sb.NT hm) (Sb.ade hm hb) hm (λps ss wait M hg=>Sb.ka aYj hg wait M) (a4D (Sb.Zh aYA)) ns) hm aE2 (λY G=>Sb.adW (C:=C) G (Kn Y G) (has Y G)) (λY G=>(hQ Y G).TT) (λY G=>a59 (C:=C) G ca bor s4 ae4 (hQ Y G)) (λY G=>a4Z (C:=C) G (has Y G) (aff (C:=C) G (has Y G) (hQ Y G).TT) (hQ Y G).ti)) h).mono a_
universe zE
open Hd
def all_mk DX s9{mg:Str->gK}{fa:Addr}(X:K.In h)(G:h.Ns mainGlobals mg)(a65:mg "law" = kZ fa)(H:All facts K):
  ∃fd:FuncData,(∀kP GU,BindsTo s fd (rV [u]) [("_law_script",u)])/\∀base:Heap,att->arb mg->rf P w K mg base (lG P w) 40 fa fd ô (aeZ K):=by
 have T:Top K mg 44 31 68 56 80 292 172 271:=⟨auH (ja 0).a 5,auH (ja 2).a 6,auH (ja 3).a 7,auH (ja 4).a 8,xq (ja 0).a,xq (ja 2).a,xq (ja 3).a,xq (ja 4).a,⟨xq (ja 1).a,a5M (agt 9) (agt 10) (agt 11) (agt 12)⟩,akn (ja 0).xc 13 (ja 3).xc 14 (ja 2).xc 15 (ja 4).xc 16,akn (ja 0).xc 17 (ja 3).xc 18 (ja 2).xc 19 (ja 4).xc 20,akn (ja 0).xc 21 (ja 3).xc 22 (ja 2).xc 23 (ja 4).xc 24,akn (ja 0).xc 25 (ja 3).xc 26 (ja 2).xc 27 (ja 4).xc 28,akn (ja 0).xc 29 (ja 3).xc 30 (ja 2).xc 31 (ja 4).xc 32,⟨a_,a_,a_,a_,a_,a_⟩,(nL 33).fd (iS 42),(nL 33).fd (iS 43),(nL 36).fd (iS 44),(nL 36).fd (iS 45),(nL 36).fd (iS 46),(nL 39).fd (iS 47),(nL 39).fd (iS 48),(nL 39).fd (iS 49),(nL 39).fd (iS 50),(nL 39).fd (iS 51),(nL 39).fd (iS 52),(nL 39).fd (iS 53),(nL 39).fd (iS 54),(nL 39).fd (iS 55),(nL 39).fd (iS 56),Ch (iS 57),Ch (iS 58),Ch (iS 59),Ch (iS 60),Ch (iS 61),Ch (iS 62),Ch (iS 63),Ch (iS 64),Ch (iS 65),Ch (iS 66),Ch (iS 67),Ch (iS 68),⟨284,xq (iS 69)⟩,⟨280,xq (iS 70)⟩,⟨282,xq (iS 71)⟩,(bD 72:bK "joints_of" "joints_of" "joints_of" Y9).de X G,(bD 73:bK "pieces_at" "pieces_at" "pieces_at" To).de X G,(bD 74:bK "piece_beyond" "piece_beyond" "piece_beyond" YM).de X G,(bD 75:bK "is_border" "is_border" "is_border" lL).de X G,(bD 76:bK "joints_out" "joints_out" "joints_out" Za).de X G,(bD 77:bK "is_points" "is_points" "is_points" ac7).de X G,(bD 78:bK "lie_for" "lie_for" "lie_for" adw).de X G,(bD 79:bK "check_yard" "check_yard" "check_yard" acX).de X G,(bD 80:bK "check_pieces" "check_pieces" "check_pieces" acK).de X G,(bD 81:bK "check_joints" "check_joints" "check_joints" acL).de X G,(bD 82:bK "check_signals" "check_signals" "check_signals" acM).de X G,(bD 83:ar8 K (Δ 172) "Train.__init__" acY).aFg (V? 37) (V? 38) (xq (nL 36).a),(bD 84:bK "pieces_under" "pieces_under" "pieces_under" YN).de X G,(bD 85:bK "last_step" "last_step" "last_step" ac8).de X G,(bD 86:bK "turned" "turned" "turned" adL).de X G,(bD 87:bK "routes" "routes" "routes" adM).de X G,(bD 88:bK "ways_on" "ways_on" "ways_on" al5).de X G,(bD 89:ar8 K (Δ 271) "Yard.__init__" ka).aFg (V? 40) (V? 41) (xq (nL 39).a),(bD 90:ahu K (Δ 271) "lock_of" "lock_of" "Yard.lock_of" avN).me (nL 39).cl,(bD 91:ahu K (Δ 271) "train_in" "train_in" "Yard.train_in" la).me (nL 39).cl,(bD 92:ahu K (Δ 271) "where" "where" "Yard.where" avX).me (nL 39).cl,(bD 93:ar8 K (Δ 292) "Fall.__init__" ac9).aFg (V? 34) (V? 35) (xq (nL 33).a),(bD 94:bK "set_route" "set_route" "set_route" ada).de X G,(bD 95:bK "cancel" "cancel" "cancel" adN).de X G,(bD 96:bK "tick" "tick" "tick" aek).de X G,(bD 97:bK "throw" "throw" "throw" ad2).de X G,(bD 98:bK "unlock" "unlock" "unlock" q0).de X G,(bD 99:bK "signal_of" "signal_of" "signal_of" alS).de X G,(bD 100:bK "way_of" "way_of" "way_of" amo).de X G,(bD 101:bK "is_at_border" "is_at_border" "is_at_border" kb).de X G,(bD 102:bK "signal_ahead" "signal_ahead" "signal_ahead" acG).de X G,(bD 103:bK "train_near" "train_near" "train_near" acZ).de X G,(bD 104:bK "train_called" "train_called" "train_called" acH).de X G,(bD 105:bK "check_route" "check_route" "check_route" acN).de X G,(bD 106:bK "check_piece" "check_piece" "check_piece" acO).de X G,(bD 107:bK "check_points" "check_points" "check_points" acI).de X G,(bD 108:bK "check_signal" "check_signal" "check_signal" acJ).de X G,(bD 109:bK "is_number_of" "is_number_of" "is_number_of" mi).de X G,(bD 110:bK "check_not_held" "check_not_held" "check_not_held" acA).de X G,(bD 111:bK "way_out" "way_out" "way_out" Tp).de X G,(bD 112:bK "shut_pieces" "shut_pieces" "shut_pieces" acP).de X G,(bD 113:bK "is_clear" "is_clear" "is_clear" lx).de X G,(bD 114:bK "shortest" "shortest" "shortest" adj).de X G,(bD 115:bK "routes_on" "routes_on" "routes_on" adb).de X G,(bD 116:bK "enter" "enter" "enter" ad3).de X G,(bD 117:bK "go" "go" "go" ZZ).de X G,(bD 118:bK "draw" "draw" "draw" ael).de X G,(bD 119:bK "turn" "turn" "turn" ZI).de X G,(bD 120:bK "route_past" "route_past" "route_past" ac0).de X G,(bD 121:bK "pass_signal" "pass_signal" "pass_signal" acQ).de X G,(bD 122:bK "come_on" "come_on" "come_on" adx).de X G,(bD 123:bK "_law_cell" "_law_cell" "_law_cell" adK).de X G,(bD 124:bK "_law_mix" "_law_mix" "_law_mix" ad4).de X G,(bD 125:bK "_law_beyond" "_law_beyond" "_law_beyond" kd).de X G,(bD 126:bK "_law_pieces" "_law_pieces" "_law_pieces" NT).de X G,(bD 127:bK "_law_signals" "_law_signals" "_law_signals" ade).de X G,(bD 128:bK "_law_outs" "_law_outs" "_law_outs" pb).de X G,(bD 129:bK "_law_ways" "_law_ways" "_law_ways" amq).de X G,(bD 130:bK "_law_routes" "_law_routes" "_law_routes" Zh).de X G,(bD 131:bK "_law_new" "_law_new" "_law_new" ZA).de X G,(bD 132:bK "_law_train_in" "_law_train_in" "_law_train_in" ik).de X G,(bD 133:bK "_law_held" "_law_held" "_law_held" ra).de X G,(bD 134:bK "_law_free" "_law_free" "_law_free" pd).de X G,(bD 135:bK "_law_set" "_law_set" "_law_set" si).de X G,(bD 136:bK "_law_near" "_law_near" "_law_near" adR).de X G,(bD 137:bK "_law_cancel" "_law_cancel" "_law_cancel" Zc).de X G,(bD 138:bK "_law_tick" "_law_tick" "_law_tick" adS).de X G,(bD 139:bK "_law_throw" "_law_throw" "_law_throw" ady).de X G,(bD 140:bK "_law_pass" "_law_pass" "_law_pass" Zt).de X G,(bD 141:bK "_law_enter" "_law_enter" "_law_enter" oT).de X G,(bD 142:bK "_law_go" "_law_go" "_law_go" aem).de X G,(bD 143:bK "_law_draw" "_law_draw" "_law_draw" rh).de X G,(bD 144:bK "_law_turn" "_law_turn" "_law_turn" Tr).de X G,(bD 145:bK "_law_there" "_law_there" "_law_there" adz).de X G,(bD 146:bK "_law_done" "_law_done" "_law_done" adU).de X G,(bD 147:bK "_law_asked" "_law_asked" "_law_asked" amh).de X G,(bD 148:bK "_law_refusal" "_law_refusal" "_law_refusal" adf).de X G,(bD 149:bK "_law_near_deeds" "_law_near_deeds" "_law_near_deeds" YO).de X G,(bD 150:bK "_law_deed" "_law_deed" "_law_deed" rn).de X G,(bD 151:bK "_law_start" "_law_start" "_law_start" adA).de X G,(bD 152:bK "_law_both" "_law_both" "_law_both" adW).de X G,(bD 153:bK "_law_drawn" "_law_drawn" "_law_drawn" adB).de X G,(bD 154:bK "_law_driven" "_law_driven" "_law_driven" adk).de X G⟩;obtain⟨_,_,_,_,_,_,F⟩:=(bD 155:bK "law" "law" "law" Dp).avK X G a65;rw[Ci (λs u=>.of_eq rfl) (λbase _ _=>a3b (z:=⟨P,w,K,mg,base⟩) T F)]
universe Rw
universe zE
end
open PySem PySem.W PyProof.Rows
set_option maxRecDepth 100000 in
set_option maxHeartbeats 0 in
theorem PySem.Challenge.cw_signalbox_k31_whole_leads_out_holds : PySem.Challenge.rw_signalbox_k31_whole_leads_out.Holds := by
 refine PySem.W.holds_law Rw.a8t λa54=>?_
 refine PySem.W.holds_open (q:=Rw.Q) (loose:=Rw.ks) (Xt:=λs=>xlAt Rw.Q [] s && recOk [] s) (XP:=XL Rw.Q []) (Yf:=Hook.obs Rw.hk) (Ya:=Hook.val Rw.hk) (YP:=Hook.says Rw.hk) (N:=8962) (d:=⟨"law",L2.J2 Rw.Dp,L2.F5 Rw.Dp,L2.aw Rw.Dp,Rw.a7T⟩) (kwd:=[])
  (Hd.aZK (boot_open Rw.a7P rfl Rw.a6L) Rw.a75 Rw.a8d Rw.run Rw.aFN rfl) (Hook.of Rw.hk) (Hook.keeps Rw.hk) (λs e=>xl_of s (Bool.and_eq_true_iff.mp e).1) XL.keeps (by kernel_rfl) (by kernel_rfl) (by kernel_rfl) (λs e=>recFacts_of (Bool.and_eq_true_iff.mp e).2) (by kernel_rfl) a54 (by kernel_rfl) ⟨rfl,rfl,rfl,rfl,rfl,by kernel_rfl⟩ ?hw ?hc
 case hw=>w_witness2
 refine Hd.a2z (l:=PySem.Challenge.rw_signalbox_k31_whole_leads_out) (n:=63) (k:=40) (x := "_law_script") (fT:=λw=>L2.lG PySem.Challenge.rw_signalbox_k31_whole_leads_out.prog w) (sp:=L2.aeZ) rfl (by decide) (by kernel_rfl) ⟨rfl,by decide,by decide⟩ (λw mg fa h K iw H G YW=>Rw.all_mk iw G YW H) (λK H a ns _ _ hS=>⟨a,ns,rfl,hS,λ_=>rfl⟩) (λw H s e s' z=>by obtain⟨_,_,_,_,_,q⟩:=z; exact q)
