import PyProof.Rows.All
import Wide.All
import Wide.FinOn
import Open.Boot
import Open.Tree
import Open.Line
import KE.KTryMore
import KE.KIsAll
import KE.KFromBytes
import KE.KDictList
import KE.KDictOf
import KE.KItem
import Lean
import PyProof.EqAt
import PyProof.EqKinds
import PyProof.TupleCall
import PyProof.Rows.SetFrom
import PyProof.DictWalks
import KE.KRevIter
import KE.KRevSl
import PyProof.Rows.TupDisplay
import PySem.Challenge.RW_signalbox_k30_way_out
set_option Elab.async false
set_option linter.all false
set_option maxRecDepth 100000
set_option maxHeartbeats 4000000
noncomputable abbrev fh:=PySem.W.Frag
theorem aW {α:Type _}{a:α}{l:List α}:(a::l)[0]? = some a:=rfl
theorem aX {α:Type _}{a:α}{i:Nat}{l:List α}:(a::l)[i+1]? = l[i]?:=rfl
theorem bB {α β:Type _}{f:α->β}{a:α}{l:List α}:(a::l).map f=f a::l.map f:=rfl
theorem zD {α β:Type _}{f:α->β}:([]:List α).map f=[]:=rfl
theorem zE {α:Type _}{a:α}{l:List α}:(a::l).length=l.length+1:=rfl
theorem gx {α:Type _}:([]:List α).length=0:=rfl
theorem f9 {α:Type _}{a:α}{l m:List α}:(a::l)++m=a::(l++m):=rfl
theorem fz {α:Type _}{l:List α}:[]++l=l:=rfl
theorem eP {α:Type _}{l:List α}:l++[]=l:=by simp
theorem gI {α β:Type _}{f:α->β}{l:List α}{i:Nat}:(l.map f)[i]? = l[i]?.map f:=by simp
theorem d9 {α β:Type _}{f:α->β}{l:List α}:(l.map f).length=l.length:=by simp
section
namespace L2
open PySem PySem.Spec PyProof.Rows
noncomputable def inClass (s:Stmt) (j:Nat):Stmt:=match s with
 |.ClassDef _ _ _ body _ _ _ _ _ _ _=>body.getD j (.Pass ⟨0,0,0,0⟩)
 |_=>.Pass ⟨0,0,0,0⟩
noncomputable def Kn (s:Stmt):Arguments:=match s with
 |.FunctionDef _ a _ _ _ _ _ _ _ _=>a
 |_=>{ posonlyargs:=[],args:=[],vararg:=none,kwonlyargs:=[],kw_defaults:=[],kwarg:=none,defaults:=[]}
noncomputable def Gh (s:Stmt):List Stmt:=match s with
 |.FunctionDef _ _ b _ _ _ _ _ _ _=>b
 |_=>[]
noncomputable def aw (s:Stmt):Scope:=match s with
 |.FunctionDef _ _ _ _ _ _ sc _ _ _=>sc
 |_=>{ kind:=.function,names:=[],isGenerator:=false,isCoroutine:=false}
end L2
namespace Hd
open PySem PySem.W PySem.Calls PyProof.Rows
noncomputable def b7 (st:SharedT->Thread->Option (SharedT×Thread)) (m:Nat) (ann:Option Value):Nat->SharedT->Thread->Option SharedT
 |0,_,_=>none
 |n+1,s,t=>match through t with
  |true=>some s
  |false=>match stepOk m ann t with
   |false=>none
   |true=>match st s t with
    |some x=>b7 st m ann n x.1 x.2
    |none=>none
theorem f_ {tb:String->Option Builtin}{p:Program}{w:World}{m:Nat}{ann:Option Value}:∀{n:Nat}{s s':SharedT}{t:Thread},
  b7 (stepT (denote tb) p w) m ann n s t=some s'->topRun tb p w m ann n s.abs t=some s'.abs
 |0,_,_,_,h=>by cases h
 |n+1,s,s',t,h=>by
  unfold b7 at h;unfold topRun;cases ht:through t with
  |true=>rw[ht]at h;cases h;rfl
  |false=>
   rw[ht]at h;cases hk:stepOk m ann t with
   |false=>rw[hk]at h;cases h
   |true=>
    rw[hk]at h;cases hs:stepT (denote tb) p w s t with
    |none=>rw[hs]at h;cases h
    |some x=>
     rw[hs]at h;rw[stepT_spec hs];exact f_ h
noncomputable def bw (p q:Program) (loose:List Str) (Xt:Shared->Bool) (g0:Bool) (H₀:Heap) (s:Shared):=
 ((staticsOk (importedModules p.main.body) H₀ s.heap&&namesBound p s.heap&&gensDone s&&laidKept H₀ s.heap),openSeen q loose (importedModules p.main.body) Xt g0 s)
theorem aYI {p q:Program}{loose:List Str}{Xt:Shared->Bool}{α:Type}{Yf:Shared->α}{Ya:World->α}{N:Nat}{g0:Bool}{H₀:Params->Heap}{gs₀:Array GenState}{d₀:Drawn}{k₀:Nat}{m₀:Nat}{ann:Option Value}{M:Nat}
  {T₀:Params->BT}{n₀:Nat}{l₀:Life}
  (cG:∀w:World,(fencedOpening treeTable p w N).map (λs=>(s.heap,s.gens,s.drawn,s.toks))=some (H₀ w.params,gs₀,d₀,k₀))
  (size:∀w:World,((H₀ w.params).isNs mainGlobals&&gs₀.size == 0,(H₀ w.params).objs.size,(H₀ w.params).nsMap mainGlobals "__annotations__")=(true,m₀,ann))
  (tree:∀P:Params,absHeap (T₀ P) n₀ l₀=H₀ P)
  (run:∀(w:World) (os:OsState),(b7 (stepT (denote treeTable) p w) m₀ ann M ⟨T₀ w.params,n₀,l₀,gs₀,d₀,k₀,os⟩ (topStub p)).map (λs=>bw p q loose Xt g0 (H₀ w.params) s.abs)=some (true,openGood q loose))
  (aFj:∀(w:World) (os:OsState),(b7 (stepT (denote treeTable) p w) m₀ ann M ⟨T₀ w.params,n₀,l₀,gs₀,d₀,k₀,os⟩ (topStub p)).map (λs=>Yf s.abs)=some (Ya w))
  (le:Nat.ble M N=true):LeftO p q loose Xt Yf Ya N g0:=λw=>by
 obtain⟨⟨h,gs,d,k,os⟩,e,e'⟩:=Option.map_eq_some_iff.mp (cG w)
 obtain⟨rfl,rfl,rfl,rfl⟩:h=H₀ w.params/\gs=gs₀/\d=d₀/\k=k₀:=by simpa using e'
 obtain⟨z1,z2,TS⟩:_/\_/\_:=by simpa only[Prod.mk.injEq] using size w
 obtain⟨aM,r0,jC⟩:=Option.map_eq_some_iff.mp (run w os);unfold bw at jC
 obtain⟨l1,l2⟩:_/\_:=by simpa only[Prod.mk.injEq] using jC
 have l3:Yf aM.abs=Ya w:=by
  have:=aFj w os;rw[r0]at this;exact Option.some.inj this
 have r1:=f_ r0;have r:=topRun_mono (N-M) _ _ _ _ r1;rw[show M+(N-M)=N by have:=Nat.le_of_ble_eq_true le;omega]at r
 have a0:SharedT.abs ⟨T₀ w.params,n₀,l₀,gs,d,k,os⟩=⟨H₀ w.params,gs,d,k,os⟩:=by
  show(⟨absHeap (T₀ w.params) n₀ l₀,gs,d,k,os⟩:Shared)=_;rw[tree]
 rw[a0]at r
 have t:topFrom treeTable p w N ⟨H₀ w.params,gs,d,k,os⟩=some aM.abs:=by
  unfold topFrom;dsimp only;rw[z1,z2,TS,r];show(match staticsOk (importedModules p.main.body) (H₀ w.params) aM.abs.heap&&namesBound p aM.abs.heap&&gensDone aM.abs&&laidKept (H₀ w.params) aM.abs.heap with | true=>_ | false=>_)=_
  rw[l1]
 unfold openEnds;rw[e];show(topFrom treeTable p w N _).map _=_;rw[t];exact congrArg some (Prod.ext l2 l3)
noncomputable def treeOf (l:List Obj):BT:=l.zipIdx.foldl (λt x=>t.ins x.2 x.1) .nil
open L2
inductive DU where
 |v (x:Option (Option Value))
 |b (x:Option Bool)
 |f (x:Option (FuncData×Bool))
noncomputable abbrev gy:=(fh->DU)×DU
noncomputable def Sat (K:fh) (l:List gy):Prop:=∀e∈l,e.1 K=e.2
noncomputable def eb (f:fh->Bool):gy:=(λK=>.b (some (f K)),.b (some true))
noncomputable def lZ (f:fh->Option Bool) (v:Option Bool):gy:=(λK=>.b (f K),.b v)
noncomputable def ev (f:fh->Option (Option Value)) (v:Option (Option Value)):gy:=(λK=>.v (f K),.v v)
noncomputable def ayG (K:fh) (v:Option (Option Value)) (q:Str):Option (FuncData×Bool):=match v with
 |some (some (.ref f))=>match K.lookup f with
  |some ⟨_,_,.func fd,_⟩=>some ({ fd with kwdefaults:=.none,doc:=.none,pyModule:=.none,annotations:=none,code:=.none,closureTuple:=.none},codeIn K fd.code q&&keepIn K (.ref f)&&isFn K (.ref f))
  |_=>none
 |_=>none
noncomputable def bx (g:fh->Option (Option Value)) (x q:Str) (st:Stmt):gy:=(λK=>.f (ayG K (g K) q),.f (some (PySem.W.fnOf x q (Kn st) (Gh st) (aw st) .none .none .none .none none .none .none,true)))
noncomputable def Uo (x:Str) (C:Addr):List gy:=
  [ev (λK=>nsIn K mainGlobals x) (some (some (.ref C))),ev (λK=>findIn K (.ref C) "__getattribute__") (some (some (.builtin "BaseException.__getattribute__"))),ev (λK=>findIn K (.ref C) "__getattr__") (some none),
   ev (λK=>findIn K (.ref C) "__class__") (some (some (.builtin "object.__class__"))),lZ (λK=>mroIn K C (.type "object")) (some true),lZ (λK=>mroIn K C (.type "BaseException")) (some true),eb (λK=>isClsIn K C),
   ev (λK=>specialIn K (.builtin "object.__class__") "__get__") (some (some (.builtin "getset_descriptor.__get__"))),lZ (λK=>takesIn K (.builtin "object.__class__")) (some true)]
noncomputable def ak7 (x:Str) (C:Addr):List gy:=
 [ev (λK=>nsIn K mainGlobals x) (some (some (.ref C))),eb (λK=>plainGet K C Str.empty),eb (λK=>hasDictIn K C),eb (λK=>plainOver K C),ev (λK=>findIn K (.ref C) "__setattr__") (some (some (.builtin "object.__setattr__")))]
noncomputable def All (l:List (List gy)) (K:fh):Prop:=∀g∈l,Sat K g
noncomputable def aZ (as:List Addr) (h:Heap):fh:=as.filterMap λa=>match h.get? a with
 |some o=>some (a,o)
 |none=>none
theorem gV (as:List Addr) (h:Heap):(aZ as h).In h:=by
 induction as with
 |nil=>intro a o e;cases e
 |cons b as ih=>
  intro a o e;unfold aZ at e;rw[List.filterMap_cons]at e;cases hb:h.get? b with
  |none=>rw[hb]at e;exact ih a o e
  |some x=>
   rw[hb]at e;simp only[List.lookup_cons]at e;split at e
   ·rename_i q;cases e;rw[beq_iff_eq.mp q];exact hb
   ·exact ih a o e
noncomputable def hook (as:List Addr) (L:List (List gy)):Hook where
 α:=List (List DU)
 obs s:=L.map λg=>g.map λe=>e.1 (aZ as s.heap)
 val _:=L.map λg=>g.map (·.2)
 says _ h:=∃K:fh,K.In h/\All L K
 of w s e:=⟨aZ as s.heap,gV as s.heap,λg hg x hx=>List.map_inj_left.mp (List.map_inj_left.mp e g hg) x hx⟩
 keeps w h h' x k:=by obtain⟨K,a,b⟩:=x;exact⟨K,a.keeps k,b⟩
end Hd
end
section
namespace Rw
open PySem L2 PySem.W PyProof.Rows PySem.Calls Hd
noncomputable def top (i:Nat):Stmt:=PySem.Challenge.pw_signalbox_k30_way_out.main.body.getD i (.Pass ⟨0,0,0,0⟩)
noncomputable abbrev Zp:Stmt:=top 11
noncomputable abbrev Tf:Stmt:=top 12
noncomputable abbrev Y!:Stmt:=top 13
noncomputable abbrev lL:Stmt:=top 14
noncomputable abbrev Zr:Stmt:=top 15
noncomputable abbrev adf:Stmt:=top 16
noncomputable abbrev ady:Stmt:=top 17
noncomputable abbrev ada:Stmt:=top 18
noncomputable abbrev acQ:Stmt:=top 19
noncomputable abbrev acR:Stmt:=top 20
noncomputable abbrev acV:Stmt:=top 21
noncomputable abbrev adb:Stmt:=inClass (top 23) 0
noncomputable abbrev Y?:Stmt:=top 24
noncomputable abbrev adg:Stmt:=top 25
noncomputable abbrev adL:Stmt:=top 26
noncomputable abbrev adM:Stmt:=top 28
noncomputable abbrev al4:Stmt:=top 29
noncomputable abbrev Zn:Stmt:=inClass (top 31) 0
noncomputable abbrev mf:Stmt:=inClass (top 31) 3
noncomputable abbrev avp:Stmt:=inClass (top 31) 4
noncomputable abbrev adh:Stmt:=inClass (top 32) 0
noncomputable abbrev adi:Stmt:=top 33
noncomputable abbrev adN:Stmt:=top 34
noncomputable abbrev ael:Stmt:=top 35
noncomputable abbrev ad3:Stmt:=top 36
noncomputable abbrev adO:Stmt:=top 37
noncomputable abbrev alV:Stmt:=top 38
noncomputable abbrev ami:Stmt:=top 39
noncomputable abbrev aly:Stmt:=top 40
noncomputable abbrev acS:Stmt:=top 41
noncomputable abbrev kt:Stmt:=top 42
noncomputable abbrev acT:Stmt:=top 43
noncomputable abbrev acX:Stmt:=top 44
noncomputable abbrev acY:Stmt:=top 45
noncomputable abbrev acU:Stmt:=top 46
noncomputable abbrev acP:Stmt:=top 47
noncomputable abbrev avF:Stmt:=top 48
noncomputable abbrev acJ:Stmt:=top 49
noncomputable abbrev Tg:Stmt:=top 51
noncomputable abbrev acZ:Stmt:=top 52
noncomputable abbrev lr:Stmt:=top 53
noncomputable abbrev ado:Stmt:=top 54
noncomputable abbrev adj:Stmt:=top 55
noncomputable abbrev ad4:Stmt:=top 57
noncomputable abbrev aaq:Stmt:=top 58
noncomputable abbrev aem:Stmt:=top 59
noncomputable abbrev Z6:Stmt:=top 60
noncomputable abbrev ade:Stmt:=top 61
noncomputable abbrev ac0:Stmt:=top 62
noncomputable abbrev oT:Stmt:=top 63
noncomputable abbrev adP:Stmt:=top 65
noncomputable abbrev ad5:Stmt:=top 66
noncomputable abbrev Te:Stmt:=top 67
noncomputable abbrev N?:Stmt:=top 68
noncomputable abbrev adk:Stmt:=top 69
noncomputable abbrev pd:Stmt:=top 70
noncomputable abbrev amj:Stmt:=top 71
noncomputable abbrev Zy:Stmt:=top 72
noncomputable abbrev ZY:Stmt:=top 73
noncomputable abbrev J!:Stmt:=top 74
noncomputable abbrev adQ:Stmt:=top 75
noncomputable abbrev ZQ:Stmt:=top 76
noncomputable abbrev ZZ:Stmt:=top 77
noncomputable abbrev adR:Stmt:=top 78
noncomputable abbrev lx:Stmt:=top 79
noncomputable abbrev adS:Stmt:=top 80
noncomputable abbrev adz:Stmt:=top 81
noncomputable abbrev pf:Stmt:=top 82
noncomputable abbrev adA:Stmt:=top 83
noncomputable abbrev aen:Stmt:=top 84
noncomputable abbrev adT:Stmt:=top 85
noncomputable abbrev Tj:Stmt:=top 86
noncomputable abbrev adB:Stmt:=top 87
noncomputable abbrev adU:Stmt:=top 88
noncomputable abbrev adC:Stmt:=top 89
noncomputable abbrev Za:Stmt:=top 90
noncomputable abbrev adV:Stmt:=top 91
noncomputable abbrev adD:Stmt:=top 92
noncomputable abbrev ad6:Stmt:=top 93
noncomputable abbrev ZB:Stmt:=top 94
noncomputable abbrev Zo:Stmt:=top 95
noncomputable abbrev ky:Stmt:=top 96
noncomputable abbrev Ds:Stmt:=top 97
noncomputable def facts:List (List gy):=[Uo "BadYard" 44,
 Uo "BoxError" 31,
 Uo "Held" 68,
 Uo "NotThere" 56,
 Uo "Red" 80,
 [eb λK=>excIn K 44 [.type "ValueError",.type "Exception",.type "BaseException",.type "object"] "ValueError.__new__"],
 [eb λK=>excIn K 68 [.type "ValueError",.type "Exception",.type "BaseException",.type "object"] "ValueError.__new__"],
 [eb λK=>excIn K 56 [.type "ValueError",.type "Exception",.type "BaseException",.type "object"] "ValueError.__new__"],
 [eb λK=>excIn K 80 [.type "ValueError",.type "Exception",.type "BaseException",.type "object"] "ValueError.__new__"],
 [lZ (λK=>exmOne K (.ref 44) (.ref 31)) (some true)],
 [lZ (λK=>exmOne K (.ref 56) (.ref 31)) (some true)],
 [lZ (λK=>exmOne K (.ref 68) (.ref 31)) (some true)],
 [lZ (λK=>exmOne K (.ref 80) (.ref 31)) (some true)],
 [lZ (λK=>kitOne K (.ref 44) (.ref 56)) (some false)],
 [lZ (λK=>kitOne K (.ref 56) (.ref 56)) (some true)],
 [lZ (λK=>kitOne K (.ref 68) (.ref 56)) (some false)],
 [lZ (λK=>kitOne K (.ref 80) (.ref 56)) (some false)],
 ak7 "Fall" 292,
 [eb λK=>makesIn K 292],
 [eb λK=>keepIn K (.ref 292)],
 ak7 "Train" 172,
 [eb λK=>makesIn K 172],
 [eb λK=>keepIn K (.ref 172)],
 ak7 "Yard" 271,
 [eb λK=>makesIn K 271],
 [eb λK=>keepIn K (.ref 271)],
 [ev (λK=>findIn K (.ref 292) "near") (some none)],
 [ev (λK=>findIn K (.ref 292) "until") (some none)],
 [ev (λK=>findIn K (.ref 172) "ahead") (some none)],
 [ev (λK=>findIn K (.ref 172) "is_out") (some none)],
 [ev (λK=>findIn K (.ref 172) "steps") (some none)],
 [ev (λK=>findIn K (.ref 271) "falls") (some none)],
 [ev (λK=>findIn K (.ref 271) "found") (some none)],
 [ev (λK=>findIn K (.ref 271) "greens") (some none)],
 [ev (λK=>findIn K (.ref 271) "locks") (some none)],
 [ev (λK=>findIn K (.ref 271) "lying") (some none)],
 [ev (λK=>findIn K (.ref 271) "pieces") (some none)],
 [ev (λK=>findIn K (.ref 271) "signals") (some none)],
 [ev (λK=>findIn K (.ref 271) "ticks") (some none)],
 [ev (λK=>findIn K (.ref 271) "trains") (some none)],
 [ev (λK=>findIn K (.ref 271) "wait") (some none)],
 [ev (λK=>nsIn K mainGlobals "any") (some none)],
 [ev (λK=>nsIn K mainGlobals "bool") (some none)],
 [ev (λK=>nsIn K mainGlobals "enumerate") (some none)],
 [ev (λK=>nsIn K mainGlobals "int") (some none)],
 [ev (λK=>nsIn K mainGlobals "isinstance") (some none)],
 [ev (λK=>nsIn K mainGlobals "len") (some none)],
 [ev (λK=>nsIn K mainGlobals "list") (some none)],
 [ev (λK=>nsIn K mainGlobals "max") (some none)],
 [ev (λK=>nsIn K mainGlobals "min") (some none)],
 [ev (λK=>nsIn K mainGlobals "range") (some none)],
 [ev (λK=>nsIn K mainGlobals "reversed") (some none)],
 [ev (λK=>nsIn K mainGlobals "tuple") (some none)],
 [ev (λK=>nsIn K mainGlobals "LAST_JOINT") (some (some (.int 999 284)))],
 [ev (λK=>nsIn K mainGlobals "MOST_PIECES") (some (some (.int 16 280)))],
 [ev (λK=>nsIn K mainGlobals "MOST_SIGNALS") (some (some (.int 16 282)))],
 [bx (λK=>nsIn K mainGlobals "joints_of") "joints_of" "joints_of" Zp],
 [bx (λK=>nsIn K mainGlobals "pieces_at") "pieces_at" "pieces_at" Tf],
 [bx (λK=>nsIn K mainGlobals "piece_beyond") "piece_beyond" "piece_beyond" Y!],
 [bx (λK=>nsIn K mainGlobals "is_border") "is_border" "is_border" lL],
 [bx (λK=>nsIn K mainGlobals "joints_out") "joints_out" "joints_out" Zr],
 [bx (λK=>nsIn K mainGlobals "is_points") "is_points" "is_points" adf],
 [bx (λK=>nsIn K mainGlobals "lie_for") "lie_for" "lie_for" ady],
 [bx (λK=>nsIn K mainGlobals "check_yard") "check_yard" "check_yard" ada],
 [bx (λK=>nsIn K mainGlobals "check_pieces") "check_pieces" "check_pieces" acQ],
 [bx (λK=>nsIn K mainGlobals "check_joints") "check_joints" "check_joints" acR],
 [bx (λK=>nsIn K mainGlobals "check_signals") "check_signals" "check_signals" acV],
 [bx (λK=>findIn K (.ref 172) "__init__") "__init__" "Train.__init__" adb],
 [bx (λK=>nsIn K mainGlobals "pieces_under") "pieces_under" "pieces_under" Y?],
 [bx (λK=>nsIn K mainGlobals "last_step") "last_step" "last_step" adg],
 [bx (λK=>nsIn K mainGlobals "turned") "turned" "turned" adL],
 [bx (λK=>nsIn K mainGlobals "routes") "routes" "routes" adM],
 [bx (λK=>nsIn K mainGlobals "ways_on") "ways_on" "ways_on" al4],
 [bx (λK=>findIn K (.ref 271) "__init__") "__init__" "Yard.__init__" Zn],
 [bx (λK=>findIn K (.ref 271) "lock_of") "lock_of" "Yard.lock_of" mf],
 [bx (λK=>findIn K (.ref 271) "train_in") "train_in" "Yard.train_in" avp],
 [bx (λK=>findIn K (.ref 292) "__init__") "__init__" "Fall.__init__" adh],
 [bx (λK=>nsIn K mainGlobals "set_route") "set_route" "set_route" adi],
 [bx (λK=>nsIn K mainGlobals "cancel") "cancel" "cancel" adN],
 [bx (λK=>nsIn K mainGlobals "tick") "tick" "tick" ael],
 [bx (λK=>nsIn K mainGlobals "throw") "throw" "throw" ad3],
 [bx (λK=>nsIn K mainGlobals "unlock") "unlock" "unlock" adO],
 [bx (λK=>nsIn K mainGlobals "signal_of") "signal_of" "signal_of" alV],
 [bx (λK=>nsIn K mainGlobals "way_of") "way_of" "way_of" ami],
 [bx (λK=>nsIn K mainGlobals "is_at_border") "is_at_border" "is_at_border" aly],
 [bx (λK=>nsIn K mainGlobals "signal_ahead") "signal_ahead" "signal_ahead" acS],
 [bx (λK=>nsIn K mainGlobals "train_near") "train_near" "train_near" kt],
 [bx (λK=>nsIn K mainGlobals "train_called") "train_called" "train_called" acT],
 [bx (λK=>nsIn K mainGlobals "check_route") "check_route" "check_route" acX],
 [bx (λK=>nsIn K mainGlobals "check_piece") "check_piece" "check_piece" acY],
 [bx (λK=>nsIn K mainGlobals "check_points") "check_points" "check_points" acU],
 [bx (λK=>nsIn K mainGlobals "check_signal") "check_signal" "check_signal" acP],
 [bx (λK=>nsIn K mainGlobals "is_number_of") "is_number_of" "is_number_of" avF],
 [bx (λK=>nsIn K mainGlobals "check_not_held") "check_not_held" "check_not_held" acJ],
 [bx (λK=>nsIn K mainGlobals "way_out") "way_out" "way_out" Tg],
 [bx (λK=>nsIn K mainGlobals "shut_pieces") "shut_pieces" "shut_pieces" acZ],
 [bx (λK=>nsIn K mainGlobals "is_clear") "is_clear" "is_clear" lr],
 [bx (λK=>nsIn K mainGlobals "shortest") "shortest" "shortest" ado],
 [bx (λK=>nsIn K mainGlobals "routes_on") "routes_on" "routes_on" adj],
 [bx (λK=>nsIn K mainGlobals "enter") "enter" "enter" ad4],
 [bx (λK=>nsIn K mainGlobals "go") "go" "go" aaq],
 [bx (λK=>nsIn K mainGlobals "draw") "draw" "draw" aem],
 [bx (λK=>nsIn K mainGlobals "turn") "turn" "turn" Z6],
 [bx (λK=>nsIn K mainGlobals "route_past") "route_past" "route_past" ade],
 [bx (λK=>nsIn K mainGlobals "pass_signal") "pass_signal" "pass_signal" ac0],
 [bx (λK=>nsIn K mainGlobals "come_on") "come_on" "come_on" oT],
 [bx (λK=>nsIn K mainGlobals "_law_cell") "_law_cell" "_law_cell" adP],
 [bx (λK=>nsIn K mainGlobals "_law_mix") "_law_mix" "_law_mix" ad5],
 [bx (λK=>nsIn K mainGlobals "_law_beyond") "_law_beyond" "_law_beyond" Te],
 [bx (λK=>nsIn K mainGlobals "_law_pieces") "_law_pieces" "_law_pieces" N?],
 [bx (λK=>nsIn K mainGlobals "_law_signals") "_law_signals" "_law_signals" adk],
 [bx (λK=>nsIn K mainGlobals "_law_outs") "_law_outs" "_law_outs" pd],
 [bx (λK=>nsIn K mainGlobals "_law_ways") "_law_ways" "_law_ways" amj],
 [bx (λK=>nsIn K mainGlobals "_law_routes") "_law_routes" "_law_routes" Zy],
 [bx (λK=>nsIn K mainGlobals "_law_new") "_law_new" "_law_new" ZY],
 [bx (λK=>nsIn K mainGlobals "_law_train_in") "_law_train_in" "_law_train_in" J!],
 [bx (λK=>nsIn K mainGlobals "_law_held") "_law_held" "_law_held" adQ],
 [bx (λK=>nsIn K mainGlobals "_law_free") "_law_free" "_law_free" ZQ],
 [bx (λK=>nsIn K mainGlobals "_law_set") "_law_set" "_law_set" ZZ],
 [bx (λK=>nsIn K mainGlobals "_law_near") "_law_near" "_law_near" adR],
 [bx (λK=>nsIn K mainGlobals "_law_cancel") "_law_cancel" "_law_cancel" lx],
 [bx (λK=>nsIn K mainGlobals "_law_tick") "_law_tick" "_law_tick" adS],
 [bx (λK=>nsIn K mainGlobals "_law_throw") "_law_throw" "_law_throw" adz],
 [bx (λK=>nsIn K mainGlobals "_law_pass") "_law_pass" "_law_pass" pf],
 [bx (λK=>nsIn K mainGlobals "_law_enter") "_law_enter" "_law_enter" adA],
 [bx (λK=>nsIn K mainGlobals "_law_go") "_law_go" "_law_go" aen],
 [bx (λK=>nsIn K mainGlobals "_law_draw") "_law_draw" "_law_draw" adT],
 [bx (λK=>nsIn K mainGlobals "_law_turn") "_law_turn" "_law_turn" Tj],
 [bx (λK=>nsIn K mainGlobals "_law_there") "_law_there" "_law_there" adB],
 [bx (λK=>nsIn K mainGlobals "_law_done") "_law_done" "_law_done" adU],
 [bx (λK=>nsIn K mainGlobals "_law_asked") "_law_asked" "_law_asked" adC],
 [bx (λK=>nsIn K mainGlobals "_law_near_deeds") "_law_near_deeds" "_law_near_deeds" Za],
 [bx (λK=>nsIn K mainGlobals "_law_deed") "_law_deed" "_law_deed" adV],
 [bx (λK=>nsIn K mainGlobals "_law_start") "_law_start" "_law_start" adD],
 [bx (λK=>nsIn K mainGlobals "_law_end") "_law_end" "_law_end" ad6],
 [bx (λK=>nsIn K mainGlobals "_law_clear") "_law_clear" "_law_clear" ZB],
 [bx (λK=>nsIn K mainGlobals "_law_way_out") "_law_way_out" "_law_way_out" Zo],
 [bx (λK=>nsIn K mainGlobals "_law_no_train") "_law_no_train" "_law_no_train" ky],
 [bx (λK=>nsIn K mainGlobals "law") "law" "law" Ds]]
noncomputable abbrev PW:=PySem.Challenge.pw_signalbox_k30_way_out
noncomputable def Q:Program:=PySem.W.view PW [97]
noncomputable def ks:List Str:=(["_wall","BoxError","BadYard","NotThere","Held","Red","MOST_PIECES","MOST_SIGNALS","LAST_JOINT","joints_of","pieces_at","piece_beyond","is_border","joints_out","is_points","lie_for","check_yard","check_pieces","check_joints","check_signals","Train","pieces_under","last_step","turned","routes","ways_on","Yard","Fall","set_route","cancel","tick","throw","unlock","signal_of","way_of","is_at_border","signal_ahead","train_near","train_called","check_route","check_piece","check_points","check_signal","is_number_of","check_not_held","way_out","shut_pieces","is_clear","shortest","routes_on","enter","go","draw","turn","route_past","pass_signal","come_on","_law_cell","_law_mix","_law_beyond","_law_pieces","_law_signals","_law_outs","_law_ways","_law_routes","_law_new","_law_train_in","_law_held","_law_free","_law_set","_law_near","_law_cancel","_law_tick","_law_throw","_law_pass","_law_enter","_law_go","_law_draw","_law_turn","_law_there","_law_done","_law_asked","_law_near_deeds","_law_deed","_law_start","_law_end","_law_clear","_law_way_out","_law_no_train"]:List String).map Str.ofString
noncomputable def a60:Pos:=match Ds with
 |.FunctionDef _ _ _ _ _ _ _ _ _ p=>p
 |_=>⟨0,0,0,0⟩
noncomputable def hk:Hook:=hook [3,2,31,30,44,43,56,55,68,67,80,79,172,171,271,270,292,291,21,20,89,88,94,93,101,100,108,107,113,112,120,119,127,126,134,133,141,140,148,147,155,154,169,168,181,180,188,187,195,194,202,201,207,206,219,218,226,225,233,232,240,239,247,246,254,253,261,260,268,267,289,288,303,302,310,309,317,316,324,323,331,330,338,337,345,344,352,351,359,358,366,365,373,372,380,379,387,386,394,393,401,400,408,407,415,414,420,419,427,426,432,431,439,438,446,445,453,452,460,459,467,466,472,471,479,478,486,485,493,492,500,499,507,506,512,511,517,516,524,523,529,528,534,533,539,538,544,543,549,548,556,555,561,560,566,565,573,572,578,577,585,584,592,591,597,596,604,603,611,610,618,617,623,622,630,629,637,636,644,643,649,648,656,655,663,662,670,669,675,674,680,679,687,686,692,691] facts
noncomputable def tr (P:Params):BT:=treeOf (boot_heap P).objs.toList
theorem a6Z:opening PW=plainProg PW.main.scope.names:=by kernel_rfl
theorem a5Z (s:Shared):fenceModules? PW s=some s:=by kernel_rfl
theorem zW1:PySem.Challenge.rw_signalbox_k30_way_out.row.wellSaid=true:=by kernel_rfl
theorem a7D:PySem.Challenge.rw_signalbox_k30_way_out.wellSaid=true:=by
 unfold PySem.W.OpenLaw.wellSaid
 rw[zW1,Bool.true_and]
 kernel_rfl
theorem a7f (w:World):((boot_heap w.params).isNs mainGlobals&&(Array.mk ([]:List GenState)).size == 0,(boot_heap w.params).objs.size,(boot_heap w.params).nsMap mainGlobals "__annotations__")=(true,11,(some (.ref 6))):=by kernel_rfl
theorem a7o (P:Params):absHeap (tr P) 11 {}=boot_heap P:=by kernel_rfl
theorem run (w:World) (os:OsState):(b7 (stepT (denote treeTable) PW w) 11 (some (.ref 6)) 8930 ⟨tr w.params,11,{},Array.mk [],boot_drawn,boot_toks,os⟩ (topStub PW)).map (λs=>bw PW Q ks (λs=>xlAt Q [] s&&recOk [] s) true (boot_heap w.params) s.abs)=some (true,openGood Q ks):=by kernel_rfl
theorem aFj (w:World) (os:OsState):(b7 (stepT (denote treeTable) PW w) 11 (some (.ref 6)) 8930 ⟨tr w.params,11,{},Array.mk [],boot_drawn,boot_toks,os⟩ (topStub PW)).map (λs=>hk.obs s.abs)=some (hk.val w):=by kernel_rfl
end Rw
end
def ZqN (k:Lean.Name):String:="\t".intercalate (k.components.map fun c=>c.toString false)
def ZqS:Nat->Lean.Syntax->String
|0,_=>""
|_,.atom _ v=>"'"++v++"\n"
|_,.ident _ _ x _=>"."++ZqN x++"\n"
|n+1,.node _ k as=>(match k with
 |`null=>"(n"
 |.str `Lean.Parser.Term x=>"(t"++x
 |.str `Lean.Parser.Tactic x=>"(c"++x
 |k=>"(_"++ZqN k)++"\n"++as.foldl (fun r a=>r++ZqS n a) ""++")\n"
|_,_=>"?\n"
local macro_rules
|`(mutual $cs* end)=>do
 if !cs[0]!.raw.isOfKind ``Lean.Parser.Command.universe then Lean.Macro.throwUnsupported
 let l:=Lean.Syntax.mkStrLit ((cs.extract 1).foldl (fun r c=>let d:=c.raw[1];r++ZqS 10000 (.node .none `null #[d[1][0],d[2][0],d[3][1]])) "")
 `(def $(Lean.mkIdent `ZqD):ident:String:=$l)
mutual
universe zD
def aY a:=some (a)
def d7 a b:=aY (a b)
def η:=.int
def aZ:=(by decide)
def dh a:=d7 η a
def a! a:=(by simpa using a)
def d8:=by dsimp only[List.set]
def LC a:=List (a)
def iY a:=decide (a)
def Θ:=(by simp)
def af7:=by with_unfolding_all rfl
def aD:=(by omega)
def LD a b:=Nat.le_trans a (b)
def Ew a b c d:=by obtain⟨a,b,c⟩:=List.mem_map.mp d
def Vu a b c d:=Inv a pins b c d
def ο:=.obj
def iz a:=d7 ο a
def vo a:=Heap.get?_push_of_some _ a
def cY:=List Addr
def SZ a:=Hh Y.rs a
def aK a:=(by simp[a])
def au a b:=by
 rw[a]
 exact b
def gO a b:=LC (a×b)
def Ef a:=starEach a X.env
def b7:=List Value
def iA a:=List.mem_cons_of_mem _ a
def An a:=xF a tP
def B6 a:=b9 W.trains a
def vp a b:=cg eT a (b)
def fF:=Option Nat
def ò:=by decide +kernel
def gK:=Option Value
def fe:=Nat.le_refl _
def aq:=ae 0
def B7 a b c d:=by
 obtain⟨a,b⟩:=c
 exact d
def ς:=.lst
def dP:=(by rw[ò])
def E3 a b:=beyond Y.ps a b
def fZ:=List aj
def ó a b c:=List.mem_map.mpr ⟨a,b,c⟩
def jw a b:=by
 unfold a
 refine b
def bJ a b c d e f:=by
 have a:b:=c
 have d:e:=f
def kP a b c d e f g h i j k l:=by
 rw[bJ a b c d e f]
 rw[bJ g h i j k l]
def dm a b c:=by
 have a:=b
 refine c
def cS:=(by rw[af7])
def nC:=if_neg Bool.false_ne_true
def nA a:=eval a X.env
def gY a b c:=by obtain⟨a,rfl,b⟩:=c
def aAW a:=a<Y.rs.length
def aE:=.str
def bG a b c:=by
 rw[a]at b
 exact c
def gg a:=⟨a,rfl⟩
def ee a b c d:=by
 obtain⟨a,b⟩:=c
 exact d
def fk a:=wpAny_bind (a)
def jJ a b:=fun a=>aj.int b
def dw a b c d e:=by obtain⟨a,b,rfl,c,d⟩:=e
def nB:=W.falls.map (·.1)
def cF a b c d:=by
 have a:=b
 have c:=d
def HG a b:=ax G.hu (a) b
def vq a b:=HG (af a) b
def S0 a b:=a1R a G.nd b
def eF:=Option Int
def fm a:=An (a)
def ef a:=fm (af a)
def gP a:=kY Y.ss a
def yt a:=d7 ς a
def nD a b c d e f:=wpAny a b (c) d e f
def cO a:=a->Prop
def BP:=cO Shared
def gM:=List Str
def cV a b c d:=by
 have a:b:=c
 refine d
def b_:=SZ r
def Ao:=t.steps.reverse.map flip
def di:=List V
def Δ:=.ref
def HH a b:=a = some b
def f_:=gO Addr Obj
def nE a b:={ a with heap:=b}
def gV:=List rC
def kO a b:=Vu X σ a b
def cA a b:=by
 rw[←a]
 exact b
def vt a:=List.replicate Y.ps.length a
def fG:=.builtin
def vv a b:=s.heap.get? a=some b
def aAX a:=Heap.get?_push_size a rfl
def h7 a:=nL false a
def cG a b c:=λa b c=>?_
def b3:=YL Y.rs r
def yu:=t.tr.steps.reverse.map flip
def LF a b:=M.set a (b)
def bC a:=H.f a rfl
def q2 a b c d:=Zb a (cG b c d)
def aql a:=LC (gy a)
def jK a:=a≤sizeLine
def um a:=by
 rw[d8]
 refine a
def dJ a:=λa=>?_
def sf a:=by
 unfold a
 dsimp only
def dI:=List Expr
def bM a:=vq a bT
def lK a b:=⟨a,rfl,b⟩
def fD:=List Int
def E4 a:=List.getElem?_eq_none (a)
def eK:=if_pos rfl
def iZ:=iz M.length
def pB a b:=λa=>iY b
def agL a:=List.getElem?_append_left (a)
def bS a:=af8 G.mT a
def eG:=List Nat
def j3 a:=by
 rw[a]
 dsimp only
def LG a:=b9 B.locks a
def yv a b c d:=Fn z a b c d
def e! a:=LD a aZ
def nF a b:=by exact absurd a b
def uo a b:=by obtain⟨a,rfl⟩:=b
def aOm a b c:=mm PySem.F.slot_list_append PySem.F.type_list_append a b c
def nG:=Heap.lt_size e
def cX:=by exact w.elim
def vz a b c d:=if a=b then c else d
def pC a:=Nat.ne_of_lt (a)
def agn a b:=Nat.lt_of_lt_of_le (a) b
def h9 a b c:=HH a[b]? c
def HJ a:=aY (bk a)
def j4 a:=A2 trivial a
def gQ a:=vq a cN
def eg a:=by
 have:=a
 omega
def kQ a b:=by
 refine a
 refine b
def xK:=X.env.cells.lookup x
def aqm a:=["_law_world",a]
def ago a:=W.locks.getD a none
def lI a:=(a).length
def aAY a b:=if neg then a else b
def aqn a b c d e:=h.ix (a:=b) (c:=d) rfl e
def az:=ae 1
def U_ a b c d e:=by
 obtain⟨a,b,c⟩:=d
 exact e
def sj:=B.falls.map (·.1)
def aR:=iz 7
def ô:=t.tr.steps.map bk
def vA:=w.map (·.1)
def oh:=sl.mono e1
def c! a b:=λa b=>?_
def LH a b c d e f g:=by
 obtain⟨a,b,c,d,e⟩:=f
 exact g
def U' a:=a == NameKind.free
def aM:=iz 0
def LI a:=Nat.lt_of_le_of_lt a aZ
def Hw a:=aY (some a)
def LJ:=List.getElem?_eq_some_iff.mp h
def E5 a b:=List.map_congr_left (c! a b)
def YV a:=gO Str a
def dH:=.type
def dU a:=apI a G.nd
def q3:=d.map (·.1)
def eH a:=fj.at ps a
def qh a:=M.length+a
def aI:=ae 2
def cW a:=a=false
def Hx a:=xF (af 0) a
def õ a b:=lW a b aq
def aV:=dh x
def U! a b c:=by obtain⟨a,b⟩:=Option.isSome_iff_exists.mp c
def yw a b c d e f:=by
 obtain⟨a,b,c,d⟩:=e
 exact f
def Aq:=List.range ps.length
def Ln a:=cm a Y.rs.length
def ja:=kO H s
def U? a b:=by simp[a,b,PyData.eqv]
def aqo a b c:=by obtain⟨a,_,b⟩:=List.mem_map.mp c
def Ar a:=LC (Option a)
def jc a b:=aKu X aH a b
def cB a b:=by exact⟨a,b⟩
def yx:=t.ahead.map (·.1)
def dz a b:=by
 unfold a
 rw[b]
def Hy a:=cm a Y.ps.length
def Ω:=.inl
def i0 a:=aY (bX a)
def Hz a b:=by rw[List.getElem?_set_self a]at b
def S1 a b c d e:=PySem.W.kia_one a I.s7 b c d e
def HA a:=List.mem_append_right _ a
def E6:=bo.N1.mpr rfl
def wh a b c:=a1S a b c ?_
def sq a b c:=aY (a b c)
def jL a b c:=by
 unfold a
 rw[au b c]
def E7 a:=Value->a
def iQ:=E7 BP
def LK:=Nat.le_of_ble_eq_true rfl
def gf a:=a (·.1)
def m_ a:=d7 a kvs
def cy:=some o
def As a:=vp aq (dC (aE a))
def wj:=As "trains"
def Va a b:=(by simpa[a] using b)
def S2:=List.getElem?_eq_getElem hl
def apt a b c:=attributeBase a b X.env c
def iB:=some x
def yy a b c:=by
 rw[a]at b
 dsimp only at c
def fV:=iz t.ob
def fq a b:=by
 subst a
 exact b
def jx a:=if_pos (a)
def S3:=.Attribute
def iC a b:=by refine⟨a,b⟩
def gq a b c d e f g h i:=by
 rw[bJ a b c d e f]
 have g:h:=i
def Vb a:=a<Y.ss.length
def jd a b c d:=⟨a,b,c,rfl,d⟩
def ö a b:=vp a (dC (aE b))
def dO:=some u
def Vc:=s.heap.push PySem.W.emptyDict
def yz a b:=PySem.W.findIn K a b
def oi a b c d:=if a∈b then c else d
def q4:=Nat.zero_le _
def HB a:=by simp only[List.mem_cons,List.not_mem_nil,or_false]at a
def qi:=List Key
def BR a:=gO Nat a
def b6:=dh r
def ã a:=(a).isSome
def uq a:=vp aq (dC (η a))
def je a b c d:=λa b c d=>?_
def aA:=.inr
def B8 a:=fm (bM a)
def i6 a b c d e:=by
 have a:=b
 rw[dm c d e]
def LL a b:=(a▸List.mem_of_getElem? b)
def kN:=bj Y.ps
def aQ:=.tup
def iR a:=d7 aQ a
def Ξ a:=dC (η a)
def c5 a:=dC (aE a)
def E8 a b c d e f g h:=by
 obtain⟨a,b,c⟩:=d
 obtain⟨e,f,g⟩:=h
def ur a b c d e f g:=by
 rw[bJ a b c d e f]
 refine g
def agp a:=aY (mL a)
def LM a:=vp a (dC (η 0))
def bw:=ae 3
def e7 a b:=(a).trans b
def j5 a:=e7 (rA aZ) a
def agq a b:=e7 (rA a) b
def B9:=sc.names.lookup x
def B_ a b:=HG (gQ a) b
def yC a b c d:=by obtain⟨cf,a,b,c⟩:=d
def E9 a:=õ ck a
def LN a b:=by rw[List.getElem?_set_ne a]at b
def E_:=List.mem_cons.mp h
def pD a b:=cg a bw b
def gC:=ο M.length
def j9 a b c:=show a=b from c
def aOn a b:=Calls.callWith_builtin a (b)
def aF:=.bad
def sr a:=if_neg (a)
def h_ a:=by
 show a
 decide
def Sf:=t.tr.steps.map (·.1)
def sO:=List.range n
def LO a:=h.gt a nofun
def oj a:=S7 a (af 0)
def j6 a b c:=nD (model X.prog X.w) X.A a b X.s6 c
def cJ a b c:=a5H K mg a b c
def jy a b:=⟨a,b,rfl⟩
def uu:=kl.set Θ
def agr:=W.trains.map (·.1)
def E!:=bo.fA.mpr rfl
def ags a:=adF W.trains a
def q6 a b c:=by rw[Ew a b rfl c]
def Vd a:=["yard",a]
def dS:=cO aP
def ø a b c d e f g:=I.turned (a:=s.toks) b c d e f g
def YT a:=assignEach a X.env
def S4 a b:=⟨a,t.ob,t.so,b⟩
def fH:=by
 simp
 omega
def ù a:=ö aI a
def xM a:=RelV a u
def lM:=.refl
def dR a:=lI (a)
def acD a:=X.s₀.heap.objs.size≤a
def HC a b:=by have a:=of_decide_eq_true b
def LP a:=cm a Y.ss.length
def eU:=some t
def aqp a b c d e f:=wpAny_Call_method a b c PySem.F.plainAttrs_dict d e f
def ú a b:=avz a B.trains b
def zR a b c:=λa=>PyData.eqv b c
def nH a b c d e:=by rw[B7 a b c ⟨d,e⟩]
def mw a b:=iY (a∈b)
def S5 a b c d e f:=wpAny_mono a b λc d e=>f
def agt a:=a<Y.ps.length
def S6 a b:={ a with locks:=b}
def eu:=az8 ?_
def agu a:=PySem.W.instObj a s.heap.objs.size
def Eg:=List Env
def yD a:=[fB.lst a]
def Sw:=List.mem_append.mp hp
def B!:=As "routes"
def B? a b:=beyond ps a b
def xG:=LC fF
def û a:=λa=>rfl
def g4:=cv b3
def b4:=.cons
def er a b:=yv k a 2 b
def gh a b:=(by simp[a,b])
def aqq a b c:=yv a "_law_beyond" b c
def tO:=List bu
def BN:=List aaA
def LQ a b c d e f g h i j k l m:=ez.bind (a:=oS X.K) b λc d e f g h i j k l=>m
def Ve a b c d e f:=by
 obtain⟨a,b⟩:=c
 obtain⟨d,e⟩:=f
def mz:=by exact w1.elim
def r4:=h'.get? b
def aqr a b c:=wpAny_bind (a:=Builtin.Tuple.tupleExact b) c
def aO a:=a=true
def YO:=aO X.calm
def aqs a b c:=wKs a W.green b c
def q7 a b:=upd H a b
def jz a b:=h9 a i b
def Im a b c:=dt C Y none a b c
def Es a:=a≠X.env.locals
def aqt a:=a<W.locks.length
def agv:=List.getLast?_eq_none_iff.mp h
def wk a b:=by
 rw[sf a]
 rw[j3 b]
def Vf a b c d e f g h i j k:=by
 rw[jw a (pO (b:=λc=>d) e)]
 simp only[f,g,h,i,Nat.zero_add,Nat.reduceAdd,Nat.reduceSub,List.replicate,j,k]
def apC a:=X.A.units+a
def c_:=.Name
def aAZ:=List.range Y.ps.length
def Ca:=DecidableEq κ
def Y0 a b:=aY (d7 a b)
def bW:=.exc
def cP:=.none
def agw a b c:=by obtain⟨a,_,b⟩:=List.mem_flatMap.mp c
def Sx:=List.Sublist.refl _
def agx a:=i7 B.greens a
def Vg a:=awc B.trains a
def LR a:=(by simp at a)
def qU:=List α
def dG:=B6 x
def wm a:=Option (a)
def Vh:=List.mem_filter.mp hr
def Ls a:=B.lying.getD a true
def Vi a:=I.bz.fresh (a)
def qW:=Option aj
def kR a:=⟨rfl,a⟩
def jZ:=aAW r
def Vj a:=ps.length≤a
def pF a b:=vp (a) b
def bH a b c d:=FnAt K (nsIn K mainGlobals a) b c d
def Sy a b:=Ec a hr G.mT (Hx (b))
def Sz a b:=Sy a (ef b)
def lN:=I.tok _
def Lu a b c:=dn G.hu a b c
def jM a:=Sum.inl (a:Int)
def Cb a b:=⟨a,b,false⟩
def Cc a b c d:=F? (iy a b c) d acm
def Cd a b:=F? (D0.aFS a) b acm
def SA a b c d:=eD a b c (dJ hk) d
def SD a b c:=SA a b c (dJ hk)
def Io a b:=by
 rw[a,b]
 dsimp only
def agy a:=aC.bz.fresh (a)
def agz a b c:=List.filter_eq_self.mpr λa b=>c
def om a b c d e f:=by
 have a:=b
 rw[cV c d e f]
def mC a b c d:=⟨a,b,rfl,c,d⟩
def aAe a b c:=swapsWith a b c X.env
def Ce a b c d e:=by
 obtain⟨a,b,c⟩:=d
 refine e
def E?:=ù "green"
def Lv a b c:=cJ a b (Vd c)
def iS:=.fields
def xH:=List ae4
def iT a:=H.v a rfl
def fE:=some k
def fU:=some v
def Ip a b:={ cls:=a,data:=b}
def Au:=[none]
def Av a b:=bo K ι S a b
def Vk a b:=aO (PySem.W.keepIn a b)
def dB:=.ins
def ü a b:=sq dB a b
def ý a b:=by obtain⟨_,_,_,_,o,_,_,a,_⟩:=b
def Iq a:=a≤2097152
def eV a b c:=by refine⟨a,b,c⟩
def Ir a b:=if a then b else aF
def Aw a b c:=pF a (cg mO b c)
def h!:=bj ps
def BV a b:=Im o a b
def Lw:=aqm "_law_route"
def aqu a b c d:=by obtain⟨a,b,c⟩:=Option.map_eq_some_iff.mp d
def Fa a b c:=a λb aa=>c
def agA a b c d:=by obtain⟨a,b,c⟩:=List.mem_flatMap.mp d
def SE a:=Vals a us
def Vl a b:=LF a (ς b)
def su a b:=by
 simp only[a]
 rw[b]
def Vm a:=by rw[List.length_append,a]
def agB a b:=aOn a (Calls.evalArgs_plain b)
def q8 a b c:=by rw[dm a b (cj c)]
def Vn a:=Calls.spliced_cons (a)
def Vo a:=wpAny_Call_Name_kw (a)
def aqv a b c d e f g:=by
 obtain⟨a,b,c,d,e⟩:=f
 refine g
def Cf:=dH "list"
def n0:=Res aj
def yE:=As "falls"
def Vp a:=N7 a B.locks
def jA:=.cancel
def mD:=aE "straight"
def Fb a:=xs.length≤a
def wo a:=lK a ?_
def Fc:=wpAny_pure ?_
def Fd:=As "signals"
def Cg a b c:={ a with heap:=b,toks:=c}
def Ax a b c:=Sy a (xF b c)
def qj a b c d e f g:=by rw[U_ a b c d ⟨e,f,g⟩]
def Ch a b c:=zc.go a b λ_ _ _ _ _ _ _ hr G=>(c)
def lO a b:=lz (a) (b)
def Fe a b c:=lO a (lO b c)
def Ay a b:=lO a (wM b)
def kS a b c:=lz (lV a (b)) (c)
def Ff a b c d e:=kS a b (kS c d e)
def Ci a b c d e:=Zb a λb c d=>e
def apU a:=by rw[List.getD_eq_getElem?_getD,List.getElem?_eq_getElem a]
def þ:=tupleKind_room_in1 hu
def apV a b c d e f g h i j k:=PySem.W.fnOf a b c d e f kV g h i j k
def Cj a:=by exact False.elim a
def Ck a:=aWH a ds.length
def Lx a b c d e f g h:=by
 rw[cF a b c d]
 rw[cF e f g h]
def agC a b:=λa=>aj.int b
def agD a:=fm (gQ a)
def uv a b c:=⟨a,b,rfl,c⟩
def q9 a:=Inv n c7 sW a
def apW a:=by rw[a,Int.toNat_natCast]
def apX a:=W.trains.length≤a
def aOo a:=List.length_pos_iff.mpr (a)
def apY a:=aOo (List.isEmpty_eq_false_iff.mp a)
def fJ a b c d:=by
 have a:=b
 rw[c]at d
def uw a b c:=yv a b 3 c
def bQ a b c:=by exact⟨a,b,c⟩
def q_ a b:=by by_cases a:aO b
def Vq:=Option.some.inj h1
def Vr a:=wpAny_passesOwn hp a
def apu a b:=uw a "piece_beyond" b
def Vs a:=bo.mono a r1
def oq a b c:=vz a true b c
def g!:=yt xs
def nZ:=gO Key aj
def fT a b:=∀p∈a,b
def Ly a b c d e f:=by
 obtain⟨a,b,c⟩:=d
 rw[iC e f]
def SG a:=List.replicate k a
def ÿ a b:=Nat.le_trans (a) b
def Iu a:=b9 B.greens a
def pG a b c:=by
 rw[a]at b
 simp at c
def lU:=.BoolOp
def j_:=some xs
def q! a:=pF a az
def g9 a b:=Br X a b
def qk a:=a<ps.length
def agE a:=List.getElem?_set_self (a)
def À a:=congrArg List.length a
def Iv a b c d e f g h i j k l m n:=by rw[kP a b c d (yv e f 2 g) h i j k l m n]
def YQ a:=cW (gf a)
def apZ a b c:=PyProof.Rows.callWith_type1 (a) b c
def agF a:=a=M.length
def xO:=agF M'.length
def SH a b:=kvs.map λa=>b
def ap0:=Nat.le_refl s.heap.objs.size
def ap1 a b c d e f g h i j:=by
 obtain⟨⟨a,b⟩,c,d⟩:=e
 obtain⟨⟨f,g⟩,h,i⟩:=j
def Iw:=Nat.le_succ _
def pH:=if_neg h
def tQ:=h.get? b
def Cm a b c:=agM a (Vd b) c
def lP a b:=ó a b rfl
def agG a b:=List.replicate (a) b
def ux a b c:=by
 rw[a]at b⊢
 exact c
def uy a b c:=by
 rw[a,b,c]
 dsimp only
def Lz:=bootBuiltins x
def Fg:=ends.map η
def SI a b c d e f:=aRx (a:=b) (c:=d) e rfl f
def sx a b:=by obtain⟨t,a⟩:=b
def sy a b c d e f g h:=by
 have a:=b
 rw[bJ c d e f g h]
def U1:=Option.some.inj h
def yF:=.Subscript
def U2 a b:=Kh a b W.locks
def mE a b c d e:=λa b c d e=>?_
def Cn a b:=rB a b bT
def iU a b c:=by
 unfold a
 rw[b,c]
def mF a b c:=by
 rw[a]
 by_cases b:c
def ow a:=a->Bool
def mj:=ow Nat
def iD a:=a5E (a)
def uz a:=iD (a1O a)
def fW a:=uz (a)
def aAv a b:=by rw[au (List.take_append_of_le_length a) b]
def ap2 a:=a "getset_descriptor.__get__"
def ap3 a b:=by rw[au (List.mem_singleton.mp a) b]
def Á a:=SeqAt.readOf s.heap a
def aOp:=B.trains.map (·.1)
def au0 a:=Loc X.env.scope a
def SJ:=aqm "_law_name"
def Co:=by dsimp only at h
def wu a b c d:=by
 rw[q6 a b c]
 exact d
def uA:=Sum.inl x
def uB:=some true
def Fi a b c d:=iD (Cc a b c d)
def yG a b c d:=Slots K a b c d
def U3 a b c d e:=Ext ι a b c d e
def j0:=cO afe
def pI a b c d e:=nD a b c d e s
def Iz a:=Av a v
def ql a b:=some (a,b)
def agH a:=by exact decide_eq_decide.mpr a
def agI:=List.getElem?_set_ne e
def Cp:=some .local
def pJ:=some .cell
def qm a:=ã (a)
def ap4 a:=qm (LG a)
def auY a:=a ≠ "__name__"
def ap5 a b c:=List.find?_eq_none.mpr λa b=>c
def Cq a b c d e f g:=by
 obtain⟨a,b,c⟩:=d
 have e:f:=g
def mu:=some c
def ou:=jS eR W.trains
def Fj a b c d e f:=by
 obtain⟨a,b⟩:=c
 have d:e:=f
def Fl a:=show a from rfl
def IA a b:=sr (λa=>b)
def yH a b c d:=by by_cases a:b=c<;>simp[d]
def ap6:=t.tr.steps.dropLast.map bk
def agJ a:=List.getElem?_set_ne (a)
def Ej:=cO Out
def U4 a b:=s.heap.push { cls:=a,data:=b}
def SK a:=a<xs.length
def lQ a:=(by rw[a])
def Â a b:=s1.heap.push (Ip a b)
def ap7 a b:=agn (Heap.lt_size a) b
def LA:=["_law_step"]
def LB:=jK xs.length
def IB:=ns.map V.int
def IC:=E9 "pieces"
def ID:=.function
def Ll:=List Stmt
def wz a b c:=by rw[um (wh a b c)]
def wA a:=by
 refine wo a
 rw[d8]
def agK a:=qm (ago a)
def SM a:=h.lo a aZ
def j!:=by dsimp only[aX,aW]
def U5 a b:=if a then b else none
def ia a b:=by
 rw[a]
 refine b
def Fo a:=by unfold a at w
def aOq a:=withoutEnding? "BaseException.__getattribute__" a
def aOr a b:=Bind.checkArgs "BaseException.__getattribute__" a b
def ap8 a b:=by rw[au (LawfulBEq.eq_of_beq a) b]
def SN:=way.map (·.1)
def SO:=jK kvs.length
def uC a:=k8.set (a)
def fu a b c d e:=by
 have a:=b
 have c:d:=e
def Cr a b c:=bp a b c (fS rfl)
def wB a b c d e f g h i j k:=by rw[LH a b c d e f ⟨g,h,i,j,k⟩]
def U6 a:=a<s.heap.objs.size
def Ã a b:=scope.names.lookup a=b
def Ä a:=a≠s.heap.objs.size
def Ms a b:={ a with trains:=b}
def wC:=û _
def o!:=envOfC qual scope s.heap.objs.size f cd
def age:=List.range ss.length
def ap9 a:=Nat.le_trans I.ok.aaB a
def agf:=of_decide_eq_true h2
def agg a:=aO (PyData.canLay0 a)
def sA:=h.get? a
def Mt a:=aY (hV a)
def aAw:=List.getElem?_eq_some_iff.mp h2
def aAx:=List.getElem?_eq_some_iff.mp hM
def aAy a:=Y0 a "getset_descriptor.__get__"
def U7 a b:=bo.A5.mpr (lK a b)
def aps a b c:=yv a "joints_of" b c
def IE a b:=X.env.kindOf a=b
def IF a b c d e f g:=show sU a b c d e f from g
def BW:=if_pos aD
def U8 a b:=Ob a b B.locks
def BX a b:=by rw[iU a b Res.pS]
def yI a:=aQ1 G.calm a
def Y8 a b:=aqs a W.now b
def n5:=List k_
def n6:=aY az
def n7 a:=d7 Δ a
def jr:=.enter
def uD a:=some a.2
def U9 a b:=je a b ρ hρ
def Az a b:=encD a (b)
def BY a:=adJ eZ a
def iE:=BY l1
def BZ a b c:=λρ M=>Fa a b c
def vm:=gk K ι S M H
def fy a:=by
 rw[a]
 simp
def uE a:=aB fM [a]
def aAz a b c:=by obtain⟨a,b⟩:=Int.eq_ofNat_of_zero_le c
def aOs a b:=List.mem_filter.mpr ⟨a,b⟩
def aAA a:=W.locks.length=a
def q? a:=cW (a)
def Hr a b:=q? (a == b)
def agh a b c:=by obtain⟨_,vs,a,b⟩:=c
def fc:=dh s
def SP a b c:=t.ahead.headD (a,b,c)
def Fp a b c d:=by
 rw[jw a (pO (P:=λb=>c) ?_)]
 simp only[bB,zD,zE,gx,Nat.zero_add,Nat.reduceAdd,Nat.reduceSub,List.replicate,f9,fz,eP]
 refine d
def aAB:=List.getElem?_append_right aD
def Y4:=List Keyword
def agi:=F.map (·.1)
def Mu:=E9 "trains"
def Mv:=ù "trains"
def wD a:=by simp only[ag,a]
def agj a b:=Res.opt (a) b
def qn:=.ahead
def sC:=some 1
def BO:=gO κ α
def IG a b:=w1 ι1 bf H1 a lM s1 b
def AA a b:=hJ Y a b j
def Ed:=AA M W
def aqa a:=by rw[List.size_toArray,a]
def aqb a:=List.ext_getElem? (dJ a)
def aqc a b c:=by rw[dm a (of_decide_eq_true b) c]
def apB a b:=cW (behindInMarks a b)
def SQ:=aqm "_law_at"
def IH:=Value.ref a
def acs:=K.In s.heap
def agk:=e1.trans e2
def II a b c:=by rw[gY a b (vals1 c)]
def SR a b c:=Hk false a b c
def SS a b c:=oC false a b c
def pK a:=I.own r a
def agl a:=uM Y.ps a
def pL:=G.ok hr
def pM a:=H.c a rfl
def AB:=Δ s.heap.objs.size
def nI:=df ss
def bI:=ae 4
def V1 a:=show False from a
def Et a b c:=yv (a) b 2 c
def agm a b:=∀a∈B.trains,b
def ic a:=(a).Nodup
def ahn a b:=by simp only[Function.comp,a,b]
def aAC a b c d e f g h:=by
 intro pins a σ b c d e
 refine wpAny_Call_method0_late f g h
def AD:=List Bool
def AE:=rel.val k
def aqd a:=aO (agl a)
def z3 a:=ic (gf a)
def j?:=some r
def IJ a:=aQW ns a
def jI:=Iz x
def aqe a:=by simp only[List.lookup_cons,a]
def aqf a b:=List.length_filter_le (a) b
def uF a b:=YN (a) (b)
def n8 a b c:=uF a (uF b c)
def kc a b c:=YN (S0 a (b)) (c)
def rf a b c d:=kc a b (uF c d)
def SU a b c:=kc a b (iD c)
def aho a:=X.env.scope.kind == a
def ahp a:=Nat.lt_succ_of_lt (a)
def V2 a:=by rw[au a True.intro]
def V3 a b:=some (Ip a b)
def YU:=pure false
def YX a:=w.length≤a
def lR a:=⟨a,?_⟩
def bR a:=a=none
def pN a:=bR (H a)
def IK a:=bR (H' a)
def aqg a b c d:=by
 obtain⟨a,b⟩:=c
 refine d
def aqh:=List.range Y.rs.length
def aqi a:=List.replicate k.toNat a
def aqj a:=by rw[au a Bool.false_ne_true]
def apK a b c:=aO (PySem.W.plainGet a b c)
def aAD a b:={ a with toks:=b}
def qo:=aY h!
def qp:=Dj X.prog X.w
def EH a b c d e f g:=by obtain⟨ι,a,b,c,d,e,f⟩:=g
def xP:=.Call
def EI a:=ll gv eZ a
def kg:=EI l1
def ie a:=by rw[cB _ a]
def Mw a:=wpAny_pure (a)
def n9 a b c d:=by
 refine a
 have b:c:=d
def aAE a b c d:=λa b c=>List.getElem?_append_left d
def ahq a:=pC (Heap.lt_size a)
def ahr:=Iq W.green.length
def ahs:=Iq W.falls.length
def wF:=if_neg e
def IL a:=aY (mQ a)
def wG a:=by rw[um (cj a)]
def kT:=.throw
def Å a b c d:=λa b c=>vo d
def rg a:=HG a bT
def c6:=.nil
def gZ a b:=by rw[au (lA (a)) b]
def lS a b c:=LF a (b (c))
def aht a b:=DH.map λa=>b
def auS:=q9 W
def gR:=bF K ι S xs vs
def ahu a b c:=if a then(b) else c
def kU a b:=(by rw[a,b])
def aAF a:=List.getElem?_append_right (a)
def ahv a:=["pieces",a]
def yJ a:=LM (a)
def nJ a:=yJ (ae a)
def n_ a b:=cg (fi false) (a) b
def EJ a b c d:=by
 unfold a at b
 rw[c]at d
def aAG a b:=PySem.W.specialIn a b "__get__"
def aAH a b:=Builtin.Slice.slicePlaces a b 1
def apL a b:=PySem.W.hideAll_get _ a b
def apM a b c:=by have:=List.all_eq_true.mp a b c
def apN:=List.nodup_cons.mp nd
def apO:=of_decide_eq_false hk
def apP:=t.tr.ahead.map (·.1)
def Æ:=Nat.lt_irrefl _
def Ç:=AllBare s'.gens
def È:=["_law_script"]
def ê a b c d:=bo.au8.mpr (mC a b c d)
def aAd a b:=uw a "is_border" b
def ë:=aAA Y.ps.length
def SV a b c d e:=by
 obtain⟨a,b⟩:=c
 rw[d]at e
def SW a b c d e:=by
 obtain⟨a,b,c⟩:=d
 exact e
def acC a:=assign a X.env
def SX:=wpAny_pure h
def Sm a b:=by rw[au (if_neg a) b]
def Sn:=As "pieces"
def Mx a:=Dp N.length a
def My a:=mB.trunc ?_ a
def Mz:=E9 "falls"
def B0:=.Constant
def V4 a b c d:=λa b=>absurd c d
def So a:=dC (a false)
def B3 a b:=Sy a (fm b)
def IM a:=W.locks[a]?
def Sd a:=gO Int a
def Ek:=BR Nat
def nc:=List P
def B4:=a! hb
def qq:=uz cN
def z4 a:=λpre ρ M'=>a
def vn:=BV M B
def ng a b:=∀s∈a,b
def MA a:=B.ticks+a
def z5:=MA Y.wait
def wH a b:=λa H1=>b
def apQ a b c:=Int.emod_nonneg a (b:=c) aD
def MB a b:=by obtain⟨rfl,a⟩:=b
def V5:=DecidableEq P
def V6:=lY "straight"
def V7 a:=qL.md xs.length xs.length a
def V8:=ahv "signals"
def HU a:=b9 W.falls a
def auX a:=aO (X.fn a)
def yK:=if_pos h
def yL:=if_pos e
def yM a:=h.at a rfl
def yN a b:=eN (cU a) b pV
def yO a b c:=eN (sY a b) c pV
def z6 a:=(a).toArray
def HV a b:=∀a∈fp,b
def Lp a:=vv b a
def MC a:=ql n a
def vD a b c:=∃M',a/\b/\c
def z7 a b:=d7 a (b)
def g5 a:=aO (a)
def aAI:=List.length_pos_iff.mpr aU
def aAJ:=Bool.and_eq_true_iff.mp hk
def V9 a b:=I.tr x a b
def mG a b:=by rw[cF h1 a h2 b]
def tN:=J7 Y
def apR a b:=["_law_world",a,b]
def aAK a:=("signals",a)
def apS a b c d e:=by
 obtain⟨a,b⟩:=c
 dsimp only at d e
def apT:=by exact List.mem_cons_self
def aq5:=List.mem_filter.mp h
def aq6:=by simp only[Function.comp]
def aq7 a:=wpAny_newObj_type a aUW
def aq8 a b:=B.trains.find? (pB a b)
def aq9 a b c:=aO (PySem.W.codeIn a b c)
def Y6 a:=bR (S a)
def iV:=s.heap.objs.size+1
def kh:=qh 1
def jN:=YL c7 r
def YM:=dt C Y e o M B
def Sp a b c d e f:=by
 obtain⟨a,b,c,d⟩:=e
 exact f
def Sq a b c d:={ a with locks:=b,c:=d}
def yP a b c:=by
 subst a
 rw[b]at c
def jt a:=by by_cases h:a
def ahw a:=s2.heap.objs.size+a
def MD a b c:=by
 unfold a
 rw[Io b c]
def ME a b c d e f g:=by
 refine a
 rw[bJ b c d e f g]
def aOt a:=Y0 a "BaseException.__getattribute__"
def aAL:=beq_eq_false_iff_ne.mpr h
def aAM:=List.filter_sublist.map _
def aAN a b:=aOn a (PySem.evalArgs_none b)
def ì a c d:=I.base.there b a c d
def í a b c d e:=sX Y.rs.length a b c d e
def î a b c d e:=by rw[dw a b c d (bo.adp.mp e)]
def Hu:=.ListComp
def EK:=if_pos h1
def EL:=if_neg h1
def ahx:=Sem Value
def EM a b c:=Ch a b (fW c)
def EN a b c d:=lO a (kS b c d)
def EO a b c d e f:=n8 (Cc a b c d) e f
def EP a b:=yJ (pF a b)
def ri a b c:=⟨a,rfl,b,c⟩
def nh:=some b
def En a:=ZX X.K a
def ni a:=by rw[au d9 a]
def BU a b c d:=if a then b c M else d
def Se a b:=h9 a n b
def ara a b:=Nat.lt_of_le_of_lt (a) b
def aAO a b:=by simp only[a,Option.some.injEq]at b
def ahy:=M'.take M.length
def apE a b c d:=ta a b (wH c d)
def z8 a b:=putK kvs a b
def MF a:=aY (cv a)
def z9 a b c:=by rw[gY a b (a53 c)]
def MG a:=õ C.aT a
def arb a b c:=by
 obtain⟨_,_,_,a⟩:=b
 exact c
def MH a b c:=by
 rw[←a,←b]
 exact c
def qs a:=by unfold a at h
def z_ a b c:=pB a (b∉c)
def aAP a:=by rw[List.getElem?_replicate]at a
def aAQ a:=by simp only[Bool.and_eq_true]at a
def arc a:=base.Ns mainGlobals a
def ard:=List.mem_cons.mp hb
def arf a b:=Heap.SameBut a s.heap b
def arh:=B.greens.map (·.1)
def ari a:=by rw[au List.length_set a]
def arj a:=fk (wpAny_holding a)
def Ss:=Array Value
def Y7:=Option Addr
def Su:=fs.lookup f
def Sv:=! xs.isEmpty
def Qo:=bo.N1.mp r1
def Qp a:=i7 W.trains a
def Qq:=res.getD []
def Qs:=As "locks"
def HW a:=ac6 a Y.ps
def YR a:=backTo pos (Ef a)
def ER a b:=uv a b rfl
def Qt a b c d:=acG.of (sc:=a) b c d rfl wC dP
def nj:=model prog w
def wI a b:=ZP n c7 oU Dz a b
def aAR b:=Nat.lt_of_lt_of_le b a.len
def aAS:=by simp only[decide_eq_true_eq]
def aAT a:=Y0 a "object.__setattr__"
def aAU a b:=aOs (List.mem_range.mpr a) b
def ahz a b c d e f g h i:=by
 rw[fu a b c d e]
 generalize f=g at h i
def V_ a:=Bm xs.length a
def V! a b:=h.awG a b nofun
def V?:=E9 "greens"
def ark a b c d e f:=FnAt K (findIn a b c) d e f
def Wa a:=Y8 a M.length
def MI:=DE X.stack
def MJ a:=i7 B.locks a
def HX a b:=!(mw a b)
def yQ a b c d e f g h i:=Ci a b c ⟨d,e,f,g,h⟩ i
def n!:=by rw[fy hx]
def dN:=d ρ M
def z! a b c:=a[b]? = aY c
def rj a b:=z! ρ a b
def aAm a b c:=by
 obtain⟨_,_,_,a,_⟩:=b
 rw[ie c]
def ï a:=t.steps.length=a
def arl a b c d:=wpAny_execs_nil ⟨a,b,c,d⟩
def Qu a b:=∀a∈B.falls,b
def uG a:=by
 rw[a]
 nofun
def ES a:=by rw[uG (SM a)]
def iF:=.tick
def lT:=gg _
def lC a b:=yv a b 2 _
def yR a:=vp a (dC (η 2))
def ki a b:=BZ a x b
def aAn a b c:=if a then(b,NameKind.cell) else c
def ET a:=yt (a)
def rm a b:=wh (a) b ?_
def ro a b c:=q7 a (b c)
def rq a b:=ro a ς b
def MK a b c d e f g h i:=by rw[yw a b c d e ⟨f,g,h,i⟩]
def ahA a b c d e f g h:=by
 obtain⟨a,b⟩:=c
 rw[nH d e f g h]
def gD:=J' Y r
def o_:=gv gD
def sD a:=⟨a,[]⟩
def arn a b c d:=if a then(b,c) else d
def lD a b:=cg (wU false) a (b)
def aAo a:=Nat.lt_of_lt_of_le a E.le
def aAp a:=s.heap.FunFrames X.base a
def aAq a b:=List.filter_congr (c! a b)
def aAr a b:=aY (PySem.W.methodObj a b)
def aAs a b:=aO (PySem.W.hasDictIn a b)
def aNG a:=aO (PyData.canLayAll0 a)
def aro:=env.cells.lookup n
def arp:=List.mem_cons.mp e
def arq a b c d:=codeAny_mono a (cG b c d)
def ars a b:=s2.heap.push (Ip a b)
def art:=B.locks.map (·.1)
def a1M a:=er "train_called" a
def aru a b:=aO (PySem.W.isFn a b)
def a1J:=Array DictEntry
def ahB:=h1.symm.trans e
def ahC:=Int.ofNat.inj e
def ahD:=["_law_world","_law_word","_law_number","_law_name"]
def ð:=bo.kz.mpr rfl
def ñ:=aO d.canLay0
def HY:=if_pos hk
def HZ:=if_neg h2
def arv a b:=HG (oj a) b
def H6 a b c:=kO a (nE b c)
def H7 a:=by rw[eg (LO a)]
def af6 a b:=S6 a (Vp b)
def ahE a b c:=Aw (h7 a) b c
def arw a b:=fT a (aO (ã b))
def H8 a b c d e f g:=Ch a b (YN (Cc c d e f) g)
def H9 a:=q? (a == sysModules)
def B5 a b c d e:=by obtain⟨a,vs,b,c,d⟩:=e
def ahF a b:=lj (S4 a b)
def Wb a:=fm (mP a)
def CX a b:=by rw[U? a (ald b)]
def CY a b:=F? (bt a) b acm
def Ey a:=ü C.aT a
def zS a:=Pl deep a
def wJ:=aY g4
def wK:=LM aI
def ML:=oS X.K
def Qv a b c d e f:=by
 refine a
 obtain⟨ι,b,c,ρ,ba,sl,d⟩:=e
 refine f
def EU a:=ρ.set a iB
def CZ a b:=fx a ρ b
def iW:=agp t
def Hv a b:=holding a (b)
def EV a:=xs.length-a
def arx a:=tupleKind (a)
def ek a b c:=by
 rw[a,b]
 exact c
def yS a b c:=by
 rw[a]at b
 refine c
def aOu a:=a "BaseException.__getattribute__"
def ahG a b c d e f g h:=by
 obtain⟨a,b,c⟩:=d
 rw[cV e f g h]
def H_ a b c d e f:=by
 rw[cF a b c d]
 have e:=f
def Eh:=gO κ V
def z? a:=i8 W.trains x a
def Aa:=uq 0
def nk a:=Sz a 1
def H! a b c d:=e7 (a.2 b c) d
def vM a b:=w ι S H a lM ba b
def yT a b:=a->Option b
def Ab a:=by
 simp
 exact a
def aAt a:=["_law_one",a]
def ġ a:=M.length≤a
def MM a b:=d.map λa=>b
def lE a:=by by_cases e:a
def H? a b c:=bp a b rfl (cx c)
def Wc a b c:=if a then .b else c
def Ac a b c:=by rw[cB a (λb=>c)]
def Ia a b c d:=by
 have a:b:=c
 subst d
def akY a:=(false,nA a)
def aAu:=List.range h.objs.size
def aBA a:=List.mem_append_left _ a
def aNH a b c:=swapsWithSole a b pos.line c
def aBB:=PySem.W.plainGet_of hg
def aBC a:=by rw[au a List.mem_cons_self]
def aBD a:=Y0 a "object.__class__"
def aBE a:=kU a Array.append_assoc
def qt:=a! hk
def ģ a:=CZ ds a
def aqF a:=by rw[List.flatMap_append,List.flatMap_cons,List.flatMap_nil,a]
def aOv:=List.getElem?_eq_some_iff.mp h1
def aOw:=List.getElem?_eq_some_iff.mp hx
def aOx:=List.getElem?_eq_some_iff.mp Bq
def aqG:=t.tr.ahead.map bk
def aqH:=aqm "_law_signal"
def aqI a b:=uw a "pass_signal" b
def Wd a:=Value.int i a
def We a:=Value.str a t
def Wf:=lY "branch"
def Wg a:=rs.foldl oM a
def Wh a:=ng t.steps a
def Wi a:=ng t.ahead a
def Qw a b:=(by simp[a,List.find?_cons,b])
def Qx a:=i7 W.falls a
def Qy:=c5 "tick"
def Qz a b c:=z7 a (encD b c)
def xZ a:=au2 true a
def Ib a:=B_ a (af 1)
def ahH a:=ú a b_
def Wj a b:=Lu (gQ 0) a b
def x6:=MC kvs
def qg:=.bool
def QA a b:=cg (jj false) a b
def uH:=ak5 ps ss
def Ad a b c:=yv a b 1 c
def rt a:=vp a (dC (η 1))
def aqJ a b:=by rw[a,Bool.and_eq_true]at b
def aBF a:=List.mem_of_getElem? (a)
def ahI a:=evalEach a X.env
def ahJ:=t.ahead.take 1
def ahK a b:=e7 (f1.trans a) b
def agX a:=fT a p.js.Nodup
def EW:=DE outer
def EX:=["step"]
def EY:=a.map bk
def EZ:=YV Addr
def Wk:=c5 "ok"
def aQd:=hG Y.ps.length Y.rs
def E0 a b c d:=Ay (e_ a b c) d
def Wl a b c d e f:=Ff a (aB b c) d e f
def E1:=some .free
def E2 a b c:=agj (fO a b) c
def ru:=eB t
def Wm a b:=["yard",a,b]
def gE a b:=dR a≤b
def kj a b c:=q2 (a) b s1 c
def sE a:=J6 ak4 T.alb ak8 (ef a)
def x7 a:=J6 ak4 T.alb ak8 (agD a)
def jO a:=uE (a)
def aOy:=List.idxOf_lt_length_of_mem hm
def aBG:=List.mem_filter.mp h'
def aBH:=List.mem_filter.mp hm
def aBI:=List.mem_filter.mp hq
def aBJ:=List.mem_append.mp hm
def aBK:=List.mem_append.mp hs
def aBL:=I.mod.glob.keeps I.kA
def aBM:=List.getElem?_range h
def aBN a:=List.length_take_le _ a
def aBO a:=by rw[au List.append_assoc a]
def aBP a:=by rw[au List.length_range (e! a)]
def aBQ:=by rw[aqa List.size_toArray]
def agY a b c:=if g5 a then b else c
def ĥ a b c d e:=by
 have a:=b
 obtain⟨c,d⟩:=e
def ħ a:=cm a xs.length
def ĩ a b c d:=by
 rw[d8]
 rw[cF a b c d]
def ī:=YV NameKind
def ĭ:=c5 "branch"
def į:=ù "routes"
def a1H a:=er "way_of" a
def apz a b:=aAe a b pos.line
def MN:=some none
def MO:=if_neg hk
def ĵ a:=heldW a b3
def L5 a b:=LD a (e! b)
def L6 a b c d:=by rw[dm a b (rm c d)]
def L7:=YV Value
def L8 a b c:=by rw[iC (c! a b) c]
def L9 a b c d:=by rw[iC a (cG b c d)]
def L_ a b:=uF a (fW b)
def L!:=⟨t.steps.dropLast,t.ahead,t.out⟩
def L? a b:=lD a (h7 b)
def ķ a:=a=ps.length
def Ic a b c d e f:=by rintro ρ' a ⟨b,c,d,e,f⟩
def Wn a b:=λa b=>rfl
def C0 a b:=List.filter_eq_self.mpr (Wn a b)
def ry a:=d7 a ns
def jP:=.turn
def nq a b:=aqn ρ a d aq b
def vN:=LQ c8 w ι1 bf aa H1 x v e1 s1 r1 w1 ?_
def C1 a:=[none,a]
def ĺ a:=C1 (some a)
def aqK a:=t.tr.steps.length=a
def aqL a:=s1.heap.objs.size+a
def aqM a:=W.trains.filter (a)
def QB a b c d:=λa b=>⟨c,d⟩
def qu a b c:=pB a (b≠c)
def uI a:=λσ H Q=>a
def Ie a b c:=du G.own G.calm (a) b c
def Ez a b c:=Ie (kZ a) b c
def C2 a b c:=lz (eN (sQ (a)) b pV) c
def x8 a b c d e:=C2 (cg a b c) d e
def g_:=bW C.dK M
def n? a:=by
 rw[a]
 omega
def Ma a b:=by
 simp at a
 subst b
def aqN:=by rw[List.any_eq_true]
def aqO a b:=wpAny_pure (lK a b)
def aqP a:=List.replicate m a
def aqQ a b:=uw a "route_past" b
def aqR:=aAt "_law_route"
def aqS a:=by rw[iU a List.map_map List.map_map]
def agZ a b:=s₁.heap.get? a=b
def ag0 a:=Str.ofString (toString a)
def Ae:=uD (gP b_)
def Hp:=ET ô
def Af a b c:=by rw[Ia a b B4 c]
def VE a b c d:=by rw[B7 a rfl hρ (jd b rfl (gg c) d)]
def uJ a b c d:=by
 refine a
 have b:c:=d
def kn:=.draw
def ko:=dh k
def VF a c:=cG b a c
def kq:=HJ s
def kr:=pN b
def kX:=Lp o
def vO:=E3 p.1 p.2
def aAb a:=ends.length=a
def VG a b c:=by
 unfold a
 rw[q_ b c]
def aBR a b:=⟨a,b,M.length⟩
def vP a b c:=xF a (xF b (c))
def vQ a b:=xF a (ef b)
def Ig a b:=xF a (B8 b)
def Ag a b:=xF a (fm b)
def ļ a b c:=vP a b (An c)
def Mb a b c:=vP a b (ef c)
def QC a b c:=by
 rw[kQ a b]
 exact c
def QD a b c d e f:=by
 intro pins a σ b c d e
 exact f
def uK a b:=by
 have:=a
 rw[b]at this
def aBS a:=by refine wpAny_truthy_bool a
def aBT a:=h a List.mem_cons_self
def aNI a b c:=s.heap.IsSliceOf a b c cP
def aBU a:=by simp only[Bool.and_eq_true,decide_eq_true_eq]at a
def vR a:=by by_cases hb:a
def ľ a b c:=zo X.K a b c
def sF:=aql rC
def sG:=YV aj
def EA a:=by rw[bG a w1 w1.elim]
def aOz a b:=cf.toArray.eraseIdxIfInBounds a=b
def ń a b c:=by
 simp at a
 rw[fq b c]
def C3 a:=mg a = none
def QE a b:=cg mO (a) b
def Ah a b:=QE (pD wV a) b
def aOA a:=X.s₀.heap.FunFrames X.base a
def aOB a b c:=Builtin.Slice.sliceAdjust lo a b c
def aOC:=List.drop_eq_getElem_cons g8
def ag1:=Value.ref iV
def ag2:=X.base.get? b
def ag3 a c d e f:=I.base.keep b a c d e f
def ag4 a b c d e:=I.base.slot a o b c d e
def ag5 a b:=kvs.any (pB a b)
def ag6:=iz aa.length
def ag7:=["_law_name","_law_at","_law_world"]
def Ih:=Option V
def Ii a:=I.own r' a
def Ij:=F.map pW
def Ik a b:=by
 rw[dz a b]
 rfl
def Il a b c:=iD (F? a b c)
def qV:=gO Key V
def x9:=λ_=>true
def kW:=A3 Y b_
def Mc a b c:=nM false a b (bP 0) c aq
def aBV a:=by rw[a,List.filter_cons]
def aqT a:=t.ahead.length≤a
def aqU a:=by simp only[h,a]<;>omega
def Ai a b:=by
 show a
 refine b
def YW a b:=∀a∈b,jZ
def ag8 a b:=if a then 1 else b
def VH a b c:=by
 intro a b
 rw[HB c]
def VI:=e.trans e1
def VJ:=hh.trans q
def VK:=hu.trans q
def VL:=as.map enc
def VM a b:=i8 B.falls a b
def aqV a:=Hm a W.locks
def VN:=c5 "turn"
def apv a:=bR (X.mg a)
def aqW a:=Wm "name" a
def ag9 a:=X.mg a = none
def tU a b c:=upd a b (c)
def x_ a:=iD (Ga (a))
def aOD a:=by simp only[Array.length_toList]at a
def aqX a b c d e f:=by
 obtain⟨a,b⟩:=c
 rw[yy d e f]
def Md a:=a∉W.green
def Me a b c d e:=codeAny a b (c) d e
def Mf a b c d:=by
 rw[q6 a b c]
 exact d
def aBW a b c d:=by
 obtain⟨_,a,b,_⟩:=c
 rw[ie d]
def VO a:=W.green++a
def EB a:=a<M.length
def aOE:=List.getElem?_eq_getElem g8
def aNJ a b:=swappedStores a b X.env
def aBa a:=PySem.W.lookIn name a
def aBb a:=of_decide_eq_true a.2
def aBc a:=List.mem_range.mp a.1
def aBd a:=List.drop_sublist _ a
def aBe a:=fk (wpAny_standAt a)
def aBf:=cW W.green.isEmpty
def aBg a b c d:=by rw[fJ a (OK.symm.trans b) c d]
def aqY:=by rw[List.filter_map]
def aqZ a b:=by
 dsimp only
 rw[au a b]
def aq0 a b c:=yv a "_law_ways" b c
def aq1:=Iq Y.rs.length
def aq2 a b:=uw a "_law_pass" b
def aq3 a:=bR (pre.find? a)
def aq4 a b:=Ad a "is_points" b
def aqw:=["_law_joint","_law_ends"]
def ņ:=e2.trans e3
def ň a:=h.J.put rfl a
def ō:=As "green"
def ŏ a:=aO (small a)
def QF:=["piece"]
def QG a b c d e:=by rintro ρ' a ⟨b,c,d,e⟩
def QH a:=I.lock a hp
def QI a b:=HG (au2 false a) b
def aNB:=gO κ Value
def QJ a:=cW (Ln a)
def QK a b:=Ec a hr G.mT (ef b)
def QL a b c d e f g h i j k l m n o:=by rw[Iv a b c d e f g h i (lC j k) l m n o]
def QM a b c:=bootBuiltins a = d7 b c
def aqx a b:=z? (Cb a b)
def QN a b c:=C2 (cg (fi false) az a) b c
def PO a:=wKs Y a W.now j
def PR a b c d:=aAY (HX a b) (mw c d)
def C4:=.Assign
def ő a:=Vals a cf
def C5 a b c d e f:=he pins a b c d e f
def acp a:=X.env.scope.names.lookup a=Cp
def C6:=LM bw
def VP:=agx b_
def C7:=dh (gP s).1
def C8 a b c:=Qt a b c Au
def vS a b c:=by
 have a:=b
 exact c
def tV:=some _
def ŕ a b c:=hE a b aq c
def PS:=S! res
def HL a b:=iy (cq G.hu) a b
def tW a b:=acI a (af 0) b
def tX a:=nE a h'
def R9:=gO κ aj
def tY:=IJ 39
def VQ a b c d e f g h i j:=yY (xs:=a) (b:=none) (M':=c) d e f g h trivial (gg none) i j
def ŗ a b c d e f g h i j k l m n o:=by
 intro a hP hw hK hc b pins c σ d e f hf g h
 subst i j k
 obtain⟨l,m,n⟩:=o
def HM a:=pure (a)
def PT a:=HM (ForInStep.yield a)
def HN a b c d:=cg eT a b c d
def lF:=dh p
def Hi:=nA o
def lG:=aql P
def oz a b:=aER X a b
def Aj a b:=oz (binaryOp .a) b
def PU a b c d e f g:=λpins a b c d e f=>g
def Mg a b:=∀a∈xs,b
def x! a b:=agq (a) b
def ya a b c:=x! (Zq a b nofun) c
def mH a b:=(a).lookup b
def aBh a b c d e f:=fk (wpAny_field a b (c:=d) e f)
def eW:=ae 5
def Mh a b c d e f g:=by
 rw[cF a b c d]
 have e:f:=g
def aOF a:=by rw[List.getLast?_eq_getElem?]at a
def ř a b:=by injection a with b _
def mJ a b c d:=by
 unfold a
 rw[b,c,d]
def p! a:=Nat->a
def dg:=p! tF
def C9 a b:=p! (a->b)
def aOG a b c:=List.mem_filterMap.mpr ⟨a,b,c⟩
def aBi a:=a=4611686018427387904
def aBj a:=items.toList.drop (a)
def aBk a:=List.mem_range.mp (a)
def ç a:=a<cLine
def aQa:=ç (apC 64)
def aOH a:=PySem.F.args_tuple_add_2 _ a
def aOI:=Bool.and_eq_true_iff.mp ho
def aha a b c d e f g h i:=FC.imp (a:=b) c λd e f g h=>i
def HO a b:={ B with a:=b}
def VR a b:=wh a M b
def aBl a:=by rw[List.map_append,a]
def aBm a b c:=by
 unfold a at b
 dsimp only at c
def aBn:=Option.some.inj e2
def aBo a:=PySem.W.instObj a dx
def aBp:=X.s₀.heap.get? b
def aBq:=Nat.lt_succ_self _
def aBr a b:=s3.heap.push (Ip a b)
def aBs a b c d e:=Heap.FlyingW a outer b c d e
def aBt:=PyData.depthAll cH
def aBu a:=List.cons_ne_nil _ a
def aBv:=t.steps.map (·.1)
def aBw a:=er "is_number_of" a
def aBx a b:=uw a "_law_signals" b
def aBy a b:=Ad a "check_pieces" b
def aBz a b:=Ad a "pieces_under" b
def ahb a:=by exact wpAny_pure a
def ahc a:=aeD s₁.heap a
def ahd a b:=by
 rw[j!]
 rw[au a b]
def ahe:=["_law_script","_law_k"]
def Mi a b:=uT false a b
def auZ a:=Good0 a aH
def Mj:=Tt false
def Mk:=w.map bk
def ahf a:=jx (avm a)
def Ml:=Ξ 1000
def Mm a:=by
 rw[dz a List.map_map]
 rfl
def Mn a b c:=by
 have:=a
 rw[bG b this c]
def Mp a b:=e7 (agL (pP a)) b
def Mq a b:=QE (ae a) b
def Mr a b c:=QE (aB a b) c
def Sh:=e₀::rest
def acy a b c:=Mg a (Pl b c)
def vU:=.steps
def vV:=h7 []
def vW:=iR xs
def ś:=encD J_ B.falls
def vX:=SE xs
def LW a b c d e:=ZT M.length G.length last a fQ b c d e
def vY a:=kU av a
def HP a b:=aHu a pins σ b
def vZ:=nL true []
def eL a b:=ZJ M a G b
def aqy a:=kvs.length<a
def VS a:=by simp only[a]at w
def aOJ a:=Builtin.List.listTooLong (a)
def aqz a b c d e:=h2.fld (a:=b) (c:=aq) d e
def HQ a b c:=pB a (b∈c)
def aA0 a b c:=by
 obtain⟨_,a⟩:=b
 rw[ie c]
def aA1 a b:=by rw[a,Int.toNat_natCast]at b
def ŝ a:=ds.length≤a
def Õ a b c:=by
 refine a
 rw[au b c]
def Ak a:=by by_cases h1:a
def Al a:=by
 subst a
 simp
def Am a:=trunc (a)
def aOK:=List.getElem?_set_self g8
def aOL a:=s.heap.IsTuple a cf.toArray
def aNX:=es.toList.any (·.refKey)
def aNY a b:=PySem.F.args_dict_pop_3 _ a b
def aNZ a:=PySem.F.args_dict_get_2 _ a
def aN0 a b:=PySem.F.args_dict_get_3 _ a b
def aN1:=List.length_pos_iff.mpr h
def aN2:=by rw[Vm List.length_singleton]
def aqA a:=W.points.set p a
def aqB:=acc.map (·.1)
def aqC a:=by rw[cA rel.length a]
def a1L a:=er "_law_mix" a
def aqD a b:=uw a "is_clear" b
def aqE a b:=S4 ⟨t.tr.steps,a,t.tr.out⟩ b
def ar4 a b c d:=ark a b "__init__" "__init__" c d
def EC:=aY nI
def PV a:=lK a rfl
def ED:=Y.ps.length≤100
def EE:=Vj 100
def EF a:=Ip Cf a
def Sa a:=rj a aR
def VT:=C1 sC
def sH a:=by rw[uo t a]
def nr:=b9 B.trains x
def nt a:=by rw[bG a w w.elim]
def tZ a c d e:=mE b a c d e
def nu a:=U9 a _
def auT:=Hr x ("__debug__" : Str)
def nv a b c:=by rw[jw a (pO (P:=λb=>c) ?_)]
def nw a b:=h.fld (ρ:=a) (d:=aq) rfl b
def HR a:=k8 o M a M'
def ny:=pre.flatMap (A9 ps ss n way j a)
def aS a:=(a:Int)
def gi:=aS n
def ahg:=aS xs.length
def VU a b c d e f g h:=by
 obtain⟨a,b,c,d,e,f⟩:=g
 exact h
def aA2 a b:=sc.names.lookup a == b
def aA3 a:=by rw[List.lookup_cons]at a
def aA4 a:=s.heap.objs.size≤a
def aA5 a:=wpAny_execs_cons (a)
def ku a b:=λ_ _ _ a=>b
def C_ a:=ku _ (a)
def yb a:=C_ (a6H a)
def iX a:=C_ (apI 0 a)
def aN3 a b:=List.map_congr_left (a:=id) b
def aA6 a b c d e f:=I.laid (a:=s.toks) (b:=c) d e f
def fK a b:=iY (a=b)
def aN4:=h2.get? s.heap.objs.size
def aN5:=h'.get? s.heap.objs.size
def aN6:=List.getElem?_set_self h
def aN7:=by simp only[List.size_toArray]
def aN8 a:=Nat.min_le_right a d.depth
def aN9 a:=Nat.min_le_left d1.depth a
def a1T:=W'.green.Sublist W.green
def aOa a b:=lP a (List.mem_range.mpr b)
def aA7:=decide_eq_false h
def aA8:=some X.env.locals
def aA9:=Option.some.inj e
def aCw:=aK PyData.eqvAll
def aCx a:=er "check_piece" a
def aCy a b:=uw a "shut_pieces" b
def ahh a b c d e f:=I.aXd (its':=a) b c d e f
def ahi a b:=ba.tree (o:=a) b
def ahj a b:=PyData.eqv (a) b
def Ö:=if_neg aD
def Ø:=Ne.symm aU
def Ù:=ns.map η
def Ú:=bo.fA.mp r
def Û:=lY "locks"
def Ü a:=fj.at Y.ps a
def Ý a:=any_keys d a
def Þ a:=iG a B.falls
def ß a b c d e:=pI (model X.prog X.w) a (call b c) d e
def ā a b c:=j6 (call a b) c s
def VV:=if_pos hc
def VW:=if_neg hy
def VX:=["train"]
def ă a b:=g a nofun nofun b
def VY:=ps.zip us
def VZ a:=valueAt a k
def V0:=Ug.map wZ
def Vv a:=a7C a s.f.I
def Vw a:=dh (aS a)
def Vx a b:=iD (S0 a (b))
def Vy a b c:=iD (Ez a b c)
def Vz a:=qm (ahH a)
def ą a b c d e:=n8 a b (n8 c d e)
def ahk a b c d e:=kc a b (kc c d e)
def VA a b:=HV a (IK b)
def VB a b c d:=Qt a b c (ĺ d)
def VC a b c d:=C2 (QA a b) c d
def æ a b c:=BU (HW a) b c g_
def ahl a:=⟨a,aD⟩
def HS a b:=by
 have:=a
 rwa[b]at this
def yc a b:=I.bz a _ b
def yd:=Res α
def LX:=zk (Ξ 1)
def VD a b:=ax a (af 0) b
def ye:=au2 false tP
def yf:=BR Bl
def yg a:=by obtain⟨h1,h2⟩:=a
def yh a b c d e f:=λa b c d e f=>?_
def W0 a:=aab [] a
def oA:=xM v
def oB:=S? r W.locks
def oD:=c! b hb
def sI:=wW c7 r
def jQ a:=λp hp=>a
def EG a b:=by
 have:a:=b
 omega
def ar5 a:=a<B.lying.length
def ar6 a b c d e:=Paired.aJU a λb c d=>e
def ar7 a:=Nat.le_of_lt (a)
def ar8 a:=by
 refine a
 dsimp only
def t6 a b c d:=by
 have a:b:=c
 exact d
def t7 a b c d:=by
 have a:b:=c
 refine d
def aCz a b:=by obtain⟨o,_,_,_,a,_⟩:=b
def aCA a b c:=looks_findIn (a:=b) iu c
def ar9 a b c d e f g h:=I.write (x:=a) (b:=c) d e f g h
def W2 a b c:=aSs (a:= b) c rfl
def lB a b:=sq a ob (b aG)
def aCB a:=a≤999999999999999
def aCC a:=scope.names.all (a)
def aOb:=Heap.IsSliceOf.new ..
def aOc:=List.getElem?_set_ne h2
def aOd:=List.mem_of_getElem? hi
def aOe:=List.dropLast_sublist _
def asa:=(by kernel_rfl)
def asb:=fs.map (·.1)
def asd:=co.cells I.ok
def ase a:=bs.getD a false
def asf:=ps.map fj.enc
def ash a:=hp.gt a nofun
def asi a b c d e:=ant a b c "train_in" d e
def asj a:=by rw[cA rs.length a]
def asl:=jK ys.length
def asm a b c:=yv a "ways_on" b c
def asn:=E9 "signals"
def aso a b c:=if a then(xs.length:b) else c
def aAh:=ġ M'.length
def asp a:=by
 rw[←rk.length]
 simpa using a
def ahm:=Option Expr
def agN a b c:=I.base.oI a o b c
def agO:=aXO.trans xh
def agP:=lY "routes"
def agQ a b:=by rw[bG a b w2.elim]
def agR a b:=Lv a b "route"
def agS:=MG "falls"
def agT a b c:=kvs.all λa=>aj.mM b c
def PX:=A_ false
def PY a b c:=nL false a b c
def PZ a b c:=fi false a b c
def P0:=aQ9 false
def P_ a b:=by rw[au (a67 a) b]
def P!:=by rw[eg h.TQ]
def P?:=Ar Bool
def Qa a b c d e f g:=by rw[ur a b c d e f (cj g)]
def Qc:=j5 h.y0
def Qd:=oj T.au5
def Qe a:=by
 have:=a
 simpa using this
def Qf a b c d:=Ch a b (YN (Ga c) d)
def Qg a b c:=by rw[gZ (aU a b) c]
def Qh a:=iD (N3 T.aQX hr a)
def Qi a b c:=Ie (aEK T.aEP a) b c
def HT:=some ys
def Jl:=some fQ
def Jm a:=I.pin p a
def Jo:=by rename_i hc
def Jp a:=fresh c a
def Jq a:=H.x a rfl
def Jr a:=H.b a rfl
def akW:=cO Int
def Lq:=t.tr.steps.length≤100
def Js:=fG "object.__class__"
def Jt a b c d e f:=by rw[aqv a b c rel d e f]
def Ju a b:=Ax a (af 1) b
def agU a:=Cn (cn false) a
def aEb:=g5 (apos.endLine == dc.line)
def Jv:=("pieces",h!)
def acu:=jz X.N x
def Jw:=dH "tuple"
def o? a:=by refine cj a
def pe a:=by rw[au e a]
def FL:=List.length_filter_le _ _
def pg a:=aO (aj.mM n a)
def Qj a c d:=H! a b c d
def W3 a b c d:=jc (xP a b [] c) (d)
def v3 a:=VF a q
def Jx a b c d:=tU a b (c d)
def FN a b c:=Jx a b ς c
def qX:=b::rest
def LY a b c d e f g:=by rw[bJ a b c d e (λf=>g)]
def asq a b:=if a then j else b
def asr a b c:=if g5 a then b else c
def W4 a b c d:=if a then b::c else d
def aAi a b c:=if(a).isEmpty then b else c
def v5 a b c d:=a[b]? = z7 c d
def tR a:=a≤100
def aCD:=! W.green.isEmpty
def aCE:=beq_iff_eq.mpr h
def aCF a:=List.replicate n a
def aCG a:=seqIndex_neg aD a
def aCH a b c:=sliceBounds a b none c
def aCI a:=aY (Y.ss.idxOf a)
def aCJ a b c:=yv a "_law_there" b c
def aCK a b c:=yv a "_law_asked" b c
def aCL a b c:=yv a "_law_clear" b c
def aCM a b:=uw a "_law_enter" b
def aCN a b:=Ad a "_law_start" b
def aCO:=ag9 "isinstance"
def Ho a:=a (·.2)
def zV:=by exact this
def Jy a:=iy a (af 0) (af 1)
def aEa:=Ef es
def ć a:=kO H' a
def BS a b:=aAY (! a) b
def zW:=jz xs x
def YS:=jW kvs vs
def mK:=.seq
def zX a b:=eT (a) (η b) M
def Qk a b:=zX (bk a) b
def aOf a:=Nat.one_le_two_pow (n:=a)
def aCP a b:=by rw[a,List.nodup_cons]at b
def ĉ a:=t.tr.ahead=a
def ċ a:=a<1073741824
def č a b c d e f g:=by
 rw[bJ a b c d e f]
 refine g
def ď a b c d:=by
 rw[agh a b c]
 exact d
def t8 a b c d:=⟨a,rfl,b,c,d⟩
def Ql a:=(a).objs.size
def aOg a:=s.heap.Ns X.env.locals a
def aOh:=List.getElem?_set_ne h
def aOi:=List.mem_of_getLast? h
def aOj a:=aO (PySem.W.handedIn a)
def aOk:=by rw[n? List.length_append]
def aOl:=by rw[aBV List.filter_append]
def qa a:=a false
def yi a b c:=bp a b ?_ c
def El a:=jc a d
def Lr a:=∀r<Y.rs.length,a
def LZ a:=Dq (i:=a) rfl
def FO:=J8 Y W.trains b_
def qb:=dh q.1
def qc a b:=by
 intro pins s σ H a I h
 refine b
def auU:=hG n c7
def qd a b:=bF K ι S a b
def W5 a b c:=by
 show a
 rw[au b c]
def L0 a b c d e f:=by
 refine Br.imp a λσ H Q b=>?_
 obtain⟨ι,S,M,ρ,ba,sl,w⟩:=c
 refine⟨ι,d,e,ρ,ba,sl,f⟩
def pA a b c:=a[b]? = Hw c
def W6 a b c:=Ec a hr G.mT (xF b (c))
def L1 a b c:=W6 a b (ef c)
def L3 a b c d:=W6 a b (Ig c d)
def yj a b:=SD (a) b ?_
def d! a b:=Et (k+1) a (b)
def aCQ a:=by rw[a,List.lookup_cons]
def aCR a:=W.green.filter (a)
def đ a b c:=by obtain⟨a,h1,b⟩:=c
def ē a b c:=show a∈b from c
def agV a:=a≤ps.length
def agW a b:=ip.map λa=>b
def ass:=["_law_piece","_law_joint"]
def asu a b c:=by
 unfold a b c
 dsimp only
def W7 a b c d e f:=by
 have a:b:=c
 rw[bQ d e f]
def qe a b c:=a λb M2=>c
def aNN:=List.mem_append.mp h1
def aNO:=List.mem_append.mp h'
def aNP:=List.mem_append.mp hk
def aNQ:=List.mem_append.mp hq
def aNR:=List.mem_append.mp hy
def aNS a:=congrArg Array.toList a
def aNT:=PySem.mem_of_lookup h
def aNU:=of_decide_eq_false cE
def aNV:=lQ List.append_assoc
def aNW:=by rw[aBl List.nodup_append]
def aPl:=by rw[List.replicate_succ,List.replicate_succ,List.flatten_cons,List.flatten_cons]
def aCS:=.FormattedValue
def aCT:=Paired.length r
def aCU a:=PySem.Within mA a
def aCV a:=aZu X.env.scope a
def aB7 a b:=Heap.SameBut a b h2
def aNK a:=OJ a "isinstance"
def aB8 a b:=PySem.W.mroIn K a b
def aB9 a b:=qL.md cf.length a b
def aCa a:=s.heap.update p a
def aCb a b c:=yv a "_law_done" b c
def aCc a:=er "signal_of" a
def aCd a b:=uw a "routes_on" b
def aCe a b:=uw a "_law_deed" b
def aCf a:=ap7 a nU.ok.above
def aCg a b:=Ad a "last_step" b
def aCh a b:=Ad a "_law_tick" b
def aCi:=B.lying.length=Y.ps.length
def asv a b c d e:=by
 obtain⟨a,b⟩:=c
 have d:=e
def arH a b:=IsTup s.heap a b
def arI a b:=I.base.qB a xs b
def arJ a b:=I.base.qC a ps b
def arK a b:=isTrue a X.env b
def arL:=! kvs.isEmpty
def arM a b:=assign a X.env b
def aAf a b:=getMethod a b pl
def arN a b c:=bindL kindOf a b c
def arO a b c:=bindC kindOf a b c
def aAg a b c:=Reads s.heap a b c
def arP:=f.map (·.1)
def arQ a b:=kB a aa.length b
def arR:=get_set h.y5
def arS:=h.J.same rfl
def arT:=aYm W.trains
def arU:=c5 "points"
def arV:=c5 "trains"
def arW a:=aO (aj.mM M.length a)
def arX a b:=hJ Y a b M.length
def arY:=lQ (isEmpty_eq q.length)
def arZ a b c:=by rw[ek a (if_neg b) c]
def a1N a:=yT a NameKind
def ar0 a:=Wm a "usable"
def ar1 a b:=S4 ⟨a::t.tr.steps,b,t.tr.out⟩ M.length
def ar2:=aqW "signal"
def ar3:=aqy sizeLine
def ary:=["_law_script","_law_base","_law_pieces_here","_law_loose","_law_many","_law_k","_law_number","_law_ends","_law_j","_law_pick","_law_others"]
def ĕ:=Sum.inl k
def ė:=h'.get? a
def ę a:=tok a s.f.I
def ě a b c d e:=fk (S5 a b c d e h'.elim)
def ĝ a b c d e:=by rw[cV a b c (rm d e)]
def ğ a b c:=j4 (uv a b c)
def Ë:=gO Key Value
def Ì a b c d e f g:=by rw[nH a b c d (Qj e f g)]
def Í a:=aO (iY a)
def Î a b c d e f g:=kR (ø a b c d e f g)
def Ï a b:=pF (h7 a) b
def Ð a b c d:=kS a b (lO c d)
def Ñ a b c:=iD (Lu a b c)
def Ò:=Mt names
def Ó a b c d e f g:=by
 rw[jw a (pO (P:=λb=>c) ?_)]
 simp only[bB,zD,zE,gx,Nat.zero_add,Nat.reduceAdd,Nat.reduceSub,List.replicate,f9,fz,eP]
 rw[q8 d (nq e f) g]
def Ô a b c d:=SU a b (Cd c d)
def Ħ a b:=ER a (aAX b)
def Ĩ a b c d:=ki a (qe b c d)
def Ī a:=J6 ak4 T.alb ak8 (fm a)
def Ĭ a b c:=BU (LP a) b c g_
def Į a b c:=vP a b (fm c)
def Ĵ a:=p! (cO a)
def Ķ a b:=fK (SZ a) b
def apA a b:=backToKw a (keywordEach b X.env)
def Ĺ a b:=IM a = Hw b
def L4:=by rename_i hl
def Nh a:=M.set n a
def Sk a b c d e f g h:=zc a b c d base e f g h
def Ni:=G.sg hr
def Nj:=avq G.hu
def Nk:=aY aI
def Nl:=aY kN
def Nm:=aY PS
def Nn a:=jJ a gi
def Np a b c d:=if a then b c d else aF
def Nq:=HJ (s4 t.tr)
def acB a b:=sq c_ a b
def Nr a b c:=e7 (g a b) c
def Sl:=wm eG
def Nt:=Vi fe
def Nu:=agy fe
def Nv:=ic q3
def Nx:=fB.ins C.tr (lj (t0 M.length))
def Ny:=aAK nI
def Nz:=i_ ns k N names nm l w n a b6 none
def NB:=C1 iB
def NC:=aE "branch"
def ND a b c:=W3 a b pos c
def NF:=kh+G.length
def W8:=.train
def C!:=some y
def Ļ a b c d e f:=h pins a b c d e f
def Qm a:=flat M a
def C? a b c:=lX a b c eu
def Dc a:=by rw[au (lA aU) a]
def Dd a b c d:=by rw[dw a vs b c (bo.au8.mp d)]
def De a b:=by rw[eV a b ?_]
def Df a:=by rw[au d9 (e! a)]
def W9 a b:=ľ a aH b
def CA a b:=au7 a T.aQ7 aQT b
def Ľ:=Cn il (af 3)
def FP a b:=by rw[a,if_pos b]
def ail a b:=by rw[FP (if_pos a) b]
def v7 a:=by rw[a]at h⊢
def NG a b c:=a ρ λb aa=>c
def rz a b c d e:=by
 have a:b:=c
 rw[d]at e
def yk a:=IG _ a
def yl a:=Cr a M ?_
def aQb:=wI W B
def ju a:=a true
def NH:=ju qg
def cu a b:=a=some b
def arz a b:=cu (K.lookup a) b
def zY a:=sQ (a)
def t9 a:=zY (cg (fi false) az a)
def t_ a b:=zY (n_ a b)
def arA a b:=zY (cg (fi true) a b)
def Jz a b:=zY (QA a b)
def CB a b c:=zY (cg a b c)
def aim a b:=zY (n_ (pD mO a) b)
def aCj a b:=∀a∈scope.names,b
def arB a b:=by simp only[a,b,fj.enc]
def Qn a:=a<l.length
def Ń a:=by
 rw[←a]
 simp
def az7 a:=typeOf (a)
def PE a b:=L2.Fin a (b)
def Ņ a:=("near",a)
def ain:=(by simp only[List.size_toArray]<;>omega)
def apF:=xs.map enc
def aio:=h1.trans z
def aip a:=IntsAre vs a
def apG:=Or.inl rfl
def aiq:=bo.N1.mp r
def air:=bo.aRd.mp r
def ais a b:=lW a "ahead" b
def ait:=lY "falls"
def aiu:=cv t.steps
def aiv:=cv t.ahead
def aiw a b:=i8 W.falls a b
def aix a:=mem_keys _ a
def aiy a:=l.set a none
def aiz a b c:=G.c7.lt a hr b c
def aiA a b c:=Uh a b c B.ticks
def aiB:=c5 "draw"
def aiC a b:=Lv a b "name"
def aiD:=by
 rw[List.size_toArray]
 omega
def W_ a b:=I.cell a c b
def W! a:=aj.DF a xs
def W?:=cq Gt.hu
def Xa a:=aY (bl a)
def Xb:=gO Addr Bool
def Xc a:=dC (a true)
def Xd a b:=eN (aaa a) b pV
def Xe a:=aO (oU a)
def Xf a:=Vl t.sP a
def Xg a:=fW (aRj a)
def af4 a:=Inv Y.ps.length Y.rs sW a
def Ň a:=bR (H1 a)
def aPm:=Ň s1.heap.objs.size
def Xh a b c d:=lS a b (jS c d)
def Xi a b:=g9 (a) (ad2 b)
def Xj a b:=D0.aFS (ze a b)
def arC a:=xs.map (l0 a)
def zZ a:=au2 false (a)
def Ō a:=zZ (Wb a)
def oE a b c d e:=Ch a b (YN (S0 c (d)) (e))
def sJ a b:=rB (cn false) a (b)
def g? a b:=Dp a (b)
def JA a b c d:=g? a (kS b c d)
def CC a b:=g? a (wM b)
def PF a b c d:=g? a (Fe b c d)
def PG a b c:=g? a (Ay b c)
def PI a b c d e f:=g? a (Ff b c d e f)
def Xk a b c:=g? a (lO b c)
def aPn a:=pairTrees_cons_walk (a)
def aPo a:=List.mem_append.mpr (a)
def aCk a b:=X.env.kindOf a == b
def aPp a:=wpAny_pyIter_list a ?_
def aPq:=keys.all (·.isSome)
def aPr:=of_decide_eq_true h1
def aPs:=of_decide_eq_true hc
def aPt:=of_decide_eq_true hk
def aPu a:=wpAny_pyIter_enum he a
def aPv:=List.mem_range.mp hr
def aPw a:=er "check_not_held" a
def aPx:=pN s.heap.objs.size
def apH a b:=∀a<M.length,b
def aAc a:=ç (A.units+a)
def aNE a:=starEach a o!
def NI a b c d:=Y_ false a G.calm b c (ku _ N6) d
def CD:=dh (gP s).2
def sL:=ae 10
def sM a:=Of a xs
def JB a b c:=jd a _ b c
def acn:=xM y
def PJ a:=i8 B.trains x a
def FQ a b c:=mC a _ b c
def sN:=pN p
def r6 a:=wH x a
def r7 a:=V9 t a
def r8:=U3 S H ι' S' H'
def arD a:=by simp[a,PyData.eqv]
def arE a:=pre.length≤a
def arF a:=wpAny_call (a)
def arG a b:=l.find? λa=>b
def Wy a b:=by
 refine a
 exact b
def Wz a b c d e f:=⟨Br.imp a λb c d e=>f⟩
def WA a b c:=aRq a (b:=c) rfl
def WB a b c d:=Th a (b:=c) rfl d
def PK a:=("ticks",a)
def WC a:=s.toks+a
def as6 a b:=aAD a (WC b)
def Ŏ a b c d:=by obtain⟨s0,a,b⟩:c:=d
def mq a b:=λa H2=>b
def gN a:=az8 (a)
def qY a:=gN (cj a)
def MX a b c:=gN (bp a b rfl (fS c))
def Ő a b c:=gN (yi a b c)
def aCl:=.ExceptHandler
def aCm:=! names.isEmpty
def aCn a b:=bindArgs a (sD b)
def aCo a:=seqIndex_of h0 a
def aCp a b c:=compEnvC scope a b c
def aCq:=W.locks.map bl
def aCr a b c:=l.filter (z_ a b c)
def aCs a b c:=w.filter (HQ a b c)
def aCt a b:=uw a "shortest" b
def aCu a b:=uw a "_law_new" b
def aCv a b:=Ad a "_law_end" b
def acq a:=by
 intro a
 rfl
def Ŕ a b:=k7 a az b
def WD a:=S7 a (af 2)
def FT a b:=cG h' a b
def FU a b c:=q2 a b s2 c
def auW:=ow rC
def WE a b c:=aEM a (kk:=b) rfl c
def FW:=("found",A7 rs)
def FY a b:=x_ (aOm aQx a b)
def FZ a b:=ŕ ck a b
def F0 a:=nM false Au a (bP 0) uV Aa
def F1 a b:=eD a b ?_ (dJ cE) (dJ cE)
def aPy a:=List.mem_filter.mp (a)
def aPz a:=List.mem_append.mp (a)
def as7 a b c d:=s5.aRQ (v:=a) (b:=c) d
def Ŗ a:=xs.length=a
def aiE:=vs.length=es.size
def Ř a:=xs.drop (a)
def Ś a:=by
 unfold a
 omega
def Ŝ a:=t.ahead≠a
def Ş a:=a<ss.length
def aPA:=["_law_pieces_here","_law_signals_here"]
def aPB:=List.mem_cons.mp hp
def aPC:=List.mem_cons.mp hx
def aPD:=List.mem_cons.mp hm
def aPE:=! cf.toArray.isEmpty
def aPF:=! t.tr.ahead.isEmpty
def a1V:=standAt apos.atName
def aPG:=of_decide_eq_true e
def aPH:=of_decide_eq_true z
def aPI:=List.getElem_mem g8
def a1W:=W'.falls.map (·.1)
def aOW:=q0 T.a7w.choose_spec
def aOX:=q0 T.a7H.choose_spec
def aOY:=q0 T.a7q.choose_spec
def aOZ:=aS cf.toArray.size
def as8:=List PyData
def as9:=Option Bool
def ata:=xs.map some
def atb:=bo.N1.mp bg
def atc:=lY "trains"
def atd:=mX.lookup C
def ate a:=i7 B.trains a
def atf a:=i7 aZH.falls a
def atg a b:=aeH a M.length b
def aAk:=beyond Y.ps
def ath:=aj.ai false
def ati:=c5 "plain"
def atj:=c5 "throw"
def atk:=E9 "found"
def atl:=E9 "locks"
def atm:=E9 "lying"
def atn a b:=Lv a b "piece"
def ato:=ahv "joint"
def a1P a:=YW a W.green
def atp:=aqV t.ahead
def atq:=Wm "route" "pieces"
def atr:=by
 rw[sizeLine_eq]
 decide
def ats a b c d e:=T.set (a:=b) (c:=d) e nofun nofun nofun
def att a:=Cm (Vd "piece") "piece" a
def aiF a b c d:=by
 subst a
 rw[bG b c d]
def aiG a:=by rintro⟨h1,a⟩
def aiH a:=f2.trans (a)
def ahU a b c d e:=by
 rw[cF a b c d]
 refine e
def ahV a b:=by
 rw[HB a]
 subst b
def PL a:=aRy I.bz a
def PM a c:=s.sub b a c
def PN a b:=alO deep a b
def Rl a b:=trunc a b M
def Rm:=df Y.ss
def Rn a b c:=adX a b c t.tr
def Ro a:=H.o a rfl
def aNC:=cO n0
def Rp:=HJ ru
def Rq a b c:=Cc a (af 1) b c
def Rr a:=cg (wU false) a (Ξ 1)
def Rt a:=U2 a jN
def Ru:=f1.trans uu
def af3:=ic vA
def Rv a b:=H? a b (fS rfl)
def Rx a:=Wj (af 1) a
def Ry a b c d:=sU X.prog X.w a b c d
def Rz:=d7 aE w.s
def RA a b:=JB AB a b
def RB:=E3 ru.1 ru.2.2
def RC:=C9 Int fF
def RD:=arA aq az
def JC a:=("wait",a)
def z0 a:=U4 Cf (mK (z6 a))
def JD:=vM _ E6
def t!:=(gP b_).1
def WG a:=au3 a hq
def vB:=agt p
def acz a:=g9 e a
def ua:=r∈W.green
def aco:=akY e
def MY a:=gk K ι' S' a H'
def uc:=c! p hp
def aD9:=jc a da
def ud:=iY (0<Y.wait)
def R_:=pR K ι S kvs aG
def oF a:=Ka M a
def ym a b:=show a=b from rfl
def aBX a b c:=I.a1b (a:=s.toks) b c
def aBY a:=loose.filter (a)
def Š a b c:=by obtain⟨a,b,e⟩:=c
def asG a b:=by obtain⟨a,kvs⟩:=b
def asH a:=(a).names.lookup
def asI a b:=∀a<c7.length,b
def AG a b c:=∃a,cu b c
def Ţ:=o!::outer
def ahW a b c:=by obtain⟨a,h2,b⟩:=c
def aBZ:=["_law_world","_law_name","_law_train","_law_step","_law_steps","_law_route","_law_fall"]
def Lj:=avB Y W B
def WH a b c:=by
 rw[a]
 rw[cB b c]
def asJ a:=a++t.steps
def WI a b:=absurd a (b)
def WJ a b c d e:=by rw[bQ a b (λc d=>e)]
def WK a b c d e:=⟨λa b c=>d,nQ.refl e⟩
def WL a b c d e:=by rw[VE a b c (λd=>e)]
def F2 a:=(a).flatten
def F3 a b:=by
 show a
 exact b
def acr a b c:=∀a∈b,jb c
def F4 a b:=iY (a≤b)
def qZ a b c:=a[b]? = ET c
def MZ a b c d:=j6 a (λb c=>d) s
def ű a b c:=j6 a (HP b c) s
def M0 a:=kB o M.length (qn a)
def r9 a:=by refine dy (a)
def ų a:=by rw[r9 (j4 a)]
def WM a b c d:=aa.set a (b (Az c d))
def ŵ a b c d e:=aa.set a (b (Az c (U8 d e)))
def aB0 a:=(a,NameKind.free)
def acA a:=ob.data=a
def fX a b:=by
 rw[a]
 exact b
def RE a b:=by
 show a
 unfold b
def RG a b:=aj.tup [a,b]
def aO0:=Option.some.inj e'
def aO1:=List.of_mem_zip hv
def aO2:=Nat.succ_ne_self _
def a1U:=PyData.depthAll xs
def aO3:=cW sc.isCoroutine
def aO4:=cW sc.isGenerator
def aO5:=Iq B.falls.length
def aO6:=tR W.locks.length
def aB1 a:=Value.float a t
def aB2:=wpAny_bind ?_
def aB3:=DH.map (·.2)
def aB4 a b:=way.map (agC a b)
def aB5 a:=B.lying.set p a
def aB6:=jK vs.length
def aDu:=ķ us.length
def aDv:=ķ vs.length
def aDw:=apR "_law_at" "_law_found"
def ahX:=by exact ww.elim
def ahY:=some last
def ahZ:=by simp only[ag]
def ah0 a b:=lW a "near" b
def ah1:=ds.map wZ
def ah2:=aK s.len
def ah3 a:=by rw[au aj.mM a]
def ah4 a b:=by rw[au a (LI b)]
def ah5 a b c:=kO H (Cg a b c)
def ah6 a:=jx (aK a)
def ah7 a b c:=by rw[iC a (c! b c)]
def ah8:=c5 "set"
def ah9 a:=by rw[apW (ahf a)]
def aia a:=List.filter_cons_of_neg (aK a)
def aib a:=agF (dR a)
def aic a b:=fW (Sz a b)
def aid a:=f1.trans (uC a)
def aie a b c d:=by rw[aqg a b c (wo d)]
def aif a:=rg (Ib a)
def aih a b c:=by rw[gZ (a6X a b) c]
def aii a:=yJ (q! a)
def aij a b c d f:=vD a (dt C Y e o b (af6 c d)) f
def aik a:=aGk X.env scope.names a
def ahL a:=by rw[Ab (e! a)]
def ahM a b c d:=by rw[uJ (wo a) b c d]
def ahN a:=by
 have:=lI a
 simpa using this.symm
def ahO a b c:=Mc (ĺ a) b c
def a1K a:=ç (apC a)
def ahP a b c d:=W6 a b (vQ c d)
def ahQ a b c:=zZ (ļ a b c)
def ahR a b c d e:=oE a b c (nk d) e
def ahS a b c d e f g:=g? a (Wl b c d e f g)
def ahT a b c d e f:=g? a (kS b c (Fe d e f))
def aji a:=gN (yl a)
def ajj a b c:=WE a (jM b) c
def ajk:=pz false G.calm
def ajl a b:=agm a (tR (b).tr.steps.length)
def ŷ:=.Compare
def ź:=by simp at this
def ż a:=eval a env
def ž:=P.zip vs
def Ā a:=Res.ok a M
def Ă a b c:=wU false a b c
def Ą:=F.mono h
def Ć a b c:=jj false a b c
def Ĉ a b c d e:=eD a b c d (dJ e)
def Ċ:=aQ0 false
def Č a b:=aY (gu a b)
def Ď a:=by rw[au S.al9 a]
def Đ a b c:=by rw[dm a b (dy c)]
def Ē a b:=by rw[kQ (cj a) b]
def Ĕ a b:=cW (mU a b)
def Ė a b:=by rw[U? a (alB b)]
def Ę a b:=by rw[U? a (alC b)]
def Ě:=Ξ 2048
def Ĝ a b c d:=e7 (h1 a b c) d
def Ğ a b c:=e7 (aRo a b) c
def Ġ:=j5 h.y1
def Ģ:=j5 h.y2
def Ĥ:=j5 h.y3
def ş:=j5 h.y4
def š:=oj T.aEH
def ţ:=oj T.aEn
def ť a:=by
 rw[dz a List.foldl_append]
 rfl
def a1I a:=foldedSetIterable iter X.env a
def ŧ a b:=aht a (lY b)
def ũ a b:=z_ a b ends
def ū a b c:=bp a b rfl (alU c)
def ŭ a b:=D0.aFS (ra a b)
def ů a:=by
 rw[sH a]
 rfl
def aND a b c d:=v5 a b c (rM d)
def agb:=U.length≤1000
def aby a:=Ņ (fY a)
def abz a b c d:=sJ a (rB b c d)
def agc:=fs.length<1000
def abA a b:=ym (bl a) b
def abB a b c d e:=⟨v3 a,b,s.nd,mE c d e h1 h2⟩
def JE a:=λa=>Θ
def akX:=Res β
def JF a:=aRe X.K a
def I0:=dy eu
def I1:=aql k_
def I2:=yD []
def I3 a b:=by rw[yC a b hz (I.list hq)]
def I4:=PJ t'
def abC a:=⟨ps,ss,uH,a⟩
def ajm a b:=(a).steps.map λs=>aS b
def abD a b:=(a).tr.steps.map λs=>aS b
def ajn a b c d:=HQ a b (ajm c d)
def v8:=by exact c6
def v9 a:=qE wt a
def Em:=enc a
def I5 a:=sR a a6L
def v_:=aql A
def RH a:=W.locks.set a.1 none
def v! a b:=sq a o b
def wc:=Vb s
def we a b c d e f g h i j:=by rw[wB a b c d r e f g h i j]
def wg a:=ba.sub _ _ a
def I6 a:=MC (a kvs)
def xN:=Se ι a
def vE a b c d:=jc (a b c pos) (d)
def I7 a b c d:=g9 (xP a b [] c) (d)
def vF a b c:=HN a b c M
def vG a b:=ayZ X aH a b
def j7:=kv.1
def xJ:=avA W r
def asK a:=ns.length≤a
def aDx a:=ι.length≤a
def asL a:=a≤xs.length
def aDy a:=a<h.objs.size
def asM a b c:=h.ix (a:=aq) b c
def aDz a b c:=mB.trunc ⟨a,b⟩ c
def WN a:=("locks",a)
def asN:=["piece","joint"]
def WO a b c d e f g h:=by obtain⟨a,b,c,rfl,d,e,f,g⟩:=h
def RI:=W.now+Y.wait
def AH a b:=eN (sQ (a)) b pV
def M1 a b c:=AH (n_ a b) c
def M3 a b c d e f g:=Dn (P:=λq=>l5 Y M W j q a i x) b c rfl aZ rfl (Dn (P:=λq=>l5 Y M W j q d i x) e f rfl aZ rfl (g))
def oG a:=k6 (bP a) aQY
def AI a b:=(a).filter b
def dW a:=λe=>a
def M4 a:=dW (h a)
def ajo a b:=x! (dW a) b
def abE a b:=aII a (dW b)
def jf:=ae 8
def asO a b c:=by generalize a=aa at b c
def vC a b:=∀a:Nat,b
def ue a b:=iY (a/\b)
def uf a b:=dR (a++b)
def ajp:=["pieces","number","joint"]
def aDA a:=(by simpa using a)
def aDB a:=h.objs.size≤a
def aDC a:=Y.ss.length≤a
def aO7:=decide_eq_false e
def aO8:=decide_eq_true h2
def aO9:=apR "_law_name" "_law_signal"
def asP a:=a kvs.length
def asQ a:=some (aS a)
def asR:=if_neg aZ
def asS:=xs.map η
def asT:=K.lookup a
def aAj:=Or.inr rfl
def asU:=bo.kz.mp r
def asV:=lY "green"
def asW a b c:=bF.less ha a b c
def asX:=ss.drop sh
def asY:=ss.take sh
def asZ a:=S.locks a hp
def as1 a:=S.greens s a
def as2 a b:=A? a b W.falls
def as3:=c5 "held"
def as4:=c5 "none"
def as5 a b:=Cm a "name" b
def WQ a:=λa=>none
def WR a:=atKey a k
def WS a:=aRL I.bz a
def WT:=l0 deep
def WU:=A7 Y.rs
def WV:=aet Y.ps
def WW:=ZC G.hu
def WX:=dh b_
def WY a:=by rw[nF rfl a]
def WZ:=Ξ 101
def Wo a c:=e7 (b a) c
def Wq a:=Y0 Δ a
def Wr:=wm gK
def Ws a:=env.cells.lookup a=mu
def Wt:=uE aq
def Wu a:=ng b3 a
def Wv a:=lW a "steps" aI
def Ww:=yR bw
def Wx a:=arv a (af 1)
def apw a:=arw vA a
def XW:=rt aI
def XX:=E7 (E7 ahx)
def af5 a:=oz (compareOp op) a
def XY a b c d:=jd (Δ a) b c d
def XZ a b c:=by
 rw[aqo a rfl b]
 exact c
def X0 a:=fK a iB
def X3:=ο aa.length
def é a b:=TF X.prog X.w a b
def X4:=tR (lI b3)
def X5 a:=wh gC a Θ
def X6 a b c:=LW a b (i0 w) b6 c
def X7:=aE "points"
def X8 a b c d e f g h i j:=y! a b c d e f g ?_ h rfl i j
def X9 a b c d e f g h i j:=y! a b c d e f g ?_ h Θ i j
def X_ a b c:=nP.res (c8:=ML) sl a λι1 bf aa H1 b c e1 s1 r1 w1=>?_
def X!:=dH "slice"
def X?:=aE "plain"
def I8 a b c:=⟨T.ot,T.os,T.oa,a,b,c⟩
def I9 a:=[fB.ak a]
def I_ a b:=iY (a∉b)
def YY:=Lr (b3≠[])
def RJ:=.fall
def Yb a:=kB o M.length (RJ a)
def I! a b c d:=Y_ false a G.calm b c d (ku _ (af 0))
def M5:=(FO).isEmpty
def M6 a b c d e f g:=λa b c d e f g=>?_
def I?:=[.gone]
def zU:=bX us
def RK a b c d:=aRa ps ss a b c d
def Yc a b c:=RK a way b c
def R!:=aRb ps ss
def yo:=dh i
def yp:=dh j
def yq:=U' k
def yr a:=upd H s.heap.objs.size a
def RL a b:=j9 u (Value.ref a) b
def xQ a:=jy _ a
def xR a b:=Fa a x b
def zT:=ap4 p
def xS a:=uT live a M
def xT a c d:=Å b a c d
def xU a b c:=rm (a b) c
def xV:=ģ M
def Ja a:=mg_of X G a
def xW:=N9 Y us pre
def xX:=Gj kvs k
def xY a:=yj a M
def yU a c:=je b o a c
def yV:=qF x aa
def M7 a b:=pI (model X.prog X.w) a b Q E
def qf a:=λr hr=>a
def Hj a:=M[n]? = m_ a
def pn a b:=by rw[nF (a) b]
def ug a:=pD wV (Ξ a)
def CE a b c d e f:=kC a (z4 b) c none d e trivial f ?_ ?_
def ajq a b:=MX (aE "ok") a b
def Q0 a b:=qv (aB a b)
def yW a b:=qv (qx sS a b)
def abF a b:=qv (awd a b)
def M8 a b:=Q0 a [aq,b]
def uh a:=M8 a az
def Q1 a:=M8 a aI
def d? a:=wM (a)
def Jb a b:=d? (aB a b)
def Yd a:=d? (fg a)
def ajr a:=d? (So a)
def jv a:=aS (a:Nat)
def Ye a b c:=jv (md a b c)
def asw a b c d:=aFi (a:=b) c (jQ d)
def Q2 a:=by by_cases h2:a
def Q3 a:=by
 show a
 omega
def Q4 a:=by
 rw[←a]
 rfl
def aDD a:=a "isinstance"
def aDE:=by rw[List.any_map]
def aDF:=env.kindOf x
def aDG:=r1.append r2
def aDH:=by dsimp only at w1
def aDI:=lY "signals"
def aDJ:=get_set h.y4
def aDK a:=Option.map _ a
def aDL:=Y.ps.map x9
def aDM:=As "points"
def aDN a:=ö a "routes"
def aDO a:=er "unlock" a
def ajs a:=a=xs.length
def aDP:=xs.length+ys.length
def ajt a:=t.steps≠a
def aju a:=d.depth≤a
def ajv a:=xs.length<a
def ajw a:=a<c7.length
def ajx a:=a∈t.steps
def M9:=.Tuple
def M_ a b c:=⟨a,b,c,rfl⟩
def M! a b c d e:=λa=>vz b c d e
def M?:=some 0
def Sj a:=a7b X.K a
def Na:=aK bk
def Nb a:=pB kv a
def Nc:=kO H s'
def ak0 a:=jc a f6
def Nd a:=by rw[iC a ?_]
def Y5 a:=backTo dc (Ef a)
def Nf:=Vs e2
def Ng a b c:=uI (apE σ a b c)
def akZ a:=C9 a aj
def MP a:=pre.foldl oM (xI a)
def MQ a b c d e f g:=kj (ho pins a σ b c d e) f g
def Si a:=⟨cM,iter,ifs,a⟩
def MR a b c:=uI (t σ a (wH b c))
def MS a b c:=h2.ix (ρ:=a) (b:=aq) rfl c
def MT a:=Binds a fd ps []
def MU a:=yD (a bl)
def MV a:=Vu a σ' H' s'
def MW a b c:=zl ns y3 y4 y5 a y7 b c
def NJ a b c d:=λρ a=>NG b c d
def a5F a:=agM a ps (aw st)
def NK a b c d e f g:=by rw[MK a vs b c d e vs f g]
def NL a b:=x_ (Ec a hr Gt b)
def SY a:=Up ι a ι' S'
def NM a b c d e f g:=alR (a:=b) (G':=c) (s2:=pV) d e rfl f g cS eu
def NN:=by simp only[av,aX,aW,ag]
def NO a b c d e:=by
 rw[Vf a b c d ?_ bB zD zE gx f9 fz]
 refine e
def Jc a b c d e:=⟨a,b,rfl,c,d,e⟩
def abG a b c d e f:=ajq a (Jc b c d e f)
def jR:=.set
def tS a:=dB C.tr a
def CF:=tS (lj (t0 M.length))
def AJ a b:=ij X (a) b
def Jd a b:=AJ (fG a) b
def cQ a b:=λ_ a=>b
def abH a b c d e f g:=kj (ha pins a σ b c d e) f ⟨g,H1,aC,r1,ay⟩
def Yg a:=by
 have:=a
 subst this
def vH a:=λq hq=>a
def Q5 a b c d e f g:=λa b hb c=>eb d e f g
def aDQ a b:=if a then b else[]
def abI a b c:=by
 rw[a]
 rw[kQ b c]
def abJ a:=by rw[h_ (a<16000000)]
def abK:=X.env::X.outer
def abL a b c:=by
 show a
 rw[au b c]
def abM a b c d e f:=⟨mZ.imp a λb c d e=>f⟩
def abN a b c d:=w.foldl (λa b=>c) d
def CG a:=(a,false)
def Je a b c d:=by simp only[a,b,c,aX,aW,ag,d]
def aPa:=some Y.rs.length
def aPb:=e1.trans e2.symm
def aPc:=! W.falls.isEmpty
def aPd:=wpAny_holding ?_
def aPe:=decide_eq_true e
def aPf:=ns.map WData.int
def aPg:=names.map aj.int
def aPh:=aAt "_law_joint"
def aPi:=["_law_joint","_law_loose"]
def aPj:=["_law_world","_law_signal","_law_joint","_law_at"]
def ajy a:=("greens",a)
def Jf a:=Ω (gg a)
def AK:=.free
def CH:=bl vO
def Jg a:=nO (wKs Y g t j) a
def NP a b:=TG xs a b
def Eu a:=f6 ρ a
def NQ a:=SS a (N! bT) Tc
def R? b:=E3 a b
def Hs:=LG p
def AL:=ags p
def AM b:=B? a b
def AN a:=jz a v
def AO a b:=show ∃t,a from b
def AP:=i7 B.falls r
def AQ a:=("until",η a)
def akV:=g9 a ta
def Cs:=HR o
def AR:=c! s hs
def AS:=md items.size 0 lo
def AU a b:=h1.ix (ρ:=a) (d:=aq) rfl b
def AV a b:=W.green.filter (pB a (b≠r))
def AW:=Hh c7 r
def AX:=W.now+1
def AY a:=by rw[L0 a h h S M vN]
def F5 a b:=TF P w a b
def R8:=F5 H h
def lH:=A3 Y s
def asx a:=acc.length+a
def asy a:=a∈B.trains
def asz a:=a%4294967291
def asA a b:=s.TypeIs (a) b
def asB a:=⟨vs,a⟩
def ajz a b c:=ri a (asB b) (yk c)
def cC a:=by
 rw[a]
 rfl
def aPk:=by rw[cC List.map_append]
def abO a:=("lying",a)
def abP a b c d e f:=by rw[B7 a b c ⟨d,e,f⟩]
def cD a b c:=agM a b (aw c)
def Eo a:=a[t.so]?
def Ep a:=a[t.ob]?
def AZ a:=aO (ã (a))
def abQ a:=AZ (LG a)
def NR a:=Cn yZ (a)
def Yh:=NR Ľ
def q1 a b:=l5 Y M W j (a) b i x
def ajA a b:=a M.length b
def ajB a:=σ.set i a
def ajC a b c d e:=by obtain⟨a,b⟩:∃c,d:=e
def ajD a:=start a vs
def ajE:=k.map kV
def ajF a b c d:=bF.amw a b xs c d
def ajG a b:=aW2 a (cQ _ b)
def ajH:=rk.val k
def aiS a b c d e:=Walks a b c d ι e
def aiT a b:=s2.sub _ a b
def aiU a b:=findIn K a b
def aiV a:=I.lock h a
def aiW a:=G.g.sg _ a
def aiX a:=aad (abC a)
def aiY:=R.map KA
def aiZ:=L.map pW
def ai0 a:=aY (fY a)
def ai1 a b:=h9 a b none
def ai2:=Ar Expr
def ai3:=j5 h.y5
def ai4:=oj T.aEI
def ai5 a:=ü C.fa a
def ai6 a b c d e:=Fe (k7 a b c) d e
def ai7 a b:=SH a (xk b)
def ai8 a b:=pre.filter (OG a b)
def ai9 a b c:=pre.filter (DA a b c)
def aja a b:=uF (Ga a) b
def ajb a b c:=lD a (aB b c)
def ajc a b:=arx (Dj a b)
def ajd a:=gE a 1000
def aje a b:=S4 ⟨a::t.tr.steps,b,t.tr.out⟩ t.sP
def ajf a b c d:=λσ H a=>tl b c d
def ajg:=⟨t.tr.steps,t.tr.ahead,true⟩
def ajh:=ahF t.tr aa.length
def aiI a b:=zX (mL a) b
def aiJ a b:=aG.map λa=>kV b
def aiK:=Qm deep
def aiL:=WD T.eQ
def aiM a b c:=hb Y.ps a b c G.le
def aiN a b:=qZ a t.sP b
def aiO a:=dW (aU a)
def aiP a:=NP none a
def aiQ:=cQ _ true
def lJ:=ο t.ob
def r5 a:=Kd k a
def vI a:=N2 Y a
def r_ a b:=aA ⟨a,b⟩
def F6 a b:=Ω ⟨a,b⟩
def aDR a:=⟨o.slots,a⟩
def Q6 a b c:=⟨a,b,lN,lT,c⟩
def aOM:=Paired.length h
def aON:=Nat.ne_of_lt hb
def aOO:=Nat.ne_of_lt OU
def aOP:=Nat.ne_of_gt OU
def aOQ:=I.o3.sublist hg
def aOR:=I.zA.sublist hf
def aOS:=["_law_script","_law_base"]
def aOT:=aAt "_law_name"
def aOU:=["_law_pieces_here","_law_signals_here","_law_wait"]
def aOV:=apR "_law_signal" "_law_name"
def aLe:=["_law_script","_law_base","_law_pieces_here"]
def aLf:=["_law_world","_law_name","_law_route","_law_at"]
def aLg:=["_law_pieces_here","_law_signals_here","_law_wait","_law_points","_law_world"]
def aLh:=["_law_world","_law_signal","_law_name","_law_route","_law_falls","_law_way"]
def aLi:=Y.rs.length-pre.length
def aDS a:=a Y.rs.length
def aDT a:=a Y.ps.length
def aC6:=by exact nomatch e
def aNL a:=min a d.depth
def aC7:=bo.N1.mp r2
def aC8:=bo.N1.mp rx
def aC9:=bs.map V.ai
def aDa:=lY "points"
def aDb:=lY "pieces"
def aDc:=x0.trans e2
def aDd a:=fB.ins C.fa a
def aDe:=OK.trans hk
def aDf a:=õ a "steps"
def aDg:=c5 "green"
def aDh:=E9 "ticks"
def aDi:=ù "falls"
def aDj:=YX 4194304
def aDk:=cf.toArray.size*k.toNat
def aDl:=OldK s₁.heap s'.heap
def aDm:=Wm "train" "route"
def aDn a:=Cm (Vd "route") "route" a
def asC a:=a ys.length
def asD:=Sum.inl a
def asE:=Sum.inl b
def asF:=by exact w2.elim
def at6 a b:=a vs.length b
def at7:=Option α
def at8:=if_pos hl
def at9:=if_neg hj
def aua:=h1.get? b
def aub:=h2.get? b
def auc:=K.In base
def aud a c:=I.ok.bs b a c
def aue a:=rK a s.heap
def auf:=ks.map kV
def auh:=h2 e.symm
def aNF a b:=Slot a name b
def aui:=ι.take n
def auj a b:=s1.sub a b ir
def auk a:=L2.less S a
def aul:=r.less ha
def aum:=tt.map e9
def aun:=ne e.symm
def auo:=l.find? p
def aup a:=jK (dR a)
def auq a:=pC (agn a I.ok.above)
def aur a:=j4 (PV a)
def aus a:=cW (agl a)
def aut a:=cW (ĵ a)
def auu a b:=cW (fK a b)
def auv a:=jx (iA a)
def atD:=c5 "red"
def atE a b:=mw (ags a) b
def atF a:=aO (Ln a)
def atG a b:=pF a (nJ b)
def atH a b:=iD (F? (ZS a) b acm)
def atI a:=qm (Iu a)
def atJ:=lQ aj.mM
def atL a:=List.filter_cons_of_pos (aK a)
def atM:=Mt loose
def atN a b:=rg (B_ a b)
def atO a b:=z7 a (arC b)
def atP a b:=z_ a b loose
def atQ a b:=Cb (asJ a) (t.ahead.drop b)
def atR a b:=aBR a (ahH b)
def atU a:=x_ (nk a)
def a1Q a:=HM (a "method_descriptor")
def atV:=relabel scope X.env
def atW a b:=sJ a (zZ (ef b))
def aiR a b:=by
 refine a
 refine b
def akh a b c d:=aSF a (b:=c) rfl d
def abR a b:=by exact s.sep a b
def abS a b c d:=Inv a b σ' c d
def agd:=[p.enc]
def abT a b c:=GN a b iter c
def Ź a:=aFw I.bz a
def Ż a b c d e f g h:=al0 a I.bz deep b c d e f g h
def Ž a b:=a7K I.bz a b
def abc a b c:=jj true a b c
def abd a:=h.at a hi
def abe a:=R.nd a hr
def abf:=tm Y.ps
def abg a:=a7P a K.tl
def abh:=anc Y.ps
def abi a b:=a7c G.hu a b
def abj a:=d7 fG a
def abk a:=by rw[au hsz a]
def abl a b c:=by rw[B7 a rfl b c]
def abm:=E4 aD
def abn:=HJ gD
def abo a:=pF a LX
def abp a b c:=Fi (cq G.hu) a b c
def abq:=env.scope.kind == ID
def af9:=ic agr
def abr a:=uF a qq
def abt a b:=lS a b ś
def abu a b c:=V4 a b c Θ
def aga a b:=backTo a (starEach b o!)
def abv:=yR aI
def abw a b:=ro a aQ b
def abx a b:=ahE a b (Ξ 4)
def Ť a:=env.kindOf a == pJ
def Ŧ a b:=Ez a (dU 3) b
def Ũ a b c:=by
 rw[a]at b
 rw[fq c c6]
def Ū a:=ps.map λa=>mD
def Ŭ a b c d e:=nM false a b (bP 0) c aq d e
def Ů a b c:=lS a b (Az c VP)
def Ű:=sl.mono agk
def Ų:=ahl aD
def Ŵ:=agU (af 1)
def Ŷ:=vM _ E!
def abU a:=Ŕ wj a
def abV a b:=zX (ο a) b
def abW a:=kB o M.length (W8 a)
def abX a b:=aa.set a (ς (b))
def abY a b c d:=λa b c=>⟨#[],d⟩
def abZ a b c d e f g h i:=apV a qual b c d e doc f g h i
def ab0 a b c d e f:=aQ2 false a b G.calm G.nd c d e f cS
def ab1:=I5 (dU 3)
def ab2 a b c d e f:=M6 ι2 a b c d e f
def ab3 a:=M7 X.A a
def ab4 a:=M8 a bw
def ab5:=vI ru
def ab6:=vI (eB t.tr)
def ab7 a b:=e7 (y a aZ) b
def Q7 a:=by rw[if_neg a]
def Q8 a b:=I.Oh x a b
def â a b c:=GK a b (Gh st) c
def Q9:=b5 bw
def Q_ a:=ev rfl a
def Q!:=bk (s4 t.tr)
def Q?:=qw rfl
def Ra a b:=h.awG q a b
def Rb:=flip s
def Rc a b:=by rw[gY a r1 b]
def Rd:=e! hl
def az9:=Y.ps.length≤16
def Rf a b c:=je σ a b c
def Rg a:=jz aG a
def Rh:=SE vs
def a1F a:=g9 a tb
def Ri:=lQ bo
def Rj:=md items.size items.size hi
def Rk a b c d e:=ha pins a σ b c d e
def QO:=Sd iM
def QS a b:=lS a b (jS Ge B.trains)
def QT a:=C_ (VD a bT)
def QU a b c d e f:=by intro pins a σ b xs us c d e f
def apr a b:=acG a scope b gF
def QV:=ć s'
def QW a b c d e f:=Turn a b c cM d e it f
def QX a:=yD (a bk)
def QY a b c d:=aHu a pins σ b c d
def QZ a b c:=s.ob a b c h1 h2
def RM a b c:=h1.fld (ρ:=a) (b:=aq) rfl c
def ä a b:=A.deeper (envOfC a (aw st) s.heap.objs.size b gm)
def RN a b c:=SI ρ a b aI T.mt c
def aAa:=acz te
def Vt:=MY M'
def RO a b c d e:=by
 have aU:a≠b:=λc=>d
 exact e
def RP a b c:=pO (a:=λb=>c) ?_
def RQ a b:=by rw[yC a b hz (I.tuple hq)]
def RS:=RH s0
def RT:=avA W r'
def å a:=aY (dB a dx fs)
def RU a b c d:=yQ a b s1 c H1 aC r1 ay d
def RV a b c d e:=λa b hb c=>Qj d hb e
def RW a:=tI M' ?_ a
def RX a b c d e:=by rw[qj a h1 h2 b c d e]
def RY a:=by rw[yP hb g6 a]
def RZ a b c d:=yh a b c d hb hx
def R0:=pre.flatMap (ZV ps ss)
def R1 a:=hb pins s1 σ H1 a aC ay
def Jh a b:=Vals (a) b
def NS a:=SR a (Dv (Ξ 1)) J?
def Yi a:=ZG C.dK a (aK hc) (rD (dq rfl))
def CI:=(h.qI q hq).1
def CJ:=ru.2.2
def CK a b c:=lX a b ?_ c
def CL a:=b9 a k'
def CM a:=by rw[nF e a]
def CN:=YV V
def CO a:=q7 a o
def CP:=LR h
def CQ a:=mg_none_of X G a
def CR a b:=agC a b.1
def R2 a:=IA e a
def auV:=gO qi V
def Ex:=nO kvs k
def CS:=Va bo h
def CT:=oF x
def CU:=J8 Y W.trains s
def CV a b:=GH a H b xs
def CW a:=mH (Bg Y t) a
def Ct a b:=aKv X aH a b
def Cu a b:=ZA n nx a b
def Cv:=λ_ _=>False
def Cw:=E3 s.1 s.2.2
def Cx a b:=vD a (AA M' b) (kl j M M')
def Cy a:=alX n nx f ls a
def Cz a b:=vD a (BV M' b) (k8 o M o M')
def Lm a:=mi (l6 P w) P w K mg base N a (aw st) f gm A outer s H E
def zQ a:=d7 .own a
def F7:=lj t
def Er:=ü C.tr F7
def NT a b c:=amM C a b x c
def BQ a b:=NT o a b
def Ei:=rT x
def oH a:=kl j M a
def cK a:=λz=>a
def Yj a b c d:=oV a λb c=>d
def yX a:=λx hx=>a
def r! a:=λs hs=>a
def A0 a:=λy hy=>a
def r? a b:=Vl a (b)
def sd a b c d:=Ch a b (YN (c) (d))
def se a b:=VR (a) b
def A1 a b:=∀q∈a,b
def aNM a:=(a).steps.length
def NU a b c d e:=⟨λa b c=>d,e⟩
def jg a:=(a:gM).Nodup
def atX a:=(a).symm.trans
def AF a:=λr=>f a
def HK a:=S3 o a apos
def atY:=HK "get"
def atZ:=HK "pop"
def NV a b:=k8 o M a b
def pq:=gv (s4 t)
def aLj:=cf.toArray.size+T8.toArray.size
def ab8 a:=(a).getLast?
def ab9 a b c d e f g h i j k:=⟨λa b=>c,λd e f H'=>g,λh i=>∃j,k⟩
def Yk a b c:=(by simp[a,b,c])
def Xw a b c:=by
 rw[a]at b
 refine c
def Ji a b:=oz (compareOp .a) (En b)
def aDo a:=X.env.frame=a
def aDp a:=a=Option.none
def aDq a:=aG.length≤a
def aDr a:=ss.length≤a
def aDs a:=show a from p
def aDt a:=a < ι.length
def aLk:=Array GenState
def aLl:=AllBare s.gens
def aLm:=s'.heap.get? b
def aLn:=s1.heap.get? b
def aLo:=pre.map (·.1)
def aLp:=ap9 I.ok.above
def aLq:=aDx ι2.length
def aLr:=aDy sysModules
def aLs:=["_law_world","_law_route","_law_way","_law_step","_law_piece"]
def aki a b c d:=aRP a b (xs:=c) d
def akj a b c:=AI a (λb=>c)
def F8:=.list
def R3 a b c:=lD a (cg (qA false) b c)
def acd a:=LD FL a
def Xx a b c d:=by
 have a:¬b:=aD
 simp[c,d]
def F9:=by simp at h
def F_:=lA hb
def F!:=ae 11
def HD a:=gr ρ a
def Fq a b:=by rw[bG e a b]
def Fs a:=Sz a 2
def Ft:=agK p
def Fv a b:=by
 rw[jw a (pO (P:=λq=>b) ?_)]
 simp only[bB,zD,zE,gx,Nat.zero_add,Nat.reduceAdd,Nat.reduceSub,List.replicate,f9,fz,eP]
def Fw:=Y.rs.length+1
def HE:=Bg Y B.ticks
def Fx a:=flat M deep a
def Fy a b c d:=g9 (a b c pos) (d)
def Fz a b c d:=jd (a b) H c d
def FA:=LZ 0
def FD:=yG ι S ρ σ
def HF:=N9 Y us R
def FE a:=ez K (oS K) E ι S H Q a
def FF a:=pI nj A a Q E
def FG:=by intro pins s σ H x y v u Q I rx bg h
def Lo a b:=Ou K ι S a b o
def FH a:=NV o a
def FI a b:=by intro pins s σ H a I b
def FJ a:=aGw W x t b3 a
def akk:=ON Y W x t pre
def Xy:=yR (ae 9)
def at0 a:=W'.trains=a
def aLt:=kvs.length=vs.length
def aCW:=xs.length*k.toNat
def at1 a:=agG (a-xs.length) none
def at3 a b:=aZJ (enc:=a) b
def at4 a:=L.find? (a)
def Ht a c:=∀b∈a,c
def apx:=gO qi (Addr×Value)
def R4 a:=⟨ι1,bf,aa,ρ,s1,oh,a⟩
def NW:=R4 w1
def aCX:=(by rw[List.size_toArray]<;>omega)
def aCY:=(by simp only[Int.reducePow])
def aCZ:=if_pos aZ
def aC0:=if_pos Θ
def aC1:=lY "enter"
def aC2:=l.filter p
def aC3:=Ξ 999999
def aC4:=by rw[Ń ba.len]
def aC5:=["piece","step"]
def akl a b:=⟨Ja a,b⟩
def akm:=["self","piece"]
def Xz:=.tuple
def XA:=some i
def XC a c:=I.bz b a c
def XD:=by rename_i e
def XE a b:=aGk env a b
def è a b:=aew a ifs b
def XF a b c:=zo a (oS K) b c
def XG:=e9 (gP s)
def XH:=cc Θ
def XI:=ig Θ
def XJ:=cx (fS rfl)
def XK a:=aSi a aD
def XM a:=encD a d
def XN a b:=amo a b b3
def XO:=wx aD
def XQ a:=aac b3 a
def XR a:=y_ (af 2) a
def XS a:=d7 a aG
def XT:=a! hi
def XU:=yt vs
def a1G a b:=aqq a b nK
def XV a b c:=mC a vs b c
def Xl:=jS Ge B.trains
def Xm:=ow α
def Xn:=some .ah
def Xo a:=Az J_ a
def Xp a b c:=kO a (Cg b c t')
def Xq:=t.tr.steps≠[]
def Xr a b c:=QB a hq b c
def Xs:=by rw[EA ay]
def Xu:=ő xs
def Xv a:=HL a bT
def Yo a b c:=by rw[mJ a b ag c]
def Yp a b c d:=aC.kept (t':=s1.toks) (Å a b c d)
def Yq a b c d e f g h i:=by rw[Qv (mZ.imp a (je b σ c d)) e f g h i]
def Yr a b c d:=Chain ps ss a b c d
def Ys a b:=FQ a ?_ b
def Yt:=qY ?_
def Yu:=WG hn
def Yv:=t.ahead=[]
def Yw a:=lS 10 a ou
def Yx a b c:=by obtain⟨a,hd,b,rel,dd⟩:=c
def Yy:=by obtain⟨f0,f1,f2,f3,f4,ji⟩:=hf it Θ
def É a b:=cu (g a ρ) b
def Yz a b c d e f g h:=aSr (a:=λb=>l5 Y M W j c d i x) e rfl rfl f M' g h
def YA a b c:=nM false Au a (bP 0) uV Aa b c
def YB a:=RL a rx
def YC a:=iy a (af 1) cN
def YD a b c d e f g:=by
 obtain⟨a,ι,b,c,xs,ba,d,e⟩:=f
 rw[Fo g]
def YE a b c:=λhl=>⟨a,b,c⟩
def apy a:=KT a kvs xs
def YF a b c d e f g h:=by
 rw[gY a b (bo.A5.mp c)]
 obtain⟨d,eM,e⟩:=ba.addr f
 simp only[g,eM]at h
def YG a b c d e f g:=Qb a b c d e f λB'=>avB Y g B'
def YH a b:=aaE a aH cM iter b
def Ê a:=bF a ι' S' xs vs
def YI a b c d:=by obtain⟨a,cf,b,c,hl,d⟩:=I.axG hH
def YJ a:=tZ a ay a_ cz
def YK a b c d e f g:=by rw[Qv (GN.imp a (je σ b c hh)) d e f hh g]
def Yl a b c d e f g h i:=PU a σ b c d hw (Ļ e σ f g h i)
def Ym a b c d e:=by
 refine a
 obtain⟨ι,b,c,ρ,ba,sl,d⟩:=e
def vJ a b c:=λa xs b=>c
def vK a:=λb hb=>a
def vL a b c d:=by rw[cV a b c (cj (d))]
def wL a:=IJ (a)
def NX a:=W0 (a)
def Yn:=NX akk
def R5 a b c d e:=ym (ae a b M) (c (d e) M)
def ace a b c d:=R5 a b c η d
def oJ a:=Q a H'
def Lk:=OJ X x
def Hl:=rT i
def Hq:=OW Y W
def aLu:=["_law_yard","_law_word","_law_number","_law_name"]
def at5 a b c d:=aRA (N:=a) (b:=c) d
def R6 a b c:=a (jJ (b:Nat) c)
def j8 a:=λρ=>∃y,ρ=a
def acf a:=by by_cases e2:a
def acg a:=by rw[←hl]at a
def ach a:=R.map (Gg a)
def aLv:=List.range n2
def aLw:=xs.eraseIdx i
def aLx:=cf.eraseIdx k
def aLy:=pre_splitW i!
def aLz:=bo.aRd.mpr rfl
def aLA:=e.mono ba.sub
def aLB:=jK ns.length
def aLC:=bR A.handled
def aLD:=aS ss.length
def aK7:=xs.length+zs.length
def aK8:=["_law_pieces_here","_law_at","_law_joint"]
def aK9:=["_law_pieces_here","_law_at","_law_joint","_law_found"]
def aLa:=["_law_world","_law_route","_law_joint","_law_at","_law_names","_law_border"]
def aLb:=["_law_pieces_here","_law_signals_here","_law_way","_law_at","_law_joint"]
def aLc:=["_law_world","_law_name","_law_route","_law_at","_law_train","_law_own","_law_step"]
def aLd:=["_law_pieces_here","_law_signals_here","_law_way","_law_at","_law_joint","_law_found","_law_out","_law_here","_law_behind"]
def atu:=.UnaryOp
def atv a:=h.Ns1 a mA
def aAl:=Sem Bool
def atw a:=J.stop i a
def atx:=B.get? e
def aty:=B.get? b
def atz:=["self","pieces","signals","wait"]
def atA:=r.cut hb
def atB:=lY "now"
def atC a:=aRR (yX a)
def auw a:=tmod rfl a
def auy a:=j.sub a hp
def aAV:=cO Heap
def auz:=j5 h.jE
def auA:=oj T.aQ3
def auB a:=fW (mP a)
def auC a:=bR (S' a)
def auD:=v₂::rest
def auE a:=h9 W.locks a none
def auF a:=x! a h.wl
def auG:=S4 ⟨t.tr.steps.dropLast,t.tr.ahead,t.tr.out⟩ t.sP
def auH:=ahF t.tr M2.length
def auI:=El iter
def auJ:=by
 rw[List.map_map]
 rfl
def auK:=WG I.kH
def auL a:=⟨t.steps,a,true⟩
def auM a:=dW (hn a)
def auN a:=NR (af a)
def auO:=by rw[cA S.al9 I.zA]
def auP a:=lh C.aT a ps ss uH wait
def auQ:=HK name
def auR:=iD (N3 T.aTn hr (jh (y_ (af 1) (jh uP))))
def akn:=List β
def ako:=some st
def akp a:=RelV a w'
def akq a b c:=Q a (as6 b c)
def akr a:=D.nx σ a
def aks a:=amy I.bz a
def akt a b c d:=fun a=>aAn b c d
def aku a:=X.tr a OI
def akv:=aXt ends
def akw a b:=l.set a.1 b
def akx a b c:=R.lt a hr b c
def aky:=amN Y.ps
def akz a:=Uj Y.ps a
def akA:=G.wl hr
def akB a:=agn nG a
def akC:=Vb b_
def akD a b c:=jd a b c rfl
def akE:=Ξ 100
def akF a:=aO (p a)
def akG:=Fb 100
def ajS:=apX 100
def ajT a:=fT sI a
def ajU a:=ÿ FL a
def ajV:=q! wj
def apJ:=ow Int
def ajW:=ic aOp
def ajX a:=V3 Cf a
def ajY:=bR dG
def ajZ a b:=ahu a b cP
def aj0:=dh (gP b_).1
def aj1:=Δ s2.heap.objs.size
def aj2:=MF way
def aj3 a b c:=Qt a b c VT
def aj4 a:=rj a iZ
def aj5 a b c:=arn a j7 b c
def aj6:=dH "BaseException"
def aj7 a b c:=if a then(b:Int) else c
def aj8:=rt eW
def aj9 a b c:=S1 a True.intro b (λz=>nomatch z) c
def aka:=jO B!
def akb:=jO E?
def akc:=jO (ù "signals")
def akd:=VO nB
def ake a:=aqx Ao a
def akf:=η Y.ss.length
def akg a b c:=v5 a b c ou
def ajI a b c:=v5 a b c ś
def ajJ a b c:=ZM (a:=False) b c Θ
def ajK:=mK vs.toArray
def ajL:=iD (N3 T.aEN hr (jh (y_ (af 1) (jh uP))))
def ajM a b:=zX (ς a) b
def ajN a b:=zX (aQ a) b
def ajO:=fS (gg I?)
def ajP a:=MC (ς a)
def ajQ a:=AI aAZ a
def ajR:=d? Wk
def akH a:=Lu (af 4) cN a
def akI:=dH "object"
def akJ a b c:=aRw a rfl (vH (jy b c))
def akK a b:=HX (zi a b) agi
def aqk a b c:=if a then bW C.he b else c
def akL:=r5 X.A
def akM a b:=A.under (fG "type.__call__" ⟨a,b⟩)
def akN a:=U4 (dH "range") a
def akO a:=R2 (h a)
def akP:=arA (ae 7) (c5 "enter")
def akQ:=aim (Ξ 8) (Ξ 3)
def akR:=zY (cg (jj true) aq az)
def akS:=PassesOwn (model X.prog X.w) X.A X.env X.s6
def akT a b:=e7 (y a aZ aZ) b
def YZ:=.dict
def aci a:=W9 ML a
def apD a b:=apt a b Hi
def R7:=DE Ţ
def acj a b c d e:=w_ a kN fQ v4 (IL p) (i0 w) aa.length b b6 c d e
def Jj a b c d e:=by
 have a:b:=c
 have d:=e
def akU:=dh (gP b_).2
def Jk a:=hf a hb
def IP a:=s1 ρ a
def IQ a:=dk ρ a
def IS:=a66 bT
def IT:=dh N
def IU:=aK e
def IV:=aAX _
def IW:=dJ h
def IX a:=lK _ a
def IY a:=aqt a.1
def IZ a c d:=I.base.free b o a c d
def JN:=SK i
def LS a:=∀q∈W.trains,a
def JO:=aqd p
def JP:=Y6 a
def JQ:=qm (Vg p)
def acw a:=Se a o
def JR:=Sum.inl q.1
def JS:=z? _
def LU a:=us.filter (OG Y a)
def JT a b c:=M2.set a (b c)
def ack a:=h.push (ς a)
def JU a:=LF n (a kvs)
def Sg a b:=BU (Hy i) a b g_
def JV a b c d e f g h:=VQ a w b c x9 d e f g h
def JW a b c d:=ym a (b c d)
def LV:=RelV x v
def JX a b:=jj neg a b M
def JY a:=I.tr _ _ a
def JZ:=qL.md xs.length 0 lo
def J0 a:=by rw[gZ (wQ q a) q]
def J1:=iI K H a xs
def Y3 a:=anS X aH a ds
def J2 a b:=λa=>f b.1
def J3:=dt C Y iB o M B
def J4 a:=R6 a r r
def J5 a:=Oe K ck a
def aQe:=TC C bU
def aEc a:=ZP Y.ps.length Y.rs (uM Y.ps) a W B
def JG:=J8 Y pre s
def JH a b:=U3 S H ι a b
def JI a:=R6 a k k
def JJ a b:=pR K ι S a b
def acv a:=HV b (awL X pins a b)
def JK a:=by
 rw[EH S M ρ ba sl w h]
 refine a
def JL a b c d e:=by
 obtain⟨E,ι,S,M,a,b,ba,c,d,w⟩:=h
 rw[Fo e]
def JM:=by
 intro X hP hw hK hc i pins s σ H E I hf st hg
 subst hP hw hK
def tT a:=ll f S a
def u?{P:Program}{w:World}:=_
def azQ{K:fh}{ι:cY}:=_
def US(he:Ef (e::es)=aco::aEa:=by rfl)(iJ:YQ (YR es).any:=by rfl):=_
def br{n:Nat}:=_
def aaO(hf:auX x\/acp x:=by first | exact Ω rfl | exact aA rfl | assumption):=_
def zL{σ:St}{H:aP}:=_
def aaP(hN:acr c ([0,101,102,103,104,100,-3,-5,3,999999,7]:fD) c):=_
def d5{xs:fZ}:=_
def cw{M:aL}:=_
def afR(σ:St)(H:aP):=_
def nW{s:Shared}:=_
def dj(n:Nat):=_
def fC{x:Int}:=_
def gz(x:Int):=_
def kL(Y:eJ)(W:bL):=_
def lu(s:Shared):=_
def aoQ(A:Around)(outer:Eg):=_
def bZ(I:ja):=_
def dZ(r:Nat):=_
def gA{α:Type}:=_
def gb{r:Nat}:=_
def eS(G:tN):=_
def azR(OT:Ht ch ((b∈X.ex\/acD b)/\Es b/\(∀x c,xK=mu->c≠b)/\fT (X.fP++pins) (p.1≠b))):=_
def xu(X:bY)(aH:St->d_):=_
def d6{k:Nat}:=_
def c9(K:fh):=_
def dF(M:aL):=_
def K7(hd:auT:=by decide):=_
def D3(P:Program)(w:World):=_
def aaQ(hs:∀x,a1I x=pure x:=by rw[acq _]):=_
def aMe(ht:nA (xP (HK m) (e::es) [] pos)=(do
   let ov ←Hi
   a1V
   let(f,first) ←Hv [ov] (aAf ov m)
   callWith pos f first (YR (e::es)) (apA pos [])):=by rfl):=_
def jH azQ{S:aP}:=_
def eo{x:Str}:=_
def K8(R:auU)(I:auS):=_
def m5(live:Bool):=_
def p5(C:eE)(Y:eJ):=_
def p6 d5{vs:di}:=_
def aaR(i:∀σ H Q,t' σ H Q->t σ H Q):=_
def á c9(mg:Str->gK):=_
def aMf(anD:g5 ((Y5 (e::es)).all (λx=>! x.1)&&(apA dc []).all (λx=>ã x.1)
   && iY (dR (e::es)+lI ([]:Y4)+(aAi ([]:Y4) 0 1)<30)):=by rfl):=_
def aoR(F:rJ X.prog X.w X.K X.mg X.base fR k f fd ps sp):=_
def zM(ps:alG)(ss:BN):=_
def rW{α β:Type}:=_
def gJ(h:Ed):=_
def cZ(g:D1):=_
def m6 fC{t:iM}:=_
def p7{ρ:ej}cw:=_
def aaS{ps:alG}{ss:BN}:=_
def vc{x:aj}{v:V}:=_
def aMg(hu:∀M B w,vn->af3->(apw Hs)->vD (f5 [ο 0,cv w] M=.ok .ah M') (BV M' (af6 B w)) (Cs/\xO/\∀i,i≠1->M'[i]? = M[i]?)):=_
def aoS{S H:aP}cw:=_
def Hf(I:aF4 Y W)(S:Lj):=_
def iw(i:Nat):=_
def qP{u:Value}:=_
def jo{a:Addr}:=_
def gW{i:Nat}:=_
def D4(w:gn)(i x:Int):=_
def aoT(hn:auY x :=by decide)(KL:auT:=by decide):=_
def nX(C:Addr):=_
def aMh(hs:∀pre x post,xs=pre++x::post->∀ρ M,R pre ρ M->∃ρ1,É (enc x) ρ1/\Body w (R (pre++[x])) Q (s1 ρ1 M)):=_
def D5 u?{K:fh}:=_
def vd{A:Around}:=_
def qQ{neg:Bool}:=_
def afS(j:DO n nx b f ls Kp L R S eZ):=_
def afT gb(hr:jZ):=_
def aoU{f:Addr}{fd:FuncData}:=_
def rV(a:Addr):=_
def K9(d:BO)(k:κ):=_
def Hg(ba:vm)(r:jI):=_
def Pb(ha:akV)(hb:a1F b):=_
def azS(iu:acs)(LT:∀M,Looks M s.heap (az7 (Δ e)) (Δ C)):=_
def iO{i:Int}:=_
def aMi(DR:∀G s,zI [ο 0,bk s,zU] (M++G)=.ok (bX (LU (gv s))) (M++G))(zB:∀R,alX n nx gv (J' Y) R=HF):=_
def gp(X:bY):=_
def G2{xs:di}{us:b7}:=_
def r3(j:Int):=_
def jX(H:aP):=_
def ly(W:bL):=_
def D6 br{kvs:nZ}:=_
def l!(w:gV):=_
def jq(h:YM):=_
def azT(hs:Ef (e::es)=aco::aEa:=by rfl):=_
def afU(ha:aD9)(hb:jc b db):=_
def aaT(pj:aEb:=by rfl):=_
def afV{ι ι':cY}{S S' H H':aP}:=_
def o7(pins:f_)(s:Shared)afR:=_
def aoV(ha:Y3 (e::es))(hg:Lk:=by rfl):=_
def gc(Y:eJ):=_
def jY(ps:alG):=_
def K_(hN:X.N.Nodup):=_
def aoW(ph:apt o name Hi=Hi:=by rfl):=_
def aaU(ha:S a=lB .b! .bA):=_
def aMj(hu:ç (apC 1+aNL a1U))(h:Q (qg (BS (xs.any (zR y y d)) (xs.any (zR y y d)))) s):=_
def aMk(he:Ef [a,c_ x q]=akY a::Ef [c_ x q]:=by rfl)(iJ:YQ (YR [c_ x q]).any:=by rfl):=_
def azU(hp:∀a,zS Em)(inj:∀a b,Em=enc b->a=b):=_
def K!(s':Shared):=_
def tG{κ:Type}:=_
def tH(ck:Addr):=_
def Pc{w:gn}{i x:Int}:=_
def gB{d:bu}:=_
def afW(M':aL)(h:dN=.ok x M'):=_
def iP{H:aP}:=_
def K?{ι:cY}{S:aP}:=_
def gX{x:aj}:=_
def aMl(hg:OJ (mi (l6 P w) P w K mg base N qual scope f cd A outer s H E) x:=by rfl):=_
def afX{H H':aP}{s s':Shared}:=_
def qR{C:Addr}:=_
def aoX(hs:Ef [a]=[akY a]:=by rfl):=_
def aoY{g0 g1 g2 g3 rF rG rH rI:D1}:=_
def aof(f:Addr)(gm:Value):=_
def D7(o:dg)dF:=_
def aoZ(k:∀b u,tQ=dO->r4=dO):=_
def xD(a:Nat):=_
def rX(c7:xH):=_
def aMm{w:qK}(h:∀ι' S' M' H',SY S->Vt->qE w M'->∃vs,iI K H' q vs/\Ê K):=_
def afY(e:H a=m_ .bA):=_
def l?{X:bY}:=_
def BC{pins:f_}zL nW:=_
def La(hx:dG=eU):=_
def aMn(hf:auX y\/acp y:=by first | exact Ω rfl | exact aA rfl | assumption):=_
def nY(x:Str):=_
def rY{Q:iQ}:=_
def UT á(base:Heap):=_
def UU(h:All L K)iw:=_
def G3(h:Hj .ak):=_
def aMo(hf:∀v u s2 x y H2,kO H2 s2->LV->acn->R x y H2->j6 (f v u) Q s2):=_
def afZ{cM:Expr}(a it:Addr):=_
def afr(co:apr X N)(vy:YO):=_
def afs{ι ι':cY}{S S':aP}:=_
def Pd{Q:Unit->BP}:=_
def aft{scope:Scope}:=_
def azV(h:j≤k:=by first | omega | decide):=_
def tK{h:Heap}:=_
def tL{c:Addr}:=_
def tM(hu:aQa):=_
def ao0(aoc:az7 (fG id)=a1Q dH):=_
def aMp(hn:dR (YT es)=n:=by rfl)(mW:bR (gf (YT es).findIdx?):=by rfl):=_
def Pe{i j:Int}cw:=_
def o8(k:Nat):=_
def aMq(hsw:aAe (Hu elt [Si 0] scope pos) (acB y py) anE.line=pure true):=_
def aMr(hs:aNH [cM] e X.env=YU:=by rfl)(hw:aNJ [cM] e=pure none:=by rfl):=_
def aaG{ρ:ej}{M M':aL}:=_
def afu(ha:pZ X (e::es) t):=_
def ao1(ho:g9 o td)(he:acz ty):=_
def aMs(hn:vC p (vB->g7 [ο 0,η p] M=aqk (zT||ti p) M (.ok .ah M))):=_
def ve{p:Addr}:=_
def D8 gz(t:iM):=_
def p8(i:Int):=_
def p9(I:auS):=_
def p_(h:vn):=_
def azW(hc:bK [ο 0,η i] M=Sg .ok .ah):=_
def azX(Dw:ayz (H x))(he:e=x\/H e=zQ x):=_
def Lb(lo hi:eF):=_
def G4{st:Stmt}:=_
def aMt(mW:Ef (e::es)=aco::aEa:=by rfl)(iJ:YQ (YR es).any:=by rfl):=_
def ao2(ho:ak0 o)(he:jc e dk):=_
def m7(x:aj):=_
def o9(B:cI):=_
def afv(hd:aND M n .ak Y):=_
def afw(d:xt C Y M B W o):=_
def azY(x:BB P w outer H s e cls H' s'):=_
def azZ(h1:Ep M = Er)(h2:Eo M = Hp):=_
def aaH{f:α->aL->akX}:=_
def aaI{b:Addr}{o:Obj}:=_
def aMu(hi:acu:=by rfl)(hx:au0 x:=by first | exact apG | exact aAj):=_
def qS(s:Nat):=_
def afx bZ(g:Bf H a y o):=_
def Lc{kvs:R9}{aG:Eh}(h:R_):=_
def xw(hx:Ei):=_
def kM{K:fh}:=_
def à dj(nx:P->mj):=_
def aMv(hs:Ho (YT (e::es)).map=acC e::Ho (YT es).map:=by rfl):=_
def aMw(k:∀b u,b≠e->tQ=dO->r4=dO)(aln:∃u,h'.get? e=dO):=_
def ao3 gp(pins:f_):=_
def D9{pos:Pos}:=_
def G5(S:aQb):=_
def az0(X:acs)(I:aeP s.heap x dx C mA):=_
def aMx(hg:∀C fp s0 H0,u7 (wY X scope N C fp s0 H0) cM g)(hi:∀C fp s0 H0,è (wY X scope N C fp s0 H0) tt)(he:∀C fp s0 H0,Br (wY X scope N C fp s0 H0) elt te):=_
def aMy(hg:∀C fp s0 H0,aaD (wY X scope N C fp s0 H0) cM g)(hi:∀C fp s0 H0,ayY (wY X scope N C fp s0 H0) ifs tc)(he:∀C fp s0 H0,aKu (wY X scope N C fp s0 H0) GP elt d):=_
def ao4(hd:dN=.ok (ο n) M):=_
def ao5(DP:YW r us)(aU:YY):=_
def Pf{outer:Eg}:=_
def Pg{live:Bool}:=_
def az1{loose ends:fD}{m0 many:Nat}:=_
def mh(d:bu):=_
def UW(wO:a1G k 3):=_
def afy{es:a1J}{ep:Nat}:=_
def Ph l!(l:xG):=_
def Pj l!(d:Ek):=_
def ao6(OR:acA (YZ es ep)):=_
def az2(g0 g1 g2 g3 rF rG rH rI:D1):=_
def qT(k:κ):=_
def aMz(he:aNE Sh=(false,eval e₀ o!)::aNE rest:=by rfl):=_
def m8(s:rC):=_
def ao7{kindOf:a1N Str}eo:=_
def UX aaS(hg:R!):=_
def G6(u:Value):=_
def BD(h:Heap):=_
def BE{t':Nat}:=_
def BF(hc:YO):=_
def BG(ns:fD):=_
def BH{ds:tO}:=_
def BI(hi:Hl):=_
def aMA(E:anA c loose m0 many ends):=_
def vf(xs:fZ):=_
def vg(p:Nat):=_
def az3 d6(h:ρ[k]? = Y0 aE w.s):=_
def ao8(KL:auT:=by decide):=_
def ao9(xg:jb nm)(ha:rT a):=_
def aLO(hd:dN=.ok (ο 7) M)(hv:nO (Y8 Y j) (lY x)=fU):=_
def afz(e:Int->α->aj):=_
def aLP K7(zB:Hr x ("__classdict__" : Str):=by decide):=_
def zN azQ aoS:=_
def Pk{N ps:gM}:=_
def azq(hn:auY x :=by decide)K7:=_
def UY(aH:St->d_):=_
def D_(bg:acn):=_
def apa(r:V->di->aP->j0):=_
def apb(hi:acu)(hx:au0 x):=_
def apc(hg:Lk)(hm:apv x):=_
def aoq{f:Addr}{cd:Value}:=_
def aor(f:A->P)(ls:p! A):=_
def azr(hw:aQe)(KN:aal jD):=_
def xx(f:Str):=_
def xy{vs:di}:=_
def xA(s:vm):=_
def xB{ps:alG}:=_
def azs{KM ali jD alj alk Um:D1}:=_
def azt(e:H a=å C)(c:Bp X.K C):=_
def Ld{kvs:auV}:=_
def afA(S:a5F N):=_
def Le{res:n0}:=_
def Lf(i x:Int):=_
def aLQ(hm:cW (lastMarks [op,aaF] [b,c]):=by rw[af7]):=_
def aLR(hl:aAh)(h1:apH i (o i≠.DI->M'[i]? = M[i]?)):=_
def aLS(aJN:aAe (c_ n avT) (acB y py) apos.line=YU:=by rfl)(hdx:auT:=by decide)(hdn:Hr n ("__debug__" : Str):=by decide):=_
def UZ{kvs:Eh}{vs:aNB}(r:YS):=_
def U0(ρ:ej)dF:=_
def aaJ{enc:α->aj}:=_
def p0{Q:afe}:=_
def aLT(hc:bK [ο 0,η i] M=BU (Ln i) .ok .ah g_):=_
def aLU(hk:HD M2=.ok k bE)(hp:cu (DG x k y bE) M'):=_
def afB(ha:tD X a tA):=_
def afC(g:κ->α->β):=_
def afD(h:Ui Y M W j):=_
def afE(Q:iQ)(E:iQ):=_
def afF{ρ:ej}{σ:St}:=_
def afG(f:Hq)(S:Lj):=_
def aLV(h:apE σ H x (tb σ H1 (mq y (R x y H2)))):=_
def afH iP{a b:Addr}:=_
def afI bZ(hf:acv H):=_
def afJ rY(hu:aAc 1):=_
def aaK(rs:eG)ly:=_
def aos{xs:apx}(r:apy H):=_
def aot(st:Stmt)(ps:gM):=_
def zO{Q:Ej}:=_
def aou d5(h:acy y k y):=_
def G7{b:Bool}:=_
def G8(hr:jZ):=_
def azu(hr:r5 (A.deeper o!)):=_
def azv(prog:Program)(w:World):=_
def azw{prog:Program}{w:World}:=_
def azx(I:af4 W)(S:aEc (A3 Y)):=_
def aaL{body:Ll}:=_
def aLW(k:∀ρ' M',R xs ρ' M'->Q (.nx ρ' M')):=_
def aLX(hk:pA ρ k y)(hy:oY M y=aY (ys.map η)):=_
def aLY(hv:dv ρ M=.ok y aa)(ho:Eu aa=.ok x M2):=_
def afK(Q:Bool->dS):=_
def afL(ho:g9 o to):=_
def afM{d:BO}{k:κ}:=_
def Pn{pins:f_}:=_
def Po{kvs:qV}:=_
def rZ(p:fj):=_
def azy(OS:∀r∈us,o_∈U):=_
def azz{ρ:ej}{f:α->aL->Out}:=_
def aaM{aH:St->d_}:=_
def aaN(uN:a1H nN):=_
def BJ(us:b7):=_
def BK{us:b7}:=_
def aLZ(h1:Ho (YT [cM]).map=[acC cM]:=by rfl):=_
def aL0(hp:∀p:fj,dM agd M=.ok (.ai (uU p)) M):=_
def afN(kvs:Eh)qT:=_
def aL1(i:∀v σ H Q,t' v σ H Q->t v σ H Q):=_
def azA(hd:dN=.ok (ο 0) M):=_
def xC{o:fB}:=_
def Lg(ok:R8):=_
def Lh(ds:tO):=_
def Pp(ha:aD9):=_
def aL2(aQV:j∈(eH a).js)(aEL:j∈(eH b).js):=_
def aov(e:H a=m_ .dT):=_
def aow(h:M[n]? = g!):=_
def aox(S9:aps k 1 Dk):=_
def aoy(ι:cY)(S H:aP):=_
def aoz{ι:cY}{S H:aP}:=_
def G9 eS afT:=_
def aL3(ha:akV)(hb:g9 (lU .Or qX pos) tb):=_
def aL4{r r':V->eF->eF->aP->j0}(h:GO X r):=_
def aL5(ave:aNK X :=by rfl)(aQI:Lk:=by rfl):=_
def afO{m:Str->gK}:=_
def afP(gS ck:Addr):=_
def D!{k:Key}:=_
def D?(vs:di):=_
def Ea{p:Nat}:=_
def aoA gJ(K:aKx Y W):=_
def azB(s:tE C Y M B W o j):=_
def azC{w:qK}{R:ej->cO aL}:=_
def azD(hn:af3)(hl:apw Hs):=_
def xE(t:TB):=_
def vh{s:rC}:=_
def vj{w:gV}:=_
def UB{env:Env}:=_
def aaV{op:CmpOp}:=_
def aaW(he:El e):=_
def aaX(hm:aFh qy):=_
def aaY(hb:aFg bN):=_
def aaZ(S:aEc Dz):=_
def aL6(hs:apz e (acB x pos')=YU:=by rfl):=_
def aL7(hc:bK [ο 0,η i] M=æ i .ok .ah):=_
def aL8(X:K.In hp)(G:hp.Ns mainGlobals mg):=_
def aL9(h:dN=bW c M')(q:Q (bW c ρ M')):=_
def aMa{res:Sl}(h0:∀G,Uh C Y (M++G) tk):=_
def aMb(ph:apD o "values"=Hi:=by rfl)aaT:=_
def aMc(h0:∀S F,Uh C Y (eL S F) tk)azr:=_
def aMd(iJ:YQ (aga dc rest).any:=by rfl):=_
def aLE(hs:aNI sl vl vu)(pl:IsPart vl lo):=_
def Pq{e:Expr}:=_
def Pr(gF:xG):=_
def Pu(c:Addr):=_
def Pw(mV:auW):=_
def aLF(ph:apD o "items"=Hi:=by rfl)aaT:=_
def aoB{qual:Str}aft:=_
def azE(D:cJ x st ps)afA:=_
def azF afY(bg:xM (kV k)):=_
def azG(hb:Binds X.K fd ps ds)(hd:Vals DQ ds)(hx:aFY fR X aH):=_
def azH gb(h:r<rs.length):=_
def aoC d6(hk:Sa k):=_
def aoD gJ(s8:a1P r):=_
def G_{fp:cY}:=_
def G!{f:Str}:=_
def G?(R:aQd):=_
def Li D5{mg:Str->gK}{base:Heap}:=_
def UA aoQ lu jX(E:d_):=_
def aLG(i:∀D σ H,t' D σ H->t D σ H):=_
def aLH azT(amV:YQ (Y5 es).any:=by rfl):=_
def aLI Pp(hb:jc (lU .Or qX pos) db):=_
def azI(i j:Int)(t u:Tok):=_
def aLJ(A:awJ C g0 g1 g2 g3 rF rG rH rI):=_
def aLK(S_:Et (k+1) "is_at_border" J9):=_
def aLL(pa:PlainAttrs T)(slot:aNF T id):=_
def aLM(hn:af9)(hl:LS (tR (aNM q.2))):=_
def aoE(hl:g9 l tl):=_
def aoF(fd:FuncData):=_
def aoG(hs:aKf C gs):=_
def aoH(hca:ay0 C KM):=_
def aoI(eh:apu k Di):=_
def aoJ(N8:aAd k Dl):=_
def aoK(ι:cY)(S:aP):=_
def zP(Q:afe):=_
def aLN(k:∀b o,b∉fp->kX->r4=cy):=_
def aNa{gt g0 g1 g2 g3 rF rG rH rI:D1}:=_
def aNb{loose:gM}{XP:(Str->gK)->aAV}:=_
def aNc{id:String}(slot:aNF "list" id):=_
def aNd(enc:α->aj)(R:qU->ej->cO aL):=_
def aNe{b:ow P}(hS:fT S (cW (b p))):=_
def m9{v:V}:=_
def aoL{M:Model}vd{E:iQ}:=_
def aoM(e:Value)K!:=_
def aNf aaL{np py avT apos ayX pos:Pos}:=_
def aoN fC{s r:Nat}:=_
def azJ(S:agM N ps scope):=_
def azK(hn:cu l.most n):=_
def azL(hr:Kd (k+1) X.A):=_
def azM{oP:D1}(hr:aE7 oP):=_
def azN{locks:xG}{t:iM}:=_
def aa0(v:Value):=_
def aa1(G:auZ X):=_
def aa2(D:Due W):=_
def K3(xs:di):=_
def K4(j:Nat):=_
def K5(M':aL):=_
def K6(h:xJ):=_
def aNg(F:Kt P w K mg base j C m n g):=_
def aNh(F:s9 P w K mg base j x C n g):=_
def aNi(h:∀l,Ui Y (aa++[ς l]) W j):=_
def aNj{r r':di->aP->j0}(h:ij X f r):=_
def aNk(hm:FC X id (Sj f))(ho:ak0 o):=_
def aNl(hg:a1T)(hf:(a1W).Sublist nB):=_
def Px jX rV:=_
def Py l? BC:=_
def Pz d5 cw:=_
def PA r3 dF:=_
def PB K8 G5:=_
def UC(e:Expr):=_
def UD(xs:qU):=_
def UE{ns:fD}:=_
def aNm(Q:ayD C Y O5 avd O6 avc ava):=_
def aNn(bz:é H' h')(hg:AllBare g'):=_
def aNo(hU:agb)(OS:Lr (zi Y r∈U)):=_
def BL{E:d_}:=_
def afQ(ta tb:TE):=_
def afh(hu:a1K 1):=_
def afi(da db:bu):=_
def afj(X:anf K C):=_
def afk(e:akZ α):=_
def aNp bZ(k:∀b u,Lp u->r4=dO):=_
def aa3{y:V}qP:=_
def aoO(hl:YX 100):=_
def aoP(ht:ay0 C gt):=_
def azO(ho:af5 (En f)):=_
def azP(h:aAb 2\/aAb 3):=_
def azh(v:gn)(hu:v.s=u):=_
def aNq(avM awo awD awE amO anF B1 B2:D1):=_
def aNr{C:Int->apJ}{g:Int->Int->aj}:=_
def azi{x qual:Str}G4:=_
def aog(lo:Int)dj:=_
def aoh aoU{ps:gM}:=_
def aoi dj(way:gV):=_
def aoj l!(f:Bool):=_
def aNs(hs:apz e none=YU:=by rfl):=_
def aNt(mI:er "_law_train_in" ac5):=_
def PC(t:Int):=_
def PD{s:Nat}:=_
def aNu(D:aeB K mg x C q st ps)afA:=_
def Eb{g:D1}:=_
def aNv c9(c8:cY->aP->α->cO β):=_
def azj{R:Result->BP}:=_
def azk(M:Uk K mg x C):=_
def azl(res:n0)(k:tC):=_
def azm{f:A->P}{S:nc}:=_
def aNw(hdf:d.params.defaults=[]):=_
def aNx(hn:ds.length+1=n:=by rfl):=_
def aNy(alF:er "signal_ahead" acK):=_
def aNz{pl:aAl}{Q:Value×b7->BP}:=_
def aMK(hk:g9 k tk)(hv:g9 v zp):=_
def aML(rx:aAg x d bs)(OV:aNG xs):=_
def aMM{v₁ v₂:Expr}{rest:dI}:=_
def aMN(hc:axh C bK)(hu:aJM C f5):=_
def UG c9 nX:=_
def UH ly dZ:=_
def UI o9 gz:=_
def UJ ly gz:=_
def aoe xD gz:=_
def azn xC(h:Lo H a):=_
def aok(DH:YV bu):=_
def aol(T:BQ M t):=_
def aom{y z w:qW}:=_
def aon(dA:a1M cb):=_
def aoo(sV:a1L oO):=_
def aa4(he:aAa):=_
def aa5{xs:qU}:=_
def aa6(ba:vm):=_
def aa7{x y:aj}:=_
def aa8{tk:Int}:=_
def aa9(Bo:az9):=_
def aba{jb:akW}:=_
def abb(hw:aQe):=_
def aMO{bK gs gt bN pX f5 bU:D1}:=_
def aMP(kV doc pm:Value)(an:Y7):=_
def aMQ(hl:agc)(hf:DC f y fs=DS):=_
def aMR(hk:iH x=fE)(hv:Ex=fU):=_
def afl{v:Value}:=_
def afm{h':Heap}:=_
def afn{j k:Nat}:=_
def afo(h:j≤k):=_
def afp(h:acw M):=_
def afq{kvs:nZ}:=_
def af0{a b:Nat}:=_
def aop ao3(σ:St):=_
def apd vc(h:jI):=_
def ape p6(h:gR):=_
def aMS afU(hm:apB op b:=by rfl):=_
def apf K9(v:α)(k':κ):=_
def apg gW{v':fB}:=_
def aph r3(a:fF):=_
def api{w:eG}gb:=_
def azo(hc:ax3 C Y bK):=_
def azp(ht:aGV C Y gt):=_
def az4{a:α}{as:qU}:=_
def aMT(r:V->eF->eF->aP->j0):=_
def aMU(F:Sk P w K mg j x n g):=_
def aMV{vl vu:Value}{lo hi:eF}:=_
def aMW{j o:Int}(hn:p.js.Nodup):=_
def az5 c9(T:String):=_
def aMX(D:ane K C m q st ps)afA:=_
def aMY(I:aeT c ps loose m0)aMA:=_
def az6 eS(I:aF4 Y W):=_
def af1 o7(x:V):=_
def af2 m7(v:V):=_
def aMZ br(h:dN=.ok (η n) M):=_
def aM0 d6(h:sO=pre++k::post):=_
def UK(te:TE):=_
def UL{gr:rL}:=_
def UM{P:aNC}:=_
def UN{j:Int}:=_
def UO(l:xG):=_
def UP{M':aL}:=_
def UQ{bN:D1}:=_
def UR{gt:D1}:=_
def aM1(F:QR K x qual st f fd):=_
def aM2(ho:Eu M=.ok (ο n) M):=_
def aM3(T:Gv Y.rs aAk locks t):=_
def aM4(hd:dN=.ok (ς apF) M):=_
def aM5(alN:er "pieces_at" acW):=_
def aM6(amc:er "_law_held" adG):=_
def aM7(amd:er "_law_near" adH):=_
def aM8(ame:er "_law_free" adI):=_
def aM9(hg:Lk)(hm:X.mg x=dO):=_
def aMB(hi:Se ι p)(hS:Y6 p):=_
def apj{xs ys:fZ}:=_
def apk{d:PyData}:=_
def apl(neg:Bool):=_
def apm(wait:Int):=_
def apn(d:BR α):=_
def apo(d:Sd α):=_
def apq(hb:∀M aoe,bN [kN,η a,η x] M=.ok (bl (R? x)) M):=_
def aMC(hb:∀aof UA,r5 (ä q f)->Good (Lm q) (λ_=>E) →
   â (Lm q) (λ_=>E) d):=_
def aMD(hu:∀xE M',Ep M' = Er->Eo M' = Hp->Lq->f5 [lJ] M'=.ok (bX Sf) M'):=_
def aME(hs:∀M' dZ,M'[0]? = Ey HE->jZ->gs [ο 0,η r] M'=.ok (η b_) M'):=_
def aMF(hb:∀xD r3,bN [kN,η a,η j] M=.ok (.ai (R? j).isNone) M):=_
def aMG(hb:∀aof UA,r5 (ä q f) →
   â (Lm q) (λ_=>E) d):=_
def aMH(hs:∀M B dZ,vn->jZ->gs [ο 0,η r] M=.ok (η b_) M):=_
def aMI(hb:∀xD r3,bN [kN,η a,η j] M=.ok (bl (R? j)) M):=_
def aMJ(hw:∀M B dZ,vn->jZ->bU [ο 0,η r] M=.ok g4 M):=_
def aNA(hi:∀dj rV,xN->Se ι' a):=_
end
def ZqT:=Std.HashMap Lean.Name (Nat×Array Lean.Name×Array Lean.Syntax)
def ZqH:Lean.Syntax->Option (Lean.Name×Array Lean.Syntax)
|.ident _ _ x _=>some (x,#[])
|.node _ ``Lean.Parser.Term.app as=>match as[0]! with
 |.ident _ _ x _=>some (x,as[1]!.getArgs)
 |_=>none
|_=>none
def ZqW (s:Lean.Syntax):Nat×Lean.Syntax:=
 if s.getKind==``Lean.Parser.Tactic.rwSeq&&s[2][1].getNumArgs==1 then (1,s[2][1][0][1]) else if s.getKind==`Lean.Parser.Tactic.rcasesPat.one then (2,s[0]) else (0,s)
def ZqG (D:ZqT):Nat->List (Lean.Name×Array Lean.Syntax)->Lean.Syntax->Array Lean.Syntax
|0,_,s=>#[s]
|n+1,E,s=>
 let (w,t):=ZqW s
 if s.isOfKind ``Lean.Parser.Term.paren&&(match ZqH s[1] with
  |some (x,as)=>(match Std.HashMap.get? D x with
   |some (0,ps,_)=>as.size==ps.size
   |_=>false)
  |_=>false) then ZqG D n E s[1] else
 let g:=match ZqH t with
  |some (x,as)=>match (if as.isEmpty&&w==0 then E.lookup x else none) with
   |some r=>some r
   |none=>match Std.HashMap.get? D x with
    |some (v,ps,b)=>if !(v==w)||as.size<ps.size then none else
     let a:=as.map (ZqG D n E)
     let b:=b.flatMap (ZqG D n (ps.toList.zip a.toList))
     if as.size==ps.size then some b else some #[.node .none ``Lean.Parser.Term.app #[b[0]!,.node .none Lean.nullKind ((a.extract ps.size).flatMap id)]]
    |_=>none
  |_=>none
 let f:=fun (s:Lean.Syntax)=>if s.isOfKind ``Lean.Parser.Term.app&&s[0].isOfKind ``Lean.Parser.Term.app then s.setArgs #[s[0][0],.node .none Lean.nullKind (s[0][1].getArgs++s[1].getArgs)] else s
 match g with
 |some r=>r.map f
 |none=>match s with
  |.node i k as=>#[f (.node i k (as.flatMap (ZqG D n E)))]
  |_=>#[s]
def ZqC:Nat->Lean.Syntax->Lean.Syntax
|0,s=>s
|n+1,s=>
 if s.isOfKind ``Lean.Parser.Command.universe then .node .none ``Lean.Parser.Command.end #[Lean.mkAtom "end",.node .none Lean.nullKind (if s[1][0].getId==`zE then #[] else #[s[1][0],.node .none Lean.nullKind #[]])]
 else if s.isOfKind ``Lean.Parser.Command.in then s.setArg 2 (ZqC n s[2])
 else if s.isOfKind ``Lean.Parser.Command.declaration&&(s[0].getArgs.extract 2).all (·.getNumArgs==0) then
  let d:=s[1]
  if d.isOfKind ``Lean.Parser.Command.definition then s.setArg 1 (.node .none ``Lean.Parser.Command.theorem #[Lean.mkAtom "theorem",d[1],.node .none ``Lean.Parser.Command.declSig #[d[2][0],d[2][1][0]],d[3]])
  else if d.isOfKind ``Lean.Parser.Command.abbrev then s.setArgs #[s[0].setArg 4 (.node .none Lean.nullKind #[.node .none ``Lean.Parser.Command.noncomputable #[Lean.mkAtom "noncomputable"]]),.node .none ``Lean.Parser.Command.definition #[Lean.mkAtom "def",d[1],d[2],d[3],.node .none Lean.nullKind #[]]]
  else s
 else s
def ZqI (s:String):Lean.Name:=(s.splitOn "\t").foldl Lean.Name.mkStr .anonymous
def ZqP (s:String):Array Lean.Syntax:=
 let f:=fun (x:Lean.Syntax) (S:List (Lean.Name×Array Lean.Syntax))=>match S with
  |(k,a)::S=>(k,a.push x)::S
  |[]=>[]
 let r:=(s.splitOn "\n").foldl (fun (S:List (Lean.Name×Array Lean.Syntax)) t=>
  let u:=(t.drop 1).toString
  match t.front with
  |'('=>
   let v:=(u.drop 1).toString
   ((match u.front with
   |'n'=>Lean.nullKind
   |'t'=>.str `Lean.Parser.Term v
   |'c'=>.str `Lean.Parser.Tactic v
   |_=>ZqI v),#[])::S
  |')'=>match S with
   |(k,a)::S=>f (.node .none k a) S
   |[]=>[]
  |'\''=>f (.atom .none u) S
  |'.'=>f (.ident .none u.toRawSubstring (if u=="" then .anonymous else ZqI u) []) S
  |'?'=>f .missing S
  |_=>S) [(.anonymous,#[])]
 match r with
 |(_,a)::_=>a
 |[]=>#[]
def ZqB (cs:Array Lean.Syntax):ZqT:=cs.foldl (λ D c=>let b:=c[2]
  let p:=c[1].getArgs
  let q:=p.map (·.getId)
  D.insert c[0].getId (if b.isOfKind ``Lean.Parser.Term.byTactic then (1,q,b[1][0][0].getArgs) else if b.isOfKind ``Lean.Parser.Term.hole then (0,#[],p) else (0,q,#[b]))) (Std.HashMap.emptyWithCapacity 4096)
def ZqE (D:ZqT) (cs:Array Lean.Syntax):Array Lean.Syntax:=cs.flatMap λ c=>(ZqG D 100000 [] c).map (ZqC 9)
local macro_rules
|`(mutual $cs* end)=>do
 if !cs[0]!.raw.isOfKind ``Lean.Parser.Command.section then Lean.Macro.throwUnsupported
 return .node .none Lean.nullKind (ZqE (ZqB (ZqP ZqD)) (cs.map (·.raw)))
mutual
section
namespace L2
open PySem PySem.Spec PyProof.Rows
noncomputable abbrev Key:=Sum Int Str
abbrev Ox:Key->E7 Bool
 |Ω k,v=>Value.isInt k v
 |aA x,v=>Value.isStrOf x v
abbrev a4s(w:World):Key->Int
 |Ω k=>hashInt k
 |aA x=>hashStr w x
def fw:∀D! afl,aO (Ox k v)->(∃i t,k=Sum.inl i/\v=Wd t)\/(∃x t,k=Sum.inr x/\v=We x)
 |Ω i,v,h=>by
  rw[ee t e (Value.isInt_shape (k:=i) (v:=v) h) (Ω (uv i t e))]
 |aA x,v,h=>by
  rw[ee t e (Value.isStrOf_shape (x:=x) (v:=v) h) (aA (uv x t e))]
def NA p8(t:Tok):aO (Ox (Ω i) (η i t)):=gh Ox Value.isInt
def aVC nY(t:Tok):aO (Ox (aA x) (aE x t)):=gh Ox Value.isStrOf
def a0R(a b:Int):fK (asD:Key) asE=(a == b):=by
 rw[lE (a=b)]
 ·rw[Al e]
 ·have h:¬(asD:Key)=asE:=λq=>e (Sum.inl.inj q);rw[fX aA7 (beq_eq_false_iff_ne.mpr e).symm]
def a0S(a b:Str):fK (Sum.inr a:Key) (Sum.inr b)=fK a b:=by
 rw[lE (a=b)]
 ·rw[Al e]
 ·have h:¬(Sum.inr a:Key)=Sum.inr b:=λq=>e (Sum.inr.inj q);rw[aA7,aO7]
def a0T(a:Int)(b:Str):auu (asD:Key) (Sum.inr b):=decide_eq_false (λq=>nomatch q)
def a0U(a:Str)(b:Int):auu (Sum.inr a:Key) asE:=decide_eq_false (λq=>nomatch q)
abbrev Dj azv:PySem.KeyKind prog w Key where
 is:=Ox
 hash:=a4s w
 inj:=λv a b ha hb=>by
  rcases fw ha with⟨i,t,rfl,rfl⟩ | ⟨x,t,rfl,rfl⟩
  ·rcases fw hb with⟨j,u,rfl,e⟩ | ⟨y,u,rfl,e⟩
   ·rw[ř e e1];rw[e1]
   ·rw[aC6]
  ·rcases fw hb with⟨j,u,rfl,e⟩ | ⟨y,u,rfl,e⟩
   ·rw[aC6]
   ·rw[ř e e1];rw[e1]
 byValue:=λk v h=>by
  rcases fw h with⟨i,t,rfl,rfl⟩ | ⟨x,t,rfl,rfl⟩<;>rfl
 pyHash:=λhv h=>by
  rcases fw hv with⟨i,t,rfl,rfl⟩ | ⟨x,t,rfl,rfl⟩
  ·exact wpAny_pyHash_int h
  ·exact wpAny_pyHash_str h
 eqBool:=λhu hv h=>by
  rcases fw hu with⟨i,t,rfl,rfl⟩ | ⟨x,t,rfl,rfl⟩
  ·rcases fw hv with⟨j,u,rfl,rfl⟩ | ⟨y,u,rfl,rfl⟩
   ·rw[bG a0R h (wpAny_eqBool_int h)]
   ·rw[bG a0T h (SeqAt.EqAt.int_str i t y u _ _ _ _ h)]
  ·rcases fw hv with⟨j,u,rfl,rfl⟩ | ⟨y,u,rfl,rfl⟩
   ·rw[bG a0U h (SeqAt.EqAt.str_int x t j u _ _ _ _ h)]
   ·rw[bG a0S h (wpAny_eqBool_str h)]
 «strs»:=λk x t v h=>by
  rcases fw h with⟨i,u,rfl,e⟩ | ⟨y,u,rfl,e⟩
  ·rw[aC6]
  ·rw[ř e e1];subst e1;cases v<;>rfl
def aTV azv p8(t:Tok):aO ((Dj prog w).is (Ω i) (η i t)):=NA i t
def aTW azv nY(t:Tok):aO ((Dj prog w).is (aA x) (aE x t)):=aVC x t
universe L2
namespace L2
open PySem PySem.Spec PyProof.Rows
inductive V where
 |ah | ai(b:Bool) | int p8 | str nY | acF(b:Array UInt8) | Uq(b:UInt64) | ref rV | ty(n:String)
 deriving DecidableEq
abbrev RelV:V->cO Value
 |.ah,u=>u=Value.none
 |.ai b,u=>u=Value.bool b
 |η i,u=>∃t,u=Wd t
 |aE x,u=>∃t,u=We x
 |.acF b,u=>∃t,u=Value.bytes b t
 |.Uq b,u=>∃t,u=aB1 b
 |Δ a,u=>u=IH
 |.ty n,u=>u=Value.type n
noncomputable abbrev Vals:di->cO b7:=Paired RelV
def Vals.length G2(r:vX):Ŗ us.length:=aCT
def Vals.get:∀G2 gW{x:V},vX->zW->∃u,jz us u/\xM x
 |_,_,_,_,c6,e=>LR e
 |_,_,0,_,b4 r _,e=>by rw[Ma e e];exact IX r
 |_,_,i+1,x,b4 _ t,e=>by
  rw[RX u (Vals.get (i:=i) (x:=x) t (a! e)) u (a! h1) h2]
def Vals.set{x:V}qP(r:xM x):∀G2 iw,vX->Jh (xs.set i x) (us.set i u)
 |_,_,_,c6=>c6
 |_,_,0,b4 _ t=>b4 r t
 |_,_,i+1,b4 q t=>b4 q (Vals.set r i t)
def Vals.append:∀{xs ys:di}{us ws:b7},vX->Vals ys ws->Jh (xs++ys) (us++ws)
 |_,_,_,_,c6,s=>s
 |_,_,_,_,b4 r t,s=>b4 r (Vals.append t s)
def Vals.take:∀G2 dj,vX->Jh (xs.take n) (us.take n)
 |_,_,0,_=>c6
 |_,_,_+1,c6=>c6
 |_,_,n+1,b4 r t=>b4 r (Vals.take n t)
def Vals.drop:∀G2 dj,vX->Jh (xs.drop n) (us.drop n)
 |_,_,0,r=>r
 |_,_,_+1,c6=>c6
 |_,_,n+1,b4 _ t=>Vals.drop n t
abbrev s5:Ih->cO gK
 |fU,dO=>oA
 |none,none=>True
 |_,_=>False
abbrev jW tG:Eh->cO aNB:=Paired fun(p:κ×V) (q:κ×Value)=>p.1=q.1/\RelV p.2 q.2
abbrev kV:Key->V
 |Ω i=>η i
 |aA x=>aE x
inductive jn where
 |lst K3
 |tup K3
 |bA(kvs:qV) | dT(kvs:auV)
 |set(S:apJ)dj
 |ins(C dx:Addr)(fs:CN)
 |own(x:Addr)
 |amE(fs:CN)
 |met(f x:Addr)
 |qM(lo hi:Int)
 |b!(o:Obj)(u:jn)
 |mX(ps:Ss)
 |ext(φ:aAV)
noncomputable abbrev aP:=yT Addr jn
abbrev upd Px(o:jn):aP:=M! b b a cy (H b)
def g6 iP jo{o:jn}:upd H a o a=cy:=by rw[dz upd eK]
def lA afH{o:jn}(h:b≠a):upd H a o b=H b:=by rw[dz upd pH]
def aKD afH{o u:jn}(h:H a=cy)(h':H b=dO)(d:o≠u):a≠b:=by
 intro e;rw[aiF e h h' (d (Option.some.inj h'))]
def wQ afH{o:jn}(h:H a=cy)(h':kr):a≠b:=by
 intro e;rw[yP e h h'];cases h'
section
variable (P:Program) (w:World)
abbrev sU jX BD rV:cO jn
 |ς xs=>LB/\∃(cf:b7) (n:Nat),Xu/\sA=ajX (mK cf.toArray n)
 |aQ xs=>LB/\∃cf:b7,Xu/\IsTup h a cf.toArray
 |.bA kvs=>SO/\H9 a/\∃vs,YS/\h.DictOf (Dj P w) a vs
 |.dT kvs=>SO/\H9 a/\∃xs:apx,
   Paired (fun(p:qi×V) (q:qi×Addr×Value)=>p.1=q.1/\H q.2.1=iR (p.1.map kV)/\RelV p.2 q.2.2) kvs xs ∧
   ∃o es ep,sA=cy/\o.ExactDict/\o.data=YZ es ep/\es.toList=xs.map (entryOfKey (ajc P w))/\ic (xs.map (·.1))
 |jR S n=>h.SetOf (intKind P w) a S n
 |dB C dx fs=>H dx=zQ a/\fs.length≤1000/\dx≠a/\sA=aY (aBo C) ∧
   ∃mA,atv dx/\(∀f,s5 Su (mA f))/\aCU asb
 |.own _=>∃o,sA=cy
 |.amE fs=>∃mA,atv a/\∀f,s5 Su (mA f)
 |.qM lo hi=>∃t u v,sA=V3 (dH "range") (iS #[η lo t,η hi u,η 1 v])
 |.b! o u=>sA=cy/\sU H h a u
 |.mX ps=>sA=V3 cP (iS ps)
 |.met f x=>sA=aAr (Δ f) (Δ x)
 |.ext φ=>φ h/\(∃o,sA=cy)/\∀h1 h2:Heap,φ h1->(∀o,h1.get? a=cy->h2.get? a=cy)->φ h2
abbrev TF jX BD:Prop:=∀a o,H a=cy->sU P w H h a o
universe zE
section
variable {P:Program}{w:World}{H H':aP}{h h':Heap}{a:Addr}{o:jn}
def sU.lt(x:sU P w H h a o):aDy a:=by
 cases o with
 |lst xs=>obtain⟨_,_,_,_,e⟩:=x;exact nG
 |tup xs=>rw[arb p x p.lt]
 |bA kvs=>rw[ý e x];exact nG
 |dT kvs=>rw[ý e x];exact nG
 |set S n=>rw[aCz e x];exact nG
 |ins C dx fs=>obtain⟨_,_,_,e,_⟩:=x;exact nG
 |own y=>obtain⟨_,e⟩:=x;exact nG
 |amE fs=>obtain⟨_,⟨_,_,_,e,_⟩,_⟩:=x;exact nG
 |qM lo hi=>rw[arb e x nG]
 |b! ob u=>obtain⟨e,_⟩:=x;exact nG
 |mX ps=>exact Heap.lt_size (j9 sA tV x)
 |met f y=>exact Heap.lt_size (j9 sA tV x)
 |ext φ=>obtain⟨_,⟨_,e⟩,_⟩:=x;exact nG
def Paired.aJU rW{F G:α->cO β}:∀{l₁:qU}{l₂:akn},Paired F l₁ l₂->(∀a b,F a b->G a b)->Paired G l₁ l₂
 |_,_,c6,_=>c6
 |_,_,b4 r t,f=>b4 (f _ _ r) (Paired.aJU t f)
def sU.zq(x:sU P w H h a o)(k:∀b u,(b=a\/H b=zQ a)->tQ=dO->r4=dO)
  (ho:∀b,H b=zQ a->H' b=zQ a)(ht:∀b xs,H b=vW->H' b=vW):sU P w H' h' a o:=by
 induction o with
 |lst xs=>rw[wB z cf n r e x z cf n r (k _ _ (Ω rfl) e)]
 |tup xs=>rw[VU z cf r ob e c x ⟨z,cf,r,ob,k _ _ (Ω rfl) e,c⟩]
 |bA kvs=>obtain⟨z,y,vs,r,ob,es,ep,e,c⟩:=x;exact⟨z,y,vs,r,ob,es,ep,k _ _ (Ω rfl) e,c⟩
 |dT kvs=>
  obtain⟨z,y,xs,r,ob,es,ep,e,c⟩:=x;exact⟨z,y,xs,ar6 r p q z ⟨z.1,ht _ _ z.2.1,z.2.2⟩,ob,es,ep,k _ _ (Ω rfl) e,c⟩
 |set S n=>rw[VU ob es ep t e c x ⟨ob,es,ep,t,k _ _ (Ω rfl) e,c⟩]
 |ins C dx fs=>
  obtain⟨d,z,ne,e,mA,⟨od,es,ep,e2,c⟩,r⟩:=x;exact⟨ho _ d,z,ne,k _ _ (Ω rfl) e,mA,⟨od,es,ep,k _ _ (aA d) e2,c⟩,r⟩
 |own y=>rw[nH ob e x ob (k _ _ (Ω rfl) e)]
 |amE fs=>obtain⟨mA,⟨od,es,ep,e,c⟩,r⟩:=x;rw[bQ mA ⟨od,es,ep,k _ _ (Ω rfl) e,c⟩ r]
 |qM lo hi=>rw[MK t u v e x t u v (k _ _ (Ω rfl) e)]
 |b! ob u ih=>rw[nH e q x (k _ _ (Ω rfl) e) (ih q)]
 |mX ps=>
  have e:sA=V3 cP (iS ps):=x;rw[F3 (ė=V3 cP (iS ps)) (k a _ (Ω rfl) e)]
 |met f y=>
  have e:sA=aAr (Δ f) (Δ y):=x;rw[F3 (ė=aAr (Δ f) (Δ y)) (k a _ (Ω rfl) e)]
 |ext φ=>obtain⟨p,⟨o,e⟩,st⟩:=x;rw[bQ (st _ _ p λo q=>k _ _ (Ω rfl) q) ⟨o,k _ _ (Ω rfl) e⟩ st]
def TF.lt(x:R8)(e:H a=cy):aDy a:=(x a o e).lt
def TF.fresh(x:R8)(e:aDB a):pN a:=by
 cases q:H a with
 |none=>rfl
 |some u=>rw[pn (agn (x.lt q) e) Æ]
def TF.kept(x:R8)aoZ:F5 H h':=λa o e=>
 (x a o e).zq (λb u _ q=>k b u q) (cQ q q) λ_ _ q=>q
def TF.laid(x:R8)aoZ(hp:aDB a)(new:sU P w (CO a) h' a o):F5 (CO a) h':=λb u e=>by
 have hn:=x.fresh hp;rw[vR (b=a)]
 ·rw[RY e];cases e;exact new
 ·rw[F_]at e
  exact(x b u e).zq (λc v _ q=>k c v q) (λc q=>by rw[J0 hn]) (vJ c q (by rw[J0 hn]))
universe zE
abbrev u9 Px(u:jn):Prop:=H a=dO\/∃o,H a=v! .b! u
def u9.ok u? iP tK jo{u:jn}(r:u9 H a u)(x:R8):sU P w H h a u:=by
 rcases r with r | ⟨o,r⟩
 ·exact x a u r
 ·obtain⟨_,q⟩:=x a _ r;exact q
abbrev ayz:cO (Option jn)
 |yt _=>True
 |d7 .bA _=>True
 |d7 .dT _=>True
 |sq jR _ _=>True
 |aY (dB _ _ _)=>True
 |d7 .ext _=>True
 |_=>False
section
variable {P:Program}{w:World}{H:aP}{h h':Heap}{x e:Addr}{o':jn}
def TF.write Lg azX aMw
  (new:sU P w (q7 x o') h' x o'):F5 (q7 x o') h':=λb u q=>by
 rw[bJ aPK (∀c y,H c=zQ y->c≠x) (λc y r z=>by rw[aiF z r Dw Dw]) a4t (∀c xs,H c=vW->c≠x) (λc xs r z=>by rw[aiF z r Dw Dw])]
 rw[vR (b=x)]
 ·rw[RY q];cases q;exact new
 ·rw[F_]at q;by_cases KP:b=e
  ·rw[rz q' (H b=zQ x) (by
    rcases he with z | z
    ·rw[pn (KP.trans z) hb]
    ·rw[au KP z]) q q'];cases q';rw[nH v hv aln v (by rw[au KP hv])]
  ·refine(ok b u q).zq (λc v hc r=>k c v ?_ r) (λc r=>by rw[gZ (aPK c b r) r]) (vJ c r (by rw[gZ (a4t c xs r) r]))
   rcases hc with rfl | hc
   ·exact KP
   ·rintro rfl;rcases he with z | z
    ·exact aPK c b hc z
    ·rw[hc]at z;cases z;exact hb rfl
universe zE
structure iN(fs ex:cY)(H H':aP)(h h':Heap):Prop where
 keep:∀b o,tQ=cy->kr->b∉fs->b∉ex->r4=cy
 slot:∀b o,tQ=cy->kr->b∈fs->b∉ex->AG sl r4 { o with slots:=sl}
 free:∀b o,tQ=cy->kr->b∉ex->IK b
 there:∀b o,tQ=cy->b∉ex->AG o' r4 o'
 qB:∀b xs,H b=vW->H' b=vW
 oI:∀b o u,H b=v! .b! u->H' b=v! .b! u
 qC:∀b ps,H b=d7 .mX ps->∃more,H' b=z7 .mX (ps++more)
section
variable {fs DS ex ex':cY}{H H1 H2:aP}{h h1 h2 h':Heap}{a x e:Addr}{o:jn}
def iN.any(u:iN fs ex H H1 h h1){b:Addr}{ob:Obj}(q:cu tQ ob)(n:kr)(hx:b∉ex):AG sl aua { ob with slots:=sl}:=by
 rw[vR (b∈fs)]
 ·exact u.slot b ob q n hb hx
 ·rw[cB ob.slots (u.keep b ob q n hb hx)]
def iN.trans(a:iN fs ex H H1 h h1)(b:iN fs ex H1 H2 h1 h2):iN fs ex H H2 h h2 where
 keep:=λc ob q n hc hx=>b.keep c ob (a.keep c ob q n hc hx) (a.free c ob q n hx) hc hx
 slot:=λc ob q n hc hx=>by
  rw[ahA sl e1 (a.slot c ob q n hc hx) rN e2 (b.slot c _ e1 (a.free c ob q n hx) hc hx) rN e2]
 free:=λc ob q n hx=>by
  rw[ee o' e1 (a.there c ob q hx) (b.free c o' e1 (a.free c ob q n hx) hx)]
 there:=λc ob q hx=>by
  rw[ee o' e1 (a.there c ob q hx) (b.there c o' e1 hx)]
 qB:=vJ c q (b.qB c xs (a.qB c xs q))
 oI:=λc ob xs q=>b.oI c ob xs (a.oI c ob xs q)
 qC:=λc ps q=>by
  rw[ahA m1 e1 (a.qC c ps q) m2 e2 (b.qC c _ e1) (m1++m2) (aBE e2)]
def iN.kept aoZ:iN fs ex H H h h':=
 ⟨λb ob q _ _ _=>k b ob q,λb ob q _ _ _=>⟨ob.slots,k b ob q⟩,λ_ _ _ n _=>n,λb ob q _=>⟨ob,k b ob q⟩,λ_ _ q=>q,ku q q,abY _ ps q (by rw[fy q])⟩
def iN.refl:iN fs ex H H h h:=iN.kept λ_ _ q=>q
def iN.laid aoZ(hp:aDB a)(hn:pN a):iN fs ex H (CO a) h h' where
 keep:=λb u q _ _ _=>k b u q
 slot:=λb u q _ _ _=>⟨u.slots,k b u q⟩
 free:=λb u q n _=>by rw[gZ (pC (ap7 q hp)) n]
 there:=λb u q _=>⟨u,k b u q⟩
 qB:=vJ b q (by rw[J0 hn])
 oI:=λb u xs q=>by rw[J0 hn]
 qC:=abY b ps q (by rw[lA (wQ q hn),q];simp)
def iN.write azX aMw:iN fs ex H (CO x) h h':=by
 rw[gq hx (∀b,kr->b≠x) (λb n z=>by rw[aiF z n Dw Dw]) hb (∀b,kr->b≠e) (λb n z=>by
  subst z;rcases he with r | r
  ·exact hx b n r
  ·rw[n]at r;cases r) hm (∀b u,H b=dO->¬ayz dO->b≠x) (λb u q nm z=>by rw[aiF z q Dw (nm Dw)])]
 refine⟨λb u q n _ _=>k b u (hb b n) q,λb u q n _ _=>⟨u.slots,k b u (hb b n) q⟩,λb u q n _=>by rw[gZ (hx b n) n],je b u q _,
  vJ b q (by rw[gZ (hm b _ q (cK z)) q]),λb u xs q=>by rw[gZ (hm b _ q (cK z)) q],abY b ps q (by rw[lA (hm b _ q (cK z)),q];simp)⟩
 by_cases KP:b=e
 ·rw[fq KP aln]
 ·rw[cB u (k b u KP q)]
universe zE
abbrev O0 BD jX:cY:=akj aAu a (qm (H a))
abbrev aeD BD jX:Heap:=PySem.W.hideAll h (O0 h H)
def aVD BD jX:Ql (aeD h H)=h.objs.size:=PySem.W.hideAll_size _ _
def aXi tK iP aaI(e:tQ=cy)(n:kr):(aeD h H).get? b=cy:=
 apL e (λhm=>by
  have q:AZ (H b):=aBH.2;rw[pG n q q])
def aYJ tK iP aaI(e:(aeD h H).get? b=cy):tQ=cy/\kr:=by
 have e':tQ=cy:=PySem.W.of_hideAll (O0 h H) e;rw[Nd e'];cases q:H b with
 |none=>rfl
 |some x=>
  rw[bJ hm (b∈O0 h H) (aAU (Heap.lt_size e') (aK q)) z (bR ((aeD h H).get? b)) (PySem.W.hideAll_none (O0 h H) hm)];rw[z]at e;cases e
abbrev aYK(g h:Heap)(L:Addr):f_:=(aAu).filterMap λa=>if a=L\/AZ (g.get? a) then none else(sA).map λo=>(a,o)
abbrev rest(g h:Heap)(L d:Addr):f_:=AI (aYK g h L) (qu p p.1 d)
universe L2
namespace L2
open PySem PySem.Spec PyProof.Rows
structure Mod UT:Prop where
 ac9:auc
 glob:arc mg
 blt:∃mb,base.Ns builtinsNs mb/\∀x:Str,auY x -> mb x=Lz
 nolimit:base.NoLimit
structure bY where
 prog:Program
 w:World
 K:fh
 mg:Str->gK
 base:Heap
 A:Around
 N:gM
 s₀:Shared
 H₀:aP
 env:Env
 outer:Eg
 stack:Eg
 ex:cY
 fn:ow Str
 calm:Bool
 fP:f_
 s6:iQ
abbrev DE(l:Eg):cY:=l.filterMap (·.frame)
noncomputable abbrev bY.fs gp:cY:=DE X.outer
abbrev aZu(sc:Scope)nY:Prop:=B9=Cp \/ B9=pJ\/B9=E1
abbrev Loc(sc:Scope)nY:Prop:=B9=Cp \/ B9=pJ
abbrev Look(env:Env)BD(m:Str->gK)nY G6:Prop:=
 (aDF=Cp /\ m x=dO)\/((aDF=pJ\/aDF=E1)/\∃c,Ws x/\h.IsCell c dO)
structure bY.Ok gp:Prop where
 mod:Mod X.K X.mg X.base
 kind:X.env.scope.kind=ID
 glob:X.env.globals=mainGlobals
 blt:X.env.builtins=builtinsNs
 above:acD X.env.locals
 inj:∀x y c,xK=mu->X.env.cells.lookup y=mu->x=y
 has:∀x,(IE x pJ\/IE x E1)->∃c,xK=mu
 ak6:∀x c,auX x->xK=mu->acD c
 hd:YO->bR X.A.handled
 frames:cu X.A.frames X.stack
 stk:X.stack=X.outer\/(X.stack=abK/\aDo aA8)
 aQr:Ht X.ex (Es b/\∀x c,xK=mu->c≠b)
 bs:∀b o,ag2=cy->aBp=cy/\bR (X.H₀ b)
 aaB:X.base.objs.size≤X.s₀.heap.objs.size
 aeX:∀b o,ag2=cy->b∉X.ex
 anN:Ht X.ex (b∉X.fs)
 Ap:aOA X.outer
 Ur:Ht X.fs (bR (X.H₀ b))
structure Inv ao3(σ:Ar V)jX lu:Prop where
 ok:X.Ok
 os:s.os=X.s₀.os
 bare:aLl
 base:iN X.fs X.ex X.H₀ H X.s₀.heap s.heap
 loc:∃m,aOg m/\∀iw nY(v:V),acu->pA σ i v->aCV x->∃u,oA/\Look X.env s.heap m x u
 cell:∀x c,xK=mu->∃v,s.heap.IsCell c v
 free:pN X.env.locals
 Oh:∀x c,xK=mu->pN c
 pin:fT (X.fP++pins) (vv p.1 p.2/\pN p.1/\Es p.1/\p.1∉X.fs/\∀v,p.2.data≠.cell v)
 bz:é H s.heap
 len:σ.length=X.N.length
section
variable {X:bY}{pins:f_}{σ:Ar V}{H H':aP}{s:Shared}{h':Heap}
def bY.Ok.a4u(ok:X.Ok)aaI(e:ag2=cy):b∉X.fs:=λhb=>by
 rw[uK (ok.Ap.mem hb).1 e];cases this
def Inv.bs bZ:∀b o,ag2=cy->kX/\kr:=λb o e=>
 ⟨ag3 o (aud o e).1 (aud o e).2 (I.ok.a4u e) (I.ok.aeX b o e),IZ (aud o e).1 (aud o e).2 (I.ok.aeX b o e)⟩
def Inv.kA bZ:∀b o,ag2=cy->kX:=λb o e=>(I.bs b o e).1
def Inv.mod bZ:Mod X.K X.mg X.base:=I.ok.mod
def Inv.s7 bZ:X.K.In s.heap:=I.ok.mod.ac9.keeps I.kA
def Inv.fr bZ:∃m,Fr X.base X.env.locals s.heap m:=
 let⟨m,hn,_⟩:=I.loc
 ⟨m,hn,I.kA,aLp⟩
def Inv.lt bZ:U6 X.env.locals:=let⟨_,hn,_⟩:=I.loc;hn.lt
def Inv.sz bZ:acD s.heap.objs.size:=LD I.ok.above (Nat.le_of_lt I.lt)
def Inv.a4v bZ jo(h:aA4 a):a∉X.fs:=λhb=>by
 obtain⟨_,o,ho,_⟩:=I.ok.Ap.mem hb;rw[pn (ap7 ho (Nat.le_trans I.sz h)) Æ]
def Inv.KQ bZ:∀x c,xK=mu->Es c:=λx c e z=>by
 obtain⟨v,o,ho,hd⟩:=W_ x e;obtain⟨m,⟨o',es,ep,xm,hd',_⟩,_⟩:=I.loc;rw[z,xm]at ho;cases ho;rw[hd']at hd;cases hd
def Inv.Ap bZ:aAp X.outer:=by
 rw[t6 all (∀(l:Eg),(Ht (DE l) (b∈X.fs))->aOA l->aAp l) (by
  intro l
  induction l with
  |nil=>intro _ _;trivial
  |cons env r ih=>
   intro hs hl;obtain⟨hk,⟨L,o,hf,hn,ho,hd⟩,hr⟩:=hl;have hL:L∈X.fs:=hs L (by rw[iU DE List.filterMap_cons hf];rw[apT]);rw[abP sl e (ag4 L ho (I.ok.Ur L hL) hL (cK (I.ok.anN L z hL))) hk ⟨L,_,hf,hn,e,hd⟩ (ih (vK (hs b (by rw[iU DE List.filterMap_cons hf];exact iA hb))) hr)]) (all X.outer (cQ hb hb) I.ok.Ap)]
def Inv.stack bZ:aAp X.stack:=by
 rcases I.ok.stk with e | ⟨e,hf⟩
 ·rw[pe I.Ap]
 ·rw[e];obtain⟨m,hn,_⟩:=I.loc;rw[Wy (b4 (by rw[I.ok.kind];decide) hf hn ?_ I.Ap) (Heap.get?_none_of_le aLp)]
def Inv.am4 bZ:Ht MI (b∈X.env.locals::X.fs):=vK (by
 rcases I.ok.stk with e | ⟨e,hf⟩
 ·rw[Fq hb (iA hb)]
 ·rw[e]at hb;unfold DE at hb;rw[List.filterMap_cons,hf]at hb;exact hb)
def Inv.axM bZ:Ht MI kr:=vK (by
 rcases List.mem_cons.mp (I.am4 b hb) with e | hb
 ·rw[pe I.free]
 ·obtain⟨_,o,ho,_⟩:=I.ok.Ap.mem hb;exact IZ ho (I.ok.Ur b hb) (cK (I.ok.anN b z hb)))
def Inv.step{g':aLk}BE{d':Drawn}{ch:cY}bZ
  azR
  (keep:∀b o,Es b->b∉X.fs->b∉ch->kX->kr->r4=cy)
  (slot:∀b o,Es b->b∈X.fs->b∉ch->kX->kr->AG sl r4 { o with slots:=sl})(free:∀b o,b∉ch->kX->kr->IK b)
  (there:∀b o,b∉ch->kX->AG o' r4 o')
  (qB:∀b xs,H b=vW->H' b=vW)(oI:∀b o u,H b=v! .b! u->H' b=v! .b! u)(qC:∀b ps,H b=d7 .mX ps->∃more,H' b=z7 .mX (ps++more))
  (ns:∀m,aOg m->h'.Ns X.env.locals m)aNn:
  ć { s with heap:=h',gens:=g',drawn:=d',toks:=t'}:=by
 rw[gq aQ5 (∀b o,aBp=cy->Es b) (λb o e=>auq nG) avN (∀b o,aBp=cy->b∉X.ex->b∉ch) (λb o e hx hb=>by
  rcases(OT b hb).1 with z | z
  ·exact hx z
  ·rw[pn (akB z) Æ]) cellK (∀x c,xK=mu->∀v,s.heap.IsCell c v->h'.IsCell c v) (λx c e v ⟨o,ho,hd⟩=>by
  have alY:c∉ch:=cK ((OT c z).2.2.1 x c e rfl);by_cases hc:c∈X.fs
  ·rw[abP sl q (slot c o (I.KQ x c e) hc alY ho (Q8 c e)) _ q hd]
  ·rw[bQ o (keep c o (I.KQ x c e) hc alY ho (Q8 c e)) hd])]
 refine⟨I.ok,I.os,hg,⟨RZ b o e n,RZ b o e n,tZ o e n hx,yU e hx,vJ b e (qB b xs (arI b e)),λb o xs e=>oI b o xs (agN b xs e),VF ps e⟩,?_,cG x c e,?_,cG x c e,uc,bz,I.len⟩
 ·exact keep b o (aQ5 b o e) hb (avN b o e hx) (ag3 o e n hb hx) (IZ e n hx)
 ·rw[ahA sl e1 (ag4 b e n hb hx) rN e2 (slot b _ (aQ5 b o e) hb (avN b o e hx) e1 (IZ e n hx)) rN e2]
 ·rw[ee o' e1 (ì o e hx) (free b o' (avN b o e hx) e1 (IZ e n hx))]
 ·rw[ee o' e1 (ì o e hx) (there b o' (avN b o e hx) e1)]
 ·rw[ahA m1 e1 (arJ b e) m2 e2 (qC b _ e1) (m1++m2) (aBE e2)]
 ·obtain⟨m,hn,hl⟩:=I.loc
  rw[eV m (ns m hn) (yh i x v e1 e2 e3)];obtain⟨u,r,l⟩:=hl i x v e1 e2 e3
  rw[eV u r ?_];rcases l with l | ⟨k,c,e,z⟩
  ·exact Ω l
  ·exact aA ⟨k,c,e,cellK x c e _ z⟩
 ·rw[nH v z (W_ x e) v (cellK x c e v z)]
 ·obtain⟨m,⟨o,_,_,ho,_⟩,_⟩:=I.loc;exact free _ o (cK ((OT _ z).2.1 rfl)) ho I.free
 ·rw[Sp v o ho hd (W_ x e) (free c o (cK ((OT c z).2.2.1 x c e rfl)) ho (Q8 c e))]
 ·obtain⟨e,n,ne,nf,d⟩:=Jm hp;have alY:p.1∉ch:=λz=>(OT p.1 z).2.2.2 p hp rfl;exact⟨keep p.1 p.2 ne nf alY e n,free p.1 p.2 alY e n,ne,nf,d⟩
def Inv.un BE bZ(u:iN X.fs [] H H' s.heap h')(bz:é H' h'):Xp H' s h':=by
 obtain⟨m,⟨o,es,ep,ho,r⟩,_⟩:=id I.loc
 rw[ee sl hL (u.any ho I.free Θ) (I.step (g':=s.gens) (d':=s.drawn) (ch:=[]) (λ_ z=>nomatch z) (λb o _ hb _ e n=>u.keep b o e n hb Θ) (λb o _ hb _ e n=>u.slot b o e n hb Θ) (λb o _ e n=>u.free b o e n Θ) (λb o _ e=>u.there b o e Θ) u.qB u.oI u.qC (λm' hm=>by
  obtain⟨o',es',au6,xm,r'⟩:=hm;rw[ho]at xm;cases xm
  exact⟨_,es',au6,hL,r'⟩) bz I.bare)]
def Inv.call{g':aLk}BE{d':Drawn}{ch:cY}bZ(u:iN MI ch H H' s.heap h')aNn
  azR:
  ć { s with heap:=h',gens:=g',drawn:=d',toks:=t'}:=by
 obtain⟨m,⟨o,es,ep,ho,r⟩,_⟩:=id I.loc
 rw[ee sl hL (u.any ho I.free (cK ((OT _ z).2.1 rfl))) (I.step (ch:=ch) OT (λb o hL hb hc e n=>u.keep b o e n (cK ((List.mem_cons.mp (I.am4 b z)).elim hL hb)) hc) (λb o _ _ hc e n=>u.any e n hc) (λb o hc e n=>u.free b o e n hc) (λb o hc e=>u.there b o e hc) u.qB u.oI u.qC (λm' hm=>by
  obtain⟨o',es',au6,xm,r'⟩:=hm;rw[ho]at xm;cases xm
  exact⟨_,es',au6,hL,r'⟩) bz hg)]
def Inv.turned BE{it:Addr}bZ(k:∀b o,b≠it->kX->r4=cy)(hn:pN it)(hL:Es it)
  (h1:it∈X.ex\/acD it)(h2:∀x c,xK=mu->c≠it)(h3:fT (X.fP++pins) (p.1≠it)):ah5 s h' t':=by
 rw[cV O1 (∀b u,H b=dO->b≠it) (λb u e z=>by rw[z,hn]at e;cases e) (I.step (g':=s.gens) (d':=s.drawn) (ch:=[it]) oD (λb o _ _ hc e _=>k b o (cK (hc (aK z))) e) (λb o _ _ hc e _=>aDR (k b o (cK (hc (aK z))) e)) (λ_ _ _ _ n=>n)
  (λb o hc e=>⟨o,k b o (cK (hc (aK z))) e⟩) (λ_ _ e=>e) (ku e e) (abY b ps e (by rw[fy e])) (c! m hm) (VF u e) I.bare)]
 ·rw[Af e (b=it) e];exact⟨h1,hL,h2,h3⟩
 ·rw[we o es ep ho hm o es ep (k _ o (Ne.symm hL) ho) r]
 ·refine(XC u e).zq (λc v hc q=>k c v ?_ q) (cQ q q) λ_ _ q=>q;rcases hc with z | z
  ·rw[au z (O1 b u e)]
  ·exact O1 c _ z
def Inv.tok bZ(t:Nat):kO H (aAD s t):=I.un (h':=s.heap) (t':=t) iN.refl I.bz
def Inv.kept BE aNp:ah5 s h' t':=I.un (iN.kept k) (I.bz.kept k)
def Inv.laid jo{o:jn}BE aNp(hp:aA4 a)(new:Ry (CO a) h' a o):
  Xp (CO a) s h':=I.un (iN.laid k hp (I.bz.fresh hp)) (I.bz.laid k hp new)
def Inv.write{x e:Addr}{o:jn}BE bZ azX(k:∀b u,b≠e->Lp u->r4=dO)(aln:∃u,h'.get? e=dO)
  (new:Ry (CO x) h' x o):Xp (CO x) s h':=I.un (iN.write Dw he k aln) (I.bz.write Dw he k aln new)
def Inv.weak{σ':Ar V}bZ(hl:σ'.length=σ.length)(w:∀iw v,pA σ' i v->pA σ i v):Vu X σ' H s:=
 ⟨I.ok,I.os,I.bare,I.base,let⟨m,hn,hl'⟩:=I.loc;⟨m,hn,λi x v e1 e2 e3=>hl' i x v e1 (w i v e2) e3⟩,I.cell,I.free,I.Oh,I.pin,I.bz,hl.trans I.len⟩
def Inv.aIO{aaj:f_}bZ(h:fT aaj (vv p.1 p.2/\pN p.1/\Es p.1/\p.1∉X.fs/\∀v,p.2.data≠.cell v)):Inv X aaj σ H s:=
 ⟨I.ok,I.os,I.bare,I.base,I.loc,I.cell,I.free,I.Oh,jQ ((Sw).elim (cK (Jm (aBA z))) (h p)),I.bz,I.len⟩
def aw1{N:gM}(hN:N.Nodup){i j:Nat}eo(a:jz N x)(b:h9 N j x):i=j:=by
 obtain⟨h1,e1⟩:=List.getElem?_eq_some_iff.mp a;rw[B7 h2 e2 (List.getElem?_eq_some_iff.mp b) ((List.getElem_inj hN).mp aPb)]
def aHC aoL gW eo m9 qP Pd bZ K_ apb(r:oA)
  (h:∀s',Vu X (ajB fU) H s'->(∃a,arf a s'.heap/\(a=X.env.locals\/cu xK a))->Q () s')aaO:pI M A (storeName X.env x u) Q E:=by
 obtain⟨m,hn,hl⟩:=id I.loc
 rw[bJ a4w (q? (aho .class||(aho .module&&X.env.locals != X.env.globals))) (by rw[cC I.ok.kind]) hiσ (i < σ.length) (by rw[fX I.len (List.getElem?_eq_some_iff.mp hi).1])]
 rw[fu KQ I.KQ tracked (∀jo afm,(∃o,vv a o/\pN a)->arf a h'->é H h') (λ{a h'} ha hs b ob e=>by
  obtain⟨_,_,aKE⟩:=ha;refine(XC ob e).zq (λc w' hc q=>H! hs c ?_ q) (cQ q q) λ_ _ q=>q;rintro rfl;rcases hc with rfl | hc
  ·rw[aKE]at e;cases e
  ·rw[aKE]at hc;cases hc)]
 rcases hx with hk | hk
 ·refine wpAny_storeName_local hk hn (FT hn' hs) a4w;obtain⟨oL,_,_,a6A,_⟩:=id hn;refine h _ ⟨I.ok,I.os,I.bare,⟨RZ b o e n,RZ b o e n,I.base.free,yU e hx,I.base.qB,I.base.oI,I.base.qC⟩,⟨_,hn',yh j y v' e1 e2 e3⟩,cG y c e,I.free,I.Oh,uc,tracked ⟨oL,a6A,I.free⟩ hs,a! I.len⟩ ⟨_,hs,Ω rfl⟩
  ·exact Qj hs (auq nG) (ag3 o e n hb hx)
  ·rw[Ì sl e1 (ag4 b e n hb hx) sl hs (auq nG) e1]
  ·rw[Ì o' e1 (ì o e hx) o' hs (auq nG) e1]
  ·by_cases hj:j=i
   ·rw[yP hj hi e1];cases e1;rw[Hz hiσ e2];cases e2;rw[bQ u r (F6 hk Θ)]
   ·rw[LN (Ne.symm hj) e2];obtain⟨u',r',q⟩:=hl j y v' e1 e2 e3
    rw[eV u' r' ?_];rcases q with⟨k,e⟩ | ⟨k,c,e,z⟩
    ·refine Ω (lR k);have:y≠x:=dW (hj (aw1 hN e1 (e▸hi)));simp[this,e]
    ·exact aA ⟨k,c,e,z.sameBut hs (KQ y c e)⟩
  ·rw[nH w' z (W_ y e) w' (z.sameBut hs (KQ y c e))]
  ·rw[wB e n ne nf d (Jm hp) (H! hs p.1 ne e) n ne nf d]
 ·have hfn:auX x:=by
   rcases hf with z | z
   ·exact z
   ·rw[z]at hk;cases hk
  rw[Ve c hc (I.ok.has x (Ω hk)) w' z (W_ x hc)];refine wpAny_storeName_cell I.ok.kind hk hc z (FT nS hs);rw[Ce oc aQO a4x (id z) (h (tX s) ⟨I.ok,I.os,I.bare,⟨RZ b o e n,RZ b o e n,I.base.free,yU e hx,I.base.qB,I.base.oI,I.base.qC⟩,⟨m,hn.sameBut hs (Ne.symm (KQ x c hc)),yh j y v' e1 e2 e3⟩,cG y c' e,I.free,I.Oh,uc,tracked ⟨oc,aQO,Q8 c hc⟩ hs,a! I.len⟩ ⟨c,hs,aA hc⟩)]
  ·exact Qj hs (pC (akB (I.ok.ak6 x c hfn hc))) (ag3 o e n hb hx)
  ·rw[Ì sl e1 (ag4 b e n hb hx) sl hs (pC (akB (I.ok.ak6 x c hfn hc))) e1]
  ·rw[Ì o' e1 (ì o e hx) o' hs (pC (akB (I.ok.ak6 x c hfn hc))) e1]
  ·by_cases hj:j=i
   ·rw[yP hj hi e1];cases e1;rw[Hz hiσ e2];cases e2;rw[bQ u r (aA ⟨Ω hk,c,hc,nS⟩)]
   ·rw[LN (Ne.symm hj) e2];obtain⟨u',r',q⟩:=hl j y v' e1 e2 e3
    rw[eV u' r' ?_];rcases q with q | ⟨k,c',e,z'⟩
    ·exact Ω q
    ·refine aA ⟨k,c',e,z'.sameBut hs ?_⟩;rintro rfl;exact hj (aw1 hN e1 (I.ok.inj _ _ _ e hc▸hi))
  ·by_cases alm:c'=c
   ·subst alm;rw[ie nS]
   ·rw[nH w2 z2 (I.cell y c' e) w2 (z2.sameBut hs alm)]
  ·obtain⟨e,n,ne,nf,d⟩:=Jm hp;refine⟨H! hs p.1 ?_ e,n,ne,nf,d⟩;intro q;rw[q,aQO]at e;rw[t6 q' (oc=p.2) aA9 (d w' (by rw[cA q' a4x]))]
def awt aoL gW eo m9 qP Pd bZ K_ apb(r:oA)
  (h:∀s',Vu X (ajB fU) H s'->Q () s')aaO:pI M A (storeName X.env x u) Q E:=
 aHC I hN hi hx r (λs' I' _=>h s' I') hf
def Inv.aKF{s':Shared}{ch:cY}bZ(ho:s'.os=s.os)(u:iN MI ch H H' s.heap s'.heap)(bz:é H' s'.heap)(hg:Ç)
  azR:QV:=by
 obtain⟨h',g',d',t',o'⟩:=s';have e:o'=s.os:=ho;rw[fq e (I.call (g':=g') (t':=t') (d':=d') u bz hg OT)]
universe zE
noncomputable abbrev d_:=E7 (Y7->dS)
noncomputable abbrev St:=Ar V
noncomputable abbrev afe:=V->dS
noncomputable abbrev TE:=St->aP->j0
noncomputable abbrev kK:=St->aP->cO (Bool->dS)
noncomputable abbrev nV:=St->aP->cO (di->dS)
structure Ends where
 nx:St->dS
 eO:afe
 kA:St->dS:=Cv
 ct:St->dS:=Cv
noncomputable abbrev lq:=Ends->St->dS
abbrev aHu aop zP G6 K!:Prop:=∃v H',QV/\oA/\oJ v
abbrev anK aop afK(b:Bool)K!:Prop:=∃H',QV/\oJ b
abbrev aGE aop(Q:di->dS)BJ K!:Prop:=∃vs H',QV/\Rh/\oJ vs
abbrev ae9 ao3(D:Ends)(f:Flow)K!:Prop:=
 match f with
 |.next=>∃σ' H',MV X/\D.nx σ' H'
 |.brk=>∃σ' H',MV X/\D.kA σ' H'
 |.cont=>∃σ' H',MV X/\D.ct σ' H'
 |.ret u=>∃v σ' H',MV X/\oA/\D.eO v H'
abbrev Br gp UC(t:TE):Prop:=
 ∀o7 zP,ja->t σ H Q->ű (nA e) X Q
abbrev tD gp UC(t:kK):Prop:=
 ∀o7 afK,ja->t σ H Q->j6 (arK e (nA e)) (anK X pins σ Q) s
abbrev PW gp UC(t:kK):Prop:=
 ∀(whole:ahx)o7 afK,ja->t σ H Q->j6 (arK e whole) (anK X pins σ Q) s
def PW.pt l? Pq{t:kK}(h:PW X e t):tD X e t:=h _
abbrev pZ gp(es:dI)(t:nV):Prop:=
 ∀(pos:Pos)o7(Q:di->dS),ja->t σ H Q->j6 (spliced (YR es)) (aGE X pins σ Q) s
abbrev mZ gp(st:Stmt)(t:lq):Prop:=
 ∀o7(D:Ends),ja->t D σ H->j6 (exec st X.env) (ae9 X pins D) s
abbrev s_ gp(st:Ll)(t:lq):Prop:=
 ∀o7(D:Ends),ja->t D σ H->j6 (execs st X.env) (ae9 X pins D) s
def Zb gA{t:Sem α}{Q Q':α->BP}aoL nW(h:wpAny M A t Q E s)(hQ:∀a s,Q a s->Q' a s):wpAny M A t Q' E s:=S5 h hQ _ _ x x
universe L2
namespace L2
open PySem PySem.Spec PyProof.Rows
section
variable {X:bY}
def bin{a b:Expr}{ta tb:TE}Pb Pn nW zL{R:V->V->dS}bZ aLV
  gA{Q:α->BP}{f:E7 (E7 (Sem α))}
  aMo:
  MZ (nA a) v s₁ (j6 (nA b) (λu s₂=>j6 (f v u) Q s₂) s₁):=by
 rw[QC (abH s H _ I h v x) (FU (R1 _) u ⟨y,H2,bh,r2,a_⟩) (hf v u s2 x y H2 bh r1 r2 a_)]
abbrev a4y iw:TE:=uI (∃v,pA σ i v/\Q v H)
abbrev ad2(v:V):TE:=λ_ H Q=>Q v H
def a0V gW eo D9(hN:acu)(hv:aCV x)aLP:g9 (c_ x pos) (a4y i):=by
 rw[FI Q h];rw[E8 v e h h m hn hl I.loc];rw[Cq u r l (hl i x v hN e hv) fin (QY X Q u s) ⟨v,H,I,r,h⟩];rcases l with⟨hk,hm⟩ | ⟨hk,c,hc,TT⟩
 ·exact wpAny_Name (wpAny_loadName_local I.ok.kind hk hn hm fin) hd
 ·rcases hk with hk | hk
  ·exact wpAny_Name (wpAny_loadName_cell I.ok.kind hk hc TT fin) hd
  ·exact wpAny_Name (wpAny_loadName_free I.ok.kind hk hc TT fin zB) hd
def a0W{i j pos}:Xi (B0 (η i) j pos) (η i):=λ_ _ _ H _ I h=>wpAny_Constant_int (Q6 (η i) H h)
def a2I{b j pos}:Xi (B0 (qg b) j pos) (.ai b):=λ_ _ _ H _ I h=>Constant_bool (Fz .ai b I h)
def a0X{j pos}:Xi (B0 cP j pos) .ah:=λ_ _ _ H _ I h=>Constant_none (jd .ah H I h)
def aJV{x j pos}:Xi (B0 (aE x) j pos) (aE x):=λ_ _ _ H _ I h=>Calls.Constant_str (Q6 (aE x) H h)
abbrev OJ gp nY:Prop:=IE x (some .globalImplicit)
def amx{E:iQ}Pn nW zL eo qP D9 rY bZ aM9(h:Q u s)
  K7:ab3 (nA (c_ x pos)):=
 Calls.Name_function_global I.ok.kind hg (Calls.loadGlobal_global (by rw[au I.ok.glob aBL]) hm h) hd
def yn{E:iQ}Pn nW zL eo qP D9 rY bZ apc(hv:Lz=dO)(h:Q u s)
  azq:ab3 (nA (c_ x pos)):=by
 rw[SW mb h1 h2 I.mod.blt (Calls.Name_function_global I.ok.kind hg (Calls.loadGlobal_builtin (by rw[au I.ok.glob aBL]) hm (by rw[au I.ok.blt (h1.keeps I.kA)]) (e7 (h2 x hn) hv) h) hd)]
def aIP eo m9 qP D9 aM9(r:oA)K7:Xi (c_ x pos) v:=
 λ_ _ _ H _ I h=>amx I hg hm ⟨v,H,I,r,h⟩ hd
def aYL eo m9 qP D9 apc(hv:Lz=dO)(r:oA)azq:Xi (c_ x pos) v:=
 λ_ _ _ H _ I h=>yn I hg hm hv ⟨v,H,I,r,h⟩ hn hd
variable {a b:Expr}{ta tb:TE}{pos:Pos}
variable {tA awg:kK}{rest:dI}
abbrev a4z(t u:kK):kK:=MR H c (oq c (u σ H1 Q) (Q false H1))
abbrev a7j(t u:kK):kK:=MR H c (oq c (Q true H1) (u σ H1 Q))
abbrev a4A(t:kK):kK:=MR H c (Q (! c) H1)
def aYM afB:PW X (lU .And [a] pos) tA:=by
 intro aef pins s σ H Q I h;refine isTrue_and (kj (ha pins s σ H Q I h) c e);cases c with
 |true=>exact isTrue_and_nil e
 |false=>exact e
def a0Y afB:PW X (lU .Or [a] pos) tA:=by
 intro aef pins s σ H Q I h;refine isTrue_or (kj (ha pins s σ H Q I h) c e);cases c with
 |false=>exact isTrue_or_nil e
 |true=>exact e
def a0Z afB(hb:PW X (lU .And qX pos) awg):PW X (lU .And (a::qX) pos) (a4z tA awg):=by
 intro aef pins s σ H Q I h;refine isTrue_and (kj (ha pins s σ H _ I h) c ⟨H1,aC,ay⟩);cases c with
 |true=>exact hb aef pins s1 σ H1 Q aC ay
 |false=>rw[bQ H1 aC ay]
def a2J afB(hb:PW X (lU .Or qX pos) awg):PW X (lU .Or (a::qX) pos) (a7j tA awg):=by
 intro aef pins s σ H Q I h;refine isTrue_or (kj (ha pins s σ H _ I h) c ⟨H1,aC,ay⟩);cases c with
 |true=>rw[bQ H1 aC ay]
 |false=>exact hb aef pins s1 σ H1 Q aC ay
def a00 afB:tD X (atu .Not a pos) (a4A tA):=by
 rw[QD s H Q I h (isTrue_not (Rk s H (wH c (Q (! c) H1)) I h))]
abbrev a2K afQ:TE:=Ng H x (∃c,x=.ai c/\oq c (tb σ H1 Q) (Q (qa .ai) H1))
abbrev a4B afQ:TE:=Ng H x (∃c,x=.ai c/\oq c (Q (ju .ai) H1) (tb σ H1 Q))
def a01{op}{t:TE}(h:g9 a t):g9 (lU op [a] pos) t:=PU s σ H Q I hw (BoolOp_one (Ļ s σ H Q I hw))
def a02(ha:akV)(hb:g9 (lU .And qX pos) tb):Fy lU .And (a::qX) (a2K ta tb):=by
 rw[qc Q (BoolOp_and (abH s H _ I h v x))];rw[gY c ay ay];cases r1;rw[aBS ?_];cases c with
 |true=>exact R1 Q
 |false=>exact jd (.ai false) H1 aC ay
def a2L aL3:Fy lU .Or (a::qX) (a4B ta tb):=by
 rw[qc Q (BoolOp_or (abH s H _ I h v x))];rw[gY c ay ay];cases r1;rw[aBS ?_];cases c with
 |false=>exact R1 Q
 |true=>exact jd (.ai true) H1 aC ay
abbrev a7i(t:kK)afQ:TE:=MR H c (oq c (ta σ H1 Q) (tb σ H1 Q))
def aXj{c:Expr}(hc:tD X c tA)Pb:g9 (.IfExp c a b pos) (a7i tA ta tb):=by
 rw[qc Q (wpAny_IfExp (kj (hc pins s σ H _ I h) d ⟨H1,aC,ay⟩))];cases d with
 |true=>exact Rk s1 H1 Q aC ay
 |false=>exact R1 Q
universe zE
universe L2
namespace L2
open PySem PySem.Spec PyProof.Rows
abbrev iI c9 Px K3:Prop:=
 u9 H a (ς xs) ∨
  ∃(o:Obj) (cf:Ss) (n:Nat),asT=cy/\o.cls=Cf /\ bR o.dict/\o.data=mK cf n/\jK cf.size/\Vals xs cf.toList
abbrev GH c9 Px K3:Prop:=
 u9 H a (aQ xs) ∨
  ∃(o:Obj) (cf:Ss) (n:Nat),asT=cy/\o.cls=Jw /\ o.data=mK cf n/\jK cf.size/\Vals xs cf.toList
abbrev a4C:E7 Ih
 |cP=>Xn
 |qg b=>d7 .ai b
 |η i _=>yo
 |aE x _=>d7 aE x
 |.bytes b _=>d7 .acF b
 |.float b _=>d7 .Uq b
 |Δ a=>n7 a
 |dH n=>d7 .ty n
 |_=>none
def RelV.abs{x:V}qP(r:xM x):a4C u=iB:=by
 cases x with
 |ah=>cases r;rfl
 |ai _=>cases r;rfl
 |int _=>rw[ů r]
 |str _=>rw[ů r]
 |acF _=>rw[ů r]
 |Uq _=>rw[ů r]
 |ref _=>cases r;rfl
 |ty _=>cases r;rfl
def RelV.inj{x y:V}qP(r:xM x)(q:acn):x=y:=Option.some.inj (r.abs.symm.trans q.abs)
def Vals.inj:∀{xs ys:di}BK,vX->SE ys->xs=ys
 |_,_,_,c6,c6=>rfl
 |_,_,_,b4 r t,b4 r' t'=>kU (r.inj r') (Vals.inj t t')
section
variable {X:bY}{pins:f_}{σ:St}{H:aP}{s:Shared}{a:Addr}{xs ys:di}
def iI.of kM(h:H a=g!):J1:=Ω (Ω h)
def GH.of kM(h:H a=vW):CV K a:=Ω (Ω h)
def Inv.list bZ(h:iI X.K H a xs):∃cf:b7,Xu/\PlainL s.heap a cf.toArray/\LB:=by
 rcases h with h | ⟨o,cf,n,hk,hc,hd,hs,hz,r⟩
 ·rw[LH z cf n r e (h.ok I.bz) ⟨cf,r,⟨_,n,e,rfl,rfl,rfl⟩,z⟩]
 ·refine⟨cf.toList,r,⟨o,n,I.s7 a o hk,hc,hd,a! hs⟩,?_⟩;have e:=r.length;rw[aOD e];omega
def Inv.tuple bZ(h:CV X.K a):∃cf:b7,Xu/\arH a cf.toArray/\LB:=by
 rcases h with h | ⟨o,cf,n,hk,hc,hs,hz,r⟩
 ·rw[MK z cf r p (h.ok I.bz) cf r p z]
 ·refine⟨cf.toList,r,⟨o,I.s7 a o hk,hc,n,a! hs⟩,?_⟩;have e:=r.length;rw[aOD e];omega
def Inv.aw2 bZ(h:iI X.K H a xs)(h':iI X.K H a ys):xs=ys:=by
 obtain⟨cf,r,⟨o,n,e,_,_,d⟩,_⟩:=I.list h;obtain⟨its',r',⟨o',n',e',_,_,d'⟩,_⟩:=I.list h';rw[e]at e';cases e';rw[d]at d';rw[ř d' d1]
 have:cf=its':=a! (aNS d1)
 rw[fq this (r.inj r')]
def Inv.aVE bZ(h:CV X.K a)(h':GH X.K H a ys):xs=ys:=by
 obtain⟨cf,r,⟨o,e,_,n,d⟩,_⟩:=I.tuple h;obtain⟨its',r',⟨o',e',_,n',d'⟩,_⟩:=I.tuple h';rw[e]at e';cases e';rw[d]at d';rw[ř d' d1]
 have:cf=its':=a! (aNS d1)
 rw[fq this (r.inj r')]
universe zE
section
variable {X:bY}{pins:f_}{σ:St}{H:aP}{s:Shared}{E:iQ}
universe zE
section
variable {X:bY}{st:Stmt}{rest:Ll}{t u:lq}{e:Expr}{te:TE}{pos:Pos}
abbrev a2C:lq:=λD σ H=>akr H
abbrev aPJ(t u:lq):lq:=λD σ H=>t { D with nx:=u D} σ H
def aYz:s_ X [] a2C:=λ_ _ σ H _ I h=>arl σ H I h
def aXk(h1:mZ X st t)(h2:s_ X rest u):s_ X (st::rest) (aPJ t u):=by
 rw[qc D (aA5 (kj (h1 pins s σ H { D with nx:=u D} I h) f q))];cases f with
 |next=>
  rw[Sp σ' H' I' q q (h2 pins s1 σ' H' D I' q)]
 |ret v=>exact q
 |brk=>exact q
 |cont=>exact q
def aYA(h1:mZ X st t):s_ X [st] t:=by
 rw[qc D (aA5 (kj (h1 pins s σ H D I h) f q))];cases f with
 |next=>exact wpAny_execs_nil q
 |ret v=>exact q
 |brk=>exact q
 |cont=>exact q
def Inv.quiet BC bZ:cW (interactive X.env):=gh interactive I.ok.kind
abbrev a2D UK:lq:=λD σ H=>te σ H (wH _ (akr H1))
def aYB aa4 aNs:mZ X (.Expr e pos) (a2D te):=by
 rw[QD s H D I h (wpAny_Expr_any (RU (C5 s σ H _ I h) v x ⟨σ,H1,aC,ay⟩) I.quiet hs)]
abbrev a4D UK:lq:=λD σ H=>te σ H D.eO
def a03 aa4:mZ X (.Return (some e) pos) (a4D te):=by
 rw[QD s H D I h (wpAny_Return_some (RU (C5 s σ H _ I h) v x ⟨x,σ,H1,aC,r1,ay⟩))]
abbrev a4m(c:kK)(t u:lq):lq:=λD σ H=>c σ H (wH b (oq b (t D σ H1) (u D σ H1)))
def a2E{c:Expr}{a b:Ll}{tc:kK}(hc:tD X c tc)(ha:s_ X a t)(hb:s_ X b u):mZ X (.If c a b pos) (a4m tc t u):=by
 rw[qc D (wpAny_If (kj (hc pins s σ H _ I h) d ⟨H1,aC,ay⟩))];cases d with
 |true=>exact Rk s1 H1 D aC ay
 |false=>exact R1 D
universe zE
noncomputable abbrev u!:=V->St->aP->cO (St->dS)
noncomputable abbrev KO:=di->St->aP->cO (St->dS)
abbrev u7 gp(target:Expr)(t:u!):Prop:=
 ∀o7(v:V)G6(Q:St->dS),ja->oA->t v σ H Q →
  MZ (arM target u) _ s' (∃σ' H',MV X/\oJ σ')
abbrev GQ gp(ts:dI)(t:KO):Prop:=
 ∀o7 D? BJ(Q:St->dS),ja->Rh->t vs σ H Q →
  MZ (assignInOrder (Ho (YT ts).map) us) _ s' (∃σ' H',MV X/\oJ σ')
noncomputable abbrev anL:=V->V->V->aP->cO dS
abbrev T9 gp(t:anL):Prop:=
 ∀o7(o i v:V)(ov iv u:Value)(Q:dS),ja->RelV o ov->RelV i iv->oA->t o i v H Q →
  MZ (setItem ov iv u) _ s' (∃H',QV/\Q H')
section
variable {X:bY}{pos:Pos}
abbrev anh iw:u!:=λv σ H Q=>Q (ajB fU) H
def aYC gW eo K_ apb aaO:u7 X (c_ x pos) (anh i):=by
 intro pins s σ H v u Q I r h;exact wpAny_assign_Name (awt I hN hi hx r (λs' I'=>⟨_,H,I',h⟩) hf)
abbrev a4n:KO:=λvs σ H Q=>vs=[]/\Q σ H
abbrev a2F(t:u!)(u:KO):KO:=λvs σ H Q=>∃v r,vs=v::r/\t v σ H λσ' H'=>u r σ' H' Q
def aYD:GQ X [] a4n:=by
 intro pins s σ H vs us Q I r h;obtain⟨e,h⟩:=h;subst e;cases r;exact assignInOrder_nil ⟨σ,H,I,h⟩
def aXl Pq{es:dI}{t:u!}{u:KO}(h1:u7 X e t)(h2:GQ X es u)
  aMv:GQ X (e::es) (a2F t u):=by
 intro pins s σ H vs us Q I r h;obtain⟨v,vr,e1,h⟩:=h;subst e1;cases r with
 |cons r rr=>
  rw[ia hs (assignInOrder_cons (kj (h1 pins s σ H _ _ _ I r h) _ ⟨σ1,H1,aC,ay⟩))];exact h2 pins s1 σ1 H1 _ _ Q aC rr ay
abbrev a4o c9 dj(t:KO):u!:=λv σ H Q=>∃a xs,v=Δ a/\CV K a/\Ŗ n/\t xs σ H Q
def a0M{es:dI}d6{t:KO}br BF(h:GQ X es t)
  aMp:u7 X (M9 es k pos) (a4o X.K n t):=by
 intro pins s σ H v u Q I r hw;obtain⟨a,xs,e1,hq,hl,hw⟩:=hw;subst e1;cases r;rw[RQ rv ht];rw[n9 (assign_Tuple_tuple (I.ok.hd hc) ht (by simp[hn,←hl,rv.length]) mW (c! h' hx)) aC (kO H (tX s)) (I.kept (t':=s.toks) λb o e=>hx b o (pC nG) e)];exact h pins _ σ H xs _ Q aC (a! rv) hw
abbrev a4p(to ti:TE)(t:anL):u!:=λv σ H Q=>to σ H (wH o (ti σ H1 (mq i (t o i v H2 λH3=>Q σ H3))))
def Y1{o i:Expr}{to ti:TE}{t:anL}afL(hi:g9 i ti)(hs:T9 X t)
  (ha:∀v,arM (yF o i pos) v=(do
   let ov ←Hv [v] Hi
   let iv ←Hv [v,ov] (nA i)
   standAt pos
   Hv [v,ov,iv] (setItem ov iv v)
   release [v,ov,iv] []):=by rw[acq _]):u7 X (yF o i pos) (a4p to ti t):=by
 intro pins s σ H v u Q I r h;rw[abI ha (arj (MQ s H _ I h ov ⟨x,H1,aC,r1,ay⟩)) (arj (FU (hi pins s1 σ H1 _ aC ay) iv ⟨y,H2,bh,r2,a_⟩))];rw[Wy (aBe (arj (q2 (hs pins s2 σ H2 x y v ov iv u _ bh r1 r2 r a_) _ s3 ⟨H3,dY,cz⟩))) (wpAny_release ⟨σ,H3,dY,cz⟩)]
abbrev Y2 UK(g:u!):lq:=λD σ H=>te σ H (r6 (g x σ H1 D.nx))
def aJW{cM e:Expr}{te:TE}{g:u!}aa4(hg:u7 X cM g)aMr
  aLZ:mZ X (C4 [cM] e pos) (Y2 te g):=by
 rw[qc D (wpAny_Assign_stores (kj (C5 s σ H _ I h) v ⟨x,H1,aC,r1,ay⟩) hs hw)];rw[au h1 (Ci (hg pins s1 σ H1 x v _ aC r1 ay) _ s2 q q)]
def a0N gW eo Pq{te:TE}{pos':Pos}K_ apb aa4 aL6 aaO:
  mZ X (C4 [c_ x pos'] e pos) (Y2 te (anh i)):=by
 rw[qc D (wpAny_Assign_Name (kj (C5 s σ H _ I h) v ⟨y,H1,aC,r1,ay⟩) hs)];exact awt aC hN hi hx r1 (λs2 bh=>⟨_,H1,bh,ay⟩) hf
universe zE
section
variable {X:bY}{pos:Pos}
abbrev a0O(c:kK)(tb:lq):lq:=λD σ H=>∃W:C9 St dS,(∃m,W m σ H)/\∀m σ H,W m σ H →
 c σ H (wH b (oq b (∃N:St->dS,(∀σ' H',N σ' H'->∃m',m'<m/\W m' σ' H')/\tb { D with nx:=N,ct:=N,kA:=D.nx} σ H1) (akr H1)))
def aXm{c:Expr}aaL{tc:kK}{tb:lq}(hp:akS)(hc:tD X c tc)(hb:s_ X body tb):mZ X (.While c body [] pos) (a0O tc tb):=by
 rw[FI D h];obtain⟨W,⟨m0,w0⟩,turn⟩:=h;refine wpAny_While (codeAny_whileLoop (λn s'=>∃σ' H',MV X/\W n σ' H') ?_ m0 ⟨σ,H,I,w0⟩);rintro n s1 ⟨σ1,H1,aC,w1⟩;refine Vr (FU (hc pins s1 σ1 H1 _ aC (turn n σ1 H1 w1)) b ⟨H2,bh,a_⟩);cases b with
 |true=>
  obtain⟨N,hN,a_⟩:=a_;rw[ia eK (Vr (q2 (hb pins s2 σ1 H2 _ bh a_) f s3 cz))];cases f with
  |next=>
   obtain⟨σ3,H3,dY,n3⟩:=cz;rw[U_ m' hm w3 (hN σ3 H3 n3) ⟨m',hm,σ3,H3,dY,w3⟩]
  |cont=>
   obtain⟨σ3,H3,dY,n3⟩:=cz;rw[U_ m' hm w3 (hN σ3 H3 n3) ⟨m',hm,σ3,H3,dY,w3⟩]
  |brk=>exact cz
  |ret v=>exact cz
 |false=>
  rw[au nC (arl σ1 H2 bh a_)]
universe zE
structure It where
 go:p! dS
 awF:C9 aP (V->dS)
 stop:p! dS
abbrev awL ao3 jX(b:Addr):Prop:=
 kr/\Es b/\b∉X.fs/\(b∈X.ex\/acD b)/\(∀x c,xK=mu->c≠b)/\fT (X.fP++pins) (p.1≠b)
def Inv.GI l? Pn{σ:St}{H H':aP}nW{b:Addr}bZ(hb:aA4 b)(hn:IK b):awL X pins H' b:=by
 refine⟨hn,Nat.ne_of_gt (Nat.lt_of_lt_of_le I.lt hb),I.a4v hb,aA (Nat.le_trans I.sz hb),je x c e z,cG p hp z⟩
 ·rw[ee v q (W_ x e) (WI (Nat.lt_of_lt_of_le q.lt (by rw[au z hb])) Æ)]
 ·rw[pn (ap7 (Jm hp).1 (by rw[au z hb])) Æ]
structure Turn D3 c9(cM:Expr)(J:It)(fp:cY)(it:Addr)(rK:Ĵ Heap):Prop where
 mem:it∈fp
 obj:∀i h,rK i h->HV b (∃o,tQ=cy/\∀v,o.data≠.cell v)
 keep:∀i h h',rK i h->(HV b (∀o,tQ=cy->r4=cy))->rK i h'
 item:∀gp,X.prog=P->X.w=w->X.K=K->YO->∀iw o7(E:iQ),ja->(acv H)->aue i->J.go i H →
  pI (model P w) X.A (pyNext (Δ it)) (λr s1=>∃u,r=dO ∧
   nD (model P w) X.A (letOwnedTupleGo cM (Δ it) u) (cQ s2 (∃x H',ć s2/\xM x/\J.awF i H x H'/\rK (i+1) s2.heap/\VA b b)) E s1) E
 done:∀gp,X.prog=P->X.w=w->X.K=K->YO->∀iw o7(E:iQ),ja->(acv H)->aue i->atw H →
  pI (model P w) X.A (pyNext (Δ it)) (λr s1=>bR r/\kO H s1) E
 self:∀(A:Around)iw lu afE,aue i->Q (Δ it) s->pI (model P w) A (pyIter (Δ it)) Q E
noncomputable abbrev TI:=St->aP->cO (It->dS)
abbrev aJK aop(cM:Expr)(R:It->dS)(itv:Value)(s2:Shared):Prop:=
 ∃(it:Addr) (fp:cY) (rK:Ĵ Heap) (J:It) (H':aP),itv=Δ it/\ć s2/\QW X.prog X.w X.K J fp rK/\rK 0 s2.heap/\(acv H')/\R J H'
abbrev GN gp(cM iter:Expr)(wi:TI):Prop:=
 ∀o7(R:It->dS),ja->wi σ H R →
  MZ (nA iter) v s1 (j6 (pyIter v) (aJK X pins σ cM R) s1)
def aak aoL nW{cM:Expr}{it:Addr}qP{o:Obj}{n:String}{vs:Ss}Pd(ho:vv it o)(hc:o.cls=dH n)(hd:o.data=iS vs)
    (hn:cW (["enumerate","zip","dict_itemiterator","dict_reverseitemiterator","odict_iterator","itertools.zip_longest","itertools.pairwise"].contains n))(hQ:Q () s):pI M A (letOwnedTupleGo cM (Δ it) u) Q E:=by
  unfold letOwnedTupleGo
  cases cM<;>first
    |rw[ahb hQ]
    | (cases u<;>first
        |rw[ahb hQ]
        | (refine fk (wpAny_load ho ?_)
           rw[hc,hd];rw[W5 (pI M A (agY (["enumerate","zip","dict_itemiterator","dict_reverseitemiterator","odict_iterator","itertools.zip_longest","itertools.pairwise"].contains n&&vs[0]? == aY (rawInt _)) _ _) Q E) (sr (by intro h;rw[hn,Bool.false_and]at h;cases h)) (wpAny_pure hQ)]))
abbrev ax7 c9 rV:It:=
 ab9 i H (∃xs x,J1/\zW) i H x (H'=H/\∀xs,J1->zW) i H xs (J1/\Fb i)
abbrev aIu c9 rV:It:=
 ab9 i H (∃xs x,CV K a/\zW) i H x (H'=H/\∀xs,CV K a->zW) i H xs (CV K a/\Fb i)
abbrev ang aog:It:=⟨λi _=>i<n,λi H x H'=>H'=H/\x=η (lo+i),λi _=>n≤i⟩
def aVF D5 afZ:QW P w K (ax7 K a) [it] (λi h=>h.IsListIter it a i) where
 mem:=Θ
 obj:=λi h st b hb=>by
  rw[Af e (b=it) e]
  rw[yw o e c d st ⟨o,e,λv z=>by rw[d]at z;cases z⟩]
 keep:=λi h h' st k=>st.at λo e=>k it Θ o e
 item:=by
  rw[JM];obtain⟨xs,x,hq,hx⟩:=hg;rw[I3 rv p];obtain⟨u,hu,cL⟩:=rv.get hx;obtain⟨f0,f1,f2,f3,f4,ji⟩:=hf it Θ;rw[n9 (wpAny_pyNext_list_item st p.isList (x:=u) (a! hu) (FT o5 sb)) aC (kO H (tX s)) (ø t' (RV b o e sb e) f0 f1 f3 f4 ji)];rw[yw o e c d (id o5) (lK u (aak (s:=tX s) e c d aZ ⟨x,H,aC,cL,kR (λys hy=>by rw[au (I.aw2 hy hq) hx]),o5,vK (Jk b).1⟩))]
 done:=by
  rw[ŗ X i s H E I st hg hP hw hK xs hq hx hg];rw[I3 rv p];rw[Yy];rw[vS hl rv.length (wpAny_pyNext_list_end (I.ok.hd hc) st p.isList (by rw[fH]) λh' eb=>Î t' (Q5 b o e b o hb e) f0 f1 f3 f4 ji)]
 self:=λ_ _ _ _ _ st h=>wpAny_pyIter_listiter st h
def aUh D5 afZ:QW P w K (aIu K a) [it] (λi h=>h.IsTupleIter it a i) where
 mem:=Θ
 obj:=λi h st b hb=>by
  rw[Af e (b=it) e]
  rw[yw o e c d st ⟨o,e,λv z=>by rw[d]at z;cases z⟩]
 keep:=λi h h' st k=>st.at λo e=>k it Θ o e
 item:=by
  rw[JM];obtain⟨xs,x,hq,hx⟩:=hg;rw[RQ rv p];obtain⟨u,hu,cL⟩:=rv.get hx
  obtain⟨f0,f1,f2,f3,f4,ji⟩:=hf it Θ;rw[n9 (wpAny_pyNext_tuple_item st (aDs (aOL a)) (x:=u) (a! hu) (FT o5 sb)) aC (kO H (tX s)) (ø t' (RV b o e sb e) f0 f1 f3 f4 ji)];rw[yw o e c d (id o5) (lK u (aak (s:=tX s) e c d aZ ⟨x,H,aC,cL,kR (λys hy=>by rw[au (I.aVE hy hq) hx]),o5,vK (Jk b).1⟩))]
 done:=by
  rw[ŗ X i s H E I st hg hP hw hK xs hq hx hg];rw[RQ rv p];rw[Yy];rw[vS hl rv.length (wpAny_pyNext_tuple_end (I.ok.hd hc) st (aDs (aOL a)) (by rw[fH]) λh' eb=>Î t' (Q5 b o e b o hb e) f0 f1 f3 f4 ji)]
 self:=λ_ _ _ _ _ st h=>wpAny_pyIter_tupleiter st h
def aUi D5{cM:Expr}(it:Addr)aog:QW P w K (ang lo n) [it] (λi h=>IsRangeIter h it (lo+(i:Nat)*1) (gi-(i:Nat)) 1) where
 mem:=Θ
 obj:=λi h st b hb=>by
  rw[Af e (b=it) e]
  rw[WJ _ st v z (by
   have z':Data.fields _=Data.cell v:=z
   cases z')]
 keep:=λi h h' st k=>k it Θ _ st
 item:=by
  rw[JM];rw[Yy];rw[dm W (Walks.range (prog:=X.prog) (w:=X.w) (I.ok.hd hc) it lo 1 n) (W.item i s _ _ hg st (yh v h' tk hv o5 kk))];rw[sH hv];rw[t7 aC (ah5 s h' tk) (I.turned (λb o hb e=>kk b o B4 e) f0 f1 f3 f4 ji) (IX (aak (s:=Cg s h' tk) (n:= "range_iterator") o5 rfl rfl aZ ⟨η (lo+i),H,aC,lR t,gg rfl,o5,vK (Jk b).1⟩))];rw[Int.mul_one]
 done:=by
  rw[JM];rw[Yy];exact wpAny_pyNext_range_end (I.ok.hd hc) st (by rw[EG (n≤i) hg]) λh' eb=>Î t' (Q5 b o e b o hb e) f0 f1 f3 f4 ji
 self:=λ_ _ _ _ _ st h=>wpAny_pyIter_rangeiter st h
universe L2
namespace L2
open PySem PySem.Spec PyProof.Rows
section
variable {X:bY}{cM:Expr}
abbrev a2G c9(tl:TE):TI:=ajf R σ H (r6 (∃a,x=Δ a/\(∃xs,iI K H1 a xs)/\R (ax7 K a) H1))
abbrev a4q c9(tl:TE):TI:=ajf R σ H (r6 (∃a,x=Δ a/\(∃xs,GH K H1 a xs)/\R (aIu K a) H1))
def aYE{l:Expr}{tl:TE}aoE:GN X cM l (a2G X.K tl):=by
 rw[qc R (kj (hl pins s σ H _ I h) v ⟨x,H1,aC,r1,ay⟩)]
 obtain⟨a,e,⟨xs,hq⟩,q⟩:=ay;subst e;cases r1;rw[yC rv p hz (aC.list hq)];refine aPp p.isList;rw[uJ ⟨s1.heap.objs.size,[s1.heap.objs.size],_,_,H1,rfl,Yp b o e e,aVF a _,Ħ _ _,oD,q⟩ e (b=s1.heap.objs.size) B4]
 rw[fq e (aC.GI fe Nu)]
def a0P{l:Expr}{tl:TE}aoE:GN X cM l (a4q X.K tl):=by
 rw[qc R (kj (hl pins s σ H _ I h) v ⟨x,H1,aC,r1,ay⟩)]
 obtain⟨a,e,⟨xs,hq⟩,q⟩:=ay;subst e;cases r1;rw[yC rv p hz (aC.tuple hq)];refine wpAny_pyIter_tuple (aDs (s1.heap.IsTuple a cf.toArray)) ?_
 rw[uJ ⟨s1.heap.objs.size,[s1.heap.objs.size],_,_,H1,rfl,Yp b o e e,aUh a _,Ħ _ _,oD,q⟩ e (b=s1.heap.objs.size) B4]
 rw[fq e (aC.GI fe Nu)]
def aXn BC{R:It->dS}{E:iQ}{lo hi:Int}{t u v:Tok}{tk:Nat}bZ(h1 : -(2 ^ 62)≤lo)(h2:lo<2 ^ 62)(h3 : -(2 ^ 62)≤hi)(h4:hi<2 ^ 62)
  (q:R (ang lo (hi-lo).toNat) H):nD (model X.prog X.w) X.A (pyIter AB) (aJK X pins σ cM R) E (Cg s (akN (iS #[η lo t,η hi u,η 1 v])) tk):=by
 rw[n9 (wpAny_pyIter_range (IsRange.new ..) (small_one h1 h2 h3 h4) ?_) aC (ah5 s (akN (iS #[η lo t,η hi u,η 1 v])) tk) (I.kept (xT o e e))]
 refine⟨Ql (akN (iS #[η lo t,η hi u,η 1 v])),[Ql (akN (iS #[η lo t,η hi u,η 1 v]))],_,_,H,rfl,
  aC.kept (t':=tk) (xT o e e),aUi _ lo (hi-lo).toNat,?_,oD,q⟩
 ·rw[bJ e1 (lo+jv 0*1=lo) Θ e2 (jv (hi-lo).toNat-jv 0=Builtin.Range.rangeSize lo hi 1) (by rw[rangeSize_one];split<;>omega)]
  show IsRangeIter _ _ (lo+jv 0*1) (jv (hi-lo).toNat-jv 0) 1;rw[ek e1 e2 IV]
 ·have e:b=Ql (akN (iS #[η lo t,η hi u,η 1 v])):=B4
  rw[fq e (aC.GI fe Nu)]
abbrev a2H(ta:nV):TI:=λσ H R=>apE σ H vs (∃j:Int,vs=[η j] /\ -(2 ^ 62)≤j/\j<2 ^ 62/\R (ang 0 j.toNat) H1)
def aVG{a:Expr}{ta:nV}{p pos:Pos}(hg:OJ X "range")(hm:ag9 "range")(ha:pZ X [a] ta)aoX:GN X cM (xP (c_ "range" p) [a] [] pos) (a2H ta):=by
 rw[qc R (Call_ (yn I hg hm boot_range (apZ (kj (ha pos pins s σ H _ I h) us ⟨vs,H1,aC,r1,ay⟩) hs rfl)))];obtain⟨j,e,ay,a_,q⟩:=ay;subst e;cases r1 with
 |cons r rr=>
  cases rr;rw[ee t rfl r (call_range_1 (aXn aC aD aD ay a_ (a! q)))]
abbrev a4r(wi:TI)(g:u!)(tb:lq):lq:=λD σ H=>wi σ H (wH J (∃W:p! (C9 St dS),(∃m,W 0 m σ H1)/\∀i m σ H,W i m σ H →
 (atw H/\akr H)\/(J.go i H/\∃N:St->dS,(∀σ' H',N σ' H'->∃m',m'<m/\W (i+1) m' σ' H')/\∀x H',J.awF i H x H'->g x σ H' (mq σ2 (tb { D with nx:=N,ct:=N,kA:=D.nx} σ2 H2)))))
abbrev Bi(fp:cY)BD:f_:=fp.filterMap λb=>(tQ).map λo=>(b,o)
def av2 G_ tK aaI(hb:b∈fp)(e:tQ=cy):(b,o)∈Bi fp h:=aOG b hb (by rw[cC e])
def aVH G_ tK{p:Addr×Obj}(hp:p∈Bi fp h):p.1∈fp/\h.get? p.1=uD p:=by
 rw[Š b hb (List.mem_filterMap.mp hp)];cases q:tQ with
 |none=>rw[q]at e;cases e
 |some o=>
  rw[q]at e;rw[Ia e' ((b,o)=p) aA9 e'];rw[cB hb q]
def Inv.pinned BC G_ afI(ho:HV b (∃o,kX/\∀v,o.data≠.cell v)):Inv X (pins++Bi fp s.heap) σ H s:=
 I.aIO (jQ ((Sw).elim (cK (Jm (HA z))) (cK (by
  obtain⟨hb,e⟩:=aVH z;obtain⟨f0,f1,f2,_⟩:=Jk p.1;obtain⟨o,e',d⟩:=ho p.1 hb;rw[e]at e';cases e';exact⟨e,f0,f1,f2,d⟩))))
def Inv.awu{pins pl:f_}zL nW(I:Inv X (pins++pl) σ H s):ja:=I.aIO (jQ (Jm (HA (aBA hp))))
def a0Q{iter:Expr}aaL{wi:TI}{g:u!}{tb:lq}D9(hp:akS)BF(hi:abT X cM wi)(hg:u7 X cM g)(hb:s_ X body tb)
  aaQ:mZ X (.For cM iter body [] pos) (a4r wi g tb):=by
 rw[qc D (wpAny_For (Ci (hi pins s σ H _ I h) v s1 h1 (FU h1 itv h2)) hs)];obtain⟨it,fp,rK,J,H2,e,bh,T,rO,f2,W,⟨m0,w0⟩,turn⟩:=h2;subst e;rw[cV T_ (∀{H':aP},(VA b b)->acv H') (λhn b hb=>⟨hn b hb,(f2 b hb).2⟩) (codeAny_forLoop_any (λn s'=>∃i σ' H',MV X/\rK i s'.heap/\(VA b b)/\W i n σ' H') ?_ m0 ⟨0,σ,H2,bh,rO,vK (f2 b hb).1,w0⟩)];rintro n s3 ⟨i,σ3,H3,dY,amh,ale,w3⟩;rcases turn i n σ3 H3 w3 with⟨stop,ZU⟩ | ⟨go,N,hN,step⟩
 ·refine Vr (q2 (T.done X rfl rfl rfl hc i pins s3 σ3 H3 X.s6 dY (T_ ale) amh stop) r w! ⟨hr,rP⟩);rw[fq hr (arl σ3 H3 rP ZU)]
 ·refine Vr (q2 (T.item X rfl rfl rfl hc i pins s3 σ3 H3 X.s6 dY (T_ ale) amh go) r w! ⟨u,hr,h4⟩);subst hr;refine Vr (q2 h4 _ amf ⟨x,H5,ax0,al6,y5,Un,aEm⟩);rw[dm ax1 (ax0.pinned (T_ aEm) (T.obj _ _ Un)) (Vr (q2 (hg _ amf σ3 H5 x u _ ax1 al6 (step x H5 y5)) _ av3 ⟨σ6,axY,ax2,aFa⟩))];rw[n9 (Vr (q2 (hb _ av3 σ6 axY _ ax2 aFa) f TH Ba)) again (∀{σ7:St}{zz:aP},Inv X (pins++Bi fp amf.heap) σ7 zz TH->N σ7 zz->∃m,m<n/\∃i σ' H',Vu X σ' H' TH/\rK i TH.heap/\(VA b b)/\W i m σ' H') (λ{σ7 zz} xj Ti=>by
   obtain⟨m',hm,jE⟩:=hN σ7 zz Ti;refine⟨m',hm,i+1,σ7,zz,xj.awu,T.keep _ _ _ Un λb hb o e=>(xj.pin (b,o) (HA (HA (av2 hb e)))).1,oD,jE⟩;rw[U_ o e d (T.obj _ _ Un b hb) (xj.pin (b,o) (HA (HA (av2 hb e)))).2.1])]
  cases f with
  |next=>rw[Sp σ7 zz xj Ti Ba (again xj Ti)]
  |cont=>rw[Sp σ7 zz xj Ti Ba (again xj Ti)]
  |brk=>rw[MK σ7 zz xj Ba Ba σ7 zz xj.awu Ba]
  |ret v=>rw[VU a7G σ7 zz xj a69 Ba Ba ⟨a7G,σ7,zz,xj.awu,a69,Ba⟩]
universe zE
universe L2
namespace L2
open PySem PySem.Spec PyProof.Rows
noncomputable abbrev o6:=V->V->aP->j0
abbrev aER gp(f:XX)(r:o6):Prop:=
 ∀o7(x y:V)(v u:Value)zP,ja->LV->acn->r x y H Q →
  ű (f v u) X Q
abbrev ayW gp(f:E7 ahx)(r:V->aP->j0):Prop:=
 ∀af1 aa0 zP,ja->LV->r x H Q →
  ű (f v) X Q
abbrev ij gp(f:Value)(r:di->aP->j0):Prop:=
 ∀o7 K3 BJ zP,ja->vX->r xs H Q →
  ā f us (HP X Q)
abbrev a4Q gp(r:V->aP->cO (Bool->dS)):Prop:=
 ∀af1 aa0 afK,ja->LV->r x H Q →
  j6 (truthy v) (anK X pins σ Q) s
abbrev amk(r:o6)afQ:TE:=Ng H x (tb σ H1 (mq y (r x y H2 Q)))
abbrev a7n(r:V->aP->j0)(ta:TE):TE:=Ng H x (r x H1 Q)
abbrev av1(C:Int->akW)(g:Int->Int->V):o6:=λx y H Q=>∃i j,x=η i/\y=η j/\C i j/\Q (g i j) H
abbrev O2(g:Int->Int->V):o6:=λx y H Q=>∃i j,x=η i/\y=η j/\Q (g i j) H
abbrev aRg(g:Int->V):V->aP->j0:=λx H Q=>∃i,x=η i/\Q (g i) H
section
variable {X:bY}{a b c:Expr}{ta tb tc:TE}{pos:Pos}
def ay1 Pb Pn nW zL{R:V->V->dS}bZ
  aLV rY{f:XX}
  aMo:
  MZ (nA a) v s₁ (j6 (nA b) (λu s₂=>j6 (f v u) Q s₂) s₁):=by
 rw[QC (abH s H _ I h v x) (FU (R1 _) u ⟨y,H2,bh,r2,a_⟩) (hf v u s2 x y H2 bh r1 r2 a_)]
def aca{op:Operator}{r:o6}(ho:oz (binaryOp op) r)Pb:g9 (.BinOp a op b pos) (amk r ta tb):=by
 rw[QD s H Q I h (wpAny_BinOp (ay1 ha hb I h λv u s2 x y H2 bh rx bg q=>ho pins s2 σ H2 x y v u Q bh rx bg q))]
def acb{op:UnaryOp}{r:V->aP->j0}(ho:ayW X (unaryOp op) r)(ha:akV):Fy atu op a (a7n r ta):=by
 rw[QD s H Q I h (UnaryOp_ (RU (Rk s H _ I h) v x (ho pins s1 σ H1 x v Q aC r1 ay)))]
def aEW{f:XX}{C:Int->akW}{g:Int->Int->Int}
  (rule:∀azI lu afE,C i j->akq (η (g i j) s.toks) s 1->ab3 (f (η i t) (η j u))):
  oz f (av1 C λi j=>η (g i j)):=by
 rw[FG];obtain⟨i,j,rfl,rfl,hc,q⟩:=h;rw[sH rx];rw[ee t' rfl bg (rule i j t t' s _ _ hc (Q6 (η (g i j)) H q))]
def aPP{f:XX}{g:Int->Int->Int}
  (rule:∀azI lu afE,akq (η (g i j) s.toks) s 1->ab3 (f (η i t) (η j u))):
  oz f (O2 λi j=>η (g i j)):=by
 rw[FG];rw[dw i j rfl q h];rw[sH rx];rw[ee t' rfl bg (rule i j t t' s _ _ (Q6 (η (g i j)) H q))]
def anM{f:XX}{g:Int->apJ}
  (rule:∀azI lu afE,Q (qg (g i j)) s->ab3 (f (η i t) (η j u))):
  oz f (O2 λi j=>.ai (g i j)):=by
 rw[FG];rw[dw i j rfl q h];rw[sH rx];rw[ee t' rfl bg (rule i j t t' s _ _ (Fz .ai (g i j) I q))]
abbrev a4R(i j:Int):Prop:=0<j/\ċ j
abbrev ay2(i j:Int):Prop:=(-(2 ^ 64)<i/\i<2 ^ 64)\/(-(2 ^ 64)<j/\j<2 ^ 64)
def ay2.ok{i j:Int}(h:ay2 i j):IntMulOk i j:=by
 rcases h with⟨h1,h2⟩ | ⟨h1,h2⟩
 ·exact .of_left (intBits_le_64 h1 h2)
 ·exact .of_right (intBits_le_64 h1 h2)
def a1k:Aj Add (O2 λi j=>η (i+j)):=aPP λ_ _ _ _ _ _ _ q=>add_int q
def a1l:Aj Sub (O2 λi j=>η (i-j)):=aPP λ_ _ _ _ _ _ _ q=>sub_int q
def a1m:Aj Mult (av1 ay2 λi j=>η (i*j)):=aEW λ_ _ _ _ _ _ _ hc q=>mul_int q hc.ok
def aYF:Aj FloorDiv (av1 a4R λi j=>η (i / j)):=aEW λi j _ _ _ _ _ hc q=>by
 rw[bJ h1 (aS 0<j) hc.1 h2 (ċ j) hc.2];exact floordiv_int aD (by rw[au (Int.fdiv_eq_ediv_of_nonneg i aD) q]) (Ω (PyProof.noPylong_small aD))
def a1n:Aj Mod (av1 (cQ j (0<j)) λi j=>η (i%j)):=aEW λi j _ _ _ _ _ hc q=>by
 rw[t6 h1 (aS 0<j) hc (mod_int' aD (by rw[au (Int.fmod_eq_emod_of_nonneg i aD) q]))]
def a7r{f:E7 ahx}{g:Int->Int}
  (rule:∀p8(t:Tok)lu afE,akq (η (g i) s.toks) s 1->ab3 (f (η i t))):
  ayW X f (aRg λi=>η (g i)):=by
 intro pins s σ H x v Q I rx h;rw[gY i q h];rw[ee t rfl rx (rule i t s _ _ (Q6 (η (g i)) H q))]
def a1o:ayW X (unaryOp .USub) (aRg λi=>η (-i)):=a7r λ_ _ _ _ _ q=>neg_int q
universe zE
section
variable {X:bY}{a b c:Expr}{ta tb tc:TE}{pos:Pos}
def Qr BC p0{k k':Bool}bZ(q:Q (.ai k) H)(e:k=k'):QY X Q (qg k') s:=by
 subst e;exact Fz .ai k I q
def a26:oz (compareOp .Lt) (O2 λi j=>.ai (iY (i<j))):=anM λ_ _ _ _ _ _ _ q=>lt_int q
def a27:oz (compareOp .LtE) (O2 λi j=>.ai (F4 i j)):=anM λ_ _ _ _ _ _ _ q=>le_int q
def a28:oz (compareOp .Gt) (O2 λi j=>.ai (iY (j<i))):=anM λ_ _ _ _ _ _ _ q=>gt_int q
def a29:oz (compareOp .GtE) (O2 λi j=>.ai (F4 j i)):=anM λ_ _ _ _ _ _ _ q=>ge_int q
def a1p:oz (compareOp .Is) (λx y H Q=>y=.ah/\Q (.ai (fK x .ah)) H):=by
 rw[FG];rw[MB q h];cases bg;refine is_none_gen (Qr I q ?_)
 cases x<;>first
  | (cases rx;rfl)
  | (rw[ů rx])
def aZo:oz (compareOp .IsNot) (λx y H Q=>y=.ah/\Q (.ai (!(fK x .ah))) H):=by
 rw[FG];rw[MB q h];cases bg;refine isnot_none_gen (Qr I q ?_)
 cases x<;>first
  | (cases rx;rfl)
  | (rw[ů rx])
def aER.or{f:XX}{r r':o6}(h:oz f r)(h':oz f r'):oz f (λx y H Q=>r x y H Q\/r' x y H Q):=by
 intro pins s σ H x y v u Q I rx bg q;rcases q with q | q
 ·exact h pins s σ H x y v u Q I rx bg q
 ·exact h' pins s σ H x y v u Q I rx bg q
def a8r(b:Expr)aaV(h:op≠.In:=by decide)(h2:op≠.NotIn:=by decide):apB op b:=by
 rw[bJ e1 (Hr op CmpOp.In) (by cases op<;>first | rfl | rw[WY h]) e2 (Hr op CmpOp.NotIn) (by cases op<;>first | rfl | rw[WY h2])]
 cases b<;>simp[behindInMarks,e1,e2]
def aZp aaV{r:o6}(ho:af5 r)Pb(hm:apB op b):g9 (ŷ a [op] [b] pos) (amk r ta tb):=by
 rw[QD s H Q I h (wpAny_Compare1 (ay1 ha hb I h λv u s2 x y H2 bh rx bg q=>ho pins s2 σ H2 x y v u Q bh rx bg q) hm)]
abbrev aKG(t:TE):kK:=uI (t σ H λx H'=>∃k,x=.ai k/\oJ k)
def aZq aaV{r:o6}(ho:af5 r)Pb(hm:apB op b):tD X (ŷ a [op] [b] pos) (aKG (amk r ta tb)):=by
 intro pins s σ H Q I h
 refine wpAny_isTrue_Compare1 (RU (Rk s H _ I h) v x (Zb (R1 _) λu s2 ⟨y,H2,bh,r2,a_⟩=>
  q2 (ho pins s2 σ H2 x y v u _ bh r1 r2 a_) c s3 ⟨z,H3,dY,w9,k,e,cz⟩)) hm
 subst e;cases w9;exact wpAny_truthy_bool ⟨H3,dY,cz⟩
abbrev aJX(r r':o6)(ta tb tc:TE):TE:=Ng H x (tb σ H1 (mq y (r x y H2 λz H3=>∃k,z=.ai k ∧
 (oq k (tc σ H3 λw' H4=>r' y w' H4 Q) (Q (qa .ai) H3)))))
def aXo{op aaF:CmpOp}{r r':o6}(ho:af5 r)(xm:oz (compareOp aaF) r')Pb(hc:g9 c tc)
  aLQ:g9 (ŷ a [op,aaF] [b,c] pos) (aJX r r' ta tb tc):=by
 intro pins s σ H Q I h
 refine Compare_chain (RU (Rk s H _ I h) v x (chain_link (Zb (R1 _) λu s2 ⟨y,H2,bh,r2,a_⟩=>
  q2 (ho pins s2 σ H2 x y v u _ bh r1 r2 a_) d s3 ⟨z,H3,dY,w9,k,e,cz⟩))) hm
 subst e;cases w9;rw[aBS ?_];cases k with
 |false=>exact ite_ff (jd (.ai false) H3 dY cz)
 |true=>exact ite_tt (chain_last (yQ (hc pins s3 σ H3 _ dY cz) w' w! z' H4 rP al5 Gm (xm pins w! σ H4 y z' u w' Q rP r2 al5 Gm)))
abbrev anW c9(x:V)jX(k:Bool):Prop:=
 match x with
 |.ah=>cW k
 |.ai b=>k=b
 |η i=>k=(i != 0)
 |aE y=>jK y.length/\k=(aS y.length != 0)
 |.acF y=>jK y.size/\k=(aS y.size != 0)
 |Δ p=>(∃xs,iI K H p xs/\k=Sv)\/(∃xs,CV K p/\k=Sv)\/∃kvs,H p=m_ .bA/\k=arL
 |_=>False
def aUj tG UZ:(! vs.isEmpty)=arL:=by
 cases r<;>rfl
def aGW{xs:di}{cf:b7}(r:Xu):aPE=Sv:=by
 cases r<;>simp
def aev:(sizeLine:Nat)<2 ^ 63:=by rw[atr]
def aJY:a4Q X (λx H Q=>∃k,anW X.K x H k/\Q k H):=by
 intro pins s σ H x v Q I rx h;obtain⟨k,e,q⟩:=h;rw[fu hl aev hs (sizeLine=16777216) sizeLine_eq];cases x with
 |ah=>
  cases rx;have e':cW k:=e;rw[fq e' (truthy_none ⟨H,I,q⟩)]
 |ai b=>
  cases rx;have e':k=b:=e;rw[fq e' (wpAny_truthy_bool ⟨H,I,q⟩)]
 |int i=>
  rw[sH rx];have e':k=(i != 0):=e;rw[fq e' (PySem.P.truthy_int ⟨H,I,q⟩)]
 |str y=>
  rw[sH rx];obtain⟨hy,e'⟩:jK y.length/\k=(aS y.length != 0):=e;rw[fq e' (PySem.P.truthy_str aD ⟨H,lN,q⟩)]
 |acF y=>
  rw[sH rx];obtain⟨hy,e'⟩:jK y.size/\k=(aS y.size != 0):=e;rw[fq e' (PySem.W.truthy_bytes aD ⟨H,lN,q⟩)]
 |ref p=>
  cases rx;have e':(∃xs,iI X.K H p xs/\k=Sv)\/(∃xs,CV X.K p/\k=Sv)\/∃kvs,H p=m_ .bA/\k=arL:=e;rcases e' with⟨xs,hx,e'⟩ | ⟨xs,hx,e'⟩ | ⟨kvs,hx,e'⟩
  ·subst e';rw[yC r pl hz (I.list hx)];rw[vS hlen r.length (wpAny_truthy_list pl.isList (by rw[aN7];omega) ⟨H,lN,by rw[au (aGW r) q]⟩)]
  ·subst e';rw[yC r pl hz (I.tuple hx)];rw[vS hlen r.length (truthy_tuple pl (by rw[aN7];omega) ⟨H,lN,by rw[au (aGW r) q]⟩)]
  ·subst e';obtain⟨hz,hS,vs,r,m⟩:SO/\H9 p/\∃vs,YS/\s.heap.DictOf qp p vs:=yc p hx;rw[t6 hlen aLt aCT (wpAny_truthy_dict hS m aD ⟨H,lN,by rw[au (aUj r) q]⟩)]
 |_=>exact(V1 e).elim
def aXp(ha:akV)(he:∀whole,arK a whole=(do let v ←whole;standAt a.pos;Hv [v] (truthy v))):
  tD X a (uI (ta σ H λx H'=>∃k,anW X.K x H' k/\oJ k)):=by
 rw[QD s H Q I h (isTrue_plain (RU (Rk s H _ I h) v x (aJY pins s1 σ H1 x v Q aC r1 ay)) (he _))]
def vals1{x:V}BK(r:SE [x]):∃u,us=[u]/\xM x:=by
 cases r with
 |cons r1 r2=>cases r2;exact IX r1
def vals2{x y:V}BK(r:SE [x,y]):∃u w',us=[u,w']/\xM x/\akp y:=by
 cases r with
 |cons r1 r2=>
  cases r2 with
  |cons w9 al5=>cases al5;exact FQ _ r1 w9
def aVI BF:Jd "max" (λxs H Q=>∃i j,xs=[η i,η j]/\Q (η (asq (j > i) i)) H):=by
 rw[QU s H Q I r h];obtain⟨i,j,rfl,q⟩:=h
 obtain⟨u,w',rfl,⟨t,rfl⟩,⟨t',rfl⟩⟩:=vals2 r;refine max_two_ints (I.ok.hd hc) λh' tk k=>⟨_,H,I.kept k,?_,q⟩;by_cases hj:j > i
 ·rw[ail hj hj];exact lT
 ·rw[at9,at9];exact lT
def aVJ BF:Jd "min" (λxs H Q=>∃i j,xs=[η i,η j]/\Q (η (asq (j<i) i)) H):=by
 rw[QU s H Q I r h];obtain⟨i,j,rfl,q⟩:=h
 obtain⟨u,w',rfl,⟨t,rfl⟩,⟨t',rfl⟩⟩:=vals2 r;refine min_two_ints (I.ok.hd hc) λh' tk k=>⟨_,H,I.kept k,?_,q⟩;by_cases hj:j<i
 ·rw[ail hj hj];exact lT
 ·rw[at9,at9];exact lT
def aVK:AJ (dH "int") (λxs H Q=>(∃i,xs=[η i]/\Q (η i) H)\/∃k,xs=[.ai k]/\Q (η (ag8 k 0)) H):=by
 rw[QU s H Q I r h];rcases h with⟨i,rfl,q⟩ | ⟨k,rfl,q⟩
 ·rw[Sp u rfl t rfl (vals1 r) (call_int_int ⟨η i,H,I,lT,q⟩)]
 ·rw[II u r1 r];cases r1;exact call_int_bool (Q6 (η (ag8 k 0)) H q)
universe zE
universe L2
namespace L2
open PySem PySem.Spec PyProof.Rows
structure aeP BD(x dx C:Addr)(mA:Str->gK):Prop where
 obj:h.get? x=aY (aBo C)
 ns:atv dx
 ne:dx≠x
def aVL tK{dx:Addr}{mA:Str->gK}(n:atv dx):∃od,cu (h.get? dx) od/\∀name,aBa od=aY (mA name):=by
 obtain⟨o,es,ep,ho,hd,hk,_,hm⟩:=n;rw[eV o ho (dJ name)];have e:=hm name;unfold nsFind findBy at e;rw[←Array.find?_toList]at e;unfold PySem.W.lookIn;rw[j3 hd];split
 ·rename_i y q;rw[bG q e (congrArg some e)]
 ·rename_i q;rw[q]at e
  rw[bJ a (cW aNX) (by
   rw[List.any_eq_false];intro y hy;obtain⟨z,t,a4S⟩:=hk y (Array.mem_toList_iff.mp hy);simp[DictEntry.refKey,a4S]) a' (¬(aO aNX)) (by rw[aqj a])]
  rw[Sm a' (congrArg some e)]
def aeP.look tK{x dx C:Addr}{mA:Str->gK}(I:aeP h x dx C mA):∃od,PySem.W.InstAt h x (aBo C) C (some od)/\∀name,aBa od=aY (mA name):=
 let⟨od,ho,hl⟩:=aVL I.ns
 ⟨od,uv I.obj rfl ho,hl⟩
section
variable {prog:Program}{w:World}{A:Around}{E:iQ}{s:Shared}{K:fh}{x dx C f:Addr}{mA:Str->gK}{name:Str}{v:Value}
def get_map{expr:Bool}rY az0(hg:apK K C name)(hh:aAs K C)
  (ha:yz (Δ C) name=MN)(hv:mA name=fU)(hv':aOj v)(h:akq v s 1):
  FF (getAttr (Δ x) name expr):=by
 rw[SW od J hl I.look (PySem.W.get_value X J aBB.1 (PySem.W.findObj_own hh ha rfl (kU hl hv)) hv' h)]
def aXq aNz az0(hg:apK K C name)
  (hf:yz (Δ C) name=Wq f)(ht:aru K (Δ f))(hv:bR (mA name))(h:Q (Δ f,[Δ x]) s):
  FF (aAf (Δ x) name):=by
 rw[SW od J hl I.look (PySem.W.method_fn X J aBB.1 aBB.2 hf (beq_iff_eq.mp ht) (by show cu ((aBa od).map (·.isSome)) false;rw[hl,hv];rfl) h)]
def aZr{ns:gM}Pd az0
  (hs:yz (Δ C) "__setattr__" = aAT fG)(hp:aO (PySem.W.plainOver K C))(ht:PySem.W.takerIn K C name=MN)(hh:aAs K C)
  (hw:aCU ns)(hsz:aLB)
  (h:∀h',aeP h' x dx C (M! y y name fU (mA y))->arf dx h'->Q () (Cg s h' (WC 2))):
  FF (setAttr (Δ x) name v):=by
 rw[Ce od J hl I.look (PySem.W.set_plain X J hs (PySem.W.osa_open (s:=as6 s 1) (r:=none) X J hp ht (dJ b)))];rw[ahG cd hc hd' (PySem.W.any_some hh) hx (vv x ⟨Δ C,some dx,.plain,#[]⟩) I.obj (fk (Mw (fk (fk (wpAny_loadPart hx (fk (PySem.W.Looks.here (s:=as6 s 1) (PySem.W.looks_clsIn X hc) ?_)))))))];rw[abI hd' (wpAny_pure (a:=some dx) (fk (Mw aB2))) (wpAny_nsSet1 (s:=as6 s 1) I.ns (FT KR hs2))];obtain⟨a9e,esD,a8W,a6z,a6g,a6d⟩:=KR.count (PySem.Within.cons name v hw);rw[Wy (fk (wpAny_lookBehind a6z (by rw[au a6g (pastItsLine_dict (LD a6d (by rw[n? zE])))]) ?_)) (Mw (h _ ⟨H! hs2 _ (Ne.symm I.ne) I.obj,KR,I.ne⟩ hs2))]
def aXr azj{vs:b7}{kw:L7}(X:acs)(hm:aO (PySem.W.makesIn K C))
  (hi:yz (Δ C) "__init__" = Wq f)(hf:PySem.W.typeIn K (Δ f)=d7 dH "function")
  (h:codeAny nj (akM (Δ C::vs) kw) (.call (Δ f) ⟨Δ iV::vs,kw⟩) (PySem.W.InitBack iV R)
   (nE s ((Vc).push (agu C)))):
  Me nj A (.call (Δ C) (asB kw)) R s:=by
 obtain⟨hh,g,d,t,os⟩:=s;exact PySem.W.make_core (PySem.W.makes_of X hm) (PySem.W.looks_findIn X hi) (λself=>PySem.W.bind_fn X self hf) (Ω rfl) h
universe zE
abbrev oW xx(v:V):CN->CN
 |[]=>[(f,v)]
 | (g,x)::r=>W4 (g=f) (g,v) r ((g,x)::oW f v r)
def aRJ(f g:Str)(v:V):∀fs:CN,mH (oW f v fs) g=vz g f fU (fs.lookup g)
 |[]=>by
  show List.lookup g [(f,v)]=_;rw[jt (g=f)]
  ·have hb:g5 (g == f):=aCE;simp only[List.lookup,hb,yK]
  ·have hb:Hr g f:=aAL;simp only[List.lookup,hb,pH]
 | (k,x)::r=>by
  have ih:=aRJ f g v r;rw[mF (ym (oW f v ((k,x)::r)) (W4 (k=f) (k,v) r ((k,x)::oW f v r))) hk (k=f)]
  ·rw[mF HY h (g=k)]
   ·have hb:g5 (g == k):=aCE;simp only[List.lookup,hb,jx (h.trans hk)]
   ·have hb:Hr g k:=aAL;simp only[List.lookup,hb,sr (λe:g=f=>h (e.trans hk.symm))]
  ·rw[mF MO h (g=k)]
   ·have hb:g5 (g == k):=aCE;simp only[List.lookup,hb,sr (λe:g=f=>hk (h.symm.trans e))]
   ·have hb:Hr g k:=aAL;simp only[List.lookup,hb];exact ih
def aGj xx(v:V):∀fs:CN,f∈gf (oW f v fs).map/\∀g,g∈asb->g∈gf (oW f v fs).map
 |[]=>⟨aK oW,λg h=>CP⟩
 | (k,x)::r=>by
  obtain⟨i1,i2⟩:=aGj f v r;rw[mF (ym (oW f v ((k,x)::r)) (W4 (k=f) (k,v) r ((k,x)::oW f v r))) hk (k=f)]
  ·rw[HY];subst hk;rw[cB Θ (λg h=>a! h)]
  ·rw[MO];rw[ah7 ?_ g h]
   ·rw[au bB (iA i1)]
   ·rw[v7 bB];rcases E_ with e | e
    ·exact List.mem_cons.mpr (Ω e)
    ·exact iA (i2 g e)
def aRK xx(v:V):∀fs:CN,gE (oW f v fs) (fs.length+1)
 |[]=>aK oW
 | (k,x)::r=>by
  have ih:=aRK f v r;rw[mF (ym (oW f v ((k,x)::r)) (W4 (k=f) (k,v) r ((k,x)::oW f v r))) hk (k=f)]
  ·rw[HY,zE,zE];omega
  ·rw[MO,zE,zE];omega
def s5.aRQ m9{o:gK}(r:s5 fU o):∃u,o=dO/\oA:=by
 cases o with
 |none=>exact(V1 r).elim
 |some u=>exact lK u r
def s5.none_of{o:gK}(r:s5 none o):bR o:=by
 cases o with
 |none=>rfl
 |some u=>exact(V1 r).elim
def aVM m9 qP(r:oA):aOj u:=by
 cases v with
 |ah=>cases(j9 u Value.none r);rfl
 |ai b=>cases(j9 u (Value.bool b) r);rfl
 |int i=>rw[sx e (AO (u=Wd t) r)];cases e;rfl
 |str x=>rw[sx e (AO (u=We x) r)];cases e;rfl
 |acF b=>rw[sx e (AO (u=Value.bytes b t) r)];cases e;rfl
 |Uq b=>rw[sx e (AO (u=aB1 b) r)];cases e;rfl
 |ref a=>cases(RL a r);rfl
 |ty n=>cases(j9 u (Value.type n) r);rfl
section
variable {P:Program}{w:World}{H H':aP}{h h':Heap}{a C dx:Addr}{fs DS:CN}
def amI(bz:R8)(e:H a=å C):∃mA,aeP h a dx C mA/\(∀f,s5 Su (mA f))/\aCU asb/\fs.length≤1000/\H dx=zQ a:=by
 obtain⟨d,z,ne,ob,mA,n,r,q⟩:=(IF P w H h a (dB C dx fs) (bz a _ e))
 exact⟨mA,⟨ob,n,ne⟩,r,q,z,d⟩
universe zE
structure Bp UG:Prop where
 aE9:apK K C Str.empty
 hd:aAs K C
 po:aO (PySem.W.plainOver K C)
 sa:yz (Δ C) "__setattr__" = aAT fG
def Bp.get kM qR(c:Bp K C)xx:apK K C f:=c.aE9
abbrev Z7 UG xx:Prop:=yz (Δ C) f=MN
def Z7.a3a kM qR G!(n:Z7 K C f):PySem.W.takerIn K C f=MN:=by
 rw[Ik PySem.W.takerIn (j9 (yz (Δ C) f) MN n)]
structure a7W UG xx(v:V)G6:Prop where
 at_:yz (Δ C) f=Hw u
 rel:oA
 get:HH (aAG K u) none
 cp:cW (PySem.W.copiedNames.contains f)
structure Meth UG(m:Str)(f:Addr):Prop where
 at_:yz (Δ C) m=Wq f
 fn:aru K (Δ f)
 kp:Vk K (Δ f)
section
variable {X:bY}{pins:f_}{σ:St}{H:aP}{s:Shared}{a C dx:Addr}{fs:CN}{f:Str}{v:V}{A:Around}{E:iQ}
def aT3 G7 rY bZ azt(n:Z7 X.K C f)(l:Su=fU)
  (h:∀u s',Nc->oA->Q u s'):M7 A (getAttr (Δ a) f b):=by
 obtain⟨mA,O,r,_,_,_⟩:=amI I.bz e;rw[SW u hu cL (as7 v o (mA f) (by rw[cA l (r f)])) (get_map I.s7 O (c.get f) c.hd n hu (aVM cL) (h u _ lN cL))]
def aT4{m:Str}{g:Addr}aNz bZ azt(k:Meth X.K C m g)(l:bR (fs.lookup m))
  (h:Q (Δ g,[Δ a]) s):M7 A (aAf (Δ a) m):=by
 obtain⟨mA,O,r,_,_,_⟩:=amI I.bz e;rw[t6 hn (bR (mA m)) (s5.none_of (by rw[cA l (r m)])) (aXq I.s7 O (c.get m) k.at_ k.fn hn h)]
def aT5 aa3 Pd bZ azt(n:Z7 X.K C f)(hl:agc)D_
  (h:∀s',kO (q7 a (dB C dx (oW f y fs))) s'->Q () s'):M7 A (setAttr (Δ a) f u):=by
 obtain⟨mA,O,r,wi,_,ho⟩:=amI I.bz e
 rw[cV hz (aup asb) (by rw[d9,sizeLine_eq];omega) (aZr I.s7 O c.sa c.po n.a3a c.hd wi hz λh' O' sb=>h _ ?_)];have hd:∃o,h'.get? dx=cy:=let⟨o,_,_,e',_⟩:=O'.ns;⟨o,e'⟩;rw[aiR (ar9 a e dx (by rw[V2 e]) (aA ho) (RV b q z sb z) hd ?_) ⟨by rw[au (lA O.ne) ho],?_,O.ne,O'.obj,_,O'.ns,dJ g,c! g hg⟩]
 ·rw[eg (aRK f y fs)]
 ·show s5 (mH (oW f y fs) g) (vz g f dO (mA g));rw[mF aRJ q (g=f)]
  ·rw[ek (if_pos q) (if_pos q) bg]
  ·rw[arZ (if_neg q) q (r g)]
 ·by_cases q:g=f
  ·rw[fX q (aGj f y fs).1]
  ·refine(aGj f y fs).2 g (wi g (cK (hg ?_)));show bR (vz g f dO (mA g));rw[Sm q z]
def Inv.made bZ:Inv X pins σ (tU (yr (.own iV)) iV (dB C s.heap.objs.size []))
  (nE s ((Vc).push (agu C))):=by
 rw[gq e1 (cu ((Vc).get? s.heap.objs.size) PySem.W.emptyDict) (aAX s.heap) e2 (((Vc).push (agu C)).get? iV=aY (agu C)) (by
  rw[HS (Heap.get?_push_size Vc (o:=agu C) rfl) Heap.size_push]) e3 ((Vc).Ns s.heap.objs.size (WQ _)) ⟨PySem.W.emptyDict,#[],_,e1,rfl,(abu e he he),wC⟩]
 rw[dm aC (I.laid (a:=s.heap.objs.size) (o:=.own iV) (h':=Vc) (t':=s.toks) (xT u q q) fe ⟨_,e1⟩) (aC.laid (a:=iV) (o:=dB C s.heap.objs.size []) (t':=s.toks) (xT u q q) (Nat.le_of_eq (Heap.size_push _ _)) ?_)];rw[t7 ne (s.heap.objs.size≠iV) (pC aBq) ⟨kU (lA ne) g6,q4,ne,e2,WQ _,(Heap.Ns1.of_empty e3).at λo q=>vo q,λ_=>True.intro,V4 y hy rfl hy⟩]
def aZs azw UB Pq G! D9 nW rY(hb:attributeBase e f env (ż e)=ż e)
  (h:pI nj A (ż e) (λo s₁=>nD nj A (getAttr o f true) Q E s₁) E):FF (ż (S3 e f pos)):=
 Attribute_any_ h (kU arm_eval_Attribute hb)
universe zE
abbrev a4T c9(ta:TE)xx:TE:=Ng H x (∃a C dx fs v,x=Δ a/\H1 a=å C/\Bp K C/\Z7 K C f/\Su=fU/\Q v H1)
abbrev a4U c9(ta zp:TE)xx:lq:=λD σ H=>zp σ H (wH y (ta σ H1 (mq x (∃a C dx fs,x=Δ a/\H2 a=å C/\Bp K C/\Z7 K C f/\agc ∧
 akr (tU H2 a (dB C dx (oW f y fs)))))))
section
variable {X:bY}{o e value:Expr}{f:Str}{pos pos' GJ:Pos}{ta zp:TE}
def a1q(he:g9 e ta)(hb:apt e f (nA e)=nA e):Fy S3 e f (a4T X.K ta f):=by
 intro pins s σ H Q I h;refine aZs hb (kj (C5 s σ H _ I h) u ⟨x,H1,aC,rx,a,C,dx,fs,v,ex,ea,c,n,l,q⟩);subst ex;obtain rfl:u=IH:=rx;exact aT3 aC ea c n l λu' s2 bh cL=>⟨v,H1,bh,cL,q⟩
def a1r(ha:g9 o ta)(hv:g9 value zp)(hs:apz value (aY (S3 o f pos'))=YU):mZ X (C4 [S3 o f pos'] value pos) (a4U X.K ta zp f):=by
 intro pins s σ H D I h;refine plainObj_wpAny_Assign_Attribute (yQ (hv pins s σ H _ I h) u s1 y H1 aC bg q (FU (Rk s1 H1 _ aC q) ov ⟨x,H2,bh,rx,a,C,dx,fs,ex,ea,c,n,l,a_⟩)) hs;subst ex;obtain rfl:ov=IH:=rx;exact aT5 bh ea c n l bg λs3 dY=>⟨σ,_,dY,a_⟩
universe zE
section
variable {X:bY}{pins:f_}{σ:St}{H:aP}{s:Shared}{A:Around}{E:iQ}{Q:iQ}{c:Value}{b:Bool}
inductive zu c9 jX:V->cO Value where
 |ah:zu K H .ah (dH "NoneType")
 |ai(x:Bool):zu K H (.ai x) (dH "bool")
 |int p8:zu K H (η i) (dH "int")
 |str nY:zu K H (aE x) (dH "str")
 |Uq(x:UInt64):zu K H (.Uq x) (dH "float")
 |lst jo{xs:di}(e:H a=g!):zu K H (Δ a) Cf
 |b! jo{o:Obj}{xs:di}(e:H a=v! .b! (ς xs)):zu K H (Δ a) Cf
 |tup jo{xs:di}(e:H a=vW):zu K H (Δ a) Jw
 |bA jo Po afY:zu K H (Δ a) (dH "dict")
 |dT jo Ld aov:zu K H (Δ a) (dH "dict")
 |ins{a C dx:Addr}{fs:CN}(e:H a=å C)(cl:Bp K C)(ha:yz (Δ C) "__class__" = aBD fG)
   (hn:aAG K Js = aAy fG)(htk:PySem.W.takesIn K Js=uB)
   (hm:aB8 C akI=uB):zu K H (Δ a) (Δ C)
def aVN{x:V}{u t:Value}bZ(rx:xM x)(ty:zu X.K H x t)(e:PySem.W.kitOne X.K t c=nh)(h:∀tk,Q (qg b) (aAD s tk)):
  ß A (aDD fG) [u,c] Q E:=by
 cases ty with
 |ah=>cases(j9 u Value.none rx);exact aj9 PySem.W.kitx_none e h
 |ai y=>cases(j9 u (Value.bool y) rx);exact aj9 PySem.W.kitx_bool e h
 |int i=>rw[sx q (AO (u=Wd t) rx)];cases q;exact aj9 PySem.W.kitx_int e h
 |str y=>rw[sx q (AO (u=We y) rx)];cases q;exact aj9 PySem.W.kitx_str e h
 |Uq y=>rw[sx q (AO (u=aB1 y) rx)];cases q;exact aj9 PySem.W.kitx_float e h
 |@lst a xs ea=>
  cases(YB a)
  obtain⟨_,_,n,_,h1⟩:=(IF X.prog X.w H s.heap a (ς xs) (yc a ea))
  exact S1 PySem.W.kitx_list (xQ h1) e (λz=>nomatch z) h
 |@b! a ob xs ea=>
  cases(YB a)
  obtain⟨_,_,_,n,_,h1⟩:=(IF X.prog X.w H s.heap a (.b! ob (ς xs)) (yc a ea))
  exact S1 PySem.W.kitx_list (xQ h1) e (λz=>nomatch z) h
 |@tup a xs ea=>
  cases(YB a)
  obtain⟨_,_,_,p⟩:=(IF X.prog X.w H s.heap a (aQ xs) (yc a ea))
  obtain⟨o,h1,h2,_⟩:=p
  exact S1 PySem.W.kitx_tuple ⟨o,h1,h2⟩ e (λz=>nomatch z) h
 |@bA a kvs ea=>
  cases(YB a)
  obtain⟨_,_,vs,_,p⟩:=(IF X.prog X.w H s.heap a (.bA kvs) (yc a ea))
  obtain⟨o,es,ep,h1,h2,_⟩:=p;exact S1 PySem.W.kitx_dict ⟨o,h1,h2.1⟩ e (λz=>nomatch z) h
 |@dT a kvs ea=>
  cases(YB a)
  obtain⟨_,_,xs,_,o,es,ep,h1,h2,_⟩:=(IF X.prog X.w H s.heap a (.dT kvs) (yc a ea))
  exact S1 PySem.W.kitx_dict ⟨o,h1,h2.1⟩ e (λz=>nomatch z) h
 |@ins a C dx fs ea cl ha hn htk hm=>
  cases(YB a)
  obtain⟨mA,O,_⟩:=amI I.bz ea;obtain⟨od,J,_⟩:=O.look
  exact S1 (PySem.W.kitx_own (cl.get _) cl.hd ha hn htk hm) J e (λz=>nomatch z) h
universe zE
universe L2
namespace L2
open PySem PySem.Spec PyProof.Rows
structure Kd o8(A:Around):Prop where
 hd:aLC
 dp:A.depth+3*k+5<recursionLimit
 un:ç (A.units+16*k+200)
def Kd.mono afn vd(r:r5 A)afo:Kd j A:=⟨r.hd,by rw[eg r.dp],by rw[eg r.un]⟩
def Kd.deeper d6 vd(r:Kd (k+1) A)(env:Env):r5 (A.deeper env):=
 ⟨r.hd,by have:=r.dp;rw[Q3 (A.depth+1+3*k+5<_)],by have:=r.un;rw[Q3 (A.units+3+16*k+200<_)]⟩
def aT8 vd qR BK{kw:L7}:(akM (Δ C::us) kw).depth=A.depth+1:=by
 first | rfl | simp[Around.under,Code.weight,Code.isCreation,Code.isGuard,Code.isCaller,Code.frames,Code.isFrame,guardIds]
def aUM vd qR BK{kw:L7}:(akM (Δ C::us) kw).units=A.units+1:=by
 first | rfl | simp[Around.under,Code.cUnits,Code.frames,Code.isFrame]
def Kd.make d6 vd(r:Kd (k+1) A)nX BJ(kw:L7):r5 (akM (Δ C::us) kw):=
 ⟨r.hd,by have:=r.dp;rw[n? aT8],by have:=r.un;rw[n? aUM]⟩
def Kd.depth d6 vd(r:r5 A):A.depth<recursionLimit:=by rw[eg r.dp]
def Kd.units d6 vd(r:r5 A):aAc 64:=by rw[eg r.un]
abbrev aeY:nV:=λ_ H Q=>Q [] H
abbrev T4(ta:TE)(tr:nV):nV:=Ng H x (tr σ H1 (mq xs (Q (x::xs) H2)))
section
variable {X:bY}{e:Expr}{es:dI}{te:TE}{t:nV}{pos:Pos}
def aeo:pZ X [] aeY:=λ_ _ _ _ H Q I h=>Calls.spliced_nil ⟨[],H,I,c6,h⟩
def Tu(ha:aAa)(hr:pZ X es t)azT:pZ X (e::es) (T4 te t):=by
 intro pos pins s σ H Q I h;rw[hs];rw[Ai (pI _ _ (spliced (aco::YR es)) _ _) (Vn (abH s H _ I h u x))];exact yQ (hr pos pins s1 σ H1 _ aC ay) us s2 xs H2 bh r2 a_ ⟨x::xs,H2,bh,b4 r1 r2,a_⟩
abbrev a4V(t:nV):TE:=MR H xs (LB/\∀p,Ň p->Q (Δ p) (Jx H1 p aQ xs))
abbrev a4W(t:nV):TE:=MR H xs (LB/\∀p,Ň p->Q (Δ p) (FN H1 p xs))
def a1s{x1}(h:pZ X es t):Fy M9 es x1 (a4V t):=by
 intro pins s σ H Q I hq;refine wpAny_Tuple_spliced (Ci (h pos pins s σ H _ I hq) us s1 ⟨xs,H1,aC,r,z,q⟩ (lR (by rw[cA r.length z])));rw[t7 hf aPm Nu (jd (Δ s1.heap.objs.size) (Jx H1 s1.heap.objs.size aQ xs) (aC.laid (t':=s1.toks) (xT u e e) fe ?_) (q _ hf))];exact⟨z,us,r,mC _ IV _ rfl⟩
def a1t(h:pZ X es t):g9 (.List es pos) (a4W t):=by
 intro pins s σ H Q I hq;refine wpAny_List_spliced (Ci (h pos pins s σ H _ I hq) us s1 ⟨xs,H1,aC,r,z,q⟩ (lR (by rw[cA r.length z])));rw[t7 hf aPm Nu (jd (Δ s1.heap.objs.size) (FN H1 s1.heap.objs.size xs) (aC.laid (t':=s1.toks) (xT u e e) fe ?_) (q _ hf))];exact⟨z,us,0,r,IV⟩
universe zE
noncomputable abbrev xr:=di->aP->afe->cO d_
noncomputable abbrev tf:=Eg->aP->Shared->d_->iQ
structure Kb D3 UT aoQ lu jX:Prop where
 frames:cu A.frames outer
 mod:Mod K mg base
 bs:∀b o,base.get? b=cy->kX/\kr
 aaB:base.objs.size≤s.heap.objs.size
 Ap:s.heap.FunFrames base outer
 Ur:Ht EW kr
 bz:F5 H s.heap
 bare:aLl
abbrev aw9(outer:Eg)D3 jX lu zP G6 K!:Prop:=
 ∃v H',s'.os=s.os/\Ç/\iN EW [] H H' s.heap s'.heap/\F5 H' s'.heap/\oA/\oJ v
abbrev aSx(fR:tf)(outer:Eg)D3 jX lu zP(E:d_)(r:Result)K!:Prop:=
 match r with
 |.ok (.ret u)=>aw9 outer P w H s Q u s'
 |.ok _=>False
 |.error e=>fR outer H s E e s'
structure rJ D3 UT(fR:tf)o8(f:Addr)aoF(ps:gM)(sp:xr):Prop where
 len:∀vs H Q E,sp vs H Q E->aDv
 run:∀aoQ lu jX(args:Args)BJ D? zP(E:d_),r5 A->Kb P w K mg base A outer s H->BindsTo s fd args VY->Rh->sp vs H Q E →
  Me (model P w) A (.call (Δ f) args) (aSx fR outer P w H s Q E) s
def rJ.mono Li{fR:tf}afn aoh{sp:xr}(F:rJ P w K mg base fR j f fd ps sp)afo:
  rJ P w K mg base fR k f fd ps sp:=⟨F.len,λA outer s H args us vs Q E hr=>F.run A outer s H args us vs Q E (hr.mono h)⟩
def rJ.imp Li{fR:tf}d6 aoh{sp aRi:xr}(F:rJ P w K mg base fR k f fd ps sp)
  (h:∀vs H Q E,aRi vs H Q E->sp vs H Q E):rJ P w K mg base fR k f fd ps aRi:=
 ⟨λvs H Q E q=>F.len vs H Q E (h _ _ _ _ q),λA outer s H args us vs Q E hr he hb hv hs=>F.run A outer s H args us vs Q E hr he hb hv (h _ _ _ _ hs)⟩
def Kb.make Li vd Pf nW iP(e:Kb P w K mg base A outer s H)nX BJ(kw:L7):
  Kb P w K mg base (akM (Δ C::us) kw) outer s H:=⟨by first | exact e.frames | (simpa[Around.under,Code.envs,Code.isFrame,pushEnvs] using e.frames),e.mod,e.bs,e.aaB,e.Ap,e.Ur,e.bz,e.bare⟩
section
variable {X:bY}{pins:f_}{σ:St}{H:aP}{s s':Shared}
def Inv.aPQ bZ:Kb X.prog X.w X.K X.mg X.base X.A X.stack s H:=
 ⟨I.ok.frames,I.ok.mod,I.bs,ap9 I.sz,I.stack,I.axM,I.bz,I.bare⟩
def Inv.after p0 qP bZ(h:aw9 X.stack X.prog X.w H s Q u s'):QY X Q u s':=by
 obtain⟨v,H',os,bare,un,bz,r,q⟩:=h;obtain⟨hh,g,d,t,os'⟩:=s';obtain rfl:os'=s.os:=os;exact⟨v,H',I.call (h':=hh) (g':=g) (d':=d) (t':=t) (ch:=[]) un bz bare (abu b z z),r,q⟩
universe zE
abbrev Binds c9 aoF(ps:gM)(ds:b7):Prop:=
 ∀lu BJ,acs->ķ (uf us ds)->BindsTo s fd (sD us) (ps.zip (us++ds))
def Binds.all kM{fd:FuncData}{ps:gM}(h:∀us:b7,aDu->aCn fd us=HM VY):MT K:=λs us _ hl=>by
 rw[ux eP hl (.of_eq (h us hl))]
abbrev Passes(fR:tf)gp(E:d_):Prop:=∀(pins:f_)afR lu aoM,ja->fR X.stack H s E e s'->X.s6 e s'
section
variable {X:bY}{fR:tf}{k:Nat}{f C:Addr}{fd:FuncData}{ps:gM}{sp:xr}{DQ:di}{ds:b7}{E:d_}{x m:Str}{p pos apos:Pos}{e o:Expr}{es:dI}{ta:TE}{t:nV}
structure ayy c9(C f:Addr):Prop where
 makes:aO (PySem.W.makesIn K C)
 init:yz (Δ C) "__init__" = Wq f
 fn:aru K (Δ f)
 kp:Vk K (Δ C)
universe zE
section
variable {X:bY}{fR:tf}{k:Nat}{f C:Addr}{fd:FuncData}{ps ks:gM}{sp:xr}{E:d_}{x m:Str}{p pos apos a8E:Pos}{e o:Expr}{es:dI}{kws:Y4}{te ta:TE}{t tk:nV}{nm:Option Str}
structure a8s c9 aoF(ps ks:gM)(g:b7->b7->b7)(aQt:di->di->di):Prop where
 to:∀lu(us ws:b7),acs->ķ (dR (g us ws))->BindsTo s fd ⟨us,ks.zip ws⟩ (ps.zip (g us ws))
 rel:∀xy BK{zs:di}{ws:b7},Rh->Vals zs ws->Jh (aQt vs zs) (g us ws)
variable {g:b7->b7->b7}{aQt:di->di->di}
universe zE
structure agM(N P:gM)(sc:Scope):Prop where
 kind:sc.kind=ID
 co:aO3
 gen:aO4
 nd:N.Nodup
 pre:N.take P.length=P
 par:∀x∈P,B9=Cp \/ B9=pJ
 a1u:∀y∈sc.names,y.2≠AK
def aHD ao7:∀{binds:L7}afO,(∀v,(x,v)∉binds)->arN binds m x=m x
 |[],_,_=>rfl
 | (n,v)::r,m,h=>by
  rw[dz bindL (aHD λw hw=>h w (iA hw))];split
  ·have:x≠n:=by rintro rfl;exact aBT v
   simp[this]
  ·rfl
def aHE ao7:∀{binds:L7}afO,(∀v,(x,v)∉binds)->arO binds m x=m x
 |[],_,_=>rfl
 | (n,v)::r,m,h=>by
  rw[dz bindC (aHE λw hw=>h w (iA hw))];split
  ·rfl
  ·have:x≠n:=by rintro rfl;exact aBT v
   simp[this]
def aHF ao7 afl:∀{P:gM}{vs:b7}gW afO,P.Nodup->jz P x->AN vs->kindOf x=Cp →
  arN ž m x=fU
 |[],_,_,_,_,h,_,_=>CP
 |_::_,[],_,_,_,_,h,_=>CP
 |p::P,w::vs,0,m,nd,h1,h2,hk=>by
  simp at h1 h2;subst h1;subst h2;show arN ((p,w)::ž) m p=_;rw[iU bindL (aHD λv hv=>apN.1 aO1.1) HY];simp
 |p::P,w::vs,i+1,m,nd,h1,h2,hk=>by
  rw[RE (arN ((p,w)::ž) m x=_) bindL];exact aHF (i:=i) apN.2 (a! h1) (a! h2) hk
def aHG ao7 afl:∀{P:gM}{vs:b7}gW afO,P.Nodup->jz P x->AN vs->kindOf x≠Cp →
  arO ž m x=fU
 |[],_,_,_,_,h,_,_=>CP
 |_::_,[],_,_,_,_,h,_=>CP
 |p::P,w::vs,0,m,nd,h1,h2,hk=>by
  simp at h1 h2;subst h1;subst h2;show arO ((p,w)::ž) m p=_;rw[iU bindC (aHE λv hv=>apN.1 aO1.1) MO];simp
 |p::P,w::vs,i+1,m,nd,h1,h2,hk=>by
  rw[RE (arO ((p,w)::ž) m x=_) bindC];exact aHG (i:=i) apN.2 (a! h1) (a! h2) hk
abbrev start(N:gM)D?:St:=vs.map some++agG (N.length-vs.length) none
abbrev mi(fR:tf)D3 UT(N:gM)(qual:Str)(scope:Scope)(f:Addr)(cd:Value)UA:bY where
 prog:=P
 w:=w
 K:=K
 mg:=mg
 base:=base
 A:=A.deeper o!
 N:=N
 s₀:=s
 H₀:=H
 env:=o!
 outer:=outer
 stack:=Ţ
 ex:=[]
 calm:=true
 fn:=x9
 fP:=[]
 s6:=λe s'=>nD (model P w) (A.deeper o!) (leaving o! e) (cQ s'' (fR outer H s E e s'')) (λe' s''=>fR outer H s E e' s'') s'
def aH5{sc:Scope}br eo(h:B9=pJ):∃c,mH (cellsFrom n sc.names []) x=mu:=by
 rw[vS q (PySem.W.cellsFrom_some sc.names n [] (Ω h)) (Option.isSome_iff_exists.mp q)]
def aVO{fR:tf}Li Pk aoB aoq vd Pf{s s1:Shared}iP BL BK xy
  azJ(hd:aLC)(e0:Kb P w K mg base A outer s H)(hl:aDv)(r:Rh)
  (x:InCallC s s.heap.objs.size (bindL (o!).kindOf VY (WQ _)) (cellsFrom iV scope.names []) (bindC (o!).kindOf VY (WQ _)) s1):
  Inv (mi fR P w K mg base N qual scope f cd A outer s H E) [] (ajD N) H s1:=by
 have iJ:Vj N.length:=by rw[uK (À S.pre) List.length_take];omega
 obtain⟨h1,tk,rfl,hk⟩:=x.done;rw[t7 alZ (∀b:Addr,b∉(mi fR P w K mg base N qual scope f cd A outer s H E).ex) (abu b z (ē b ([]:cY) z)) ⟨⟨e0.mod,S.kind,rfl,rfl,fe,mE y z c h1 h2,c! y hy,je y c _ h,λ_=>hd,Around.frames_deeper e0.frames,aA (gg rfl),V4 b z z (alZ b),e0.bs,e0.aaB,λb _ _=>alZ b,V4 b z z (alZ b),e0.Ap,e0.Ur⟩,
  rfl,e0.bare,iN.kept hk,⟨_,x.toInCall.ns,yh i y v h1 h2 h3⟩,λy c h=>⟨_,x.cell y c h⟩,e0.bz.fresh fe,cG y c h,abu p hp (ē p ([]:f_) hp),e0.bz.kept hk,?_⟩]
 ·exact name_of_addr x.apart (PySem.mem_of_lookup h1) (PySem.mem_of_lookup h2)
 ·have hy:Ã y pJ\/Ã y E1:=hy;rcases hy with hy | hy
  ·exact aH5 hy
  ·rw[WY (S.a1u _ (PySem.mem_of_lookup hy))]
 ·exact ar7 (x.above y c aNT)
 ·rw[bJ hi (i<vs.length) (by
   unfold start at h2;by_cases hi:i<vs.length
   ·exact hi
   ·rw[aAF XT]at h2;rw[aAP h2];split at h2<;>cases h2) ha (AN vs) (by
   unfold start at h2;rw[agL XT,gI]at h2;cases e:vs[i]? with
   |none=>rw[e]at h2;cases h2
   |some a=>rw[e]at h2;cases h2;rfl)]
  obtain⟨u,hu,rv⟩:=r.get ha
  rw[bJ hp (jz ps y) (by
   rw[←S.pre,List.getElem?_take_of_lt aD];exact h1) aQ4 ps.Nodup (by rw[cA S.pre (S.nd.sublist (List.take_sublist _ _))])]
  rw[De u rv];rcases S.par y (List.mem_of_getElem? hp) with k | k
  ·exact F6 k (aHF aQ4 hp hu k)
  ·obtain⟨c,e⟩:=aH5 (n:=iV) k;refine aA ⟨Ω k,c,e,?_⟩;have q:=x.cell y c e;rw[bG (aHG aQ4 hp hu (by show scope.names.lookup y≠_;rw[k];decide)) q q]
 ·exact e0.bz.fresh (ar7 (x.above y c aNT))
 ·unfold start;show _=N.length;rw[List.length_append,d9,List.length_replicate];omega
def a3b{fR:tf}Li d6{f:Addr}{name qual:Str}{params:Arguments}aaL aft{dV kV doc pm gm ct oc:Value}{an od:Y7}
  {O3:Array gK}Pk{sp:xr}(lk:arz f ⟨oc,od,.func (abZ name params body scope dV pm an gm ct),O3⟩)(zB:aq9 K gm qual)azJ
  (len:∀vs H Q E,sp vs H Q E->aDv)
  (a3c:∀aoQ lu jX D? zP(E:d_),r5 (A.deeper (envOfC qual scope s.heap.objs.size f gm))->sp vs H Q E →
   ∃t,s_ (mi fR P w K mg base N qual scope f gm A outer s H E) body t/\t { nx:=cQ H' (oJ .ah),eO:=Q} (ajD N) H):
  rJ P w K mg base fR (k+1) f (abZ name params body scope dV pm an gm ct) ps sp:=by
 rw[iC len (λA outer s H args us vs Q E hr e0 hb r O4=>?_)];rw[sy hl (len _ _ _ _ O4) iu acs (e0.mod.ac9.keeps λb o e=>(e0.bs b o e).1) lim s.heap.NoLimit (e0.mod.nolimit.keeps λb o e=>(e0.bs b o e).1)]
 rw[cV ani (∀y∈VY,Ã y.1 Cp \/ (Ã y.1 pJ/\AZ (mH (cellsFrom iV scope.names []) y.1))) (fun⟨n,v⟩ hy=>by
  rcases S.par n (List.of_mem_zip hy).1 with q | q
  ·exact Ω q
  ·exact r_ q (PySem.W.cellsFrom_some _ _ _ (Ω q))) (codeAny_call_function hr.depth (iu _ _ lk) rfl S.co S.gen rfl (PySem.W.codeRec_of iu zB) (hb _ _ _ _ ?_))]
 refine wpAny_newFunctionEnv_cells S.kind ani (je env he s1 x);subst he;rw[iC (lim.keeps x.toInCall.keep) (codeAny_func ?_)];rw[ahG t ht hq (a3c A outer s H vs Q E (hr.deeper _) O4) I (Inv (mi fR P w K mg base N qual scope f gm A outer s H E) [] (ajD N) H s1) (aVO S hr.hd e0 hl r x) (S5 (ht [] s1 (ajD N) H _ I hq) (cG fl s' hs) e s' hs hs)]
 have fin:∀{σ':St}{H':aP}m9 qP,abS (mi fR P w K mg base N qual scope f gm A outer s H E) [] H' s'->oA->oJ v->aw9 outer P w H s Q u s':=
  λ{σ' H' v u} J rv q=>⟨v,H',J.os,J.bare,J.base,J.bz,rv,q⟩
 cases fl with
 |ret u=>
  obtain⟨v,σ',H',J,rv,q⟩:=hs;exact fin J rv q
 |next=>
  rw[Sp σ' H' J q hs (fin (v:=V.ah) (u:=Value.none) J rfl q)]
 |brk=>
  obtain⟨_,_,_,q⟩:=hs;rw[Cj q]
 |cont=>
  obtain⟨_,_,_,q⟩:=hs;rw[Cj q]
universe L2
namespace L2
open PySem PySem.Spec PyProof.Rows
section
variable {X:bY}{x:Str}{p pos:Pos}{e:Expr}{es:dI}{t:nV}{id T:String}{r:di->aP->j0}
abbrev aFu(r:di->aP->j0)(t:nV):TE:=MR H vs (r vs H1 Q)
def aw3(hc:Jd id r)apc(hv:Lz=abj id)afu aoT
  US:I7 (c_ x p) (e::es) pos (aFu r t):=by
 rw[qc Q (Vo (yn I hg hm hv ?_ hn KL))];exact PyProof.Rows.callWith_builtin1 (RU (ha pos pins s σ H _ I h) us vs (hc pins s1 σ H1 vs us Q aC r1 ay)) he iJ
def aVP(hc:AJ (dH T) r)apc(hv:Lz=d7 dH T)afu aoT
  US:I7 (c_ x p) (e::es) pos (aFu r t):=by
 rw[qc Q (Vo (yn I hg hm hv ?_ hn KL))];exact apZ (RU (ha pos pins s σ H _ I h) us vs (hc pins s1 σ H1 vs us Q aC r1 ay)) he iJ
universe zE
universe L2
namespace L2
open PySem PySem.Spec PyProof.Rows
section
variable {κ:Type} [Ca]
abbrev Gj afN:Ih:=Ho (kvs.find? (Nb (j7=k))).map
abbrev putK afN(v:V):Eh:=
 agY (ag5 kv (j7=k)) (kvs.map (λkv=>aj5 (j7=k) v kv)) (kvs++[(k,v)])
abbrev Oz afN:Eh:=kvs.filter (qu kv j7 k)
def awv{p:κ×V}{r:Eh}{k:κ}(e:p.1=k):Gj (p::r) k=uD p:=Qw Gj e
def aww{p:κ×V}{r:Eh}{k:κ}(e:¬p.1=k):Gj (p::r) k=Gj r k:=Qw Gj e
def aH6 qT:∀kvs:Eh,(ag5 kv (j7=k))=qm xX
 |[]=>rfl
 |p::r=>by
  rw[mF List.any_cons e (p.1=k)]
  ·simp only[awv e,aPe,Bool.true_or,Option.isSome_some]
  ·rw[aww e,aO7,Bool.false_or];exact aH6 k r
def aFv afN(v:V):gE (z8 k v) (kvs.length+1):=by
 unfold putK;split
 ·rw[n? d9]
 ·rw[List.length_append,zE,gx];omega
def s5.adE{o:Ih}{u:gK}(r:s5 o u):o.isSome=u.isSome:=by
 cases o with
 |none=>cases u with
  |none=>rfl
  |some _=>exact(V1 r).elim
 |some _=>cases u with
  |none=>exact(V1 r).elim
  |some _=>rfl
def s5.getD{o:Ih}{u:gK}{d:V}{d':Value}(r:s5 o u)(rd:RelV d d'):RelV (o.getD d) (u.getD d'):=by
 cases o with
 |none=>cases u with
  |none=>exact rd
  |some _=>exact(V1 r).elim
 |some _=>cases u with
  |none=>exact(V1 r).elim
  |some _=>exact r
def jW.val UZ qT:s5 xX (VZ vs):=by
 unfold jW at r
 induction r with
 |nil=>exact True.intro
 |@cons p q ps cH h t ih=>
  rw[yg h];rw[lE (p.1=k)]
  ·rw[bJ e' (q.1=k) ahB b (VZ (q::cH)=uD q) (Qw valueAt e')]
   rw[ek (awv e) b h2]
  ·rw[bJ e' (¬q.1=k) (cK (e aio)) b (VZ (q::cH)=VZ cH) (Qw valueAt e')]
   rw[ek (aww e) b ih]
def jW.any UZ qT:(ag5 kv (j7=k))=vs.any (Nb (j7=k)):=by
 unfold jW at r
 induction r with
 |nil=>rfl
 |cons h t ih=>rw[List.any_cons,List.any_cons,ih,h.1]
def jW.azg UZ qT aa3 D_:
  jW (SH kv (aj5 (j7=k) y kv)) (vs.map λkv=>aj5 (j7=k) u kv):=by
 unfold jW at r⊢
 induction r with
 |nil=>rw[v8]
 |@cons p q ps cH h t ih=>
  rw[bB,bB];refine b4 ?_ ih;rw[yg h];rw[lE (p.1=k)]
  ·rw[yL,jx ahB];rw[cB h1 bg]
  ·rw[wF,IA z (e aio)];rw[cB h1 h2]
def jW.put UZ qT aa3 D_:jW (z8 k y) (stored vs k u):=by
 unfold putK stored;rw[r.any k];rw[q_ e (vs.any (Nb (j7=k)))]
 ·rw[ek yL yL (r.azg k bg)]
 ·rw[ek wF wF (Paired.snoc r (kR bg))]
def jW.drop UZ qT:jW (Oz kvs k) (without vs k):=by
 unfold jW at r⊢;unfold Oz without
 induction r with
 |nil=>rw[v8]
 |@cons p q ps cH h t ih=>
  rw[yg h];rw[aBV List.filter_cons];rw[lE (p.1=k)]
  ·rw[bJ a (¬(Í (p.1≠k))) IU b (¬(Í (q.1≠k))) (aK ahB)]
   rw[ek (if_neg a) (if_neg b) ih]
  ·rw[gq e' (¬q.1=k) (cK (e aio)) a (Í (p.1≠k)) IU b (Í (q.1≠k)) (aK e')]
   rw[ek (if_pos a) (if_pos b) (b4 ⟨h1,h2⟩ ih)]
def jW.length UZ:aLt:=aCT
def aH7 afN:gE (Oz kvs k) kvs.length:=FL
universe zE
def Gn u? D! qP(r:xM (kV k)):aO ((Dj P w).is k u):=by
 cases k with
 |inl i=>rw[sx e (AO (u=Wd t) r)];rw[fq e (aTV P w i t)]
 |inr x=>rw[sx e (AO (u=We x) r)];rw[fq e (aTW P w x t)]
def aHh u?:∀{ks:qi}BK,SE auf->ItemsAre (Dj P w) ks us
 |[],_,r=>by rw[zD]at r;cases r;rw[v8]
 |k::ks,_,r=>by
  rw[bB]at r;cases r with
  |cons h t=>exact b4 (Gn h) (aHh t)
noncomputable abbrev KT jX:auV->cO apx:=Paired λp q=>p.1=q.1/\H q.2.1=iR (p.1.map kV)/\RelV p.2 q.2.2
def KT.val iP Ld aos(k:qi):s5 xX (Ho (WR xs).map):=by
 induction r with
 |nil=>exact True.intro
 |@cons p q ps cH h t ih=>
  obtain⟨h1,_,h2⟩:=h;rw[lE (p.1=k)]
  ·rw[bJ e' (q.1=k) ahB b (WR (q::cH)=uD q) (Qw atKey e')]
   rw[ek (awv e) b h2]
  ·rw[bJ e' (¬q.1=k) (cK (e aio)) b (WR (q::cH)=WR cH) (Qw atKey e')]
   rw[ek (aww e) b ih]
def KT.azg iP Ld aos(k:qi)aa3 D_:
  KT H (SH kv (aj5 (j7=k) y kv)) (xs.map (putAt k u)):=by
 induction r with
 |nil=>rw[v8]
 |@cons p q ps cH h t ih=>
  rw[bB,bB];refine b4 ?_ ih;rw[ahW h1 h3 h];unfold putAt;rw[lE (p.1=k)]
  ·rw[yL,jx ahB];rw[bQ h1 h2 bg]
  ·rw[wF,IA z (e aio)];rw[bQ h1 h2 h3]
def KT.put iP Ld aos(k:qi){b:Addr}aa3(hb:H b=iR ajE)D_:
  KT H (z8 k y) (storedH xs k b u):=by
 have e:(ag5 kv (j7=k))=qm (WR xs):=by
  rw[aH6,(r.val k).adE,Option.isSome_map]
 unfold putK storedH;rw[mF e q (AZ (WR xs))]
 ·rw[ek (if_pos q) (if_pos q) (r.azg k bg)]
 ·rw[arZ (if_neg q) q (Paired.snoc r ⟨rfl,hb,bg⟩)]
def KT.keeps{H H':aP}Ld aos(ht:∀b ys,H b=iR ys->H' b=iR ys):apy H':=
 ar6 r _ _ z ⟨z.1,ht _ _ z.2.1,z.2.2⟩
section
variable {P:Program}{w:World}{H:aP}{h:Heap}{a:Addr}
def aKH{u:jn}Lg(e:u9 H a u):sU P w H h a u:=e.ok ok
def aRy Po Lg(e:u9 H a (.bA kvs)):SO/\H9 a/\∃vs,YS/\h.DictOf (Dj P w) a vs:=
 IF P w H h a (.bA kvs) (aKH ok e)
def amy Po Lg afY:SO/\H9 a/\∃vs,YS/\h.DictOf (Dj P w) a vs:=aRy ok (Ω e)
def aFw{ks:qi}Lg(e:H a=iR auf):(ajc P w).is h ks a:=by
 obtain⟨_,cf,r,o,h1,h2,n,h3⟩:=(IF P w H h a (aQ auf) (ok a _ e))
 exact⟨o,cf.toArray,n,h1,h2,h3,a! (aHh r)⟩
def aRL Ld Lg(e:u9 H a (.dT kvs)):SO/\H9 a ∧
  ∃xs,apy H/\h.DictOfH (ajc P w) a xs:=by
 obtain⟨z,y,xs,r,o,es,ep,h1,h2,h3,h4,h5⟩:=(IF P w H h a (.dT kvs) (aKH ok e))
 rw[uJ ⟨z,y,xs,r,o,es,ep,h1,h2,h3,h4,c! x hx,h5⟩ all (∀{l:auV}{m:apx},KT H l m->∀x∈m,(ajc P w).is h x.1 x.2.1) (by
  intro l m q
  induction q with
  |nil=>intro x hx;exact nomatch hx
  |@cons p q ps cH hq t ih=>
   intro x hx;rcases aPC with e | hx
   ·rw[fq e (aFw ok (by rw[cA hq.1 hq.2.1]))]
   ·exact ih x hx)]
 exact all r x hx
def aKy Ld Lg aov:SO/\H9 a ∧
  ∃xs,apy H/\h.DictOfH (ajc P w) a xs:=aRL ok (Ω e)
universe zE
abbrev Bf Px(y:V)(r:Ih):Prop:=
 (∃kvs k,u9 H a (.bA kvs)/\y=kV k/\r=xX)\/∃kvs k b,u9 H a (.dT kvs)/\y=Δ b/\H b=iR ajE/\r=xX
abbrev Fu Px(y v:V)(H':aP):Prop:=
 (∃kvs k,H a=m_ .bA/\y=kV k/\ar3/\H'=ro a .bA (z8 k v)) ∨
 ∃kvs k b,H a=m_ .dT/\y=Δ b/\H b=iR ajE/\ar3/\H'=ro a .dT (z8 k v)
def Bf.k iP jo Po D! afY:Bf H a (kV k) xX:=Ω (akD kvs k (Ω e))
def Bf.t afH Ld{k:qi}aov(eb:H b=iR ajE):Bf H a (Δ b) xX:=aA ⟨kvs,k,b,Ω e,rfl,eb,rfl⟩
def Fu.k iP jo Po D! m9 afY(hl:ar3):Fu H a (kV k) v (ro a .bA (z8 k v)):=Ω ⟨kvs,k,e,rfl,hl,rfl⟩
def Fu.t afH Ld{k:qi}m9 aov(eb:H b=iR ajE)(hl:ar3):
  Fu H a (Δ b) v (ro a .dT (z8 k v)):=aA ⟨kvs,k,b,e,rfl,eb,hl,rfl⟩
section
variable {X:bY}{pins:f_}{σ:St}{H:aP}{s:Shared}{a:Addr}{y v:V}{u r:Value}{o:Ih}{A:Around}{E:iQ}
def Inv.big bZ:U6 sysModules:=by
 rw[t6 h (U6 mainGlobals) (aBL).lt (Nat.lt_trans aZ h)]
def aVQ afJ bZ(g:Bf H a y fU)D_(h:∀w' s',Nc->akp v->Q w' s'):
  M7 A (getItem (Δ a) u):=by
 rcases g with⟨kvs,k,e,ey,l⟩ | ⟨kvs,k,b,e,ey,eb,l⟩
 ·subst ey;rw[Yx z vs (PL e)];rw[SW w' hw nT (as7 v o (VZ vs) (by rw[au l AE])) (wpAny_getItem_of (Gn bg) dd.mapOf hw (h w' _ lN nT))]
 ·subst ey;cases(RL b bg)
  rw[Yx z xs (WS e)];rw[E8 w' hw nT (as7 v o (Ho (WR xs).map) (by rw[au l AE])) p hp zF (Option.map_eq_some_iff.mp hw)];rw[Õ (wpAny_getItem_heap þ (Ź eb) dd hp ?_) zF (h w' _ lN nT)]
def a4X afJ afx D_(h:∀s',Nc->Q (qg o.isSome) s'):
  M7 A (compareOp .In u (Δ a)):=by
 rcases g with⟨kvs,k,e,ey,l⟩ | ⟨kvs,k,b,e,ey,eb,l⟩
 ·subst ey;rw[Jt z hd vs dd (PL e) (wpAny_in_of (Gn bg) hd dd.mapOf ?_)];rw[MH (AE).adE l (h _ lN)]
 ·subst ey;cases(RL b bg)
  rw[Jt z hd xs dd (WS e) (wpAny_in_heap þ (Ź eb) hd dd ?_)];rw[fJ q (AE).adE Option.isSome_map q];rw[MH q l (h _ lN)]
def aZt afJ afx D_(h:∀s',Nc->Q (qg (! o.isSome)) s'):
  M7 A (compareOp .NotIn u (Δ a)):=by
 rcases g with⟨kvs,k,e,ey,l⟩ | ⟨kvs,k,b,e,ey,eb,l⟩
 ·subst ey;rw[Jt z hd vs dd (PL e) (wpAny_notIn_of (Gn bg) hd dd.mapOf ?_)];rw[MH (AE).adE l (h _ lN)]
 ·subst ey;cases(RL b bg)
  rw[Jt z hd xs dd (WS e) (wpAny_notIn_heap þ (Ź eb) hd dd ?_)];rw[fJ q (AE).adE Option.isSome_map q];rw[MH q l (h _ lN)]
def ad7 afm BE{ob:jn}bZ(Dw:ayz (H a))(hs:arf a h')(he:AG q ė q)(new:Ry (q7 a ob) h' a ob):
  Xp (q7 a ob) s h':=
 ar9 a e a Dw (Ω rfl) (RV b q z hs z) he new
def am5 u?{H':aP}afm Po{vs:Ë}(z:SO)(hd:H9 a)(rel:YS)(dd:h'.DictOf (Dj P w) a vs):
  sU P w H' h' a (.bA kvs):=⟨z,hd,vs,rel,dd⟩
def aVR{H':aP}Pd(hu:aAc 1)bZ(g:Fu H a y v H')D_(rv:RelV v r)(h:∀s',QV->Q () s'):
  M7 A (setItem (Δ a) u r):=by
 rcases g with⟨kvs,k,e,ey,l,aN⟩ | ⟨kvs,k,b,e,ey,eb,l,aN⟩
 ·subst ey aN;rw[Yx z vs (aks e)]
  rw[ur hz aB6 (by rw[aqC z]) hl (aup (z8 k v)) (by rw[eg (aFv kvs k v)]) (wpAny_setItem_pairs (hsz:=hz) (Gn bg) dd λh' u0 hs=>h _ ?_)];have he:AG q ė q:=let⟨q,_,_,hq,_⟩:=u0;⟨q,hq⟩
  exact ad7 I (by rw[V2 e]) hs he (am5 hl hd (rel.put k rv) u0)
 ·subst ey aN;cases(RL b bg)
  rw[Yx z xs (aKy I.bz e)]
  rw[ur hz LB (by rw[cA (Paired.length rel) z]) hl (aup (z8 k v)) (by rw[eg (aFv kvs k v)]) (wpAny_setItem_heap (hsz:=hz) þ (Ź eb) dd λh' u0 hs=>h _ ?_)];obtain⟨q,es,ep,hq,h2,h3,h4,_,h5⟩:=u0;refine ad7 I (by rw[V2 e]) hs ⟨q,hq⟩ ⟨hl,hd,_,(rel.put k eb rv).keeps (cG c ys ec),q,es,ep,hq,h2,h3,h4,h5⟩;rw[gZ (aKD ec e (λz=>nomatch z)) ec]
universe zE
section
variable {X:bY}{pins:f_}{σ:St}{H:aP}{s:Shared}{a:Addr}{kvs:qV}{k:Key}{u:Value}{A:Around}{E:iQ}
def a73 Pd bZ azF(l:AZ xX)(h:∀s',kO (ro a .bA (Oz kvs k)) s'->Q () s'):
  M7 A (delItem (Δ a) u):=by
 rw[Jt z hd vs dd (aks e) (wpAny_delItem_slot dd.typeIs aZ PySem.F.slot_dict_delitem
  (call_meetsIn PySem.F.slot_dict_delitem dd.typeIs PySem.F.entry_dict_delitem (PySem.F.args_dict_delitem_2 _ _) (meets_dict_delitem_pairs qp a (Gn bg)) ⟨vs,dd,by rw[aqC z],by rw[cA (AE).adE l],λh' u0 hs=>h _ ?_⟩))]
 have he:AG q ė q:=let⟨q,_,_,hq,_⟩:=u0;⟨q,hq⟩
 exact ad7 I (by rw[V2 e]) hs he (am5 (ÿ (aH7 kvs k) z) hd (rel.drop k) u0)
def X1 m9{more:b7}rY bZ azF(l:xX=fU)(hm:more=[]\/∃x,more=[x])
  (h:∀w' s',kO (ro a .bA (Oz kvs k)) s'->akp v->Q w' s'):ß A (fG "dict.pop") (Δ a::u::more) Q E:=by
 rw[Yx z vs (aks e)];obtain⟨w',hw,nT⟩:=as7 v o (VZ vs) (by rw[cA l AE])
 rw[ur hp (AZ (keyPart u)) (by
  cases k with
  |inl i=>rw[sx q (AO (u=Wd t) bg)];subst q;rfl
  |inr x=>rw[sx q (AO (u=We x) bg)];subst q;rfl) ha (argsOk "dict.pop" (sD (Δ a::u::more))) (by
  rcases hm with q | ⟨x,q⟩
  ·rw[fq q (PySem.F.args_dict_pop_2 _ _)]
  ·rw[fq q (aNY _ _)]) (call_meetsIn PySem.F.slot_dict_pop dd.typeIs PySem.F.entry_dict_pop ha (meets_dict_pop_there qp a (Gn bg) more hm hp)
  ⟨vs,w',dd,by rw[aqC z],hw,λh' u0 hs=>h w' _ ?_ nT⟩)]
 have he:AG q ė q:=let⟨q,_,_,hq,_⟩:=u0;⟨q,hq⟩
 exact ad7 I (by rw[V2 e]) hs he (am5 (ÿ (aH7 kvs k) z) hd (rel.drop k) u0)
def a1v{r:Value}rY bZ azF(l:bR xX)(h:∀s',Nc->Q r s'):
  ß A (fG "dict.pop") [Δ a,u,r] Q E:=by
 rw[Yx z vs (aks e)];rw[bJ hn (bR (VZ vs)) (s5.none_of (by rw[cA l AE])) hp (AZ (keyPart u)) (by
  cases k with
  |inl i=>rw[sx q (AO (u=Wd t) bg)];subst q;rfl
  |inr x=>rw[sx q (AO (u=We x) bg)];subst q;rfl)]
 exact call_meetsIn PySem.F.slot_dict_pop dd.typeIs PySem.F.entry_dict_pop (aNY _ _) (meets_dict_pop_default qp a (Gn bg) hd hp r) ⟨vs,dd,hn,h _ lN⟩
def a3d rY bZ(e:u9 H a (.bA kvs))(h:∀t s',Nc->Q (η kvs.length t) s'):ß A (fG "len") [Δ a] Q E:=by
 rw[Jt z hd vs dd (PL e) (call_len_dict hd dd (by rw[←rel.length];rw[sizeLine_eq]at z;omega) ?_)];rw[aqC (h _ _ lN)]
universe zE
def aTX Py jo{y:V}{o:Ih}afx:asA (Δ a) "dict" :=by
 rcases g with⟨kvs,k,e,_,_⟩ | ⟨kvs,k,b,e,_,_,_⟩
 ·obtain⟨_,_,vs,_,dd⟩:=PL e;exact dd.typeIs
 ·obtain⟨_,_,xs,_,dd⟩:=WS e;exact dd.typeIs
section
variable {X:bY}{o i e value:Expr}{pos pos' GJ:Pos}{td ty zp:TE}
universe zE
def aH8 u? iP BD(hb:aLr):sU P w H (h.push (Ip (dH "dict") (YZ #[]))) h.objs.size (.bA []):=
 ⟨q4,beq_eq_false_iff_ne.mpr (Ne.symm aON),[],c6,Heap.DictOf.new h⟩
def aXs u? iP BD(hb:aLr):sU P w H (h.push (Ip (dH "dict") (YZ #[]))) h.objs.size (.dT []):=
 ⟨q4,beq_eq_false_iff_ne.mpr (Ne.symm aON),[],c6,_,#[],0,IV,PV rfl,rfl,rfl,List.nodup_nil⟩
abbrev a1w:TE:=λ_ H Q=>∀p,sN->Q (Δ p) (ro p .bA [])
section
variable {X:bY}{pos:Pos}
def aW5:g9 (.Dict [] [] pos) a1w:=λpins s σ H Q I h=>
 wpAny_Dict_empty (RA (I.laid (a:=s.heap.objs.size) (o:=.bA []) (t':=s.toks) (Å _ _ q q) fe (aH8 s.heap I.big)) (h _ Nt))
universe zE
abbrev am6:gO TE TE->St->aP->cO (gO V V->dS)
 |[],_,H,Q=>Q [] H
 | (tk,zp)::r,σ,H,Q=>tk σ H (r6 (zp σ H1 (mq y (am6 r σ H2 λps H3=>Q ((x,y)::ps) H3))))
noncomputable abbrev aKw:gO V V->cO (gO Value Value):=Paired λp q=>RelV p.1 q.1/\RelV p.2 q.2
abbrev aeU gp(pos:Pos)(keys:ai2)(values:dI)(KS:gO TE TE):Prop:=
 ∀o7(Q:gO V V->dS),ja->am6 KS σ H Q →
  MZ (evalPairs (pairTrees keys values X.env pos)) vs s' (∃ps H',QV/\aKw ps vs/\oJ ps)
def aZv l? D9:aeU X pos [] [] []:=PU s σ H Q I h (pairTrees_nil_walk ⟨[],H,I,c6,h⟩)
def aW6 l? D9{k v:Expr}{ks:ai2}{vs:dI}{tk zp:TE}{KS:gO TE TE}aMK(hr:aeU X pos ks vs KS):
  aeU X pos (fE::ks) (v::vs) ((tk,zp)::KS):=λpins s σ H Q I h=>
 aPn (yQ (hk pins s σ H _ I h) u s1 x H1 aC rx ay (Zb (hv pins s1 σ H1 _ aC ay) λw2 s2 ⟨y,H2,bh,bg,a_⟩=>
  yQ (hr pins s2 σ H2 _ bh a_) ws s3 ps H3 dY rel cz ⟨(x,y)::ps,H3,dY,b4 ⟨rx,bg⟩ rel,cz⟩))
abbrev Oi(kvs more:qV):qV:=more.foldl (λacc kv=>putK acc j7 kv.2) kvs
def jW.merge:∀{more:qV}{rs:Ë}Po{vs:Ë},jW more rs->YS->jW (Oi kvs more) (merged vs rs):=by
 intro more rs kvs vs r;unfold jW at r
 induction r generalizing kvs vs with
 |nil=>intro q;exact q
 |@cons p q ps cH h t ih=>
  intro r0
  rw[t6 e (jW (z8 p.1 p.2) (stored vs q.1 q.2)) (by
   have:=r0.put p.1 h.2;rw[cA h.1 this]) (ih e)]
def vw:∀(more kvs:qV),gE (Oi kvs more) (kvs.length+more.length)
 |[],kvs=>by rw[Q3 (kvs.length≤kvs.length+0)]
 |p::r,kvs=>by
  rw[mG (vw r (z8 p.1 p.2)) (aFv kvs p.1 p.2)];show gE (Oi (z8 p.1 p.2) r) _;rw[n? zE]
def Bn u?:∀Po{ws:gO Value Value},aKw (SH kv (kV j7,kv.2)) ws->∃rs,Carries (Dj P w) ws rs/\jW kvs rs
 |[],_,r=>by rw[zD]at r;cases r;rw[bQ [] True.intro c6]
 |p::kvs,_,r=>by
  rw[bB]at r;cases r with
  |@cons a b as bs h t=>
   obtain⟨rs,c,q⟩:=Bn (P:=P) (w:=w) t;rw[abP b1 b2 b ((p.1,b2)::rs) (lK (Gn h.1) c) (b4 (kR h.2) q)]
abbrev a3e(KS:gO TE TE):TE:=uI (∀p,sN->am6 KS σ (ro p .bA []) (mq ps (H2 p=d7 .bA []/\∃kvs:qV,ps=kvs.map (λkv=>(kV j7,kv.2))/\kvs.length≤15/\Q (Δ p) (Jx H2 p .bA (Oi [] kvs)))))
def aZw l? D9{keys:ai2}{values:dI}{KS:gO TE TE}(h:aeU X pos keys values KS)(aeW:aO aPq)(hl:keys.length=values.length)(h0:keys≠[])
  (aEr:keys.length≤15):Fy .Dict keys values (a3e KS):=by
 rw[FI Q q];rw[i6 hn (Vi ap0) aC (I.laid (a:=s.heap.objs.size) (o:=.bA []) (h':=U4 (dH "dict") (YZ #[])) (t':=s.toks) (Å _ _ q q) fe (aH8 s.heap I.big)) (wpAny_Dict_walk (knd:=qp) aeW hl h0 aEr (FU (Ļ _ σ _ _ aC (q _ hn)) ws ⟨ps,H2,bh,rel,e,kvs,ep,lk,a_⟩))];subst ep;obtain⟨rs,c,rk⟩:=Bn (P:=X.prog) (w:=X.w) rel;obtain⟨z,hd,a9h,r0,dd⟩:=amy bh.bz e;cases r0;rw[uJ ⟨rs,c,dd,λh' u0 hs=>RA ?_ a_⟩ hz (aup (Oi [] kvs)) (by
  rw[fJ h1 (vw kvs []) gx h1];rw[n? sizeLine_eq])]
 have he:AG q aN5 q:=let⟨q,_,_,hq,_⟩:=u0;⟨q,hq⟩
 exact ad7 bh (by rw[V2 e]) hs he (am5 hz hd (rk.merge c6) u0)
structure aa gp(o:Expr)(m:Str)(apos:Pos)UC(dc:Pos):Prop where
 base:apD o m=Hi
 eY:g5 ((Y5 [e]).all (λx=>! x.1)&&(apA dc []).all (λx=>ã x.1)
  && iY (lI ([e]:dI)+lI ([]:Y4)+(aAi ([]:Y4) 0 1)<30))
 line:aEb
 trees:Y5 [e]=[aco]
structure M2 gp(o:Expr)(m:Str)(apos:Pos)(e f:Expr)(dc:Pos):Prop where
 base:apD o m=Hi
 eY:g5 ((Y5 [e,f]).all (λx=>! x.1)&&(apA dc []).all (λx=>ã x.1)
  && iY (lI ([e,f]:dI)+lI ([]:Y4)+(aAi ([]:Y4) 0 1)<30))
 line:aEb
 trees:Y5 [e,f]=[aco,akY f]
abbrev Uy Px:Prop:=(∃kvs,u9 H a (.bA kvs))\/∃kvs,u9 H a (.dT kvs)
def aep Py jo bZ(d:Uy H a):
  asA (Δ a) "dict" /\ (∀b,IH=Δ b->∃ob,Lp ob/\bR ob.dict)/\H9 a:=by
 rcases d with⟨kvs,e⟩ | ⟨kvs,e⟩
 ·obtain⟨_,hd,vs,_,dd⟩:=PL e;rw[eV dd.typeIs (c! b q) hd];cases q;obtain⟨ob,_,_,h1,h2,_⟩:=dd;rw[bQ ob h1 h2.2.1]
 ·obtain⟨_,hd,xs,_,dd⟩:=WS e;rw[eV dd.typeIs (c! b q) hd];cases q;obtain⟨ob,_,_,h1,h2,_⟩:=dd;rw[bQ ob h1 h2.2.1]
section
variable {X:bY}{pins:f_}{σ:St}{H:aP}{s:Shared}{a:Addr}{y d:V}{u r:Value}{o:Ih}{A:Around}{E:iQ}
def a1x afJ afx D_(h:∀w' s',Nc->akp (o.getD .ah)->Q w' s'):
  ß A (fG "dict.get") [Δ a,u] Q E:=by
 rcases g with⟨kvs,k,e,ey,l⟩ | ⟨kvs,k,b,e,ey,eb,l⟩
 ·subst ey;rw[Jt z hd vs dd (PL e) (call_meetsIn PySem.F.slot_dict_get dd.typeIs PySem.F.entry_dict_get (aNZ _) (meets_dict_get qp a (Gn bg) hd) ⟨_,dd.mapOf,h _ _ lN ?_⟩)];rw[fX l ((AE).getD rfl)]
 ·subst ey;cases(RL b bg)
  rw[Jt z hd xs dd (WS e) (call_meetsIn PySem.F.slot_dict_get dd.typeIs PySem.F.entry_dict_get (aNZ _) (meetsH_dict_get (arx qp) a b hd) ⟨þ,k,xs,Ź eb,dd,h _ _ lN ?_⟩)]
  rw[fX l ((AE).getD rfl)]
def a1y afJ afx D_(rd:RelV d r)(h:∀w' s',Nc->akp (o.getD d)->Q w' s'):
  ß A (fG "dict.get") [Δ a,u,r] Q E:=by
 rcases g with⟨kvs,k,e,ey,l⟩ | ⟨kvs,k,b,e,ey,eb,l⟩
 ·subst ey;rw[Jt z hd vs dd (PL e) (call_meetsIn PySem.F.slot_dict_get dd.typeIs PySem.F.entry_dict_get (aN0 _ _) (meets_dict_get_default qp a (Gn bg) hd r) ⟨_,dd.mapOf,h _ _ lN ?_⟩)];rw[fX l ((AE).getD rd)]
 ·subst ey;cases(RL b bg)
  rw[Jt z hd xs dd (WS e) (call_meetsIn PySem.F.slot_dict_get dd.typeIs PySem.F.entry_dict_get (aN0 _ _) (meetsH_dict_get_default (arx qp) a b hd r) ⟨þ,k,xs,Ź eb,dd,h _ _ lN ?_⟩)]
  rw[fX l ((AE).getD rd)]
universe zE
abbrev a1z(td ty:TE):TE:=uI (td σ H (r6 (∃a,x=Δ a/\Uy H1 a/\ty σ H1 (mq y (∃o,Bf H2 a y o/\Q (o.getD .ah) H2)))))
abbrev a1A(td ty tx:TE):TE:=uI (td σ H (r6 (∃a,x=Δ a/\Uy H1 a/\ty σ H1 (mq y (tx σ H2 λz H3=>∃o,Bf H3 a y o/\Q (o.getD z) H3)))))
abbrev a1B(td ty:TE):TE:=uI (td σ H (r6 (∃a,x=Δ a/\Uy H1 a/\ty σ H1 (mq y (∃kvs k v,H2 a=m_ .bA/\y=kV k/\xX=fU/\Q v (Jx H2 a .bA (Oz kvs k)))))))
abbrev a1C(td ty tx:TE):TE:=uI (td σ H (r6 (∃a,x=Δ a/\Uy H1 a/\ty σ H1 (mq y (tx σ H2 λz H3=>∃kvs k,H3 a=m_ .bA/\y=kV k ∧
 (∀v,xX=fU->Q v (Jx H3 a .bA (Oz kvs k)))/\(bR xX->Q z H3))))))
section
variable {X:bY}{o e f:Expr}{apos dc:Pos}{td ty tx:TE}
def aW7 afh ao1(m:aa X o "get" apos e dc):I7 atY [e] dc (a1z td ty):=by
 intro pins s σ H Q I h;refine aqp m.base m.eY m.line PySem.F.slot_dict_get PySem.F.type_dict_get (MQ s H _ I h u ⟨x,H1,aC,rx,a,ex,d,ay⟩);subst ex;obtain rfl:u=IH:=rx;obtain⟨t1,t2,_⟩:=aep aC d;rw[eV t1 t2 ?_];rw[ia m.trees (agB rfl (Vn (Ci (C5 s1 σ H1 _ aC ay) iv s2 ⟨y,H2,bh,bg,ov,g,a_⟩ (Calls.spliced_nil ?_))))];exact a1x hu bh g bg λw' s3 dY nT=>⟨_,H2,dY,nT,a_⟩
def aW8 afh ao1(hf:g9 f tx)(m:M2 X o "get" apos e f dc):I7 atY [e,f] dc (a1A td ty tx):=by
 intro pins s σ H Q I h
 refine aqp m.base m.eY m.line PySem.F.slot_dict_get PySem.F.type_dict_get (MQ s H _ I h u ⟨x,H1,aC,rx,a,ex,d,ay⟩)
 subst ex
 obtain rfl:u=IH:=rx
 obtain⟨t1,t2,_⟩:=aep aC d
 rw[eV t1 t2 ?_]
 rw[ia m.trees (agB rfl (Vn (Zb (C5 s1 σ H1 _ aC ay) λiv s2 ⟨y,H2,bh,bg,a_⟩=>
  Vn (Ci (hf pins s2 σ H2 _ bh a_) fv s3 ⟨z,H3,dY,Oj,ov,g,cz⟩ (Calls.spliced_nil ?_)))))]
 exact a1y hu dY g bg Oj λw' w! rP nT=>⟨_,H3,rP,nT,cz⟩
def aW9 ao1(m:aa X o "pop" apos e dc):I7 atZ [e] dc (a1B td ty):=by
 intro pins s σ H Q I h;refine aqp m.base m.eY m.line PySem.F.slot_dict_pop PySem.F.type_dict_pop (MQ s H _ I h u ⟨x,H1,aC,rx,a,ex,d,ay⟩);subst ex;obtain rfl:u=IH:=rx;obtain⟨t1,t2,_⟩:=aep aC d;rw[eV t1 t2 ?_];rw[ia m.trees (agB rfl (Vn (Ci (C5 s1 σ H1 _ aC ay) iv s2 ⟨y,H2,bh,bg,kvs,k,v,ea,ey,l,a_⟩ (Calls.spliced_nil ?_))))];rw[fq ey (X1 bh ea bg l (Ω rfl) λw' s3 dY nT=>⟨v,_,dY,nT,a_⟩)]
def aXa ao1(hf:g9 f tx)(m:M2 X o "pop" apos e f dc):I7 atZ [e,f] dc (a1C td ty tx):=by
 intro pins s σ H Q I h
 refine aqp m.base m.eY m.line PySem.F.slot_dict_pop PySem.F.type_dict_pop (MQ s H _ I h u ⟨x,H1,aC,rx,a,ex,d,ay⟩)
 subst ex
 obtain rfl:u=IH:=rx
 obtain⟨t1,t2,_⟩:=aep aC d
 rw[eV t1 t2 ?_]
 rw[ia m.trees (agB rfl (Vn (Zb (C5 s1 σ H1 _ aC ay) λiv s2 ⟨y,H2,bh,bg,a_⟩=>
  Vn (Ci (hf pins s2 σ H2 _ bh a_) fv s3 ⟨z,H3,dY,Oj,kvs,k,ea,ey,cz,Gm⟩ (Calls.spliced_nil ?_)))))]
 subst ey;cases l:xX with
 |some v=>exact X1 dY ea bg l (aA (gg fv)) λw' w! rP nT=>⟨v,_,rP,nT,cz v l⟩
 |none=>exact a1v dY ea bg l λw! rP=>⟨z,H3,rP,Oj,Gm l⟩
universe zE
section
variable {X:bY}{pins:f_}{σ:St}{H:aP}{s:Shared}{a:Addr}{kvs:qV}{A:Around}{E:iQ}
universe zE
section
variable {X:bY}{pins:f_}{σ:St}{H:aP}{s:Shared}{a:Addr}{y:V}{u:Value}{A:Around}{E:iQ}
universe zE
universe L2
namespace qL
open PySem PyProof.Rows
section
open PySem.SeqAt
open PySem.AutoSeq1 (wpAny_loadPart')
open PySem.MeetsSeq PySem.MeetsSeq2 PySem.MeetsSeq3
universe zE
section
variable {prog:Program}{w:World}{A:Around}{E:iQ}{s:Shared}
def aZx{t b:Addr}{vs ws:b7}rY(ht:arH t vs.toArray)(hb:arH b ws.toArray)(hv:vs≠[])
  (h1:ws=[]->Q (Δ t) s)(h2:ws≠[]->Q AB (nE s (U4 Jw (mK (z6 (vs++ws))))))
  (hsz:jK (vs.length+ws.length)):FF (binaryOp .Add (Δ t) (Δ b)):=by
 obtain⟨⟨cls,dd,data,sl⟩,ho,hc,n,hd⟩:=id ht;obtain⟨⟨a8F,dd2,data2,sl2⟩,Bs,Uz,n2,KU⟩:=id hb;simp only at hc hd Uz KU;subst hc hd Uz KU
 have e:vs.toArray++ws.toArray=z6 (vs++ws):=Θ
 by_cases hw:ws=[]
 ·exact concat_meets (xQ ho) (xQ Bs) noFill_tuple_add seq_tuple_add PySem.F.slot_tuple_add PySem.F.entry_tuple_add (aOH _)
   (tuple_addW1 t b vs.toArray ws.toArray n n2 dd dd2 sl sl2 (a! hv) (aK hw)) ⟨ho,Bs,h1 hw⟩
 ·rw[Õ (concat_meets (xQ ho) (xQ Bs) noFill_tuple_add seq_tuple_add PySem.F.slot_tuple_add PySem.F.entry_tuple_add (aOH _)
   (tuple_addW2 t b vs.toArray ws.toArray n n2 dd dd2 sl sl2 (a! hv) (a! hw) (by rw[aBQ];exact hsz)) ⟨ho,Bs,?_⟩) e (h2 hw)]
abbrev md(n d:Nat):eF->Nat
 |none=>d
 |fU=>if v<0 then(v+gi).toNat else min v.toNat n
def aw4(n d:Nat):md n d none=d:=rfl
def aIQ(n d k:Nat):md n d (asQ k)=min k n:=by
 show(if aS k<0 then(aS k+gi).toNat else min (aS k).toNat n)=min k n;rw[apW Ö]
def a1D(n d:Nat)(hd:d≤n)(o:eF):md n d o≤n:=by
 cases o with
 |none=>exact hd
 |some v=>
  show(if v<0 then(v+gi).toNat else min v.toNat n)≤n;by_cases hv:v<0
  ·rw[n? (if_pos hv)]
  ·rw[Sm hv (Nat.min_le_right _ _)]
def aIJ(v:Int)(n d:Nat):(if v<0 then max (v+gi) 0 else min v gi)=Ye n d fU:=by
 show(if v<0 then max (v+gi) 0 else min v gi)=jv (if v<0 then(v+gi).toNat else min v.toNat n);by_cases hv:v<0
 ·simp only[if_pos hv];omega
 ·simp only[if_neg hv];omega
def aUN Lb dj:aOB hi 1 gi=(Ye n 0 lo,Ye n n hi):=by
 have h1:¬(aS 1<0):=aD
 unfold Builtin.Slice.sliceAdjust;simp only[h1,if_false];refine Prod.ext ?_ ?_
 ·cases lo with
  |none=>rfl
  |some v=>exact aIJ v n 0
 ·cases hi with
  |none=>rfl
  |some v=>exact aIJ v n n
def aUO(i j:Nat):aAH (aS i) (aS j)=j-i:=by
 unfold Builtin.Slice.slicePlaces
 have h1:aS 1 > 0:=aD
 simp only[h1,if_true,Int.ediv_one];split<;>omega
def aGX afl{o:eF}{Q:eF->BP}(p:IsPart v o)(h:Q o s):FF (Builtin.Slice.slicePartIndex v):=by
 cases p with
 |none=>exact slicePart_none h
 |int i t=>exact slicePart_int h
def a7N{sl:Addr}aMV br{Q:Int×Int×Nat->BP}aLE(pu:IsPart vu hi)
  (h:Q (Ye n 0 lo,1,md n n hi-md n 0 lo) s):FF (Builtin.Slice.sliceApplied (Δ sl) (pure gi)):=by
 obtain⟨os,hos,hcs,hds⟩:=id hs;unfold Builtin.Slice.sliceApplied Builtin.Slice.sliceFields;rw[kQ (fk (aBh hos hds x vl rfl (aBh hos hds x vu rfl (aBh hos hds x cP rfl Fc)))) (fk (slicePart_none ?_))];show pI _ _ (agY (aS 1 == 0) _ _) _ _;rw[ia asR (fk (aGX pl (fk (aGX pu (fk Fc)))))];show pI _ _ (match aOB hi 1 gi with | (lo,hi)=>pure (lo,aS 1,aAH lo hi)) _ _
 rw[aUN lo hi n];rw[W5 (pI _ _ (pure (Ye n 0 lo,aS 1,aAH (Ye n 0 lo) (Ye n n hi))) _ _) aUO SX]
def aXb(xs:Ss)(i k:Nat):z6 ((List.range k).filterMap fun(m:Nat)=>xs[(aS i+aS m*1).toNat]?)=z6 ((xs.toList.drop i).take k):=by
 have e:(fun(m:Nat)=>xs[(aS i+aS m*1).toNat]?)=λm=>xs[i+m]?:=by
  funext m
  have:(aS i+aS m*1).toNat=i+m:=aD
  rw[this]
 rw[e];rw[uK (pick_run xs i k) List.filterMap_map];rw[rz e2 (((λx=>xs[x]?)∘λx=>i+x)=λm=>xs[i+m]?) rfl e2 this];rw[this]
def a7A{t sl:Addr}{items:Ss}aMV rY(ht:arH t items)aLE(pu:IsPart vu hi)
  (hw:¬(AS=0/\Rj=items.size))
  (h:Q AB (nE s (U4 Jw (mK (z6 ((aBj AS).take (Rj-AS)))))))
  (hsz:jK items.size):FF (getItem (Δ t) (Δ sl)):=by
 rw[bJ aUW (sizeOk (mK (z6 ((aBj AS).take (Rj-AS))))) (by
  show jK ((aBj AS).take (Rj-AS)).toArray.size;rw[List.size_toArray,List.length_take,List.length_drop,Array.length_toList];omega) hj (Rj≤items.size) (a1D _ _ fe hi)];obtain⟨os,hos,hcs,hds⟩:=id hs;have a6a:asA (Δ sl) "slice" :=⟨os,hos,hcs⟩;unfold getItem
 try with_reducible refine aPd
 first | refine fk Fc | skip
 rw[kQ (fk (wpAny_sequenceKey ht.typeIs aZ ?_)) (fk (wpAny_callSpecial?_slot (name:=Str.ofString "__getitem__") ht.typeIs PyProof.Rows.slot_tuple_getitem
  (wpAny_call_entry PyProof.Rows.slot_tuple_getitem ht.typeIs entry_tuple_getitem ?_ (args_tuple_getitem _ _))))]
 show pI _ _ (Builtin.Tuple.tupleItemsOf (Δ t) >>= _) _ _;rw[kQ (fk (tupleItemsOf_ ht ?_)) (fk (wpAny_typeOf a6a ?_))];rw[ia aCZ (fk (a7N hs pl pu ?_))]
 have hno:¬(g5 (jv AS == 0&&aS 1 == 1&&(Rj-AS) == items.size)):=by
  intro q;rw[aqJ Bool.and_eq_true q];rw[bJ ay (jv AS=0) (eq_of_beq q.1.1) a_ (Rj-AS=items.size) (eq_of_beq q.2)];exact hw Ų
 show pI _ _ (agY (jv AS == 0&&aS 1 == 1&&(Rj-AS) == items.size) _ _) _ _;rw[if_neg hno,aXb]
 first
  |exact aqr m _ (aq7 (aqO _ SX))
  |exact aqr m _ (aq7 (fk (Mw (aqO _ SX))))
  |exact fk (aqr m _ (aq7 (Mw (aqO _ SX))))
  |exact fk (aqr m _ (aq7 (aqO _ SX)))
universe zE
universe qL
namespace L2
open PySem PySem.Spec PyProof.Rows
noncomputable abbrev TO:=St->aP->cO (eF->dS)
abbrev DT gp(e:ahm)(t:TO):Prop:=
 ∀o7(Q:eF->dS),ja->t σ H Q →
  MZ (evalPart e X.env) u s' (∃o H',QV/\IsPart u o/\oJ o)
abbrev aZy:TO:=λ_ H Q=>Q none H
abbrev a3f(t:TE):TO:=MR H x (∃i,x=η i/\Q XA H1)
section
variable {X:bY}{e:Expr}{te:TE}{lo hi:ahm}{tl th:TO}{pos p2:Pos}
def aZz:DT X none aZy:=by
 rw[FI Q h];rw[au evalPart_none (wpAny_pure ⟨none,H,I,cP,h⟩)]
def aZA(h:aAa):DT X (some e) (a3f te):=by
 rw[FI Q hw];rw[ia evalPart_some (kj (Ļ s σ H _ I hw) u ⟨x,H1,aC,r1,ay⟩)];rw[gY i q ay];rw[abl t r1 ⟨XA,H1,aC,η i t,q⟩]
abbrev GO gp aMT:Prop:=
 ∀af1(v vl vu:Value)Lb(sl:Addr)zP,ja->LV->aNI sl vl vu->IsPart vl lo->IsPart vu hi->r x lo hi H Q →
  ∃T id,typeLookup (dH T) "__getitem__" = HM (abj id)/\s.TypeIs v T/\ű (getItem v (Δ sl)) X Q
def GO.or aL4(h':GO X r'):GO X (λx lo hi H Q=>r x lo hi H Q\/r' x lo hi H Q):=by
 intro pins s σ H x v vl vu lo hi sl Q I rx hs pl pu q;rcases q with q | q
 ·exact h pins s σ H x v vl vu lo hi sl Q I rx hs pl pu q
 ·exact h' pins s σ H x v vl vu lo hi sl Q I rx hs pl pu q
abbrev a7l aMT UK(tl th:TO):TE:=uI (te σ H (r6 (tl σ H1 (mq l (th σ H2 λu H3=>r x l u H3 Q)))))
def aXc{r:V->eF->eF->aP->j0}(hr:GO X r)aa4(hl:DT X lo tl)(hu:DT X hi th):Fy yF e (.Slice lo hi none p2) (a7l r te tl th):=by
 rw[FI Q h];rw[kQ (Subscript_ (kj (C5 s σ H _ I h) v ⟨x,H1,aC,r1,ay⟩)) (wpAny_Slice (yQ (hl pins s1 σ H1 _ aC ay) vl s2 l H2 bh pl a_ (q2 (hu pins s2 σ H2 _ bh a_) vu s3 ⟨u,H3,dY,pu,cz⟩)))];rw[ia evalPart_none Fc];have rP:H6 H3 s3 (aBr X! (iS #[vl,vu,cP])):=dY.kept (t':=s3.toks) (xT ob q q);obtain⟨T,id,hT,ht,hg⟩:=hr pins (nE s3 (aBr X! (iS #[vl,vu,cP]))) σ H3 x v vl vu l u s3.heap.objs.size Q rP r1 aOb pl pu cz;rw[F3 (j6 (subscriptTail e (.Slice lo hi none p2) v (Δ s3.heap.objs.size)) (HP X Q) (nE s3 (aBr X! (iS #[vl,vu,cP])))) (tail_any (ops:=[Δ s3.heap.objs.size,v]) ht hT hg cS)]
abbrev KD K3 Lb:di:=(Ř JZ).take (V7 hi-JZ)
def aRM K3 Lb:gE (KD xs lo hi) xs.length:=by
 rw[iU KD List.length_take List.length_drop];omega
abbrev a4Y c9:V->eF->eF->aP->j0:=λx lo hi H Q=>∃a xs,x=Δ a/\CV K a ∧
 ¬(JZ=0/\ajs (V7 hi))/\∀p,sN->Q (Δ p) (abw p (KD xs lo hi))
def a1E:GO X (a4Y X.K):=by
 intro pins s σ H x v vl vu lo hi sl Q I rx hs pl pu h;obtain⟨a,xs,rfl,hx,hw,q⟩:=h;cases rx;rw[yC r ht hz (I.tuple hx)]
 rw[t7 hlen (ajs cf.toArray.size) (by rw[au List.size_toArray r.length.symm]) ⟨"tuple",_,PyProof.Rows.slot_tuple_getitem.lookup,ht.typeIs,?_⟩];refine qL.a7A ht hs pl pu (by rw[au hlen hw]) ?_ (by rw[au hlen hz]);rw[hlen];refine RA (aA6 t' o (aQ (KD xs lo hi)) (xT ob q q) fe ?_) (q _ Nt);exact⟨ÿ (aRM xs lo hi) hz,_,(r.drop JZ).take (V7 hi-JZ),IsTup.new _ _⟩
abbrev X2 c9:o6:=λx y H Q=>∃a b xs ys,x=Δ a/\y=Δ b/\CV K a/\GH K H b ys/\xs≠[]/\jK aDP ∧
 (ys=[]->Q (Δ a) H)/\(ys≠[]->∀p,sN->Q (Δ p) (abw p (xs++ys)))
def Vals.axN G2(r:vX):us=[]↔xs=[]:=by
 cases r with
 |nil=>simp
 |cons _ _=>simp
def aZB:Aj Add (X2 X.K):=by
 rw[FG];obtain⟨a,b,xs,ys,rfl,rfl,ha,hb,hx,hz,ay,a_⟩:=h;cases rx;cases bg;obtain⟨cf,r1,p1,_⟩:=I.tuple ha;obtain⟨T8,r2,p2,_⟩:=I.tuple hb;rw[aiR (qL.aZx p1 p2 (cK (hx (r1.axN.mp z))) (cK (XY a H I (ay (r2.axN.mp z)))) (dJ z) (by rw[MH r1.length r2.length hz])) (RA (aA6 t' o (aQ (xs++ys)) (xT ob q q) fe ?_) (a_ (λw=>z (r2.axN.mpr w)) _ Nt))];exact⟨by rw[au List.length_append hz],_,aDG,IsTup.new _ _⟩
universe zE
universe L2
namespace L2
open PySem PySem.Spec PyProof.Rows
abbrev Bm dj p8:fF:=ahu (0≤i) (U5 (i<n) (some i.toNat)) (U5 (-gi≤i) (some (i+n).toNat))
abbrev u5 gA UD p8:at7:=(V_ i).bind λj=>xs[j]?
def axF br iO{j:Nat}(h:cu (Bm n i) j):cu (seqIndex? i n) j/\j<n /\ -gi≤i/\i<n:=by
 rw[qs Bm];by_cases h0:0≤i
 ·rw[if_pos h0]at h;rw[Ak (i<n)]
  ·rw[EK]at h;have e:i.toNat=j:=U1;exact⟨kU (aCo h1) e,aD,aD,h1⟩
  ·rw[EL]at h;cases h
 ·rw[if_neg h0]at h;by_cases h1 : -gi≤i
  ·rw[EK]at h;have e:(i+n).toNat=j:=U1;exact⟨kU (aCG h1) e,aD,h1,aD⟩
  ·rw[EL]at h;cases h
def aIK gA aa5 iO{v:α}(h:u5 xs i=fU):∃j,cu (seqIndex? i xs.length) j/\h9 xs j v/\SK j /\ -ahg≤i/\JN:=by
 rw[qs u5];cases e:V_ i with
 |none=>rw[e]at h;cases h
 |some j=>
  rw[e]at h;rw[yw h1 h2 h3 h4 (axF e) ⟨j,h1,h,h2,h3,h4⟩]
abbrev aIL(b:Expr):Prop:=∀o i,subscripted b false o i=operate [o,i] (getItem o i)
abbrev KV gp(r:o6):Prop:=
 ∀(value slice:Expr)o7(x y:V)(v u:Value)zP,ja->LV->acn->r x y H Q →
  subscripted slice false v u=operate [v,u] (getItem v u)->ű (subscriptTail value slice v u) X Q
abbrev FC gp(id:String)apa:Prop:=
 ∀af1 K3 aa0 BJ zP,ja->LV->vX->r x xs H Q →
  ā (fG id) (v::us) (HP X Q)
section
variable {X:bY}{a b:Expr}{ta tb:TE}{pos:Pos}
def KV.or{r r':o6}(h:KV X r)(h':KV X r'):KV X (λx y H Q=>r x y H Q\/r' x y H Q):=by
 intro value slice pins s σ H x y v u Q I rx bg q hs;rcases q with q | q
 ·exact h value slice pins s σ H x y v u Q I rx bg q hs
 ·exact h' value slice pins s σ H x y v u Q I rx bg q hs
def a3g{r:o6}(hr:KV X r)Pb(hs:aIL b):Fy yF a b (amk r ta tb):=by
 rw[QD s H Q I h (Subscript_ (ay1 ha hb I h λv u s2 x y H2 bh rx bg q=>hr a b pins s2 σ H2 x y v u Q bh rx bg q (hs _ _)))]
abbrev a4Z c9:o6:=λx y H Q=>∃p xs i v,x=Δ p/\y=η i/\iI K H p xs/\u5 xs i=fU/\Q v H
abbrev a40 c9:o6:=λx y H Q=>∃p xs i v,x=Δ p/\y=η i/\CV K p/\u5 xs i=fU/\Q v H
def aZC:KV X (a4Z X.K):=by
 intro value slice pins s σ H x y v u Q I rx bg h hs;obtain⟨p,xs,i,z,rfl,rfl,hq,he,q⟩:=h;cases rx;rw[sH bg];rw[I3 r pl];obtain⟨j,h1,h2,h3,h4,h5⟩:=aIK he
 obtain⟨w,fN,nT⟩:=r.get h2;rw[Mh hl r.length hn aev fin (QY X Q w s) ⟨z,H,I,nT,q⟩];by_cases h0:0≤i
 ·rw[t6 hj (i.toNat=j) (by
   rw[bG (aCo h5) h1 Vq]) (item_listR pl.isList h0 aD (by rw[hj];simpa using fN) fin hs)]
 ·rw[t6 hj ((i+aOZ).toNat=j) (by
   rw[aCG h4]at h1;rw[List.size_toArray,←hl];exact Vq) (subscriptTail_builtinR (x:=w) pl.isList.typeIs slot_list_getitem.lookup
   (wpAny_getItem_list_neg (Q:=λr s'=>r=w/\QY X Q r s') pl.isList aD aCX aD (by rw[hj];simpa using fN) (kR fin)) hs)]
def aeq:KV X (a40 X.K):=by
 intro value slice pins s σ H x y v u Q I rx bg h hs;obtain⟨p,xs,i,z,rfl,rfl,hq,he,q⟩:=h;cases rx;rw[sH bg];rw[RQ r pl];obtain⟨j,h1,h2,h3,h4,h5⟩:=aIK he
 obtain⟨w,fN,nT⟩:=r.get h2;rw[Mh hl r.length hn aev fin (QY X Q w s) ⟨z,H,I,nT,q⟩]
 exact subscriptTail_builtinR (x:=w) pl.typeIs slot_tuple_getitem.lookup
  (getItem_tuple (j:=j) (Q:=λr s'=>r=w/\QY X Q r s') pl aD aD (by rw[List.size_toArray,←hl];exact h1) (a! fN) (kR fin)) hs
def Ki(cf:b7)(n j:Nat)G6:Obj.mapSeq (·.setIfInBounds j u) (EF (mK cf.toArray n))=EF (mK (z6 (cf.set j u)) n):=by
 simp[Obj.mapSeq]
def Inv.lst BC ve{xs:di}bZ(h:H p=g!):
  ∃(cf:b7) (n:Nat),Xu/\vv p (EF (mK cf.toArray n))/\LB:=by
 rw[wB z cf n r e (yc p h) cf n r e z]
def Inv.a09 BC ve{xs ys:di}{cf its':b7}{n n':Nat}{f:Obj->Obj}bZ(h:H p=g!)
  (ho:vv p (EF (mK cf.toArray n)))(hf:f (EF (mK cf.toArray n))=EF (mK its'.toArray n'))(r:Vals ys its')(hz:asl)(t:Nat):
  kO (rq p ys) (Cg s (aCa f) t):=by
 rw[cV e ((aCa f).get? p=ajX (mK its'.toArray n')) (by
  rw[Heap.get?_update_self f ho (by rw[hf]<;>rfl),hf]) (ar9 p e p (by rw[h];trivial) (Ω rfl) (λb u hb q=>e7 (Heap.get?_update_other _ _ (Ne.symm hb)) q) ⟨_,e⟩ ?_)];exact⟨hz,its',n',r,e⟩
abbrev aKz:V->V->V->aP->cO dS:=λo i v H Q=>∃p xs k j,o=Δ p/\i=η k/\H p=g!/\cu (V_ k) j/\Q (rq p (xs.set j v))
def set_list:T9 X aKz:=by
 intro pins s σ H o i v ov iv u Q I ad0 adZ rv h;obtain⟨p,xs,k,j,rfl,rfl,hp,hj,q⟩:=h;cases ad0;rw[sH adZ];obtain⟨cf,n,r,ho,hz⟩:=I.lst hp;obtain⟨h1,h2,h3,h4⟩:=axF hj;rw[cF hl r.length hn aev]
 have I':H6 (rq p (xs.set j v)) s (aCa (Obj.mapSeq (·.setIfInBounds j u))):=
  I.a09 hp ho (Ki cf n j u) (r.set rv j) (by rw[ari hz]) s.toks
 by_cases h0:0≤k
 ·rw[t6 hk (k.toNat=j) (by
   rw[bG (aCo h4) h1 Vq]) (PySem.W.ki_setAt ho h0 aD (by rw[List.size_toArray,←hl];exact h4) (by rw[hk];rw[bQ _ I' q]))]
 ·rw[t6 hk ((k+aOZ).toNat=j) (by
   rw[aCG h3]at h1;rw[List.size_toArray,←hl];exact Vq) (PySem.W.ki_setBack ho aD (by rw[List.size_toArray,←hl];exact h3) aD (by rw[hk];rw[bQ _ I' q]))]
def aTd Lb dj:(aCH lo hi n).1=jv (qL.md n 0 lo)/\(aCH lo hi n).2.1=jv (qL.md n n hi)/\(aCH lo hi n).2.2=1:=by
 refine jy ?_ ?_
 ·cases lo with
  |none=>simp[sliceBounds,qL.md]
  |some i=>
   simp only[sliceBounds,qL.md,Option.getD_none,show aS 1 > 0 by decide,if_true];rw[jt (i<0)]
   ·rw[aqU if_true]
   ·rw[aqU if_false]
 ·cases hi with
  |none=>simp[sliceBounds,qL.md]
  |some i=>
   simp only[sliceBounds,qL.md,Option.getD_none,show aS 1 > 0 by decide,if_true];rw[jt (i<0)]
   ·rw[aqU if_true]
   ·rw[aqU if_false]
def aSX(cf:b7)Lb:slicePick cf.toArray lo hi none=z6 ((cf.drop (aB9 0 lo)).take (aB9 cf.length hi-aB9 0 lo)):=by
 rw[ahW h1 h3 (aTd lo hi cf.toArray.size)];rw[mJ slicePick h1 h2 h3];simp only[sliceRange_one,pick_run,List.size_toArray]<;>rfl
abbrev ay7 c9:V->eF->eF->aP->j0:=λx lo hi H Q=>∃a xs,x=Δ a/\J1/\∀p,sN->Q (Δ p) (rq p (KD xs lo hi))
def aZD:GO X (ay7 X.K):=by
 intro pins s σ H x v vl vu lo hi sl Q I rx hs pl pu h;rw[dw a xs hx q h];cases rx;rw[yC r ht hz (I.list hx)];have hlen:=r.length;refine⟨"list",_,slot_list_getitem.lookup,ht.isList.typeIs,?_⟩;refine wpAny_getItem_list_slice ht.isList hs pl pu cP Θ ?_ aCX;rw[aSX,←hlen];refine RA (aA6 t' o (ς (KD xs lo hi)) (xT ob q q) fe ?_) (q _ Nt);exact⟨ÿ (aRM xs lo hi) hz,_,0,(r.drop JZ).take (V7 hi-JZ),IV⟩
def aTe:Jd "len" (λxs H Q=>∃p ys,xs=[Δ p]/\(iI X.K H p ys\/GH X.K H p ys)/\Q (asC η) H):=by
 intro pins s σ H xs us Q I r h
 rw[dw p ys hq q h]
 rw[II u rx r];cases rx;have hn:=aev;rcases hq with hq | hq
 ·rw[I3 r' pl];rw[vS hlen r'.length (Calls.call_len_list pl.isList ain ⟨asC η,H,lN,⟨WC 1,by rw[aqa hlen]⟩,q⟩)]
 ·rw[RQ r' pl];rw[vS hlen r'.length (len_tuple pl ain ⟨asC η,H,lN,⟨WC 1,by rw[aqa hlen]⟩,q⟩)]
def ij.or{f:Value}aNj(h':ij X f r'):ij X f (λxs H Q=>r xs H Q\/r' xs H Q):=by
 rw[QU s H Q I rs q];rcases q with q | q
 ·exact h pins s σ H xs us Q I rs q
 ·exact h' pins s σ H xs us Q I rs q
def aTf:AJ Cf (λxs H Q=>∃p ys,xs=[Δ p]/\(iI X.K H p ys\/GH X.K H p ys)/\∀l,pN l->Q (Δ l) (rq l ys)):=by
 intro pins s σ H xs us Q I r h
 rw[dw p ys hq q h]
 rw[II u rx r];cases rx
 have fin:∀(cf:b7),ő ys->asl->∀(h':Heap)(c':Nat),(∀b o',Lp o'->cu r4 o') →
   cu aN5 { cls:=Cf,dict:=none,data:=mK cf.toArray c',slots:=#[]}->QY X Q AB (tX s):=λcf r' hz h' c' kp e=>
  RA (I.laid (t':=s.toks) kp fe (show Ry _ h' _ (ς ys) from⟨hz,cf,c',r',e⟩)) (q _ Nt)
 rcases hq with hq | hq
 ·rw[I3 r' pl];have hlen:=r'.length;obtain⟨o,ho,hc,n,hd⟩:=pl.isList;exact call_list_seq p (Ω rfl) ho hc hd (λh' c' kp e=>fin cf r' hz h' c' kp e) ain
 ·rw[RQ r' pl];have hlen:=r'.length;obtain⟨o,ho,hc,n,hd⟩:=pl;exact call_list_seq p (aA rfl) ho hc hd (λh' c' kp e=>fin cf r' hz h' c' kp e) ain
def aSN:AJ Jw (λxs H Q=>∃p ys,xs=[Δ p]/\((iI X.K H p ys/\∀l,pN l->Q (Δ l) (abw l ys))\/(GH X.K H p ys/\Q (Δ p) H))):=by
 rw[QU s H Q I r h];obtain⟨p,ys,rfl,h⟩:=h;rw[II u rx r];cases rx;rcases h with⟨hq,q⟩ | ⟨hq,q⟩
 ·rw[I3 r' pl];rw[dm hlen r'.length (call_tuple_list pl.isList (c! h' kp) ain)]
  have aC:kO H (tX s):=I.kept (t':=s.toks) kp
  have bh:H6 (abw h'.objs.size ys) s (h'.push (Ip Jw (mK cf.toArray))):=
   aC.laid (t':=s.toks) (xT o e e) fe (show Ry _ _ _ (aQ ys) from⟨hz,cf,r',IsTup.new _ _⟩)
  exact XY h'.objs.size _ bh (q _ Nu)
 ·rw[RQ r' pl];exact call_tuple_same pl (XY p H I q)
abbrev aFy az5(x:V)jX:Prop:=match x with
 |aE _=>T = "str"
 |η _=>T = "int"
 |Δ p=>(T = "list" /\ ∃xs,iI K H p xs)\/(T = "tuple" /\ ∃o,K.lookup p=cy/\o.cls=Jw /\ bR o.dict) ∨
   (T = "dict" /\ ((∃kvs,H p=m_ .bA)\/∃kvs,H p=m_ .dT))\/(T = "set" /\ ∃S n,H p=sq jR S n)
 |_=>False
def aJQ BC{T:String}{x:V}afl bZ(r:LV)(ty:aFy X.K T x H):
  s.TypeIs v T/\∀a,v=Δ a->∃ob,vv a ob/\bR ob.dict:=by
 cases x with
 |str z=>
  rw[sH r];cases(show T = "str" from ty)
  rw[cB (typeIs_str s z t) (λ_ e=>nomatch e)]
 |int i=>
  rw[sH r];cases(show T = "int" from ty)
  rw[cB (typeIs_int s i t) (λ_ e=>nomatch e)]
 |ref p=>
  cases r;rcases ty with⟨rfl,xs,hq⟩ | ⟨rfl,o,hk,hc,hd⟩ | ⟨rfl,hk⟩ | ⟨rfl,S,n,hk⟩
  ·obtain⟨cf,_,pl,_⟩:=I.list hq;rw[ah7 pl.isList.typeIs a e];cases e;obtain⟨o,n,e,c,hd,_⟩:=pl;rw[bQ o e hd]
  ·rw[ah7 ⟨o,I.s7 p o hk,hc⟩ a e];cases e;rw[bQ o (I.s7 _ o hk) hd]
  ·have z:∃o,vv p o/\o.ExactDict:=by
    rcases hk with⟨kvs,hk⟩ | ⟨kvs,hk⟩
    ·obtain⟨_,_,_,_,o,_,_,e,ex,_⟩:=yc p hk;rw[bQ o e ex]
    ·obtain⟨_,_,_,_,o,_,_,e,ex,_⟩:=yc p hk;rw[bQ o e ex]
   rw[Ly o e ex z ⟨o,e,ex.1⟩ (c! a e2)];cases e2;rw[bQ o e ex.2.1]
  ·obtain⟨o,_,_,_,e,ex,_⟩:=yc p hk;rw[ah7 ⟨o,e,ex.1⟩ a e2];cases e2;rw[bQ o e ex.2.1]
 |_=>rw[Cj ty]
abbrev a41 az5 apa(to:TE):TE:=uI (to σ H (r6 (aFy K T x H1/\r x [] H1 Q)))
abbrev a7g az5 apa(to:TE)(t:nV):TE:=uI (to σ H (r6 (aFy K T x H1/\t σ H1 (mq xs (r x xs H2 Q)))))
variable {o e:Expr}{es:dI}{to:TE}{t:nV}{name:Str}{apos dc:Pos}{T id:String}{r:V->di->aP->j0}
def a1a aLL ao0(hm:FC X id r)afL
  aoW aaT:I7 auQ [] dc (a41 X.K T r to):=by
 rw[aAC s H Q I h ph pj (MQ s H _ I h v ⟨x,H1,aC,r1,ty,ay⟩)];rw[B7 h1 h2 (aJQ aC r1 ty) ⟨T,id,pa,slot,aoc,h1,h2,aAN rfl (hm pins s1 σ H1 x [] v [] Q aC r1 c6 ay)⟩]
def a3h aLL ao0(hm:FC X id r)afL afu
  aoW
  aMf
  aaT aLH:
  I7 auQ (e::es) dc (a7g X.K T r to t):=by
 rw[qc Q (wpAny_Call_method_late ph anD pj rfl (MQ s H _ I h v ⟨x,H1,aC,r1,ty,ay⟩))];rw[yg (aJQ aC r1 ty)];refine⟨T,id,pa,slot,aoc,h1,h2,?_⟩;have hA:=ha dc pins s1 σ H1 _ aC ay;rw[hs]at hA⊢;rw[Wy (agB (by show q? (false||gf (Y5 es).any);rw[amV]<;>rfl) ?_) (yQ hA us s2 vs H2 bh r2 a_ (hm pins s2 σ H2 x vs v us Q bh r1 r2 a_))]
universe zE
universe L2
namespace L2
open PySem PySem.Spec PyProof.Rows
abbrev aeS gp(id:String)apa:Prop:=
 ∀af1 K3 aa0 BJ zP,ja->LV->vX->r x xs H Q →
  ā (fG id) (v::us) (HP X Q)
def Vals.one:∀{x:V}BK,SE [x]->∃u,us=[u]/\xM x
 |_,_,b4 r c6=>IX r
def Vals.zero:∀BK,SE []->us=[]
 |_,c6=>rfl
def Vals.dropLast G2(h:vX):Vals xs.dropLast us.dropLast:=by
 induction h with
 |nil=>rw[v8]
 |cons r t ih=>
  cases t with
  |nil=>rw[v8]
  |cons q t'=>exact b4 r ih
def Vals.eraseIdx:∀G2 iw,vX->Jh aLw (us.eraseIdx i)
 |_,_,_,c6=>c6
 |_,_,0,b4 _ t=>t
 |_,_,i+1,b4 r t=>b4 r (Vals.eraseIdx i t)
def Vals.reverse G2(h:vX):Vals xs.reverse us.reverse:=by
 induction h with
 |nil=>rw[v8]
 |cons r t ih=>rw[ek List.reverse_cons List.reverse_cons (Vals.append ih (b4 r c6))]
def Vals.rep G2(h:vX):vC k (Vals (F2 (SG xs)) (F2 (SG us)))
 |0=>c6
 |k+1=>by
  rw[aPl];exact Vals.append h (Vals.rep h k)
def Kj gA(l:qU):l.eraseIdx (l.length-1)=l.dropLast:=by
 induction l with
 |nil=>rfl
 |cons a r ih=>
  cases r with
  |nil=>rfl
  |cons b r=>
   have e:dR (a::b::r)-1=(dR (b::r)-1)+1:=by
    rw[bJ h1 (dR (a::b::r)=r.length+2) rfl h2 (dR (b::r)=r.length+1) rfl];omega
   rw[e,List.eraseIdx_cons_succ,ih]
   all_goals rfl
def aHi gA:∀(l:qU)iw,gE (l.eraseIdx i) l.length
 |[],_=>fe
 |_::_,0=>Iw
 |_::r,i+1=>Nat.succ_le_succ (aHi r i)
def foldl_rep(cf:b7):∀o8(acc:b7),
  List.foldl (λx1 x2=>x1++x2) acc.toArray (SG cf.toArray)=z6 (acc++F2 (SG cf))
 |0,acc=>Θ
 |k+1,acc=>by
  rw[bJ e (acc.toArray++cf.toArray=z6 (acc++cf)) Θ e2 ((acc++cf)++F2 (SG cf)=acc++F2 (agG (k+1) cf)) (by
   rw[List.replicate_succ,List.flatten_cons,List.append_assoc])]
  rw[←e2,←foldl_rep cf k (acc++cf),←e,List.replicate_succ,List.foldl_cons]
section
variable {X:bY}{pins:f_}{σ:St}{H:aP}{s:Shared}{l b:Addr}{xs ys zs:di}
def Inv.aXd{cf its':b7}br{f:Ss->Ss}BE bZ(hH:H l=g!)
  (e:vv l (EF (mK cf.toArray n)))(hf:f cf.toArray=its'.toArray)(hv:Vals ys its')(hz:asl):
  Xp (rq l ys) s (s.heap.update l (Obj.mapSeq f)):=by
 rw[fJ q (PySem.IsL.update e f) hf q];refine ar9 l e l (by rw[au hH trivial]) (Ω rfl) (λb' u hb hu=>e7 (Heap.get?_update_other s.heap (Obj.mapSeq f) (Ne.symm hb)) hu) ⟨_,q⟩ ?_;exact⟨hz,its',_,hv,q⟩
def Inv.a1b{cf:b7}BE bZ(hv:ő ys)(hz:asl):
  Xp (yr (ς ys)) s (U4 Cf (mK cf.toArray)):=
 I.laid (Å _ _ q q) fe ⟨hz,cf,0,hv,IV⟩
def Inv.fresh bZ:aPx:=Nt
def Inv.axG bZ(hH:H l=g!):LB/\∃(cf:b7) (n:Nat),Xu/\Ŗ cf.length/\vv l (EF (mK cf.toArray n)):=by
 rw[LH z cf n r e (yc l hH) ⟨z,cf,n,r,r.length,e⟩]
def aHW br(h:jK n):cW (Builtin.List.listTooLong n):=by
 unfold Builtin.List.listTooLong;exact decide_eq_false aD
universe zE
section
variable {X:bY}
abbrev aIN:V->di->aP->j0:=λx vs H Q=>∃l xs y,x=Δ l/\vs=[y]/\H l=g!/\ajv sizeLine/\Q .ah (rq l (xs++[y]))
def aHj:aeS X "list.append" aIN:=by
 intro pins s σ H x vs v us Q I rx rv h;rw[WO l xs y rfl hH hz q h];cases rx;rw[gY u cL rv.one];rw[YI z n r e];rw[aiR (call_meets F.slot_list_append (jy _ e) F.entry_list_append (F.args_list_append_2 _ _) (PySem.list_append l cf.toArray n u (by rw[aiD])) (lR e)) (JB .ah (ahh (cf++[u]) hH e Θ (r.append (b4 cL c6)) ?_) q)];rw[aN2];omega
abbrev aJc:V->di->aP->j0:=λx vs H Q=>∃l b xs zs,x=Δ l/\vs=[Δ b]/\H l=g!/\H b=yt zs/\jK aK7/\Q .ah (rq l (xs++zs))
def aVS:aeS X "list.extend" aJc:=by
 intro pins s σ H x vs v us Q I rx rv h;obtain⟨l,b,xs,zs,rfl,rfl,hH,hB,hz,q⟩:=h;cases rx;rw[gY u cL rv.one];cases cL;rw[YI z n r e];obtain⟨z2,T8,n2,r2,Bt,e2⟩:=I.axG hB
 rw[ur hsz (jK aLj) (by rw[aBQ];omega) ayE (¬(g5 (aPE&&aOJ aLj))) (by
  rw[ek (aHW hsz) Bool.and_false Bool.false_ne_true]) (call_meets F.slot_list_extend (xQ e) F.entry_list_extend (F.args_list_extend_2 _ _)
  (AutoSeq1.list_extend_list_list_0 l cf.toArray n b T8.toArray n2 ayE (by rw[aiD]) aD) ⟨e,e2,?_⟩)]
 refine JB .ah (ahh (cf++T8) hH e Θ (r.append r2) ?_) q;rw[aOk]
abbrev aPR:V->di->aP->j0:=λx vs H Q=>∃l xs y,x=Δ l/\vs=[]/\H l=g!/\h9 xs (EV 1) y/\Q y (rq l xs.dropLast)
def a1c:aeS X "list.pop" aPR:=by
 intro pins s σ H x vs v us Q I rx rv h
 rw[WO l xs y rfl hH hy q h];cases rx;have DP:=rv.zero;subst DP;rw[YI z n r e];rw[ahG u hu cL (r.get hy) hy' (h9 cf.toArray (cf.toArray.size-1) u) (by
  show h9 cf.toArray (cf.length-1) u;rw[MH Array.getElem?_toList hl hu]) (call_meets F.slot_list_pop (jy _ e) F.entry_list_pop (F.args_list_pop_1 _) (MeetsSeq.list_pop_last l cf.toArray n u hy' (by rw[aiD])) (lR e))];refine⟨y,_,ahh cf.dropLast hH e ?_ r.dropLast ?_,cL,q⟩
 ·show aOz (cf.toArray.size-1) cf.dropLast.toArray;rw[List.size_toArray,List.eraseIdxIfInBounds_toArray,Kj]
 ·rw[n? List.length_dropLast]
abbrev aJR:V->di->aP->j0:=λx vs H Q=>∃l xs i k y,x=Δ l/\vs=[η i]/\H l=g! /\ -(2 ^ 63)≤i/\i<2 ^ 63/\seqIndex? i xs.length=fE/\h9 xs k y/\Q y (rq l (xs.eraseIdx k))
def QP:aeS X "list.pop" aJR:=by
 intro pins s σ H x vs v us Q I rx rv h;obtain⟨l,xs,i,k,y,rfl,rfl,hH,h1,h2,hk,hy,q⟩:=h;cases rx;rw[gY u cL rv.one];rw[sH cL];rw[YI z n r e];rw[Ce w hw nT (r.get hy) (call_meets F.slot_list_pop (xQ e) F.entry_list_pop (F.args_list_pop_2 _ _)
  (MeetsSeq.list_pop_at l cf.toArray n i t k w (fitsIndex_both h1 h2) (by rw[List.size_toArray,←hl];exact hk) (by rw[cA Array.getElem?_toList hw]) (by rw[aiD])) (lR e))]
 refine⟨y,_,ahh aLx hH e ?_ (r.eraseIdx k) ?_,nT,q⟩
 ·show aOz k (z6 aLx);rw[List.eraseIdxIfInBounds_toArray]
 ·rw[eg (aHi xs k)]
abbrev anY:o6:=λx y H Q=>∃l b xs zs,x=Δ l/\y=Δ b/\H l=g!/\H b=yt zs/\jK aK7/\∀p,sN->Q (Δ p) (rq p (xs++zs))
def a1d:Aj Add anY:=by
 rw[FG];obtain⟨l,b,xs,zs,rfl,rfl,hH,hB,hz,q⟩:=h;cases rx;cases bg;rw[YI z n r e];obtain⟨z2,T8,n2,r2,Bt,e2⟩:=I.axG hB;rw[n9 (PySem.P.add_list e e2 ?_ (by rw[aBQ];omega)) ea (cf.toArray++T8.toArray=z6 (cf++T8)) Θ]
 rw[fX ea (XY _ _ (aBX t' (r.append r2) (by rw[aOk])) (q _ I.fresh))]
abbrev aPS:o6:=λx y H Q=>∃l k xs,x=Δ l/\y=η k/\H l=g! /\ -(2 ^ 63)≤k/\k<2 ^ 63/\jK aCW ∧
 ∀p,sN->Q (Δ p) (rq p (F2 (aqi xs)))
def aZE gA UD o8:(SG xs).flatten.length=k*xs.length:=by
 induction k with
 |zero=>simp
 |succ k ih=>rw[List.replicate_succ,List.flatten_cons,List.length_append,ih,Nat.succ_mul,Nat.add_comm]
def a1e:Aj Mult aPS:=by
 rw[FG];obtain⟨l,k,xs,rfl,rfl,hH,h1,h2,hz,q⟩:=h;cases rx;rw[sH bg];rw[YI z n r e]
 rw[kP hlen (jK aDk) (by rw[List.size_toArray,←hl];exact hz) a42 (¬aDk > (2 ^ 63-1) / 8) (by
  rw[EG ((sizeLine:Nat)≤(2 ^ 63-1) / 8) aZ]) a43 (¬(g5 (! Builtin.List.listFitsIndex k))) (by
  rw[aqj (fitsIndex_both h1 h2)]) ayE (¬(aO (aOJ aDk))) (by
  rw[aqj (aHW hlen)])]
 rw[cV ay8 (List.foldl (λx1 x2=>x1++x2) #[] (agG (oq cf.toArray.isEmpty 0 k.toNat) cf.toArray)=(aqi cf).flatten.toArray) (by
  have f0:vC m (List.foldl (λx1 x2=>x1++x2) #[] (aqP cf.toArray)=(aqP cf).flatten.toArray):=λm=>by
   rw[Mn (foldl_rep cf m []) fz this]
  rw[f0];cases cf with
  |nil=>simp
  |cons a r'=>rw[Q7 Θ]) (wpAny_binaryOp_repeat_ref (T:= "list") (U:= "int") aZ (xQ e) (λs'=>typeIs_int s' k t) noFill_list_mul F.fills_int_mul F.slot_int_rmul repeat_list F.slot_int_index.lookup
  (call_meets F.slot_int_rmul (typeIs_int s k t) F.entry_int_rmul (F.args_int_rmul_2 _ _) (int___rmul___int_list k t l cf.toArray n)
   (ri e (xQ e) (call_meets F.slot_list_mul (jy _ e) F.entry_list_mul (F.args_list_mul_2 _ _) (AutoListH.list___mul___list_int_3 l cf.toArray n k t a43 a42 ayE) (lR e)))))]
 rw[fX ay8 (XY _ _ (aBX t' (r.rep k.toNat) (by rw[ek aZE Nat.mul_comm hz])) (q _ I.fresh))]
universe zE
section
variable {prog:Program}{w:World}{A:Around}{E:iQ}{s:Shared}
universe zE
section
variable {X:bY}
universe zE
universe L2
namespace aGP
open PySem PySem.W PySem.Calls PyProof.Rows
def aSf{P:Params}tK:∀BG(vs:b7),WellAll P h vs aPf->aip ns:=by
 intro ns
 induction ns with
 |nil=>
  intro vs w;rw[zD]at w;cases w;rw[v8]
 |cons n ns ih=>
  intro vs w;rw[bB]at w;cases w with
  |cons a b=>
   cases a;exact b4 _ _ (ih _ b)
def aVT{l:OpenLaw}br azK{P:Params}tK{args:List WData}{vals:b7}
  (i!:aO (l.row.toRowW.claim.pre args))(i?:WellAll P h vals args):
  ∃a vs ns,vals=[IH]/\args=[WData.list aPf]/\sA=ajX ajK/\aip ns/\asK n:=by
 rw[bJ hsh (aO (WShape.hasAll [] args [F8 η])) aLy.1 hc (aO (l.pre.holds [] { args:=args})) aLy.2];rw[dw d r h1 h2 (hasAllW_cons hsh)];obtain rfl:=hasAllW_nil h2;rw[gY xs h3 (hasW_list h1)];rw[uo ns (items_int h3)]
 have hlen:asK n:=by
  unfold OpenLaw.pre at hc
  have h4:aO ((WTm.not (.lt (.lit (η gi)) (.len (.arg 0)))).holds [] { args:=[F8 Ù]}):=by
   have h4:=(holds_andW hc).1;rw[bG hn h4 h4]
  rw[fJ h5 (condW_of h4 (w_not (w_lt w_lit (w_len_list (w_arg rfl))))) d9 h5];rw[n9 (Nat.le_of_not_lt (dJ q)) q' (gi<jv ns.length) aD]
  first
   | (rw[bG (decide_eq_true q') h5 (absurd h5 aZ)])
   | (simp at h5;omega)
 cases i? with
 |cons w1 w2=>
  cases w2;cases w1 with
  |list ho aeW=>exact⟨_,_,ns,rfl,rfl,ho,aSf ns _ aeW,hlen⟩
def aVU(l:OpenLaw)(args:List WData):aO (l.row.toRowW.claim.post args NH args):=
 postW_of (r:=l.row.toRowW) (X:=(true == true))
  (show aO (WShape.has [] NH qg) by first | rfl | decide | simp[WShape.has,WShape.arms,WShape.armsAll])
  (show(WTm.eq .res (.lit NH)).value [] { args:=args,res:=d7 qg true,after:=args}=z7 qg (true == true) from w_eq_bool (w_res rfl) w_lit) rfl
def aTM{l:OpenLaw}br{q:Program}aNb{YP:World->aAV}{d:DefRec}
  azK aNw
  (call:∀(w:World)(s₀ s₁:Shared)(mg mb:Str->gK)(fa:Addr)(o:Obj)(pm cd doc:Value)rV(vs:b7)BG,
   Ground q loose [] XP w s₀ mg mb s₁.heap->YP w s₁.heap →
   agZ fa cy->o.data=.func (docDef d.name d.params d.body d.scope pm cd doc)->s₁.heap.CodeRec cd d.name->mg d.name=n7 fa →
   agZ a (ajX ajK)->aip ns->asK n->s₁.gens=#[] →
   Me (model l.prog w) callerA (.call (Δ fa) (sD [Δ a])) (λr s'=>r=.ok (.ret NH)/\aDl/\s'.os=s₁.os/\Ç) s₁):
  WalkO q loose XP YP l.row.toRowW d [] (λf vs=>PySem.call f vs):=by
 intro w s₀ s₁ mg mb G Y fa o pm cd doc dV kV ho hd zB hD Ut hg args vals as i! a8C hrd i? hlo;obtain rfl:dV=cP:=Dflts.none hD hdf;obtain rfl:kV=cP:=Dflts.noKw hD;rw[WO a vs ns rfl ay9 hints hlen (aVT hn i! i?)];refine enter_call (arq (call w s₀ s₁ mg mb fa o pm cd doc a vs ns G Y ho (fd_plain hd) zB Ut ay9 hints hlen hg) r s' hq);rw[MK rfl h2 h3 h4 hq (Ω ⟨NH,NH,[],rfl,wC,NH,aVU l _,λ_=>⟨List.Pairwise.nil,cQ hm (nomatch hm)⟩⟩) h2 h3 h4]
section
variable {prog:Program}{w:World}{A:Around}{E:iQ}{s:Shared}{K:Frag}
abbrev a8t BD(L d:Addr):f_:=(aAu).filterMap λa=>if a=L\/a=d then none else(sA).map λo=>(a,o)
universe zE
universe aGP
namespace L2
open PySem PySem.Spec PyProof.Rows
def aHk:∀{vs:b7}UE,aip ns->Jh IB vs
 |_,_,c6=>c6
 |_,_,b4 n t h=>b4 (gg t) (aHk h)
abbrev aza jX:Prop:=∀b,kr\/∃o xs,H b=v! .b! (ς xs)
def QQ D5{mg mb:Str->gK}{fR:tf}d6{fa a:Addr}{fd:FuncData}eo{sp:xr}{s₁:Shared}{vs:b7}UE
  (iu:K.In s₁.heap)(zG:s₁.heap.Ns mainGlobals mg)(hb:s₁.heap.Ns builtinsNs mb)(KW:∀x:Str,auY x -> mb x=Lz)(a4F:s₁.heap.NoLimit)(hg:s₁.gens=#[])
  (ha:agZ a (ajX ajK))(hi:aip ns)(hl:aLB)(hr:r5 callerA)
  (F:∀base:Heap,auc->arc mg->rJ P w K mg base fR k fa fd [x] sp)(a21:∀lu G6,BindsTo s fd (sD [u]) [(x,u)])
  (O4:∀H:aP,aza H->iI K H a IB->sp [Δ a] H (λv _=>v=ju .ai) λ_ _ _=>False)
  (aEt:∀H e s',fR [] H s₁ (λ_ _ _=>False) e s'->False):
  Me (model P w) callerA (.call (Δ fa) (sD [Δ a])) (λr s'=>r=.ok (.ret NH)/\aDl/\s'.os=s₁.os/\Ç) s₁:=by
 rw[Mh rv (aHk hi) a4G hi.length core (∀H:aP,aza H->iI K H a IB->F5 H s₁.heap->(∀b,H b≠none->b=a)->(H a≠none->bR asT) →
   Me (model P w) callerA (.call (Δ fa) (sD [Δ a])) (λr s'=>r=.ok (.ret NH)/\aDl/\s'.os=s₁.os/\Ç) s₁) (by
  intro H hO hS bz hA hK;rw[kP aJd (∀aaI,agZ b cy->kr->(ahc H).get? b=cy) (λe n=>aXi e n) alZ (∀aaI afy,agZ b cy->o.data=YZ es ep->kr) (λ{b o es ep} e d=>by
   cases q:H b with
   |none=>rfl
   |some u=>
    have e':b=a:=hA b (by rw[fy q]);rw[yP e' ha e];cases e;have d':Data.seq vs.toArray _=Data.dict es ep:=d;cases d') avO (∀{b:Addr}afO,s₁.heap.Ns b m->(ahc H).Ns b m) (λ{b m} ⟨o,es,ep,e,d,r⟩=>⟨o,es,ep,aJd e (alZ e d),d,r⟩) aQC (K.In (ahc H)) (λb o e=>aJd (iu b o e) (by
   cases q:H b with
   |none=>rfl
   |some u=>
    have e':b=a:=hA b (by rw[fy q]);rw[yP e' (hK (by rw[fy q])) e];cases e))]
  rw[ur hM (Mod K mg (ahc H)) ⟨aQC,avO zG,⟨mb,avO hb,KW⟩,let⟨mc,h1,h2⟩:=a4F;⟨mc,avO h1,h2⟩⟩ e0 (Kb P w K mg (ahc H) callerA [] s₁ H) ⟨rfl,hM,λb o e=>aYJ e,Nat.le_of_eq (aVD _ _),trivial,abu b hb (ē b ([]:cY) hb),bz,.of_eq hg⟩ (arq ((F _ aQC (avO zG)).run callerA [] s₁ H (sD [Δ a]) [Δ a] [Δ a] _ _ hr e0 (a21 s₁ (Δ a)) (b4 rfl c6) (O4 H hO hS)) r s' h)];cases r with
  |error e=>exact(aEt H e s' h).elim
  |ok fl=>
   cases fl with
   |next=>rw[Cj h]
   |brk=>rw[Cj h]
   |cont=>rw[Cj h]
   |ret u=>
    obtain⟨v,H',os,bare,un,azb,r',q⟩:=h;rw[Ia q' (v=ju .ai) q q'];obtain rfl:u=Value.bool true:=r';refine⟨rfl,OldK.of_keep (VF o e),os,bare⟩;cases q:H b with
    |none=>exact un.keep b o e q (by intro z;rw[pn (ē b ([]:cY) z) Θ]) Θ
    |some u=>
     rcases hO b with z | ⟨ob,xs,z⟩
     ·rw[q]at z;cases z
     ·have z2:=un.oI b ob _ z;obtain⟨e1,_⟩:=bz b _ z;obtain⟨e2,_⟩:=azb b _ z2;rw[e]at e1;cases e1;exact e2)]
 cases hk:asT with
 |some o=>
  rw[fJ e (iu a o hk) ha e];cases e;refine core (WQ _) (λ_=>Ω rfl) (aA ⟨_,vs.toArray,_,hk,rfl,rfl,rfl,by rw[aqa a4G];exact hl,a! rv⟩) (λb u z=>by have z':(none:Option jn)=dO:=z;cases z') (V4 b z rfl z) (cK (absurd rfl z))
 |none=>
  refine core (M! b b a (sq .b! (EF ajK) (ς IB)) none) (dJ b) (Ω (r_ (EF ajK) eK)) (VF u z) (c! b z) λ_=>hk
  ·rw[vR (b=a)]
   ·exact aA ⟨_,_,if_pos hb⟩
   ·exact Ω (if_neg hb)
  ·rw[vR (b=a)]
   ·have z':=(atX (if_pos hb)) z;cases z';subst hb;exact⟨ha,by rw[ni hl],vs,_,rv,ha⟩
   ·have z':=(atX (if_neg hb)) z;cases z'
  ·rw[vR (b=a)]
   ·exact hb
   ·rw[pn (if_neg hb) z]
universe L2
namespace L2
open PySem PySem.Spec PyProof.Rows
universe L2
namespace L2
open PySem PySem.Spec PyProof.Rows
structure QR c9(x qual:Str)(st:Stmt)(f:Addr)aoF:Prop where
 ex:∃(oc:Value) (od:Y7) (kV doc pm:Value) (an:Y7) (gm ct:Value) (O3:Array gK),
  fd=abZ x (Kn st) (Gh st) (aw st) cP pm an gm ct/\arz f ⟨oc,od,.func fd,O3⟩/\aq9 K gm qual
 kp:Vk K (Δ f)
section
variable {P:Program}{w:World}{K:fh}{mg:Str->gK}{base:Heap}
def QR.binds azi aoh aM1
  (h:∀aMP(gm ct:Value)BJ,aDu->aCn (abZ x (Kn st) (Gh st) (aw st) cP pm an gm ct) us=HM VY):MT K:=by
 obtain⟨oc,od,kV,doc,pm,an,gm,ct,O3,rfl,lk,zB⟩:=F.ex;exact .all (h kV doc pm an gm ct)
def Z8 azi{f:Addr}{oc:Value}{od an:Y7}{O3:Array gK}{kV doc pm gm ct:Value}(l:arz f ⟨oc,od,.func (abZ x (Kn st) (Gh st) (aw st) cP pm an gm ct),O3⟩)
  (c:aq9 K gm qual)(k:Vk K (Δ f)):QR K x qual st f (abZ x (Kn st) (Gh st) (aw st) cP pm an gm ct):=⟨⟨oc,od,kV,doc,pm,an,gm,ct,O3,rfl,l,c⟩,k⟩
universe zE
def aHl br(h:n≤1000):n<sizeLine:=LI h
section
variable {X:bY}
universe zE
def Gw{A B:Prop}(h:B):oq false A B:=by
 rw[au nC h]
def DD{A B:Prop}(h:A):oq true A B:=by
 rw[au eK h]
abbrev nQ(H H':aP):Prop:=∀b o,H b=cy->H' b=cy
def nQ.refl jX:nQ H H:=λ_ _ h=>h
def nQ.trans{H H1 H2:aP}(a:nQ H H1)(b:nQ H1 H2):nQ H H2:=λc o h=>b c o (a c o h)
def nQ.free{H H':aP}(e:nQ H H'){l:Addr}(h:aDp (H' l)):aDp (H l):=by
 cases q:H l with
 |none=>rfl
 |some o=>
  rw[e l o q]at h;cases h
universe L2
namespace L2
open PySem PySem.Spec PyProof.Rows
section
variable {X:bY}
def aVV:Jd "len" (λxs H Q=>∃a kvs,xs=[V.ref a]/\H a=m_ .bA/\Q (asP η) H):=by
 intro pins s σ H xs us Q I r h;rw[dw a kvs ha q h];rw[II u cL r];cases cL;exact a3d I (Ω ha) λt s' I'=>⟨asP η,H,I',gg t,q⟩
universe zE
section
variable {κ:Type} [Ca]
universe zE
universe L2
universe zE
end
mutual
section
namespace L2
open PySem PySem.Spec PyProof.Rows
abbrev aGk(env:Env):ī->EZ->EZ
 |[],acc=>acc
 | (n,k)::r,acc=>XE r (asr yq ((n,(aro).getD 0)::acc) acc)
def vT UB:∀(l:ī)(acc:EZ),(fT l (p.2=AK->∃c,Ws p.1)) →
  (forIn l acc fun(x:Str×NameKind) (cs:EZ)=>(if g5 (U' x.2) then do let a ←cellOf env x.1;PT ((x.1,a)::cs) else PT cs:Sem (ForInStep EZ)))=HM (XE l acc)
 |[],acc,_=>rfl
 | (n,k)::r,acc,h=>by
  rw[List.forIn_cons];rw[q_ hk yq]
  ·obtain⟨c,hc⟩:=h (n,k) List.mem_cons_self qt;rw[bJ nS (Ws n) hc e1 (cellOf env n=pure c) (by rw[dz cellOf nS])]
   simp only[hk,if_true,e1];show(forIn r ((n,c)::acc) _:Sem _)=_;rw[dm ih (vT (env:=env) r ((n,c)::acc) (jQ (h p (iA hp)))) (ih.trans ?_)];show _=HM (XE r (asr yq ((n,(aro).getD 0)::acc) acc));rw[HY,nS];rfl
  ·have hk':q? yq:=qt
   simp only[hk',Bool.false_eq_true,if_false];show(forIn r acc _:Sem _)=_;rw[dm ih (vT (env:=env) r acc (jQ (h p (iA hp)))) (ih.trans ?_)];show _=HM (XE r (asr yq ((n,(aro).getD 0)::acc) acc));rw[MO]
def aGY UB aft(h:fT scope.names (p.2=AK->∃c,Ws p.1)):closureFor scope env=HM (aGk env scope.names []):=by
 unfold closureFor;have:=vT (env:=env) scope.names [] h;show((forIn scope.names ([]:EZ) (fun(x:Str×NameKind) (cs:EZ)=>(if g5 (U' x.2) then do let a ←cellOf env x.1;PT ((x.1,a)::cs) else PT cs:Sem (ForInStep EZ))):Sem EZ) >>= λr=>pure r)=_;rw[cC this]
def aGl UB eo tL:∀{l:ī}{acc:EZ},(fT l (p.2=AK->∃c,Ws p.1))->(∀c,acc.lookup x=mu->Ws x) →
  mH (XE l acc) x=mu->Ws x
 |[],acc,_,ha,h=>ha c h
 | (n,k)::r,acc,hl,ha,h=>by
  refine aGl (l:=r) (jQ (hl p (iA hp))) ?_ h;intro c' nS;rw[q_ hk yq]
  ·rw[HY]at nS;rw[Fj c0 hc0 (hl (n,k) List.mem_cons_self qt) hc0 (env.cells.lookup n=some c0) hc0];rw[aA3 nS];cases hx:x == n with
   |true=>
    rw[hx]at nS;rw[hc0]at nS
    have e:x=n:=a! hx
    rw[ek e hc0 nS]
   |false=>
    rw[bG hx nS (ha c' nS)]
  ·rw[bG MO nS (ha c' nS)]
def aw5 UB eo:∀{l:ī}{acc:EZ},(aB0 x∈l\/∃c,acc.lookup x=mu)->∃c,mH (XE l acc) x=mu
 |[],acc,h=>by
  rcases h with h | h
  ·exact nomatch h
  ·exact h
 | (n,k)::r,acc,h=>by
  rw[Ai (∃c,mH (XE r (asr yq ((n,(aro).getD 0)::acc) acc)) x=mu) (aw5 (l:=r) ?_)];rcases h with h | ⟨c,h⟩
  ·rcases E_ with e | h
   ·injection e with e1 e2;subst e1 e2;right;rw[aCQ (jx (by rfl))];simp
   ·exact Ω h
  ·right;rw[q_ hk yq]
   ·rw[aCQ HY];cases hx:x == n with
    |true=>exact lT
    |false=>rw[cB c h]
   ·rw[WH MO c h]
abbrev wY gp(scope:Scope)(N:gM)nX(fp:cY)lu jX:bY:=
 { X with N:=N,s₀:=s,H₀:=H,env:=aCp (aik []) C X.env,outer:=X.stack,stack:=X.stack,ex:=fp,fn:=λ_=>false,fP:=[],s6:=Cv}
abbrev vx Pr(σ:St):St:=gF.map λo=>match o with
 |XA=>(σ[i]?).join
 |none=>none
structure acG gp(scope:Scope)(N:gM)Pr:Prop where
 kind:scope.kind=ID
 aJS:aCj y (y.2≠.cell)
 names:aCj y (y.2=.local -> Ã y.1 Cp)
 free:aCj y (y.2=AK->(IE y.1 pJ\/IE y.1 E1))
 len:gF.length=N.length
 gF:∀K4 nY iw,h9 N j x->pA gF j i->acu/\aB0 x∈scope.names/\Ã x E1
def aRz UB:∀{names:ī}eo{k:NameKind},names.lookup x=fE →
  mH (names.map (akt (n,k) (yq&&abq&&Ť n) n (n,k))) x=fE\/(k=AK ∧
   mH (names.map (akt (n,k) (yq&&abq&&Ť n) n (n,k))) x=pJ)
 |[],_,_,h=>CP
 | (n,k')::r,x,k,h=>by
  have ih:=@aRz env r x k;show List.lookup x ((aAn (g5 (U' k'&&abq&&Ť n)) n (n,k'))::_)=_\/_/\List.lookup x ((aAn (g5 (U' k'&&abq&&Ť n)) n (n,k'))::_)=_;cases hx:x == n with
  |true=>
   simp only[List.lookup_cons,hx]at h;cases h;rw[q_ hc (U' k'&&abq&&Ť n)]
   ·right;rw[VV];rw[aAQ hc];rw[cB (a! hc.1.1) (by rw[aqe hx])]
   ·left;rw[Q7 hc];rw[aqe hx]
  |false=>
   simp only[List.lookup_cons,hx]at h;rw[q_ hc (U' k'&&abq&&Ť n)]
   ·rw[VV];rw[aqe hx];exact ih h
   ·rw[Q7 hc];rw[aqe hx];exact ih h
def TF.but u? iP{h h':Heap}qR Lg(hn:pN C)(hs:Heap.SameBut C h h'):F5 H h':=λb u e=>by
 refine(ok b u e).zq (λc v hc q=>H! hs c ?_ q) (cQ q q) λ_ _ q=>q;rintro rfl;rcases hc with rfl | hc
 ·rw[hn]at e;cases e
 ·rw[hn]at hc;cases hc
abbrev aew gp(ifs:dI)(t:kK):Prop:=
 ∀o7 afK,ja->t σ H Q →
  j6 (forIn ifs true λc r=>if aO r then do let ok ←isTrue c X.env (nA c);PT ok else PT r) (anK X pins σ Q) s
abbrev a22:kK:=λ_ H Q=>Q true H
def aXe l?:aew X [] a22:=PU s σ H Q I h (wpAny_tests_nil ⟨H,I,h⟩)
def aXf l?{c:Expr}{t:kK}(h:tD X c t):aew X [c] t:=PU s σ H Q I hw (wpAny_tests_one (Ļ s σ H Q I hw))
abbrev aHm(J:It)(g:u!)(tt:kK)UK(acc:Addr)(Q:dS)afR:Prop:=
 ∃W:p! (C9 di (St->dS)),(∃m,W 0 m [] σ H)/\∀i m ys σ' H',W i m ys σ' H' →
  (atw H'/\Q H') ∨
  (J.go i H'/\∀x H2,J.awF i H' x H2->g x σ' H2 λσ3 H3=>tt σ3 H3 λb H4=>
   if aO b then te σ3 H4 λy H5=>H5 acc=yt ys/\ys.length<sizeLine/\∃m',m'<m/\W (i+1) m' (ys++[y]) σ3 (FN H5 acc (ys++[y]))
   else ∃m',m'<m/\W (i+1) m' ys σ3 H4)
abbrev ayF Pr(wi:TI)(g:u!)(tt:kK)UK:TE:=λσ H Q=>
 wi σ H (wH J (∀acc,Ň acc->aHm J g tt te acc (Q (Δ acc)) (vx gF σ) (FN H1 acc [])))
def a7m azw vd azj nW{elt target iter:Expr}{ifs:dI}aft D9{it acc:Value}UB(I:p! BP)
  (turn:∀n s,I n s->pI nj A (pyNext it) (λr s₁=>match r with
   |none=>R (.ok .next) s₁
   |fU=>nD nj A (letOwnedTupleGo target it v) (cQ s₁' (nD nj A (assign target env v) (λ_ s₂=>
     nD nj A (forIn ifs true λc r=>if aO r then do let ok ←isTrue c env (ż c);PT ok else PT r) (λok s₃=>
      if aO ok then nD nj A (ż elt) (λx s₄=>
       nD nj A (call (fG "list.append") [acc,x]) (cQ s₅ (∃m,m<n/\I m s₅)) Cv s₄) Cv s₃
      else ∃m,m<n/\I m s₃) Cv s₂) Cv s₁')) Cv s₁) Cv)
  dj(h:I n s):
  Me nj A (.compLoop (Hu elt [⟨target,iter,ifs,0⟩] scope pos) 0 it acc env) R s:=by
 refine codeAny_loop rfl I (cG n s hI) n h;rw[Ai (pI _ A ((compTurn (Hu elt [⟨target,iter,ifs,0⟩] scope pos) 0 it acc env).onRaise (λx=>do noteFrame x env;theTreesLotGoes x)) _ _) (wpAny_noted ?_)];rw[ia compTurn_list (aBe (ě (turn n s hI) (cG r s₁ h₁) _ _ h'))];cases r with
 |none=>rw[ahb h₁]
 |some v=>
  rw[kQ (ě h₁ (cG _ s₁' h₁') _ _ h') (ě h₁' (λ_ s₂ h₂=>ě h₂ (cG ok s₃ h₃) _ _ h') _ _ h')];cases ok with
  |false=>rw[ahb (kR h₃)]
  |true=>
   exact fk (ě h₃ (λx s₄ h₄=>ě h₄ (λ_ s₅ h₅=>Mw (wpAny_pure (kR h₅))) _ _ h') _ _ h')
section
variable {X:bY}{scope:Scope}{N:gM}{gF:xG}
def acG.cells(ok:apr X N)(a7J:X.Ok):fT scope.names (p.2=AK->∃c,X.env.cells.lookup p.1=mu):=λp hp e=>a7J.has p.1 (ok.free p hp e)
def Kk BC G_{h1:Heap}{tk:Nat}(co:apr X N)afI(l8:HV b (U6 b))
  (zG:h1.Ns iV (WQ _))(hk:∀b o,(z0 ([]:b7)).get? b=cy->aua=cy):
  Inv (wY X scope N iV fp (nE s (z0 ([]:b7))) (yr (ς []))) [] (vx gF σ) (yr (ς []))
   (Cg s h1 tk):=by
 have cells:=asd;rw[kP look (∀x c,mH (aik []) x=mu->xK=mu) (λx c e=>aGl cells (λc h=>CP) e) aC (kO (yr (ς [])) (Cg s (z0 ([]:b7)) s.toks)) (aBX t' c6 q4) a8D (∀b o,kX->Ä b) (λb o e=>pC nG) a51 (Ht MI (b∈X.env.locals::X.fs)) I.am4];rw[t7 aex (Ql (z0 ([]:b7))=iV) (Heap.size_push ..) ⟨⟨I.ok.mod,co.kind,I.ok.glob,I.ok.blt,?_,?_,?_,λx c h=>(nomatch h),I.ok.hd,I.ok.frames,Ω rfl,?_,?_,?_,?_,?_,?_,?_⟩,rfl,I.bare,iN.kept hk,?_,?_,?_,?_,?_,?_,?_⟩]
 ·rw[abL (Ql (z0 ([]:b7))≤iV) aex fe]
 ·intro x y c e1 e2;exact I.ok.inj x y c (look x c e1) (look y c e2)
 ·intro x hx;rw[ME (aw5 (Ω ?_)) hx ((asH atV) x=pJ\/(asH atV) x=E1) hx key (∀(l:ī),(∀y∈l,y.2≠.cell)->(mH (l.map (akt (n,k) (yq&&aho ID&&aCk n pJ) n (n,k))) x=pJ ∨
    mH (l.map (akt (n,k) (yq&&aho ID&&aCk n pJ) n (n,k))) x=E1)->aB0 x∈l) (by
   intro l
   induction l with
   |nil=>intro _ h;rw[F9]
   |cons p r ih=>
    obtain⟨n,k⟩:=p;intro hn h;rw[bJ hn' (∀y∈r,y.2≠.cell) (A0 (hn y (iA hy))) a6q (k≠.cell) (hn (n,k) List.mem_cons_self)];rw[bB]at h;rw[q_ hc (yq&&aho ID&&aCk n pJ)]
    ·rw[Co];rw[VV]at h;rw[aA3 h];cases hx:x == n with
     |true=>
      have e:x=n:=a! hx
      rw[aAQ hc]
      have eX:k=AK:=a! hc.1.1
      rw[e,eX];rw[apT]
     |false=>
      rw[bG hx h (iA (ih hn' h))]
    ·rw[Co];rw[if_neg hc]at h;rw[aA3 h];cases hx:x == n with
     |true=>
      rw[hx]at h
      have e:x=n:=a! hx
      rcases h with h | h
      ·rw[pn U1 a6q]
      ·have eX:k=AK:=U1;rw[e,eX];rw[apT]
     |false=>
      rw[bG hx h (iA (ih hn' h))])]
  exact key scope.names co.aJS hx
 ·intro b hb;obtain⟨f0,f1,f2,f3,f4,ji⟩:=hf b hb;rw[cB (pC (ahp (l8 b hb))) (λx c e=>f4 x c (look x c e))]
 ·intro b o e;exact aC.bs b o e
 ·rw[W5 (X.base.objs.size≤Ql (z0 ([]:b7))) aex (Nat.le_succ_of_le (ap9 I.sz))]
 ·intro b o e hb;obtain⟨f0,f1,f2,f3,f4,ji⟩:=hf b hb;rcases f3 with z | z
  ·exact I.ok.aeX b o e z
  ·rw[pn (akB (ap9 z)) Æ]
 ·intro b hb hm;obtain⟨f0,f1,f2,f3,f4,ji⟩:=hf b hb;rcases List.mem_cons.mp (a51 b hm) with z | z
  ·exact f1 z
  ·exact f2 z
 ·exact aC.stack
 ·exact aC.axM
 ·rw[eV (WQ _) zG (yh j x v e1 e2 e3)];rw[EJ vx e2 gI e2];cases ec:gF[j]? with
  |none=>rw[ec]at e2;cases e2
  |some o=>
   rw[ec]at e2;cases o with
   |none=>cases aBn
   |some i=>
    rw[bJ au4 ((σ[i]?).join=fU) aBn a4H (pA σ i v) (by
     cases q:σ[i]? with
     |none=>rw[q]at au4;cases au4
     |some z=>rw[q]at au4;rw[j9 z fU au4])]
    rw[E8 c1 c2 c3 (co.gF j x i e1 ec) m hn hl I.loc];have kx:IE x pJ\/IE x E1:=co.free (x,AK) c2 rfl;obtain⟨u,cL,lk⟩:=hl i x v c1 a4H (aA kx)
    rw[eV u cL ?_];rcases lk with⟨k1,_⟩ | ⟨k1,c,hc,TT⟩
    ·rcases kx with z | z<;>(rw[k1]at z;cases z)
    ·refine aA ⟨?_,c,?_,?_⟩
     ·rcases aRz (env:=X.env) c3 with z | ⟨_,z⟩
      ·exact aA z
      ·exact Ω z
     ·obtain⟨c',nS⟩:=aw5 (env:=X.env) (x:=x) (l:=scope.names) (acc:=[]) (Ω c2);rw[uK (look x c' nS) hc];cases this;exact nS
     ·rw[qj oc ho hd TT oc (hk _ _ (vo ho)) hd]
 ·intro x c e;rw[MK v oc ho hd (W_ x (look x c e)) v oc (hk _ _ (vo ho)) hd]
 ·show bR (upd H s.heap.objs.size (ς []) iV);rw[gZ aO2 (Vi Iw)]
 ·intro x c e;exact aC.Oh x c (look x c e)
 ·intro p hp;rw[pn (ē p ([]:f_) hp) Θ]
 ·exact aC.bz.kept hk
 ·show dR (vx gF σ)=N.length;rw[jL vx d9 co.len]
def comp_back Pn{σ σ':St}afX G_{h2:Heap}afI
  (J:abS (wY X scope N iV fp (nE s (z0 ([]:b7))) (yr (ς []))) [] H' s')
  (hs:aB7 iV s'.heap):H6 H' s' h2:=by
 have u1:iN MI fp H (yr (ς [])) s.heap (z0 ([]:b7)):=
  iN.laid (xT u e e) fe I.fresh
 rw[Jj u2 (iN MI fp (yr (ς [])) H' (z0 ([]:b7)) s'.heap) J.base u3 (u1.trans u2)];rw[ur hn (IK iV) J.free old (∀b o,kX->aub=aLm) (λb o e=>hs.2 b (pC (ahp nG))) (I.aKF (s':=nE s' h2) (ch:=fp) J.os ⟨yh b o e n h1 h2',yh b o e n h1 h2',u3.free,yU e h1,u3.qB,u3.oI,u3.qC⟩ (J.bz.but hn hs) J.bare oD)]
 ·rw[ek (Fl ((nE s' h2:Shared).heap.get? b=aub)) (old b o e) (u3.keep b o e n h1 h2')]
 ·rw[nH sl q (u3.slot b o e n h1 h2') sl (by rw[ek (Fl ((nE s' h2:Shared).heap.get? b=aub)) (old b o e) q])]
 ·rw[nH o' q (u3.there b o e h1) o' (by rw[ek (Fl ((nE s' h2:Shared).heap.get? b=aub)) (old b o e) q])]
 ·obtain⟨f0,f1,f2,f3,f4,ji⟩:=hf b hb;exact⟨f3,f1,f4,ji⟩
variable {elt iter cM:Expr}{ifs:dI}{wi:TI}{g:u!}{tt:kK}{te:TE}{pos:Pos}
def aHX BC{it:Addr}G_{rK:Ĵ Heap}{J:It}{Q:V->dS}{RR:E7 (Addr->Result->BP)}
  afr bZ(T:QW X.prog X.w X.K J fp rK)(st:aue 0)(hf:acv H)
  (hg:∀C s0 H0,u7 (wY X scope N C fp s0 H0) cM g)(hi:∀C s0 H0,è (wY X scope N C fp s0 H0) tt)(he:∀C s0 H0,Br (wY X scope N C fp s0 H0) elt te)
  (hw:∀acc,pN acc->aHm J g tt te acc (Q (Δ acc)) (vx gF σ) (rq acc []))
  (hR:∀(H':aP)K!(σ':St),abS (wY X scope N iV fp (nE s (z0 ([]:b7))) (yr (ς []))) [] H' s' →
   oJ AB->RR AB iV (.ok .next) s'):
  MZ (newList []) acc s₃ (j6 (newFunctionEnv scope X.env.globals (aik []) [] X.env.qual none cP (some X.env)) (λaPL s₄=>
   Me (model X.prog X.w) X.A (.compStart (Hu elt [Si 0] scope pos) 0 (Δ it) acc { aPL with scope:=atV}) (RR acc aPL.locals) s₄) s₃):=by
 rw[cV l8 (HV b (U6 b)) (vK (by
  obtain⟨o,e,_⟩:=T.obj _ _ st b hb;exact nG)) (wpAny_newObj_type (wpAny_newFunctionEnv co.aJS (by intro y hy;simp at hy) (cG h₁ azc azd) co.kind))];dsimp only at azc azd⊢;have aex:Ql (z0 ([]:b7))=iV:=Heap.size_push ..;rw[aex]at azc azd⊢
 rw[gq hk (∀b o,(z0 ([]:b7)).get? b=cy->h₁.get? b=cy) (λb o e=>
  azd.extBut b o (by rw[Mn nG aex (Nat.ne_of_lt this)]) (vo e)) hk0 (∀b o,kX->h₁.get? b=cy) (λb o e=>hk b o (vo e)) awe (rK 0 h₁) (T.keep _ _ _ st λb _ o e=>hk0 b o e)]
 have GL:=Kk (tk:=WC (lI ([]:L7))) co I hf l8 (h1:=h₁) (a! azc) hk;generalize zH:wY X scope N iV fp (nE s (z0 ([]:b7))) (yr (ς []))=rU at GL hR
 rw[kP S8 (rU.prog=X.prog) (by rw[Q4 zH]) gu (rU.w=X.w) (by rw[Q4 zH]) aQl (rU.K=X.K) (by rw[Q4 zH]) eA (rU.A=X.A) (by rw[Q4 zH])]
 rw[kP ec (aO rU.calm) (by rw[cA zH vy]) ak9 (rU.env=aCp (aik []) iV X.env) (by rw[Q4 zH]) ex (rU.s6=Cv) (by rw[Q4 zH]) hg' (u7 rU cM g) (by rw[cA zH (hg _ _ _)])]
 rw[gq hi' (è rU tt) (by rw[cA zH (hi _ _ _)]) Uu (Br rU elt te) (by rw[cA zH (he _ _ _)]) T_ (∀{H':aP},(VA b b)->HV b (awL rU [] H' b)) (λ{H'} hn b hb=>by
  obtain⟨f0,f1,f2,f3,f4,ji⟩:=hf b hb;refine⟨hn b hb,?_,?_,Ω ?_,?_,?_⟩
  ·rw[au ak9 (pC (ahp (l8 b hb)))]
  ·rw[←zH];show b∉MI;intro hm;rcases List.mem_cons.mp (I.am4 b hm) with z | z
   ·exact f1 z
   ·exact f2 z
  ·rw[cA zH hb]
  ·intro x c e;rw[bG ak9 e (f4 x c (aGl asd (λc h=>CP) e))]
  ·intro p hp;rw[←zH]at hp;rw[pn (ē p ([]:f_) hp) Θ])]
 obtain⟨W,⟨m0,w0⟩,turn⟩:=hw s.heap.objs.size I.fresh
 rw[bJ a52 (HV b (bR (upd H s.heap.objs.size (ς []) b))) (vK (by
  rw[fX (lA (pC (l8 b hb))) (Jk b).1])) loop (∀aFt:Shared,aFt=Cg s h₁ (WC (lI ([]:L7))) →
   Me (model X.prog X.w) X.A (.compLoop (Hu elt [Si 0] scope pos) 0 (Δ it) AB (aCp (aik []) iV X.env)) (RR AB iV) aFt) (by
  rintro aFt rfl;refine a7m (λn s'=>∃i ys σ' H',abS rU [] H' s'/\rK i s'.heap/\(VA b b)/\W i n ys σ' H') ?_ m0 ⟨0,[],vx gF σ,_,GL,awe,a52,w0⟩;rintro n s3 ⟨i,ys,σ3,H3,dY,amh,ale,w3⟩;rcases turn i n ys σ3 H3 w3 with⟨stop,ZU⟩ | ⟨go,step⟩
  ·have:=T.done rU S8 gu aQl ec i [] s3 σ3 H3 Cv dY (T_ ale) amh stop;rw[yS eA this (q2 this r w! ⟨hr,rP⟩)];rw[fq hr (hR H3 w! σ3 rP ZU)]
  ·have:=T.item rU S8 gu aQl ec i [] s3 σ3 H3 Cv dY (T_ ale) amh go;rw[yS eA this (q2 this r w! ⟨u,hr,h4⟩)];subst hr;refine q2 h4 _ amf ⟨x,H5,ax0,al6,y5,Un,aEm⟩;rw[cF ax1 (ax0.pinned (T_ aEm) (T.obj _ _ Un)) a1 (hg' _ amf σ3 H5 x u _ ax1 al6 (step x H5 y5))];rw[S8,gu,eA,ak9,ex]at a1;refine q2 a1 _ av3 ⟨σ6,axY,ax2,aFa⟩;have a2:=hi' _ av3 σ6 axY _ ax2 aFa;rw[S8,gu,eA,ak9,ex]at a2;rw[n9 (q2 a2 b TH ⟨zz,xj,Ba⟩) again (∀{σ8:St}{aam:aP}{ad1:Shared}{zs:di},Inv rU ([]++Bi fp amf.heap) σ8 aam ad1->(∃m',m'<n/\W (i+1) m' zs σ8 aam)->∃m,m<n/\∃i ys σ' H',abS rU [] H' ad1/\rK i ad1.heap/\(VA b b)/\W i m ys σ' H') (λ{σ8 aam ad1 zs} aeF ⟨m',hm,w8⟩=>by
    refine⟨m',hm,i+1,zs,σ8,aam,aeF.awu,T.keep _ _ _ Un λb hb o e=>(aeF.pin (b,o) (HA (HA (av2 hb e)))).1,oD,w8⟩;rw[U_ o e d (T.obj _ _ Un b hb) (aeF.pin (b,o) (HA (HA (av2 hb e)))).2.1])]
   cases b with
   |false=>
    rw[ux nC Ba (again xj Ba)]
   |true=>
    rw[eK]at Ba⊢;have a3:=Uu _ TH σ6 zz _ xj Ba;rw[S8,gu,eA,ak9,ex]at a3;refine q2 a3 v ad1 ⟨y,aam,aeF,a7a,ay,a_,cz⟩;have a4:=aHj (X:=rU) _ ad1 σ6 aam AB [y] AB [v] (cQ H' (∃m',m'<n/\W (i+1) m' (ys++[y]) σ6 H')) aeF rfl (b4 a7a c6) ⟨_,ys,y,rfl,rfl,ay,a_,cz⟩;rw[S8,gu,eA,ex]at a4;exact yQ a4 _ a9f _ a7Z aTZ _ a65 (again aTZ a65))]
 exact codeAny_compStart_list (loop _ rfl) (T.self X.A 0 _ _ _ awe (loop _ rfl))
def aZF afr(lg:abT X cM wi)
  aMx
  aaQ:g9 (Hu elt [Si 0] scope pos) (ayF gF wi g tt te):=by
 rw[FI Q h];rw[abI eval_ListComp (wpAny_comprehension_free (use:=none) rfl hs (aGY asd) co.kind co.names ?_) (Ci (lg pins s σ H _ I h) v s1 h1 (FU h1 itv h2))];obtain⟨it,fp,rK,J,H2,e,bh,T,rO,f2,w⟩:=h2;subst e;refine aHX (RR:=λacc C=>compPost (model X.prog X.w) X.A X.s6 none (HP X Q) acc C) co vy bh T rO f2 (λC=>hg C fp) (λC=>hi C fp) (λC=>he C fp) w (mE H' s' σ' aan q);obtain⟨m,hn,_⟩:=aan.loc;rw[WJ m hn h' gG (XY _ H' (comp_back bh f2 aan gG) q)]
def aUP gW{y:Str}{py anE:Pos}afr(lg:abT X cM wi)
  aMx
  K_(hy:jz X.N y)(hx:au0 y)aMq
  aMn
  aaQ:mZ X (C4 [c_ y py] (Hu elt [Si 0] scope pos) anE) (Y2 (ayF gF wi g tt te) (anh i)):=by
 rw[FI D h];rw[ia (exec_Assign_Name_used _ _ _ _ hsw) (aBe aB2)];show wpAny _ _ (do let _ ←comprehension (Hu elt [Si 0] scope pos) scope X.env _ (newList []) false (nA iter) (aY (acC (c_ y py)))) _ _ s;rw[kQ (fk (S5 (wpAny_comprehension_free (use:=aY (acC (c_ y py))) (Q:=cQ s' (ae9 X pins D .next s')) rfl hs (aGY asd) co.kind co.names ?_) (λ_ s' hq=>Mw (wpAny_pure hq)) _ _ e e)) (Ci (lg pins s σ H _ I h) v s1 h1 (FU h1 itv h2))];obtain⟨it,fp,rK,J,H2,e,bh,T,rO,f2,w⟩:=h2;subst e;refine aHX (Q:=wH v (anh i v σ H1 D.nx)) (RR:=λacc C=>compPost (model X.prog X.w) X.A X.s6 (aY (acC (c_ y py))) (cQ s' (ae9 X pins D .next s')) acc C) co vy bh T rO f2 (λC=>hg C fp) (λC=>hi C fp) (λC=>he C fp) w (mE H' s' σ' aan q)
 obtain⟨m,hn,_⟩:=aan.loc;have B:=comp_back (h2:=s'.heap) bh f2 aan (Heap.SameBut.refl ..);show nD _ _ (arM (c_ y py) aj1) _ _ _;rw[bJ a6w (IK (ahw 1)) aan.free aQA (Es (ahw 1)) (Nat.ne_of_gt (Nat.lt_succ_of_lt bh.lt))]
 rw[cV aQB (∀x c,xK=mu->c≠ahw 1) (λx c e z=>by
  obtain⟨v,q'⟩:=bh.cell x c e;rw[Mn q'.lt z (WI this (Nat.not_lt.mpr Iw))]) (wpAny_assign_Name (aHC (s:=nE s' s'.heap) B hN hy hx (v:=aj1) rfl (cG s3 dY ⟨a,a6D,ha⟩) hf))]
 have a56:ahw 1≠a:=by
  rcases ha with z | z
  ·rw[au z aQA]
  ·exact dW (aQB y a z e.symm)
 rw[eV m (hn.sameBut a6D a56) (c! h' gG)];refine⟨_,H',dY.turned (t':=s3.toks) (it:=ahw 1) (RV b o e gG e) a6w aQA (aA (Nat.le_succ_of_le bh.sz)) aQB (cG p hp z),q⟩;rw[Mn (Heap.lt_size (bh.pin p hp).1) z (WI this (Nat.not_lt.mpr Iw))]
universe zE
universe L2
universe zE
end
mutual
section
namespace L2
open PySem PySem.Spec PyProof.Rows
structure BB D3(outer:Eg)jX lu(e:Addr)(cls:Value)(H':aP)K!:Prop where
 os:s'.os=s.os
 bare:Ç
 alc:∃(B:Heap) (a0:Value),aBs B e cls a0 s'.heap/\F5 H' B/\(∀b o,kX->kr->b∉EW->aty=cy) ∧
  ∀b o,kX->b∉EW->AG o' aty o'
 slot:∀b o,kX->kr->b∈EW->AG sl aLm { o with slots:=sl}
 free:∀b o,kX->kr->IK b
 qB:∀b xs,H b=vW->H' b=vW
 oI:∀b o u,H b=v! .b! u->H' b=v! .b! u
 qC:∀b ps,H b=d7 .mX ps->∃more,H' b=z7 .mX (ps++more)
abbrev l6 D3:tf:=λouter H s E ev s'=>∃(e:Addr) (cls:Value) (H':aP),ev=Δ e/\BB P w outer H s e cls H' s'/\E cls none H'
def BB.un u? Pf afX{e:Addr}{cls:Value}azY:iN EW [] H H' s.heap s'.heap:=by
 obtain⟨B,a0,f,bz,k1,k2⟩:=x.alc;refine⟨λb o q n hb _=>f.1 b o (k1 b o q n hb),λb o q n hb _=>x.slot b o q n hb,λb o q n _=>x.free b o q n,yU q _,x.qB,x.oI,x.qC⟩;rw[vR (b∈EW)]
 ·obtain⟨_,o',ho,_⟩:=f.2.2.1.mem hb;rw[cB o' ho]
 ·rw[nH o' ho (k2 b o q hb) o' (f.1 b o' ho)]
def BB.bz u? Pf afX{e:Addr}{cls:Value}azY:F5 H' s'.heap:=by
 obtain⟨B,a0,f,bz,k1,k2⟩:=x.alc;exact bz.kept λb o q=>f.1 b o q
def aZG Li{N:gM}aoB aoq vd Pf nW iP BL:
  Passes (l6 P w) (mi (l6 P w) P w K mg base N qual scope f cd A outer s H E) E:=by
 intro pins σ H1 s1 ev s2 I h;obtain⟨e,cls,H2,rfl,x,q⟩:=h;obtain⟨B,a0,fl,bz,k1,k2⟩:=x.alc;have KX:(A.deeper o!).frames=aY Ţ:=I.ok.frames;rw[Ai (nD (model P w) (A.deeper o!) (leaving o! (Δ e)) _ _ s2) (wpAny_leaves_onW KX rfl fl (FT a50 up))];rw[gq hL (∀b o,kX->Ä b) (λb o q=>ahq q) nf (∀b o,kX->b∉EW->b∉R7) (λb o q hb hm=>by
  rw[EJ DE hm List.filterMap_cons hm];rcases aPD with z | z
  ·exact hL b o q z
  ·exact hb z) nx (∀b:Addr,b∉([]:cY)) (λb z=>LR z)]
 refine⟨e,cls,H2,rfl,⟨x.os.trans I.os,x.bare,⟨B,a0,a50,bz,tZ o q n hb,yU q hb⟩,tZ o q n hb,yU q n,vJ b q (x.qB b xs (arI b q)),λb o u q=>x.oI b o u (agN b u q),v3 ps⟩,q⟩
 ·exact k1 b o (ag3 o q n hb (nx b)) (IZ q n (nx b)) (nf b o q hb)
 ·rw[ee o1 ay (ì o q (nx b)) (k2 b o1 ay (nf b o q hb))]
 ·rw[Fj sl ay (ag4 b q n hb (nx b)) hm (b∈R7) (by
   rw[jL DE List.filterMap_cons (iA hb)])]
  obtain⟨sl2,a_⟩:=x.slot b _ ay (IZ q n (nx b)) hm
  obtain⟨_,aEQ,cz,Uv⟩:=fl.2.2.1.mem hm
  rw[a_]at cz;cases cz;rw[nH PQ Gm (up b _ a_ Uv) PQ Gm]
 ·rw[ee o1 ay (ì o q (nx b)) (x.free b o1 ay (IZ q n (nx b)))]
 ·rw[ahA m1 e1 (arJ b q) m2 e2 (x.qC b _ e1) (m1++m2) (aBE e2)]
structure Uk á nY nX:Prop where
 name:mg x=n7 C
 exc:PySem.W.excIn K C [dH "ValueError",dH "Exception",aj6,akI] "ValueError.__new__" = true
def Uk.own kM{mg:Str->gK}eo qR tK(X:Uk K mg x C)(iu:K.In h):OwnCls x C [dH "ValueError",dH "Exception",aj6,akI] "ValueError.__new__" mg h:=by
 have q:=X.exc;rw[Nd X.name];unfold PySem.W.excIn at q;split at q
 ·rename_i dd cd sl ho;split at q
  ·rename_i C' bm k0 k1 k2 k3 n k5 hm hs;simp only[Bool.and_eq_true,beq_iff_eq,Bool.not_eq_true']at q;obtain⟨⟨⟨⟨⟨rfl,rfl⟩,aPM⟩,ht⟩,bz⟩,Uw⟩:=q;obtain⟨nm,bs,mro,ns,ZU,hd,sn,sub,ab,col,del⟩:=cd;dsimp only at hm aPM bz Uw;subst hm aPM
   rw[Ia gU (sl=#[k0,k1,k2,k3,abj "ValueError.__new__",k5]) (by
    obtain⟨l⟩:=sl;simp only at hs;rw[hs]) gU];exact⟨bm,ns,nm,ZU,bs,hd,sn,sub,ab,col,dd,k0,k1,k2,k3,k5,_,iu _ _ ho,.of_isNs (PySem.W.isNs_of_in iu bz),PySem.W.nsMap_none_of_in iu bz Uw,PySem.W.tail_of_in iu ht⟩
  ·cases q
 ·cases q
abbrev a1f nX(E:d_)(ta:nV):lq:=λD σ H=>apE σ H vs (aB6/\E (Δ C) none H1)
def aHY Li{N:gM}aoB aoq vd Pf nW iP BL
  eo qR{np dc pos:Pos}{e₀:Expr}{rest:dI}{ta:nV}azk(hh:bR (A.deeper o!).handled)
  (hg:OJ (mi (l6 P w) P w K mg base N qual scope f cd A outer s H E) x)(ha:pZ (mi (l6 P w) P w K mg base N qual scope f cd A outer s H E) Sh ta)
  K7
  aMz
  aMd:
  mZ (mi (l6 P w) P w K mg base N qual scope f cd A outer s H E) (.Raise (aY (xP (c_ x np) Sh [] dc)) none pos) (a1f C E ta):=by
 intro pins s1 σ H1 D I h;have O:=M.own I.s7;obtain⟨tl,aVW,nm,q,bs,hdct,sn,sub,ab,col,dd,k0,k1,k2,k3,k5,mN,hC,hN,Uw,T⟩:=(M.own (I.ok.mod.ac9)).obj;rw[om FB PySem.F.excBase_ValueError amV (YQ (aga dc Sh).any) (by
  rw[he];show q? (false||gf (aga dc rest).any);rw[cC iJ]) (wpAny_Raise_call_subT (C:=C) (nm:=nm) (q:=q) (N:=aVW) (bs:=bs) (bm:=tl) (hdct:=hdct) (sn:=sn) (sub:=sub) (ab:=ab) (col:=col) (dd:=dd) (k0:=k0) (k1:=k1) (k2:=k2) (k3:=k3) (k5:=k5)
  FB (mN:=mN) (T.hasType FB.hasBase) hh amV Uw (amx I hg M.name (kR ?_) hd))]
 rw[cF hA (ha dc pins s1 σ H1 _ I h) a8Z hA];show nD (model P w) (A.deeper o!) (evalArgs (Δ C) true (aga dc Sh) []) _ _ s1;have aQy:nD (model P w) (A.deeper o!) (spliced (aga dc Sh)) (aGE (mi (l6 P w) P w K mg base N qual scope f cd A outer s H E) pins σ _) _ s1:=hA;rw[he]at aQy⊢;rw[aiR (Calls.evalArgs_plain (S5 aQy (cG us s2 ⟨vs,H2,bh,r2,hlen,a_⟩) _ _ y y)) ⟨rfl,by rw[cA r2.length hlen],bh.kA _ _ hC,hN.keeps bh.kA,T.keeps bh.kA,FT e mk⟩];rw[kP aao (s.heap.objs.size<s2.heap.objs.size) bh.lt KX ((A.deeper o!).frames=aY Ţ) bh.ok.frames aHH (s2.heap.FunFrames base Ţ) bh.stack l8 (∀env∈Ţ,∀b,env.frame=nh->b∈R7) (λenv he b hb=>aOG env he hb)];rw[Ai (nD (model P w) (A.deeper o!) (leaving o! (Δ e)) _ _ (tX s2)) (wpAny_leaves_madeW (base:=PySem.W.hideAll s2.heap R7) KX rfl (λb o q=>PySem.W.of_hideAll _ q) (PySem.W.funFrames_hide aHH l8) mk (yh h2 t x1 x2 x3 x4))]
 rw[kP nx (∀b:Addr,b∉([]:cY)) (λb z=>LR z) hL (∀b o,kX->Ä b) (λb o q=>ahq q) nf (∀b o,kX->b∉EW->b∉R7) (λb o q hb hm=>by
  rw[EJ DE hm List.filterMap_cons hm];rcases aPD with z | z
  ·exact hL b o q z
  ·exact hb z) aze (∀b o,H2 b=cy->b∉R7) (λb o q hm=>by
  rw[uK (bh.axM b hm) q];cases this)]
 rw[t7 a8N (∀b y,H2 b=zQ y->b∉R7) (λb y q=>aze b _ q) ⟨e,Δ C,H2,rfl,⟨bh.os,bh.bare,⟨_,Δ t,x1,v3 o,tZ o q n hb,yU q hb⟩,tZ o q n hb,λb o q n=>bh.base.free b o q n (nx b),bh.base.qB,bh.base.oI,bh.base.qC⟩,a_⟩]
 ·refine(bh.bz b o q).zq (λc v hc z=>apL z ?_) (cQ z z) λ_ _ z=>z;rcases hc with rfl | hc
  ·exact aze _ _ q
  ·exact aze _ _ hc
 ·exact apL (bh.base.keep b o q n hb (nx b)) (nf b o q hb)
 ·rw[nH o' q' (bh.base.there b o q (nx b)) o' (apL q' (nf b o q hb))]
 ·rw[Fj sl ay (bh.base.slot b o q n hb (nx b)) hm (b∈R7) (by
   rw[jL DE List.filterMap_cons (iA hb)])]
  obtain⟨_,aEQ,cz,Uv⟩:=aHH.mem hm
  rw[ay]at cz;cases cz;rw[nH PQ Gm (x4 b _ (mk.keeps _ _ ay) Uv) PQ Gm]
universe L2
universe zE
section
namespace L2
open PySem PySem.Spec PyProof.Rows
abbrev OL(e C:Addr):jn:=.ext λh=>∃ob vs,cu (h.get? e) ob/\ob.cls=Δ C/\acA (iS vs)
noncomputable abbrev bY.tr gp(fP:f_)(E:iQ):bY:={ X with fP:=fP,s6:=E}
abbrev aFY(fR:tf)xu:Prop:=∀(pins:f_)afR lu aoM,ja->fR X.stack H s (aH σ) e s'->X.s6 e s'
abbrev a1g(sp:xr)(DQ:di)UY(t:nV):TE:=MR H vs (sp (vs++DQ) H1 Q (aH σ))
abbrev a1h nX(m:Str)(sp:xr)(DQ:di)UY(ta:TE)(t:nV):TE:=Ng H x (∃a dx fs,x=Δ a/\H1 a=å C/\bR (fs.lookup m) ∧
 t σ H1 (mq vs (sp (x::(vs++DQ)) H2 Q (aH σ))))
section
variable {X:bY}{fR:tf}{k:Nat}{f C:Addr}{fd:FuncData}{ps:gM}{sp:xr}{DQ:di}{ds:b7}{aH:St->d_}{x m:Str}{p pos apos:Pos}{e o:Expr}{es:dI}{ta:TE}{t:nV}
def aJe BC p0 BK xy aoR(hr:akL)azG
  bZ(r:Rh)(h:sp (vs++DQ) H Q (aH σ)):ā (Δ f) us (HP X Q):=by
 rw[ur r2 (Jh (vs++DQ) (us++ds)) (r.append hd) hl (ķ (uf us ds)) (by rw[cA r2.length (F.len _ _ _ _ h)]) (arF (arq (F.run X.A X.stack s H (sD us) (us++ds) (vs++DQ) Q (aH σ) hr I.aPQ (hb s us I.s7 hl) r2 h) r s' hq))];cases r with
 |error e=>exact hx pins σ H s e s' I hq
 |ok fl=>
  cases fl with
  |ret u=>exact I.after hq
  |next=>rw[Cj hq]
  |brk=>rw[Cj hq]
  |cont=>rw[Cj hq]
def aXg aoR(hr:akL)(hg:Lk)(hm:X.mg x=n7 f)(hk:Vk X.K (Δ f))azG
  afu ao8 US:
  I7 (c_ x p) (e::es) pos (a1g sp DQ aH t):=by
 rw[FI Q h];rw[QC (Vo (amx I hg hm ?_ KL)) (PySem.W.callWith_K (h₀:=X.base) I.ok.mod.ac9 hk (yQ (ha pos pins s σ H _ I h) us s1 vs H1 aC r q (lR aC.s7)) he iJ) (aJe F hr hb hd hx aC r q)]
def aXh{pl:aAl}(he:g9 o ta)(c:Bp X.K C)(hm:Meth X.K C m f)aoR(hr:akL)azG afu
  aMt
  aMe:
  I7 (HK m) (e::es) pos (a1h C m sp DQ aH ta t):=by
 intro pins s σ H Q I h
 refine PySem.W.methodCall_KW (pl:=pl) (kj (C5 s σ H _ I h) u ⟨x,H1,aC,rx,a,dx,fs,ex,ea,l,q⟩) ht
 subst ex
 obtain rfl:u=IH:=rx;rw[QC (aT4 aC ea c hm l ?_) (PySem.W.callWith_K (first:=[Δ a]) (h₀:=X.base) I.ok.mod.ac9 hm.kp (yQ (ha pos pins s1 σ H1 _ aC q) us s2 vs H2 bh r a_ (lR bh.s7)) mW iJ) (aJe (us:=Δ a::us) (vs:=Δ a::vs) F hr hb hd hx bh (b4 rfl r) a_)]
universe zE
def BB.next u? Pf afX{e:Addr}{cls a0:Value}{B h':Heap}azY
  (f:aBs B e cls a0 s'.heap)(bz:F5 H' B)(k1:∀b o,kX->kr->b∉EW->aty=cy)(k2:∀b o,kX->b∉EW->AG o' aty o')
  (f':aBs B e cls a0 h')(up:s'.heap.UpToSlots h'):BB P w outer H s e cls H' (tX s'):=by
 refine⟨x.os,x.bare,⟨B,a0,f',bz,k1,k2⟩,tZ o q n hb,x.free,x.qB,x.oI,x.qC⟩;obtain⟨sl,ay⟩:=x.slot b o q n hb;obtain⟨_,aEQ,cz,Uv⟩:=f.2.2.1.mem hb;rw[ay]at cz;cases cz;rw[nH PQ Gm (up b _ ay Uv) PQ Gm]
def BB.aJT l? Pn{σ:St}afX{e C:Addr}bZ(x:BB X.prog X.w X.stack H s e (Δ C) H' s')(mW:X.stack=abK)(hdct:∃ob vs,cu (s'.heap.get? e) ob/\ob.cls=Δ C/\acA (iS vs)):
  IK e/\kO (tU H' e (OL e C)) s':=by
 obtain⟨B,a0,f,bz,k1,k2⟩:=id x.alc;rw[bJ aQz (bR atx) f.2.1 hen (IK e) (by
  cases q:H' e with
  |none=>rfl
  |some u=>
   have h1:=bz.lt q
   have:∃o,atx=cy:=by
    have z:=bz e u q;cases u with
    |lst xs=>obtain⟨_,_,_,_,z⟩:=z;rw[ie z]
    |tup xs=>obtain⟨_,_,_,o,z,_⟩:=z;rw[ie z]
    |bA kvs=>rw[ý z z];rw[ie z]
    |dT kvs=>rw[ý z z];rw[ie z]
    |set S n=>rw[aCz z z];rw[ie z]
    |ins C dx fs=>rw[aAm z z z]
    |own y=>rw[aA0 z z z]
    |amE fs=>obtain⟨_,⟨_,_,_,z,_⟩,_⟩:=z;rw[ie z]
    |qM lo hi=>obtain⟨_,_,_,z⟩:=z;rw[ie z]
    |b! ob u=>obtain⟨z,_⟩:=z;rw[ie z]
    |mX ps=>rw[ie (j9 atx tV z)]
    |met f y=>rw[ie (j9 atx tV z)]
    |ext φ=>obtain⟨_,⟨_,z⟩,_⟩:=z;rw[ie z]
   rw[SV o z this aQz z];cases z)]
 rw[B5 ob he hc hd hdct]
 rw[gq hnf (e∉MI) (λhm=>by
  obtain⟨_,aEQ,cz,Uv⟩:=f.2.2.1.mem hm;rw[he]at cz;cases cz;exact Uv vs hd) new (∀b o,kX->b≠e) (λb o q z=>by
  subst z;rw[SV o' q' (k2 b o q hnf) aQz q'];cases q') O0 (∀b o,H b=cy->b≠e) (λb o q=>by
  have g8:∃o',Lp o':=by
   have z:=XC o q;cases o with
   |lst xs=>obtain⟨_,_,_,_,z⟩:=z;rw[ie z]
   |tup xs=>obtain⟨_,_,_,o,z,_⟩:=z;rw[ie z]
   |bA kvs=>rw[ý z z];rw[ie z]
   |dT kvs=>rw[ý z z];rw[ie z]
   |set S n=>rw[aCz z z];rw[ie z]
   |ins C dx fs=>rw[aAm z z z]
   |own y=>rw[aA0 z z z]
   |amE fs=>obtain⟨_,⟨_,_,_,z,_⟩,_⟩:=z;rw[ie z]
   |qM lo hi=>obtain⟨_,_,_,z⟩:=z;rw[ie z]
   |b! ob u=>obtain⟨z,_⟩:=z;rw[ie z]
   |mX ps=>rw[ie (show Lp _ from z)]
   |met f y=>rw[ie (show Lp _ from z)]
   |ext φ=>obtain⟨_,⟨_,z⟩,_⟩:=z;rw[ie z]
  rw[ee o' z g8 (new b o' z)])]
 have u:=x.un;rw[iC hen (I.aKF (ch:=[]) x.os ⟨u.keep,u.slot,tZ o q n z,u.there,v3 xs,yU v q,v3 ps⟩ (v3 o) x.bare (abu b z z))]
 ·rw[gZ (new b o q) (u.free b o q n z)]
 ·rw[gZ (O0 b _ q) (u.qB b xs q)]
 ·rw[gZ (O0 b _ q) (u.oI b o v q)]
 ·rw[nH m q' (u.qC b ps q) m (by rw[gZ (O0 b _ q) q'])]
 ·have azb:=x.bz;rw[vR (b=e)]
  ·rw[RY q];cases q;rw[eV ⟨ob,vs,he,hc,hd⟩ ⟨ob,he⟩ (je h1 h2 p k)];rw[wB aES vs' z1 z2 TS p aES vs' (k _ z1) z2 TS]
  ·rw[Xw F_ q ((azb b o q).zq (ku z z) (c! c z) (cG c xs z))]
   ·rw[gZ (λaGD=>by rw[aGD,hen]at z;cases z) z]
   ·rw[gZ (λaGD=>by rw[aGD,hen]at z;cases z) z]
abbrev aKA c9(Gu:Addr)(zg uQ:Nat)(nx:St->dS):St->d_:=λσ cls _ H'=>∃C,cls=Δ C/\PySem.W.exmOne K (Δ C) (Δ Gu)=uB ∧
 ∀e,IK e->nx ((σ.set zg (n7 e)).set uQ none) (tU H' e (OL e C))
section
variable {X:bY}
def a1i{x n y:Str}{Gu:Addr}{zg uQ:Nat}aNf{tb:(St->d_)->lq}u?(S8:X.prog=P)(gu:X.w=w)
  (mW:X.stack=abK)(KX:aDo aA8)(vy:YO)K_
  (hx:Lk)(hm:X.mg x=n7 Gu)(hy:h9 X.N zg y)(alQ:acp y)(hn:h9 X.N uQ n)(ln:acp n)
  (hb:∀(fP:f_)(OI:iQ)UY,aFY (l6 P w) (aku fP) aH->s_ (aku fP) body (tb aH))
  aLS:
  mZ X (.Try body [aCl (acB x np) (some n) [C4 [c_ y py] (c_ n avT) apos] ayX] [] [] pos) (λD σ H=>tb (aKA X.K Gu zg uQ D.nx) D σ H):=by
 subst S8 gu;rw[qc D (wpAny_Try_except ?_)];have ani:=I.ok.kind
 have aTY:Inv (X.tr (X.fP++pins) (λe s₁=>j6 (noteFrame e X.env) (cQ s₂ (j6 (setFlight e none) (cQ s₃ (j6 (handleBy e X.env [aCl (acB x np) (some n) [C4 [c_ y py] (c_ n avT) apos] ayX]) (ae9 X pins D) s₃)) s₂)) s₁)) [] σ H s:=
  ⟨⟨I.ok.mod,I.ok.kind,I.ok.glob,I.ok.blt,I.ok.above,I.ok.inj,I.ok.has,I.ok.ak6,I.ok.hd,I.ok.frames,I.ok.stk,I.ok.aQr,I.ok.bs,I.ok.aaB,I.ok.aeX,I.ok.anN,I.ok.Ap,I.ok.Ur⟩,I.os,I.bare,I.base,I.loc,I.cell,I.free,I.Oh,jQ (Jm (a! hp)),I.bz,I.len⟩
 rw[cV back (∀{aaj:f_}{σ':St}{H':aP}{s':Shared}{OI:iQ},abS (aku (X.fP++pins)) aaj H' s'->MV X) (λ{aaj σ' H' s' OI} J=>
  ⟨⟨J.ok.mod,J.ok.kind,J.ok.glob,J.ok.blt,J.ok.above,J.ok.inj,J.ok.has,J.ok.ak6,J.ok.hd,J.ok.frames,J.ok.stk,J.ok.aQr,J.ok.bs,J.ok.aaB,J.ok.aeX,J.ok.anN,J.ok.Ap,J.ok.Ur⟩,J.os,J.bare,J.base,J.loc,J.cell,J.free,J.Oh,jQ (J.pin p (aBA hp)),J.bz,J.len⟩) (S5 (hb (X.fP++pins) _ (aKA X.K Gu zg uQ D.nx) ?_ [] s σ H D aTY h) (cG f s1 q) _ _ z z)]
 ·
  intro aaj σ1 H1 s1 ev s2 GL q;obtain⟨e,cls,H2,rfl,x2,C,rfl,hex,ZU⟩:=q;have GL:=back GL;obtain⟨B,a0,fl,bz,k1,k2⟩:=id x2.alc
  have hfs:X.A.frames=aY abK:=kU GL.ok.frames mW
  rw[show(X.tr (X.fP++pins) _).stack=abK from mW]at fl k1 k2 x2
  show nD (model X.prog X.w) X.A (noteFrame (Δ e) X.env) _ _ s2;rw[kQ (wpAny_looks_onW hfs KX fl (cG h3 held a7s)) (wpAny_landsW held (cG h4 au9 a7t))];rw[fu x4 (x2.next fl bz k1 k2 au9 (a7s.trans a7t)) a7E (BB X.prog X.w X.stack H1 s1 e (Δ C) H2 (nE s2 h4)) (by rw[au mW x4])]
  obtain⟨oe,vs,he,hc,hd,_⟩:=au9.first
  obtain⟨_,aeO⟩:=BB.aJT GL a7E mW ⟨oe,vs,he,hc,hd⟩;refine wpAny_handleBy_cons (codeAny_handlers_test (Calls.Name_function_global aeO.ok.kind hx (Calls.loadGlobal_global (by rw[au aeO.ok.glob (aeO.mod.glob.keeps aeO.kA)]) hm ?_) hdx)) (by intro q;cases q)
  rw[cV LT (PySem.W.Looks (model X.prog X.w) h4 (az7 (Δ e)) (Δ C)) (by
   rw[←hc];exact(PySem.W.Looks.ld he).andThen .now) (PySem.W.Looks.here (PySem.W.exm_one aeO.s7 LT hex) ?_)];rw[abI eK (codeAny_handlers_suite_as ?_) (lands_againW au9 (cG h5 aQs a7u))];rw[fu x5 (x4.next au9 bz k1 k2 aQs a7u) a7F (BB X.prog X.w X.stack H1 s1 e (Δ C) H2 (nE s2 h5)) (by rw[au mW x5])]
  obtain⟨a6Y,a7y,a6h,hc5,a6f,_⟩:=aQs.first
  obtain⟨hen,aT6⟩:=BB.aJT GL a7F mW ⟨a6Y,a7y,a6h,hc5,a6f⟩;rw[kQ (awt aT6 hN hn (Ω ln) (v:=Δ e) rfl (c! av3 aIz) (aA ln)) (aA5 (wpAny_Assign_Name ?_ aJN))];rw[Cq a6U a6v a6r aIz.loc hlen (uQ < σ1.length) (by rw[fX GL.len (List.getElem?_eq_some_iff.mp hn).1])]
  obtain⟨a9g,a7e,a6S⟩:=a6r uQ n (Δ e) hn (lQ (List.getElem?_set_self hlen)) (Ω ln);cases a7e
  rw[cV a6u (a6U n=n7 e) (by
   rcases a6S with⟨_,z⟩ | ⟨k,_⟩
   ·exact z
   ·have a6T:IE n Cp:=ln;rcases k with k | k<;>(rw[a6T]at k;cases k)) (wpAny_Name (wpAny_loadName_local ani ln a6v a6u ?_) hdn)];rw[kQ (awt aIz hN hy (Ω alQ) (v:=Δ e) rfl (c! TH aIA) (aA alQ)) (wpAny_execs_nil ?_)];rw[Ce a6V aQL a81 (id aIA.loc) (wpAny_nameGoes_keeps ln aQL (by rw[cC ani]) (je h8 a7v aQM Ux))]
  have aT7:Vu X ((σ1.set zg (n7 e)).set uQ none) (tU H2 e (OL e C)) (Cg TH h8 (TH.toks+1)):=by
   have nU:=aIA.weak (σ':=(σ1.set zg (n7 e)).set uQ none) Θ (λi v hv=>by
    by_cases hi:i=uQ
    ·subst hi;rw[Hz (a! hlen) hv];cases hv
    ·rw[LN (Ne.symm hi) hv];by_cases GR:i=zg
     ·subst GR
      have l2:i < σ1.length:=by rw[fX GL.len (List.getElem?_eq_some_iff.mp hy).1]
      rw[Hz l2 hv];rw[au (agE (a! l2)) hv]
     ·rw[LN (Ne.symm GR) hv];rw[ek (agJ (Ne.symm GR)) (agJ (Ne.symm hi)) hv])
   rw[Cq m xg a6t (id nU.loc) em (m=a6V) (by
    obtain⟨o1,es1,a8U,a6y,hd1,_,f1⟩:=id xg;obtain⟨o2,a8Y,a8V,Bs,KU,_,f2⟩:=id aQL;rw[a6y]at Bs;cases Bs;rw[hd1]at KU;rw[ř KU KU];subst KU
    funext z
    rw[←f1 z,←f2 z])]
   subst em;rw[t7 tracked (é (tU H2 e (OL e C)) h8) (nU.bz.but nU.free Ux) ⟨nU.ok,nU.os,nU.bare,⟨RZ b o q n,RZ b o q n,nU.base.free,yU q hx,nU.base.qB,nU.base.oI,nU.base.qC⟩,⟨_,aQM,yh j z v e1 e2 e3⟩,cG z c q,nU.free,nU.Oh,uc,tracked,nU.len⟩]
   ·exact Qj Ux (pC (aCf q)) (nU.base.keep b o q n hb hx)
   ·rw[Ì sl ay (nU.base.slot b o q n hb hx) sl Ux (pC (aCf q)) ay]
   ·rw[Ì o' ay (nU.base.there b o q hx) o' Ux (pC (aCf q)) ay]
   ·obtain⟨u,cL,lk⟩:=a6t j z v e1 e2 e3
    rw[eV u cL ?_];rcases lk with⟨kk,a6W⟩ | ⟨kk,c,nS,TT⟩
    ·rw[n9 (Ω (lR kk)) hz (z≠n) (λala=>by
      subst ala;rw[Yg (aw1 hN e1 hn)];rw[Hz (a! hlen) e2];cases e2)]
     show(vz z n a7v (m z))=dO;rw[Sm hz a6W]
    ·exact aA ⟨kk,c,nS,TT.sameBut Ux (nU.KQ z c nS)⟩
   ·rw[nH v TT (nU.cell z c q) v (TT.sameBut Ux (nU.KQ z c q))]
   ·rw[wB ay a_ cz Gm q5 (nU.pin p hp) (H! Ux p.1 cz ay) a_ cz Gm q5]
  exact⟨_,_,aT7,ZU e hen⟩
 ·cases f with
  |next=>
   rw[Sp σ' H' J ZW q (arl σ' H' (back J) ZW)]
  |brk=>rw[MK σ' H' J ZW q σ' H' (back J) ZW]
  |cont=>rw[MK σ' H' J ZW q σ' H' (back J) ZW]
  |ret v=>rw[VU v' σ' H' J r ZW q ⟨v',σ',H',back J,r,ZW⟩]
universe zE
universe L2
universe zE
end
mutual
section
namespace L2
open PySem PySem.Spec PyProof.Rows
inductive aj where
 |ah | ai(b:Bool) | int p8 | str nY | lst vf | tup vf | obj dj
 |dX BG
mutual
noncomputable def aj.mM dj:ow aj
 |ς xs=>W! n
 |aQ xs=>W! n
 |ο m=>iY (m<n)
 |.ah=>true
 |.ai _=>true
 |η _=>true
 |aE _=>true
 |.dX _=>true
noncomputable def aj.DF dj:ow fZ
 |[]=>true
 |x::xs=>aj.mM n x&&W! n
end
inductive fB where
 |gone
 |lst vf
 |ak(kvs:nZ)
 |jk(kvs:gO qi aj)
 |bO(kvs:nZ)
 |ins nX(fs:sG)
 |exc nX
noncomputable abbrev aL:=List fB
noncomputable abbrev ej:=Ar aj
noncomputable abbrev lim:Nat:=16000000
def aml br(h:n≤lim):jK n:=by rw[au sizeLine_eq (e! h)]
def aey br(h:n<lim):n<sizeLine:=by rw[au sizeLine_eq (Nat.lt_of_lt_of_le h aZ)]
section
variable (K:fh) (ι:cY) (S:aP)
mutual
noncomputable def bo:aj->cO V
 |.ah,v=>v=.ah
 |.ai b,v=>v=.ai b
 |η i,v=>v=η i
 |aE x,v=>v=aE x
 |ς xs,v=>∃a vs,v=Δ a/\S a=XU/\bF xs vs
 |aQ xs,v=>∃a vs,v=Δ a/\S a=iR vs/\bF xs vs
 |ο n,v=>∃a,v=Δ a/\xN
 |.dX ns,v=>∃a,v=Δ a/\iI K S a IB
noncomputable def bF:fZ->cO di
 |[],vs=>vs=[]
 |x::xs,vs=>∃v r,vs=v::r/\bo x v/\bF xs r
end
abbrev pR tG(kvs:R9)(aG:Eh):Prop:=Paired (fun(p:κ×aj) (q:κ×V)=>p.1=q.1/\Av p.2 q.2) kvs aG
universe zE
structure Up aoK(ι':cY)(S':aP):Prop where
 ix:∀dj rV,xN->Se ι' a
 sm:nQ S S'
structure Ext aoy(ι':cY)(S' H':aP):Prop extends SY S where
 pre:ι'.take ι.length=ι
 fr:∀b u,H b=dO->b∉ι->Y6 b->H' b=dO/\b∉ι'/\auC b
def Ext.refl aoz:JH S H:=⟨WK _ _ h h S,List.take_length,λ_ _ h1 h2 h3=>⟨h1,h2,h3⟩⟩
def Ext.trans{ι ι1 ι2:cY}{S bf b8 H H1 H2:aP}(a:U3 S H ι1 bf H1)(b:Ext ι1 bf H1 ι2 b8 H2):U3 S H ι2 b8 H2:=
 ⟨NU n x h (b.ix n x (a.ix n x h)) (a.sm.trans b.sm),by
  rw[mG a.pre b.pre]
  have hl:aDx ι1.length:=by rw[←h1];rw[fH]
  rw[←h2,List.take_take,Nat.min_eq_left hl]at h1
  exact h1,λc u h1 h2 h3=>by
  rw[SW k1 k2 k3 (a.fr c u h1 h2 h3) (b.fr c u k1 k2 k3)]⟩
def Up.push K? rV:Up ι S (ι++[a]) S:=by
 rw[iC (cG n x h) (nQ.refl S)];have hl:aDt n:=LJ.1;rw[au (List.getElem?_append_left hl) h]
def u9.mono{S S':aP}(h:nQ S S')jo{u:jn}(r:u9 S a u):u9 S' a u:=by
 rcases r with r | ⟨o,r⟩
 ·exact Ω (h _ _ r)
 ·exact r_ o (h _ _ r)
def iI.mono kM{S S':aP}(h:nQ S S')jo xy(q:iI K S a vs):iI K S' a vs:=by
 rcases q with q | q
 ·exact Ω (q.mono h)
 ·exact aA q
section
variable {K:fh}
mutual
theorem bo.amw afs aNA(hs:nQ S S'):∀af2,jI->bo K ι' S' x v
 |.ah,v,h=>CS
 |.ai b,v,h=>CS
 |η i,v,h=>CS
 |aE x,v,h=>CS
 |ς xs,v,h=>by
  rw[v7 bo];rw[wB a vs e q r h a vs e (hs _ _ q) (ajF hi hs vs r)]
 |aQ xs,v,h=>by
  rw[v7 bo];rw[wB a vs e q r h a vs e (hs _ _ q) (ajF hi hs vs r)]
 |ο n,v,h=>by
  rw[v7 bo];rw[qj a e q h a e (hi _ _ q)]
 |.dX ns,v,h=>by
  rw[v7 bo];rw[qj a e q h a e (q.mono hs)]
theorem bF.amw afs aNA(hs:nQ S S'):∀vf D?,gR->Ê K
 |[],vs,h=>Va bF h
 |x::xs,vs,h=>by
  rw[v7 bF];rw[wB v r e h1 h2 h v r e (bo.amw hi hs x v h1) (ajF hi hs r h2)]
end
def bo.up afs(e:SY S)apd:bo K ι' S' x v:=bo.amw e.ix e.sm x v h
def bo.mono afV(e:r8)apd:bo K ι' S' x v:=bo.amw e.ix e.sm x v h
def bF.up afs(e:SY S)ape:Ê K:=ajF e.ix e.sm vs h
def bF.mono afV(e:r8)ape:Ê K:=ajF e.ix e.sm vs h
def pR.up tG afs(e:SY S)Lc:pR K ι' S' kvs aG:=
 ar6 h _ _ z ⟨z.1,z.2.up e⟩
def pR.mono tG afV(e:r8)Lc:pR K ι' S' kvs aG:=
 ar6 h _ _ z ⟨z.1,z.2.mono e⟩
mutual
theorem bo.mM K?:∀af2,jI->aO (aj.mM ι.length x)
 |.ah,v,h=>rfl
 |.ai b,v,h=>rfl
 |η i,v,h=>rfl
 |aE x,v,h=>rfl
 |ς xs,v,h=>by
  rw[bo]at h;rw[B5 a e q r h];rw[ah3 (bF.DF xs vs r)]
 |aQ xs,v,h=>by
  rw[bo]at h;rw[B5 a e q r h];rw[ah3 (bF.DF xs vs r)]
 |ο n,v,h=>by
  rw[bo]at h;obtain⟨a,e,q⟩:=h;rw[ah3 (decide_eq_true (List.getElem?_eq_some_iff.mp q).1)]
 |.dX ns,v,h=>rfl
theorem bF.DF K?:∀vf D?,gR->aO (W! ι.length)
 |[],vs,h=>rfl
 |x::xs,vs,h=>by
  rw[bF]at h;obtain⟨v,r,e,h1,h2⟩:=h;rw[aj.DF,bo.mM x v h1,bF.DF xs r h2];rfl
end
mutual
theorem bo.cut K? br:∀af2,pg x->jI->bo K aui S x v
 |.ah,v,b,h=>CS
 |.ai _,v,b,h=>CS
 |η i,v,b,h=>CS
 |aE x,v,b,h=>CS
 |ς xs,v,b,h=>by
  rw[v7 bo];rw[aj.mM]at b;rw[we a vs e q h a vs e q (bF.cut xs vs b r)]
 |aQ xs,v,b,h=>by
  rw[v7 bo];rw[aj.mM]at b;rw[we a vs e q h a vs e q (bF.cut xs vs b r)]
 |ο m,v,b,h=>by
  rw[v7 bo];rw[aj.mM]at b;rw[qj a e q h a e (by rw[au (List.getElem?_take_of_lt (of_decide_eq_true b)) q])]
 |.dX ns,v,b,h=>by
  rw[ux bo h h]
theorem bF.cut K? br:∀vf D?,aO (W! n)->gR->bF K aui S xs vs
 |[],vs,b,h=>Va bF h
 |x::xs,vs,b,h=>by
  rw[v7 bF];rw[aqJ aj.DF b];rw[wB v r e h1 h2 h v r e (bo.cut x v b.1 h1) (bF.cut xs r b.2 h2)]
end
variable {ι:cY}{S:aP}
def bF.nil:qd [] []:=lQ bF
def bF.cons gX d5 m9 xy(h:jI)(t:gR):qd (x::xs) (v::vs):=by
 rw[fX bF (XV v h t)]
def bF.w5 gX p6(h:bF K ι S (x::xs) vs):∃v r,vs=v::r/\jI/\qd xs r:=by
 rw[bG bF h h]
def bF.length:∀p6,gR->Ŗ vs.length
 |[],vs,h=>by rw[bF]at h;subst h;rfl
 |x::xs,vs,h=>by
  obtain⟨v,r,rfl,_,h2⟩:=h.w5;simp[bF.length h2]
def bF.get:∀p6 gW gX,gR->zW->∃v,AN vs/\jI
 |[],vs,i,x,h,e=>LR e
 |y::xs,vs,i,x,h,e=>by
  rw[dw v r h1 h2 h.w5];cases i with
  |zero=>rw[Ma e e];exact lK v h1
  |succ i=>
   rw[qj w ay a_ (bF.get (i:=i) h2 (a! e)) w (a! ay) a_]
def bF.append:∀apj{vs ws:di},gR->qd ys ws->qd (xs++ys) (vs++ws)
 |[],ys,vs,ws,h,t=>by rw[bF]at h;rw[fq h t]
 |x::xs,ys,vs,ws,h,t=>by
  rw[dw v r h1 h2 h.w5];exact b4 h1 (bF.append h2 t)
def bF.one apd:qd [x] [v]:=b4 h c6
def bF.set:∀p6 vc iw,jI->gR->qd (xs.set i x) (vs.set i v)
 |[],vs,x,v,i,h,t=>by rw[Ũ bF t t]
 |y::xs,vs,x,v,i,h,t=>by
  rw[dw w r h1 h2 t.w5];cases i with
  |zero=>exact b4 h h2
  |succ i=>exact b4 h1 (bF.set i h h2)
def bF.drop:∀p6 dj,gR->qd (xs.drop n) (vs.drop n)
 |xs,vs,0,h=>h
 |[],vs,n+1,h=>by rw[Ũ bF h h]
 |x::xs,vs,n+1,h=>by
  rw[dw v r h1 h2 h.w5];exact bF.drop n h2
def bF.take:∀p6 dj,gR->qd (xs.take n) (vs.take n)
 |xs,vs,0,h=>by rw[Ab c6]
 |[],vs,n+1,h=>by rw[Ũ bF h h]
 |x::xs,vs,n+1,h=>by
  rw[dw v r h1 h2 h.w5];exact b4 h1 (bF.take n h2)
def bF.reverse:∀p6,gR->qd xs.reverse vs.reverse
 |[],vs,h=>by rw[Ũ bF h h]
 |x::xs,vs,h=>by
  rw[dw v r h1 h2 h.w5];rw[List.reverse_cons,List.reverse_cons];exact(bF.reverse h2).append (.one h1)
def bF.dropLast ape:qd xs.dropLast vs.dropLast:=by
 rw[List.dropLast_eq_take,List.dropLast_eq_take,h.length];exact h.take _
def bF.eraseIdx:∀p6 iw,gR->qd aLw (vs.eraseIdx i)
 |[],vs,i,h=>by rw[Ũ bF h h]
 |x::xs,vs,i,h=>by
  rw[dw v r h1 h2 h.w5];cases i with
  |zero=>exact h2
  |succ i=>exact b4 h1 (bF.eraseIdx i h2)
def bF.rep ape:vC k (qd (F2 (SG xs)) (F2 (SG vs)))
 |0=>c6
 |k+1=>by
  rw[aPl];exact h.append (bF.rep h k)
def pR.length tG Lc:kvs.length=aG.length:=aOM
def bo.kz m9:Iz .ah↔v=.ah:=Ri
def bo.fA G7 m9:Iz (.ai b)↔v=.ai b:=Ri
def bo.N1 iO m9:Iz (η i)↔v=η i:=Ri
def bo.aRd eo m9:Iz (aE x)↔v=aE x:=Ri
def bo.adp d5 m9:Iz (ς xs)↔∃a vs,v=Δ a/\S a=XU/\gR:=Ri
def bo.au8 d5 m9:Iz (aQ xs)↔∃a vs,v=Δ a/\S a=iR vs/\gR:=Ri
def bo.xa UE m9:Iz (.dX ns)↔∃a,v=Δ a/\iI K S a IB:=Ri
def bo.A5 br m9:Iz (ο n)↔∃a,v=Δ a/\xN:=Ri
universe zE
def aHn gA:∀{l:qU},l.Nodup->∀{n m:Nat}(h1:Qn n)(h2:Qn m),l[n]=l[m]->n=m
 |[],_,n,m,h1,h2,e=>LR h1
 |x::l,nd,n,m,h1,h2,e=>by
  rw[List.nodup_cons]at nd;cases n with
  |zero=>
   cases m with
   |zero=>rfl
   |succ m=>
    simp only[List.getElem_cons_zero,List.getElem_cons_succ]at e;rw[nF (e▸List.getElem_mem _) nd.1]
  |succ n=>
   cases m with
   |zero=>
    simp only[List.getElem_cons_zero,List.getElem_cons_succ]at e;rw[nF (e▸List.getElem_mem _) nd.1]
   |succ m=>
    simp only[List.getElem_cons_succ]at e;rw[aHn nd.2 (a! h1) (a! h2) e]
abbrev Ou c9 aoy rV:cO fB
 |.gone=>∃o,H a=cy
 |ς xs=>JP/\∃vs,H a=XU/\gR
 |.ak kvs=>JP/\∃aG,H a=XS .bA/\R_
 |.jk kvs=>JP/\∃aG,H a=XS .dT/\R_
 |.bO kvs=>∃ob aG,S a=lB .b! .bA/\H a=lB .b! .bA/\R_
 |dB C fs=>JP/\∃dx kI,H a=aY (dB C dx kI)/\JJ fs kI
 |bW C=>JP/\H a=aY (OL a C)
structure gk c9 aoK dF jX:Prop where
 sub:nQ S H
 len:agF ι.length
 nd:ι.Nodup
 ob:∀dj rV(o:fB),xN->acw M->Lo H a
abbrev Slots c9 aoK(ρ:ej)(σ:St):Prop:=
 ρ.length=σ.length/\∀iw m7,pA ρ i x->∃v,pA σ i v/\jI
section
variable {K:fh}{ι ι':cY}{S S' H H':aP}{M M':aL}{ρ:ej}{σ:St}
def Ou.there jo azn:∃u,H a=dO:=by
 cases o with
 |gone=>exact h
 |lst xs=>rw[aBW vs e h e]
 |ak xs=>rw[aBW vs e h e]
 |jk xs=>rw[aBW vs e h e]
 |bO xs=>rw[aAm e h e]
 |ins C fs=>obtain⟨_,dx,vs,e,_⟩:=h;rw[ie e]
 |exc C=>rw[aA0 e h e]
def Ou.up jo azn(e:SY S)(hs:JP->auC a)(hh:H' a=H a):Ou K ι' S' H' a o:=by
 cases o with
 |gone=>rw[nH u q h u VJ]
 |lst xs=>rw[NK z q r h (hs z) VJ (r.up e)]
 |ak xs=>rw[NK z q r h (hs z) VJ (r.up e)]
 |jk xs=>rw[NK z q r h (hs z) VJ (r.up e)]
 |bO xs=>rw[we ob vs z q h ob vs (e.sm _ _ z) VJ (r.up e)]
 |ins C fs=>rw[we z dx vs q h (hs z) dx vs VJ (r.up e)]
 |exc C=>rw[nH z q h (hs z) VJ]
def Slots.mono(s:FD)(e:r8):yG ι' S' ρ σ:=⟨s.1,λi x h=>by
 rw[RX v (s.2 i x h) v h1 (h2.mono e)]⟩
def Slots.set(s:FD)apd iw:yG ι S (EU i) (ajB fU):=by
 rw[L9 (aK s.1) j y hj];by_cases hij:i=j
 ·subst hij;rw[rz hl (i<dR (EU i)) (List.getElem?_eq_some_iff.mp hj).1 List.length_set hl];rw[Hz hl hj];cases hj;rw[bQ v (lQ (agE (by rw[cA s.1 hl]))) h]
 ·rw[LN hij hj];rw[RX w (s.2 j y hj) w (by rw[au (List.getElem?_set_ne hij) h1]) h2]
def gk.addr xA br jo(h:xN):∃o,acw M/\Lo H a:=by
 rw[W7 hl (EB n) (by rw[←s.len];exact LJ.1) M[n] S2 (s.ob n a _ h S2)]
def gk.at xA br xC afp:∃a,xN/\Lo H a:=by
 rw[W7 hl (aDt n) (by rw[fX s.len LJ.1]) ι[n] S2 (s.ob n _ o S2 h)]
def gk.fresh xA ve(h:sN):p∉ι:=λhm=>by
 rw[Š n hn (List.getElem_of_mem hm)];obtain⟨o,_,q⟩:=s.addr (List.getElem?_eq_some_iff.mpr ⟨hn,e⟩);rw[SV u z q.there h z];cases z
def gk.TL xA ve(h:sN):Y6 p:=s.sub.free h
def gk.tree xA ve{o:jn}(h:sN):gk K ι (upd S p o) M (CO p)/\JH (upd S p o) (CO p):=by
 rw[sy hS (s.TL h) sm (nQ S (upd S p o)) (λb u q=>by rw[J0 hS]) up (Up ι S ι (upd S p o)) (NU _ _ h h sm)];rw[iC (abB u s.len n a u) ⟨up,List.take_length,tZ u h1 h2 h3⟩]
 ·rw[vR (b=p)]
  ·subst hb;rw[ux g6 q q]
  ·rw[ux F_ q (PM u q)]
 ·rw[RO a p z (s.fresh h (LL z h1)) ((QZ n a u).up up (cK (by rw[Dc z])) (lA aU))]
 ·have aU:=wQ h1 h;rw[bQ (by rw[Dc h1]) h2 (by rw[Dc h3])]
def gk.side xA ve{o:jn}(h:sN):gk K ι S M (CO p)/\JH S (CO p):=by
 rw[iC (abB u s.len n a u) ⟨WK _ _ h h S,List.take_length,tZ u h1 h2 h3⟩]
 ·rw[gZ (wQ (PM u q) h) (PM u q)]
 ·rw[RO a p z (s.fresh h (LL z h1)) ((QZ n a u).up (WK _ _ h h S) (cK z) (lA aU))]
 ·have aU:=wQ h1 h;rw[bQ (by rw[Dc h1]) h2 h3]
def gk.enter xA ve xC(hp:p∉ι)(h:Lo H p):gk K (ι++[p]) S (M++[o]) H:=by
 refine⟨s.sub,ah2,?_,mE n a u h1 h2⟩
 ·rw[List.nodup_append];rw[eV s.nd Θ (je a ha b hb)];rw[List.mem_singleton]at hb;rw[fq hb (cK (hp (z▸ha)))]
 ·by_cases hn:aDt n
  ·rw[List.getElem?_append_left hn]at h1;rw[agL (by rw[cA s.len hn])]at h2;exact(QZ n a u).up (.push p) (cK z) rfl
  ·rw[Ia e1 (n=ι.length) (by
    have:=aOv.1;rw[ź];omega) e1];simp at h1;rw[pG s.len h2 h2];subst h1;rw[fq h2 (h.up (.push _) (cK z) rfl)]
def gk.new xA ve{u:jn}xC(h:sN)(ho:Lo (q7 p u) p):gk K (ι++[p]) S (M++[o]) (q7 p u)/\U3 S H (ι++[p]) S (q7 p u):=by
 rw[iC ((s.side h).1.enter (s.fresh h) ho) ⟨.push p,Θ,tZ v h1 h2 h3⟩];have aU:=wQ h1 h;rw[bQ (by rw[Dc h1]) (gh h2 aU) h3]
def gk.inj xA{n m:Nat}jo(h1:xN)(h2:h9 ι m a):n=m:=by
 obtain⟨l1,e1⟩:=aOv;rw[ee l2 e2 aAw (aHn s.nd l1 l2 aPb)]
def gk.put xA br jo{u:jn}xC(h:xN)(hS:JP)(ho:Lo (q7 a u) a):gk K ι S (Nh o) (q7 a u)/\JH S (q7 a u):=by
 rw[iC (abB v ah2 m b v) ⟨WK _ _ h h S,List.take_length,tZ v h1 h2 h3⟩]
 ·rw[gZ (wQ q hS) (PM v q)]
 ·by_cases hm:n=m
  ·rw[yP hm h h1];cases h1
   have hl:EB n:=by
    rw[Qe aAw.1]
   rw[Hz hl h2];cases h2;exact ho
  ·rw[LN hm h2];have aU:b≠a:=λz=>hm (s.inj h (z▸h1));exact(QZ m b v).up (WK _ _ h h S) (cK z) (lA aU)
 ·rw[W7 aU (b≠a) (cK (h2 (LL z h))) (by rw[Dc h1]) h2 h3]
def gk.freeze xA br jo d5(h:xN)(hM:M[n]? = g!):
  ∃S',gk K ι S' (Nh .gone) H/\JH S' H/\bo K ι S' (ς xs) (Δ a):=by
 obtain⟨hS,vs,hH,hr⟩:=s.ob n a _ h hM
 rw[č sm (nQ S (FN S a vs)) (λb u q=>by rw[J0 hS]) up (Up ι S ι (FN S a vs)) (NU _ _ h h sm) ⟨FN S a vs,abB u ah2 m b v,⟨up,List.take_length,tZ v h1 h2 h3⟩,bo.adp.mpr (mC a vs g6 (hr.up up))⟩]
 ·rw[vR (b=a)]
  ·rw[RY q];cases q;exact hH
  ·rw[bG F_ q (PM u q)]
 ·by_cases hm:n=m
  ·rw[yP hm h h1];cases h1;have hl:EB n:=aAx.1;rw[Hz hl h2];cases h2;rw[ie hH]
  ·rw[LN hm h2];have aU:b≠a:=λz=>hm (s.inj h (z▸h1));exact(QZ m b v).up up (cK (by rw[Dc z])) rfl
 ·rw[W7 aU (b≠a) (cK (h2 (LL z h))) h1 h2 (by rw[Dc h3])]
universe zE
inductive Res(α:Type) where
 |ok(a:α)dF
 |exc Pu dF
 |bad
abbrev Res.bind rW:yd->(α->aL->akX)->akX
 |.ok a M,f=>f a M
 |bW c M,_=>bW c M
 |aF,_=>aF
@[simp] def Res.ag rW{a:α}cw aaH:(Ā a).bind f=f a M:=rfl
@[simp] def Res.aW0 rW tL cw aaH:(Res.exc c M:yd).bind f=bW c M:=rfl
@[simp] def Res.a75 rW aaH:(Res.bad:yd).bind f=aF:=rfl
abbrev Res.opt gA(o:at7)dF:yd:=match o with
 |some a=>.ok a M
 |none=>aF
@[simp] def Res.aw6 gA{a:α}cw:agj (some a) M=.ok a M:=rfl
@[simp] def Res.aW1 gA cw:Res.opt (none:at7) M=aF:=rfl
abbrev ez rW aNv(aH:d_)aoy(Q:β->dS):cO yd
 |.ok x M'=>∀ι' S' H' v,r8->Vt->c8 ι' S' x v->oJ v
 |bW c M'=>∀ι' S' H',r8->Vt->aH (Δ c) none H'
 |aF=>False
section
variable {α β γ δ:Type}{K:fh}{c8:cY->aP->α->cO β}{aJ8:cY->aP->γ->cO δ}{aH:d_}{ι ι':cY}{S S' H H':aP}{Q Q':β->dS}{P:δ->dS}{r:yd}
def ez.up(h:ez K c8 aH ι S H Q r)(e:r8):ez K c8 aH ι' S' H' Q r:=by
 cases r with
 |ok x M=>exact λι1 bf H1 v e1 s1 r1=>h ι1 bf H1 v VI s1 r1
 |exc c M=>exact λι1 bf H1 e1 s1=>h ι1 bf H1 VI s1
 |bad=>exact h
def ez.bind{f:α->aL->Res γ}(h:ez K aJ8 aH ι S H P (r.bind f))
  (g:∀ι1 bf aa H1 x v,U3 S H ι1 bf H1->gk K ι1 bf aa H1->c8 ι1 bf x v->ez K aJ8 aH ι1 bf H1 P (f x aa)->Q v H1):ez K c8 aH ι S H Q r:=by
 cases r with
 |ok x M=>exact λι1 bf H1 v e1 s1 r1=>g ι1 bf M H1 x v e1 s1 r1 (ez.up h e1)
 |exc c M=>exact h
 |bad=>exact h
universe zE
abbrev zo rW aNv UY(d:ej->aL->yd)afR(Q:β->dS):Prop:=
 ∃ι S M ρ,vm/\FD/\ez K c8 (aH σ) ι S H Q dN
noncomputable abbrev bu:=ej->aL->n0
noncomputable abbrev aG9:=ej->aL->Res fZ
noncomputable abbrev iK:=ej->aL->Res Bool
noncomputable abbrev oS c9:cY->aP->aj->cO V:=λι S x v=>jI
noncomputable abbrev ayK c9:cY->aP->fZ->cO di:=λι S x v=>qd x v
noncomputable abbrev N0:cY->aP->Bool->cO Bool:=λ_ _ x v=>v=x
structure aKu xu UC mh:Prop where
 out:acz (aci d)
structure aKv xu UC(d:iK):Prop where
 out:tD X e (W9 N0 d)
structure D0 xu UC(d:iK):Prop where
 out:PW X e (W9 N0 d)
structure a70 xu(es:dI)(d:aG9):Prop where
 out:pZ X es (W9 (ayK X.K) d)
def Br.imp l? Pq{t t':TE}(h:acz t)aaR:acz t':=Yl s H Q I s H Q I (i σ H Q hw)
def tD.imp l? Pq{t t':kK}(h:tD X e t)aaR:tD X e t':=Yl s H Q I s H Q I (i σ H Q hw)
def PW.imp l? Pq{t t':kK}(h:PW X e t)aaR:PW X e t':=λw pins s σ H Q I hw=>h w pins s σ H Q I (i σ H Q hw)
def pZ.imp l?{es:dI}{t t':nV}(h:pZ X es t)aaR:pZ X es t':=λpos pins s σ H Q I hw=>h pos pins s σ H Q I (i σ H Q hw)
def D0.aFS l? aaM Pq{d:iK}(h:D0 X aH e d):Ct e d:=⟨PW.pt h.out⟩
universe L2
universe zE
end
mutual
section
namespace L2
open PySem PySem.Spec PyProof.Rows
section
variable {X:bY}{aH:St->d_}{a b c e:Expr}{es:dI}{da db pQ d:bu}{ds:tO}{pos:Pos}
abbrev ae iw:bu:=λρ M=>match ρ[i]? with
 |Hw x=>.ok x M
 |_=>aF
def af iw eo(hN:acu:=by rfl)(hv:aCV x:=by first | exact apG | exact Or.inr apG | exact Or.inr aAj)
  aLP:jc (c_ x pos) (ae i):=⟨by
 rw[Ym (Br.imp (a0V hN hv hd zB) λσ H Q h=>?_) S M w h];rw[Fo ae];cases q:ρ[i]? with
 |none=>rw[nt q]
 |some o=>
  cases o with
  |none=>rw[nt q]
  |some y=>
   rw[q]at w;rw[RX v (sl.2 i y q) v h1 (vM v h2)]⟩
abbrev dC m7:bu:=cQ M (.ok x M)
def aW2 vc(h:acz (ad2 v))(r:∀ι S,bo X.K ι S x v):jc e (dC x):=⟨by
 rw[Ym (Br.imp h λσ H Q hh=>?_) S M w hh]
 exact vM v (r ι S)⟩
def bT iO{j}:vE B0 (η i) j (Ξ i):=ajG a0W E6
def uR G7{j}:vE B0 (qg b) j (dC (.ai b)):=ajG a2I E!
def ew{j}:vE B0 cP j (dC .ah):=ajG a0X ð
def cN eo{j}:vE B0 (aE x) j (c5 x):=ajG aJV aLz
def q0 eo iO{t:Tok}(hm:X.mg x=sq η i t)(hg:Lk:=by rfl)K7:jc (c_ x pos) (Ξ i):=
 ajG (aIP hg hm (v:=η i) (gg t) hd) E6
abbrev fx:tO->aG9
 |[]=>cQ M (.ok [] M)
 |d::ds=>Ĩ (dN).bind (ģ aa).bind xs (.ok (x::xs) M2)
noncomputable abbrev aWH c9 dj:cY->aP->fZ->cO di:=λι S x v=>qd x v/\x.length=n
structure anS xu(es:dI)Lh:Prop where
 out:pZ X es (W9 (Ck X.K) (fx ds))
def tP:anS X aH [] []:=⟨by
 rw[Ym (pZ.imp aeo (Rf H Q h)) S M w h]
 exact vM [] (gg c6)⟩
def xF(ha:El e)(hr:Y3 es)azT:anS X aH (e::es) (d::ds):=⟨by
 rw[Qv (pZ.imp (Tu ha.out hr.out hs) (Rf H Q h)) S M w h ⟨ι,S,M,ρ,ba,sl,vN⟩];refine R4 (ez.bind (c8:=Ck X.K) w1 λι2 b8 M2 H2 xs vs e2 s2 r2 w2=>?_)
 exact w2 ι2 b8 H2 (v::vs) lM s2 ⟨b4 Nf r2.1,aK r2.2⟩⟩
abbrev uT m5 vf dF:n0:=ahu (Fb lim) (if aO live then .ok gC (M++[ς xs]) else .ok (ς xs) M) aF
def ZR{ι:cY}aoS BL p0 Pg p6 kM aa6(r:gR)(w:FE (xS xs)):
  aB6/\∀p,sN->Q (Δ p) (rq p vs):=by
 rw[Fo uT];split at w
 ·rw[L4];rw[iC (by rw[cA r.length (aml hl)]) uc];split at w
  ·rw[ĥ hS (ba.TL hp) s2 e2 (ba.new (u:=ς vs) (o:=ς xs) hp ⟨hS,vs,g6,r⟩)];refine w _ _ _ _ e2 s2 (bo.A5.mpr (wo p));rw[aC4]
  ·rw[ee s2 e2 (ahi (ς vs) hp) (w _ _ _ _ e2 s2 (bo.adp.mpr (mC p vs g6 (r.mono e2))))]
 ·rw[cX]
@[simp] def fL Pz(h:Fb lim):Mi xs M=.ok (ς xs) M:=by rw[iU uT yK asR]
@[simp] def ml Pz(h:Fb lim):uT true xs M=.ok gC (M++[ς xs]):=by rw[iU uT yK eK]
abbrev fg Lh:bu:=BZ (xV).bind xs (.ok (aQ xs) aa)
abbrev nL m5 Lh:bu:=BZ (xV).bind xs (uT live xs aa)
def mP{x1}(h:Y3 es)(hn:ŝ 1000:=by exact LK):vE M9 es x1 (fg ds):=⟨by
 rw[L0 (a1s h.out) hh hh S M (ez.bind (c8:=Ck X.K) w λι1 bf aa H1 xs vs e1 s1 r1 w1=>?_)];rw[iC (by rw[←lI r1.1,r1.2];exact ar7 (aHl hn)) uc];rw[ee s2 e2 (s1.tree (o:=aQ vs) hp) (w1 _ _ _ _ e2 s2 (ê p vs g6 (r1.1.mono e2)))]⟩
def au2 m5(h:Y3 es):jc (.List es pos) (nL live ds):=⟨by
 rw[L0 (a1t h.out) hh hh S M (ez.bind (c8:=Ck X.K) w λι1 bf aa H1 xs vs e1 s1 r1 w1=>?_)]
 exact ZR s1 r1.1 w1⟩
abbrev Ka dF:aj->wm fZ
 |ς xs=>j_
 |ο n=>match M[n]? with
  |g!=>j_
  |_=>none
 |_=>none
@[simp] def Kf cw d5:oF (ς xs)=j_:=rfl
@[simp] def a76 cw d5:bR (oF (aQ xs)):=rfl
@[simp] def Bz cw br:oF (ο n)=(match M[n]? with | g!=>j_ | _=>none):=rfl
def ik zN gX d5 m9 Hg(h:CT=j_):∃p vs,v=Δ p/\H p=XU/\gR:=by
 cases x with
 |lst ys=>
  cases h;rw[î p vs e q r];exact XV p (wg e) q
 |obj n=>
  rw[gY p e (bo.A5.mp r)];obtain⟨o,e2,q⟩:=ba.addr e;simp only[Bz,e2]at h;cases o with
  |lst ys=>
   cases h;rw[agh h1 h2 q];exact XV p h1 h2
  |_=>cases h
 |_=>cases h
abbrev oY dF m7:wm fZ:=match x with
 |aQ xs=>j_
 |.dX ns=>aY Ù
 |x=>CT
@[simp] def pv cw d5:oY M (ς xs)=j_:=rfl
@[simp] def aW3 cw d5:oY M (aQ xs)=j_:=rfl
@[simp] def a77 cw UE:oY M (.dX ns)=aY Ù:=rfl
@[simp] def amm cw br:oY M (ο n)=(match M[n]? with | g!=>j_ | _=>none):=rfl
def bF.ints jH:∀ns:fD,qd (ns.map aj.int) IB
 |[]=>c6
 |n::ns=>b4 E6 (bF.ints ns)
def xb zN gX d5 m9 Hg(h:oY M x=j_):
  ∃p vs,v=Δ p/\(iI K H p vs\/GH K H p vs)/\gR:=by
 cases x with
 |tup ys=>
  cases h;rw[Dd p e q r];exact XV p (aA (.of (wg e))) q
 |dX ns=>
  cases h;rw[gY p e (bo.xa.mp r)];exact FQ p (Ω aLA) (.ints ns)
 |lst ys=>
  rw[wB p vs e1 e2 q (ik ba r h) p vs e1 (Ω (.of e2)) q]
 |obj n=>
  rw[wB p vs e1 e2 q (ik ba r h) p vs e1 (Ω (.of e2)) q]
 |_=>cases h
noncomputable abbrev D2:=aj->aj->aL->n0
abbrev ZX c9(f:D2):o6:=λx y H Q=>∃E ι S M p q,vm/\Av p x/\Av q y/\FE (f p q M)
abbrev cg(f:D2)afi:bu:=Ĩ (da ρ M).bind (db ρ aa).bind y (f x y M2)
def anu{f:D2}kM zL p0(h:zo K (oS K) aH (cg f da db) σ H Q):amk (ZX K f) (XF K aH da) (XF K aH db) σ H Q:=by
 rw[JK ⟨ι,S,M,ρ,ba,sl,ez.bind (c8:=oS K) w λι1 bf aa H1 x v e1 s1 r1 w1=>?_⟩];refine R4 (ez.bind (c8:=oS K) w1 λι2 b8 M2 H2 y u e2 s2 r2 w2=>?_);exact⟨_,ι2,b8,M2,x,y,s2,Nf,r2,w2⟩
def rB{op:Operator}{f:D2}(ho:oz (binaryOp op) (En f))afU:jc (.BinOp a op b pos) (cg f da db):=Wz (aca ho ha.out hb.out) _ _ _ h (anu h)
def aER.imp{f:XX}{r r':o6}(h:oz f r)(i:∀x y H Q,r' x y H Q->r x y H Q):oz f r':=λpins s σ H x y v u Q I rx bg q=>h pins s σ H x y v u Q I rx bg (i x y H Q q)
abbrev oV(C:Int->apJ)(g:Int->Int->aj):D2:=λx y M=>match x,y with
 |η i,η j=>BU (aO (C i j)) .ok (g i j) aF
 |_,_=>aF
@[simp] def a78 aNr Pe(h:aO (C i j)):oV C g (η i) (η j) M=.ok (g i j) M:=by unfold oV;simp[h]
def pw kM aNr{x y:V}iP p0(h:ZX K (oV C g) x y H Q):
  ∃i j,x=η i/\y=η j/\aO (C i j)/\∃ι S M,vm/\∀v,Iz (g i j)->Q v H:=by
 obtain⟨E,ι,S,M,p,q,ba,rx,bg,w⟩:=h;cases p with
 |int i=>
  cases q with
  |int j=>
   rw[cF hx aC8 hy atb];rw[VS oV];split at w
   ·rw[Jo];exact⟨i,j,hx,hy,hc,ι,S,M,ba,λv hv=>vM v hv⟩
   ·rw[cX]
  |_=>rw[cX]
 |_=>rw[cX]
abbrev azf:D2:=Yj aiQ i j (η (i-j))
abbrev wV:D2:=Yj (cQ j (ue (0<j) (ċ j))) i j (η (i / j))
abbrev mO:D2:=Yj (cQ j (iY (0<j))) i j (η (i%j))
def aZi:Aj Sub (En azf):=a1l.imp λx y H Q h=>by
 obtain⟨i,j,rfl,rfl,_,ι,S,M,ba,k⟩:=pw h;exact jd i j rfl (k _ E6)
def il:Aj FloorDiv (En wV):=aYF.imp λx y H Q h=>by
 obtain⟨i,j,rfl,rfl,hc,ι,S,M,ba,k⟩:=pw h;exact Jc i j rfl (show 0<j/\ċ j from aPs) (k _ E6)
def yZ:Aj Mod (En mO):=a1n.imp λx y H Q h=>by
 obtain⟨i,j,rfl,rfl,hc,ι,S,M,ba,k⟩:=pw h;exact Jc i j rfl aPs (k _ E6)
abbrev small p8:Bool:=ue (-(2 ^ 64)<i) (i<2 ^ 64)
abbrev wU m5:D2:=λx y M=>match x,y with
 |η i,η j=>.ok (η (i+j)) M
 |aQ xs,aQ ys=>BU (cW xs.isEmpty/\aDP≤lim) .ok (aQ (xs++ys)) aF
 |x,y=>match CT,oF y with
  |j_,HT=>xS (xs++ys)
  |_,_=>aF
@[simp] def aHZ Pg Pe:wU live (η i) (η j) M=.ok (η (i+j)) M:=rfl
@[simp] def Tl Pg apj cw:wU live (ς xs) (ς ys) M=xS (xs++ys):=rfl
def aUQ kM Pg{x y:V}iP p0(h:ZX K (wU live) x y H Q):
  (∃i j,x=η i/\y=η j/\Q (η (i+j)) H)\/X2 K x y H Q\/anY x y H Q:=by
 obtain⟨E,ι,S,M,p,q,ba,rx,bg,w⟩:=h
 rw[LY lists (∀apj,oF p=j_->oF q=HT->FE (xS (xs++ys))->anY x y H Q) (λ{xs ys} h1 h2 w=>by
  rw[dw l vs e1 r1 (ik ba rx h1)];rw[dw b us e2 r2 (ik ba bg h2)];rw[B7 w1 w2 (ZR ba aDG w) ⟨l,b,vs,us,rfl,rfl,e1,e2,a! w1,w2⟩]) other ((wU live p q M=match oF p,oF q with | j_,HT=>xS (xs++ys) | _,_=>aF)->anY x y H Q) e (by
  rw[e]at w;cases h1:oF p with
  |none=>rw[nt h1]
  |some xs=>
   cases h2:oF q with
   |none=>rw[h1,h2]at w;rw[cX]
   |some ys=>rw[h1,h2]at w;exact lists h1 h2 w)]
 cases p with
 |int i=>
  cases q with
  |int j=>exact Ω ⟨i,j,aC8,atb,JD⟩
  |_=>exact aA (aA (other rfl))
 |tup xs=>
  cases q with
  |tup ys=>
   refine aA (Ω ?_);rw[VS wU];split at w
   ·rw[Jo];rw[Dd l e1 r1 rx];rw[dw b us e2 r2 (bo.au8.mp bg)];refine⟨l,b,vs,us,rfl,rfl,.of (wg e1),.of (wg e2),dJ z,?_,dJ z,cG _ p hp⟩
    ·subst z;have:=r1.length;cases xs with
     |nil=>cases hc.1
     |cons _ _=>rw[ź]
    ·rw[MH r1.length r2.length (aml hc.2)]
    ·subst z;have:=r2.length;cases ys with
     |nil=>
      rw[bG eP w (vM _ rx)]
     |cons _ _=>rw[ź]
    ·rw[ee s2 e2 (ahi (aQ (vs++us)) hp) (w _ _ _ _ e2 s2 (ê p _ g6 ((aDG).mono e2)))]
   ·rw[cX]
  |_=>exact aA (aA (other rfl))
 |_=>exact aA (aA (other (by cases q<;>rfl)))
def cn m5:Aj Add (En (wU live)):=(a1k.or (aZB.or a1d)).imp λx y H Q h=>by
 rcases aUQ h with⟨i,j,hx,hy,q⟩ | h | h
 ·exact Ω ⟨i,j,hx,hy,q⟩
 ·exact aA (Ω h)
 ·exact aA (aA h)
abbrev qA m5:D2:=λx y M=>match x,y with
 |η i,η j=>agY (small i||small j) (.ok (η (i*j)) M) aF
 |x,η k=>match CT with
  |j_=>Ir (ŏ k/\k<2 ^ 62 /\ -(2 ^ 62)<k/\aCW≤lim) (xS (F2 (aqi xs)))
  |none=>aF
 |_,_=>aF
@[simp] def aW4 Pg Pe(h:g5 (small i||small j)):qA live (η i) (η j) M=.ok (η (i*j)) M:=by unfold qA;simp only[yK]
def aQ9 m5:Aj Mult (En (qA live)):=(a1m.or a1e).imp λx y H Q h=>by
 obtain⟨E,ι,S,M,p,q,ba,rx,bg,w⟩:=h
 have rep:∀{k:Int},q=η k->(qA live p q M=match oF p with
  |j_=>Ir (ŏ k/\k<2 ^ 62 /\ -(2 ^ 62)<k/\aCW≤lim) (xS (F2 (aqi xs)))
  |none=>aF)->aPS x y H Q:=λ{k} e1 e2=>by
  rw[yP e1 e2 w];cases h1:oF p with
  |none=>rw[nt h1]
  |some xs=>
   rw[h1]at w
   rw[dw l vs e3 r1 (ik ba rx h1)];dsimp only at w;split at w
   ·rw[Jo];rw[asv w1 w2 (ZR ba (r1.rep k.toNat) w) hy atb];subst hy;refine⟨l,k,vs,rfl,rfl,e3,?_,?_,?_,w2⟩
    ·rw[eg hc.2.2.1]
    ·rw[eg hc.2.1]
    ·rw[cA r1.length (aml hc.2.2.2)]
   ·rw[cX]
 cases q with
 |int j=>
  cases p with
  |int i=>
   left;rw[VS qA];split at w
   ·rw[Jo];refine⟨i,j,aC8,atb,?_,JD⟩;rcases Bool.or_eq_true_iff.mp hc with z | z
    ·exact Ω aPH
    ·exact aA aPH
   ·rw[cX]
  |_=>exact aA (rep rfl rfl)
 |_=>cases p<;>exact w.elim
universe zE
universe L2
universe zE
section
namespace L2
open PySem PySem.Spec PyProof.Rows
abbrev Of rW(f:yT α β):qU->wm akn
 |[]=>some []
 |x::xs=>match f x,sM f with
  |C!,HT=>aY (y::ys)
  |_,_=>none
abbrev leaf:yT aj PyData
 |.ah=>some cP
 |.ai b=>d7 qg b
 |η i=>yo
 |aE x=>oq (PyData.canLay0 (aE x)) (d7 aE x) none
 |_=>none
abbrev flat dF:p! (yT aj PyData)
 |0,x=>leaf x
 |k+1,x=>match x with
  |ς xs=>(sM (Qm k)).map F8
  |aQ xs=>(sM (Qm k)).map Xz
  |ο n=>match M[n]? with
   |g!=>(sM (Qm k)).map F8
   |_=>none
  |x=>leaf x
def aJf jH tK vc qP apk(r:jI)(cL:oA)(e:cu (leaf x) d):Reads h u d []/\ñ/\d.depth=0:=by
 cases x with
 |ah=>
  cases e;cases asU;cases cL;exact PV cP
 |ai b=>
  cases e;cases Ú;cases cL;exact PV (qg b)
 |int i=>
  cases e;cases aiq;rw[abl t cL (PV (η i t))]
 |str z=>
  simp only[leaf]at e;split at e
  ·rw[Jo];cases e;cases air;rw[abl t cL (jy (aE z t) hc)]
  ·cases e
 |_=>cases e
def adK jH tK d6{f:yT aj PyData}
  (ih:∀x v u d,jI->oA->cu (f x) d->(∃as,Reads h u d as)/\ñ/\aju k):
  ∀vf D? BJ(ds:as8),gR->Rh->cu (sM f) ds->(∃as,ReadsAll h us ds as)/\aNG ds/\PyData.depthAll ds≤k
 |[],vs,us,ds,r,cL,e=>by
  rw[bF]at r;subst r;cases cL;cases e;exact lK ⟨_,c6⟩ q4
 |x::xs,vs,us,ds,r,cL,e=>by
  rw[dw v r' h1 h2 r.w5];cases cL with
  |cons ay a_=>
   rw[Of]at e;cases e1:f x with
   |none=>rw[e1]at e;cases e
   |some y=>
    cases e2:sM f with
    |none=>rw[e1,e2]at e;cases e
    |some ys=>
     rw[e1,e2]at e;cases e;rw[ap1 as a1 a2 a3 (ih x v _ y h1 ay e1) bs b1 b2 acE (adK ih xs r' _ ys h2 a_ e2)];rw[De ⟨_,b4 a1 b1⟩ ?_]
     ·rw[PyData.canLayAll0,a2,b2];rfl
     ·rw[au PyData.depthAll (Nat.max_le.mpr ⟨a3,acE⟩)]
def al0 u? zN tK aa6(bz:R8):
  ∀o8 af2 G6(d:PyData),jI->oA->cu (flat M k x) d->(∃as,Reads h u d as)/\ñ/\aju k
 |0,x,v,u,d,r,cL,e=>by
  rw[qj h1 h2 h3 (aJf (h:=h) r cL e) ⟨_,h1⟩ h2 (Nat.le_of_eq h3)]
 |k+1,x,v,u,d,r,cL,e=>by
  rw[fu ih (al0 ba bz k) lst (∀jo p6,v=Δ a->H a=XU->gR->cu ((sM (Qm k)).map F8) d->(∃as,Reads h u d as)/\ñ/\aju (k+1)) (λ{a xs vs} ev aN hr e=>by
   subst ev;cases cL;obtain⟨_,cf,n,hv,hg⟩:=bz a _ aN;cases e2:sM (Qm k) with
   |none=>rw[e2]at e;cases e
   |some ds=>
    rw[e2]at e;cases e;obtain⟨⟨as,a1⟩,a2,a3⟩:=adK ih xs vs cf ds hr hv e2;rw[bQ ⟨_,F8 hg rfl rfl (a! a1)⟩ (by rw[au PyData.canLay0 a2]) (by rw[au PyData.depth (Nat.succ_le_succ a3)])])]
  cases x with
  |lst xs=>
   rw[B5 a ev ir hr (bo.adp.mp r)];exact lst ev (wg ir) hr e
  |tup xs=>
   rw[Dd a ir hr r];cases cL;obtain⟨_,cf,hv,o,hg,hc,n,hd⟩:=bz a _ (wg ir);have e:cu ((sM (Qm k)).map PyData.tuple) d:=e;cases e2:sM (Qm k) with
   |none=>rw[e2]at e;cases e
   |some ds=>
    rw[e2]at e;cases e;obtain⟨⟨as,a1⟩,a2,a3⟩:=adK ih xs vs cf ds hr hv e2;rw[bQ ⟨_,Xz hg hc hd (a! a1)⟩ (by rw[au PyData.canLay0 a2]) (by rw[au PyData.depth (Nat.succ_le_succ a3)])]
  |obj n=>
   rw[E8 a ev ei (bo.A5.mp r) o eM mo (ba.addr ei)];simp only[flat,eM]at e;cases o with
   |lst xs=>
    rw[ď aN hr mo (lst ev aN hr e)]
   |_=>cases e
  |_=>
   rw[qj h1 h2 h3 (aJf (h:=h) r cL e) ⟨_,h1⟩ h2 aD]
noncomputable abbrev deep:Nat:=10
section
variable {X:bY}{aH:St->d_}{a b c e:Expr}{es:dI}{da db pQ d:bu}{ds:tO}{pos:Pos}
abbrev fi apl:D2:=λx y M=>match Fx x,Fx y with
 |some p,some q=>.ok (.ai (BS (PyData.eqv p q) (PyData.eqv p q))) M
 |_,_=>aF
def aJg kM qQ{x y:V}iP p0(h:ZX K (fi neg) x y H Q):
  ∃ι S M p q d1 d2,vm/\Av p x/\Av q y/\cu (Fx p) d1/\cu (Fx q) d2/\Q (.ai (BS (PyData.eqv d1 d2) (PyData.eqv d1 d2))) H:=by
 rw[JL p q rx bg fi];cases e1:Fx p with
 |none=>rw[nt e1]
 |some d1=>
  cases e2:Fx q with
  |none=>rw[e1,e2]at w;rw[cX]
  |some d2=>
   rw[e1,e2]at w;exact⟨ι,S,M,p,q,d1,d2,ba,rx,bg,e1,e2,Ŷ⟩
def cq tM:Ji Eq (fi false):=by
 rw[FG];obtain⟨ι,S,M,p,q,d1,d2,ba,px,py,e1,e2,w⟩:=aJg h;rw[ap1 as a1 a2 a3 (Ż ba p x v d1 px rx e1) bs b1 b2 acE (Ż ba q y u d2 py bg e2)];exact SeqAt.compareEq_reads a1 b1 a2 b2 (by have:=aN9 d2.depth;rw[EG (d1.depth≤10) a3]) (Fz .ai _ I w)
def ZC tM:Ji NotEq (fi true):=by
 rw[FG];obtain⟨ι,S,M,p,q,d1,d2,ba,px,py,e1,e2,w⟩:=aJg h;rw[ap1 as a1 a2 a3 (Ż ba p x v d1 px rx e1) bs b1 b2 acE (Ż ba q y u d2 py bg e2)];exact SeqAt.compareNe_reads a1 b1 a2 b2 (by have:=aN9 d2.depth;rw[EG (d1.depth≤10) a3]) (Fz .ai _ I w)
abbrev iH:yT aj Key
 |η i=>d7 Ω i
 |aE x=>d7 aA x
 |_=>none
abbrev TZ:aj->wm qi
 |aQ xs=>sM iH
 |_=>none
abbrev nO tG [Ca] (kvs:R9)qT:qW:=Ho (kvs.find? (Nb (j7=k))).map
abbrev kE tG [Ca] (kvs:R9)qT(v:aj):R9:=
 if kvs.any (Nb (j7=k)) then kvs.map (λkv=>aj5 (j7=k) v kv) else kvs++[(k,v)]
abbrev Kz tG [Ca] (kvs:R9)qT:R9:=kvs.filter (qu kv j7 k)
def Tn jH vc D!(r:jI)(e:iH x=fE):v=kV k:=by
 cases x with
 |int i=>cases e;exact aiq
 |str z=>cases e;exact air
 |_=>cases e
def awm jH:∀p6{ks:qi},gR->cu (sM iH) ks->vs=auf
 |[],vs,ks,r,e=>by rw[bF]at r;subst r;cases e;rfl
 |x::xs,vs,ks,r,e=>by
  rw[dw v r' h1 h2 r.w5];rw[Of]at e;cases e1:iH x with
  |none=>rw[e1]at e;cases e
  |some k=>
   cases e2:sM iH with
   |none=>rw[e1,e2]at e;cases e
   |some ks'=>
    rw[e1,e2]at e;cases e;rw[bB,←Tn h1 e1,←awm h2 e2]
def pR.val jH tG [Ca] Lc qT:
  (bR Ex/\bR (Gj aG k))\/∃x v,Ex=iB/\Gj aG k=fU/\jI:=by
 induction h with
 |nil=>exact Jf rfl
 |@cons p q kvs aG r t ih=>
  obtain⟨r1,r2⟩:=r;rw[lE (p.1=k)]
  ·refine aA ⟨p.2,q.2,Qw nO e,lQ (awv (r1▸e)),r2⟩
  ·have e':¬q.1=k:=r1▸e
   have h1:nO (p::kvs) k=Ex:=Qw nO e
   rw[ek h1 (aww e') ih]
def pR.any jH tG [Ca] Lc qT:kvs.any (Nb (j7=k))=aG.any (Nb (j7=k)):=by
 induction h with
 |nil=>rfl
 |cons r t ih=>rw[List.any_cons,List.any_cons,r.1,ih]
def pR.put jH tG [Ca] Lc qT vc(r:jI):JJ (kE kvs k x) (putK aG k v):=by
 unfold kE putK;rw[h.any k];split
 ·induction h with
  |nil=>rw[v8]
  |@cons p q kvs aG r' t ih=>
   rw[bB,bB];refine b4 ?_ ?_
   ·rw[lE (p.1=k)]
    ·rw[FP yL (r'.1▸e)];rw[cB r'.1 r]
    ·rw[arZ wF (r'.1▸e) r']
   ·rename_i hq;clear ih hq
    induction t with
    |nil=>rw[v8]
    |@cons p q kvs aG r' t ih=>
     rw[bB,bB];refine b4 ?_ ih;rw[lE (p.1=k)]
     ·rw[FP yL (r'.1▸e)];rw[cB r'.1 r]
     ·rw[arZ wF (r'.1▸e) r']
 ·induction h with
  |nil=>exact b4 (kR r) c6
  |cons r' t ih=>
   rename_i hq;refine b4 r' (ih ?_);intro z;exact hq (by rw[List.any_cons,z,Bool.or_true])
def pR.drop jH tG [Ca] Lc qT:JJ (Kz kvs k) (Oz aG k):=by
 unfold Kz Oz
 induction h with
 |nil=>rw[v8]
 |@cons p q kvs aG r t ih=>
  rw[List.filter_cons,List.filter_cons,←r.1];split
  ·exact b4 r ih
  ·exact ih
abbrev getD dF(x k:aj):wm qW:=match x with
 |ο n=>match M[n]? with
  |m_ .ak=>(iH k).map (nO kvs)
  |m_ .jk=>(TZ k).map (nO kvs)
  |m_ .bO=>(iH k).map (nO kvs)
  |_=>none
 |_=>none
def aH0 zN{x k:aj}{v y:V}{o:qW}Hg(bg:Av k y)(h:getD M x k=cy):
  ∃p ov,v=Δ p/\Uy H p/\Bf H p y ov/\((bR o/\bR ov)\/∃z w,cu o z/\cu ov w/\Av z w):=by
 cases x with
 |obj n=>
  rw[YF p ei r mo q ei getD h];cases mo with
  |ak kvs=>
   obtain⟨_,aG,aN,rk⟩:=q;rw[Co];cases eX:iH k with
   |none=>rw[eX]at h;cases h
   |some kk=>
    rw[eX]at h;cases h;rw[Yg (Tn bg eX)];refine Jc p (Gj aG kk) (F6 aG (Ω aN)) (Bf.k aN) ?_;rcases rk.val kk with⟨h1,h2⟩ | ⟨z,w,h1,h2,h3⟩
    ·exact F6 h1 h2
    ·exact aA ⟨z,w,h1,h2,h3⟩
  |jk kvs=>
   obtain⟨_,aG,aN,rk⟩:=q;rw[Co];cases k with
   |tup xs=>
    rw[Dd b ir hr bg];simp only[TZ]at h;cases eX:sM iH with
    |none=>rw[eX]at h;cases h
    |some kk=>
     rw[eX]at h;cases h;rw[Yg (awm hr eX)];refine Jc p (Gj aG kk) (r_ aG (Ω aN)) (Bf.t aN (wg ir)) ?_;rcases rk.val kk with⟨h1,h2⟩ | ⟨z,w,h1,h2,h3⟩
     ·exact F6 h1 h2
     ·exact aA ⟨z,w,h1,h2,h3⟩
   |_=>cases h
  |bO kvs=>
   obtain⟨ob,aG,_,aN,rk⟩:=q;rw[Co];cases eX:iH k with
   |none=>rw[eX]at h;cases h
   |some kk=>
    rw[eX]at h;cases h;rw[Yg (Tn bg eX)];refine Jc p (Gj aG kk) (F6 aG (r_ ob aN)) (Ω (akD aG kk (r_ ob aN))) ?_;rcases rk.val kk with⟨h1,h2⟩ | ⟨z,w,h1,h2,h3⟩
    ·exact F6 h1 h2
    ·exact aA ⟨z,w,h1,h2,h3⟩
  |_=>cases h
 |_=>cases h
abbrev jj apl:D2:=λx y M=>match oY M y with
 |HT=>match Fx x,Of aiK ys with
  |some p,some cH=>.ok (.ai (BS (cH.any (zR q q p)) (cH.any (zR q q p)))) M
  |_,_=>aF
 |none=>match getD M y x with
  |cy=>.ok (.ai (BS o.isSome o.isSome)) M
  |none=>aF
def aJO apl tM aaV
  (hL:∀nW{c x:Value}{xs:as8}apk{as bs:cY}rY(rc:aAg c (F8 xs) as)aML(hd:ñ)
   aMj,j6 (compareOp op x c) Q s)
  (hT:∀nW{c x:Value}{xs:as8}apk{as bs:cY}rY(rc:aAg c (Xz xs) as)aML(hd:ñ)
   aMj,j6 (compareOp op x c) Q s)
  (hD:∀Pn nW zL ve aa3{o:Ih}rY,ja->Bf H p y o->acn->(∀s',Nc->Q (qg (BS o.isSome o.isSome)) s') →
   j6 (compareOp op u (Δ p)) Q s):af5 (En (jj neg)):=by
 rw[FG];rw[JL p q px py jj];cases e1:oY M q with
 |some ys=>
  rw[yy e1 w w];cases e2:Fx p with
  |none=>rw[nt e2]
  |some d=>
   cases e3:Of aiK ys with
   |none=>rw[e2,e3]at w;rw[cX]
   |some cH=>
    rw[e2,e3]at w;have fin:=Ŷ;obtain⟨⟨as,a1⟩,a2,a3⟩:=Ż ba p x v d px rx e2;rw[dw l vs hq rs (xb ba py e1)];cases bg
    have room:ç (apC 1+aNL aBt):=by have:=aN8 aBt;rw[EG (aju 10) a3]
    rcases hq with hq | hq
    ·rw[I3 rv pl];obtain⟨⟨bs,b1⟩,b2,acE⟩:=adK (al0 ba I.bz deep) ys vs cf cH rs rv e3;obtain⟨o,n,ho,hc,_,hd⟩:=pl;exact hL (F8 ho hc hd (a! b1)) a1 b2 a2 room (Fz .ai _ I fin)
    ·rw[RQ rv pl];obtain⟨⟨bs,b1⟩,b2,acE⟩:=adK (al0 ba I.bz deep) ys vs cf cH rs rv e3;obtain⟨o,ho,hc,n,hd⟩:=pl;exact hT (Xz ho hc hd (a! b1)) a1 b2 a2 room (Fz .ai _ I fin)
 |none=>
  rw[yy e1 w w];cases e2:getD M q p with
  |none=>rw[nt e2]
  |some o=>
   rw[e2]at w;have fin:=Ŷ;obtain⟨l,ov,rfl,_,g,hh⟩:=aH0 ba py px e2;cases bg
   have lZ:o.isSome=ov.isSome:=by
    rcases hh with⟨h1,h2⟩ | ⟨z,w',h1,h2,_⟩
    ·rw[h1,h2];rfl
    ·rw[h1,h2];rfl
   rw[bG lZ fin (hD I g rx λs' I'=>Fz .ai _ I' fin)]
def oQ tM:Ji In (jj false):=
 aJO false hu (λrc rx OV hd hu h=>SeqAt.in_list_reads rc rx OV hd hu h) (λrc rx OV hd hu h=>SeqAt.in_tuple_reads rc rx OV hd hu h) λI g bg h=>a4X aD I g bg h
def avq tM:Ji NotIn (jj true):=
 aJO true hu (λrc rx OV hd hu h=>SeqAt.notIn_list_reads rc rx OV hd hu h) (λrc rx OV hd hu h=>SeqAt.notIn_tuple_reads rc rx OV hd hu h) λI g bg h=>aZt aD I g bg h
abbrev u6:D2:=Yj aiQ i j (.ai (iY (i<j)))
abbrev avD:D2:=Yj aiQ i j (.ai (F4 i j))
abbrev tg:D2:=Yj aiQ i j (.ai (iY (j<i)))
abbrev alf:D2:=Yj aiQ i j (.ai (F4 j i))
def aer:Ji Lt u6:=a26.imp λx y H Q h=>by
 obtain⟨i,j,rfl,rfl,_,ι,S,M,ba,k⟩:=pw h;exact jd i j rfl (k _ E!)
def aJP:Ji LtE avD:=a27.imp λx y H Q h=>by
 obtain⟨i,j,rfl,rfl,_,ι,S,M,ba,k⟩:=pw h;exact jd i j rfl (k _ E!)
def TM:Ji Gt tg:=a28.imp λx y H Q h=>by
 obtain⟨i,j,rfl,rfl,_,ι,S,M,ba,k⟩:=pw h;exact jd i j rfl (k _ E!)
def aJ6:Ji GtE alf:=a29.imp λx y H Q h=>by
 obtain⟨i,j,rfl,rfl,_,ι,S,M,ba,k⟩:=pw h;exact jd i j rfl (k _ E!)
abbrev Kq:ow aj
 |.ah=>true
 |_=>false
def aHo jH vc(r:jI):fK v .ah=Kq x:=by
 cases x with
 |ah=>cases asU;rfl
 |ai b=>cases Ú;rfl
 |int i=>cases aiq;rfl
 |str z=>cases air;rfl
 |lst xs=>obtain⟨p,vs,rfl,_⟩:=bo.adp.mp r;rfl
 |tup xs=>obtain⟨p,vs,rfl,_⟩:=bo.au8.mp r;rfl
 |obj n=>obtain⟨p,rfl,_⟩:=bo.A5.mp r;rfl
 |dX n=>obtain⟨p,rfl,_⟩:=bo.xa.mp r;rfl
abbrev gw apl:D2:=λx y M=>match y with
 |.ah=>.ok (.ai (BS (Kq x) (Kq x))) M
 |_=>aF
def Dy:Ji Is (gw false):=a1p.imp λx y H Q h=>by
 obtain⟨E,ι,S,M,p,q,ba,rx,bg,w⟩:=h;cases q with
 |ah=>
  rw[Nd (bo.kz.mp bg)];rw[au (aHo rx) Ŷ]
 |_=>rw[cX]
def Tv:Ji IsNot (gw true):=aZo.imp λx y H Q h=>by
 obtain⟨E,ι,S,M,p,q,ba,rx,bg,w⟩:=h;cases q with
 |ah=>
  rw[Nd (bo.kz.mp bg)];rw[au (aHo rx) Ŷ]
 |_=>rw[cX]
def qz aaV{f:D2}azO aMS:jc (ŷ a [op] [b] pos) (cg f da db):=Wz (aZp ho ha.out hb.out hm) _ _ _ h (anu h)
abbrev fO dF:yT aj Bool
 |.ah=>some false
 |.ai b=>nh
 |η i=>aY (i != 0)
 |aE x=>U5 (x.length≤lim) (aY (aS x.length != 0))
 |ς xs=>some Sv
 |aQ xs=>some Sv
 |.dX ns=>some ! ns.isEmpty
 |ο n=>match M[n]? with
  |g!=>some Sv
  |m_ .ak=>some arL
  |_=>none
def isEmpty_eq rW aa5{ys:akn}(h:Ŗ ys.length):xs.isEmpty=ys.isEmpty:=by cases xs<;>cases ys<;>simp_all
def HI zN vc{k:Bool}Hg(h:fO M x=fE):anW K v H k:=by
 cases x with
 |ah=>cases asU;cases h;rfl
 |ai b=>cases Ú;cases h;rfl
 |int i=>cases aiq;cases h;rfl
 |str z=>
  cases air;simp only[fO]at h;split at h
  ·cases h;rw[L4];exact gg (aml hl)
  ·cases h
 |lst xs=>
  rw[î p vs e q r];cases h;exact Ω ⟨vs,.of (wg e),arY⟩
 |tup xs=>
  rw[Dd p e q r];cases h;exact aA (Ω ⟨vs,.of (wg e),arY⟩)
 |dX ns=>
  rw[gY p e (bo.xa.mp r)];cases h;exact Ω ⟨_,aLA,lQ (isEmpty_eq (Θ:ns.length=dR IB))⟩
 |obj n=>
  rw[YF p e r o q e fO h];cases o with
  |lst xs=>
   cases h;rw[ď e q q (Ω ⟨vs,.of e,arY⟩)]
  |ak xs=>
   cases h;rw[ď e q q (aA (aA ⟨vs,e,arY⟩))]
  |_=>cases h
abbrev cU mh:iK:=ki (dN).bind (E2 aa x aa)
def bt Pp(he:∀whole,arK a whole=(do let v ←whole;standAt a.pos;Hv [v] (truthy v)):=by rw[acq _]):Ct a (cU da):=⟨by
 rw[Qv (tD.imp (aXp ha.out he) (Rf H Q h)) S M w h ⟨ι,S,M,ρ,ba,sl,vN⟩];cases e:fO aa x with
 |none=>rw[EA e]
 |some k=>
  rw[e]at w1
  rw[bQ k (HI s1 r1 e) (IG k rfl)]⟩
abbrev sQ mh:iK:=ki (dN).bind (match x with
 |.ai k=>.ok k aa
 |_=>aF)
def a1j kM zL{Q:Bool->dS}{t:TE}(h:zo K N0 aH (sQ d) σ H Q)(hd:∀Q',zo K (oS K) aH d σ H Q'->t σ H Q'):aKG t σ H Q:=by
 rw[EH S M ρ ba sl w h];rw[kQ (hd _ ⟨ι,S,M,ρ,ba,sl,?_⟩) (ez.bind (c8:=oS K) w λι1 bf aa H1 x v e1 s1 r1 w1=>?_)];cases x with
 |ai k=>rw[bQ k (bo.fA.mp r1) (IG k rfl)]
 |_=>rw[mz]
def iy aaV{f:D2}azO aMS:
  Ct (ŷ a [op] [b] pos) (CB f da db):=⟨tD.imp (aZq ho ha.out hb.out hm) λσ H Q h=>a1j h λQ' h'=>anu h'⟩
abbrev amY(f g:D2)(da db pQ:bu):bu:=Ĩ (da ρ M).bind (db ρ aa).bind y ((f x y M2).bind λz bE=>match z with
 |ju .ai=>(pQ ρ bE).bind λw iL=>g y w iL
 |qa .ai=>.ok (qa .ai) bE
 |_=>aF)
def aXL{f g:D2}kM zL p0(h:zo K (oS K) aH (amY f g da db pQ) σ H Q):aJX (ZX K f) (ZX K g) (XF K aH da) (XF K aH db) (XF K aH pQ) σ H Q:=by
 rw[JK ⟨ι,S,M,ρ,ba,sl,ez.bind (c8:=oS K) w λι1 bf aa H1 x v e1 s1 r1 w1=>?_⟩];refine R4 (ez.bind (c8:=oS K) w1 λι2 b8 M2 H2 y u e2 s2 r2 w2=>?_);refine⟨_,ι2,b8,M2,x,y,s2,Nf,r2,ez.bind (c8:=oS K) w2 λι3 u_ bE H3 z t e3 s3 w9 w3=>?_⟩;cases z with
 |ai k=>
  rw[De k (bo.fA.mp w9)];cases k with
  |false=>exact Gw (w3 ι3 u_ H3 _ lM s3 E!)
  |true=>
   refine DD ⟨ι3,u_,bE,ρ,s3,(oh).mono ņ,ez.bind (c8:=oS K) w3 λι4 qN iL H4 c t4 e4 w! al5 a7z=>?_⟩;exact⟨_,ι4,qN,iL,y,c,w!,bo.mono (e3.trans e4) r2,al5,a7z⟩
 |_=>exact w3.elim
def aXM{op aaF:CmpOp}{f g:D2}azO(xm:oz (compareOp aaF) (En g))afU(hc:jc c pQ)
  aLQ:jc (ŷ a [op,aaF] [b,c] pos) (amY f g da db pQ):=Wz (aXo ho xm ha.out hb.out hc.out hm) _ _ _ h (aXL h)
variable {ta tb tc:iK}{rest:dI}
abbrev sY(ta tb:iK):iK:=BZ (ta ρ M).bind k (oq k (tb ρ aa) (.ok false aa))
abbrev o4(ta tb:iK):iK:=BZ (ta ρ M).bind k (if aO k then .ok true aa else tb ρ aa)
abbrev aaa(ta:iK):iK:=BZ (ta ρ M).bind k (.ok (! k) aa)
def iq(h:Ct a ta):D0 X aH (lU .And [a] pos) ta:=⟨aYM h.out⟩
def A!(h:Ct a ta):D0 X aH (lU .Or [a] pos) ta:=⟨a0Y h.out⟩
def ze(ha:Ct a ta)(hb:D0 X aH (lU .And qX pos) tb):D0 X aH (lU .And (a::qX) pos) (sY ta tb):=⟨by
 rw[Qv (PW.imp (a0Z ha.out hb.out) (Rf H Q h)) S M w h ⟨ι,S,M,ρ,ba,sl,ez.bind (c8:=N0) w λι1 bf aa H1 x v e1 s1 r1 w1=>?_⟩];cases r1;cases x with
 |false=>exact Gw (IG false rfl)
 |true=>exact DD NW⟩
def ra(ha:Ct a ta)(hb:D0 X aH (lU .Or qX pos) tb):D0 X aH (lU .Or (a::qX) pos) (o4 ta tb):=⟨by
 rw[Qv (PW.imp (a2J ha.out hb.out) (Rf H Q h)) S M w h ⟨ι,S,M,ρ,ba,sl,ez.bind (c8:=N0) w λι1 bf aa H1 x v e1 s1 r1 w1=>?_⟩];cases r1;cases x with
 |true=>exact DD (IG true rfl)
 |false=>exact Gw NW⟩
def ZS(ha:Ct a ta):Ct (atu .Not a pos) (aaa ta):=⟨by
 rw[Qv (tD.imp (a00 ha.out) (Rf H Q h)) S M w h ⟨ι,S,M,ρ,ba,sl,ez.bind (c8:=N0) w λι1 bf aa H1 x v e1 s1 r1 w1=>?_⟩];cases r1
 exact yk rfl⟩
abbrev xf afi:bu:=ki (da ρ M).bind (match x with
 |ju .ai=>db ρ aa
 |qa .ai=>.ok (qa .ai) aa
 |_=>aF)
abbrev ae1 afi:bu:=ki (da ρ M).bind (match x with
 |qa .ai=>db ρ aa
 |ju .ai=>.ok (ju .ai) aa
 |_=>aF)
def yA{op}(h:aD9):jc (lU op [a] pos) da:=⟨a01 h.out⟩
def aym Pp(hb:jc (lU .And qX pos) db):vE lU .And (a::qX) (xf da db):=⟨by
 rw[AY (a02 ha.out hb.out)];cases x with
 |ai k=>
  rw[De k (bo.fA.mp r1)];cases k with
  |false=>exact Gw (yk E!)
  |true=>exact DD NW
 |_=>rw[mz]⟩
def aKB aLI:vE lU .Or (a::qX) (ae1 da db):=⟨by
 rw[AY (a2L ha.out hb.out)];cases x with
 |ai k=>
  rw[De k (bo.fA.mp r1)];cases k with
  |true=>exact DD (yk E!)
  |false=>exact Gw NW
 |_=>rw[mz]⟩
abbrev tn(tc:iK)afi:bu:=BZ (tc ρ M).bind k (oq k (da ρ aa) (db ρ aa))
def Kr(hc:Ct c tc)afU:jc (.IfExp c a b pos) (tn tc da db):=⟨by
 rw[L0 (aXj hc.out ha.out hb.out) h h S M (ez.bind (c8:=N0) w λι1 bf aa H1 x v e1 s1 r1 w1=>?_)];cases r1;cases x with
 |true=>exact DD NW
 |false=>exact Gw NW⟩
universe zE
universe L2
universe zE
end
mutual
section
namespace L2
open PySem PySem.Spec PyProof.Rows
section
variable {X:bY}{aH:St->d_}{a b c e o:Expr}{es:dI}{da db pQ d f6:bu}{ds:tO}{pos apos dc:Pos}
def aZj tM:KV X (λx y H Q=>∃p v,x=Δ p/\Bf H p y fU/\Q v H):=by
 intro value slice pins s σ H x y v u Q I rx bg h hs;rw[dw p z g q h];cases rx;exact tail_any (aTX I g) PySem.F.slot_dict_getitem.lookup (aVQ aD I g bg λw' s3 dY nT=>⟨z,H,dY,nT,q⟩) hs
abbrev eT:D2:=λx y M=>match oY M x with
 |j_=>match y with
  |η i=>agj (u5 xs i) M
  |_=>aF
 |none=>match getD M x y with
  |Hw z=>.ok z M
  |_=>aF
def aXN jH p6 iO gX(r:gR)(h:u5 xs i=iB):∃v,u5 vs i=fU/\jI:=by
 unfold u5 at h⊢;rw[←r.length];cases e:V_ i with
 |none=>rw[e]at h;cases h
 |some j=>
  rw[Fq h (r.get h)]
def a4I tM:KV X (En eT):=by
 have base:=(aZC (X:=X)).or (aeq.or (aZj hu));intro value slice pins s σ H x y v u Q I rx bg h hs;refine base value slice pins s σ H x y v u Q I rx bg ?_ hs;rw[JL p q px py eT];cases e1:oY M p with
 |some xs=>
  rw[yy e1 w w];cases q with
  |int i=>
   dsimp only at w;cases e2:u5 xs i with
   |none=>rw[nt e2]
   |some z=>
    rw[e2]at w;rw[dw l vs hq rs (xb ba px e1)];rw[đ z' h2 (aXN rs e2)];have fin:=vM z' h2;rcases hq with hq | hq
    ·exact Ω ⟨l,vs,i,z',rfl,bo.N1.mp py,hq,h1,fin⟩
    ·exact aA (Ω ⟨l,vs,i,z',rfl,bo.N1.mp py,hq,h1,fin⟩)
  |_=>rw[cX]
 |none=>
  rw[yy e1 w w];cases e2:getD M p q with
  |none=>rw[nt e2]
  |some oo=>
   cases oo with
   |none=>rw[nt e2]
   |some z=>
    rw[e2]at w;obtain⟨l,ov,rfl,_,g,hh⟩:=aH0 ba px py e2;rcases hh with⟨h1,_⟩ | ⟨z',w',h1,h2,h3⟩
    ·cases h1
    ·cases h1;rw[fq h2 (aA (aA (mC l w' g (vM w' h3))))]
def ax tM afU(hs:aIL b:=by intro _ _;rfl):vE yF a b (cg eT da db):=Wz (a3g (a4I hu) ha.out hb.out hs) _ _ _ h (anu h)
noncomputable abbrev OH:=ej->aL->Res eF
noncomputable abbrev anH:cY->aP->eF->cO eF:=λ_ _ x v=>v=x
structure afg xu(e:ahm)(d:OH):Prop where
 out:DT X e (W9 anH d)
def DT.imp{e:ahm}{t t':TO}(h:DT X e t)aaR:DT X e t':=Yl s H Q I s H Q I (i σ H Q hw)
abbrev J?:OH:=cQ M (.ok none M)
abbrev Dv mh:OH:=ki (dN).bind (match x with
 |η i=>.ok XA aa
 |_=>aF)
def Tc:afg X aH none J?:=⟨by
 rw[Ym (DT.imp aZz (Rf H Q h)) S M w h]
 exact vM none rfl⟩
def N!(h:El e):afg X aH (some e) (Dv d):=⟨by
 rw[Qv (DT.imp (aZA h.out) (Rf H Q h)) S M w h ⟨ι,S,M,ρ,ba,sl,vN⟩];cases x with
 |int i=>rw[bQ i Qo (yk rfl)]
 |_=>rw[mz]⟩
abbrev TG vf Lb:fZ:=(Ř JZ).take (V7 hi-JZ)
def bF.TG jH p6(r:gR)Lb:qd (NP lo hi) (KD vs lo hi):=by
 unfold L2.TG KD;rw[fX r.length ((r.drop _).take _)]
abbrev tu m5 m7 Lb dF:n0:=match x with
 |aQ xs=>if JZ=0/\ajs (V7 hi) then aF else .ok (aQ (NP lo hi)) M
 |x=>match CT with
  |j_=>xS (NP lo hi)
  |none=>aF
abbrev a4J c9 m5:V->eF->eF->aP->j0:=λx lo hi H Q=>∃E ι S M p,vm/\Av p x/\FE (tu live p lo hi M)
def GO.imp aL4(i:∀x lo hi H Q,r' x lo hi H Q->r x lo hi H Q):GO X r':=λpins s σ H x v vl vu lo hi sl Q I rx hs pl pu q=>h pins s σ H x v vl vu lo hi sl Q I rx hs pl pu (i _ _ _ _ _ q)
def a4K m5:GO X (a4J X.K live):=(aZD.or a1E).imp λx lo hi H Q h=>by
 obtain⟨E,ι,S,M,p,ba,px,w⟩:=h
 rw[LY lists (∀d5,oF p=j_->ez X.K ML E ι S H Q (xS (NP lo hi))->ay7 X.K x lo hi H Q) (λ{xs} h1 w=>by
  rw[dw l vs e1 r1 (ik ba px h1)];rw[B7 w1 w2 (ZR ba (r1.TG lo hi) w) (XV l (.of e1) w2)]) other ((tu live p lo hi M=match oF p with | j_=>xS (NP lo hi) | none=>aF)->ay7 X.K x lo hi H Q) e (by
  rw[e]at w;cases h1:oF p with
  |none=>rw[nt h1]
  |some xs=>rw[bG h1 w (lists h1 w)])]
 cases p with
 |tup xs=>
  right;rw[VS tu];split at w
  ·rw[cX]
  ·rw[Jo];rw[Dd l e1 r1 px];refine Jc l vs (.of (wg e1)) (by rw[cA r1.length hc]) uc;rw[ee s2 e2 (ahi (aQ (KD vs lo hi)) hp) (w _ _ _ _ e2 s2 (ê p _ g6 ((r1.TG lo hi).mono e2)))]
 |_=>exact Ω (other rfl)
abbrev Hk m5(da:bu)(dl Y9:OH):bu:=Ĩ (da ρ M).bind (dl ρ aa).bind lo ((Y9 ρ M2).bind λhi bE=>tu live x lo hi bE)
def oC m5{lo hi:ahm}{dl Y9:OH}{p2:Pos}aaW(hl:afg X aH lo dl)(hh:afg X aH hi Y9):vE yF e (.Slice lo hi none p2) (Hk live d dl Y9):=⟨by
 rw[AY (aXc (a4K live) he.out hl.out hh.out)];refine R4 (ez.bind (c8:=anH) w1 λι2 b8 M2 H2 l l' e2 s2 r2 w2=>?_);cases r2;refine⟨ι2,b8,M2,ρ,s2,Ű,ez.bind (c8:=anH) w2 λι3 u_ bE H3 h h' e3 s3 w9 w3=>?_⟩;cases w9
 exact⟨_,ι3,u_,bE,x,s3,Vs ņ,w3⟩⟩
abbrev DJ m7 dF:n0:=match x with
 |ο n=>match M[n]? with
  |g!=>.ok (ς xs) (Nh .gone)
  |_=>.ok x M
 |x=>.ok x M
abbrev yB mh:bu:=ki (dN).bind (DJ x aa)
def aRj(h:El e):jc e (yB d):=⟨by
 rw[L0 h.out hh hh S M vN];have keep:ez X.K ML (aH σ) ι1 bf H1 Q (.ok x aa)->Q v H1:=λw=>w ι1 bf H1 v lM s1 r1;cases x with
 |obj n=>
  simp only[DJ]at w1;cases eM:aa[n]? with
  |none=>rw[bG eM w1 (keep w1)]
  |some o=>
   rw[eM]at w1;cases o with
   |lst xs=>
    rw[gY p ei (bo.A5.mp r1)];rw[Sp S' s2 e2 r2 (s1.freeze ei eM) (w1 _ _ _ _ e2 s2 r2)]
   |_=>exact keep w1
 |_=>exact keep w1⟩
noncomputable abbrev D1:=fZ->aL->n0
abbrev aRe c9(f:D1):di->aP->j0:=λvs H Q=>∃E ι S M xs,vm/\gR/\FE (f xs M)
def ij.imp{f:Value}aNj(i:∀xs H Q,r' xs H Q->r xs H Q):ij X f r':=λpins s σ H xs us Q I rs q=>h pins s σ H xs us Q I rs (i _ _ _ q)
abbrev aB(f:D1)Lh:bu:=BZ (xV).bind xs (f xs aa)
def aJh{f:D1}kM zL p0(h:zo K (oS K) aH (aB f ds) σ H Q):aFu (aRe K f) (zo K (Ck K) aH (fx ds)) σ H Q:=by
 rw[JK ⟨ι,S,M,ρ,ba,sl,ez.bind (c8:=Ck K) w λι1 bf aa H1 x v e1 s1 r1 w1=>?_⟩];exact⟨_,ι1,bf,aa,x,s1,r1.1,w1⟩
def J6{f:D1}eo{id:String}{p:Pos}(hc:Jd id (JF f))(hm:apv x)(hv:Lz=abj id)aoV aoT
  US:ND (c_ x p) (e::es) (aB f ds):=Wz (aw3 hc hg hm hv ha.out hn KL he iJ) _ _ _ h (aJh h)
def au7{f:D1}eo{T:String}{p:Pos}(hc:AJ (dH T) (JF f))(hm:apv x)(hv:Lz=d7 dH T)aoV aoT
  US:ND (c_ x p) (e::es) (aB f ds):=Wz (aVP hc hg hm hv ha.out hn KL he iJ) _ _ _ h (aJh h)
def bF.zh jH gX xy(h:bF K ι S [x] vs):∃v,vs=[v]/\jI:=by
 rw[dw v r h1 h2 h.w5];rw[bF]at h2;subst h2;exact lK v h1
def bF.axH jH aa7 xy(h:bF K ι S [x,y] vs):∃v w,vs=[v,w]/\jI/\Av y w:=by
 rw[dw v r h1 h2 h.w5];rw[gY w h3 h2.zh];exact mC v w h1 h3
abbrev fM:D1:=λxs M=>match xs with
 |[x]=>match oY M x with
  |HT=>.ok (asC η) M
  |none=>match x with
   |ο n=>match M[n]? with
    |m_ .ak=>.ok (asP η) M
    |_=>aF
   |_=>aF
 |_=>aF
def ak4:Jd "len" (JF fM):=(aTe.or aVV).imp λvs H Q h=>by
 rw[YD E S M r w h fM]
 match xs,r,w with
 |[],r,w=>rw[cX]
 |x::y::z,r,w=>rw[cX]
 |[x],r,w=>
  rw[gY v r1 r.zh];dsimp only at w;cases e1:oY M x with
  |some ys=>
   rw[e1]at w;rw[dw p vs hq rs (xb ba r1 e1)];refine Ω (XV p hq ?_);rw[asj JD]
  |none=>
   rw[yy e1 w w];cases x with
   |obj n=>
    rw[gY p ei (bo.A5.mp r1)];obtain⟨o,eM,q⟩:=ba.addr ei;simp only[eM]at w;cases o with
    |ak kvs=>
     obtain⟨_,aG,aN,rk⟩:=q;refine aA (mC p aG aN ?_);rw[cA rk.length JD]
    |_=>rw[cX]
   |_=>rw[cX]
abbrev A_ m5:D1:=λxs M=>match xs with
 |[x]=>match oY M x with
  |HT=>xS ys
  |none=>aF
 |_=>aF
def aQ0 m5:AJ Cf (JF (A_ live)):=aTf.imp λvs H Q h=>by
 rw[YD E S M r w h A_]
 match xs,r,w with
 |[],r,w=>rw[cX]
 |x::y::z,r,w=>rw[cX]
 |[x],r,w=>
  rw[gY v r1 r.zh];dsimp only at w;cases e1:oY M x with
  |none=>rw[nt e1]
  |some ys=>
   rw[e1]at w;rw[dw p vs hq rs (xb ba r1 e1)];exact XV p hq (ZR ba rs w).2
abbrev FK:D1:=λxs M=>match xs with
 |[x]=>match CT with
  |HT=>.ok (aQ ys) M
  |none=>match x with
   |aQ ys=>.ok (aQ ys) M
   |_=>aF
 |_=>aF
def aTN:AJ Jw (JF FK):=aSN.imp λvs H Q h=>by
 rw[YD E S M r w h FK]
 match xs,r,w with
 |[],r,w=>rw[cX]
 |x::y::z,r,w=>rw[cX]
 |[x],r,w=>
  rw[gY v r1 r.zh];dsimp only at w;cases e1:CT with
  |some ys=>
   rw[e1]at w;rw[dw p vs aN rs (ik ba r1 e1)];refine uv p vs (F6 (.of aN) (c! l hl));rw[ee s2 e2 (ahi (aQ vs) hl) (w _ _ _ _ e2 s2 (ê l _ g6 (rs.mono e2)))]
  |none=>
   rw[yy e1 w w];cases x with
   |tup ys=>
    rw[Dd p e q r1];exact uv p vs (r_ (.of (wg e)) (vM _ r1))
   |_=>rw[cX]
abbrev OC:D1:=λxs M=>match xs with
 |[η i]=>.ok (η i) M
 |[.ai b]=>.ok (η (ag8 b 0)) M
 |_=>aF
def aGR:AJ (dH "int") (JF OC):=aVK.imp λvs H Q h=>by
 rw[YD E S M r w h OC];split at w
 ·rw[Rc v r.zh];cases Qo;exact Ω (IX JD)
 ·rw[Rc v r.zh];cases bo.fA.mp r1;exact aA (IX JD)
 ·rw[cX]
abbrev anR:D1:=λxs M=>match xs with
 |[η i,η j]=>.ok (η (asq (j > i) i)) M
 |_=>aF
abbrev Ua:D1:=λxs M=>match xs with
 |[η i,η j]=>.ok (η (asq (j<i) i)) M
 |_=>aF
def aVu BF:Jd "max" (JF anR):=(aVI hc).imp λvs H Q h=>by
 rw[YD E S M r w h anR];split at w
 ·rw[dw v u r1 r2 r.axH];cases Qo;cases aC7;exact uv _ _ JD
 ·rw[cX]
def aHp BF:Jd "min" (JF Ua):=(aVJ hc).imp λvs H Q h=>by
 rw[YD E S M r w h Ua];split at w
 ·rw[dw v u r1 r2 r.axH];cases Qo;cases aC7;exact uv _ _ JD
 ·rw[cX]
noncomputable abbrev zy:=aj->fZ->aL->n0
abbrev a7b c9(f:zy):V->di->aP->j0:=λv vs H Q=>∃E ι S M x xs,vm/\jI/\gR/\FE (f x xs M)
def FC.imp{id:String}{r r':V->di->aP->j0}(h:FC X id r)(i:∀x xs H Q,r' x xs H Q->r x xs H Q):FC X id r':=λpins s σ H x xs v us Q I rx rs q=>h pins s σ H x xs v us Q I rx rs (i _ _ _ _ q)
abbrev qx(f:zy)(f6:bu)Lh:bu:=ki (Eu M).bind (match Ka aa x with
 |tV=>qe (ģ aa).bind xs (f x xs M2)
 |none=>aF)
def mm{f:zy}{name:Str}aNc ao0 aNk(ha:Y3 (e::es))
  aoW
  aMf
  aaT aLH:
  W3 auQ (e::es) dc (qx f f6 ds):=⟨by
 rw[AY (a3h PySem.F.plainAttrs_list slot aoc hm ho.out ha.out ph anD pj hs amV)];cases e2:Ka aa x with
 |none=>rw[EA e2]
 |some ys=>
  rw[e2]at w1
  rw[dw p vs aN rs (ik s1 r1 e2)];refine⟨Ω ⟨rfl,vs,.of aN⟩,ι1,bf,aa,ρ,s1,oh,ez.bind (c8:=Ck X.K) w1 λι2 b8 M2 H2 xs us e3 s2 r2 w2=>?_⟩
  exact⟨_,ι2,b8,M2,x,xs,s2,Vs e3,r2.1,w2⟩⟩
def a04{f:zy}{name:Str}aNc ao0 aNk
  aoW aaT:W3 auQ [] dc (qx f f6 []):=⟨by
 rw[AY (a1a PySem.F.plainAttrs_list slot aoc hm ho.out ph pj)];cases e2:Ka aa x with
 |none=>rw[EA e2]
 |some ys=>
  rw[e2]at w1
  rw[dw p vs aN rs (ik s1 r1 e2)]
  rw[cB (Ω ⟨rfl,vs,.of aN⟩) ⟨_,ι1,bf,aa,x,[],s1,r1,c6,w1⟩]⟩
abbrev l7 m7 dF(k:C9 fZ n0):n0:=match x with
 |ο n=>match M[n]? with
  |g!=>k n xs
  |_=>aF
 |_=>aF
def amF kM BL{ι:cY}aoS vc p0{k:C9 fZ n0}Hg(w:FE (l7 x M k)):
  ∃n p xs vs,v=Δ p/\Se ι p/\M[n]? = g!/\H p=XU/\Y6 p/\gR/\FE (k n xs):=by
 cases x with
 |obj n=>
  rw[YF p ei r o q ei l7 w];cases o with
  |lst xs=>
   rw[yw hS vs aN rs q ⟨n,p,xs,vs,rfl,ei,eM,aN,hS,rs,w⟩]
  |_=>rw[cX]
 |_=>rw[cX]
def ad8 zN br ve{ys:fZ}{us:di}aa6 aMB(r:qd ys us):gk K ι S (Vl n ys) (rq p us)/\JH S (rq p us):=
 ba.put hi hS ⟨hS,us,g6,r⟩
abbrev sS:zy:=λx as M=>match as with
 |[y]=>l7 x M λn xs=>Np (ajv lim) .ok .ah (r? n (xs++[y]))
 |_=>aF
def aQx:FC X "list.append" (Sj sS):=aha r aIN aHj v vs H Q h (by
 rw[JL x xs r rs sS];split at w
 ·rw[Rc u rs.zh];obtain⟨n,p,ys,us,rfl,hi,eM,aN,hS,rr,w⟩:=amF ba r w;split at w
  ·rw[L4];refine⟨p,us,u,rfl,rfl,aN,by rw[cA rr.length (aey hl)],?_⟩;rw[ee sp ep (ad8 ba hi hS (rr.append (.one r1))) (w ι S _ _ ep sp ð)]
  ·rw[cX]
 ·rw[cX])
abbrev amJ:zy:=λx as M=>match as with
 |[y]=>l7 x M λn xs=>match oF y with
  |HT=>Np (aDP≤lim) .ok .ah (r? n (xs++ys))
  |none=>aF
 |_=>aF
def aUR:FC X "list.extend" (Sj amJ):=aha r aJc aVS v vs H Q h (by
 rw[JL x xs r rs amJ];split at w
 ·rw[Rc u rs.zh];obtain⟨n,p,ys,us,rfl,hi,eM,aN,hS,rr,w⟩:=amF ba r w;split at w
  ·rename_i zs hz;rw[dw b ws eb rb (ik ba r1 hz)];split at w
   ·rw[L4];refine⟨p,b,us,ws,rfl,rfl,aN,eb,by rw[MH rr.length rb.length (aml hl)],?_⟩;rw[ee sp ep (ad8 ba hi hS (rr.append rb)) (w ι S _ _ ep sp ð)]
   ·rw[cX]
  ·rw[cX]
 ·rw[cX])
abbrev ae2:zy:=λx as M=>match as with
 |[]=>l7 x M λn xs=>match xs[(EV 1)]? with
  |C!=>.ok y (Vl n xs.dropLast)
  |none=>aF
 |_=>aF
def aZk:FC X "list.pop" (Sj ae2):=aha r aPR a1c v vs H Q h (by
 rw[JL x xs r rs ae2];split at w
 ·rw[bF]at rs;subst rs;obtain⟨n,p,ys,us,rfl,hi,eM,aN,hS,rr,w⟩:=amF ba r w;split at w
  ·rename_i y hy;rw[đ z h2 (rr.get hy)];rw[rr.length]at h1;refine⟨p,us,z,rfl,rfl,aN,h1,?_⟩;rw[ee sp ep (ad8 ba hi hS rr.dropLast) (w ι S _ _ ep sp h2)]
  ·rw[cX]
 ·rw[cX])
universe zE
universe L2
universe zE
section
namespace L2
open PySem PySem.Spec PyProof.Rows
inductive Out where
 |nx U0
 |eO m7 dF
 |kA U0
 |ct U0
 |exc Pu U0
 |bad
noncomputable abbrev cR:=ej->aL->Out
abbrev nP c9 UY aoy(D:Ends):Ej
 |.nx ρ M=>∀ι' S' H' σ',r8->MY M->yG ι' S' ρ σ'->D.nx σ' H'
 |.kA ρ M=>∀ι' S' H' σ',r8->MY M->yG ι' S' ρ σ'->D.kA σ' H'
 |.ct ρ M=>∀ι' S' H' σ',r8->MY M->yG ι' S' ρ σ'->D.ct σ' H'
 |bW c ρ M=>∀ι' S' H' σ',r8->MY M->yG ι' S' ρ σ'->aH σ' (Δ c) none H'
 |.eO x M=>∀ι' S' H' v,r8->MY M->bo K ι' S' x v->D.eO v H'
 |aF=>False
def nP.up kM aaM{ι ι':cY}{S H S' H':aP}{D:Ends}{o:Out}(h:nP K aH ι S H D o)(e:r8):nP K aH ι' S' H' D o:=by
 cases o with
 |nx ρ M=>exact λι1 bf H1 σ1 e1 s1 l1=>h ι1 bf H1 σ1 VI s1 l1
 |kA ρ M=>exact λι1 bf H1 σ1 e1 s1 l1=>h ι1 bf H1 σ1 VI s1 l1
 |ct ρ M=>exact λι1 bf H1 σ1 e1 s1 l1=>h ι1 bf H1 σ1 VI s1 l1
 |exc c ρ M=>exact λι1 bf H1 σ1 e1 s1 l1=>h ι1 bf H1 σ1 VI s1 l1
 |eO x M=>exact λι1 bf H1 v e1 s1 l1=>h ι1 bf H1 v VI s1 l1
 |bad=>exact h
abbrev TJ c9 UY(d:cR):lq:=λD σ H=>∃ι S M ρ,vm/\FD/\nP K aH ι S H D dN
structure ayZ xu(st:Stmt)(d:cR):Prop where
 out:mZ X st (TJ X.K aH d)
structure GK xu(st:Ll)(d:cR):Prop where
 out:s_ X st (TJ X.K aH d)
def mZ.imp l? G4{t t':lq}(h:mZ X st t)aLG:mZ X st t':=Yl s H D I s H D I (i D σ H hw)
def s_.imp l?{st:Ll}{t t':lq}(h:s_ X st t)aLG:s_ X st t':=Yl s H D I s H D I (i D σ H hw)
abbrev Res.out gA(r:yd)(ρ:ej)(f:α->aL->Out):Out:=match r with
 |.ok x M=>f x M
 |bW c M=>bW c ρ M
 |aF=>aF
@[simp] def Res.pS gA{x:α}cw azz:(Ā x).out ρ f=f x M:=rfl
@[simp] def Res.aJi gA tL cw azz:(Res.exc c M:yd).out ρ f=bW c ρ M:=rfl
@[simp] def Res.a8i gA azz:(Res.bad:yd).out ρ f=aF:=rfl
def nP.res rW kM{c8:cY->aP->α->cO β}aaM aoz{D:Ends}afF{r:yd}{f:α->aL->Out}{Q:β->dS}(sl:FD)(h:nP K aH ι S H D (r.out ρ f))
  (g:∀ι1 bf aa H1 x v,U3 S H ι1 bf H1->gk K ι1 bf aa H1->c8 ι1 bf x v->nP K aH ι1 bf H1 D (f x aa)->Q v H1):ez K c8 (aH σ) ι S H Q r:=by
 cases r with
 |ok x M=>exact λι1 bf H1 v e1 s1 r1=>g ι1 bf M H1 x v e1 s1 r1 (nP.up h e1)
 |exc c M=>exact λι1 bf H1 e1 s1=>h ι1 bf H1 σ e1 s1 oh
 |bad=>exact h
section
variable {X:bY}{aH:St->d_}{a b c e o:Expr}{es:dI}{da db pQ d f6:bu}{ds:tO}{pos pos' apos dc:Pos}{st:Stmt}{rest:Ll}{s1 s2:cR}{tc:iK}
abbrev pV:cR:=λρ M=>.nx ρ M
abbrev lz(s1 s2:cR):cR:=λρ M=>match IP M with
 |.nx ρ' M'=>s2 ρ' M'
 |o=>o
def acm:GK X aH [] pV:=⟨s_.imp aYz λD σ H h=>by
 rw[EH S M ρ ba sl w h]
 exact vM σ sl⟩
def a05 kM{D:Ends}zL(h:TJ K aH (lz s1 s2) D σ H):aPJ (TJ K aH s1) (TJ K aH s2) D σ H:=by
 rw[JK ⟨ι,S,M,ρ,ba,sl,?_⟩];rw[Fo lz];cases q:IP M with
 |nx ρ' M'=>
  rw[bG q w (λι1 bf H1 σ1 e1 s1 l1=>⟨ι1,bf,M',ρ',s1,l1,nP.up w e1⟩)]
 |_=>rw[bG q w w]
def YN(h1:vG st s1)(h2:GK X aH rest s2):GK X aH (st::rest) (lz s1 s2):=⟨s_.imp (aXk h1.out h2.out) (ku h (a05 h))⟩
def a5E(h1:vG st s1):GK X aH [st] s1:=⟨aYA h1.out⟩
abbrev qv mh:cR:=NJ M (dN).out _ (.nx ρ aa)
def Ga aaW aNs:vG (.Expr e pos) (qv d):=abM (aYB he.out hs) D σ H h (by
 rw[JK ⟨ι,S,M,ρ,ba,sl,X_ w x v⟩]
 exact IG σ oh)
abbrev wM mh:cR:=NJ M (dN).out x (.eO x aa)
def a1O aaW:vG (.Return (some e) pos) (wM d):=abM (a03 he.out) D σ H h (by
 rw[JK ⟨ι,S,M,ρ,ba,sl,X_ w x v⟩]
 exact IG v r1)
abbrev a23:cR:=cQ M (.eO .ah M)
abbrev eN(tc:iK)(s1 s2:cR):cR:=NJ M (tc ρ M).out k (oq k (IP aa) (s2 ρ aa))
def F?{xs ys:Ll}(hc:Ct c tc)(h1:GK X aH xs s1)(h2:GK X aH ys s2):vG (.If c xs ys pos) (eN tc s1 s2):=abM (a2E hc.out h1.out h2.out) D σ H h (by
 rw[JK ⟨ι,S,M,ρ,ba,sl,nP.res (c8:=N0) sl w λι1 bf aa H1 x v e1 s1 r1 w1=>?_⟩];cases r1;cases x with
 |true=>exact DD NW
 |false=>exact Gw NW)
noncomputable abbrev oZ:=aj->yT ej ej
abbrev awh c9(g:oZ):u!:=λv σ H Q=>∃ι S M ρ x ρ',vm/\FD/\jI/\É x ρ'/\∀ι' S' H' σ',r8->MY M->yG ι' S' ρ' σ'->oJ σ'
structure aaD gp(cM:Expr)(g:oZ):Prop where
 out:u7 X cM (awh X.K g)
def u7.imp{cM:Expr}{t t':u!}(h:u7 X cM t)aL1:u7 X cM t':=λpins s σ H v u Q I r hw=>h pins s σ H v u Q I r (i v σ H Q hw)
abbrev bP iw:oZ:=λx ρ=>aY (EU i)
def apI iw eo K_ aMu
  aaO:aaD X (c_ x pos) (bP i):=⟨u7.imp (aYC hN hi hx hf) λv σ H Q h=>by
 obtain⟨ι,S,M,ρ,x,ρ',ba,sl,r,e,k⟩:=h;cases e
 exact k ι S H _ lM ba (sl.set r i)⟩
noncomputable abbrev OX:=fZ->yT ej ej
abbrev a4L c9(g:OX):KO:=λvs σ H Q=>∃ι S M ρ xs ρ',vm/\FD/\gR/\É xs ρ'/\∀ι' S' H' σ',r8->MY M->yG ι' S' ρ' σ'->oJ σ'
structure anQ gp(ts:dI)(g:OX):Prop where
 out:GQ X ts (a4L X.K g)
def GQ.imp{ts:dI}{t t':KO}(h:GQ X ts t)aL1:GQ X ts t':=λpins s σ H v u Q I r hw=>h pins s σ H v u Q I r (i v σ H Q hw)
abbrev aQY:OX:=λxs ρ=>match xs with
 |[]=>some ρ
 |_=>none
abbrev k6(g:oZ)(gs:OX):OX:=λxs ρ=>match xs with
 |x::r=>(g x ρ).bind (gs r)
 |[]=>none
def a6L:anQ X [] aQY:=⟨GQ.imp aYD λvs σ H Q h=>by
 obtain⟨ι,S,M,ρ,xs,ρ',ba,sl,r,e,k⟩:=h;cases xs with
 |nil=>
  rw[bF]at r;cases e;rw[cB r (k ι S H _ lM ba sl)]
 |cons x xs=>cases e⟩
def sR{g:oZ}{gs:OX}(h1:aaD X e g)(h2:anQ X es gs)aMv:anQ X (e::es) (k6 g gs):=⟨GQ.imp (aXl h1.out h2.out hs) λvs σ H Q h=>by
  obtain⟨ι,S,M,ρ,xs,ρ',ba,sl,r,e,k⟩:=h;cases xs with
  |nil=>cases e
  |cons x xs=>
   rw[dw v vr r1 r2 r.w5];have e:cu ((g x ρ).bind (gs xs)) ρ':=e;cases e1:g x ρ with
   |none=>rw[e1]at e;cases e
   |some ρ1=>
    rw[Xw e1 e ⟨v,vr,rfl,ι,S,M,ρ,x,ρ1,ba,sl,r1,e1,M6 ι1 bf H1 σ1 aQp s1 l1⟩]
    exact⟨ι1,bf,M,ρ1,xs,ρ',s1,l1,r2.mono aQp,e,λι2 b8 H2 σ2 Us s2 l2=>k ι2 b8 H2 σ2 (aQp.trans Us) s2 l2⟩⟩
abbrev mR dj(gs:OX):oZ:=λx ρ=>match x with
 |aQ xs=>vz xs.length n (gs xs ρ) none
 |_=>none
def aQ1 d6{gs:OX}br BF(h:anQ X es gs)aMp:aaD X (M9 es k pos) (mR n gs):=⟨u7.imp (a0M hc h.out hn mW) λv σ H Q h=>by
  obtain⟨ι,S,M,ρ,x,ρ',ba,sl,r,e,k⟩:=h;cases x with
  |tup xs=>
   simp only[mR]at e;split at e
   ·rw[L4];rw[Dd p ir rs r];exact⟨p,vs,rfl,.of (wg ir),by rw[asj hl],ι,S,M,ρ,xs,ρ',ba,sl,rs,e,k⟩
   ·cases e
  |_=>cases e⟩
abbrev lV iw mh:cR:=NJ M (dN).out x (.nx (EU i) aa)
def a1R iw eo K_ aaW aMu aL6
  aaO:vG (C4 [c_ x pos'] e pos) (lV i d):=abM (a0N hN hi hx he.out hs hf) D σ H h (by
 rw[JK ⟨ι,S,M,ρ,ba,sl,X_ w x v⟩]
 exact yk ((oh).set r1 i))
abbrev Gx mh(g:oZ):cR:=NJ M (dN).out x (match g x ρ with
 |some ρ'=>.nx ρ' aa
 |none=>aF)
def aeg{cM:Expr}{g:oZ}aaW(hg:aaD X cM g)aMr
  aLZ:vG (C4 [cM] e pos) (Gx d g):=abM (aJW he.out hg.out hs hw h1) D σ H h (by
 rw[JK ⟨ι,S,M,ρ,ba,sl,X_ w x v⟩];cases e2:g x ρ with
 |none=>rw[EA e2]
 |some ρ'=>
  rw[e2]at w1
  exact⟨ι1,bf,aa,ρ,x,ρ',s1,oh,r1,e2,w1⟩)
universe zE
universe L2
universe zE
end
mutual
section
namespace L2
open PySem PySem.Spec PyProof.Rows
noncomputable abbrev qK:=wm (Nat×fB)
abbrev qE(w:qK)dF:Prop:=match w with
 |none=>True
 |MC o=>acw M
@[simp] def a79 cw:qE none M:=trivial
@[simp] def a8a br xC cw:qE (MC o) M↔acw M:=Iff.rfl
abbrev Walks c9(J:It)vf(w:qK)aoK:Prop:=
 ∀iw ι' S' M' H',SY S->Vt->qE w M' →
  (∀x,zW->J.go i H'/\∀v H2,J.awF i H' v H2->∃ι2 b8,Ext ι' S' H' ι2 b8 H2/\gk K ι2 b8 M' H2/\bo K ι2 b8 x v)/\(Fb i->atw H')
noncomputable abbrev rL:=ej->aL->Res (fZ×qK)
noncomputable abbrev anG c9:cY->aP->(fZ×qK)->cO It:=λι S r J=>aiS K J r.1 r.2 S
structure aaE xu(cM iter:Expr)(d:rL):Prop where
 out:abT X cM (W9 (anG X.K) d)
def GN.imp l?{cM iter:Expr}{t t':TI}(h:abT X cM t)(i:∀σ H R,t' σ H R->t σ H R):abT X cM t':=Yl s H R I s H R I (i σ H R hw)
section
variable {X:bY}{aH:St->d_}{a b c e o:Expr}{es:dI}{da db pQ d f6:bu}{ds:tO}{pos pos' apos dc:Pos}{st:Stmt}{rest:Ll}{s1 s2:cR}{tc:iK}{cM iter:Expr}{gr:rL}{g:oZ}
abbrev b5 mh:rL:=ki (dN).bind (match x with
 |ς xs=>.ok (xs,none) aa
 |ο n=>match aa[n]? with
  |g!=>.ok (xs,ajP xs) aa
  |_=>aF
 |_=>aF)
def aGS jH ve d5{w:qK}(h:∀ι' S' M' H',SY S->Vt->qE w M'->∃vs,iI K H' p vs/\Ê K):aiS K (ax7 K p) xs w S:=by
 intro i ι' S' M' H' up ba hc;rw[Ly vs hq rs (h ι' S' M' H' up ba hc) (c! x hx) (YE vs hq (by rw[asj hl]))];rw[Ly v hv r (rs.get hx) ⟨vs,v,hq,hv⟩ (cG u H2 y)];rw[MB y y];rw[uK (y vs hq) hv];cases this;exact⟨ι',S',lM,ba,r⟩
def kZ(h:auI):YH X (b5 d):=⟨by
 rw[YK (aYE h.out) H R S M w ⟨ι,S,M,ρ,ba,sl,vN⟩];cases x with
 |lst xs=>
  rw[î p vs ir rs r1];refine ajz p (.of (auj _ _)) (aGS (ab2 b8 M2 H2 up s2 _));rw[bQ vs (.of (aiT _ (up.sm _ _ ir))) (rs.up up)]
 |obj n=>
  rw[gY p ei (bo.A5.mp r1)];obtain⟨o,eM,q⟩:=s1.addr ei;simp only[eM]at w1;cases o with
  |lst xs=>
   rw[agh aN rs q];refine ajz p (.of aN) (aGS (ab2 b8 M2 H2 up s2 hc));obtain⟨_,amv,nR,OY⟩:=s2.ob n p _ (up.ix _ _ ei) hc;rw[bQ amv (.of nR) OY]
  |_=>rw[mz]
 |_=>rw[mz]⟩
abbrev alw mh:rL:=ki (dN).bind (match x with
 |aQ xs=>.ok (xs,none) aa
 |_=>aF)
def aJ7(h:auI):YH X (alw d):=⟨by
 rw[YK (a0P h.out) H R S M w ⟨ι,S,M,ρ,ba,sl,vN⟩];cases x with
 |tup xs=>
  rw[Dd p ir rs r1];rw[uJ (ajz p (.of (auj _ _)) (λi ι2 b8 M2 H2 up s2 _=>?_)) hq (GH X.K H2 p vs) (.of (aiT _ (up.sm _ _ ir)))];have OY:=rs.up up;rw[L8 x hx (YE vs hq (by rw[cA OY.length hl]))];rw[Ly v hv r (OY.get hx) ⟨vs,v,hq,hv⟩ (cG u H3 y)];rw[MB y y];rw[uK (y vs hq) hv];cases this;exact⟨ι2,b8,lM,s2,r⟩
 |_=>rw[mz]⟩
abbrev qM aog:fZ:=(sO).map fun(k:Nat)=>η (lo+aS k)
def aVv jH aog:aiS K (ang lo n) (qM lo n) none S:=by
 intro i ι' S' M' H' up ba _;rw[L8 x hx (λhl=>by(have hl:n≤i:=Va qM hl);exact hl)];rw[EJ qM hx gI hx];by_cases hi:i<n
 ·rw[List.getElem?_range hi]at hx;cases hx;rw[L9 hi v H2 y];rw[abl rfl y ⟨ι',S',lM,ba,E6⟩]
 ·rw[E4 XT]at hx;cases hx
abbrev jG Lh:rL:=BZ (xV).bind xs (match xs with
 |[η j]=>Np (-(2 ^ 62)≤j/\j<2 ^ 62) .ok (qM 0 j.toNat,none) aa
 |_=>aF)
def aEK{p:Pos}(hm:ag9 "range")(ha:Y3 [a])(hg:OJ X "range" :=by rfl)aoX:aaE X aH cM (xP (c_ "range" p) [a] [] pos) (jG ds):=⟨by
 rw[YK (aVG hg hm ha.out hs) H R S M w ⟨ι,S,M,ρ,ba,sl,ez.bind (c8:=Ck X.K) w λι1 bf aa H1 xs vs e1 s1 r1 w1=>?_⟩];split at w1
 ·rename_i j;rw[gY v r2 r1.1.zh];cases aC7;split at w1
  ·rename_i hb;exact t8 j hb.1 hb.2 (yk (aVv 0 _))
  ·rw[mz]
 ·rw[mz]⟩
open Classical in
noncomputable def Bh(w:qK)(g:oZ)(s1:cR):fZ->ej->aL->Out
 |[],ρ,M=>.nx ρ M
 |x::xs,ρ,M=>match g x ρ with
  |none=>aF
  |some ρ1=>match s1 ρ1 M with
   |.nx ρ' M'=>Ir (qE w M') (Bh w g s1 xs ρ' M')
   |.ct ρ' M'=>Ir (qE w M') (Bh w g s1 xs ρ' M')
   |.kA ρ' M'=>.nx ρ' M'
   |.eO x M'=>.eO x M'
   |bW c ρ' M'=>bW c ρ' M'
   |aF=>aF
abbrev e_(gr:rL)(g:oZ)(s1:cR):cR:=λρ M=>(HD M).out ρ λr aa=>open Classical in Ir (qE r.2 aa) (Bh r.2 g s1 r.1 ρ aa)
def du aaL(hp:akS)BF(hi:YH X gr)(hg:aaD X cM g)(hb:GK X aH body s1)aaQ:
  vG (.For cM iter body [] pos) (e_ gr g s1):=⟨by
 rw[Yq (a0Q hp hc hi.out hg.out hb.out hs) D H h S M w h ⟨ι,S,M,ρ,ba,sl,nP.res (c8:=anG X.K) sl w λι1 bf aa H1 r J e1 OM TR w1=>?_⟩];rw[apS xs wt r TR w1];split at w1
 ·rename_i hc1
  refine⟨λi m σ' H'=>m=EV i/\asL i/\∃ι' S' M' ρ',Ext ι1 bf H1 ι' S' H'/\gk X.K ι' S' M' H'/\Slots X.K ι' S' ρ' σ'/\v9 M'/\nP X.K aH ι1 bf H1 D (Bh wt g s1 (xs.drop i) ρ' M'),
   ⟨xs.length,Θ,q4,ι1,bf,aa,ρ,lM,OM,oh,hc1,a! w1⟩,?_⟩
  rintro i m σ' H' ⟨rfl,hi',ι',S',M',ρ',ex,kF,rN,hck,ww⟩;obtain⟨aF1,aF2⟩:=TR i ι' S' M' H' ex.toUp kF hck
  by_cases g8:JN
  ·right;obtain⟨go,qJ⟩:=aF1 xs[i] aOE;rw[aOC,Bh]at ww;refine⟨go,mq σ2 (∃ι' S' M' ρ',Ext ι1 bf H1 ι' S' H2/\gk X.K ι' S' M' H2/\Slots X.K ι' S' ρ' σ2/\v9 M'/\nP X.K aH ι1 bf H1 D (Bh wt g s1 (Ř (i+1)) ρ' M')),λσ2 H2 q=>mC (EV (i+1)) aD g8 q,cG v H2 y⟩;obtain⟨ι2,b8,Us,ay3,r2⟩:=qJ v H2 y;cases Gf:g xs[i] ρ' with
   |none=>rw[bG Gf ww ww.elim]
   |some ρ1=>
    rw[Xw Gf ww ⟨ι2,b8,M',ρ',xs[i],ρ1,ay3,rN.mono Us,r2,Gf,M6 ι3 u_ H3 σ3 aEk ay4 PQ⟩];refine⟨ι3,u_,M',ρ1,ay4,PQ,?_⟩;have aXO:=ex.trans (Us.trans aEk);dsimp only at ww;cases eb:s1 ρ1 M' with
    |nx ρ4 iL=>
     rw[yy eb ww ww];split at ww
     ·rename_i hc4;exact λι4 qN H4 σ4 xh uW zC=>⟨ι4,qN,iL,ρ4,agO,uW,zC,hc4,ww⟩
     ·rw[ahX]
    |ct ρ4 iL=>
     rw[yy eb ww ww];split at ww
     ·rename_i hc4;exact λι4 qN H4 σ4 xh uW zC=>⟨ι4,qN,iL,ρ4,agO,uW,zC,hc4,ww⟩
     ·rw[ahX]
    |kA ρ4 iL=>
     rw[bG eb ww (λι4 qN H4 σ4 xh uW zC=>ww ι4 qN H4 σ4 agO uW zC)]
    |eO x iL=>
     rw[bG eb ww (λι4 qN H4 σ4 xh uW zC=>ww ι4 qN H4 σ4 agO uW zC)]
    |exc c ρ4 iL=>
     rw[bG eb ww (λι4 qN H4 σ4 xh uW zC=>ww ι4 qN H4 σ4 agO uW zC)]
    |bad=>rw[bG eb ww ww.elim]
  ·left
   rw[Ia e (ajs i) aD e];rw[List.drop_length,Bh]at ww;rw[cB (aF2 fe) (ww ι' S' H' σ' ex kF rN)]
 ·rw[mz]⟩
abbrev Dx(tc:iK)(s1:cR):C9 ej (aL->Out)
 |0,_,_=>aF
 |n+1,ρ,M=>NG (tc ρ M).out k (ahu (aO k) (match IP aa with
   |.nx ρ' M'=>Dx tc s1 n ρ' M'
   |.ct ρ' M'=>Dx tc s1 n ρ' M'
   |.kA ρ' M'=>.nx ρ' M'
   |.eO x M'=>.eO x M'
   |bW c ρ' M'=>bW c ρ' M'
   |aF=>aF) (.nx ρ aa))
abbrev Res.TU rW:yd->(α->aL->akX)->akX
 |.ok a M,f=>f a M
 |bW _ _,_=>aF
 |aF,_=>aF
@[simp] def Res.aH1 rW{a:α}cw aaH:(Ā a).TU f=f a M:=rfl
noncomputable abbrev GP:St->d_:=ku _ False
abbrev KC Pr(ρ:ej):ej:=gF.map λo=>match o with
 |XA=>(ρ[i]?).join
 |none=>none
def Slots.gF jH afF(sl:FD)Pr:yG ι S (KC gF ρ) (vx gF σ):=by
 rw[L9 (gh KC vx) i x h];rw[qs KC];unfold vx;rw[v7 gI];cases ec:gF[i]? with
 |none=>rw[ec]at h;cases h
 |some o=>
  rw[ec]at h;cases o with
  |none=>cases h
  |some j=>
   have h':(ρ[j]?).join=iB:=U1;cases q:ρ[j]? with
   |none=>rw[q]at h';cases h'
   |some z=>
    rw[q]at h';rw[Ia h'' (z=iB) h' h''];rw[RX v (sl.2 j x q) v (aK h1) h2]
open Classical in
noncomputable def tj(w:qK)(g:oZ)(tc:iK)mh:fZ->ej->aL->fZ->Res fZ
 |[],_,M,acc=>.ok acc M
 |x::xs,ρ,M,acc=>match g x ρ with
  |none=>aF
  |some ρ1=>Fa (tc ρ1 M).TU k (if aO k then qe (d ρ1 aa).TU y (Ir (qE w M2/\acc.length<lim) (tj w g tc d xs ρ1 M2 (acc++[y])))
   else Ir (qE w aa) (tj w g tc d xs ρ1 aa acc))
open Classical in
noncomputable def nM m5 Pr(gr:rL)(g:oZ)(tc:iK)mh:bu:=BZ (HD M).bind r (if qE r.2 aa then qe (tj r.2 g tc d r.1 (KC gF ρ) aa []).TU ys (uT live ys M2) else aF)
structure ayY gp(ifs:dI)(t:iK):Prop where
 out:è X (ľ N0 GP t)
abbrev uV:iK:=cQ M (.ok true M)
def aew.imp{ifs:dI}{t t':kK}(h:è X t)aaR:è X t':=Yl s H Q I s H Q I (i σ H Q hw)
def N6:ayY X [] uV:=⟨aew.imp aXe λσ H Q h=>by
 rw[EH S M ρ ba sl w h]
 exact vM true rfl⟩
def a6H(h:aKv X GP c tc):ayY X [c] tc:=⟨aXf h.out⟩
def aVw afV cw BL p0 Pg p6 kM ve(h0:sN)(ex:r8)(ba:MY M)(hp:H' p=XU)(hi:p∉ι')(hS:auC p)(r:Ê K)
  (w:FE (xS xs)):oJ (Δ p):=by
 have ne:∀b u,H b=dO->b≠p:=λb u q=>wQ q h0;rw[Fo uT];split at w
 ·split at w
  ·refine w (ι'++[p]) S' H' _ ⟨NU n a h ((Up.push (S:=S') p).ix n a (ex.ix n a h)) ex.sm,?_,YJ u⟩ (ba.enter hi ⟨hS,vs,hp,r⟩) (U7 p (by rw[aC4]))
   ·rw[fu h1 ex.pre hl (aDx ι'.length) (by rw[←h1];rw[fH])]
    rw[aAv hl h1]
   ·rw[qj k1 k2 k3 (ex.fr b u ay a_ cz) k1 (gh k2 (ne b u ay)) k3]
  ·rw[ur sm (nQ S' (FN S' p vs)) (λb u q=>by rw[J0 hS]) up (Up ι' S' ι' (FN S' p vs)) (NU _ _ h h sm) (w ι' (FN S' p vs) H' _ ⟨⟨ex.ix,ex.sm.trans sm⟩,ex.pre,YJ u⟩ ⟨v3 u,ba.len,ba.nd,mE n a u h1 h2⟩ (bo.adp.mpr (mC p vs g6 (r.up up))))]
   ·rw[qj k1 k2 k3 (ex.fr b u ay a_ cz) k1 k2 (by rw[gZ (ne b u ay) k3])]
   ·rw[vR (b=p)]
    ·rw[RY q];cases q;exact hp
    ·rw[bG F_ q (ba.sub b u q)]
   ·rw[RO a p z (hi (LL z h1)) ((ba.ob n a u h1 h2).up up (cK (by rw[Dc z])) rfl)]
 ·rw[cX]
variable {scope:Scope}{N:gM}{gF:xG}{elt:Expr}{ifs:dI}
def aJj kM Pg zL p0(h:zo K (oS K) aH (nM live gF gr g tc d) σ H Q):
  ayF gF (zo K (anG K) aH gr) (awh K g) (zo K N0 GP tc) (XF K GP d) σ H Q:=by
 rw[JK ⟨ι,S,M,ρ,ba,sl,ez.bind (c8:=anG K) w λι1 bf aa H1 r J e1 OM TR w1=>?_⟩];rw[apS xs wt r TR w1];split at w1
 ·rename_i hc1;intro acc ae3;rw[cF a59 (OM.TL ae3) a6m (OM.fresh ae3)];rw[aqg a24 a4M (OM.side (o:=ς []) ae3) ⟨λi m ys σ' H'=>m=EV i/\asL i/\∃ι' S' M' ρ' GS,Ext ι1 bf H1 ι' S' H'/\Vt/\yG ι' S' ρ' σ'/\H' acc=yt ys/\acc∉ι'/\auC acc/\bF K ι' S' GS ys/\v9 M' ∧
    ez K (oS K) (aH σ) ι1 bf H1 Q (qe (tj wt g tc d (xs.drop i) ρ' M' GS).TU ys (uT live ys M2)),
   ⟨xs.length,Θ,q4,ι1,bf,aa,KC gF ρ,[],a4M,a24,(oh).gF gF,g6,a6m,a59,c6,hc1,a! w1⟩,?_⟩]
  rintro i m ys σ' H' ⟨rfl,hi',ι',S',M',ρ',GS,ex,kF,rN,hl1,Bt,hl3,rs,hck,ww⟩;obtain⟨aF1,aF2⟩:=TR i ι' S' M' H' ex.toUp kF hck
  by_cases g8:JN
  ·right;obtain⟨go,qJ⟩:=aF1 xs[i] aOE;rw[aOC,tj]at ww;rw[L9 go v H2 y];obtain⟨ι2,b8,Us,ay3,r2⟩:=qJ v H2 y;cases Gf:g xs[i] ρ' with
   |none=>rw[bG Gf ww ww.elim]
   |some ρ1=>
    rw[Xw Gf ww ⟨ι2,b8,M',ρ',xs[i],ρ1,ay3,rN.mono Us,r2,Gf,M6 ι3 u_ H3 σ3 aEk ay4 PQ⟩];have a4N:=Us.trans aEk;refine⟨ι3,u_,M',ρ1,ay4,PQ,?_⟩;dsimp only at ww;cases et:tc ρ1 M' with
    |exc c iL=>rw[bG et ww ww.elim]
    |bad=>rw[bG et ww ww.elim]
    |ok k iL=>
     rw[et]at ww;intro ι4 qN H4 k' xh uW rk;cases rk;rw[cF anU (a4N.trans xh) a4O (ex.trans anU)];rw[Cq f1 f2 f3 (anU.fr acc _ hl1 Bt hl3) ww (ez K (oS K) (aH σ) ι1 bf H1 Q (qe (if aO k then(d ρ1 iL).TU λy M2=>open Classical in Ir (v9 M2/\GS.length<lim) (tj wt g tc d (Ř (i+1)) ρ1 M2 (GS++[y])) else open Classical in Ir (v9 iL) (tj wt g tc d (Ř (i+1)) ρ1 iL GS)).TU ys (uT live ys M2))) ww];cases k with
     |false=>
      rw[yS nC ww (Gw ⟨EV (i+1),aD,rfl,g8,ι4,qN,iL,ρ1,GS,a4O,uW,PQ.mono xh,f1,f2,f3,rs.mono anU,?_⟩)];split at ww
      ·rename_i hc4;rw[cB hc4 ww]
      ·rw[ahX]
     |true=>
      rw[yS eK ww (DD ⟨ι4,qN,iL,ρ1,uW,PQ.mono xh,?_⟩)];cases ed:d ρ1 iL with
      |exc c Ue=>rw[bG ed ww ww.elim]
      |bad=>rw[bG ed ww ww.elim]
      |ok awH Ue=>
       rw[ed]at ww;intro ι5 aXV H5 u aQq anV al6;rw[cF ay5 (anU.trans aQq) ay6 (ex.trans ay5)];rw[Cq f1 f2 f3 (ay5.fr acc _ hl1 Bt hl3) ww (ez K (oS K) (aH σ) ι1 bf H1 Q (qe (open Classical in Ir (v9 Ue/\GS.length<lim) (tj wt g tc d (Ř (i+1)) ρ1 Ue (GS++[awH]))).TU ys (uT live ys M2))) ww];split at ww
       ·rename_i hc5;refine⟨f1,by rw[asj (aey hc5.2)],EV (i+1),aD,rfl,g8,ι5,aXV,Ue,ρ1,GS++[awH],?_,?_,PQ.mono (xh.trans aQq),g6,f2,f3,(rs.mono ay5).append (.one al6),hc5.1,ww⟩
        ·rw[eV ay6.toUp ay6.pre (YJ u)];rw[qj k1 k2 k3 (ay6.fr b u ay a_ cz) (by rw[gZ (wQ ay ae3) k1]) k2 k3]
        ·rw[uJ ⟨λb v q=>by rw[gZ (wQ q f3) (anV.sub b v q)],anV.len,anV.nd,mE n a v h1 h2⟩ aU (a≠acc) (cK (f2 (LL z h1)))];exact(anV.ob n a v h1 h2).up (WK _ _ h h _) (cK z) (lA aU)
       ·rw[ahX]
  ·left
   rw[Ia e (ajs i) aD e];rw[List.drop_length,tj]at ww;rw[cB (aF2 fe) (aVw ae3 ex kF hl1 Bt hl3 rs ww)]
 ·rw[mz]
def Y_ m5 afr(lg:YH X gr)
  aMy
  aaQ:jc (Hu elt [Si 0] scope pos) (nM live gF gr g tc d):=Wz (aZF (g:=awh X.K g) (tt:=ľ N0 GP tc) (te:=ľ ML GP d) co vy lg.out (λC fp s0 H0=>(hg C fp s0 H0).out) (λC fp s0 H0=>(hi C fp s0 H0).out) (λC fp s0 H0=>(he C fp s0 H0).out) hs) _ _ _ h (aJj h)
def aQ2 m5 iw{y:Str}{py anE:Pos}afr K_(lg:YH X gr)
  aMy
  aMq
  (hy:jz X.N y:=by rfl)(hx:au0 y:=by first | exact apG | exact aAj)
  aMn
  aaQ:vG (C4 [c_ y py] (Hu elt [Si 0] scope pos) anE) (lV i (nM live gF gr g tc d)):=abM (aUP (g:=awh X.K g) (tt:=ľ N0 GP tc) (te:=ľ ML GP d) co vy lg.out (λC fp s0 H0=>(hg C fp s0 H0).out) (λC fp s0 H0=>(hi C fp s0 H0).out) (λC fp s0 H0=>(he C fp s0 H0).out) hN hy hx hsw hf hs) D σ H h (by
  rw[EH S M ρ ba sl w h];rw[Wy (aJj ⟨ι,S,M,ρ,ba,sl,X_ w x v⟩) (yk ((oh).set r1 i))])
universe zE
universe L2
universe zE
section
namespace L2
open PySem PySem.Spec PyProof.Rows
abbrev Bu c9 dj cZ:xr:=λvs H Q E=>vs.length=n/\∃ι S M xs,vm/\gR/\FE (g xs M)
abbrev Out.res:Out->n0
 |.nx _ M=>.ok .ah M
 |.eO x M=>.ok x M
 |bW c _ M=>bW c M
 |_=>aF
@[simp] def Out.a06 p7:(Out.nx ρ M).res=.ok .ah M:=rfl
@[simp] def Out.a07 gX cw:(Out.eO x M).res=.ok x M:=rfl
@[simp] def Out.aZl tL p7:(Out.exc c ρ M).res=bW c M:=rfl
abbrev Dp dj(d:cR):D1:=λxs M=>(d (ata++at1 n) M).res
section
variable {P:Program}{w:World}{K:fh}{mg:Str->gK}{base:Heap}
def aTO K? p6{N:gM}(r:gR):yG ι S (ata++at1 N.length) (ajD N):=by
 unfold start;have hl:=r.length;rw[L9 (aK hl) i x h];by_cases hi:JN
 ·rw[agL XT,gI]at h;rw[agL (by simpa[←hl] using hi),gI];cases e:xs[i]? with
  |none=>rw[e]at h;cases h
  |some y=>
   rw[e]at h;cases h;rw[RX v (r.get e) v (by rw[cC h1]) h2]
 ·rw[aAF XT]at h;rw[aAP h];split at h<;>cases h
def amZ azi aoU Pk d6{d:cR}aM1 afA
  (hb:∀(gm:Value)UA,r5 (ä qual f) →
   â (Lm qual) (λ_=>E) d):
  rJ P w K mg base (l6 P w) (k+1) f fd ps (Bu K ps.length (Mx d)):=by
 obtain⟨oc,od,kV,doc,pm,an,gm,ct,O3,rfl,lk,zB⟩:=F.ex;refine a3b lk zB S (λvs H Q E h=>h.1) λA outer s H vs Q E hr O4=>⟨_,(hb gm A outer s H E hr).out,?_⟩;obtain⟨hl,ι,S',M,xs,ba,r,w'⟩:=O4;refine⟨ι,S',M,_,ba,aTO r,?_⟩;unfold Dp at w';cases q:d (ata++at1 N.length) M with
 |nx ρ M'=>rw[bG q w' (λι1 bf H1 σ1 e1 s1 _=>w' ι1 bf H1 .ah e1 s1 ð)]
 |eO y M'=>rw[bG q w' (λι1 bf H1 v e1 s1 r1=>w' ι1 bf H1 v e1 s1 r1)]
 |exc c ρ M'=>rw[bG q w' (λι1 bf H1 σ1 e1 s1 _=>w' ι1 bf H1 e1 s1)]
 |kA ρ M'=>rw[bG q w' w'.elim]
 |ct ρ M'=>rw[bG q w' w'.elim]
 |bad=>rw[bG q w' w'.elim]
abbrev fB.mM dj:ow fB
 |.gone=>true
 |ς xs=>W! n
 |.ak kvs=>agT kv n kv.2
 |.jk kvs=>agT kv n kv.2
 |.bO kvs=>agT kv n kv.2
 |dB _ fs=>fs.all λkv=>aj.mM n kv.2
 |bW _=>true
def pR.mM tG K? Lc:g5 (agT kv ι.length kv.2):=by
 induction h with
 |nil=>rfl
 |cons r t ih=>rw[List.all_cons,ih,bo.mM _ _ r.2];rfl
def pR.cut tG K? br Lc(hb:g5 (agT kv n kv.2)):pR K aui S kvs aG:=by
 induction h with
 |nil=>rw[v8]
 |cons r t ih=>
  rw[aqJ List.all_cons hb];exact b4 ⟨r.1,bo.cut _ _ hb.1 r.2⟩ (ih hb.2)
def Ou.mM aoz jo azn:aO (o.mM ι.length):=by
 cases o with
 |gone=>rfl
 |lst xs=>obtain⟨_,vs,_,r⟩:=h;exact bF.DF _ _ r
 |ak kvs=>obtain⟨_,vs,_,r⟩:=h;exact r.mM
 |jk kvs=>obtain⟨_,vs,_,r⟩:=h;exact r.mM
 |bO kvs=>obtain⟨_,_,_,_,r⟩:=h;exact r.mM
 |ins C fs=>obtain⟨_,dx,vs,_,r⟩:=h;exact r.mM
 |exc C=>rfl
def Ou.cut aoz jo xC br(h:Lo H a)(hb:aO (o.mM n)):Ou K aui S H a o:=by
 cases o with
 |gone=>exact h
 |lst xs=>rw[NK z e r h z e (bF.cut _ _ hb r)]
 |ak kvs=>rw[NK z e r h z e atA]
 |jk kvs=>rw[NK z e r h z e atA]
 |bO kvs=>rw[we ob vs z e h ob vs z e atA]
 |ins C fs=>rw[we z dx vs e h z dx vs e atA]
 |exc C=>exact h
open Classical in
noncomputable def Gy dF:n0->n0
 |.ok x M'=>BU (ahy=M/\arW x) .ok x aF
 |bW c M'=>BU (ahy=M) bW c aF
 |aF=>aF
abbrev trunc cZ:D1:=λxs M=>Gy M (g xs M)
def aJk{M M':aL}gX(h:ahy=M)(hb:arW x):Gy M (.ok x M')=.ok x M:=by rw[su Gy (if_pos ⟨h,hb⟩)]
def aXP{M M':aL}tL(h:ahy=M):Gy M (bW c M')=bW c M:=by rw[su Gy yK]
@[simp] def a71 cw gX(hb:arW x):Gy M (.ok x M)=.ok x M:=aJk List.take_length hb
@[simp] def a8b cw tL:Gy M (bW c M)=bW c M:=aXP List.take_length
@[simp] def a8c cw:Gy M aF=aF:=rfl
def aJl afV{M M':aL}aa6(kF:Vt)(ex:r8)(h:ahy=M):gk K ι S' M H'/\JH S' H':=by
 rw[iC ⟨kF.sub,ba.len,ba.nd,mE n a o h1 h2⟩ ⟨NU _ _ h h ex.sm,List.take_length,tZ u ay a_ cz⟩]
 ·rw[bJ hn (EB n) aAw.1 h2' (acw M') (by rw[←h,List.getElem?_take_of_lt hn]at h2;exact h2)]
  rw[cF m1 (kF.ob n a o (ex.ix n a h1) h2') m2 (ba.ob n a o h1 h2).mM];rw[Mn (m1.cut m2) ex.pre this]
 ·rw[qj k1 k2 k3 (ex.fr b u ay a_ cz) k1 a_ k3]
def aVx br Eb xy iP p0 BL(h:Bu K n (trunc g) vs H Q E):Bu K n g vs H Q E:=by
 obtain⟨hl,ι,S,M,xs,ba,r,w'⟩:=h;refine⟨hl,ι,S,M,xs,ba,r,?_⟩;unfold trunc at w';cases q:g xs M with
 |bad=>rw[bG q w' w']
 |ok x M'=>
  rw[q]at w';simp only[Gy]at w';split at w'
  ·rw[Jo];intro ι1 bf H1 v e1 s1 r1;obtain⟨s2,e2⟩:=aJl ba s1 e1 hc.1;refine w' ι bf H1 v e2 s2 ?_;have:=bo.cut (n:=M.length) x v hc.2 r1;rw[←ba.len,e1.pre]at this;rw[zV]
  ·exact w'.elim
 |exc c M'=>
  rw[q]at w';simp only[Gy]at w';split at w'
  ·rw[Jo];intro ι1 bf H1 e1 s1;rw[ee s2 e2 (aJl ba s1 e1 hc) (w' ι bf H1 e2 s2)]
  ·exact w'.elim
universe zE
structure zc D3 UT o8 nY dj cZ:Prop where
 ex:∃f fd ps,rJ P w K mg base (l6 P w) k f fd ps (Bu K n g)/\mg x=n7 f/\Vk K (Δ f)/\MT K
section
variable {P:Program}{w:World}{K:fh}{mg:Str->gK}{base:Heap}
def zc.mono afn eo br Eb aMU afo:Sk P w K mg k x n g:=by
 rw[we f fd ps F F.ex f fd ps Ą r]
def zc.trunc d6 eo br Eb(F:Sk P w K mg k x n g):Sk P w K mg k x n (trunc g):=by
 rw[we f fd ps F F.ex f fd ps (F.imp λ_ _ _ _ h=>aVx h) r]
structure a5H á nY aot:Prop where
 ex:∃f fd,QR K x x st f fd/\mg x=n7 f/\MT K
def zc.of eo G4 Pk d6{d:cR}azE
  (hb:∀aof UA,r5 (ä x f) →
   â (Lm x) (λ_=>E) d):Sk P w K mg (k+1) x ps.length (Mx d):=by
 rw[LH f fd F hm hB D.ex ⟨f,fd,ps,amZ F S (hb f),hm,F.kp,hB⟩]
universe zE
structure Good0 xu:Prop where
 hu:aQa
 calm:YO
 ps:aFY (l6 X.prog X.w) X aH
 nd:X.N.Nodup
structure Good xu:Prop extends auZ X where
 own:akS
def Good.mT l? aaM(G:Good X aH):auZ X:=G.toGood0
def amK Li Pk aoB aoq vd Pf nW iP BL d6 azJ
  azu:Good (mi (l6 P w) P w K mg base N qual scope f cd A outer s H E) (λ_=>E):=
 ⟨ri hr.units (λpins σ H s e s' I h=>aZG pins σ H s e s' I h) S.nd,PassesOwn.leaving⟩
def af8 l? aaM aa1 aft{N:gM}qR G_ nW iP(nd:N.Nodup):Good (wY X scope N C fp s H) GP:=
 ⟨⟨G.hu,G.calm,λpins σ H s e s' I h=>by obtain⟨_,_,_,_,_,z⟩:=h;exact z.elim,nd⟩,PassesOwn.never⟩
section
variable {X:bY}{aH:St->d_}{a b c e o:Expr}{es:dI}{da db pQ d f6:bu}{ds:tO}{pos pos' apos dc:Pos}{k n:Nat}{x m:Str}{g:D1}
def Ec{p:Pos}(F:zc X.prog X.w X.K X.mg X.base k x n g)(hr:akL)aa1 aoV(hn:ds.length=n:=by rfl)ao8
  US:ND (c_ x p) (e::es) (aB g ds):=⟨by
 obtain⟨f,fd,ps,F,hm,hk,hb⟩:=F.ex;rw[L0 (aXg F hr hg hm hk hb c6 G.ps ha.out KL he iJ) h h S M (ez.bind (c8:=Ck X.K) w λι1 bf aa H1 xs vs e1 s1 r1 w1=>?_)];rw[fX eP ⟨by rw[←lI r1.1,r1.2,hn],ι1,bf,aa,xs,s1,r1.1,w1⟩]⟩
universe zE
noncomputable abbrev anI:cY->aP->Unit->cO Unit:=ku _ True
abbrev oK:Ar bu->ej->aL->Res Unit
 |[],_,M=>.ok () M
 |none::r,ρ,M=>oK r ρ M
 |some d::r,ρ,M=>xR (dN).bind (match x with
  |η i=>oq (small i) (oK r ρ aa) aF
  |_=>aF)
structure Ul xu(es:dI)(ps:Ar bu):Prop where
 out:∀o7(Q:Unit->dS)(acc:Str)dj,ja->zo X.K anI aH (oK ps) σ H Q →
 asx (ps.length*2000)≤n->n≤1000000->Joins (model X.prog X.w) X.A X.s6 (ahI es) acc (λout s₁=>out.length≤n/\∃H',ć s₁/\oJ ()) s
section
variable {X:bY}{aH:St->d_}{a b c e:Expr}{es:dI}{d:bu}{ds:tO}{ps:Ar bu}{pos pos' dc:Pos}
def uP:Ul X aH [] []:=⟨λpins s σ H Q acc n I h hl hn=>by
 rw[EH S M ρ ba sl w h]
 exact⟨a! hl,H,I,vM () trivial⟩⟩
def jh eo{j}(h:Ul X aH es ps)(hx:x.length≤2000:=by decide)(he:ahI (B0 (aE x) j pos::es)=nA (B0 (aE x) j pos)::ahI es:=by rfl):Ul X aH (B0 (aE x) j pos::es) (none::ps):=⟨λpins s σ H Q acc n I hw hl hn=>by
 rw[he];rw[zE]at hl;rw[cV e1 (uf acc x=asx x.length) (strLen_append _ _) (Calls.Constant_str (Ys x ?_))]
 ·rw[e1,sizeLine_eq];omega
 ·exact h.out pins _ σ H Q (acc++x) n lN hw (by rw[n? e1]) hn⟩
def aVy iO(h:ŏ i):i.natAbs.log2<1920:=by
 rw[HC h h]
 have hn:i.natAbs<2 ^ 64:=aD
 by_cases h0:i.natAbs=0
 ·rw[h0];decide
 ·exact agn ((Nat.log2_lt h0).mpr hn) aZ
def y_{v:Expr}(hv:El v)(h:Ul X aH es ps)(he:ahI (aCS v (-1) none pos::es)=nA (aCS v (-1) none pos)::ahI es:=by rfl):Ul X aH (aCS v (-1) none pos::es) (some d::ps):=⟨λpins s σ H Q acc n I hw hl hn=>by
 rw[he];rw[zE]at hl;rw[Ym (FormattedValue_plain ?_) S M w hw];refine kj (hv.out pins s σ H (r6 (∃i,x=η i/\ŏ i/\zo X.K anI aH (oK ps) σ H1 Q)) I ⟨ι,S,M,ρ,ba,sl,vN⟩) u ⟨x,H1,aC,rx,i,ex,hs,q⟩
 ·cases x with
  |int i=>
   rw[aDH];split at w1
   ·rename_i hs;exact⟨i,Qo,hs,ι1,bf,aa,ρ,s1,oh,w1⟩
   ·rw[mz]
  |_=>rw[mz]
 ·subst ex;rw[sH rx];have aPN:=aVy hs
  rw[ur hlen (gE (ag0 i) 1921) (by rw[au PySem.ofString_length (int_text_length_le aZ aPN)]) e1 (uf acc (ag0 i)=asx (dR (ag0 i))) (strLen_append _ _) (formatField_int_small aPN (Ys (ag0 i) ?_))]
  ·rw[e1,sizeLine_eq];omega
  ·exact h.out pins _ σ H1 Q (acc++ag0 i) n (aC.tok _) q (by rw[n? e1]) hn⟩
def aZm aMM(h:Ul X aH (v₁::auD) ps)(hp:EE:=by decide):g9 (.JoinedStr (v₁::auD) pos) (uI (zo X.K anI aH (oK ps) σ H (cQ H' (∀z,oJ (aE z))))):=by
 intro pins s σ H Q I hw
 refine wpAny_JoinedStr ?_;have:=h.out pins s σ H _ Str.empty 1000000 I hw (by rw[EG (Str.empty.length=0) rfl]) fe
 rw[cV mono (∀(parts:LC ahx)(acc:Str)lu(anB anC:Str->BP),(∀o s,anB o s->anC o s)->Joins (model X.prog X.w) X.A X.s6 parts acc anB s->Joins (model X.prog X.w) X.A X.s6 parts acc anC s) (by
  intro parts
  induction parts with
  |nil=>intro acc s anB anC hq h;exact hq _ _ h
  |cons p r ih=>
   intro acc s anB anC hq h;exact yQ h v s1 y t e1 e2 e3 ⟨y,t,e1,e2,ih _ _ _ _ hq e3⟩) (mono _ _ _ _ _ (cG o s1 ⟨h1,H',aC,q⟩) this)];refine⟨by rw[n? sizeLine_eq],aE o,H',aC.tok _,lT,q o⟩
universe zE
abbrev gj nX(ps:Ar bu):cR:=NJ M (oK ps ρ M).out _ (bW C ρ aa)
abbrev ayn nX Lh:cR:=NJ M (xV).out _ (bW C ρ aa)
section
variable {P:Program}{w:World}{K:fh}{mg:Str->gK}{base:Heap}{N:gM}{qual:Str}{scope:Scope}{f:Addr}{cd:Value}{A:Around}{outer:Eg}{s:Shared}{H:aP}{E:d_}{x:Str}{C:Addr}{np dc pos a4P:Pos}{k:Nat}
def N3 aMM{ps:Ar bu}azk azu(h:Ul (mi (l6 P w) P w K mg base N qual scope f cd A outer s H E) (λ_=>E) (v₁::auD) ps)
  aMl(hp:EE:=by decide)K7:
  ayZ (mi (l6 P w) P w K mg base N qual scope f cd A outer s H E) (λ_=>E) (.Raise (aY (xP (c_ x np) [.JoinedStr (v₁::auD) a4P] [] dc)) none pos) (gj C ps):=⟨by
 rw[Yq (aHY M hr.hd hg (Tu (aZm h hp) aeo) hd) D H h S M w' h ⟨ι,S,M,ρ,ba,sl,nP.res (c8:=anI) sl w' λι1 bf aa H1 x v e1 s1 r1 w1=>?_⟩];intro z
 rw[cB (by show jK 1;rw[atr]) (IG σ oh)]⟩
def aXQ{e₀:Expr}{rest:dI}BH azk azu(h:anS (mi (l6 P w) P w K mg base N qual scope f cd A outer s H E) (λ_=>E) Sh ds)
  aMl(hn:ŝ 1000:=by decide)K7
  aMz
  aMd:
  ayZ (mi (l6 P w) P w K mg base N qual scope f cd A outer s H E) (λ_=>E) (.Raise (aY (xP (c_ x np) Sh [] dc)) none pos) (ayn C ds):=⟨by
 rw[Yq (aHY M hr.hd hg h.out hd he iJ) D H h S M w' h ⟨ι,S,M,ρ,ba,sl,nP.res (c8:=Ck K) sl w' λι1 bf aa H1 x v e1 s1 r1 w1=>?_⟩]
 rw[cB (by rw[←lI r1.1,r1.2];exact ar7 (aHl hn)) (IG σ oh)]⟩
universe zE
universe L2
universe zE
end
mutual
section
namespace L2
open PySem PySem.Spec PyProof.Rows
def Inv.Mo Py afm BE G_ xy afI
  aLN(kf:HV b (∃o,r4=cy))(new:Ry (yr (aQ vs)) h' s.heap.objs.size (aQ vs)):
  Xp (yr (aQ vs)) s h':=by
 rw[bJ hp aPx Nt O1 (∀b u,H b=dO->b∉fp) (λb u e z=>by rw[(hf b z).1]at e;cases e)]
 rw[cV np (∀b o,kX->Ä b) (λb o e=>pC nG) (I.step (g':=s.gens) (d':=s.drawn) (ch:=fp) oD (λb o _ _ hc e _=>k b o hc e) (λb o _ _ hc e _=>aDR (k b o hc e)) (λb o hc e n=>by rw[gZ (np b o e) n])
  (λb o hc e=>⟨o,k b o hc e⟩) (vJ b e (by rw[gZ (wQ e hp) e])) (λb o u e=>by rw[gZ (wQ e hp) e]) (abY b ps e (by rw[lA (wQ e hp),e];simp)) (c! m hm) (VF u e) I.bare)]
 ·obtain⟨f0,f1,f2,f3,f4,ji⟩:=hf b hb;exact⟨f3,f1,f4,ji⟩
 ·rw[we o es ep ho hm o es ep (k _ o (cK ((hf _ z).2.1 rfl)) ho) r]
 ·rw[vR (b=s.heap.objs.size)]
  ·rw[RY e];cases e;exact new
  ·rw[Xw F_ e ((XC u e).zq (λc v hc q=>k c v ?_ q) (λc q=>by rw[J0 hp]) (vJ c q (by rw[J0 hp])))]
   rcases hc with z | z
   ·rw[au z (O1 b u e)]
   ·exact O1 c _ z
def Inv.aJm Py afm BE G_ afI
  aLN:ah5 s h' t':=by
 rw[cV O1 (∀b u,H b=dO->b∉fp) (λb u e z=>by rw[(hf b z).1]at e;cases e) (I.step (g':=s.gens) (d':=s.drawn) (ch:=fp) oD (λb o _ _ hc e _=>k b o hc e) (λb o _ _ hc e _=>aDR (k b o hc e)) (λb o hc e n=>n)
  (λb o hc e=>⟨o,k b o hc e⟩) (vJ b e e) (λb o u e=>e) (abY b ps e (by rw[fy e])) (c! m hm) (VF u e) I.bare)]
 ·obtain⟨f0,f1,f2,f3,f4,ji⟩:=hf b hb;exact⟨f3,f1,f4,ji⟩
 ·rw[we o es ep ho hm o es ep (k _ o (cK ((hf _ z).2.1 rfl)) ho) r]
 ·refine(XC u e).zq (λc v hc q=>k c v ?_ q) (λc q=>q) (vJ c q q);rcases hc with z | z
  ·rw[au z (O1 b u e)]
  ·exact O1 c _ z
abbrev ax5 c9 rV:It:=
 ab9 i H (∃xs x,J1/\zW) i H v (∃p,sN/\v=Δ p/\∀xs,J1->∃x,zW/\H'=abw p [η i,x]) i H xs (J1/\Fb i)
def aVz D5{elts:dI}{x1}{GJ:Pos}(a e it:Addr)(aU:e≠it):
  Turn P w K (M9 elts x1 GJ) (ax5 K a) [e,it] e (λi h=>∃old,IsEnum h e it (i:Nat) old/\h.IsListIter it a i) where
 mem:=Θ
 obj:=λi h ⟨old,he,lg⟩ b hb=>by
  rcases ard with rfl | hb
  ·rw[WJ _ he v z (by cases z)]
  ·rw[Af eb (b=it) eb]
   rw[yw o e c d lg ⟨o,e,λv z=>by rw[d]at z;cases z⟩]
 keep:=λi h h' ⟨old,he,lg⟩ k=>⟨old,k e Θ _ he,lg.at λo q=>k it Θ o q⟩
 item:=by
  rw[ŗ X i s H E I st hg hP hw hK old he lg st];obtain⟨xs,x,hq,hx⟩:=hg
  rw[I3 rv p];rw[Ce u hu cL (rv.get hx) (wpAny_pyNext_enum_item he lg p.isList (x:=u) (a! hu) aU λh1 aEA aPO ht1 Bv k1=>IX (wpAny_letOwnedTupleGo_enum aEA (cG h2 acM aFp)))];rw[kP OU (U6 e) (Heap.lt_size he) Ub (aB7 e h1) aFp aEE (aN4=V3 Jw (mK #[η i s.toks,u])) (H! Ub _ aOP ht1) aC (kO (yr (aQ [η i,x])) (Cg s h2 (WC 1))) (by
   refine I.Mo (fp:=[e,it]) hf (yU hb q) oD ?_
   ·rw[LY n1 (b≠e) (cK (hb (aK z))) n2 (b≠it) z (hb (aK z))];exact Qj Ub n1 (k1 b o n1 n2 q)
   ·rcases ard with rfl | hb
    ·rw[ie acM]
    ·rw[Af eb (b=it) eb];obtain⟨o,q,_⟩:=aPO;rw[cB o (Qj Ub Ø q)]
   ·exact⟨by show jK 2;rw[atr],[η i s.toks,u],b4 lT (b4 cL c6),mC _ aEE _ rfl⟩)]
  have hp:=Vi ap0;refine⟨AB,_,aC,rfl,uv s.heap.objs.size hp (λys hy=>jy x (by rw[au (I.aw2 hy hq) hx])),⟨u,?_,?_⟩,oD⟩
  ·have:jv (i+1)=aS i+1:=by push_cast;rfl
   rw[au this acM]
  ·exact aPO.at λo q=>H! Ub it Ø q
  ·have:Ä b:=by
    rcases ard with rfl | hb
    ·exact aOO
    ·rw[Af eb (b=it) eb];obtain⟨o,q,_⟩:=lg
     exact ahq q
   rw[fX (lA this) (Jk b).1]
 done:=by
  rw[JM];rw[E8 old he lg st xs hq hx hg];rw[I3 rv p];rw[dm hl rv.length (wpAny_pyNext_enum_end (I.ok.hd hc) he lg p.isList (by rw[fH]) λh' eb=>kR ?_)];exact I.aJm (t':=s.toks) (fp:=[e,it]) hf (Q5 b o q b o (cK (hb (aK z))) q)
 self:=λ_ _ _ _ _ ⟨old,he,lg⟩ h=>aPu h
section
variable {X:bY}{aH:St->d_}{a:Expr}{d:bu}{pos p GJ:Pos}{elts:dI}{x1:Nat}
abbrev Ks vf:fZ:=(xs.zipIdx).map λq=>aQ [η q.2,q.1]
def aVA d5 gW{y:aj}(h:jz (Ks xs) y):∃x,zW/\y=aQ [η i,x]:=by
 rw[qs Ks];rw[gI,List.getElem?_zipIdx]at h;cases e:xs[i]? with
 |none=>rw[e]at h;cases h
 |some x=>rw[e]at h;cases h;exact lK x Θ
abbrev alv mh:rL:=ki (dN).bind (match x with
 |ς xs=>.ok (Ks xs,none) aa
 |ο n=>match aa[n]? with
  |g!=>.ok (Ks xs,ajP xs) aa
  |_=>aF
 |_=>aF)
def aGT jH{q:Addr}d5 aMm:aiS K (ax5 K q) (Ks xs) w S:=by
 intro i ι' S' M' H' up ba hc;rw[Ly vs hq rs (h ι' S' M' H' up ba hc) (c! y hy) (YE vs hq (by rw[←rs.length];simpa[Ks] using hl))];rw[E8 x hx rfl (aVA hy) v hv r (rs.get hx)];rw[L9 ⟨vs,v,hq,hv⟩ u H2 y];obtain⟨p,hp,rfl,y⟩:=y;obtain⟨z,hz,rfl⟩:=y vs hq;rw[hv]at hz;cases hz;rw[B7 s2 e2 (ahi (aQ [η i,v]) hp) ⟨ι',_,e2,s2,ê p _ g6 (b4 E6 (.one (r.mono e2)))⟩]
def aJn(h:El a)(hm:ag9 "enumerate")(hg:OJ X "enumerate" :=by rfl)aoX:aaE X aH (M9 elts x1 GJ) (xP (c_ "enumerate" p) [a] [] pos) (alv d):=⟨by
 intro pins s σ H R I hw
 rw[EH S M ρ ba sl w hw];rw[cV k? (pZ X [a] (T4 (aci d) aeY)) (Tu h.out aeo (by rw[cC hs])) (Vo (yn I hg hm (u:=dH "enumerate") (by first | rfl | decide) ?_ aZ aZ))]
 refine apZ (kj (k? pos pins s σ H (wH vs (∃q,vs=[Δ q]/\(∃xs,iI X.K H1 q xs)/\R (ax5 X.K q) H1)) I ?_) us ⟨vs,H1,aC,r1,q,ev,⟨xs,hq⟩,k⟩) (by rw[cC hs]) rfl
 ·refine⟨ι,S,M,ρ,ba,sl,vN⟩;cases x with
  |lst xs=>
   rw[î q vs ir rs r1];refine ajz q (.of (auj _ _)) (aGT (ab2 b8 M2 H2 up s2 _));rw[bQ vs (.of (aiT _ (up.sm _ _ ir))) (rs.up up)]
  |obj n=>
   rw[gY q ei (bo.A5.mp r1)];obtain⟨o,eM,mo⟩:=s1.addr ei;simp only[eM]at w1;cases o with
   |lst xs=>
    rw[agh aN rs mo];refine ajz q (.of aN) (aGT (ab2 b8 M2 H2 up s2 hc));obtain⟨_,amv,nR,OY⟩:=s2.ob n q _ (up.ix _ _ ei) hc;rw[bQ amv (.of nR) OY]
   |_=>rw[mz]
  |_=>rw[mz]
 ·subst ev;rw[II u cL r1];cases cL;rw[yC rv pl hz (aC.list hq)];rw[kQ (call_enumerate_list pl.isList (mE h' he lg hsz kp)) (aPu ?_)];rw[ahU hp (agy (Nat.le_refl s1.heap.objs.size)) hp1 (agy (Nat.le_succ s1.heap.objs.size)) ⟨aqL 1,[aqL 1,s1.heap.objs.size],_,_,H1,rfl,aC.kept (t':=s1.toks) kp,aVz q _ _ aO2,⟨cP,he,lg⟩,oD,k⟩];rcases ard with rfl | hb
  ·exact aC.GI Iw hp1
  ·have eb:b=s1.heap.objs.size:=B4
   rw[fq eb (aC.GI fe hp)]⟩
universe zE
universe L2
universe zE
section
namespace L2
open PySem PySem.Spec PyProof.Rows
abbrev aJo(scope sc:Scope)(an6 N:gM)Pr:Bool:=
 fK scope.kind ID&&aCC (λy=>!(y.2 == .cell))&&aCC (λy=>!(y.2 == .local)||(scope.names.lookup y.1 == Cp)) &&
 aCC (λy=>!(y.2 == AK)||(aA2 y.1 pJ)||(aA2 y.1 E1))&&fK gF.length N.length &&
 (List.range N.length).all λj=>match N[j]?,gF[j]? with
  |iB,Hw i=>(an6[i]? == iB)&&scope.names.any (λy=>y.1 == x&&y.2 == AK)&&(scope.names.lookup x == E1)
  |_,_=>true
def acG.of l?{scope sc:Scope}(an6 N:gM)Pr(hX:X.N=an6)(hk:∀x,IE x B9)(h:aO (aJo scope sc an6 N gF)):apr X N:=by
 subst hX;rw[qs aJo];rw[aAQ h];obtain⟨⟨⟨⟨⟨h1,h2⟩,h3⟩,h4⟩,h5⟩,h6⟩:=h;refine⟨aPr,cG y hy e,cG y hy e,cG y hy e,of_decide_eq_true h5,mE j x i e1 e2⟩
 ·rw[apM h2 y hy];rw[pG e this this]
 ·rw[apM h3 y hy];rw[e]at this;simpa using this
 ·rw[apM h4 y hy];rw[e]at this;rw[hk];simpa[or_comm] using this
 ·have hj:j<N.length:=(List.getElem?_eq_some_iff.mp e1).1;rw[apM h6 j (List.mem_range.mpr hj)];rw[e1,e2]at this;simp only[Bool.and_eq_true,beq_iff_eq,List.any_eq_true]at this;obtain⟨⟨a1,⟨y,a2,a3⟩⟩,a4⟩:=this;rw[bQ a1 (by rw[MH a3.1 a3.2 a2]) a4]
abbrev am0(scope sc:Scope):Scope:={ scope with names:=scope.names.map (akt (n,k) (yq&&aA2 n pJ) n (n,k))}
def aHq l?{scope sc:Scope}{N:gM}qR G_ nW iP(hk:∀x,IE x B9)(hf:X.env.scope.kind=ID)nY:
  (wY X scope N C fp s H).env.kindOf x=(asH (am0 scope sc)) x:=by
 show(asH atV) x=_;unfold relabel am0;simp only[hk,hf];simp only[Fl (g5 (ScopeKind.function == ScopeKind.function)),Bool.and_true]
section
variable {X:bY}{aH:St->d_}{a b c e o:Expr}{es:dI}{da db pQ d f6:bu}{ds:tO}{pos pos' apos dc:Pos}
abbrev zk mh:bu:=ki (dN).bind (match x with
 |η i=>.ok (η (-i)) aa
 |_=>aF)
def a66 Pp:vE atu .USub a (zk da):=⟨by
 rw[AY (acb a1o ha.out)];cases x with
 |int i=>rw[bQ i Qo (yk E6)]
 |_=>rw[mz]⟩
def aH2 Py K? cw{ys:fZ}xy{cf:b7}vc qP apk{cH:as8}tM bZ(ba:gk X.K ι S M H)
  (rs:bF X.K ι S ys vs)(rv:ő vs)(px:bo X.K ι S x v)(rx:oA)(e1:cu (Fx x) d)(e2:cu (Of aiK ys) cH):
  (∀y,y∈cf.toArray->SeqAt.EqAt X.A.in1 s y u (ahj (Á y) d))/\cf.map (λy=>Á y)=cH:=by
 rw[ap1 as a1 a2 a3 (Ż ba x v u d px rx e1) bs b1 b2 acE (adK (al0 ba I.bz deep) ys vs cf cH rs rv e2)]
 have a5G:ReadsAll s.heap cf.toArray.toList cH bs:=a! b1
 rw[Nd (SeqAt.items_eqAt a5G a1 b2 a2 (by have:=aN8 aBt;rw[EG (aju 10) a3]))];exact SeqAt.readsAll_map cH cf bs b2 b1
abbrev countP:zy:=λx as M=>match as with
 |[y]=>match CT,Fx y with
  |j_,some d=>match sM aiK with
   |some cH=>.ok (η (cH.countP (zR q q d))) M
   |none=>aF
  |_,_=>aF
 |_=>aF
def aHr tM:FC X "list.count" (Sj countP):=by
 intro pins s σ H x xs v us Q I rx rs h;rw[JL p ps r rr countP];split at w
 ·rw[Rc z rr.zh];rw[II u cL rs];split at w
  ·rename_i ys d h1 h2;split at w
   ·rename_i cH h3;rw[dw l vs aN rl (ik ba r h1)];cases rx;rw[yC rv pl hz (I.list (.of aN))];obtain⟨ay,a_⟩:=aH2 hu I ba rl rv r1 cL h2 h3
    obtain⟨⟨cls,dd,data,sl⟩,n,ho,hc,aEy,hd⟩:=id pl;simp only at hc hd aEy;subst hc hd;rw[n9 (call_meets PySem.F.slot_list_count pl.isList.typeIs PySem.F.entry_list_count (PySem.F.args_list_count_2 _ _) (SeqAt.list_countAt l _ n dd sl u _) ⟨ho,ay,?_⟩) e ((List.countP (zR y (Á y) d) cf.toArray.toList:Nat)=cH.countP (zR q q d)) (by
     rw[←a_,List.countP_map];rfl)]
    rw[fX e (Q6 (η _) H JD)]
   ·rw[cX]
  ·rw[cX]
 ·rw[cX]
abbrev Z9:zy:=λx as M=>match as with
 |[y]=>match CT,Fx y with
  |j_,some d=>match sM aiK with
   |some cH=>match cH.findIdx? (zR q q d) with
    |some j=>.ok (η j) M
    |none=>aF
   |none=>aF
  |_,_=>aF
 |_=>aF
def aHs tM:FC X "list.index" (Sj Z9):=by
 intro pins s σ H x xs v us Q I rx rs h;rw[JL p ps r rr Z9];split at w
 ·rw[Rc z rr.zh];rw[II u cL rs];split at w
  ·rename_i ys d h1 h2;split at w
   ·rename_i cH h3;split at w
    ·rename_i j h4;rw[dw l vs aN rl (ik ba r h1)];cases rx;rw[yC rv pl hz (I.list (.of aN))];obtain⟨ay,a_⟩:=aH2 hu I ba rl rv r1 cL h2 h3
     obtain⟨⟨cls,dd,data,sl⟩,n,ho,hc,aEy,hd⟩:=id pl;simp only at hc hd aEy;subst hc hd;rw[Cq hj ht hno (List.findIdx?_eq_some_iff_getElem.mp h4) hlen (cf.length=cH.length) (by rw[Ń a_])]
     rw[om Bw rv.length at' (∀(m:Nat)(h:m<cf.length),ahj (Á cf[m]) d=ahj (cH[m]' aD) d) (λm h=>by
      have:z! cH m (Á cf[m]):=by rw[←a_,gI,List.getElem?_eq_getElem h];rfl
      rw[List.getElem?_eq_getElem aD]at this;rw[Option.some.inj this]) (call_meets PySem.F.slot_list_index pl.isList.typeIs PySem.F.entry_list_index (PySem.F.args_list_index_2 _ _) (SeqAt.list_indexAt l _ n dd sl u (zR y (Á y) d) j (Va hlen hj) ?_ ?_ ?_) ⟨ho,ay,?_⟩)]
     ·rw[eg sizeLine_eq]
     ·simp only[List.getElem_toArray];rw[au (at' j aD) ht]
     ·intro m hm g8;rw[su List.getElem_toArray (at' m (a! hm))];simpa using hno m g8
     ·exact Q6 (η _) H JD
    ·rw[cX]
   ·rw[cX]
  ·rw[cX]
 ·rw[cX]
universe zE
def ak8:QM "len" fG "len":=dP
def aZn:QM "max" fG "max":=dP
def aJp:QM "min" fG "min":=dP
def aJq:QM "any" fG "any":=dP
def aQT:QM "list" dH "list":=dP
def aVB:QM "tuple" dH "tuple":=dP
def aJr:QM "int" dH "int":=dP
universe L2
universe zE
section
namespace L2
open PySem PySem.Spec PyProof.Rows
structure Oe UG xx:Prop where
 cl:Bp K C
 no:Z7 K C f
abbrev DC xx(v:aj):sG->sG
 |[]=>[(f,v)]
 | (g,x)::r=>W4 (g=f) (g,v) r ((g,x)::DC f v r)
def pR.lookup jH{fs:sG}{kI:CN}(h:JJ fs kI)xx:
  (bR Su/\bR (kI.lookup f))\/∃x v,Su=iB/\kI.lookup f=fU/\jI:=by
 induction h with
 |nil=>exact Jf rfl
 |@cons p q fs kI r t ih=>
  rw[Ve r1 r2 r p1 p2 p];rw[apS ay a_ q r1 r2];subst r1;rw[aCQ List.lookup_cons];cases e:f == p1 with
  |true=>exact aA (jd p2 a_ rfl r2)
  |false=>exact ih
def pR.oW jH{fs:sG}{kI:CN}(h:JJ fs kI)xx vc(r:jI):JJ (DC f x fs) (oW f v kI):=by
 induction h with
 |nil=>exact b4 (kR r) c6
 |@cons p q fs kI r' t ih=>
  rw[Ve p1 p2 p ay a_ q];rw[apS r1 r2 r' r1 r2];subst r1;show JJ (W4 (p1=f) (p1,x) fs ((p1,p2)::DC f x fs)) (W4 (p1=f) (p1,v) kI ((p1,a_)::L2.oW f v kI));rw[lE (p1=f)]
  ·rw[ek yL yL (b4 (kR r) t)]
  ·rw[ek wF wF (b4 (kR r2) ih)]
abbrev GU nX m7 dF:wm (Nat×sG):=match x with
 |ο n=>match M[n]? with
  |ü C' fs=>vz C' C (MC fs) none
  |_=>none
 |_=>none
def Ko qR br cw{fs:sG}(h:M[n]? = ü C fs):GU C (ο n) M=MC fs:=gh GU h
def axI zN vc qR br{fs:sG}Hg(h:GU C x M=MC fs):
  ∃a dx kI,v=Δ a/\xN/\H a=aY (dB C dx kI)/\JP/\JJ fs kI:=by
 cases x with
 |obj m=>
  rw[YF p ei r o q ei GU h];cases o with
  |ins C' gs=>
   rw[Co];split at h
   ·rename_i ec;cases h;subst ec;rw[LH hS dx kI aN rr q ⟨p,dx,kI,rfl,ei,aN,hS,rr⟩]
   ·cases h
  |_=>cases h
 |_=>cases h
section
variable {X:bY}{aH:St->d_}{a b c e o value:Expr}{es:dI}{da db pQ d dv f6:bu}{ds:tO}{pos pos' apos dc:Pos}{C:Addr}{f:Str}
abbrev lW nX xx mh:bu:=ki (dN).bind (match GU C x aa with
 |ql _ fs=>agj Su aa
 |none=>aF)
def S7(h:Oe X.K C f)Pp(hb:apt a f (nA a)=nA a:=by rfl):vE S3 a f (lW C f da):=⟨by
 rw[L0 (a1q ha.out hb) hh hh S M vN];cases e2:GU C x aa with
 |none=>rw[EA e2]
 |some p=>
  rw[aqX n fs p e2 w1 w1];rw[WO p dx kI ei aN hS rr (axI s1 r1 e2)];rcases rr.lookup f with⟨k1,_⟩ | ⟨y,u,k1,k2,k3⟩
  ·rw[EA k1]
  ·rw[k1]at w1
   exact⟨p,C,dx,kI,u,rfl,aN,h.cl,h.no,k2,IG u k3⟩⟩
abbrev hE nX xx(f6 dv:bu):cR:=NJ M (dv ρ M).out y ((Eu aa).out ρ λx M2=>match GU C x M2 with
 |MC fs=>Np agc .nx ρ (M2.set n (dB C (DC f y fs)))
 |none=>aF)
def acI(h:Oe X.K C f)(ho:ak0 o)(hv:jc value dv)(hs:apz value (aY (S3 o f pos'))=YU:=by rfl):vG (C4 [S3 o f pos'] value pos) (hE C f f6 dv):=⟨by
 rw[Yq (a1r ho.out hv.out hs) D H hh S M w hh ⟨ι,S,M,ρ,ba,sl,X_ w y u⟩];refine R4 (nP.res (c8:=ML) oh w1 λι2 b8 M2 H2 x v e2 s2 r2 w2=>?_);cases e3:GU C x M2 with
 |none=>rw[agQ e3 w2]
 |some p=>
  rw[aqX n fs p e3 w2 w2];split at w2
  ·rw[L4];rw[WO p dx kI ei aN hS rr (axI s2 r2 e3)];refine⟨p,C,dx,kI,rfl,aN,h.cl,h.no,by rw[cA rr.length hl],?_⟩;rw[ee s3 e4 (s2.put (u:=dB C dx (oW f u kI)) (o:=dB C (DC f y fs)) ei hS ⟨hS,dx,_,g6,rr.oW f Nf⟩) (w2 _ _ _ σ e4 s3 ((Ű).mono e4))]
  ·rw[asF]⟩
universe zE
structure Kt D3 UT o8 nX(m:Str)dj cZ:Prop where
 ex:∃f fd ps,rJ P w K mg base (l6 P w) k f fd ps (Bu K n g)/\Meth K C m f/\Bp K C/\MT K
structure s9 D3 UT o8 nY nX dj cZ:Prop where
 ex:∃f fd ps,rJ P w K mg base (l6 P w) k f fd ps (Bu K n g)/\ayy K C f/\mg x=n7 C/\MT K
section
variable {P:Program}{w:World}{K:fh}{mg:Str->gK}{base:Heap}{C:Addr}{m x:Str}{n:Nat}{g g':D1}
def Kt.mono afn aNg afo:Kt P w K mg base k C m n g:=by
 rw[we f fd ps F F.ex f fd ps Ą r]
def s9.mono afn aNh afo:s9 P w K mg base k x C n g:=by
 rw[we f fd ps F F.ex f fd ps Ą r]
structure ane UG(m q:Str)aot:Prop where
 ex:∃f fd,QR K m q st f fd/\Meth K C m f/\Bp K C/\MT K
structure aeB á nY nX(q:Str)aot:Prop where
 ex:∃f fd,QR K "__init__" q st f fd/\ayy K C f/\mg x=n7 C/\MT K
def Kt.of{q:Str}G4 Pk d6{d:cR}aMX
  aMG:Kt P w K mg base (k+1) C m ps.length (Mx d):=by
 rw[VU f fd F hm hc hB D.ex ⟨f,fd,ps,amZ F S (hb f),hm,hc,hB⟩]
def s9.of{q:Str}G4 Pk d6{d:cR}aNu
  aMG:s9 P w K mg base (k+1) x C ps.length (Mx d):=by
 rw[VU f fd F hm hc hB D.ex ⟨f,fd,ps,amZ F S (hb f),hm,hc,hB⟩]
universe zE
section
variable {X:bY}{aH:St->d_}{a b c e o:Expr}{es:dI}{da d f6:bu}{ds:tO}{pos apos p:Pos}{C:Addr}{m x:Str}{n k:Nat}{g:D1}
abbrev Uc nX(m:Str)cZ(f6:bu)Lh:bu:=ki (Eu M).bind (match GU C x aa with
 |ql _ fs=>match fs.lookup m with
  |tV=>aF
  |none=>qe (ģ aa).bind xs (g (x::xs) M2)
 |none=>aF)
def ayo{pl:aAl}(F:Kt X.prog X.w X.K X.mg X.base k C m n g)(hr:akL)aa1(ho:ak0 o)(ha:Y3 (e::es))aNx
  aMt
  aMe:
  ND (HK m) (e::es) (Uc C m g f6 ds):=⟨by
 obtain⟨f,fd,ps,F,hm,hc,hb⟩:=F.ex;rw[AY (aXh ho.out hc hm F hr hb c6 G.ps ha.out mW iJ ht)];cases e2:GU C x aa with
 |none=>rw[EA e2]
 |some q=>
  rw[aqX j fs q e2 w1 w1];rw[WO q dx kI ei aN hS rr (axI s1 r1 e2)];rcases rr.lookup m with⟨k1,k2⟩ | ⟨y,u,k1,k2,k3⟩
  ·rw[Xw k1 w1 ⟨q,dx,kI,rfl,aN,k2,ι1,bf,aa,ρ,s1,oh,ez.bind (c8:=Ck X.K) w1 λι2 b8 M2 H2 xs vs e3 s2 r2 w2=>?_⟩];rw[fX eP ⟨by rw[zE,←lI r2.1,r2.2,hn],ι2,b8,M2,_,s2,b4 (Vs e3) r2.1,w2⟩]
  ·rw[EA k1]⟩
abbrev Gr nX cZ Lh:bu:=BZ (xV).bind xs (qe (g (X3::xs) (aa++[dB C []])).bind r (match r with
 |.ah=>.ok X3 M2
 |_=>aF))
def aHt{fR:tf}aoh{sp:xr}BL BC p0 BK xy(M:ayy X.K C f)aoR azL(hb:MT X.K)
  (hx:∀(pins:f_)jX lu aoM,ja->fR X.stack H s E e s'->X.s6 e s')bZ(r:Rh)
  (h:∀x dx,pN x->pN dx->dx≠x->sp (Δ x::vs) (tU (ro dx .own x) x (dB C dx [])) (mq v (v=.ah/\Q (Δ x) H2)) E):
  ā (Δ C) us (HP X Q):=by
 rw[cF hq (h iV s.heap.objs.size (Vi Iw) Nt (pC aBq)) bh (Inv.made (C:=C) I)]
 rw[bJ r2 (Jh (V.ref iV::vs) (ag1::us)) (b4 rfl r) hl (ķ (uf (ag1::us) [])) (by
  rw[fJ e r2.length (F.len _ _ _ _ hq) e];rw[au eP e.symm])]
 rw[fJ KW (hb _ (ag1::us) bh.s7 hl) eP KW]
 refine arF (aXr (f:=f) I.s7 M.makes M.init (beq_iff_eq.mp M.fn) (arq (F.run _ X.stack _ _ (sD (ag1::us)) (ag1::us) _ _ E (hr.make C us [])
  (bh.aPQ.make C us []) KW r2 hq) r s' jT))
 cases r with
 |error e=>exact hx pins _ _ e s' bh jT
 |ok fl=>
  cases fl with
  |ret u=>
   obtain⟨v,H',dY,rv,ev,cz⟩:=bh.after jT;subst ev;rw[cB rv (jd (V.ref iV) H' dY cz)]
  |next=>rw[Cj jT]
  |brk=>rw[Cj jT]
  |cont=>rw[Cj jT]
def aHv zN BL p0 p6 aa6(r:gR)(hn:vs.length+1=n)
  (w:FE (qe (g (gC::xs) (M++[dB C []])).bind r (match r with | .ah=>.ok gC M2 | _=>aF))):
  ∀x dx,pN x->pN dx->dx≠x->Bu K n g (Δ x::vs) (tU (ro dx .own x) x (dB C dx [])) (mq v (v=.ah/\Q (Δ x) H2)) E:=by
 intro x dx hx hdx aU;rw[Fj s1 e1 (ba.side (o:=.own x) hdx) avj (bR (upd H dx (.own x) x)) (by rw[gZ Ø hx])]
 rw[ĥ hS (s1.TL avj) s2 e2 (s1.new (u:=dB C dx []) (o:=dB C []) avj ⟨hS,dx,[],g6,c6⟩)];rw[fu aQi agk hi (h9 (ι++[x]) M.length x) (by rw[aC4])]
 refine⟨kU zE hn,ι++[x],S,_,_,s2,b4 (U7 x hi) (r.mono aQi),ez.bind (c8:=oS K) (w.up aQi) λι1 bf aa H1 y v ex sm rp TR=>?_⟩;cases y with
 |ah=>rw[cB (bo.kz.mp rp) (TR ι1 bf H1 _ lM sm (U7 x (ex.ix _ _ hi)))]
 |_=>exact TR.elim
def aJs(F:s9 X.prog X.w X.K X.mg X.base k x C n g)azL aa1 aoV aNx ao8
  US:ND (c_ x p) (e::es) (Gr C g ds):=⟨by
 obtain⟨f,fd,ps,F,M,hm,hb⟩:=F.ex;intro pins s σ H Q I h
 rw[EH S M' ρ ba sl w h];rw[kQ (Vo (amx I hg hm ?_ KL)) (PySem.W.callWith_K (h₀:=X.base) I.ok.mod.ac9 M.kp (yQ (ha.out pos pins s σ H (wH vs (∀x dx,Ň x->Ň dx->dx≠x->Bu X.K n g (Δ x::vs) (tU (Jx H1 dx .own x) x (dB C dx [])) (mq v (v=.ah/\Q (Δ x) H2)) (aH σ))) I ?_) us s1 vs H1 aC r q (lR aC.s7)) he iJ)]
 ·refine⟨ι,S,M',ρ,ba,sl,ez.bind (c8:=Ck X.K) w λι1 bf aa H1 xs vs e1 s1 r1 w1=>?_⟩;exact aHv s1 r1.1 (by rw[←lI r1.1,r1.2,hn]) w1
 ·exact aHt M F hr hb (PU H s e s' I h (G.ps pins σ H s e s' I h)) aC r q⟩
def aXR(F:s9 X.prog X.w X.K X.mg X.base k x C 1 g)azL aa1(hg:Lk:=by rfl)ao8:ND (c_ x p) [] (Gr C g []):=⟨by
 obtain⟨f,fd,ps,F,M,hm,hb⟩:=F.ex;intro pins s σ H Q I h
 rw[EH S M' ρ ba sl w h];rw[Wy (Vo (amx I hg hm ?_ KL)) (PySem.W.callWith_K0 I.s7 M.kp (aHt (us:=[]) M F hr hb (PU H s e s' I h (G.ps pins σ H s e s' I h)) I c6 (aHv ba c6 rfl w)))]⟩
universe zE
section
variable {X:bY}{aH:St->d_}{a b c e o i value:Expr}{es:dI}{da db pQ d dv gr f6:bu}{ds:tO}{pos pos' apos dc:Pos}
def set_dict afh:T9 X (λo i v H Q=>∃a H',o=Δ a/\Fu H a i v H'/\Q H'):=by
 intro pins s σ H o i v ov iv u Q I ad0 adZ rv h;rw[dw p H' g q h];cases ad0;exact aVR hu I g adZ rv λs' I'=>⟨H',I',q⟩
abbrev DG(x k y:aj)dF:Option aL:=match x with
 |ο n=>match M[n]? with
  |g!=>match k with
   |η j=>(V_ j).map λm=>r? n (xs.set m y)
   |_=>none
  |m_ .ak=>match iH k with
   |some kk=>U5 (aqy lim) (aY (lS n .ak (kE kvs kk y)))
   |none=>none
  |m_ .jk=>match TZ k with
   |some kk=>U5 (aqy lim) (aY (lS n .jk (kE kvs kk y)))
   |none=>none
  |_=>none
 |_=>none
def aXS azQ{S H:aP}{M M':aL}{x k y:aj}{v kv u:V}{Q:dS}Hg(rk:Av k kv)(bg:Av y u)(h:cu (DG x k y M) M')
  (hQ:∀H',gk K ι S M' H'->JH S H'->Q H'):aKz v kv u H Q\/∃a H',v=Δ a/\Fu H a kv u H'/\Q H':=by
 cases x with
 |obj n=>
  rw[YF p ei r o q ei DG h];cases o with
  |lst xs=>
   rw[Co];cases k with
   |int j=>
    rw[Co];obtain⟨hS,vs,aN,rr⟩:=q;cases e:V_ j with
    |none=>rw[e]at h;cases h
    |some m=>
     rw[e]at h;cases h;rw[ee s2 e2 (ad8 ba ei hS (rr.set m bg)) (Ω ⟨p,vs,j,m,rfl,bo.N1.mp rk,aN,by rw[cA rr.length e],hQ _ s2 e2⟩)]
   |_=>cases h
  |ak kvs=>
   rw[Co];obtain⟨hS,aG,aN,rr⟩:=q;cases e:iH k with
   |none=>rw[e]at h;cases h
   |some kk=>
    rw[yy e h h];split at h
    ·rw[L4];cases h;rw[Yg (Tn rk e)];rw[ee s2 e2 (ba.put (u:=.bA (putK aG kk u)) (o:=.ak (kE kvs kk y)) ei hS ⟨hS,_,g6,rr.put kk bg⟩) (aA (FQ p (Fu.k aN (by rw[cA rr.length (aey hl)])) (hQ _ s2 e2)))]
    ·cases h
  |jk kvs=>
   rw[Co];obtain⟨hS,aG,aN,rr⟩:=q;cases k with
   |tup ks=>
    rw[Dd b ir rs rk];simp only[TZ]at h;cases e:Of iH ks with
    |none=>rw[e]at h;cases h
    |some kk=>
     rw[yy e h h];split at h
     ·rw[L4];cases h;rw[Yg (awm rs e)];rw[ee s2 e2 (ba.put (u:=.dT (putK aG kk u)) (o:=.jk (kE kvs kk y)) ei hS ⟨hS,_,g6,rr.put kk bg⟩) (aA (FQ p (Fu.t aN (wg ir) (by rw[cA rr.length (aey hl)])) (hQ _ s2 e2)))]
     ·cases h
   |_=>cases h
  |_=>cases h
 |_=>cases h
abbrev k7(f6 gr dv:bu):cR:=NJ M (dv ρ M).out y ((Eu aa).out ρ λx M2=>(HD M2).out ρ λk bE=>match DG x k y bE with
 |some iL=>.nx ρ iL
 |none=>aF)
def T9.or{t t':anL}(h:T9 X t)(h':T9 X t'):T9 X (λo i v H Q=>t o i v H Q\/t' o i v H Q):=by
 intro pins s σ H o i v ov iv u Q I ad0 adZ rv q;rcases q with q | q
 ·exact h pins s σ H o i v ov iv u Q I ad0 adZ rv q
 ·exact h' pins s σ H o i v ov iv u Q I ad0 adZ rv q
def dn tM(ho:ak0 o)(hi:jc i gr)(hv:jc value dv)
  (ha:∀v,arM (yF o i pos') v=(do
   let ov ←Hv [v] Hi
   let iv ←Hv [v,ov] (nA i)
   standAt pos'
   Hv [v,ov,iv] (setItem ov iv v)
   release [v,ov,iv] []):=by rw[acq _])
  (hs:aNH [yF o i pos'] value X.env=YU:=by rfl)(hw:aNJ [yF o i pos'] value=pure none:=by rfl)
  (h1:Ho (YT [yF o i pos']).map=[acC (yF o i pos')]:=by rfl):vG (C4 [yF o i pos'] value pos) (k7 f6 gr dv):=⟨by
 rw[Yq (aJW hv.out (Y1 ho.out hi.out (set_list.or (set_dict aD)) ha) hs hw h1) D H hh S M w hh ⟨ι,S,M,ρ,ba,sl,X_ w y u⟩];refine R4 (nP.res (c8:=ML) oh w1 λι2 b8 M2 H2 x v e2 s2 r2 w2=>?_);refine⟨ι2,b8,M2,ρ,s2,Ű,nP.res (c8:=ML) Ű w2 λι3 u_ bE H3 k kv e3 s3 w9 w3=>?_⟩;cases e4:DG x k y bE with
 |none=>rw[bG e4 w3 w3.elim]
 |some iL=>
  rw[bG e4 w3 (aXS s3 (bo.mono e3 r2) w9 (Vs ņ) e4 λH' s' e'=>w3 _ _ _ σ e' s' ((sl.mono (e1.trans ņ)).mono e'))]⟩
universe zE
universe L2
universe zE
end
mutual
section
namespace L2
open PySem PySem.Spec PyProof.Rows
abbrev bools:fZ->wm AD
 |[]=>some []
 |.ai b::r=>(bools r).map (b::·)
 |_::_=>none
def aHw jH:∀p6{bs:AD},gR->cu (bools xs) bs->vs=aC9
 |[],vs,bs,r,e=>by rw[bF]at r;subst r;cases e;rfl
 |x::xs,vs,bs,r,e=>by
  rw[dw v r' h1 h2 r.w5];cases x with
  |ai b=>
   rw[bools]at e;cases e2:bools xs with
   |none=>rw[e2]at e;cases e
   |some cs=>
    rw[e2]at e;cases e;rw[bB,aHw h2 e2,bo.fA.mp h1]
  |_=>cases e
def aF5 gA(f:Xm)UD:bools (xs.map λx=>.ai (f x))=aY (xs.map f):=by
 induction xs with
 |nil=>rfl
 |cons x xs ih=>rw[bB,bools,ih];rfl
section
variable {X:bY}{aH:St->d_}{a b c e o:Expr}{es:dI}{da db pQ d f6:bu}{ds:tO}{pos pos' apos dc:Pos}
abbrev aet:D1:=λxs M=>match xs with
 |[x]=>match (CT).bind bools with
  |some bs=>.ok (.ai (bs.all id)) M
  |none=>aF
 |_=>aF
abbrev aav:D1:=λxs M=>match xs with
 |[x]=>match (CT).bind bools with
  |some bs=>.ok (.ai (bs.any id)) M
  |none=>aF
 |_=>aF
def aXT{bs:AD}{cf:b7}(rv:ő aC9)iw aa0(h:AN cf.toArray):v=qg (ase i):=by
 have h':AN cf:=a! h
 rw[fJ hl rv.length d9 hl]
 have hi:i<bs.length:=by rw[fX hl (List.getElem?_eq_some_iff.mp h').1]
 rw[đ u h2 (rv.get (i:=i) (x:=.ai bs[i]) (by rw[gI,List.getElem?_eq_getElem hi];rfl))];rw[h']at h1;cases h1;rw[apU hi];exact h2
def aWo{bs:AD}:(List.range bs.length).any (λi=>ase i)=bs.any id:=by
 induction bs with
 |nil=>rfl
 |cons b bs ih=>
  rw[zE,List.range_succ_eq_map,List.any_cons,List.any_map,List.any_cons,←ih];rfl
def a08 Py{l:Addr}{bs:AD}bZ BF(aN:H l=ET aC9){f:String}{k:Bool}p0
  (call:∀rY,nD (model X.prog X.w) X.A.in1 (pyIter (Δ l)) (λit s₂=>∃I fp wr n P St tr,it=Δ I/\PySem.Walks X.prog X.w X.A.in1 I fp wr n P St/\St 0 s₂.heap/\TruthOf X.prog X.w X.A.in1 P tr ∧
   n=bs.length/\tr=(λi=>ase i)/\∀h' tk,(∀b o,b∉wr->s₂.heap.get? b=cy->r4=cy)->Q (qg k) (Cg s₂ h' tk)) X.s6 s →
   ā (fG f) [Δ l] Q)(q:Q (.ai k) H):ű (PySem.call (fG f) [Δ l]) X Q:=by
 rw[yC rv pl hz (I.list (.of aN))];rw[ME (call (aPp pl.isList)) aU (Ä l) (by
  obtain⟨o,n,ho,_⟩:=pl;exact ahq ho) hlen (cf.toArray.size=bs.length) (by have:=rv.length;rw[ź];simp[this])]
 refine⟨s.heap.objs.size,_,_,_,_,_,λi=>ase i,rfl,PySem.Walks.list (A:=X.A.in1) (I.ok.hd hc) s.heap.objs.size l aU cf.toArray,⟨Ħ _ _,pl.isList.at λo e=>vo e⟩,?_,hlen,rfl,FT tk hk⟩
 ·intro i v s2 Q' E' hP hQ;have:=aXT rv i v hP;rw[fq this (wpAny_truthy_bool hQ)]
 ·refine Fz .ai k ?_ q;refine I.kept (t':=tk) λb o e=>hk b o ?_ (vo e);intro hb
  have:b=s.heap.objs.size:=B4
  exact Nat.ne_of_lt nG this
def aHx BF:Jd "any" (JF aav):=by
 rw[QU s H Q I rs h];obtain⟨E,ι,S,M,ys,ba,r,w⟩:=h
 rw[Fo aav];split at w
 ·split at w
  ·rename_i x bs hb;rw[Rc v r.zh];rw[gY u cL (vals1 rs)];obtain⟨zs,h1,h2⟩:=Option.bind_eq_some_iff.mp hb;rw[dw l vs aN rr (ik ba r1 h1)];cases cL;rw[yS (aHw rr h2) aN (a08 I hc aN (λ{Q} h=>call_any_walk (S5 h (λit s2 ⟨aC,fp,wr,n,P,St,tr,e1,e2,e3,e4,e5,e6,sT⟩=>⟨aC,fp,wr,n,P,St,tr,e1,e2,e3,e4,FT tk hk⟩) _ _ z z)) Ŷ)];subst e5 e6;rw[au aWo (sT h' tk hk)]
  ·rw[cX]
 ·rw[cX]
abbrev tyP dF:yT aj String
 |.ah=>some "NoneType"
 |.ai _=>some "bool"
 |η _=>some "int"
 |aE _=>some "str"
 |ς _=>some "list"
 |aQ _=>some "tuple"
 |.dX _=>none
 |ο n=>match M[n]? with
  |yt _=>some "list"
  |d7 .ak _=>some "dict"
  |d7 .jk _=>some "dict"
  |_=>none
def aZa zN vc{t:String}Hg(h:tyP M x=eU):zu K H v (dH t):=by
 cases x with
 |ah=>cases asU;cases h;exact .ah
 |ai b=>cases Ú;cases h;exact .ai b
 |int i=>cases aiq;cases h;exact η i
 |str z=>cases air;cases h;exact aE z
 |lst xs=>rw[î p vs e q r];cases h;exact ς (wg e)
 |tup xs=>rw[Dd p e q r];cases h;exact aQ (wg e)
 |dX xs=>cases h
 |obj n=>
  rw[YF p e r o q e tyP h];cases o with
  |lst xs=>cases h;rw[ď e q q (ς e)]
  |ak xs=>cases h;rw[ď e q q (.bA e)]
  |jk xs=>cases h;rw[ď e q q (.dT e)]
  |_=>cases h
abbrev ae5(t c:String):as9:=
 if["NoneType","bool","int","str","list","tuple","dict"].contains t&&["bool","int","list","tuple"].contains c then aY (t == c||(t == "bool" && c == "int")) else none
abbrev aDZ(c:String)mh:bu:=ki (dN).bind (match (tyP aa x).bind (ae5 · c) with
 |fE=>.ok (.ai k) aa
 |none=>aF)
def a25 kM{t c:String}{k:Bool}(h:ae5 t c=fE):PySem.W.kitOne K (dH t) (dH c)=fE:=by
 rw[qs ae5];split at h
 ·rw[Jo];simp only[Bool.and_eq_true,List.contains_iff_mem,List.mem_cons,List.not_mem_nil,or_false]at hc;rw[yg hc];rcases h1 with rfl | rfl | rfl | rfl | rfl | rfl | rfl<;>rcases h2 with rfl | rfl | rfl | rfl<;>(cases h;rw[af7])
 ·cases h
def aJ9(T:String)eo{p q:Pos}Pp(hm1:aCO)(hm2:apv x)(hv2:Lz=d7 dH T)aL5
  azq
  aMk:
  ND (c_ "isinstance" p) [a,c_ x q] (aDZ T da):=⟨by
 rw[bJ k? (pZ X [a,c_ x q] (T4 (aci da) (T4 (ad2 (.ty T)) aeY))) (Tu ha.out (Tu (aYL aQI hm2 hv2 (v:=.ty T) rfl hn hd) aeo) he) hc (AJ (aDD fG) (λvs H Q=>∃v t k,vs=[v,.ty T]/\zu X.K H v (dH t)/\ae5 t T=fE/\Q (.ai k) H)) (by
  rw[QU s H Q I r h];obtain⟨v,t,k,rfl,ty,eX,q⟩:=h;rw[dw u w' r1 r2 (vals2 r)];cases r2;exact aVN I r1 ty (a25 eX) λtk=>Fz .ai k lN q)]
 rw[L0 (aw3 hc ave hm1 dP k? aZ aZ he iJ) h h S M (LQ c8 w ι1 bf aa H1 y v e1 s1 r1 w1 ?_)];cases e2:(tyP aa y).bind (ae5 · T) with
 |none=>rw[EA e2]
 |some k=>
  rw[e2]at w1;rw[U_ t h1 h2 (Option.bind_eq_some_iff.mp e2) ⟨v,t,k,rfl,aZa s1 r1 h1,h2,yk E!⟩]⟩
universe zE
universe L2
universe zE
section
namespace L2
open PySem PySem.Spec PyProof.Rows
abbrev a2Y:fZ->wm fD
 |[]=>some []
 |η i::r=>(a2Y r).map (i::·)
 |_::_=>none
section
variable {X:bY}{aH:St->d_}{a:Expr}{da:bu}{pos:Pos}
def aXU:QM "bool" dH "bool":=dP
abbrev rh:bu:=cQ M (.ok gC (M++[.ak []]))
def ad9:jc (.Dict [] [] pos) rh:=⟨Br.imp aW5 λσ H Q h p hp=>by
 rw[EH S M ρ ba sl w h];rw[ee s1 x1 (ba.new (u:=.bA []) (o:=.ak []) hp ⟨ba.TL hp,[],eK,c6⟩) (w _ _ _ _ x1 s1 (U7 p (by rw[←ba.len,aAF fe];simp)))]⟩
universe zE
universe L2
universe zE
section
namespace L2
open PySem PySem.Spec PyProof.Rows
abbrev qF m7 dF:wm (Nat×nZ):=match x with
 |ο n=>match M[n]? with
  |m_ .ak=>x6
  |_=>none
 |_=>none
def pT br cw afq G3:qF (ο n) M=x6:=gh qF h
def Og zN vc D6 Hg(h:qF x M=x6):
  ∃a aG,v=Δ a/\xN/\H a=XS .bA/\JP/\R_/\x=ο n:=by
 cases x with
 |obj m=>
  rw[YF p ei r o q ei qF h];cases o with
  |ak xs=>
   cases h;rw[yw hS aG aN rk q ⟨p,aG,rfl,ei,aN,hS,rk,rfl⟩]
  |_=>cases h
 |_=>cases h
section
variable {X:bY}{aH:St->d_}{a b c e f o:Expr}{es:dI}{da db pQ d f6 dk dx:bu}{ds:tO}{pos pos' apos dc:Pos}
abbrev aeh(f6 dk:bu):bu:=ki (Eu M).bind (match yV with
 |tV=>qe (IQ aa).bind y (match qF x M2,iH y with
  |ql _ kvs,fE=>.ok ((Ex).getD .ah) M2
  |_,_=>aF)
 |none=>aF)
abbrev Ov(f6 dk dx:bu):bu:=ki (Eu M).bind (match yV with
 |tV=>qe (IQ aa).bind y ((dx ρ M2).bind λz bE=>match qF x bE,iH y with
  |ql _ kvs,fE=>.ok ((Ex).getD z) bE
  |_,_=>aF)
 |none=>aF)
abbrev awd(f6 dk:bu):bu:=ki (Eu M).bind (match yV with
 |tV=>qe (IQ aa).bind y (match qF x M2,iH y with
  |x6,fE=>match Ex with
   |fU=>.ok v (JT n .ak (Kz kvs k))
   |none=>aF
  |_,_=>aF)
 |none=>aF)
abbrev aei(f6 dk dx:bu):bu:=ki (Eu M).bind (match yV with
 |tV=>qe (IQ aa).bind y ((dx ρ M2).bind λz bE=>match qF x bE,iH y with
  |x6,fE=>match Ex with
   |fU=>.ok v (bE.set n (.ak (Kz kvs k)))
   |none=>.ok z bE
  |_,_=>aF)
 |none=>aF)
def am1 zN vc{q:Nat×nZ}Hg(h:cu (qF x M) q):∃p,v=Δ p/\Uy H p:=by
 obtain⟨p,aG,rfl,_,aN,_⟩:=Og ba r h;exact lK p (F6 aG (Ω aN))
def aJt zN br ve{ys:nZ}{us:qV}aa6 aMB(r:JJ ys us):gk K ι S (LF n (.ak ys)) (ro p .bA us)/\JH S (ro p .bA us):=
 ba.put hi hS ⟨hS,us,g6,r⟩
def aH3 tM ao2(m:aa X o "get" apos e dc:=by exact ER rfl rfl):W3 atY [e] dc (aeh f6 dk):=⟨by
 rw[AY (aW7 aD ho.out he.out m)];cases ay:yV with
 |none=>rw[Xs]
 |some q=>
  rw[ay]at w1;rw[gY p hd (am1 s1 r1 ay)];refine⟨p,rfl,hd,ι1,bf,aa,ρ,s1,oh,LQ c8 w1 ι2 b8 M2 H2 y u e2 s2 r2 w2 ?_⟩;cases a_:qF x M2 with
  |none=>rw[agQ a_ w2]
  |some sZ=>
   rw[asG n sZ];cases cz:iH y with
   |none=>rw[a_,cz]at w2;rw[asF]
   |some k=>
    rw[a_,cz]at w2
    obtain⟨p',aG,ep,ei,aN,hS,rk,_⟩:=Og s2 Nf a_;cases ep;have eX:=Tn r2 cz;subst eX;rw[De _ (.k aN)]
    dsimp only at w2;rcases ajH with⟨z1,z2⟩ | ⟨x',v',z1,z2,rr⟩
    ·rw[z1]at w2;rw[au z2 (w2 ι2 b8 H2 _ lM s2 ð)]
    ·rw[z1]at w2
     rw[au z2 (w2 ι2 b8 H2 _ lM s2 rr)]⟩
def awQ tM ao2(hf:jc f dx)(m:M2 X o "get" apos e f dc:=by exact ER rfl rfl):W3 atY [e,f] dc (Ov f6 dk dx):=⟨by
 rw[AY (aW8 aD ho.out he.out hf.out m)];cases ay:yV with
 |none=>rw[Xs]
 |some q=>
  rw[ay]at w1;rw[gY p hd (am1 s1 r1 ay)];refine⟨p,rfl,hd,ι1,bf,aa,ρ,s1,oh,LQ c8 w1 ι2 b8 M2 H2 y u e2 s2 r2 w2 ?_⟩;refine⟨ι2,b8,M2,ρ,s2,Ű,LQ c8 w2 ι3 u_ bE H3 z t e3 s3 w9 w3 ?_⟩;cases a_:qF x bE with
  |none=>rw[bG a_ w3 w3.elim]
  |some sZ=>
   rw[asG n sZ];cases cz:iH y with
   |none=>rw[a_,cz]at w3;exact w3.elim
   |some k=>
    rw[a_,cz]at w3
    obtain⟨p',aG,ep,ei,aN,hS,rk,_⟩:=Og s3 (Vs ņ) a_;cases ep;have eX:=Tn r2 cz;subst eX;rw[De _ (.k aN)]
    dsimp only at w3;rcases ajH with⟨z1,z2⟩ | ⟨x',v',z1,z2,rr⟩
    ·rw[z1]at w3;rw[au z2 (w3 ι3 u_ H3 _ lM s3 w9)]
    ·rw[z1]at w3
     rw[au z2 (w3 ι3 u_ H3 _ lM s3 rr)]⟩
def a7c tM ao2(m:aa X o "pop" apos e dc:=by exact ER rfl rfl):W3 atZ [e] dc (awd f6 dk):=⟨by
 rw[AY (aW9 ho.out he.out m)];cases ay:yV with
 |none=>rw[Xs]
 |some q=>
  rw[ay]at w1;rw[gY p hd (am1 s1 r1 ay)];refine⟨p,rfl,hd,ι1,bf,aa,ρ,s1,oh,LQ c8 w1 ι2 b8 M2 H2 y u e2 s2 r2 w2 ?_⟩;cases a_:qF x M2 with
  |none=>rw[agQ a_ w2]
  |some sZ=>
   rw[asG n sZ];cases cz:iH y with
   |none=>rw[a_,cz]at w2;rw[asF]
   |some k=>
    rw[a_,cz]at w2
    obtain⟨p',aG,ep,ei,aN,hS,rk,_⟩:=Og s2 Nf a_;cases ep;have eX:=Tn r2 cz;subst eX
    dsimp only at w2;rcases ajH with⟨z1,z2⟩ | ⟨x',v',z1,z2,rr⟩
    ·rw[agQ z1 w2]
    ·rw[z1]at w2;refine⟨aG,k,v',aN,rfl,z2,?_⟩
     rw[ee w! x4 (aJt s2 ei hS (rk.drop k)) (w2 ι2 b8 _ _ x4 w! rr)]⟩
def awR tM ao2(hf:jc f dx)(m:M2 X o "pop" apos e f dc:=by exact ER rfl rfl):W3 atZ [e,f] dc (aei f6 dk dx):=⟨by
 rw[AY (aXa ho.out he.out hf.out m)];cases ay:yV with
 |none=>rw[Xs]
 |some q=>
  rw[ay]at w1;rw[gY p hd (am1 s1 r1 ay)];refine⟨p,rfl,hd,ι1,bf,aa,ρ,s1,oh,LQ c8 w1 ι2 b8 M2 H2 y u e2 s2 r2 w2 ?_⟩;refine⟨ι2,b8,M2,ρ,s2,Ű,LQ c8 w2 ι3 u_ bE H3 z t e3 s3 w9 w3 ?_⟩;cases a_:qF x bE with
  |none=>rw[bG a_ w3 w3.elim]
  |some sZ=>
   rw[asG n sZ];cases cz:iH y with
   |none=>rw[a_,cz]at w3;exact w3.elim
   |some k=>
    rw[a_,cz]at w3
    obtain⟨p',aG,ep,ei,aN,hS,rk,_⟩:=Og s3 (Vs ņ) a_;cases ep;have eX:=Tn r2 cz;subst eX
    dsimp only at w3;refine⟨aG,k,aN,rfl,c! v' hv,dJ hv⟩
    ·rcases ajH with⟨z1,z2⟩ | ⟨x',v'',z1,z2,rr⟩
     ·rw[z2]at hv;cases hv
     ·rw[z2]at hv;cases hv;rw[z1]at w3;rw[ee w! x4 (aJt s3 ei hS (rk.drop k)) (w3 ι3 u_ _ _ x4 w! rr)]
    ·rcases ajH with⟨z1,z2⟩ | ⟨x',v'',z1,z2,rr⟩
     ·rw[bG z1 w3 (w3 ι3 u_ H3 _ lM s3 w9)]
     ·rw[z2]at hv;cases hv⟩
universe zE
universe L2
universe zE
section
namespace L2
open PySem PySem.Spec PyProof.Rows
def gk.aKa zN ve{u:jn}xA(hp:p∉ι)(hS:Y6 p):gk K ι S M (q7 p u):=by
 refine abB o s.len n a o
 ·rw[gZ (wQ q hS) (PM o q)]
 ·rw[RO a p z (hp (LL z h1)) ((QZ n a o).up (WK _ _ h h S) (cK z) (lA aU))]
def xi:∀(more kvs:qV),ic (kvs.map (·.1)++more.map (·.1))->Oi kvs more=kvs++more
 |[],kvs,_=>aK Oi
 |p::r,kvs,h=>by
  rw[bJ h1 (¬(g5 (ag5 kv (j7=p.1)))) (by
   rw[aqN];rintro⟨q,hq,e⟩;rw[bG List.nodup_append h (h.2.2 q.1 (List.mem_map_of_mem hq) p.1 Θ aPG)]) h2 (Oi kvs (p::r)=Oi (z8 p.1 p.2) r) rfl];rw[h2,putK,EL,xi r _ (a! h)];simp
section
variable {X:bY}{aH:St->d_}{v:Expr}{d:bu}{pos p kp:Pos}{keys:ai2}{values:dI}{DH:YV bu}
noncomputable abbrev lY nY:Key:=Sum.inr x
abbrev Gz aok:bu:=BZ (CZ aB3 M).bind xs (.ok X3 (aa++[.ak ((ŧ q q.1).zip xs)]))
structure anT xu(pos:Pos)(keys:ai2)(values:dI)aok:Prop where
 out:aeU X pos keys values (aht q (ad2 (aE q.1),aci q.2))
def FR:anT X aH pos [] [] []:=⟨aZv⟩
def zj{k:Str}{j}(hv:El v)(hr:anT X aH pos keys values DH):anT X aH pos (aY (B0 (aE k) j kp)::keys) (v::values) ((k,d)::DH):=⟨aW6 aJV hv.out hr.out⟩
def aJu kM afF:∀aok{ι:cY}aoS{Q:gO V V->dS},vm->FD →
  ez K (ayK K) (aH σ) ι S H (λvs H'=>oJ ((aht q (V.str q.1)).zip vs)) (CZ aB3 M)->am6 (aht q (ad2 (aE q.1),XF K aH q.2)) σ H Q
 |[],ι,S,H,M,Q,ba,sl,w=>vM [] c6
 | (k,d)::r,ι,S,H,M,Q,ba,sl,w=>by
  refine⟨ι,S,M,ρ,ba,sl,ez.bind (c8:=oS K) w λι1 bf aa H1 x v e1 s1 r1 w1=>?_⟩;rw[Wy (aJu r s1 oh (ez.bind (c8:=ayK K) w1 λι2 b8 M2 H2 xs vs e2 s2 r2 w2=>?_)) (w2 ι2 b8 H2 (v::vs) lM s2 (b4 Nf r2))]
def aJv jH:∀{ks:qi}p6,gR->JJ (ks.zip xs) (ks.zip vs)
 |[],xs,vs,_=>c6
 |k::ks,[],vs,h=>by rw[Ũ bF h h]
 |k::ks,x::xs,vs,h=>by
  rw[dw v r h1 h2 h.w5];exact b4 (kR h1) (aJv h2)
def am2(h:anT X aH pos keys values DH)(aeW:aO aPq:=by rfl)(hl:keys.length=values.length:=by rfl)(h0:keys≠[]:=by exact aBu _)(aEr:keys.length≤15:=by exact LK)(hk:DH.length≤15:=by exact LK)
  (hn:ic (ŧ q q.1):=by rw[ò]):vE .Dict keys values (Gz DH):=⟨by
 rw[Ym (Br.imp (aZw h.out aeW hl h0 aEr) (yh σ H Q hh a ha)) S M w hh];obtain⟨s0,x0⟩:=ba.side (o:=.bA []) ha;rw[i6 hai (ba.fresh ha) aEv (ba.TL ha) (aJu DH s0 sl ?_)];rw[Fo Gz];cases ed:CZ aB3 M with
 |bad=>rw[nt ed]
 |exc c M2=>rw[bG ed w (λι2 b8 H2 e2 s2=>w ι2 b8 H2 aDc s2)]
 |ok xs M2=>
  rw[ed]at w;intro ι2 b8 H2 vs e2 s2 r2;obtain⟨f1,f2,f3⟩:=e2.fr a _ g6 hai aEv
  rw[bJ hlen (∀aok D?,(aht q (V.str q.1)).zip vs=((ŧ q q.1).zip vs).map λkv=>(kV j7,kv.2)) (by
   intro DH
   induction DH with
   |nil=>rw[acq vs]
   |cons q r ih=>
    intro vs;cases vs with
    |nil=>rfl
    |cons v vs=>simp only[bB,List.zip_cons_cons,ih vs];rfl) a4E (∀(ks:qi)D?,(gf (ks.zip vs).map).Sublist ks) (by
   intro ks
   induction ks with
   |nil=>intro vs;exact List.Sublist.slnil
   |cons k r ih=>
    intro vs;cases vs with
    |nil=>exact List.nil_sublist _
    |cons v vs=>exact(ih vs).cons₂ k)]
  refine⟨f1,(ŧ q q.1).zip vs,hlen DH vs,?_,?_⟩
  ·rw[List.length_zip,d9];omega
  ·have jm:z3 ((ŧ q q.1).zip vs).map:=hn.sublist (a4E _ _);rw[xi _ _ (a! jm),fz];have s3:gk X.K ι2 b8 M2 (Jx H2 a .bA ((ŧ q q.1).zip vs)):=s2.aKa f2 f3;rw[om e3 aDc Bt aLq (by have:=e3.pre;rw[←this];rw[fH]) (w (ι2++[a]) b8 _ _ ⟨NU n b hb ((Up.push (S:=b8) a).ix n b (e3.ix n b hb)) e3.sm,?_,YJ u⟩ (s3.enter f2 ⟨f3,_,g6,aJv r2⟩) (U7 a (by rw[Ń s2.len])))]
   ·rw[aAv Bt e3.pre]
   ·rw[Cq k1 k2 k3 (e3.fr b u ay a_ cz) hb (b≠a) (cK (by rw[z,ha]at ay;cases ay))]
    rw[bQ (by rw[au (lA hb) k1]) (gh k2 hb) k3]⟩
universe zE
universe L2
universe zE
section
namespace L2
open PySem PySem.Spec PySem.Calls PyProof.Rows PySem.W Builtin Builtin.ObjectAttr Builtin.Getset_descriptor
def aTP:HH (entryFor table "BaseException.__getattribute__") Builtin.«object.__getattribute__» :=
 entryFor_alias (id':= "object.__getattribute__") asa (by first | rfl | rw[ò]) dP asa
def aTQ:plainId "BaseException.__getattribute__" = true:=dP
def aTR:HH (splitId "BaseException.__getattribute__") ("BaseException","__getattribute__"):=dP
def aGU:HH (builtinKind "BaseException.__getattribute__") .slot:=dP
def aUS(self:Value):bindSpecial (aOu fG) self=pure (aOu fG,[self]):=by
 rw[bJ h1 (aOq "#opaque" = none) dP h2 (aOq "#data" = none) dP]
 simp only[bindSpecial,typeOf,builtinType,h1,h2,aGU];rfl
structure anf UG:Prop where
 ga:yz (Δ C) "__getattribute__" = aOt fG
 gt:HH (yz (Δ C) "__getattr__") none
 cl:yz (Δ C) "__class__" = aBD fG
 g7:aAG K Js = aAy fG
 tk:PySem.W.takesIn K Js=uB
 mo:aB8 C akI=uB
 mb:aB8 C aj6=uB
 ci:AZ (PySem.W.clsIn K C)
section
variable {K:fh}{C e:Addr}{prog:Program}{w:World}{A:Around}{E:iQ}{s:Shared}
def aSO afj{M:Model}tK(iu:K.In h):Looks M h (ObjectAttr.find (Δ e) (Δ C) "__class__") (.bind (ap2 fG) Js):=by
 rw[H_ aap (aCA M M X.cl) L2 (looks_specialIn (M:=M) iu X.g7) ayp (looks_takesIn (M:=M) iu X.tk)];exact aap.andThen (L2.andThen ((show Looks M h (dataDescriptor? (abj "object.__class__") (abj "getset_descriptor.__get__")) (ql (ap2 fG) Js) from ayp.andThen .now).andThen (Looks.tag .now)))
def aUT afj azS{tp:Value}azj(h:R (.ok (.ret (Δ C))) s):
  Me nj A (.call (ap2 fG) (sD [Js,Δ e,tp])) R s:=by
 obtain⟨hh,g,dr,t,os⟩:=s;rw[i6 aao (LT nj) aap (looks_mroIn (M:=nj) iu X.mo) (codeAny_call_builtin KF.slot_gs.plain KF.entry_gs (KF.slot_gs.check _ _ _ _ _ _ _ _ KF.type_class (KF.args_gs _ _ _) ?_))];unfold Builtin.«getset_descriptor.__get__» descrGet;rw[ia dga_obj (fk Fc)];unfold descrGetter descrCheckInstance descrNameAndClass isInstance;simp only[KF.owner_class]
 repeat lk
 rw[iC (Code.quiet_builtin _ dP) (codeAny_builtin KF.entry_class ?_)];unfold Builtin.«object.__class__» shownTypeOf
 repeat lk
 exact h
def aWp(a b:Value):argsOk "BaseException.__getattribute__" (sD [a,b]):=by
 unfold argsOk
 kernel_rfl
def aWq afj azS{b:Value}Pd(h:Q () s):
  FF (checkBuiltinCall "BaseException.__getattribute__" (sD [Δ e,b])):=by
 obtain⟨hh,g,dr,t,os⟩:=s;rw[Mh aao (LT nj) aap (looks_mroIn (M:=nj) iu X.mb) aU1 (Looks nj hh (isInstance (Δ e) aj6) true) (aao.andThen aap)];simp only[checkBuiltinCall,aGU,aTR];refine fk (aU1.at ?_);simp only[Bool.not_true,Bool.false_eq_true,if_false];have ha:=aWp (Δ e) b;cases a5j:Manifest.signature? "BaseException.__getattribute__" with
 |none=>exact SX
 |some sig=>
  simp only[argsOk,a5j]at ha;have h2:aOr sig (sD [Δ e,b])=pure ():=ha;rw[W5 (nD _ _ (aOr sig (sD [Δ e,b])) Q E _) h2 SX]
def aWr afj azS{Q:gK->BP}(h:akq (n7 C) s 1):
  FF (getAttr? (Δ e) "__class__"):=by
 obtain⟨hh,g,dr,t,os⟩:=s;rw[Lx aao (LT nj) aap (aCA M nj X.ga) L2 (aCA M nj X.gt) ayp (aSO (e:=e) X (M:=nj) iu)];unfold getAttr? getAttrBy? getAttrBy;rw[ar8 (fk (wpAny_mkText (fk (wpAny_attempt (wpAny_holding (fk (aao.at (fk (aap.at ?_)))))))))]
 rw[sr (by
  have:Hr (Value.builtin "BaseException.__getattribute__") (Value.builtin "object.__getattribute__"):=aZ
  rw[ek this Bool.and_false Bool.false_ne_true])]
 unfold getAttrByItsOwn hookBefore;refine aB2;rw[abI (jx (show aO (onTheHeap (Δ C)) from rfl)) (L2.at ?_) (fk (wpAny_attempt aPd))];unfold callGetattribute boundAndCalled;rw[asR,aUS];rw[ar8 (fk Fc)];refine arF (codeAny_call_builtin aTQ aTP (aWq (s:=⟨hh,g,dr,t+1,os⟩) X iu LT ?_));rw[jw Builtin.«object.__getattribute__» (wpAny_bind (m:=slotArgs "__getattribute__" 1 _) Fc)];dsimp only;rw[kQ (wpAny_bind (m:=attrName _) Fc) (fk (aao.at ?_))];rw[ar8 (fk (ayp.at ?_))];show nD _ _ (Hv [Value.builtin "object.__class__"] (call (ap2 fG) [Js,Δ e,Δ C]) >>= ret) _ _ _;rw[kQ (arj (arF (aUT (s:=⟨hh,g,dr,t+1,os⟩) X iu LT ?_))) Fc];rw[F3 (nD _ _ (handedOut (Δ C)) _ _ _) (Mw SX)]
def aXz afj:KitX K (Δ e) (Δ C) (λh=>∃ob vs,cu (h.get? e) ob/\ob.cls=Δ C/\acA (iS vs)) where
 ty:=λ_ _ _ ⟨ob,vs,h1,h2,_⟩=>h2▸(Looks.ld h1).andThen .now
 it:=λ_ _ iu _=>by
  have hc:=X.ci;unfold clsIn at hc;split at hc
  ·rename_i c' d' a5I rN ho;intro A' Q' E' s' k q;unfold isType loadHead;exact fk (wpAny_loadPart (k _ _ (iu _ _ ho)) (wpAny_pure q))
  ·cases hc
 ne:=λh tp dd cf n sl iu htp=>by
  rw[dm hc X.ci (Bool.eq_false_iff.mpr (dJ q))];rw[Ia e (C=tp) (Value.ref.inj (beq_iff_eq.mp q)) e];unfold clsIn at hc;split at hc
  ·rename_i c' d' a5I rN ho;have z:=(atX (iu _ _ ho)) htp;cases z
  ·cases hc
 ca:=λiu ⟨ob,vs,h1,h2,_⟩ k=>aWr X iu (λ_=>h2▸(Looks.ld h1).andThen .now) k
universe zE
universe L2
universe zE
end
mutual
section
namespace L2
open PySem PySem.Spec PyProof.Rows
section
variable {X:bY}{aH:St->d_}{a:Expr}{da:bu}{pos:Pos}
abbrev anP(mX:Xb)mh:bu:=ki (dN).bind (match x with
 |ο n=>match aa[n]? with
  |d7 bW C=>match atd with
   |fE=>.ok (.ai k) aa
   |none=>aF
  |_=>aF
 |_=>aF)
def a2k Py{p C:Addr}bZ(h:H p=aY (OL p C)):∃ob vs,vv p ob/\ob.cls=Δ C/\acA (iS vs):=
 (show(∃ob vs,vv p ob/\ob.cls=Δ C/\acA (iS vs))/\_ from yc p h).1
structure aD0 c9(T:Value)(mX:Xb):Prop where
 all:∀C k,atd=fE->anf K C/\PySem.W.kitOne K (Δ C) T=fE
def aTS{T:V}eo{p q:Pos}qP{mX:Xb}(ht:xM T)(hT:aD0 X.K u mX)(hu:∀u',RelV T u'->u'=u)(h2:Xi (c_ x q) T)Pp(hm1:aCO)(ave:aNK X)
  (he:Ef [a,c_ x q]=akY a::Ef [c_ x q])(iJ:YQ (YR [c_ x q]).any):
  ND (c_ "isinstance" p) [a,c_ x q] (anP mX da):=⟨by
 rw[bJ k? (pZ X [a,c_ x q] (T4 (aci da) (T4 (ad2 T) aeY))) (Tu ha.out (Tu h2 aeo) he) hc (AJ (aDD fG) (λvs H Q=>∃e C k,vs=[Δ e,T]/\H e=aY (OL e C)/\atd=fE/\Q (.ai k) H)) (by
  rw[QU s H Q I r h];obtain⟨e,C,k,rfl,aN,eX,q⟩:=h;rw[dw u1 w' r1 r2 (vals2 r)];cases r1;rw[hu _ r2];rw[ee h1 h2 (hT.all C k eX) (S1 (aXz h1) (a2k I aN) h2 (λz=>nomatch z) (λtk=>Fz .ai k lN q))])]
 rw[L0 (aw3 hc ave hm1 dP k? aZ aZ he iJ) h h S M (LQ c8 w ι1 bf aa H1 y v e1 s1 r1 w1 ?_)];cases y with
 |obj n=>
  rw[gY p ei (bo.A5.mp r1)];obtain⟨o,eM,q⟩:=s1.addr ei;simp only[eM]at w1;cases o with
  |exc C=>
   rw[aDH];split at w1
   ·rename_i k hk;exact⟨p,C,k,rfl,q.2,hk,yk E!⟩
   ·rw[mz]
  |_=>rw[mz]
 |_=>rw[mz]⟩
def a2l eo{D:Addr}{p q:Pos}(mX:Xb)(hT:aD0 X.K (Δ D) mX)Pp(hm1:aCO)(hm2:X.mg x=n7 D)aL5 K7
  aMk:
  ND (c_ "isinstance" p) [a,c_ x q] (anP mX da):=
 aTS (T:=Δ D) rfl hT (cQ h h) (aIP aQI hm2 rfl hd) ha hm1 ave he iJ
structure a8H c9(aSW:cY)(mX:Xb):Prop where
 all:∀C k,atd=fE->anf K C/\PySem.W.kitAny K (Δ C) (aSW.map Value.ref)=fE
universe zE
universe L2
universe zE
section
namespace L2
open PySem PySem.Spec PyProof.Rows
section
variable {X:bY}{aH:St->d_}
abbrev DK(cs:cY)(zg uQ:Nat)(s1:cR):cR:=λρ M=>match IP M with
 |bW c ρ' M'=>Np (aO (cs.contains c)) .nx ((ρ'.set zg (iz M'.length)).set uQ none) (M'++[bW c])
 |o=>o
def Slots.unset jH afF(s:FD)iw:yG ι S (ρ.set i none) (ajB none):=by
 rw[L9 (aK s.1) j x h];rw[lE (i=j)]
 ·rw[yP e List.getElem?_set_self' h];cases q:ρ[i]? with
  |none=>rw[q]at h;cases h
  |some z=>rw[q]at h;cases h
 ·rw[ux agI h (s.2 j x h)]
structure Catch á nY(Gu:Addr)(cs:cY):Prop where
 name:mg x=n7 Gu
 all:∀c∈cs,PySem.W.exmOne K (Δ c) (Δ Gu)=uB
def aJ2{x n y:Str}{Gu:Addr}{cs:cY}(zg uQ:Nat)aNf{s1:cR}aa1(hC:Catch X.K X.mg x Gu cs)
  (hb:∀(fP:f_)(OI:iQ)UY,auZ (aku fP)->GK (aku fP) aH body s1)
  (mW:X.stack=abK:=by rfl)(KX:aDo aA8:=by rfl)(hx:Lk:=by rfl)(hy:h9 X.N zg y:=by rfl)(alQ:acp y:=by rfl)(hn:h9 X.N uQ n:=by rfl)(ln:acp n:=by rfl)
  aLS:
  vG (.Try body [aCl (acB x np) (some n) [C4 [c_ y py] (c_ n avT) apos] ayX] [] [] pos) (DK cs zg uQ s1):=⟨by
 rw[Yq (a1i (P:=X.prog) (w:=X.w) (tb:=λaH=>TJ X.K aH s1) rfl rfl mW KX G.calm G.nd hx hC.name hy alQ hn ln (λfP OI aTa hp=>(hb fP OI aTa ⟨G.hu,G.calm,hp,G.nd⟩).out) aJN hdx hdn) D H h S M w h ⟨ι,S,M,ρ,ba,sl,?_⟩];rw[Fo DK];cases e:IP M with
 |exc c ρ' M'=>
  rw[yy e w w];split at w
  ·rw[Jo];intro ι1 bf H1 σ1 e1 s1' amg;refine ri c (hC.all c (a! hc)) (c! a ha);obtain⟨s2,x2⟩:=s1'.new (u:=OL a c) (o:=bW c) ha ⟨s1'.TL ha,g6⟩;refine w _ _ _ _ (e1.trans x2) s2 (Slots.unset (Slots.set (amg.mono x2) (U7 a (by rw[Ń s1'.len])) zg) uQ)
  ·rw[cX]
 |nx ρ' M'=>rw[Fq w w]
 |eO y M'=>rw[Fq w w]
 |kA ρ' M'=>rw[Fq w w]
 |ct ρ' M'=>rw[Fq w w]
 |bad=>rw[Fq w w]⟩
universe zE
universe L2
universe zE
section
namespace L2
open PySem PySem.Spec PyProof.Rows
abbrev less(S:aP)rV:aP:=M! b b a none (S b)
def a67{S:aP}{a b:Addr}(h:b≠a):less S a b=S b:=pH
def aHy{S:aP}jo:bR (less S a a):=eK
def aXA{S:aP}{a b:Addr}{u:jn}(h:less S a b=dO):S b=dO:=by
 rw[qs less];split at h
 ·cases h
 ·exact h
section
variable {K:fh}{ι:cY}{S:aP}{a:Addr}{ob:Obj}{aG:qV}
def iI.less ve xy aaU(q:iI K S p vs):iI K (less S a) p vs:=by
 rcases q with(q | ⟨o,q⟩) | q
 ·rw[t6 aU (p≠a) (cK (by rw[z,ha]at q;cases q)) (Ω (Ω (by rw[P_ aU q])))]
 ·rw[t6 aU (p≠a) (cK (by rw[z,ha]at q;cases q)) (Ω (r_ o (by rw[P_ aU q])))]
 ·exact aA q
mutual
theorem bo.less aaU:∀af2,jI->bo K ι (less S a) x v
 |.ah,v,h=>CS
 |.ai b,v,h=>CS
 |η i,v,h=>CS
 |aE x,v,h=>CS
 |ς xs,v,h=>by
  rw[v7 bo];rw[B5 p e q r h]
  rw[RO p a z (by rw[z,ha]at q;cases q) ⟨p,vs,e,by rw[P_ aU q],asW xs vs r⟩]
 |aQ xs,v,h=>by
  rw[v7 bo];rw[B5 p e q r h]
  rw[RO p a z (by rw[z,ha]at q;cases q) ⟨p,vs,e,by rw[P_ aU q],asW xs vs r⟩]
 |ο n,v,h=>by
  rw[ux bo h h]
 |.dX ns,v,h=>by
  rw[v7 bo];rw[qj p e q h p e (q.less ha)]
theorem bF.less aaU:∀vf D?,gR->bF K ι (less S a) xs vs
 |[],vs,h=>Va bF h
 |x::xs,vs,h=>by
  rw[v7 bF];rw[wB v r e h1 h2 h v r e (bo.less ha x v h1) (asW xs r h2)]
end
def pR.less tG{kvs:R9}{aQZ:Eh}aaU(h:pR K ι S kvs aQZ):pR K ι (less S a) kvs aQZ:=by
 induction h with
 |nil=>rw[v8]
 |cons r t ih=>exact b4 ⟨r.1,bo.less ha _ _ r.2⟩ ih
def Ou.GA iP{b:Addr}xC aaU(hb:b≠a)(h:Lo H b):Ou K ι (auk a) (ro a .bA aG) b o:=by
 rw[bJ hn (Y6 b->bR (L2.less S a b)) (cK (by rw[P_ hb z])) hu (upd H a (.bA aG) b=H b) F_];cases o with
 |gone=>rw[nH u q h u VK]
 |lst xs=>rw[NK z q r h (hn z) VK (asW _ _ r)]
 |ak xs=>rw[NK z q r h (hn z) VK aul]
 |jk xs=>rw[NK z q r h (hn z) VK aul]
 |bO xs=>rw[we aES vs z q h aES vs (by rw[P_ hb z]) VK aul]
 |ins C fs=>rw[we z dx vs q h (hn z) dx vs VK aul]
 |exc C=>rw[nH z q h (hn z) VK]
def gk.GA cw iP D6 xA(hi:xN)(hM:Hj .bO):
  ∃ob aG,S a=lB .b! .bA/\H a=lB .b! .bA/\gk K ι (auk a) (JU .ak) (ro a .bA aG):=by
 obtain⟨ob,aG,hS,hH,r⟩:=s.ob n a _ hi hM
 refine⟨ob,aG,hS,hH,v3 u,ah2,s.nd,mE m b o h1 h2⟩
 ·have hb:b≠a:=cK (by rw[z,aHy]at q;cases q)
  rw[au (lA hb) (PM u (aXA q))]
 ·by_cases hm:n=m
  ·rw[yP hm hi h1];cases h1;have hl:EB n:=aAx.1;rw[Hz hl h2];cases h2;exact⟨aHy,aG,g6,r.less hS⟩
  ·rw[LN hm h2];have aU:b≠a:=λz=>hm (s.inj hi (z▸h1));exact(QZ m b o).GA hS aU
def Slots.less afF aaU(s:FD):yG ι (auk a) ρ σ:=⟨s.1,λi x h=>by
 rw[RX v (s.2 i x h) v h1 (bo.less ha _ _ h2)]⟩
def Ext.GA{ι0:cY}{eZ H0 H:aP}br(e:Ext ι0 eZ H0 ι S H)(hi:Se ι0 a)(h0:bR (eZ a)):Ext ι0 eZ H0 ι (auk a) (ro a .bA aG):=by
 rw[eV ⟨e.ix,v3 u⟩ e.pre (YJ u)]
 ·rw[P_ (wQ q h0) (e.sm b u q)]
 ·rw[Cq k1 k2 k3 (e.fr b u ay a_ cz) hb (b≠a) (cK (a_ (LL z hi)))];rw[bQ (by rw[au (lA hb) k1]) k2 (by rw[P_ hb k3])]
def gk.T3 cw iP D6 xA(hi:xN)(hM:Hj .ak)(ob:Obj):
  ∃aG,JP/\H a=XS .bA/\R_/\gk K ι (tU S a (.b! ob (.bA aG))) (JU .bO) (q7 a (.b! ob (.bA aG)))/\JH (tU S a (.b! ob (.bA aG))) (q7 a (.b! ob (.bA aG))):=by
 obtain⟨hS,aG,hH,r⟩:=s.ob n a _ hi hM
 rw[č sm (nQ S (tU S a (.b! ob (.bA aG)))) (λb u q=>by rw[J0 hS]) up (Up ι S ι (tU S a (.b! ob (.bA aG)))) (NU _ _ h h sm) ⟨aG,hS,hH,r,abB u ah2 m b o,up,List.take_length,YJ u⟩]
 ·rw[vR (b=a)]
  ·subst hb;rw[ux g6 q q]
  ·rw[ux F_ q (PM u q)]
 ·by_cases hm:n=m
  ·rw[yP hm hi h1];cases h1;have hl:EB n:=aAx.1;rw[Hz hl h2];cases h2;exact⟨ob,aG,g6,g6,r.up up⟩
  ·rw[LN hm h2];have aU:b≠a:=λz=>hm (s.inj hi (z▸h1));exact(QZ m b o).up up (cK (by rw[Dc z])) (lA aU)
 ·rw[W7 aU (b≠a) (cK (a_ (LL z hi))) (by rw[Dc ay]) a_ (by rw[Dc cz])]
universe zE
section
variable {X:bY}{pins:f_}{σ:St}{H:aP}{s:Shared}{a:Addr}{ob:Obj}{u:jn}
def Inv.GA bZ(h:H a=sq .b! ob u)(hm:∀o v,X.H₀ a≠v! .b! v):kO (q7 a u) s:=by
 rw[t7 aU (∀b,kr->b≠a) (λb q z=>by rw[z,h]at q;cases q) ⟨I.ok,I.os,I.bare,⟨I.base.keep,I.base.slot,tZ o q n hx,I.base.there,v3 xs,yU v q,v3 ps⟩,I.loc,I.cell,?_,cG x c q,uc,v3 o,I.len⟩]
 ·have:=IZ q n hx;rw[Qg b this this]
 ·have:=arI b q
  have hb:b≠a:=cK (by rw[z,h]at this;cases this)
  rw[au (lA hb) this]
 ·have hb:b≠a:=cK (by rw[bG z q (hm o v q)])
  rw[au (lA hb) (agN b v q)]
 ·rw[Fj m e (arJ b q) hb (b≠a) (cK (by rw[z,h]at e;cases e))]
  rw[cB m (by rw[au (lA hb) e])]
 ·rw[Qg _ I.free I.free]
 ·rw[Qg _ (Q8 c q) (Q8 c q)]
 ·rw[qj e n r (Jm hp) e (by rw[Qg _ n n]) r]
 ·rw[bJ ho (∀c x,H c=zQ x->upd H a u c=zQ x) (λc x z=>by rw[gZ (λy=>by rw[y,h]at z;cases z) z]) ht (∀c xs,H c=vW->upd H a u c=vW) (vJ c z (by rw[gZ (λy=>by rw[y,h]at z;cases z) z]))]
  rw[vR (b=a)]
  ·rw[RY q];cases q;exact(show Lp ob/\Ry H s.heap b u from yc b h).2.zq (ku z z) (λc z=>ho c _ z) ht
  ·rw[F_]at q;exact(XC o q).zq (ku z z) (λc z=>ho c _ z) ht
def Inv.T3{o:Obj}bZ(h:H a=dO)(ho:vv a o)(h1:∀xs,u≠aQ xs)(h2:∀x,u≠.own x)(h3:∀ps,u≠.mX ps)(h4:∀o' v,u≠.b! o' v):kO (q7 a (.b! o u)) s:=by
 rw[č aU (∀b,kr->b≠a) (λb q z=>by rw[z,h]at q;cases q) a6X (∀{b v},H b=fU->v≠u->b≠a) (λ{b v} q n z=>by rw[z,h]at q;cases q;exact n rfl) ⟨I.ok,I.os,I.bare,⟨I.base.keep,I.base.slot,tZ o q n hx,I.base.there,v3 xs,yU v q,v3 ps⟩,I.loc,I.cell,?_,cG x c q,uc,v3 o',I.len⟩]
 ·have:=IZ q n hx;rw[Qg b this this]
 ·have:=arI b q;rw[aih this (cK (h1 xs z.symm)) this]
 ·have:=agN b v q;rw[aih this (cK (h4 o v z.symm)) this]
 ·rw[nH m e (arJ b q) m (by rw[aih e (cK (h3 _ z.symm)) e])]
 ·rw[Qg _ I.free I.free]
 ·rw[Qg _ (Q8 c q) (Q8 c q)]
 ·rw[qj e n r (Jm hp) e (by rw[Qg _ n n]) r]
 ·rw[bJ xm (∀c x,H c=zQ x->upd H a (.b! o u) c=zQ x) (λc x z=>by rw[aih z (λy=>h2 x y.symm) z]) ht (∀c xs,H c=vW->upd H a (.b! o u) c=vW) (vJ c z (by rw[aih z (λy=>h1 xs y.symm) z]))]
  rw[vR (b=a)]
  ·rw[RY q];cases q;rw[cB ho ((yc b h).zq (ku z z) (λc z=>xm c _ z) ht)]
  ·rw[F_]at q;exact(XC o' q).zq (ku z z) (λc z=>xm c _ z) ht
universe zE
universe L2
universe zE
section
namespace L2
open PySem PySem.Spec PyProof.Rows
abbrev ax6 rV(ob:Obj):It:=
 ab9 i H (∃aG k v,H a=lB .b! .bA/\Rg (k,v)) i H x (H'=H/\∀aG k v,H a=lB .b! .bA->Rg (k,v)->x=kV k) i H aG (H a=lB .b! .bA/\aDq i)
def jW.get{aG:qV}{vs:Ë}(h:jW aG vs)gW D! m9(e:Rg (k,v)):∃u,jz vs (k,u)/\oA:=by
 induction h generalizing i with
 |nil=>simp at e
 |cons r t ih=>
  rename_i p q xs ys;cases i with
  |zero=>
   rw[aAO aW e];subst e;obtain⟨ay,a_⟩:=q;rw[B7 rfl r2 r (lK a_ r2)]
  |succ i=>
   simp only[aX]at e⊢;exact ih e
def jW.len{aG:qV}{vs:Ë}(h:jW aG vs):aG.length=vs.length:=aOM
def a7K u? iP tK jo{ob:Obj}{aG:qV}afy Lg(e:H a=lB .b! .bA)ao6:
  H9 a/\∃vs,jW aG vs/\h.DictAt (Dj P w) a vs ep/\aiE:=by
 obtain⟨h1,_,hs,vs,kv,o,es',au6,ho,hx,hd,hr⟩:=(show cu sA ob/\sU P w H h a (.bA aG) from ok a _ e)
 rw[h1]at ho;cases ho;rw[OR]at hd;cases hd;refine⟨hs,vs,kv,⟨ob,es,h1,hx,OR,hr⟩,?_⟩;rw[ahN hr.2.1]
def aHz D5 afZ{ob:Obj}afy ao6:QW P w K (ax6 a ob) [it] (λi h=>h.IsKeyIter it a i es.size ep) where
 mem:=Θ
 obj:=λi h st b hb=>by
  rw[Af e (b=it) e]
  rw[yw o e c d st ⟨o,e,λv z=>by rw[d]at z;cases z⟩]
 keep:=λi h h' st k=>by
  rw[qj o e r st o (k it Θ o e) r]
 item:=by
  rw[JM];obtain⟨aG,k,v,aN,hx⟩:=hg
  rw[B5 hs kv da hl (Ž aN OR)];obtain⟨u,hu,cL⟩:=kv.get hx
  obtain⟨f0,f1,f2,f3,f4,ji⟩:=hf it Θ;rw[acg st];rw[n9 (wpAny_pyNext_dict_item st da hu (mE key h' hk o5 sb)) aC (kO H (tX s)) (ø t' (RV b o e sb e) f0 f1 f3 f4 ji)]
  obtain⟨o,e,c,d⟩:=id o5
  rw[rz rk (RelV (kV k) key) (by
   rcases fw (j9 (Ox k key) true hk) with⟨i,t,rfl,rfl⟩ | ⟨x,t,rfl,rfl⟩<;>exact gg t) hl o5];exact lK key (aak (s:=tX s) e c d aZ ⟨kV k,H,aC,rk,kR (λaeZ k' v' e1 e2=>by rw[aN]at e1;cases e1;rw[hx]at e2;cases e2;rfl),o5,vK (Jk b).1⟩)
 done:=by
  rw[ŗ X i s H E I st hg hP hw hK aG aN hx hg];rw[B5 hs kv da hl (Ž aN OR)];rw[Yy];rw[acg st];exact wpAny_pyNext_dict_end (I.ok.hd hc) st da (E4 (by rw[cA kv.len hx])) λh' eb=>Î t' (Q5 b o e b o hb e) f0 f1 f3 f4 ji
 self:=λ_ _ _ _ _ st h=>wpAny_pyIter_keyiter st h
section
variable {X:bY}{aH:St->d_}{cM l iter e:Expr}{tl:TE}{d:bu}{st:Stmt}{s:cR}{gr:rL}
abbrev a2m(tl:TE):TI:=ajf R σ H (r6 (∃a aG,x=Δ a/\H1 a=XS .bA/\∀ob,R (ax6 a ob) (tU H1 a (.b! ob (.bA aG)))))
def aZb aoE:GN X cM l (a2m tl):=by
 rw[qc R (kj (hl pins s σ H _ I h) v ⟨x,H1,aC,r1,ay⟩)];rw[dw a aG aN q ay];cases r1;obtain⟨hz,hs,vs,kv,o,es,ep,ho,hx,hd,hr⟩:=amy aC.bz aN;rw[cV da (s1.heap.DictAt qp a vs ep) ⟨o,es,ho,hx,hd,hr⟩ (wpAny_pyIter_dict hs da ?_)];rw[bJ aU (a≠s1.heap.objs.size) (ahq ho) bh (H6 H1 s1 (Â (dH "dict_keyiterator") (iS #[Δ a,η 0 0,at6 η 0,η ep 0]))) (Yp b o e e)];rw[fu dY (bh.T3 (o:=o) aN (vo ho) (λ_ z=>nomatch z) (λ_ z=>nomatch z) (λ_ z=>nomatch z) (λ_ _ z=>nomatch z)) hl aiE (by rw[ahN hr.2.1])]
 rw[uJ ⟨s1.heap.objs.size,[s1.heap.objs.size],_,_,_,rfl,dY,aHz a _ hd,uv _ IV (by rw[cC hl]),oD,q o⟩ e (b=s1.heap.objs.size) B4]
 rw[fq e (aC.GI fe (by rw[gZ Ø Nu]))]
abbrev xk:Key->aj
 |Ω i=>η i
 |aA x=>aE x
def xl jH(k:Key):Av (xk k) (kV k):=by
 cases k with
 |inl i=>exact E6
 |inr x=>exact aLz
abbrev OD mh:rL:=ki (dN).bind (match yV with
 |x6=>.ok (ai7 q q.1,I6 .bO) (aa.set n (.bO kvs))
 |none=>aF)
def pR.get jH afq{aG:qV}(h:R_)gW D! gX(e:jz kvs (k,x)):∃v,Rg (k,v)/\jI:=by
 induction h generalizing i with
 |nil=>simp at e
 |cons r t ih=>
  rename_i p q xs ys;cases i with
  |zero=>
   rw[aAO aW e];subst e;obtain⟨ay,a_⟩:=q;rw[B7 rfl r2 r (lK a_ r2)]
  |succ i=>
   simp only[aX]at e⊢;exact ih e
def axJ(h:auI):YH X (OD d):=⟨by
 rw[YK (aZb h.out) H R S M w ⟨ι,S,M,ρ,ba,sl,vN⟩];cases ay:yV with
 |none=>rw[Xs]
 |some sZ=>
  rw[SV n kvs sZ ay w1]
  obtain⟨a,aG,rfl,ei,aN,hS,rk,rfl⟩:=Og s1 r1 ay;rw[uJ (mC a aG aN (dJ ob)) eM (aa[n]? = m_ .ak) (by
   rw[aBm qF ay ay];split at ay
   ·rename_i z;cases ay;exact z
   ·cases ay)]
  obtain⟨aeZ,hS',OZ,aRh,s2,x2⟩:=s1.T3 ei eM ob
  rw[aN]at OZ;cases OZ;rw[ME (w1 ι1 _ _ _ x2 s2 λi ι' S' M' H' up kF _=>?_) ir (S' a=lB .b! .bA) (up.sm a _ g6) nR (H' a=lB .b! .bA) (kF.sub a _ ir)]
  rw[L8 y hy (YE aG nR (by rw[asp hl]))];rw[gI]at hy
  obtain⟨⟨k,z⟩,hk,rfl⟩:=Option.map_eq_some_iff.mp hy;obtain⟨v,hv,_⟩:=rk.get hk
  rw[L9 ⟨aG,k,v,nR,hv⟩ u H2 qJ];rw[MB qJ qJ];rw[fX (qJ aG k v nR hv) ⟨ι',S',lM,kF,xl k⟩]⟩
universe zE
abbrev a2Z jX(D:Ends):Ends where
 nx:=λσ' H'=>∃a ob u,H' a=sq .b! ob u/\(∀o v,H a≠v! .b! v)/\D.nx σ' (upd H' a u)
 eO:=λv H'=>∃a ob u,H' a=sq .b! ob u/\(∀o v,H a≠v! .b! v)/\D.eO v (upd H' a u)
def RF Py jo bZ(h:∀o v,H a≠v! .b! v):∀o v,X.H₀ a≠v! .b! v:=λo v z=>h o v (agN a v z)
def aZc l? G4{t:lq}(h:mZ X st t):mZ X st (λD σ H=>t (a2Z H D) σ H):=by
 intro pins s σ H D I q;refine S5 (Ļ s σ H _ I q) (cG f s1 z) _ _ y y;cases f with
 |next=>
  obtain⟨σ',H',I',a,ob,u,e,nf,z⟩:=z;exact⟨σ',_,I'.GA e (RF I nf),z⟩
 |brk=>rw[arb z z z.elim]
 |cont=>rw[arb z z z.elim]
 |ret v=>
  obtain⟨v',σ',H',I',r,a,ob,u,e,nf,z⟩:=z;exact⟨v',σ',_,I'.GA e (RF I nf),r,z⟩
abbrev amH(gr:rL)U0:wm (Nat×nZ):=match HD M with
 |.ok r _=>match r.2 with
  |I6 .bO=>match M[n]? with
   |d7 .ak _=>x6
   |_=>none
  |_=>none
 |_=>none
open Classical in
noncomputable def aeE dj(kvs:nZ):Out->Out
 |.nx ρ M=>Np (Hj .bO) .nx ρ (JU .ak)
 |.eO x M=>Np (Hj .bO) .eO x (JU .ak)
 |_=>aF
abbrev Bd(gr:rL)(s:cR):cR:=λρ M=>match amH gr ρ M with
 |x6=>aeE n kvs (s ρ M)
 |none=>aF
def aZd UL p7 D6(h:amH gr ρ M=x6):∃a5k,M[n]? = d7 .ak a5k:=by
 rw[qs amH];split at h
 ·split at h
  ·split at h
   ·rename_i q;cases h;rw[ie q]
   ·cases h
  ·cases h
 ·cases h
def si l? aaM G4{s:cR}UL(h:vG st s):vG st (Bd gr s):=⟨by
 rw[Yq (aZc h.out) D H q S M w q ⟨ι,S,M,ρ,ba,sl,?_⟩];rw[Fo Bd];cases ala:amH gr ρ M with
 |none=>rw[nt ala]
 |some sZ=>
  rw[aqX n kvs sZ ala w w];obtain⟨a8I,e0⟩:=aZd ala;obtain⟨a,hi,aQE,a8J,a57,_⟩:=ba.at e0
  have nf:∀o v,H a≠v! .b! v:=λo v z=>by rw[a57]at z;cases z
  cases es:s ρ M with
  |nx ρ' M'=>
   rw[es]at w;rw[VS aeE];split at w
   ·rename_i hM;intro ι' S' H' σ' ex kF rN;rw[LH ob aG ir aN s2 (kF.GA (ex.ix n a hi) hM) ⟨a,ob,_,aN,nf,w ι' _ _ σ' (ex.GA hi aQE) s2 (rN.less ir)⟩]
   ·rw[cX]
  |eO x M'=>
   rw[es]at w;rw[VS aeE];split at w
   ·rename_i hM;intro ι' S' H' v ex kF r';rw[LH ob aG ir aN s2 (kF.GA (ex.ix n a hi) hM) ⟨a,ob,_,aN,nf,w ι' _ _ v (ex.GA hi aQE) s2 (bo.less ir _ _ r')⟩]
   ·rw[cX]
  |kA ρ' M'=>rw[nt es]
  |ct ρ' M'=>rw[nt es]
  |exc c ρ' M'=>rw[nt es]
  |bad=>rw[nt es]⟩
universe L2
universe zE
end
mutual
section
namespace L2
open PySem PySem.Spec PyProof.Rows
def a7x:HH (entryFor table "dict_itemiterator.__iter__") Builtin.«dict_keyiterator.__iter__» :=
 entryFor_alias (id':= "dict_keyiterator.__iter__") asa rfl dP asa
def a7h azw vd{E:iQ}nW{it d:Addr}{i n ep:Nat}{ok ov:Value}rY(lg:IsItemIter s.heap it d i n ep ok ov)(h:Q (Δ it) s):FF (pyIter (Δ it)):=by
 have hT:asA (Δ it) "dict_itemiterator" :=xQ lg;refine wpAny_pyIter_slot hT PySem.F.slot_dict_itemiterator_iter (wpAny_call_entry PySem.F.slot_dict_itemiterator_iter hT a7x ?_ (PySem.F.args_dict_itemiterator_iter_1 _));show pI _ _ (ret (Δ it)) _ _;rw[ahb ⟨_,rfl,"dict_itemiterator",_,hT,PySem.F.slot_dict_itemiterator_next.lookup,h⟩]
abbrev aIt rV(ob:Obj):It:=
 ab9 i H (∃aG k v,H a=lB .b! .bA/\Rg (k,v)) i H x (∃p,sN/\x=Δ p/\∀aG k v,H a=lB .b! .bA->Rg (k,v)->H'=abw p [kV k,v]) i H aG (H a=lB .b! .bA/\aDq i)
abbrev aIv rV(ob:Obj):It:=
 ab9 i H (∃aG k v,H a=lB .b! .bA/\Rg (k,v)) i H x (H'=H/\∀aG k v,H a=lB .b! .bA->Rg (k,v)->x=v) i H aG (H a=lB .b! .bA/\aDq i)
def aUU D5{elts:dI}{x1}{GJ:Pos}(a it:Addr){ob:Obj}afy ao6:
  Turn P w K (M9 elts x1 GJ) (aIt a ob) [it] it (λi h=>∃ok ov,IsItemIter h it a i es.size ep ok ov) where
 mem:=Θ
 obj:=λi h ⟨ok,ov,st⟩ b hb=>by
  rw[Af e (b=it) e];rw[WJ _ st v z (by cases z)]
 keep:=λi h h' ⟨ok,ov,st⟩ k=>⟨ok,ov,k it Θ _ st⟩
 item:=by
  rw[ŗ X i s H E I st hg hP hw hK ok ov st st];obtain⟨aG,k,v,aN,hx⟩:=hg
  rw[B5 hs kv da hl (Ž aN OR)];obtain⟨u,hu,cL⟩:=kv.get hx;rw[acg st];rw[cV OU (U6 it) (Heap.lt_size st) (wpAny_pyNext_items_item st da hu λkey h1 hk aEA ht1 Bv k1=>IX (wpAny_letOwnedTupleGo_items aEA (cG h2 acM aFp)))];rw[kP Ub (aB7 it h1) aFp aEE (aN4=V3 Jw (mK #[key,u])) (H! Ub _ aOP ht1) rk (RelV (kV k) key) (by
   rcases fw (j9 (Ox k key) true hk) with⟨i,t,rfl,rfl⟩ | ⟨x,t,rfl,rfl⟩<;>exact gg t) aC (H6 (yr (aQ [kV k,v])) s h2) (by
   refine I.Mo (t':=s.toks) (fp:=[it]) hf (yU hb q) oD ?_
   ·have n1:b≠it:=λz=>hb (aK z);exact Qj Ub n1 (k1 b o n1 q)
   ·rw[Af eb (b=it) eb];rw[ie acM]
   ·exact⟨by show jK 2;rw[atr],[key,u],b4 rk (b4 cL c6),mC _ aEE _ rfl⟩)]
  rw[fJ hp (Vi ap0) hl acM];refine⟨AB,_,aC,rfl,uv s.heap.objs.size hp (λaeZ k' v' e1 e2=>by rw[aN]at e1;cases e1;rw[hx]at e2;cases e2;rfl),⟨key,u,acM⟩,oD⟩
  rw[Af eb (b=it) eb];rw[fX (lA aOO) (Jk b).1]
 done:=by
  rw[JM];rw[E8 ok ov st st aG aN hx hg];rw[B5 hs kv da hl (Ž aN OR)];rw[acg st];exact wpAny_pyNext_items_end (I.ok.hd hc) st da (E4 (by rw[cA kv.len hx])) λh' eb=>kR (I.aJm (t':=s.toks) (fp:=[it]) hf (Q5 b o q b o (cK (hb (aK z))) q))
 self:=λ_ _ _ _ _ ⟨ok,ov,st⟩ h=>a7h st h
def aWs D5 afZ{ob:Obj}afy ao6:QW P w K (aIv a ob) [it] (λi h=>h.IsValIter it a i es.size ep) where
 mem:=Θ
 obj:=λi h st b hb=>by
  rw[Af e (b=it) e]
  rw[yw o e c d st ⟨o,e,λv z=>by rw[d]at z;cases z⟩]
 keep:=λi h h' st k=>by
  rw[qj o e r st o (k it Θ o e) r]
 item:=by
  rw[JM];obtain⟨aG,k,v,aN,hx⟩:=hg;rw[B5 hs kv da hl (Ž aN OR)];obtain⟨u,hu,cL⟩:=kv.get hx;obtain⟨f0,f1,f2,f3,f4,ji⟩:=hf it Θ;rw[acg st];rw[n9 (wpAny_pyNext_values_item st da hu (FT o5 sb)) aC (kO H (tX s)) (ø t' (RV b o e sb e) f0 f1 f3 f4 ji)];obtain⟨o,e,c,d⟩:=id o5;rw[hl]at o5;exact lK u (aak (s:=tX s) e c d aZ ⟨v,H,aC,cL,kR (λaeZ k' v' e1 e2=>by rw[aN]at e1;cases e1;rw[hx]at e2;cases e2;rfl),o5,vK (Jk b).1⟩)
 done:=by
  rw[ŗ X i s H E I st hg hP hw hK aG aN hx hg];rw[B5 hs kv da hl (Ž aN OR)];rw[Yy];rw[acg st];exact wpAny_pyNext_values_end (I.ok.hd hc) st da (E4 (by rw[cA kv.len hx])) λh' eb=>Î t' (Q5 b o e b o hb e) f0 f1 f3 f4 ji
 self:=λ_ _ _ _ _ st h=>wpAny_pyIter_valiter st h
section
variable {X:bY}{aH:St->d_}{cM o:Expr}{to:TE}{d:bu}{apos dc GJ:Pos}{elts:dI}{x1:Nat}
abbrev aIY(J:Addr->Obj->It)(tl:TE):TI:=ajf R σ H (r6 (∃a aG,x=Δ a/\H1 a=XS .bA/\∀ob,R (J a ob) (tU H1 a (.b! ob (.bA aG)))))
def aXB afL aLF:GN X (M9 elts x1 GJ) (xP (HK "items") [] [] dc) (aIY aIt to):=by
 rw[aAC s H R I h ph pj (MQ s H _ I h v ⟨x,H1,aC,r1,a,aG,ex,aN,q⟩)];subst ex;cases r1;obtain⟨hz,hs,vs,kv,o,es,ep,ho,hx,hd,hr⟩:=amy aC.bz aN;have dd:s1.heap.DictOf qp a vs:=⟨o,es,ep,ho,hx,hd,hr⟩;obtain⟨t1,t2,_⟩:=aep aC (F6 aG (Ω aN))
 refine⟨"dict","dict.items",PySem.F.plainAttrs_dict,PySem.F.slot_dict_items,PySem.F.type_dict_items,t1,t2,aAN rfl ?_⟩;refine call_meetsIn PySem.F.slot_dict_items t1 PySem.F.entry_dict_items (PySem.F.args_dict_items_1 _) (meets_dict_items qp a hs) (lR (asB dd))
 rw[cV da ((Â (dH "dict_items") (iS #[Δ a])).DictAt qp a vs ep) ⟨o,es,vo ho,hx,hd,hr⟩ (wpAny_pyIter_items (v:=s1.heap.objs.size) (Ħ _ _) da ?_)];generalize alp:Â (dH "dict_items") (iS #[Δ a])=h1
 rw[gq hsz (h1.objs.size=aqL 1) (by rw[←alp,Heap.size_push]) k1 (∀b u,aLn=dO->aua=dO) (λb u e=>by rw[cA alp (vo e)]) bh (H6 H1 s1 (h1.push (Ip (dH "dict_itemiterator") (iS #[cP,qa qg,Δ a,η 0 0,at6 η 0,η ep 0,cP,cP])))) (Yp b o e (k1 b o e))];rw[sy dY (bh.T3 (o:=o) aN (vo (k1 a o ho)) (λ_ z=>nomatch z) (λ_ z=>nomatch z) (λ_ z=>nomatch z) (λ_ _ z=>nomatch z)) hl aiE (by rw[ahN hr.2.1]) aU (a≠h1.objs.size) (pC (by rw[abk (ahp (Heap.lt_size ho))]))];rw[uJ ⟨h1.objs.size,[h1.objs.size],_,_,_,rfl,dY,aUU a _ hd,⟨cP,cP,by rw[cA hl IV]⟩,oD,q o⟩ e (b=h1.objs.size) B4]
 rw[fq e (aC.GI (by rw[abk Iw]) (by rw[gZ Ø (agy (by rw[abk Iw]))]))]
def aZe afL aMb:GN X cM (xP (HK "values") [] [] dc) (aIY aIv to):=by
 rw[aAC s H R I h ph pj (MQ s H _ I h v ⟨x,H1,aC,r1,a,aG,ex,aN,q⟩)];subst ex;cases r1;obtain⟨hz,hs,vs,kv,o,es,ep,ho,hx,hd,hr⟩:=amy aC.bz aN;have dd:s1.heap.DictOf qp a vs:=⟨o,es,ep,ho,hx,hd,hr⟩;obtain⟨t1,t2,_⟩:=aep aC (F6 aG (Ω aN))
 refine⟨"dict","dict.values",PySem.F.plainAttrs_dict,PySem.F.slot_dict_values,PySem.F.type_dict_values,t1,t2,aAN rfl ?_⟩;refine call_meetsIn PySem.F.slot_dict_values t1 PySem.F.entry_dict_values (PySem.F.args_dict_values_1 _) (meets_dict_values qp a hs) (lR (asB dd))
 rw[cV da ((Â (dH "dict_values") (iS #[Δ a])).DictAt qp a vs ep) ⟨o,es,vo ho,hx,hd,hr⟩ (wpAny_pyIter_values (v:=s1.heap.objs.size) (Ħ _ _) da ?_)];generalize alp:Â (dH "dict_values") (iS #[Δ a])=h1
 rw[gq hsz (h1.objs.size=aqL 1) (by rw[←alp,Heap.size_push]) k1 (∀b u,aLn=dO->aua=dO) (λb u e=>by rw[cA alp (vo e)]) bh (H6 H1 s1 (h1.push (Ip (dH "dict_valueiterator") (iS #[Δ a,η 0 0,at6 η 0,η ep 0])))) (Yp b o e (k1 b o e))];rw[sy dY (bh.T3 (o:=o) aN (vo (k1 a o ho)) (λ_ z=>nomatch z) (λ_ z=>nomatch z) (λ_ z=>nomatch z) (λ_ _ z=>nomatch z)) hl aiE (by rw[ahN hr.2.1]) aU (a≠h1.objs.size) (pC (by rw[abk (ahp (Heap.lt_size ho))]))];rw[uJ ⟨h1.objs.size,[h1.objs.size],_,_,_,rfl,dY,aWs a _ hd,uv _ IV (by rw[cC hl]),oD,q o⟩ e (b=h1.objs.size) B4]
 rw[fq e (aC.GI (by rw[abk Iw]) (by rw[gZ Ø (agy (by rw[abk Iw]))]))]
abbrev Ow mh:rL:=ki (dN).bind (match yV with
 |x6=>.ok (SH q (aQ [xk q.1,q.2]),I6 .bO) (aa.set n (.bO kvs))
 |none=>aF)
abbrev BM mh:rL:=ki (dN).bind (match yV with
 |x6=>.ok (SH q q.2,I6 .bO) (aa.set n (.bO kvs))
 |none=>aF)
def aIZ{n m:Nat}cw afq(h:qF (ο m) M=x6):Hj .ak:=by
 rw[qs qF];rw[Co];split at h
 ·rename_i z;cases h;exact z
 ·cases h
def awS(h:El o)aLF:aaE X aH (M9 elts x1 GJ) (xP (HK "items") [] [] dc) (Ow d):=⟨by
 rw[YK (aXB h.out ph pj) H R S M w ⟨ι,S,M,ρ,ba,sl,vN⟩];cases ay:yV with
 |none=>rw[Xs]
 |some sZ=>
  rw[SV n kvs sZ ay w1]
  obtain⟨a,aG,rfl,ei,aN,hS,rk,rfl⟩:=Og s1 r1 ay;refine mC a aG aN (dJ ob);obtain⟨aeZ,hS',OZ,aRh,s2,x2⟩:=s1.T3 ei (aIZ ay) ob
  rw[aN]at OZ;cases OZ;rw[ME (w1 ι1 _ _ _ x2 s2 λi ι' S' M' H' up kF _=>?_) ir (S' a=lB .b! .bA) (up.sm a _ g6) nR (H' a=lB .b! .bA) (kF.sub a _ ir)]
  rw[L8 y hy (YE aG nR (by rw[asp hl]))];rw[gI]at hy
  obtain⟨⟨k,z⟩,hk,rfl⟩:=Option.map_eq_some_iff.mp hy;rw[Ly v hv Oj ((rk.mono x2).get hk) ⟨aG,k,v,nR,hv⟩ (cG u H2 qJ)];obtain⟨p,hp,rfl,qJ⟩:=qJ;rw[qJ aG k v nR hv];rw[B7 s3 x3 (kF.tree (o:=aQ [kV k,v]) hp) ⟨ι',_,x3,s3,ê p _ g6 (b4 (xl k) (.one ((bo.up up Oj).mono x3)))⟩]⟩
def aZf(h:El o)aMb:aaE X aH cM (xP (HK "values") [] [] dc) (BM d):=⟨by
 rw[YK (aZe h.out ph pj) H R S M w ⟨ι,S,M,ρ,ba,sl,vN⟩];cases ay:yV with
 |none=>rw[Xs]
 |some sZ=>
  rw[SV n kvs sZ ay w1]
  obtain⟨a,aG,rfl,ei,aN,hS,rk,rfl⟩:=Og s1 r1 ay;refine mC a aG aN (dJ ob);obtain⟨aeZ,hS',OZ,aRh,s2,x2⟩:=s1.T3 ei (aIZ ay) ob
  rw[aN]at OZ;cases OZ;rw[ME (w1 ι1 _ _ _ x2 s2 λi ι' S' M' H' up kF _=>?_) ir (S' a=lB .b! .bA) (up.sm a _ g6) nR (H' a=lB .b! .bA) (kF.sub a _ ir)]
  rw[L8 y hy (YE aG nR (by rw[asp hl]))];rw[gI]at hy
  obtain⟨⟨k,z⟩,hk,rfl⟩:=Option.map_eq_some_iff.mp hy;rw[Ly v hv Oj ((rk.mono x2).get hk) ⟨aG,k,v,nR,hv⟩ (cG u H2 qJ)]
  rw[MB qJ qJ];rw[fX (qJ aG k v nR hv) ⟨ι',S',lM,kF,bo.up up Oj⟩]⟩
universe zE
universe L2
universe zE
section
namespace L2
open PySem PySem.Spec PyProof.Rows
section
variable {X:bY}{aH:St->d_}
def aSP BF:AJ Cf (λxs H Q=>∃a aG,xs=[V.ref a]/\H a=XS .bA/\∀l,pN l->Q (Δ l) (rq l (aiJ q q.1))):=by
 intro pins s σ H xs us Q I r h
 rw[dw a aG aN q h]
 rw[II u cL r];cases cL;obtain⟨hz,hs,vs,kv,dd⟩:=aks aN;obtain⟨ep,da⟩:=dd.dictAt;rw[dm hl kv.len (PySem.W.kdl_call (PySem.W.kdl_dict (knd:=qp) (kvs:=vs) (ep:=ep) hs) (I.ok.hd hc) da (by rw[cA hl hz]) (M6 h' tk acc c' kp e lg))]
 rw[č hv (∀(aG:qV)(vs:Ë),jW aG vs->∀cf:b7,cf.length=vs.length->(∀iw aa0,AN cf->∃(k:Key) (x:Value),jz vs (k,x)/\aO (Ox k v))->ő (aiJ q q.1)) (by
  intro aG vs kv
  induction kv with
  |nil=>intro cf hl _;cases cf with
   |nil=>rw[v8]
   |cons _ _=>cases hl
  |cons r t ih=>
   rename_i p q xs ys;intro cf hl hi;cases cf with
   |nil=>cases hl
   |cons z cf=>
    obtain⟨k,x,e1,e2⟩:=hi 0 z rfl;rw[aAO aW e1];subst e1;obtain⟨r1,_⟩:=r;rw[ar8 (b4 ?_ (ih cf (a! hl) λi v h=>a! (hi (i+1) v (a! h))))];rw[r1];rcases fw e2 with⟨i,t,rfl,rfl⟩ | ⟨x',t,rfl,rfl⟩<;>exact gg t) a20 (Jh (aiJ q q.1) acc.toList) (hv aG vs kv acc.toList (by rw[au Array.length_toList lg.1]) λi v h=>lg.2 i v (by rw[cA Array.getElem?_toList h])) (RA (I.laid (t':=tk) kp fe (show Ry _ h' _ (ς (aiJ q q.1)) from⟨by rw[ni hz],acc.toList,c',a20,by rw[au Array.toArray_toList e]⟩)) (q _ Nt))]
abbrev Tt m5:D1:=λxs M=>match xs with
 |[x]=>match qF x M with
  |ql _ kvs=>xS (ai7 q q.1)
  |none=>aF
 |_=>aF
def aWt jH:∀afq{aG:qV},R_->qd (ai7 q q.1) (aiJ q q.1):=by
 intro kvs aG h
 induction h with
 |nil=>rw[v8]
 |cons r t ih=>exact b4 (by dsimp only;rw[cA r.1 (xl _)]) ih
def pz m5 BF:AJ Cf (JF (Tt live)):=(aSP hc).imp λvs H Q h=>by
 rw[YD E S M r w h Tt]
 match xs,r,w with
 |[],r,w=>rw[cX]
 |x::y::z,r,w=>rw[cX]
 |[x],r,w=>
  rw[gY v r1 r.zh];dsimp only at w;cases ay:qF x M with
  |none=>rw[nt ay]
  |some sZ=>
   rw[SV n kvs sZ ay w];obtain⟨a,aG,rfl,ei,aN,hS,rk,_⟩:=Og ba r1 ay;exact mC a aG aN (ZR ba (aWt rk) w).2
abbrev aeu:zy:=λx as M=>match as with
 |[η i]=>l7 x M λn xs=>match V_ i with
  |some j=>match xs[j]? with
   |C!=>Np (-(aS 9223372036854775808)≤i/\i<9223372036854775808) .ok y (r? n (xs.eraseIdx j))
   |none=>aF
  |none=>aF
 |_=>aF
def aWu:FC X "list.pop" (Sj aeu):=aha r aJR QP v vs H Q h (by
 rw[JL x xs r rs aeu];split at w
 ·rename_i i;rw[Rc u rs.zh];cases Qo;obtain⟨n,p,ys,us,rfl,hi,eM,aN,hS,rr,w⟩:=amF ba r w;split at w
  ·rename_i j hj;split at w
   ·rename_i y hy;split at w
    ·rename_i hb;obtain⟨z,hz,Oj⟩:=rr.get hy;rw[fJ hj' (axF hj).1 rr.length hj'];refine⟨p,us,i,j,z,rfl,rfl,aN,hb.1,hb.2,hj',hz,?_⟩;rw[ee sp ep (ad8 ba hi hS (rr.eraseIdx j)) (w ι S _ _ ep sp Oj)]
    ·rw[cX]
   ·rw[cX]
  ·rw[cX]
 ·rw[cX])
abbrev aIm:V->di->aP->j0:=λx vs H Q=>∃l xs y,x=Δ l/\vs=[η 0,y]/\H l=g!/\ajv sizeLine/\Q .ah (rq l (y::xs))
def aUV:aeS X "list.insert" aIm:=by
 intro pins s σ H x vs v us Q I rx rv h;rw[WO l xs y rfl hH hz q h];cases rx;rw[dw u u2 cL a7d (vals2 rv)];rw[sH cL];rw[YI z n r e];rw[aiR (call_meets PySem.F.slot_list_insert (jy _ e) PySem.F.entry_list_insert (PySem.F.args_list_insert_3 _ _ _) (AutoListH.list_insert_list_int_val_1 l cf.toArray n 0 t u2 aZ (by rw[aiD])) (lR e)) (JB .ah (ahh (u2::cf) hH e Θ (b4 a7d r) ?_) q)];rw[n? zE]
abbrev xn:zy:=λx as M=>match as with
 |[η 0,y]=>l7 x M λn xs=>Np (ajv lim) .ok .ah (r? n (y::xs))
 |_=>aF
def aUE:FC X "list.insert" (Sj xn):=aha r aIm aUV v vs H Q h (by
 rw[JL x xs r rs xn];split at w
 ·rw[dw u u2 r1 r2 rs.axH];cases Qo;obtain⟨n,p,ys,us,rfl,hi,eM,aN,hS,rr,w⟩:=amF ba r w;split at w
  ·rw[L4];refine⟨p,us,u2,rfl,rfl,aN,by rw[cA rr.length (aey hl)],?_⟩;rw[ee sp ep (ad8 ba hi hS (b4 r2 rr)) (w ι S _ _ ep sp ð)]
  ·rw[cX]
 ·rw[cX])
universe zE
universe L2
universe zE
section
namespace L2
open PySem PySem.Spec PyProof.Rows
abbrev ax4 c9 rV dj:It:=
 ⟨λi H=>i<n/\∃xs x,J1/\h9 xs (n-1-i) x,λi H x H'=>H'=H/\∀xs,J1->h9 xs (n-1-i) x,λi _=>n≤i⟩
def aXC D5 afZ dj:QW P w K (ax4 K a n) [it] (λi h=>i≤n/\h.IsRevIter it a (gi-1-i)) where
 mem:=Θ
 obj:=λi h st b hb=>by
  rw[Af e (b=it) e];obtain⟨_,o,e,c,d⟩:=st;rw[WJ o e v z (by rw[d]at z;cases z)]
 keep:=λi h h' st k=>⟨st.1,st.2.at λo e=>k it Θ o e⟩
 item:=by
  rw[JM];obtain⟨l8,st⟩:=st;obtain⟨hi,xs,x,hq,hx⟩:=hg;rw[I3 rv p];obtain⟨u,hu,cL⟩:=rv.get hx
  obtain⟨f0,f1,f2,f3,f4,ji⟩:=hf it Θ
  rw[rz e0 (gi-1-i=jv (n-1-i)) aD e0 st];rw[n9 (wpAny_pyNext_rev_item st p.isList (x:=u) (a! hu) (FT o5 sb)) aC (kO H (tX s)) (ø t' (RV b o e sb e) f0 f1 f3 f4 ji)]
  obtain⟨o,e,c,d⟩:=id o5
  rw[rz e2 (jv (n-1-i)-1=gi-1-jv (i+1)) aD e2 o5];exact lK u (aak (s:=tX s) e c d aZ ⟨x,H,aC,cL,kR (λys hy=>by rw[au (I.aw2 hy hq) hx]),⟨hi,o5⟩,vK (Jk b).1⟩)
 done:=by
  rw[JM];rw[Fj l8 st st hg (n≤i) hg];rw[Yy]
  have e0:gi-1-i = -1:=aD
  rw[bG e0 st (wpAny_pyNext_rev_end (I.ok.hd hc) st λh' eb=>Î t' (Q5 b o e b o hb e) f0 f1 f3 f4 ji)]
 self:=λ_ _ _ _ _ st h=>wpAny_pyIter_revIter st.2 h
section
variable {X:bY}{aH:St->d_}{a e cM:Expr}{d:bu}{pos p p2:Pos}
abbrev ae0 mh:rL:=ki (dN).bind (match x with
 |ς xs=>.ok (xs.reverse,none) aa
 |ο n=>match aa[n]? with
  |g!=>.ok (xs.reverse,ajP xs) aa
  |_=>aF
 |_=>aF)
def aHA jH{q:Addr}d5 aMm:aiS K (ax4 K q xs.length) xs.reverse w S:=by
 intro i ι' S' M' H' up ba hc
 rw[Ly vs hq rs (h ι' S' M' H' up ba hc) (c! x hx) (λhl=>by show Fb i;simpa using hl)]
 rw[rz hi JN (aDA aOw.1) (List.getElem?_reverse hi) hx];rw[Ly v hv r (rs.get hx) ⟨hi,vs,v,hq,hv⟩ (cG u H2 y)]
 rw[MB y y]
 rw[uK (y vs hq) hv];cases this;exact⟨ι',S',lM,ba,r⟩
def a2n(h:El a)(hm:ag9 "reversed")(hg:OJ X "reversed" :=by rfl)aoX:aaE X aH cM (xP (c_ "reversed" p) [a] [] pos) (ae0 d):=⟨by
 intro pins s σ H R I hw
 rw[EH S M ρ ba sl w hw];rw[cV k? (pZ X [a] (T4 (aci d) aeY)) (Tu h.out aeo (by rw[cC hs])) (Vo (yn I hg hm (u:=dH "reversed") (by first | rfl | decide) ?_ aZ aZ))]
 refine apZ (kj (k? pos pins s σ H (wH vs (∃q n,vs=[Δ q]/\(∃xs,iI X.K H1 q xs/\Ŗ n)/\R (ax4 X.K q n) H1)) I ?_) us ⟨vs,H1,aC,r1,q,n,ev,⟨xs,hq,hn⟩,k⟩) (by rw[cC hs]) rfl
 ·refine⟨ι,S,M,ρ,ba,sl,vN⟩;cases x with
  |lst xs=>
   rw[î q vs ir rs r1];refine mC q xs.length ⟨vs,.of (auj _ _),rs.length.symm⟩ (yk (aHA (ab2 b8 M2 H2 up s2 _)));rw[bQ vs (.of (aiT _ (up.sm _ _ ir))) (rs.up up)]
  |obj n=>
   rw[gY q ei (bo.A5.mp r1)];obtain⟨o,eM,mo⟩:=s1.addr ei;simp only[eM]at w1;cases o with
   |lst xs=>
    rw[agh aN rs mo];refine mC q xs.length ⟨vs,.of aN,rs.length.symm⟩ (yk (aHA (ab2 b8 M2 H2 up s2 hc)));obtain⟨_,amv,nR,OY⟩:=s2.ob n q _ (up.ix _ _ ei) hc;rw[bQ amv (.of nR) OY]
   |_=>rw[mz]
  |_=>rw[mz]
 ·subst ev;rw[II u cL r1];cases cL;rw[yC rv pl hz (aC.list hq)];rw[dm hl rv.length (call_reversed_list pl.isList ?_)]
  have e0:jv cf.toArray.size-1=gi-1-jv 0:=by rw[fH]
  rw[e0];rw[cV hR ((s1.heap.push (revObj q (gi-1-jv 0))).IsRevIter s1.heap.objs.size q (gi-1-jv 0)) (Ħ _ _) (wpAny_pyIter_revIter (s:=nE s1 (s1.heap.push (revObj q (gi-1-jv 0)))) hR ?_)];rw[uJ ⟨s1.heap.objs.size,[s1.heap.objs.size],_,_,H1,rfl,Yp b o e e,aXC q _ n,⟨q4,hR⟩,oD,k⟩ eb (b=s1.heap.objs.size) B4]
  rw[fq eb (aC.GI fe Nu)]⟩
abbrev a7k c9 UK(ts:TO):TE:=uI (te σ H (r6 (ts σ H1 (mq k (k=aY (-1)/\∃a xs,x=Δ a/\iI K H2 a xs/\∀p,bR (H2 p)->Q (Δ p) (FN H2 p xs.reverse))))))
def aZg{st:Expr}{te:TE}{ts:TO}aa4(hs:DT X ako ts):Fy yF e (.Slice none none ako p2) (a7k X.K te ts):=by
 rw[FI Q h];rw[kQ (Subscript_ (kj (C5 s σ H _ I h) v ⟨x,H1,aC,r1,ay⟩)) (wpAny_Slice ?_)];rw[abI evalPart_none Fc (Mw (FU (hs pins s1 σ H1 _ aC ay) vk ⟨k,H2,bh,pk,eX,a_⟩))];subst eX;rw[dw l xs hx q a_];cases r1;have rP:H6 H2 s2 (ars X! (iS #[cP,cP,vk])):=bh.kept (t':=s2.toks) (xT ob q q);rw[yC r ht hz (rP.list hx)];rw[fu hlen r.length hg (j6 (getItem (Δ l) aj1) (HP X Q) (nE s2 (ars X! (iS #[cP,cP,vk])))) (by
  refine wpAny_getItem_list_slice ht.isList aOb cP cP pk Θ ?_ aCX;rw[PySem.W.krv_pick];refine XY _ _ (rP.laid (t':=s2.toks) (o:=ς xs.reverse) (xT ob q q) fe ?_) (q _ (rP.bz.fresh fe));refine⟨by rw[au List.length_reverse hz],cf.reverse,0,Vals.reverse r,?_⟩;have:=Heap.get?_push_size (ars X! (iS #[cP,cP,vk])) (o:=EF (mK cf.toArray.toList.reverse.toArray)) rfl;rw[zV])]
 rw[F3 (j6 (subscriptTail e (.Slice none none ako p2) (Δ l) aj1) (HP X Q) (nE s2 (ars X! (iS #[cP,cP,vk])))) (tail_any (ops:=[Δ l,aj1]) ht.isList.typeIs slot_list_getitem.lookup hg cS)]
abbrev aD1 m5 m7(k:eF)dF:n0:=ahu (k=aY (-1)) (match CT with
  |j_=>xS xs.reverse
  |none=>aF) aF
abbrev anj m5(da:bu)(dk:OH):bu:=Ĩ (da ρ M).bind (IQ aa).bind k (aD1 live x k M2)
def aZh m5{st:Expr}{dk:OH}aaW(hk:afg X aH ako dk):vE yF e (.Slice none none ako p2) (anj live d dk):=⟨by
 rw[AY (aZg he.out hk.out)];refine R4 (ez.bind (c8:=anH) w1 λι2 b8 M2 H2 l l' e2 s2 r2 w2=>?_);cases r2;unfold aD1 at w2;split at w2
 ·rename_i eX;cases h1:Ka M2 x with
  |none=>rw[agQ h1 w2]
  |some xs=>
   rw[h1]at w2;rw[dw p vs aN rr (ik s2 Nf h1)];obtain⟨_,w3⟩:=ZR s2 rr.reverse w2;exact⟨eX,p,vs,rfl,.of aN,w3⟩
 ·rw[asF]⟩
universe zE
universe L2
universe zE
end
mutual
section
namespace L2
open PySem PySem.Spec PyProof.Rows
section
variable {X:bY}{aH:St->d_}{c k v:Expr}{tc:iK}{s1:cR}{dk dv:bu}{pos:Pos}
def aXD aaL dj(hp:akS)(hc:Ct c tc)(hb:GK X aH body s1):vG (.While c body [] pos) (Dx tc s1 n):=⟨by
 refine mZ.imp (aXm hp hc.out hb.out) (je D σ H h);rw[De (λm σ' H'=>TJ X.K aH (Dx tc s1 m) D σ' H') ⟨n,h⟩];rintro m σ' H' ⟨ι',S',M',ρ',kF,rN,ww⟩;cases m with
 |zero=>rw[ahX]
 |succ m=>
  rw[Xw Dx ww ⟨ι',S',M',ρ',kF,rN,nP.res (c8:=N0) rN ww λι1 bf aa H1 x b e1 OM r1 w1=>?_⟩];cases r1;cases x with
  |false=>exact Gw (w1 ι1 bf H1 σ' lM OM (rN.mono e1))
  |true=>
   refine DD ⟨mq σ2 (TJ X.K aH (Dx tc s1 m) D σ2 H2),λσ2 H2 q=>⟨m,aBq,q⟩,ι1,bf,aa,ρ',OM,rN.mono e1,?_⟩;rw[eK]at w1;cases eb:s1 ρ' aa with
   |nx ρ4 iL=>rw[bG eb w1 (λι4 qN H4 σ4 xh uW zC=>⟨ι4,qN,iL,ρ4,uW,zC,nP.up w1 xh⟩)]
   |ct ρ4 iL=>rw[bG eb w1 (λι4 qN H4 σ4 xh uW zC=>⟨ι4,qN,iL,ρ4,uW,zC,nP.up w1 xh⟩)]
   |kA ρ4 iL=>rw[bG eb w1 w1]
   |eO x iL=>rw[bG eb w1 w1]
   |exc c ρ4 iL=>rw[bG eb w1 w1]
   |bad=>rw[bG eb w1 w1]⟩
abbrev a2o(tk zp:TE):TE:=uI (∀p,sN->tk σ (ro p .dT []) (r6 (zp σ H1 λy H2=>
 H2 p=d7 .dT []/\∃(kk:qi) (b:Addr),x=Δ b/\H2 b=iR (kk.map kV)/\Q (Δ p) (Jx H2 p .dT [(kk,y)]))))
def aXE{tk zp:TE}aMK afh:Fy .Dict [fE] [v] (a2o tk zp):=by
 rw[FI Q q];rw[i6 hn (Vi ap0) aC (I.laid (a:=s.heap.objs.size) (o:=.dT []) (h':=U4 (dH "dict") (YZ #[])) (t':=s.toks) (Å _ _ q q) fe (aXs s.heap I.big)) (wpAny_Dict_any rfl rfl (aBu _) LK ?_)];refine aPn (yQ (hk pins _ σ _ _ aC (q _ hn)) u s1 x H1 bh rx ay (Ci (hv pins s1 σ H1 _ bh ay) w2 s2 ⟨y,H2,dY,bg,e,kk,b,ex,eb,a_⟩ (pairTrees_nil_walk ?_)));subst ex;cases(YB b)
 rw[Yx z xs (aKy dY.bz e)];cases rel;have hu1:(arx qp).room X.A:=Nat.lt_of_succ_lt hu;rw[dz storeAll List.forIn_cons]
 refine fk (fk (wpAny_dictSet_heap hu1 (aFw dY.bz eb) dd (λh' u0 hs=>Fc) q4));show nD _ _ (forIn ([]:gO Value Value) PUnit.unit _) _ _ _;rw[ia List.forIn_nil (wpAny_pure (RA ?_ a_))];obtain⟨q,es,ep,hq,h2,h3,h4,_,h5⟩:=u0;refine ad7 dY (by rw[V2 e]) hs ⟨q,hq⟩ ⟨by rw[fy sizeLine_eq],hd,_,b4 ⟨rfl,?_,bg⟩ c6,q,es,ep,hq,h2,h3,h4,h5⟩;rw[gZ (aKD eb e (λz=>nomatch z)) eb]
abbrev FV(dk dv:bu):bu:=Ĩ (IQ M).bind (dv ρ aa).bind y (match TZ x with
 |some kk=>.ok (ο M2.length) (M2++[.jk [(kk,y)]])
 |none=>aF)
def aXF(hk:jc k dk)(hv:jc v dv)afh:vE .Dict [fE] [v] (FV dk dv):=⟨by
 rw[Ym (Br.imp (aXE hk.out hv.out hu) (yh σ H Q hh a ha)) S M w hh];obtain⟨s0,x0⟩:=ba.side (o:=.dT []) ha;rw[cF hai (ba.fresh ha) aEv (ba.TL ha)];rw[Fo FV];refine⟨ι,S,M,ρ,s0,sl,?_⟩;cases eX:IQ M with
 |bad=>rw[nt eX]
 |exc c M2=>rw[bG eX w (λι2 b8 H2 e2 s2=>w ι2 b8 H2 aDc s2)]
 |ok x aa=>
  rw[eX]at w;intro ι1 bf H1 xv e1 s1 r1;refine⟨ι1,bf,aa,ρ,s1,sl.mono (x0.trans e1),?_⟩;rw[Res.ag]at w;cases ev:dv ρ aa with
  |bad=>rw[nt ev]
  |exc c M2=>rw[bG ev w (λι2 b8 H2 e2 s2=>w ι2 b8 H2 (x0.trans agk) s2)]
  |ok y M2=>
   rw[ev,Res.ag]at w;intro ι2 b8 H2 awH e2 s2 r2;obtain⟨f1,f2,f3⟩:=(agk).fr a _ g6 hai aEv;have a68:=Nf;cases x with
   |tup ks=>
    rw[Dd b ir rs a68];rw[VS TZ];cases e:Of iH ks with
    |none=>rw[nt e]
    |some kk=>
     rw[e]at w;rw[Yg (awm rs e)];rw[uJ ⟨f1,kk,b,rfl,aiT _ ir,?_⟩ s3 (gk X.K ι2 b8 M2 (Jx H2 a .dT [(kk,awH)])) (s2.aKa f2 f3)];rw[om e3 (x0.trans agk) Bt aLq (by have:=e3.pre;rw[←this];rw[fH]) (w (ι2++[a]) b8 _ _ ⟨NU n b hb ((Up.push (S:=b8) a).ix n b (e3.ix n b hb)) e3.sm,?_,YJ u⟩ (s3.enter f2 ⟨f3,_,g6,b4 (kR r2) c6⟩) (U7 a (by rw[Ń s2.len])))]
     ·rw[aAv Bt e3.pre]
     ·rw[Cq k1 k2 k3 (e3.fr b u ay a_ cz) hb (b≠a) (cK (by rw[z,ha]at ay;cases ay))]
      rw[bQ (by rw[au (lA hb) k1]) (gh k2 hb) k3]
   |_=>rw[cX]⟩
universe zE
universe L2
universe zE
section
namespace L2
open PySem PySem.Spec PyProof.Rows
section
variable {X:bY}{aH:St->d_}{cM l iter:Expr}{tl:TE}{d:bu}
abbrev aZ5(tl:TE):TI:=ajf R σ H (r6 (∃a ob aG,x=Δ a/\H1 a=lB .b! .bA/\R (ax6 a ob) H1))
def aXG aoE:GN X cM l (aZ5 tl):=by
 rw[qc R (kj (hl pins s σ H _ I h) v ⟨x,H1,aC,r1,ay⟩)];obtain⟨a,ob,aG,rfl,aN,q⟩:=ay;cases r1;obtain⟨hg,hz,hs,vs,kv,o,es,ep,ho,hx,hd,hr⟩:=(IF X.prog X.w H1 s1.heap a (.b! ob (.bA aG)) (aC.bz a _ aN))
 rw[Ia lZ (o=ob) (by rw[hg]at ho;exact(Option.some.inj ho).symm) lZ];rw[cV da (s1.heap.DictAt qp a vs ep) ⟨o,es,ho,hx,hd,hr⟩ (wpAny_pyIter_dict hs da ?_)];rw[bJ bh (H6 H1 s1 (Â (dH "dict_keyiterator") (iS #[Δ a,η 0 0,at6 η 0,η ep 0]))) (Yp b o e e) hl aiE (by rw[ahN hr.2.1])]
 rw[uJ ⟨s1.heap.objs.size,[s1.heap.objs.size],_,_,_,rfl,bh,aHz a _ hd,uv _ IV (by rw[cC hl]),oD,q⟩ e (b=s1.heap.objs.size) B4]
 rw[fq e (aC.GI fe Nu)]
abbrev aEV m7 dF:wm (Nat×nZ):=match x with
 |ο n=>match M[n]? with
  |m_ .bO=>x6
  |_=>none
 |_=>none
abbrev am3 mh:rL:=ki (dN).bind (match aEV x aa with
 |x6=>.ok (ai7 q q.1,I6 .bO) aa
 |none=>aF)
def aXH(h:auI):YH X (am3 d):=⟨by
 rw[YK (aXG h.out) H R S M w ⟨ι,S,M,ρ,ba,sl,vN⟩];cases x with
 |obj n=>
  rw[gY a ei (bo.A5.mp r1)];obtain⟨o,eM,q⟩:=s1.addr ei;simp only[aEV,eM]at w1;cases o with
  |bO kvs=>
   rw[aDH];obtain⟨ob,aG,a5N,aN,rk⟩:=q;refine⟨a,ob,aG,rfl,aN,?_⟩;rw[ME (w1 ι1 _ _ _ lM s1 λi ι' S' M' H' up kF _=>?_) ir (S' a=lB .b! .bA) (up.sm a _ a5N) nR (H' a=lB .b! .bA) (kF.sub a _ ir)];rw[L8 y hy (YE aG nR (by rw[asp hl]))];rw[gI]at hy;obtain⟨⟨k,z⟩,hk,rfl⟩:=Option.map_eq_some_iff.mp hy;obtain⟨v,hv,_⟩:=rk.get hk;rw[L9 ⟨aG,k,v,nR,hv⟩ u H2 qJ];rw[MB qJ qJ];rw[fX (qJ aG k v nR hv) ⟨ι',S',lM,kF,xl k⟩]
  |_=>rw[mz]
 |_=>rw[mz]⟩
universe zE
universe L2
universe zE
section
namespace L2
open PySem PySem.Spec PyProof.Rows
section
variable {X:bY}{aH:St->d_}{a b:Expr}{rest:dI}{ta tb:TE}{da db:bu}{pos:Pos}
abbrev a5l c9 afQ:TE:=Ng H x (∃c,anW K x H1 c/\oq c (Q x H1) (tb σ H1 Q))
def a2p aL3:Fy lU .Or (a::qX) (a5l X.K ta tb):=by
 rw[qc Q (BoolOp_or (abH s H _ I h v x))];rw[Ce c tc ay ay (FU (aJY pins s1 σ H1 x v (mq k (k=c/\H2=H1)) aC r1 (ER c tc)) k ⟨H2,bh,eX,aN⟩)];subst eX aN;cases k with
 |false=>exact hb pins s2 σ H2 Q bh ay
 |true=>exact⟨x,H2,bh,r1,ay⟩
abbrev an4 afi:bu:=ki (da ρ M).bind (match fO aa x with
 |uB=>.ok x aa
 |some false=>db ρ aa
 |none=>aF)
def a2q aLI:vE lU .Or (a::qX) (an4 da db):=⟨by
 rw[AY (a2p ha.out hb.out)];cases e:fO aa x with
 |none=>rw[EA e]
 |some k=>
  rw[e]at w1;rw[De k (HI s1 r1 e)];cases k with
  |true=>exact DD (yk r1)
  |false=>exact Gw NW⟩
universe zE
universe L2
universe zE
section
noncomputable section
namespace Sb
open PySem L2
abbrev Dm:D1:=CC 1 (aB PX [(NS aq)])
abbrev Zk(Dk:D1):D1:=CC 2 (nM false [none,none,sC] (alv aq) (mR 2 (k6 (bP 0) (oG 1))) (Jz aI (aB Dk [az])) aq)
abbrev alD(acW:D1):D1:=g? 4 (E0 (b5 (aB acW [aq,aI])) (bP 3) (AH (pD (fi true) az) (wM bw)) (dC .ah))
abbrev avP(Di:D1):D1:=CC 3 (cg (gw false) (aB Di [aq,az,aI]) (dC .ah))
abbrev alz(Dk:D1):D1:=g? 2 (C2 (n_ Aa ati) (d? (Mc VT (b5 (aB Dk [aq])) RD)) (QN (uq 1) (d? (h7 [(uq 2),(uq 3)])) (d? (h7 [(uq 1)]))))
abbrev nz:D1:=CC 1 (n_ Aa arU)
abbrev avU(ka:D1):D1:=PG 2 (yO (cU (aB ka [aq])) (Jz (uq 3) (NS az)) (d? ĭ)) (dC mD)
abbrev mn(aE2 og:D1):D1:=Xk 2 (Q0 aE2 [aq]) (uh og)
abbrev avr(gT:Addr)(aE3 Dk:D1):D1:=g? 2 (C2 (n_ Wt (Ξ 0)) (ayn gT [(c5 "a yard has at least one piece")]) (x8 tg Wt (Ξ 16) (gj gT [none,aY (Ξ 16),none]) (e_ (b5 aq) (bP 1) (M8 aE3 (aB Dk [az])))))
abbrev avs(gT:Addr)(acW:D1):D1:=g? 3 (e_ (b5 az) (bP 2) (lO (eN (o4 (CB u6 aI (Ξ 0)) (CB tg aI (Ξ 999))) (gj gT [none,Nk,none,aY (Ξ 999)]) pV) (x8 tg (qx countP az [aI]) (Ξ 1) (gj gT [none,Nk,none]) (AH (cg tg (jO (aB acW [aq,aI])) (Ξ 2)) (gj gT (C1 Nk))))))
abbrev avn(gT:Addr)(Dk:D1):D1:=g? 4 (x8 tg (uE az) (Ξ 16) (gj gT [none,aY (Ξ 16),none]) (e_ (b5 az) (mR 2 (k6 (bP 2) (oG 3))) (x8 tg (qx countP az [(fg [aI,bw])]) (Ξ 1) (gj gT [none,Nk,none,aY bw]) (lO (eN (o4 (zY (pD u6 (Ξ 0))) (zY (pD alf Wt))) (gj gT [none,aY bw,none]) pV) (AH (cg (jj true) aI (aB Dk [(vp aq bw)])) (gj gT [none,aY bw,none,Nk]))))))
abbrev avG(cT:Addr):D1:=PF 1 (ŕ cT "steps" vZ) (ŕ cT "ahead" vZ) (ŕ cT "is_out" (So .ai))
abbrev avt(cT:Addr):D1:=CC 1 (F0 (b5 (aDf cT)))
abbrev sk:D1:=CC 1 (fg [Aa,(uq 2),(uq 1)])
abbrev aFN(aFq ZD:D1):D1:=g? 6 (EN (uh aFq) 2 vZ (E0 (alv az) (mR 2 (k6 (bP 3) (oG 4))) (e_ (b5 (aB ZD [aq,az,vV,(LM bI),(rt bI)])) (bP 5) (yW aI [(fg [bw,eW])])) (yB aI)))
abbrev aRN(aFr Di ZD:D1):D1:=g? 9 (VC bI (F0 (b5 aI)) (d? vV) (kS 5 vZ (E0 (b5 (aB aFr [(vp aq bI),bw])) (bP 6) (Ff 7 (L? aI [(fg [bI,bw,(ae 6)])]) 8 (aB Di [aq,bI,(ae 6)]) (eN (o4 (CB (gw false) jf (dC .ah)) (Jz (fg [(ae 6),jf]) az)) (yW eW [(ae 7)]) (qv (qx amJ eW [(aB ZD [aq,az,(ae 7),(ae 6),jf])])))) (yB eW))))
abbrev aFb tH(awU:D1):D1:=PF 4 (FZ "found" (aB awU [az,aI])) (FZ "pieces" (aB PX [az])) (Fe (FZ "signals" (aB PX [aI])) (FZ "wait" bw) (Fe (FZ "ticks" (Ξ 0)) (FZ "locks" rh) (Fe (FZ "lying" (nM true Au (b5 az) (bP 0) uV (dC mD))) (FZ "greens" rh) (lO (FZ "falls" rh) (FZ "trains" rh)))))
abbrev avu tH(Gd:D1):D1:=PG 2 (uh Gd) (aeh atl az)
abbrev alx tH(Gd kb:D1):D1:=PF 4 (uh Gd) (Bd (Ow Mu) (e_ (Ow Mu) (mR 2 (k6 (bP 2) (oG 3))) (AH (QA az (aB kb [bw])) (wM aI)))) (d? (dC .ah))
abbrev aE4(kb cb:D1):D1:=CC 2 (aB kb [(aB cb [aq,az])])
abbrev avI(kD:Addr):D1:=Xk 3 (ŕ kD "until" az) (ŕ kD "near" aI)
abbrev ac1 tH(Zl nN fI aF6 wR:D1):D1:=g? 4 (EN (uh Zl) 2 (aB nN [aq,az]) (Fe (e_ (b5 aI) (bP 3) (M8 fI C6)) (e_ (b5 aI) (bP 3) (lO (k7 atl C6 az) (k7 atm C6 (aB aF6 [(pF IC C6),bw])))) (k7 V? (aB wR [aq,az]) az)))
abbrev Zv(kD gS ck:Addr)(Zl wR aFs J9 ub wX nN:D1):D1:=g? 4 (EN (uh Zl) 2 (aB wR [aq,az]) (x8 (fi true) (aeh V? aI) az (gj gS (C1 n6)) (EN (abF V? aI) 3 (aB aFs [aq,aI]) (eN (sY (CB tg (E9 "wait") (Ξ 0)) (o4 (zY (pD (gw true) (dC .ah))) (cU (aB J9 [aq,aI])))) (Ŕ Mz (Gr kD ub [(lD aDh (E9 "wait")),bw])) (M8 wX (aB nN [aq,az]))))))
abbrev xp(kD ck:Addr)(wX nN:D1):D1:=Xk 2 (FZ "ticks" (Rr aDh)) (e_ (b5 (aB Mj [Mz])) (bP 1) (M1 (lW kD "until" (q! Mz)) aDh (lO (abF Mz az) (M8 wX (aB nN [aq,az])))))
abbrev adt tH(kd fI:D1):D1:=PF 2 (uh kd) (uh fI) (Ŕ atm (tn (t_ (q! atm) (dC mD)) ĭ (dC mD)))
abbrev Zw tH:D1:=g? 3 (e_ (b5 az) (bP 2) (abF atl wK))
abbrev alH tH:D1:=CC 2 (aii atk)
abbrev al1 tH:D1:=CC 2 (rt (q! atk))
abbrev alE tH(Dl:D1):D1:=JA 3 2 (q! asn) (Jb Dl [IC,XW,wK])
abbrev avv(cT ck:Addr)(Di:D1):D1:=PI 4 2 (yJ (lW cT "steps" az)) 3 (fg [abv,(aB Di [IC,wK,abv])]) (C2 (pD (jj false) asn) (d? (qx Z9 asn [bw])) (d? (dC .ah)))
abbrev mr tH(acK:D1):D1:=PG 4 (Bd (Ow Mu) (e_ (Ow Mu) (mR 2 (k6 (bP 2) (oG 3))) (M1 (aB acK [aq,bw]) az (wM aI)))) (dC .ah)
abbrev avw afP:D1:=g? 2 (x8 (jj true) az Mu (gj gS [none,n6,none]) (d? (q! Mu)))
abbrev aET afP(Gb:D1):D1:=g? 2 (Xd (cU (aB Gb [atk,az])) (gj gS [none,n6,none]))
abbrev aEU afP(Gb:D1):D1:=g? 2 (Xd (cU (aB Gb [IC,az])) (gj gS [none,n6,none]))
abbrev avx afP(Gd ka:D1):D1:=Xk 2 (uh Gd) (Xd (cU (aB ka [(q! IC)])) (gj gS [none,n6,none]))
abbrev aEO afP(Gb:D1):D1:=g? 2 (Xd (cU (aB Gb [asn,az])) (gj gS [none,n6,none]))
abbrev dE:D1:=CC 2 (xf (cg alf az (Ξ 0)) (cg u6 az Wt))
abbrev avo(k9 ck:Addr)(Zc:D1):D1:=g? 2 (VC az atl (gj k9 [none,n6,none]) (AH (cg (gw true) (Uc ck "train_in" Zc aq [az]) (dC .ah)) (gj k9 [none,n6,none])))
abbrev awn(k9 gS cT ck:Addr)(ke J9 Zs sv Zm:D1):D1:=PF 5 (Q1 ke) (Xd (cU (aB J9 [aq,aI])) (gj gS [none,Nk,none])) (VC az Mu (gj k9 [none,n6,none]) (Wl 3 Zs [aq,az,aI] 4 (Gr cT sv []) (lO (Q0 Zm [aq,bI,bw]) (Ŕ Mu bI))))
abbrev FX(k! cT ck:Addr)(cb ZE Dl Zm Zs acK:D1):D1:=ahS 4 2 cb [aq,az] 3 (yJ (Wv cT)) (lO (yN (lW cT "is_out" aI) (gj k! [none,n6,none])) (eN (cU (ais cT aI)) (Q1 ZE) (eN (cU (aB Dl [IC,C6,Ww])) (hE cT "is_out" aI (Xc .ai)) (Q0 Zm [aq,aI,(aB Zs [aq,az,(aB acK [aq,aI])])]))))
abbrev awA(k9 cT ck:Addr)(cb:D1):D1:=ahT 3 2 (aB cb [aq,az]) (yO (t_ (jO (Wv cT)) (Ξ 1)) (aaa (cU (lW cT "is_out" aI))) (gj k9 [none,n6,none])) (qv (qx ae2 (Wv cT) [])) (M1 (jO (Wv cT)) (Ξ 0) (abF Mu az))
abbrev awB(kD k! cT ck:Addr)(cb wX awV:D1):D1:=ahT 4 2 (aB cb [aq,az]) (yN (lW cT "is_out" aI) (gj k! [none,n6,none])) (M8 wX (ais cT aI)) (Fe (hE cT "ahead" aI vZ) (hE cT "steps" aI (nM true Au (ae0 (Wv cT)) (bP 0) uV (aB awV [aq]))) (Bd (BM Mz) (e_ (BM Mz) (bP 3) (M1 (ah0 kD bw) az (hE kD "near" bw (dC .ah))))))
abbrev ac4(kD k! ck:Addr)(J9 wR:D1):D1:=g? 5 (x8 (gw false) aI (dC .ah) (gj k! (C1 n6)) (VC aI V? (d? (pF V? aI)) (lO (Bd (Ow Mz) (e_ (Ow Mz) (mR 2 (k6 (bP 3) (oG 4))) (yO (t_ (aB wR [aq,bw]) aI) (o4 (t_ (ah0 kD bI) az) (cU (aB J9 [aq,aI]))) (wM bw)))) (gj k! [none,n6,none,Nk]))))
abbrev la(cT ck:Addr)(wR nN ZE:D1):D1:=PF 3 (qv (aei V? (aB wR [aq,aI]) (dC .ah))) (qv (aei Mz aI (dC .ah))) (lO (hE cT "ahead" az (aB (A_ true) [(aB nN [aq,aI])])) (uh ZE))
abbrev avV(cT:Addr)(wX:D1):D1:=g? 3 (Ð 2 (qx aeu (ais cT az) [(Ξ 0)]) (M8 wX (h7 [aI])) (qv (qx xn (lW cT "steps" az) [(Ξ 0),aI])))
abbrev awf:D1:=PG 2 (yN aq (d? (vp aq (cg mO az Wt)))) (Ξ 0)
abbrev awj(awW:D1):D1:=PI 3 2 (QE (R3 (aB awW [aq,az]) (Ξ 104729) (Rr az)) (Ξ 4294967291)) 2 (QE (cg (qA false) aI (Ξ 48271)) (Ξ 4294967279)) (d? (QE (cg (wU false) (cg (qA false) (cg wV aI (Ξ 64)) (Ξ 69621)) aI) (Ξ 4294967231)))
abbrev avQ:D1:=JA 4 3 (Mc [none,sC,some 2,M?] (jG [Wt]) (sY RD (Jz aI (NS (vp bw aq))))) (d? (tn (cU bw) C6 (dC .ah)))
abbrev avR(oO:D1):D1:=PI 11 2 vZ 3 vV (kS 4 (Ξ 0) (E0 (jG [(lD (Ξ 1) (Mr oO [aq,az] (Ξ 8)))]) (bP 5) (Wl 6 oO [aq,(lD (Rr az) eW)] 7 vZ (EN (e_ (jG [(ajb (Ξ 2) OC [(cg u6 (Mq 6 (Ξ 5)) (Ξ 3))])]) (bP 8) (Wl 9 oO [aq,(lD (R3 (lD az (Ξ 10)) (Ξ 3) eW) jf)] 10 (ahO 7 Q9 akR) (eN (sY (cU sL) (CB u6 (Mq 9 (Ξ 8)) (Ï [(Ξ 7),(Ξ 2),(Ξ 2)] jf))) (yW (ae 7) [(Aw sL (cg wV (ae 9) (Ξ 8)) (aB Ua [(Ξ 4),(jO sL)]))]) (lO (yW (ae 7) [(QE (R3 (aB oO [aq,(lD az (Ξ 9))]) (Ξ 37) bI) Ml)]) (lV 4 (Rr bI)))))) 3 (lD (ahO 3 (b5 (ae 7)) akR) (ahO 7 Q9 akR)) (yW aI [(ajb (fg [(Ï [ati,arU] (cg azf (jO (ae 7)) (Ξ 2)))]) FK [(ae 7)])]))) (yB aI)))
abbrev avJ(oO nK:D1):D1:=JA 9 3 vZ (EN (e_ (jG [(uE aI)]) (bP 4) (e_ (alw (NS (vp aI bI))) (bP 5) (Wl 6 oO [aq,(lD (R3 az (Ξ 3) bI) (uE bw))] 7 (cg (gw false) (aB nK [aI,bI,eW]) (dC .ah)) (eN (o4 (t_ (Mq 6 (Ξ 3)) (Ξ 0)) (sY (cU (ae 7)) (t_ (Mq 6 (Ξ 3)) (Ξ 1)))) (yW bw [(fg [eW,bI])]) pV)))) 8 (Mr oO [aq,(lD az (Ξ 30))] (lD (Ξ 1) (uE bw))) (d? (SR (lD (SR bw (Dv jf) J?) (SR bw J? (Dv jf))) J? (Dv (Ξ 16)))))
abbrev av4:D1:=g? 2 (C2 (n_ Aa ati) (d? (Mc VT (alw (NS aq)) RD)) (d? (tn (t9 (uq 1)) (h7 [(uq 2),(uq 3)]) (h7 [(uq 1)]))))
abbrev aFO(awX nK pE:D1):D1:=JA 9 5 vZ (C2 (pD (jj false) (F0 (b5 aI))) (d? (yB eW)) (E0 (b5 (aB awX [(vp aq bw),bI])) (bP 6) (Ff 7 (L? aI [(fg [bw,bI,(ae 6)])]) 8 (aB nK [aq,bw,(ae 6)]) (eN (o4 (CB (gw false) jf (dC .ah)) (Jz (fg [(ae 6),jf]) az)) (yW eW [(ae 7)]) (lV 5 (cg (wU true) eW (aB pE [aq,az,(ae 7),jf,(ae 6)]))))) (yB eW)))
abbrev aFk(pE:D1):D1:=JA 4 2 vV (E0 (jG [(uE az)]) (bP 3) (lV 2 (lD aI (nM false (ĺ 3) (b5 (aB pE [aq,az,vV,(rt (vp az bw)),(yJ (vp az bw))])) (bP 0) uV (fg [az,aq])))) aI)
abbrev awk(aFP:D1):D1:=PI 5 3 (nM true Au (b5 aq) (bP 0) uV (tn (t_ Aa arU) (dC mD) (dC .ah))) 4 (Gz [("pieces",aq),aAK az,JC aI,("points",bw),("green",vV),("now",(Ξ 0))]) (ai6 bI (c5 "routes") (aB aFP [aq,az]) (k7 bI (c5 "locks") (cg (qA true) (h7 [(dC .ah)]) Wt)) (ai6 bI (c5 "falls") rh (k7 bI arV rh) (wM bI)))
abbrev avH:D1:=PG 3 (Bd (OD wj) (lV 2 (Mc [none,sC,M?] (OD wj) (Jz az (F0 (b5 (EP Mv aq))))))) (tn (cU aI) wK (dC .ah))
abbrev av5(ac5:D1):D1:=CC 2 (ae1 (cg (gw true) (q! Qs) (dC .ah)) (cg (gw true) (aB ac5 [aq,az]) (dC .ah)))
abbrev av6:D1:=g? 2 (k7 aq (c5 "locks") (nM true VT (b5 Qs) (bP 0) uV (tn (zY (cg (fi false) aq az)) (dC .ah) aq)))
abbrev rn(adG:D1):D1:=ahT 5 2 (rt (q! B!)) (yN (aB aav [(nM false (ĺ 0) (b5 aI) (bP 0) uV (aB adG [az,Aa]))]) (d? as3)) (e_ (b5 aI) (bP 3) (EN (k7 Qs C6 az) 4 (pF Sn C6) (M1 (LM bI) arU (k7 aDM C6 (Ï [ĭ,(dC mD)] (aB OC [(QA (yR bI) (NS bw))])))))) (Ay (k7 aq aDg (L? ō [az])) Wk)
abbrev av7:D1:=g? 8 (EN (Gx (q! Fd) (mR 2 (k6 (bP 2) (oG 3)))) 4 vZ (Ay (Bd (OD wj) (e_ (OD wj) (bP 5) (Ff 6 (pF wj eW) 7 (yJ (nJ 6)) (yO (t_ (rt (ae 6)) vV) (sY (aaa (cU (yR (ae 6)))) (sY (t_ (yR (ae 7)) aI) (arA (nJ 7) bw))) (yW bI [eW]))))) (yB bI)))
abbrev ac7(adH nK adI:D1):D1:=g? 6 (x8 (jj true) az ō (d? as4) (ai6 aq aDg (Mc VT (b5 ō) RD) (Gx (pF Fd (aii B!)) (mR 2 (k6 (bP 2) (oG 3)))) (Wl 4 adH [aq,(aii B!)] 5 (cg (gw false) (aB nK [Sn,bw,aI]) (dC .ah)) (Ay (eN (sY (CB tg (As "wait") (Ξ 0)) (o4 (cU bI) (cU eW))) (Ŕ yE (fg [(lD (As "now") (As "wait")),bI,eW])) (uh adI)) Wk))))
abbrev av8(adI:D1):D1:=PF 2 (k7 aq (c5 "now") (Rr (As "now"))) (e_ (b5 (aB Mj [yE])) (bP 1) (AH (cg avD (aii yE) (As "now")) (lO (abF yE az) (uh adI)))) ajR
abbrev adl(adG:D1):D1:=g? 2 (C2 (n_ (aii Sn) ati) (d? as4) (Fe (yN (aB adG [aq,az]) (d? as3)) (Ŕ aDM (pF (Gz [("straight",ĭ),("branch",(dC mD))]) (q! aDM))) ajR))
abbrev al2:D1:=g? 6 (E0 (b5 (ajb ō Mj [yE])) (bP 3) (M1 (EP B! bw) az (kS 4 (Ov yE bw (fg [(Ξ 0),(h7 [aI]),(So .ai)])) (eN (o4 (cU (yR bI)) (Jz aI (rt bI))) (ai6 aq aDg (ahO 3 (b5 ō) RD) (qv (aei yE bw (dC .ah))) (kS 5 (aB PX [(rt (pF B! bw))]) (Ay (k7 Qs (yJ (nJ 5)) (dC .ah)) eW))) pV))) (dC .ah))
abbrev avW(nK ZK:D1):D1:=Xk 6 (Gx (pF Fd aI) (mR 2 (k6 (bP 3) (oG 4)))) (x8 (gw true) (aB nK [Sn,bI,bw]) (dC .ah) (d? as4) (VC az wj (d? as3) (kS 5 (aB ZK [aq,aI,az]) (x8 (gw false) eW (dC .ah) (d? atD) (Ay (abU (h7 [(SR eW J? (Dv (Ξ 1))),(NS eW),(So .ai)])) Wk)))))
abbrev awC(nK ZK:D1):D1:=PI 6 2 ajV 3 (yJ wK) (lO (yN abv (d? atD)) (x8 (fi true) XW vV (ai6 Qs (yJ (yJ XW)) (dC .ah) (abU (h7 [(lD (SR XW J? (Dv (Ξ 1))) wK),(NS XW),(So .ai)])) ajR) (kS 4 (aB nK [Sn,C6,Ww]) (x8 (gw false) bI (dC .ah) (Ay (abU (h7 [wK,vV,(Xc .ai)])) Wk) (kS 5 (dC .ah) (VC (fg [Ww,bI]) Fd (lV 5 (aB ZK [aq,(qx Z9 Fd [(fg [Ww,bI])]),az])) (x8 (gw false) eW (dC .ah) (d? atD) (Ay (abU (h7 [(lD (SR eW J? (Dv (Ξ 1))) wK),(NS eW),(So .ai)])) Wk))))))))
abbrev av9:D1:=ahT 3 2 ajV (yO (t_ (jO wK) (Ξ 1)) (aaa (cU abv)) (d? as3)) (abU (h7 [(SR wK J? (Dv LX)),XW,abv])) (C2 (n_ (jO wK) (Ξ 1)) (abF wj az) ajR)
abbrev awa:D1:=ahT 7 2 ajV (yN abv (d? atD)) (e_ (b5 XW) (bP 3) (k7 Qs C6 (dC .ah))) (kS 4 (nM false Au (b5 (anj false wK (Dv LX))) (bP 0) uV (fg [Aa,(uq 2),(uq 1)])) (Fe (abU (h7 [bI,vV,(So .ai)])) (e_ (b5 (aB Mj [yE])) (bP 5) (kS 6 (pF yE eW) (k7 yE eW (fg [(nJ 6),(Mc VT (b5 (rt (ae 6))) RD),(yR (ae 6))])))) ajR))
abbrev aFG:D1:=g? 5 (Ð 4 (Gz [("set",aka),("cancel",aka),("throw",(jO Sn))]) (k7 bI (c5 "enter") (jO Fd)) (VC az bI (d? (amY avD u6 (Ξ 0) aI (q! bI))) (d? (ae1 (cg (fi false) az Qy) (pD (jj false) wj)))))
abbrev awb(aF7 axK aFQ aF8 aF9 awY ayf awZ aw0:D1):D1:=Xk 4 (Xd (cU (aB aF7 [aq,az,aI,bw])) (d? as4)) (QN ah8 (Jb axK [aq,aI]) (QN (c5 "cancel") (Jb aFQ [aq,aI]) (QN atj (Jb aF8 [aq,aI]) (QN (c5 "enter") (Jb aF9 [aq,bw,aI]) (QN Qy (Jb awY [aq]) (QN (c5 "go") (Jb ayf [aq,bw]) (QN aiB (Jb awZ [aq,bw]) (Jb aw0 [aq,bw]))))))))
abbrev avy(nK adH:D1):D1:=Xk 4 (Gx (q! Fd) (mR 2 (k6 (bP 2) (oG 3)))) (x8 (gw false) (aB nK [Sn,bw,aI]) (dC .ah) (d? (h7 [(fg [(c5 "enter"),az,(Ï [(Ξ 0),WZ,(Ξ 102),(Ξ 103),(Ξ 104)] (aB Ua [(Ξ 4),(jO wj)]))])])) (d? (nM false Au (b5 (aB adH [aq,az])) (bP 0) uV (fg [(c5 "go"),(Ξ 0),aq]))))
abbrev al3(oO alK:D1):D1:=ahS 12 3 oO [aq,az] 4 (aB Mj [Mv]) (Ff 5 (tn (cU bI) (Aw bI (ug 16) (uE bI)) (Ξ 7)) 6 (h7 [ah8,ah8,(c5 "go"),(c5 "go"),(c5 "go"),aiB,aiB,(c5 "enter"),(c5 "cancel"),Qy,atj,VN]) (Ff 7 (Aw (ae 6) (pD wV (Ξ 4)) (Ξ 12)) 8 (Gz [("set",(jO į)),("cancel",(jO į)),("throw",(jO (ù "pieces")))]) (kS 9 (Mr oO [aq,(Rr az)] (aB anR [(Ξ 1),(Ov jf (ae 7) akc)])) (Fe (yO (aim (Ξ 4) (Ξ 0)) (cU E?) (Ff 10 (Aw E? (ug 64) akb) 11 (R3 (aB alK [aI,(EP į sL)]) (h7 [(fg [(c5 "cancel"),sL,(Ξ 0)])]) (Ah (Ξ 256) (Ξ 2))) (yN F! (d? (Aw F! (ug 1024) (jO F!)))))) (yO (cU aDi) (sY (cU bI) (aim (Ξ 4) (Ξ 2))) (Yd [(abx [VN,(c5 "go"),VN,Qy] (ug 64)),(Ξ 0),(Aw bI (ug 256) (uE bI))])) (lO (yO (t_ (ae 7) (c5 "cancel")) (cU E?) (lV 9 (Aw E? (ug 64) akb))) (C2 (n_ (pD mO (Ξ 32)) (Ξ 1)) (kS 9 (ahE [LX,(Ov jf (ae 7) akc),(lD Ml (Ah (Ξ 32) Ml))] (pD wV Ě) (Ξ 3)) (lV 5 (ahE [(zk (Ξ 5)),(Ξ 3),aC3] (pD wV Ě) (Ξ 3)))) (Yd [(ae 7),(ae 9),(tn (o4 akP akQ) eW (abx [(Ξ 0),akE,WZ,(zk (Ξ 3))] (ug 512)))])))))))
abbrev aFc tH(kd:D1):D1:=PG 2 (uh kd) (q! atm)
abbrev mx tH(ke:D1):D1:=PG 2 (uh ke) (QA az V?)
universe Sb
universe zE
universe zE
end
mutual
section
noncomputable section
namespace Sb
open PySem L2
abbrev aFH(gT k9 gS k!:Addr)aNq:D1:=JA 6 4 (dC .ah) (Ay (DK [gT,gS,k9,k!] 4 5 (eN (t9 ah8) (Q1 avM) (eN (t9 (c5 "cancel")) (Q1 awo) (eN (t9 atj) (Q1 awD) (eN (t9 (c5 "enter")) (Q0 awE [aq,bw,aI]) (eN (t9 Qy) (Q0 amO [aq]) (eN (t9 (c5 "go")) (ab4 anF) (eN (t9 aiB) (ab4 B1) (ab4 B2))))))))) (cg (gw false) bI (dC .ah)))
universe Sb
universe zE
universe zE
section
noncomputable section
namespace Sb
open PySem L2
abbrev alI(cT:Addr):D1:=PG 1 (yN (õ cT "ahead") (d? (abo (õ cT "ahead")))) (yJ (aDf cT))
abbrev Zu(cT ck:Addr)(cb aFI Dl aFd aFR Zx:D1):D1:=ahS 5 2 cb [aq,az] 3 (aB aFI [aI]) (EN (yN (aB Dl [IC,C6,Ww]) (d? vV)) 4 (aB aFd [aq,az,(F0 (b5 (ais cT aI)))]) (Jb aFR [aq,bw,(Mc [none,M?,some 4] (jG [(jO atk)]) (cU (aB Zx [az,aq,aI])))]))
abbrev alA tH(aE5 Zc:D1):D1:=JA 6 3 vZ (E0 (jG [(jO IC)]) (bP 4) (kS 5 (xf (cg (gw true) (Uc ck "lock_of" aE5 aq [bI]) (dC .ah)) (cg (jj true) bI aI)) (eN (o4 (cU eW) (zY (cg (jj true) (Uc ck "train_in" Zc aq [bI]) (fg [(dC .ah),az])))) (yW bw [bI]) pV)) (yB bw))
abbrev Td(nN:D1):D1:=CC 3 (n_ (jO (ahO 2 (b5 (aB nN [aq,az])) (Jz Aa az))) (Ξ 0))
abbrev my tH(aFJ nN Dl:D1):D1:=PI 10 3 (h7 [(fg [az,vV])]) 4 (FV (fg [(LM az),(yR az)]) (Xc .ai)) (Ay (Dx (cU bw) (Ð 5 vZ (e_ Q9 (mR 2 (k6 (bP 6) (oG 7))) (e_ (b5 (aB aFJ [aq,(ae 6),aI])) (bP 8) (Ð 9 (abo (aB nN [aq,jf])) (yN (aB Dl [IC,(nJ 9),Xy]) (d? (L? (ae 7) [jf]))) (AH (cg (jj true) (fg [(nJ 9),Xy]) bI) (lO (k7 bI (fg [(nJ 9),Xy]) (Xc .ai)) (yW eW [(fg [(ae 9),(L? (ae 7) [jf])])])))))) (lV 3 eW)) 1000) (dC .ah))
abbrev alJ tH(Di nN Zx:D1):D1:=ahS 7 3 Di [IC,(LM az),(yR az)] 4 vZ (E0 (b5 aI) (bP 5) (kS 6 (yJ (aB nN [aq,eW])) (yO (t_ (fg [(nJ 6),(rt (ae 6))]) (fg [bw,(yR az)])) (cU (aB Zx [aq,eW,(h7 [(LM az)])])) (yW bI [eW]))) (yB bI))
abbrev aFK tH(aFM ui oO axL uj:D1):D1:=ahS 4 1 aFM [aq,(Ξ 0)] 2 (aB ui [aq,(Ξ 40),az]) (kS 3 (Mr oO [aq,(Ξ 39)] (Ξ 4)) (Yd [(Gr ck uj [(aB PX [az]),(aB PX [aI]),bw]),(aB axL [az,aI,bw])]))
abbrev awl:D1:=JA 2 1 (tn (cU (uq 1)) (abo (uq 1)) (yJ Aa)) (Yd [(LM az),(yR az)])
abbrev avX(ac5:D1):D1:=PI 7 4 ajV 5 (F0 (b5 (rt bI))) (E0 (b5 (rt (pF B! aI))) (bP 6) (lO (eN (o4 (t_ (nJ 6) bw) (sY (zY (cg (jj true) (nJ 6) eW)) (CB (gw true) (atG Qs 6) (dC .ah)))) (ajr .ai) pV) (AH (cg (jj true) (aB ac5 [aq,(nJ 6)]) (fg [(dC .ah),az])) (ajr .ai))) (Xc .ai))
abbrev avK(axA nK aGa:D1):D1:=PI 13 2 Sn 3 (h7 [(fg [(aB axA [ajV]),vV])]) (E0 (jG [(Rr aka)]) (bP 4) (EN (e_ Q9 (mR 2 (k6 (bP 5) (oG 6))) (AH (cg (gw false) (aB nK [aI,(nJ 5),aj8]) (dC .ah)) (d? (ae 6)))) 7 vZ (lO (e_ Q9 (mR 2 (k6 (bP 5) (oG 6))) (kS 8 (fg [aj8,(aB nK [aI,(nJ 5),aj8])]) (e_ (jG [aka]) (bP 9) (Ff 10 (pF B! (ae 9)) 11 (fg [(EP (rt sL) LX),(yR (abo (rt sL)))]) (kS 12 (xf (n_ (atG Fd 10) jf) (cg (jj true) F! (F0 (b5 (ae 7))))) (yO (cU (ae 12)) (cU (aB aGa [aq,az,(ae 9),(nJ 5)])) (yW (ae 7) [(fg [F!,(L? (ae 6) [(ae 9)])])]))))))) (lV 3 (ae 7)))) (dC .ah))
abbrev aE6(gT k9 gS k!:Addr)(m3:D1):D1:=JA 4 2 (dC .ah) (Ay (DK [gT,gS,k9,k!] 2 3 (uh m3)) (anP [CG gT,(gS,true),CG k9,CG k!] aI))
abbrev uk(aGb oO awM awN aGc m3 aFL aFl:D1):D1:=PF 10 (Gx (aB aGb [aq]) (mR 2 (k6 (bP 1) (oG 2)))) (e_ (jG [(Mr oO [aq,(Ξ 38)] (Ξ 31))]) (bP 3) (EN (Gx (aB awM [aq,(R3 (Ξ 60) (Ξ 2) bw),aI]) (mR 3 (k6 (bP 4) (k6 (bP 5) (oG 6))))) 7 (n_ (aB awN [aI,bI,eW,(ae 6)]) Wk) (AH (cg (fi true) (aB aGc [az,bI,eW,(ae 6)]) (ae 7)) (ajr .ai)))) (Ay (Bd (OD Mv) (e_ (OD Mv) (bP 6) (Wl 8 m3 [az,(ae 6)] 9 (aB aFL [aI,(ae 6)]) (lO (eN (o4 (arA jf (ae 9)) (sY (CB (gw true) (ae 9) (dC .ah)) (aaa (cU (aDZ "list" jf))))) (ajr .ai) pV) (yN (aB aav [(nM false Au (b5 (an4 jf vV)) (bP 0) uV (aDZ "bool" aq))]) (ajr .ai)))))) (aB aFl [az,(Ξ 5000)]))
universe Sb
universe zE
universe zE
section
namespace L2
open PySem
section
variable {ρ:ej}{M:aL}
@[simp] def av gW:ae i ρ M=(match ρ[i]? with | Hw x=>.ok x M | _=>aF):=rfl
@[simp] def bb gX:dC x ρ M=.ok x M:=rfl
@[simp] def bq:CZ [] M=.ok [] M:=rfl
@[simp] def aJ gB BH:CZ (d::ds) M=xR (dN).bind (qe (ģ aa).bind xs (.ok (x::xs) M2)):=rfl
@[simp] def pU BH:fg ds ρ M=Fa (xV).bind xs (.ok (aQ xs) aa):=rfl
@[simp] def w4{l:Bool}BH:nL l ds ρ M=Fa (xV).bind xs (uT l xs aa):=rfl
@[simp] def ao{f:D2}{a b:bu}:cg f a b ρ M=xR (a ρ M).bind (qe (b ρ aa).bind y (f x y M2)):=rfl
@[simp] def bV{f:D1}BH:aB f ds ρ M=Fa (xV).bind xs (f xs aa):=rfl
@[simp] def i9 gB:cU d ρ M=xR (dN).bind (E2 aa x aa):=rfl
@[simp] def dD gB:sQ d ρ M=xR (dN).bind (match x with | .ai b=>.ok b aa | _=>aF):=rfl
@[simp] def A8{a b:iK}:sY a b ρ M=Fa (a ρ M).bind k (oq k (b ρ aa) (.ok false aa)):=rfl
@[simp] def Z4{a b:iK}:o4 a b ρ M=Fa (a ρ M).bind k (if aO k then .ok true aa else b ρ aa):=rfl
@[simp] def axB{a:iK}:aaa a ρ M=Fa (a ρ M).bind k (.ok (! k) aa):=rfl
@[simp] def Z5{t:iK}{a b:bu}:tn t a b ρ M=Fa (t ρ M).bind k (oq k (a ρ aa) (b ρ aa)):=rfl
@[simp] def aej{l:Bool}gB{dl Y9:OH}:Hk l d dl Y9 ρ M=xR (dN).bind (qe (dl ρ aa).bind lo ((Y9 ρ M2).bind λhi bE=>tu l x lo hi bE)):=rfl
@[simp] def m4:J? ρ M=.ok none M:=rfl
@[simp] def ZL gB:Dv d ρ M=xR (dN).bind (match x with | η i=>.ok XA aa | _=>aF):=rfl
@[simp] def a8j gB:yB d ρ M=xR (dN).bind (DJ x aa):=rfl
@[simp] def a74{f:zy}gB BH:qx f d ds ρ M=xR (dN).bind (match Ka aa x with | tV=>qe (ģ aa).bind xs (f x xs M2) | none=>aF):=rfl
@[simp] def a8u:pV ρ M=.nx ρ M:=rfl
@[simp] def aZ6{a b:cR}:lz a b ρ M=(match a ρ M with | .nx ρ' M'=>b ρ' M' | o=>o):=rfl
@[simp] def a8d gB:qv d ρ M=NG (dN).out _ (.nx ρ aa):=rfl
@[simp] def a8k gB:wM d ρ M=NG (dN).out x (.eO x aa):=rfl
@[simp] def a8e:a23 ρ M=.eO .ah M:=rfl
@[simp] def a8l{t:iK}{a b:cR}:eN t a b ρ M=NG (t ρ M).out k (oq k (a ρ aa) (b ρ aa)):=rfl
@[simp] def aZ7 gW gB:lV i d ρ M=NG (dN).out x (.nx (EU i) aa):=rfl
@[simp] def a8m gB{g:oZ}:Gx d g ρ M=NG (dN).out x (match g x ρ with | some ρ'=>.nx ρ' aa | none=>aF):=rfl
@[simp] def a8z gW gX:bP i x ρ=aY (EU i):=rfl
@[simp] def a8v:uV ρ M=.ok true M:=rfl
@[simp] def a72 qR BH:ayn C ds ρ M=NG (xV).out _ (bW C ρ aa):=rfl
@[simp] def ag rW{x:α}aaH:(Ā x).bind f=f x M:=rfl
@[simp] def aw6 gA{x:α}:agj iB M=.ok x M:=rfl
@[simp] def aW1 gA:(Res.opt none M:yd)=aF:=rfl
@[simp] def a07 gX:(Out.eO x M).res=.ok x M:=rfl
@[simp] def a06:(Out.nx ρ M).res=.ok .ah M:=rfl
@[simp] def aZl tL:(Out.exc c ρ M).res=bW c M:=rfl
universe zE
abbrev Pl:Ĵ aj
 |0,x=>match x with
  |.ah=>True
  |η _=>True
  |aE x=>agg (aE x)
  |_=>False
 |k+1,x=>match x with
  |.ah=>True
  |η _=>True
  |aE x=>agg (aE x)
  |ς xs=>acy y k y
  |aQ xs=>acy y k y
  |_=>False
def To rW{f:yT α β}{g:α->β}:∀aa5,(Mg x (f x=aY (g x)))->sM f=aY (xs.map g)
 |[],_=>rfl
 |x::xs,h=>by
  rw[iU Of (h x Θ) (To (A0 (h y (iA hy))))];rfl
abbrev l0 o8 m7:PyData:=(flat [] k x).getD cP
def alO cw:∀o8 m7,Pl k x->flat M k x=aY (l0 k x)
 |0,x,h=>by
  cases x<;>simp_all [Pl,l0,flat,leaf]
 |k+1,x,h=>by
  cases x with
  |lst xs=>
   rw[LY h' (acy y k y) h e (∀N:aL,flat N (k+1) (ς xs)=atO F8 k) N (by
    rw[su flat (To (A0 (alO k y (h' y hy))))];rfl)]
   rw[e,l0,e];rfl
  |tup xs=>
   rw[LY h' (acy y k y) h e (∀N:aL,flat N (k+1) (aQ xs)=atO Xz k) N (by
    rw[su flat (To (A0 (alO k y (h' y hy))))];rfl)]
   rw[e,l0,e];rfl
  |_=>simp_all [Pl,l0,flat,leaf]
def alB d6 aou:l0 (k+1) (ς xs)=F8 (arC k):=by
 have e:flat [] (k+1) (ς xs)=atO F8 k:=by
  rw[su flat (To (A0 (alO k y (h y hy))))];rfl
 rw[l0,e];rfl
def alC d6 aou:l0 (k+1) (aQ xs)=Xz (arC k):=by
 have e:flat [] (k+1) (aQ xs)=atO Xz k:=by
  rw[su flat (To (A0 (alO k y (h y hy))))];rfl
 rw[l0,e];rfl
def aGd d6(ih:∀x y,Pl k x->Pl k y->(aO (ahj (l0 k x) (l0 k y))↔x=y)):∀xs ys:fZ,(acy y k y)->(∀y∈ys,Pl k y)->(aO (PyData.eqvAll (arC k) (ys.map (l0 k)))↔xs=ys)
 |[],[],_,_=>aCw
 |[],y::ys,_,_=>aCw
 |x::xs,[],_,_=>aCw
 |x::xs,y::ys,hx,hy=>by
  rw[bB,bB,PyData.eqvAll,Bool.and_eq_true,ih x y (hx x Θ) (hy y Θ),aGd ih xs ys (λz hz=>hx z (aK hz)) (λz hz=>hy z (aK hz))];simp
def za d6:l0 k .ah=cP:=by cases k<;>rfl
def zb d6 iO:l0 k (η i)=η i:=by cases k<;>rfl
def ald d6 eo(h:agg (aE x)):l0 k (aE x)=aE x:=by cases k<;>simp[l0,flat,leaf,h]
inductive aaz:Ĵ aj
 |ah d6:aaz k .ah
 |int d6 p8:aaz k (η i)
 |str d6 eo(h:agg (aE x)):aaz k (aE x)
 |lst d6 aou:aaz (k+1) (ς xs)
 |tup d6 aou:aaz (k+1) (aQ xs)
def Pl.pk d6 gX(h:Pl k x):aaz k x:=by
 cases k with
 |zero=>
  cases x with
  |ah=>exact .ah
  |int i=>exact η i
  |str x=>exact aE h
  |_=>exact h.elim
 |succ k=>
  cases x with
  |ah=>exact .ah
  |int i=>exact η i
  |str x=>exact aE h
  |lst xs=>exact ς h
  |tup xs=>exact aQ h
  |_=>exact h.elim
def aes o8:∀(x y:aj),Pl k x->Pl k y->(aO (ahj (l0 k x) (l0 k y))↔x=y):=by
 induction k with
 |zero=>
  intro x y hx hy;cases hx.pk with
  |ah=>cases hy.pk with
   |ah=>rw[arD za]
   |int j=>rw[U? za zb]
   |str h=>rw[CX za h]
  |int i=>cases hy.pk with
   |ah=>rw[U? za zb]
   |int j=>rw[arD zb]
   |str h=>rw[CX zb h]
  |str h=>cases hy.pk with
   |ah=>rw[CX za h]
   |int j=>rw[CX zb h]
   |str h'=>rw[CX (ald h) h']
 |succ k ih=>
  intro x y hx hy;cases hx.pk with
  |ah=>cases hy.pk with
   |ah=>rw[arD za]
   |int j=>rw[U? za zb]
   |str h=>rw[CX za h]
   |lst h=>rw[Ė za h]
   |tup h=>rw[Ę za h]
  |int i=>cases hy.pk with
   |ah=>rw[U? za zb]
   |int j=>rw[arD zb]
   |str h=>rw[CX zb h]
   |lst h=>rw[Ė zb h]
   |tup h=>rw[Ę zb h]
  |str h=>cases hy.pk with
   |ah=>rw[CX za h]
   |int j=>rw[CX zb h]
   |str h'=>rw[CX (ald h) h']
   |lst h'=>rw[Ė (ald h) h']
   |tup h'=>rw[Ę (ald h) h']
  |lst h=>cases hy.pk with
   |ah=>rw[Ė za h]
   |int j=>rw[Ė zb h]
   |str h'=>rw[CX (alB h) h']
   |lst h'=>rw[alB h,alB h',PyData.eqv,aGd ih _ _ h h'];simp
   |tup h'=>rw[Ę (alB h) h']
  |tup h=>cases hy.pk with
   |ah=>rw[Ę za h]
   |int j=>rw[Ę zb h]
   |str h'=>rw[CX (alC h) h']
   |lst h'=>rw[Ė (alC h) h']
   |tup h'=>rw[alC h,alC h',PyData.eqv,aGd ih _ _ h h'];simp
def aRO G7{p:Prop} [Decidable p] (h:aO b↔p):b=decide p:=by
 cases b<;>simp_all
def ZM qQ aa7 cw{p:Prop} [Decidable p] (hx:zS x)(hy:zS y)(h:x=y↔p):fi neg x y M=.ok (.ai (BS (decide p) (decide p))) M:=by
 rw[MD fi (PN x hx) (PN y hy)];rw[aRO (e7 (aes deep x y hx hy) h)]
def Kl qQ gA aaJ azU az4 [Decidable (a∈as)] {y:aj}cw(hy:oY M y=aY VL):
  JX Em y=.ok (.ai (PR a as a as)) M:=by
 unfold jj;rw[j3 hy]
 rw[Io (PN _ (hp a)) (To (g:=WT) λz hz=>by
  rw[XZ b hz (PN _ (hp b))])]
 have:((VL).map WT).any (zR q q (l0 deep Em))=mw a as:=by
  refine aRO ?_;rw[aqN];constructor
  ·rintro⟨q,hq,he⟩;rw[q6 z hz hq];rw[q6 b hb hz];have:=inj _ _ ((aes deep _ _ (hp b) (hp a)).mp he);rw[fq this hb]
  ·intro hm;rw[bQ _ (lP _ (lP a hm)) ((aes deep _ _ (hp a) (hp a)).mpr rfl)]
 rw[this]
def mS d6 p8:Pl k (η i):=by cases k<;>trivial
def Ol d6:Pl k .ah:=by cases k<;>trivial
@[simp] def rE qQ Pe:fi neg (η i) (η j) M=.ok (.ai (BS (fK i j) (fK i j))) M:=ZM (mS i) (mS j) Θ
@[simp] def amq qQ iO UE cw:JX (η i) (ς Ù)=.ok (.ai (PR i ns i ns)) M:=Kl (enc:=aj.int) (λa=>mS a) (λa b e=>by cases e;rfl) rfl
@[simp] def aIn qQ iO UE cw:JX (η i) (aQ Ù)=.ok (.ai (PR i ns i ns)) M:=Kl (enc:=aj.int) (λa=>mS a) (λa b e=>by cases e;rfl) rfl
def wa gA{w:qK}{g:oZ}{tc:iK}gB cw(enc:α->aj)(P:Xm)(f:α->aj)(R:cO ej)(hc:qE w M):
  ∀UD(ρ:ej)(acc:fZ),R ρ->(Mg x (∀ρ,R ρ->∃ρ1,É (enc x) ρ1/\R ρ1/\tc ρ1 M=.ok (P x) M/\(aO (P x)->d ρ1 M=.ok (f x) M)))->asx xs.length≤lim →
   tj w g tc d apF ρ M acc=.ok (acc++(xs.filter P).map f) M
 |[],ρ,acc,_,_,_=>aK tj
 |x::xs,ρ,acc,hR,h,hl=>by
  obtain⟨ρ1,h1,h2,h3,h4⟩:=h x Θ ρ hR;simp only[zE]at hl;rw[uy bB tj h1];rw[h3,Res.aH1];cases hp:P x with
  |true=>
   rw[eK,h4 hp,Res.aH1,if_pos (ahl hc),wa enc P f R hc xs ρ1 _ h2 (A0 (h y (aK hy))) (by rw[fH]),List.filter_cons_of_pos hp];simp
  |false=>
   rw[asR,VV,wa enc P f R hc xs ρ1 _ h2 (A0 (h y (aK hy))) aD,aia hp]
def yY gA Pg{gF:xG}UL{g:oZ}{tc:iK}gB aaG{w:qK}aa5(enc:α->aj)(P:Xm)(f:α->aj)(R:cO ej)
  (hi:HD M=.ok (apF,w) M')(hc:qE w M')(hR:R (KC gF ρ))(h:Mg x (∀ρ,R ρ->∃ρ1,É (enc x) ρ1/\R ρ1/\tc ρ1 M'=.ok (P x) M'/\(aO (P x)->d ρ1 M'=.ok (f x) M')))(hl:Fb lim):
  nM live gF gr g tc d ρ M=uT live ((xs.filter P).map f) M':=by
 unfold nM;rw[hi,ag,VV,wa enc P f R hc xs _ _ hR h (a! hl)];rfl
def aZ8 UL{g:oZ}{s1:cR}aaG d5{w:qK}(hi:HD M=.ok (xs,w) M')(hc:qE w M'):e_ gr g s1 ρ M=Bh w g s1 xs ρ M':=by
 rw[mJ e_ hi Res.pS VV]
@[simp] def ig gB aaG d5(h:dN=.ok (ς xs) M'):b5 d ρ M=.ok (xs,none) M':=by rw[Ik b5 h]
def Om gB aaG br d5(h:dN=.ok (ο n) M')(hn:M'[n]? = g!):b5 d ρ M=.ok (xs,ajP xs) M':=by rw[MD b5 h ag];rw[hn]
def aJ3 gB aaG d5(h:dN=.ok (aQ xs) M'):alw d ρ M=.ok (xs,none) M':=by rw[Ik alw h]
abbrev mB cZ vf dF m7:Prop:=∃G,g xs M=.ok x (M++G)
def mB.trunc Eb Pz gX(h:mB g xs M x)(hb:arW x):Rl g xs=.ok x M:=by
 obtain⟨G,e⟩:=h;rw[iU L2.trunc e (aJk Θ hb)]
universe L2
universe zE
section
namespace L2
open PySem
section
variable {Q:Ej}{ρ:ej}{M:aL}{s1 s2:cR}{d:bu}{t:iK}
abbrev GB(Q:Ej)(s2:cR):Ej
 |.nx ρ M=>Q (s2 ρ M)
 |o=>Q o
def cj(h:GB Q s2 (IP M)):Q (lz s1 s2 ρ M):=by
 unfold lz;cases e:IP M<;>rw[e]at h<;>exact h
def Ku gW m7 afW(q:Q (.nx (EU i) M')):Q (lV i d ρ M):=by
 rw[jL lV h q]
def a1S gW m7 afW(q:Q (s2 (EU i) M')):Q (lz (lV i d) s2 ρ M):=cj (Ku x M' h q)
def eD(k:Bool)K5(h:t ρ M=.ok k M')(ay:aO k->Q (IP M'))(a_:cW k->Q (s2 ρ M')):Q (eN t s1 s2 ρ M):=by
 rw[BX eN h];cases k with
 |true=>exact ay rfl
 |false=>exact a_ rfl
def OQ K5(h:t ρ M=.ok true M')(ay:Q (IP M')):Q (eN t s1 s2 ρ M):=eD true M' h (λ_=>ay) nofun
def tI K5(h:t ρ M=.ok false M')(a_:Q (s2 ρ M')):Q (eN t s1 s2 ρ M):=eD false M' h nofun (λ_=>a_)
def bp m7 afW(q:Q (.eO x M')):Q (wM d ρ M):=by
 rw[jL wM h q]
def lX m7 afW(q:Q (.nx ρ M')):Q (qv d ρ M):=by
 rw[jL qv h q]
def aah{g:oZ}m7(ρ':ej)afW(hg:É x ρ')(q:Q (.nx ρ' M')):Q (Gx d g ρ M):=by
 rw[mJ Gx h Res.pS hg];exact q
def dy(q:Q (.nx ρ M)):Q (pV ρ M):=q
abbrev Body(w:qK)(R:ej->cO aL)(Q:Ej):Ej
 |.nx ρ M=>qE w M/\R ρ M
 |.ct ρ M=>qE w M/\R ρ M
 |.kA ρ M=>Q (.nx ρ M)
 |o=>Q o
def ayg gA{w:qK}{g:oZ}aNd UD aLW
  aMh:
  ∀(post pre:qU)U0,xs=pre++post->R pre ρ M->Q (Bh w g s1 (post.map enc) ρ M)
 |[],pre,ρ,M,e,h=>by rw[eP]at e;rw[fq e (k ρ M h)]
 |x::post,pre,ρ,M,e,h=>by
  rw[đ ρ1 h2 (hs pre x post e ρ M h)];rw[uy bB Bh h1];cases e2:s1 ρ1 M with
  |nx ρ' M'=>
   rw[e2]at h2;rw[aqZ (if_pos h2.1) (ayg enc R xs k hs post (pre++[x]) ρ' M' (by rw[fy e]) h2.2)]
  |ct ρ' M'=>
   rw[e2]at h2;rw[aqZ (if_pos h2.1) (ayg enc R xs k hs post (pre++[x]) ρ' M' (by rw[fy e]) h2.2)]
  |kA ρ' M'=>rw[bG e2 h2 h2]
  |eO x M'=>rw[bG e2 h2 h2]
  |exc c ρ' M'=>rw[bG e2 h2 h2]
  |bad=>rw[bG e2 h2 h2]
def kC gA UL{g:oZ}aNd UD(w:qK)(aa:aL)(hi:HD M=.ok (apF,w) aa)(hc:qE w aa)(h0:R [] ρ aa)
  aMh aLW:Q (e_ gr g s1 ρ M):=by
 rw[mJ e_ hi Res.pS VV];exact ayg enc R xs k hs xs [] ρ aa rfl h0
abbrev Fin(P:aNC)(o:Out):Prop:=P o.res
def pO br d5{d:cR}UM(h:Fin P (d (ata++at1 n) M)):P (Dp n d xs M):=h
def fS UM gX(h:P (.ok x M)):Fin P (.eO x M):=h
def qw UM(h:P (.ok .ah M)):Fin P (.nx ρ M):=h
def dq UM tL(h:P (bW c M)):Fin P (bW c ρ M):=h
def az8(h:Q (s2 ρ M)):GB Q s2 (.nx ρ M):=h
def cx gX(h:Q (.eO x M)):GB Q s2 (.eO x M):=h
def rD tL(h:Q (bW c ρ M)):GB Q s2 (bW c ρ M):=h
def A2 azC(hc:qE w M)(h:R ρ M):Body w R Q (.nx ρ M):=⟨hc,h⟩
def alU azC gX(h:Q (.eO x M)):Body w R Q (.eO x M):=h
def aXI azC tL(h:Q (bW c ρ M)):Body w R Q (bW c ρ M):=h
universe zE
@[simp] def ZN cw xC:h9 (M++[o]) M.length o:=Θ
@[simp] def awO cw{o o':fB}:ajA (M++[o]).set o'=M++[o']:=Θ
def axC br:∀d5,(Mg x (pg x))->aO (W! n)
 |[],_=>lQ aj.DF
 |x::xs,h=>by rw[aj.DF,h x Θ,axC (A0 (h y (aK hy)))];rfl
def axD br d5(h:Mg x (pg x)):pg (ς xs):=by rw[ah3 (axC h)]
def aRR br d5(h:Mg x (pg x)):pg (aQ xs):=by rw[ah3 (axC h)]
@[simp] def aZ9 br iO:pg (η i):=atJ
@[simp] def aI0 br:pg .ah:=atJ
@[simp] def a8n br eo:pg (aE x):=atJ
@[simp] def a8w br G7:pg (.ai b):=atJ
universe L2
universe zE
end
mutual
section
namespace L2
open PySem PySem.Spec PyProof.Rows
abbrev aeJ c9:xr:=λvs H Q E=>∃(a:Addr) (ns:fD),vs=[V.ref a]/\iI K H a IB/\∀H',oJ (ju .ai)
def a8f kM Eb(hg:∀ns M,∃M',g [.dX ns] M=.ok (ju .ai) M')xy iP p0 BL(h:aeJ K vs H Q E):Bu K 1 g vs H Q E:=by
 rw[dw a ns hS q h];rw[aqg M' e (hg ns []) ⟨rfl,[],H,[],[.dX ns],ri (nQ.refl H) List.nodup_nil (λn a o h=>nomatch h),.one (bo.xa.mpr (lK a hS)),?_⟩];rw[e];intro ι' S' H' v _ _ r;rw[au Ú (q H')]
def aWv kM Eb(hg:∀ns,∃M',g [.dX ns] []=.ok (ju .ai) M')xy iP p0 BL(h:aeJ K vs H Q E):Bu K 1 g vs H Q E:=by
 rw[dw a ns hS q h];rw[aqg M' e (hg ns) ⟨rfl,[],H,[],[.dX ns],ri (nQ.refl H) List.nodup_nil (λn a o h=>nomatch h),.one (bo.xa.mpr (lK a hS)),?_⟩];rw[e];intro ι' S' H' v _ _ r;rw[au Ú (q H')]
def a5m{p:cO Addr}{a b c d:Addr}(ha:p a)(hb:p b)(hc:p c)(hd:p d):∀x∈[a,b,c,d],p x:=by
 rw[VH x hx hx];rcases hx with rfl | rfl | rfl | rfl
 ·exact ha
 ·exact hb
 ·exact hc
 ·exact hd
def aXJ{p:Addr->cO Bool}{a b c d:Addr}{x y z u:Bool}(ha:p a x)(hb:p b y)(hc:p c z)(hd:p d u):∀C k,([(a,x),(b,y),(c,z),(d,u)]:Xb).lookup C=fE->p C k:=by
 intro C k h;simp only[List.lookup]at h;split at h
 ·rw[XD];cases h;rw[ap8 e ha]
 split at h
 ·rw[XD];cases h;rw[ap8 e hb]
 split at h
 ·rw[XD];cases h;rw[ap8 e hc]
 split at h
 ·rw[XD];cases h;rw[ap8 e hd]
 cases h
def zc.bad Li eo G4 Pk d6 azE:Sk P w K mg (k+1) x ps.length (Mx (cQ _ aF)):=
 zc.of D S λf gm A outer s H E hr=>⟨PU s1 σ H1 D I h (by
  obtain⟨_,_,_,_,_,_,h⟩:=h
  exact h.elim)⟩
universe L2
universe zE
section
namespace L2
open PySem PySem.Spec PyProof.Rows PySem.W
section
variable {K:fh}{hp:Heap}{mg:Str->gK}{x m q:Str}{st:Stmt}{ps:gM}{C:Addr}
inductive FnAt c9(v:Wr)(x q:Str)(st:Stmt):Prop
 |mk{f:Addr}{oc kV pQ pm cd ct:Value}{od an:Y7}{sl:Array gK}(a:v=Wq f)
  (l:arz f ⟨oc,od,.func (apV x q (Kn st) (Gh st) (aw st) cP pQ pm an cd ct),sl⟩)(c:aq9 K cd q)(k:Vk K (Δ f))(j:aru K (Δ f)):FnAt K v x q st
abbrev awT(x q:Str)aot:Prop:=∀aMP(gm ct:Value)BJ,aDu->aCn (apV x q (Kn st) (Gh st) (aw st) cP doc pm an gm ct) us=HM VY
abbrev aQc:Ĵ (cO b7)
 |0,P=>P []
 |n+1,P=>∀a,aQc n λus=>P (a::us)
def ar:∀br{P:cO b7},aQc n P->∀us:b7,us.length=n->P us
 |0,_,h,[],_=>h
 |n+1,P,h,a::us,e=>ar (n:=n) (P:=λus=>P (a::us)) (h a) us (Nat.succ.inj e)
def FnAt.de(h:bH x x x st)aL8(b:awT x x st ps:=by intro _ _ _ _ _ _;refine ar ?_;(repeat intro _);rfl):cJ x st ps:=by
 rw[wB a l c k j h _ _ (Z8 l c k) (Ja a) ((Z8 l c k).binds b)]
def FnAt.me(h:ark K (Δ C) m m q st)(c:Bp K C)(b:awT m q st ps:=by intro _ _ _ _ _ _;refine ar ?_;(repeat intro _);rfl):ane K C m q st ps:=by
 rw[LH a l c' k j h ⟨_,_,Z8 l c' k,⟨a,j,k⟩,c,(Z8 l c' k).binds b⟩]
def FnAt.aEJ(h:ar4 K (Δ C) q st)(mk:aO (makesIn K C))(a6N:aO (keepIn K (Δ C)))(nm:mg x=n7 C)(b:awT "__init__" q st ps:=by intro _ _ _ _ _ _;refine ar ?_;(repeat intro _);rfl):aeB K mg x C q st ps:=by
 rw[LH a l c k j h ⟨_,_,Z8 l c k,⟨mk,a,j,a6N⟩,nm,(Z8 l c k).binds b⟩]
def FnAt.avC{fa:Addr}(h:bH "law" "law" "law" st)aL8(e:mg "law" = n7 fa):∃kV pQ pm an cd ct,QR K "law" "law" st fa (apV "law" "law" (Kn st) (Gh st) (aw st) cP pQ pm an cd ct):=by
 obtain⟨a,l,c,k,j⟩:=h;cases e.symm.trans (Ja a);exact⟨_,_,_,_,_,_,Z8 l c k⟩
structure an5 c9 nY nX:Prop where
 a:nsIn K mainGlobals x=Wq C
 e1:aiU (Δ C) "__getattribute__" = aOt fG
 e2:HH (aiU (Δ C) "__getattr__") none
 e3:aiU (Δ C) "__class__" = aBD fG
 e4:mroIn K C akI=uB
 e5:mroIn K C aj6=uB
 e6:aO (isClsIn K C)
 Gf:specialIn K Js "__get__" = aAy fG
 et:takesIn K Js=uB
def an5.xc(h:an5 K x C):anf K C:=⟨h.e1,h.e2,h.e3,h.Gf,h.et,h.e4,h.e5,h.e6⟩
structure aaw c9 nY nX:Prop where
 a:nsIn K mainGlobals x=Wq C
 aE9:aO (plainGet K C Str.empty)
 hd:aO (hasDictIn K C)
 po:aO (plainOver K C)
 sa:aiU (Δ C) "__setattr__" = aAT fG
def aaw.cl(h:aaw K x C):Bp K C:=⟨h.aE9,h.hd,h.po,h.sa⟩
def aaw.fd(h:aaw K x C)G!(n:aiU (Δ C) f=MN):Oe K C f:=⟨h.cl,n⟩
universe zE
structure aod where
 P:Program
 w:World
 K:fh
 mg:Str->gK
 base:Heap
noncomputable abbrev Fn(z:aod):=zc z.P z.w z.K z.mg z.base
noncomputable abbrev ant(z:aod):=Kt z.P z.w z.K z.mg z.base
noncomputable abbrev In(z:aod):=s9 z.P z.w z.K z.mg z.base
section
variable {P:Program}{w:World}{K:fh}{mg:Str->gK}{base:Heap}{x m q:Str}{st:Stmt}{N ps:gM}{k j n:Nat}{d:cR}{C:Addr}{g:D1}
def bD{sc:Scope}(a:sc.kind=ID:=by rfl)(b:aO3:=by rfl)(c:aO4:=by rfl)(d:N.Nodup:=by rw[ò])(e:N.take ps.length=ps:=by rfl)
  (f:∀x∈ps,B9=Cp \/ B9=pJ:=by rw[ò])(g:∀y∈sc.names,y.2≠AK:=by rw[ò]):agM N ps sc:=⟨a,b,c,d,e,f,g⟩
def zc.go azE
  (hb:∀aof UA,r5 (ä x f)->Good (Lm x) (λ_=>E) →
   â (Lm x) (λ_=>E) d):Sk P w K mg (k+1) x ps.length (Mx d):=zc.of D S λf gm A outer s H E hr=>hb f gm A outer s H E hr (amK S hr)
def Kt.go aMX
  aMC:Kt P w K mg base (k+1) C m ps.length (Mx d):=Kt.of D S λf gm A outer s H E hr=>hb f gm A outer s H E hr (amK S hr)
def s9.go aNu
  aMC:s9 P w K mg base (k+1) x C ps.length (Mx d):=s9.of D S λf gm A outer s H E hr=>hb f gm A outer s H E hr (amK S hr)
def a3C aoU(F:QR K x q st f fd)afA
  (hb:∀(gm:Value)UA,r5 (ä q f)->Good (Lm q) (λ_=>E) →
   â (Lm q) (λ_=>E) d):rJ P w K mg base (l6 P w) (k+1) f fd ps (Bu K ps.length (Mx d)):=amZ F S λgm A outer s H E hr=>hb gm A outer s H E hr (amK S hr)
def zc.up aMU azV:Sk P w K mg k x n g:=Ą
def Kt.up aNg azV:Kt P w K mg base k C m n g:=Ą
def s9.up aNh azV:s9 P w K mg base k x C n g:=Ą
universe zE
universe L2
universe zE
section
namespace Hd
open PySem PySem.Spec PyProof.Rows PySem.W L2
section
variable {K:fh}{l:List gy}{e:gy}
def Sat.at(h:Sat K l)iw(hi:jz l e):e.1 K=e.2:=h _ aOd
def aeK{f:ow fh}(h:(eb f).1 K=(eb f).2):aO (f K):=by
 have h':DU.b (aY (f K))=DU.b uB:=h;injection h' with h1;injection h1
def ank{f:yT fh Bool}{v:as9}(h:(lZ f v).1 K=(lZ f v).2):f K=v:=by
 have h':DU.b (f K)=DU.b v:=h;injection h'
def TV{f:fh->Wr}{v:Wr}(h:(ev f v).1 K=(ev f v).2):f K=v:=by
 have h':DU.v (f K)=DU.v v:=h;injection h'
def a3D{g:fh->Wr}{x q:Str}G4(h:(bx g x q st).1 K=(bx g x q st).2):FnAt K (g K) x q st:=by
 have h':DU.f (ayG K (g K) q)=DU.f (ql (PySem.W.fnOf x q (Kn st) (Gh st) (aw st) cP cP cP cP none cP cP) true):=h
 injection h' with h1;unfold ayG at h1;split at h1
 ·rename_i f hf;split at h1
  ·rename_i a1 a2 fd a4 hl;injection h1 with h2;injection h2 with h3 h4;rw[aqJ Bool.and_eq_true h4];obtain⟨⟨h5,h6⟩,Ze⟩:=h4;obtain⟨n1,n2,n3,n4,a9a,a9b,Ti,a9c,a9d,a84,a85,a86,a87,a88,a89⟩:=fd;simp only[PySem.W.fnOf,FuncData.mk.injEq]at h3;obtain⟨rfl,rfl,rfl,rfl,rfl,rfl,rfl,rfl,_,_,_,_,_,_,rfl⟩:=h3;exact .mk hf hl h5 h6 Ze
  ·cases h1
 ·cases h1
def a3E eo qR(h:Sat K (Uo x C)):an5 K x C:=
 ⟨TV (yM 0),TV (yM 1),TV (yM 2),TV (yM 3),ank (yM 4),ank (yM 5),aeK (yM 6),TV (yM 7),ank (yM 8)⟩
def a3F eo qR(h:Sat K (ak7 x C)):aaw K x C:=
 ⟨TV (yM 0),aeK (yM 1),aeK (yM 2),aeK (yM 3),TV (yM 4)⟩
variable {L:LC (List gy)}{g:List gy}
def All.at UU(hi:jz L g):Sat K g:=h _ aOd
def All.b UU{f:ow fh}(hi:jz L [eb f]):aO (f K):=aeK ((abd i).at 0 rfl)
def All.o UU{f:yT fh Bool}{v:as9}(hi:jz L [lZ f v]):f K=v:=ank ((abd i).at 0 rfl)
def All.v UU{f:fh->Wr}{v:Wr}(hi:jz L [ev f v]):f K=v:=TV ((abd i).at 0 rfl)
def All.f UU{g:fh->Wr}{x q:Str}G4(hi:jz L [bx g x q st]):FnAt K (g K) x q st:=a3D ((abd i).at 0 rfl)
def All.x UU eo qR(hi:z! L i (Uo x C)):an5 K x C:=a3E (abd i)
def All.c UU eo qR(hi:z! L i (ak7 x C)):aaw K x C:=a3F (abd i)
universe zE
def a2r{l:PySem.W.OpenLaw}{n k:Nat}{q:Program}aNb{d:DefRec}{fR:World->tf}{sp:fh->xr}eo{as:cY}{L:LC (List gy)}
  azK(KR:jK n)aNw(hr:r5 callerA)
  (F:∀(w:World)(mg:Str->gK)(fa:Addr)BD c9,K.In h->All L K->h.Ns mainGlobals mg->mg d.name=n7 fa →
   ∃fd:FuncData,(∀lu G6,BindsTo s fd (sD [u]) [(x,u)]) ∧
    ∀base:Heap,auc->arc mg->rJ l.prog w K mg base (fR w) k fa fd [x] (sp K))
  (O4:∀c9 Px BG,asK n->aza H->iI K H a IB->sp K [Δ a] H (λv _=>v=ju .ai) λ_ _ _=>False)
  (aEt:∀(w:World)jX lu aoM,fR w [] H s (λ_ _ _=>False) e s'->False):
  PySem.W.WalkO q loose XP (hook as L).says l.row.toRowW d [] (λf vs=>PySem.call f vs):=by
 refine aGP.aTM hn hdf λw s₀ s₁ mg mb fa o pm cd doc a vs ns G Y ho hd zB Ut ay9 hints hlen hg=>?_;rw[E8 K iu hK Y fd hb hF (F w mg fa _ K iu hK G.T.g Ut)];exact QQ iu G.T.g G.T.b G.T.builtins G.T.nolimit hg ay9 hints (Nat.le_trans hlen KR) hr hF hb (λH hO hS=>O4 K H a ns hlen hO hS) λH e s'=>aEt w H s₁ e s'
universe Hd
universe zE
section
namespace Sb
open PySem L2
inductive fj where
 |pl(j k:Int)
 |pt(t s b:Int)
abbrev fj.js:fj->fD
 |.pl j k=>[j,k]
 |.pt t s b=>[t,s,b]
abbrev fj.enc:fj->aj
 |.pl j k=>aQ [X?,η j,η k]
 |.pt t s b=>aQ [X7,η t,η s,η b]
noncomputable abbrev alG:=List fj
noncomputable abbrev bj jY:aj:=ς asf
noncomputable abbrev aaA:=Int×Nat
abbrev e9(s:aaA):aj:=aQ [η s.1,η s.2]
noncomputable abbrev df(ss:BN):aj:=ς (ss.map e9)
noncomputable abbrev rC:=Nat×Int×Int
abbrev bk m8:aj:=aQ [η s.1,η s.2.1,η s.2.2]
noncomputable abbrev cv l!:aj:=ς Mk
noncomputable abbrev ae4:=Nat×gV
abbrev GC(r:ae4):aj:=aQ [η r.1,cv r.2]
noncomputable abbrev A7(rs:xH):aj:=ς (rs.map GC)
abbrev bl:fF->aj
 |none=>.ah
 |some n=>η n
noncomputable abbrev hV BG:aj:=ς Ù
noncomputable abbrev bX(ns:eG):aj:=ς (ns.map (Nn (n:Nat)))
abbrev fj.at jY dj:fj:=ps.getD n (.pl 0 0)
abbrev beyond jY xD r3:fF:=(Aq).find? λk=>iY (k≠a)&&mw j (eH k).js
abbrev zx rZ r3:fD:=match p with
 |.pl a b=>[a,b].filter (qu o o j)
 |.pt t s b=>if j=t then[s,b] else[t]
def anl(s:aaA):zS (e9 s):=by
 rw[VH y hy hy];rcases hy with rfl | rfl<;>exact mS _
def amX(a b:aaA)(h:e9 a=e9 b):a=b:=by
 rw[Ve a1 a2 a b1 b2 b];simp[e9]at h;rw[yg h];subst h1
 have:a2=b2:=aD
 subst this;rfl
@[simp] def a0a qQ UN br{ss:BN}cw:JX (aQ [η j,η n]) nI=.ok (.ai (PR (j,n) ss (j,n) ss)) M:=by
 rw[F3 (JX (e9 (j,n)) _=_) (Kl (enc:=e9) anl amX (a:=(j,n)) pv)]
@[simp] def Zp rZ dF:Dm agd M=.ok (hV p.js) M:=by cases p<;>rfl
@[simp] def a8A cw:PZ X? X? M=.ok (ju .ai) M:=cS
@[simp] def a8B cw:PZ X7 X? M=.ok (qa .ai) M:=cS
@[simp] def a8x cw:PZ X? X7 M=.ok (qa .ai) M:=cS
@[simp] def a8y cw:PZ X7 X7 M=.ok (ju .ai) M:=cS
def aeq d5 gW gX cw(h:zW):ajN xs i=.ok x M:=by
 have hl:JN:=LJ.1;simp only[eT,aW3,u5,Bm];rw[BW,BW];simp[h]
def Dq d5 gW gX cw(h:zW):ajM xs i=.ok x M:=by
 have hl:JN:=LJ.1;simp only[eT,pv,u5,Bm];rw[BW,BW];simp[h]
@[simp] def zm gX Pz:ajN (x::xs) 0=.ok x M:=aeq (i:=0) rfl
@[simp] def aeL aa7 Pz:ajN (x::y::xs) 1=.ok y M:=aeq (i:=1) rfl
@[simp] def aai{x y z:aj}Pz:ajN (x::y::z::xs) 2=.ok z M:=aeq (i:=2) rfl
@[simp] def a3G{x y z u:aj}Pz:ajN (x::y::z::u::xs) 3=.ok u M:=aeq (i:=3) rfl
@[simp] def cc Pz(h:akG):Mi xs M=.ok (ς xs) M:=fL (e! h)
def Zr rZ PA:alz Dm [p.enc,η j] M=.ok (hV (zx p j)) M:=by
 cases p with
 |pl a b=>
  have e:=Zp (.pl a b) M;simp only[fj.enc]at e;rw[arB alz Dp];simp;rw[VQ [a,b] w M aj.int (qu o o j) aj.int (j8 [y,yp]) (by simp[e];rfl) (nu x) (e! (show 2≤3 by decide))]
  ·rw[cC (cc (by rw[Ab (acd (show tR 2 by decide))]))]
  ·rw[abl y hρ (t8 _ lT Θ (JE _))]
 |pt t s b=>
  rw[arB alz Dp];simp;by_cases h:j=t<;>simp[h,zx]
def va xB br(h:qk n):z! ps n (eH n):=by
 unfold fj.at;rw[apU h];rfl
def ayh xB br(h:qk n):eH n∈ps:=aBF (va h)
def OE xB br cw(h:qk n):zX h! n=.ok (eH n).enc M:=Dq (by rw[gI,va h];rfl)
abbrev DV jY r3:eG:=AI Aq (HQ k j (eH k).js)
def aXK jY:Ks asf=(Aq).map λk=>aQ [η k,(eH k).enc]:=by
 refine aqb i
 unfold Ks;rw[gI,List.getElem?_zipIdx,gI,gI];rw[jt (qk i)]
 ·rw[va h,aBM];simp
 ·rw[abm,E4 (by rw[fH])];rfl
def aHB br(h:tR n):gE sO lim:=by
 rw[aBP h]
def Tf jY PA(hl:EE):Zk Dm [h!,η j] M=.ok (bX (DV ps j)) M:=by
 simp only[Zk,Dp];simp;rw[yY (xs:=Aq) (w:=none) (M':=M) (λk=>aQ [η k,(eH k).enc]) (HQ k j (eH k).js) (fun(k:Nat)=>η k) (λρ=>∃y z,ρ=[y,z,yp]) ?_ trivial (jy none none) (nu x) (aHB hl)]
 ·rw[cC (cc (by rw[Ab (acd (by rw[au List.length_range hl]))]))]
 ·unfold alv;simp[aXK]
 ·rw[U_ y z rfl hρ (t8 _ (xQ _) Θ (JE _))]
def Y! jY dj PA(hl:EE):alD (Zk Dm) [h!,η n,η j] M=.ok (bl (B? n j)) M:=by
 have loop:∀(xs:eG)(y:qW),lz (Bh none (bP 3) (AH (pD (fi true) az) (wM bw)) (xs.map (Nn (n:Nat)))) (d? (dC .ah)) [qo,dh n,yp,y] M=.eO (bl (xs.find? (qu k k n))) M:=by
  intro xs
  induction xs with
  |nil=>rw[acq y]
  |cons x xs ih=>
   intro y;rw[jt (x=n)]
   ·subst h;have:=ih aV;simp[Bh]at this⊢;rw[zV]
   ·have h':¬aS x=n:=aD
    simp[Bh,h,h',bl]
 simp only[alD,Dp];have:=loop (DV ps j) none;simp only[aZ6]at this⊢;rw[fy (aZ8 (w:=none) (M':=M) (ig (by rw[Ab (Tf ps j M hl)])) trivial)];rw[ź];rw[this];simp[DV,beyond,Bool.and_comm]
universe Sb
universe zE
section
namespace Sb
open PySem L2
def a2s br m8:pg (bk s):=atC (by
 rw[HB hx];rcases hx with rfl | rfl | rfl<;>simp)
def ayH br l!:pg (cv w):=axD (yX (by
 rw[XZ s hx (a2s s)]))
def a3H br(r:ae4):pg (GC r):=atC (by
 rw[HB hx];rcases hx with rfl | rfl
 ·simp
 ·exact ayH _)
def amz br gA aaJ(h:∀a,pg Em)(as:qU):pg (ς VL):=axD (yX (by
 rw[XZ a hx (h a)]))
abbrev aRa zM:C9 gV (Int->p! (LC gV))
 |0,_,_,_=>[]
 |n+1,way,j,a=>if a∈SN then[] else(zx (eH a) j).flatMap λo=>match AM o with
  |none=>[way++[(a,j,o)]]
  |nh=>if(o,b)∈ss then[way++[(a,j,o)]] else RK n (way++[(a,j,o)]) o b
def awP rZ r3:gE (zx p j) 2:=by
 cases p with
 |pl a b=>exact FL
 |pt t s b=>rw[sf zx];split<;>simp
def adu xB af0 UN(h:AM j=nh):qk b/\b≠a/\j∈(eH b).js:=by
 rw[qs beyond];rw[mG (List.mem_of_find?_eq_some h) (List.find?_some h)];simp at h1 h2;rw[bQ h1 h2.1 h2.2]
def ZO rW{f:α->akn}d6:∀UD,(Mg x (gE (f x) k))->gE (xs.flatMap f) (xs.length*k)
 |[],_=>Θ
 |x::xs,h=>by
  rw[mG (h x Θ) (ZO xs (A0 (h y (aK hy))))];rw[List.flatMap_cons,List.length_append,zE,Nat.succ_mul];omega
abbrev A9 zM aoi r3 xD(o:Int):LC gV:=match AM o with
  |none=>[way++[(a,j,o)]]
  |nh=>if(o,b)∈ss then[way++[(a,j,o)]] else RK n (way++[(a,j,o)]) o b
def adn zM aoi r3 xD:Yc (n+1) j a=if a∈SN then[] else(zx (eH a) j).flatMap (A9 ps ss n way j a):=rfl
def adv zM:∀aoi r3 xD,gE (Yc n j a) (2 ^ n)
 |0,way,j,a=>q4
 |n+1,way,j,a=>by
  rw[adn];split
  ·simp
  ·have h:∀o∈zx (eH a) j,gE (A9 ps ss n way j a o) (2 ^ n):=λo _=>by
    have:=aOf n;unfold A9;split
    ·rw[zV]
    ·split
     ·rw[zV]
     ·exact adv ps ss n _ _ _
   rw[mG (ZO _ h) (Nat.mul_le_mul_right (2 ^ n) (awP (eH a) j))];rw[n? Nat.pow_succ]
def awx zM aoi r3 xD(o:Int):gE (A9 ps ss n way j a o) (2 ^ n):=by
 have:=aOf n;unfold A9;split
 ·rw[zV]
 ·split
  ·rw[zV]
  ·exact adv ps ss n _ _ _
def aI1 br(h:n≤20):2 ^ n≤1048576:=Nat.pow_le_pow_right aZ h
structure OA jY(way:gV)xD:Prop where
 eY:Vj 16
 lt:qk a
 nd:ic SN
 all:ng way (qk s.1)
def OA.step xB{way:gV}af0{j o:Int}(h:OA ps way a)(ha:a∉SN)(hb:AM o=nh):OA ps (way++[(a,j,o)]) b:=by
 refine⟨h.eY,(adu hb).1,?_,AR⟩
 ·rw[aNW];rw[eV h.nd Θ (je x hx y hy)];rw[Ma hy hy];rintro rfl;exact ha hx
 ·rcases aBK with hs | hs
  ·exact h.all s hs
  ·rw[ń hs hs h.lt]
def Zz:∀br{xs:eG},xs.Nodup->(Mg x (x<n))->Fb n
 |0,xs,_,hl=>by
  cases xs with
  |nil=>simp
  |cons x xs=>rw[pn (hl x Θ) aD]
 |n+1,xs,h,hl=>by
  rw[bJ h1 (ic (xs.erase n)) (h.erase n) h2 (∀x∈xs.erase n,x<n) (yX (by
   rw[fu h3 (hl x (List.mem_of_mem_erase hx)) h4 (x≠n) (dW (by subst e;exact(h.not_mem_erase) hx))]
   omega))]
  rw[cF h3 (Zz h1 h2) h4 (List.length_erase_le (a:=n) (l:=xs))];by_cases hm:n∈xs
  ·rw[List.length_erase_of_mem hm]at h3;omega
  ·rw[List.erase_of_not_mem hm]at h3;omega
def OA.len xB{way:gV}{a:Nat}(h:OA ps way a):agV way.length:=by
 rw[Qe (Zz h.nd (yX (by
  rw[wu s hs hx (h.all s hs)])))]
abbrev anm dj cZ:Prop:=∀ps ss way j a M,OA ps way a->ps.length+1≤way.length+n->n≤20->g [h!,nI,cv way,η j,η a] M=.ok (ς ((Yc n j a).map cv)) M
def aJ4{way:gV}{a:Nat}cw:Ć (η a) (ς (aB4 s s.1)) M=.ok (.ai (mw a SN)) M:=by
 have e:(aB4 s s.1)=(way.map λs=>aS (s.1:Nat)).map aj.int:=Θ
 rw[e,amq]
 have:(aS a∈way.map λs=>aS (s.1:Nat))↔a∈SN:=by
  simp only[List.mem_map];constructor
  ·rintro⟨s,hs,h⟩;rw[bQ s hs aD]
  ·rintro⟨s,hs,h⟩;rw[bQ s hs aD]
 simp only[this];rfl
def aJ5 p7{way:gV}iw(h:rj i aj2)(hl:tR way.length):YA (b5 (ae i)) ρ M=.ok (ς (aB4 s s.1)) M:=by
 rw[JV way M bk (CR s s) (j8 [y]) (ig (vY h)) (nu x) Rd]
 ·rw[C0 _ _,cc (by rw[ni hl])]
 ·rw[WL y _ _ _ Na]
def a2t br Eb(h:anm n g):anm (n+1) (Am (aRN (alz Dm) (alD (Zk Dm)) g)):=by
 intro ps ss way j a M ok hn KR;rw[i6 hl ok.len hf ok.eY (My (amz ayH _))];refine RP P r (∃G,r=.ok _ (M++G));simp only[bB,zD,zE,gx,Nat.zero_add,Nat.reduceAdd,Nat.reduceSub,List.replicate,f9,fz]
 rw[vL l8 (sQ (QA bI (F0 (b5 aI))) [qo,EC,aj2,yp,dh a,none,none,none,none] M=.ok (mw a SN) M) (by
  simp only[dD,ao,av,aX,aW,ag];rw[aJ5 (way:=way) 2 rfl aD];rw[wD aJ4]) (Ĉ _ _ l8 (dJ ha) ha)]
 ·rw[aqc GV ha (bp (ς []) M Θ (cx (fS (lR []))))];rw[FP adn GV];simp
 ·rw[dm GV (of_decide_eq_false ha) (dy (gN (X5 (M++[ς []]))))];rw[wG (kC aj.int (z4 (∃y6 y7 y8,ρ=[qo,EC,aj2,yp,dh a,iZ,y6,y7,y8]/\M'=M++[ς ((ny).map cv)])) (zx (eH a) j) none _
   (ig (gh (OE ok.lt) Zr)) trivial (akD none none none) ?_ ?_)]
  ·rintro pre o post hx ρ M' ⟨y6,y7,y8,rfl,rfl⟩
   have i!:gE ny (2*2 ^ n):=by
    rw[fu h1 (ZO pre λo _=>awx ps ss n way j a o) h2 (arE 2) (by
     have:=awP (eH a) j;rw[pG hx this this];omega)]
    exact LD h1 (Nat.mul_le_mul_right _ h2)
   rw[ahU wb (awx ps ss n way j a o) zF (aI1 (n:=n) aD) (wo _)];rw[wz (cv (way++[(a,j,o)])) (M++[ς ((ny).map cv)]) (by simp[bk];rw[cc (by rw[fH])];simp[bk])]
   rw[wz (bl (AM o)) (M++[ς ((ny).map cv)]) (aK (Y! _ _ _ _ (show EE by omega)))]
   rw[d8];rw[aqF eP];cases hb:AM o with
   |none=>
    refine OQ (M++[ς ((ny).map cv)]) (Yk bl gw Kq) (lX .ah (M++[ς ((ny++[way++[(a,j,o)]]).map cv)]) (by simp[sS,l7,lim,-List.length_flatMap];omega) (j4 (JB _ _ ?_)));simp[A9,hb]
   |some b=>
    refine Ĉ (mw (o,b) ss) (M++[ς ((ny).map cv)]) (Yk bl gw Kq) (dJ hs) hs
    ·rw[aqc gG hs (lX .ah (M++[ς ((ny++[way++[(a,j,o)]]).map cv)]) (by simp[sS,l7,lim,-List.length_flatMap];omega) (j4 (JB _ _ ?_)))];simp[A9,hb,gG]
    ·rw[cF gG (of_decide_eq_false hs) hg (h ps ss (way++[(a,j,o)]) o b (M++[ς ((ny).map cv)]) (ok.step GV hb) (by rw[fH]) aD)];simp only[A9,hb,if_neg gG]at wb⊢;refine CK .ah (M++[ς ((ny++RK n (way++[(a,j,o)]) o b).map cv)]) (j4 (JB _ _ rfl));simp[bl,amJ,l7]at hg⊢;rw[hg];simp[lim,-List.length_flatMap];omega
  ·rw[Ic M' y6 y7 y8 rfl rfl];refine Ő (ς ((Yc (n+1) j a).map cv)) (M++I?) ajO;rw[adn,if_neg GV];simp[DJ]
universe Sb
universe zE
end
mutual
section
namespace Sb
open PySem L2
def a5n dj:qM 0 n=JI (sO).map:=by
 rw[jw qM (E5 k _)];simp
def aSi gB p7 aMZ(hn:n≤100000):jG [d] ρ M=.ok (JI (sO).map,none) M:=by
 have e:CZ [d] M=.ok [η n] M:=by rw[aJ,h];rfl
 rw[MD jG e ag]
 have aEs:aBi (aS 2 ^ 62):=aCY
 rw[aEs,if_pos Ų,Int.toNat_natCast,a5n]
def amg rZ dF:tu false p.enc sC none M=.ok (aQ (p.js.map η)) M:=by cases p<;>rfl
def pd rZ PA:av4 [p.enc,η j] M=.ok (hV (zx p j)) M:=by
 cases p with
 |pl a b=>
  rw[arB av4 Dp];simp;rw[VQ [a,b] w M aj.int (qu o o j) aj.int (j8 [y,yp]) (aJ3 (amg (.pl a b) M)) (nu x) (e! (show 2≤3 by decide))]
  ·rw[cC (cc (by rw[Ab (acd (show tR 2 by decide))]))]
  ·rw[abl y hρ (t8 _ lT Θ (JE _))]
 |pt t s b=>
  rw[arB av4 Dp];simp;by_cases h:j=t<;>simp[h,zx]
def Te jY dj PA(hl:EE):avQ [h!,η n,η j] M=.ok (bl (B? n j)) M:=by
 rw[NO avQ P r (r=.ok (bl (B? n j)) M) (rm (bX (akj Aq k (iY (k≠n)&&mw j (eH k).js))) M)]
 ·rw[yY (xs:=Aq) (w:=none) (M':=M) (jJ (k:Nat) k) (λk=>iY (k≠n)&&mw j (eH k).js) (jJ (k:Nat) k) (j8 [y,dh n,yp,qo])
   (XK (aK fM)) trivial (gg none) (U9 x hx) (aHB hl)]
  ·rw[cc (by rw[ni (acd (by rw[au List.length_range hl]))])]
  ·rw[uo y hρ];rw[t7 hx' (qk x) (List.mem_range.mp hx) (t8 _ lT ?_ (JE _))];rw[lE (x=n)]
   ·simp[e]
   ·have e':¬aS x=n:=aD
    simp[e,e',OE hx',amg]
 ·rw[um (yl (bl (B? n j)))]
  have hb:B? n j=(akj Aq k (iY (k≠n)&&mw j (eH k).js)).head?:=by
   rw[dz beyond List.head?_filter]
  cases e:(akj Aq k (iY (k≠n)&&mw j (eH k).js)) with
  |nil=>rw[hb,e];simp[fO,bl]
  |cons x xs=>
   rw[hb,e];simp[fO,bl];exact FA
abbrev ano dj cZ:Prop:=∀ps ss way j a M,OA ps way a->ps.length+1≤way.length+n->n≤20->g [h!,nI,cv way,η a,η j] M=.ok (ς ((Yc n j a).map cv)) M
abbrev a0b cZ:Prop:=∀rZ PA,g [fj.enc p,η j] M=.ok (hV (zx p j)) M
abbrev aFg cZ:Prop:=∀jY dj PA,EE->g [h!,η n,η j] M=.ok (bl (B? n j)) M
def a2u br{go bN g:D1}(ho:a0b go)(KP:aFg bN)(h:ano n g):ano (n+1) (Am (aFO go bN g)):=by
 intro ps ss way j a M ok hn KR;rw[i6 hl ok.len hf ok.eY (My (amz ayH _))];rw[NO aFO P r (∃G,r=.ok _ (M++G)) (X5 (M++[ς []]))];rw[d8]
 rw[cV l8 (sQ (pD (jj false) (F0 (b5 aI))) [qo,EC,aj2,dh a,yp,iZ,none,none,none] (M++[ς []])=.ok (mw a SN) (M++[ς []])) (by
  simp only[dD,ao,av,aX,aW,ag];rw[aJ5 (way:=way) 2 rfl aD];rw[wD aJ4]) (cj (Ĉ _ _ l8 (dJ ha) ha))]
 ·rw[aqc GV ha (bp (ς []) (M++I?) (aK DJ) (cx (fS (lR I?))))];rw[FP adn GV];simp
 ·rw[dm GV (of_decide_eq_false ha) (dy (qY (kC aj.int (z4 (∃y6 y7 y8 G,ρ=[qo,EC,aj2,dh a,yp,iz (uf M G),y6,y7,y8]/\M'=(M++G)++[ς ((ny).map cv)])) (zx (eH a) j) none (M++[ς []])
   (ig (gh (OE ok.lt) (ho (eH a) j))) trivial ⟨none,none,none,[],Θ,Θ⟩ ?_ ?_)))]
  ·rintro pre o post hx ρ M' ⟨y6,y7,y8,G,rfl,rfl⟩
   have i!:gE ny (2*2 ^ n):=by
    rw[fu h1 (ZO pre λo _=>awx ps ss n way j a o) h2 (arE 2) (by
     have:=awP (eH a) j;rw[pG hx this this];omega)]
    exact LD h1 (Nat.mul_le_mul_right _ h2)
   rw[ahU wb (awx ps ss n way j a o) zF (aI1 (n:=n) aD) (wo _)];generalize GW:M++G=aa
   rw[wz (cv (way++[(a,j,o)])) (aa++[ς ((ny).map cv)]) (by simp[bk];rw[cc (by rw[fH])];simp[bk])]
   rw[wz (bl (AM o)) (aa++[ς ((ny).map cv)]) (aK (KP ps a o _ aD))]
   rw[d8];rw[aqF eP];cases hb:AM o with
   |none=>
    refine OQ (aa++[ς ((ny).map cv)]) (Yk bl gw Kq) (lX .ah (aa++[ς ((ny++[way++[(a,j,o)]]).map cv)]) (by simp[sS,l7,lim,-List.length_flatMap];omega) (j4 ⟨_,_,_,G,lQ GW,?_⟩));simp[A9,hb,GW]
   |some b=>
    refine Ĉ (mw (o,b) ss) (aa++[ς ((ny).map cv)]) (Yk bl gw Kq) (dJ hs) hs
    ·rw[aqc gG hs (lX .ah (aa++[ς ((ny++[way++[(a,j,o)]]).map cv)]) (by simp[sS,l7,lim,-List.length_flatMap];omega) (j4 ⟨_,_,_,G,lQ GW,?_⟩))];simp[A9,hb,gG,GW]
    ·rw[cF gG (of_decide_eq_false hs) hg (h ps ss (way++[(a,j,o)]) o b (aa++[ς ((ny).map cv)]) (ok.step GV hb) (by rw[fH]) aD)]
     simp only[A9,hb,if_neg gG]at wb⊢;refine Ku (ο (aa.length+1)) ((aa++[ς ((ny).map cv)])++[ς ((ny++RK n (way++[(a,j,o)]) o b).map cv)]) ?_ (j4 ⟨dh o,MF (way++[(a,j,o)]),Xa nh,G++[ς ((ny).map cv)],?_,?_⟩)
     ·simp[bl]at hg⊢;rw[hg];simp[wU];rw[fy (ml (by simp[lim,-List.length_flatMap];omega))]
     ·rw[←List.append_assoc,GW];simp
     ·rw[←List.append_assoc,GW]
  ·rintro ρ' M' ⟨y6,y7,y8,G,rfl,rfl⟩;refine Ő (ς ((Yc (n+1) j a).map cv)) (M++G++I?) (fS ⟨G++I?,aNV⟩);rw[adn,if_neg GV];generalize M++G=aa;simp[DJ]
universe Sb
universe zE
section
namespace L2
open PySem
def aGQ gA [BEq α] [LawfulBEq α] aaJ azU az4 cw:countP (ς VL) [Em] M=.ok (η (as.count a)) M:=by
 rw[sf countP];rw[Io (PN _ (hp a)) Kf]
 rw[j3 (To (g:=WT) λz hz=>by
  rw[XZ b hz (PN _ (hp b))])]
 have:((VL).map WT).countP (zR q q (l0 deep Em))=as.count a:=by
  rw[List.countP_map,List.countP_map];rw[jw List.count (List.countP_congr (c! b _))];rw[su Function.comp (aes deep _ _ (hp b) (hp a))];simp only[beq_iff_eq];rw[Ac (dW (inj _ _ e)) e (lQ e)]
 rw[this]
def a54{i j:Nat}aa7{ρ:ej}:mR 2 (k6 (bP i) (oG j)) (aQ [x,y]) ρ=sq (EU i).set j C!:=rfl
universe L2
namespace Sb
open PySem L2
structure aRb zM:Prop where
 ayI:agV 1
 eY:Vj 16
 qM:fT ps (∀j∈p.js,0≤j/\j≤999)
 once:agX ps
 two:∀j,gE (DV ps j) 2
 Bk:aDr 16
 nd:ss.Nodup
 sg:ng ss (qk s.2/\s.1∈(eH s.2).js)
abbrev a0c cZ:Prop:=∀jY PA,EE->g [h!,η j] M=.ok (bX (DV ps j)) M
abbrev axE cZ:Prop:=∀rZ dF,g agd M=.ok (hV p.js) M
abbrev Oo cZ vf:Prop:=∀M,g xs M=.ok .ah M
def acR tL{dM:D1}(hp:a0c dM)xB(hl:EE)(h2:∀j,gE (DV ps j) 2){js:fD}(hr:∀j∈js,0≤j/\j≤999)(hn:js.Nodup):Oo (avs c dM) [h!,hV js]:=by
 intro M;rw[NO avs P r (r=.ok .ah M) (CE aj.int (∃y2,ρ=[qo,Mt js,y2]/\M'=M) js M (ig rfl) (PV none))]
 ·rintro pre j post hx ρ M' ⟨y2,rfl,rfl⟩
  have hj:j∈js:=by rw[n!]
  rw[Fj r1 r2 (hr j hj) hc (js.count j≤1) (List.nodup_iff_count.mp hn j)];refine wo _;rw[wG (RW (dy (qY (RW (dy (gN (RW (dy (aur _)))))))))]
  ·simp[u6,tg];rw[Ö];simp[r2]
  ·simp[tg,aGQ (enc:=aj.int) (λa=>mS a) (λa b e=>by cases e;rfl)];omega
  ·simp[hp ps j _ hl,fM,tg];rw[eg (h2 j)]
 ·rintro ρ' M' ⟨y2,rfl,rfl⟩;exact Q?
def acQ tL{bK alg:D1}UX(hc:fT ps (Oo bK [h!,hV p.js]))(hj:axE alg):Oo (avr c bK alg) [h!]:=by
 intro M;rw[Vf avr P r (r=.ok .ah M) ?_ bB zD zE gx f9 fz];rw[i6 h1 hg.ayI h2 hg.eY (cj (tI M ?_ (dy (qY (tI M ?_ I0)))))]
 ·simp[fM];intro h;rw[pG h h1 h1]
 ·simp[fM,tg];omega
 refine CE fj.enc (∃y2,ρ=[qo,y2]/\M'=M) ps M (ig rfl) (PV none)
 ·rintro pre p post hx ρ M' ⟨y2,rfl,rfl⟩;refine wo _;rw[um (CK .ah M' (aur _))];simp[hj p,hc p (by rw[n!]) M']
 ·rintro ρ' M' ⟨y2,rfl,rfl⟩;exact Q?
def acV tL{alg:D1}UX(hj:axE alg):Oo (avn c alg) [h!,nI]:=by
 intro M;rw[Vf avn P r (r=.ok .ah M) ?_ bB zD zE gx f9 fz];rw[q8 h1 hg.Bk (tI M ?_ I0)]
 ·simp[fM,tg];omega
 refine CE e9 (∃y2 y3,ρ=[qo,EC,y2,y3]/\M'=M) ss M (ig rfl) (ER none none)
 ·rintro pre s post hx ρ M' ⟨y2,y3,rfl,rfl⟩
  have hs:s∈ss:=by rw[n!]
  rw[Fj r1 r2 (hg.sg s hs) hc (ss.count s≤1) (List.nodup_iff_count.mp hg.nd s)];have alm:=aGQ (enc:=e9) anl amX (a:=s) (as:=ss) (M:=M');rw[aie j n s _];rw[wG (RW (dy (qY (RW (dy (gN (RW (dy (j4 (ER _ _))))))))))]
  ·simp[e9]at alm⊢;rw[alm];simp[tg];omega
  ·dsimp only at r1;simp[u6,alf,fM];rw[Ö];rw[fH]
  ·simp[OE r1,hj (eH n)];exact r2
 ·rw[QG M' y2 y3 rfl rfl];exact Q?
def ada{dM gs:D1}aa7(hp:Oo dM [x])(hs:Oo gs [x,y]):Oo (mn dM gs) [x,y]:=by
 intro M;rw[nv mn r (r=.ok .ah M)];exact cj (lX .ah M (aK (hp M)) (gN (lX .ah M (aK (hs M)) Q?)))
universe Sb
universe zE
section
namespace Sb
open PySem L2
abbrev kY(ss:BN)o8:aaA:=ss.getD k (0,0)
def amA{ss:BN}br(h:Ş n):z! ss n (kY ss n):=by
 unfold kY;rw[apU h];rfl
def Z_{ss:BN}br(h:Ş n):kY ss n∈ss:=aBF (amA h)
def TX{ss:BN}br cw(h:Ş n):zX nI n=.ok (e9 (kY ss n)) M:=Dq (by rw[gI,amA h];rfl)
abbrev fuel:Nat:=17
abbrev ZV zM o8:xH:=(RK fuel [] (kY ss k).1 (kY ss k).2).map λw=>(k,w)
abbrev ak5 zM:xH:=(age).flatMap (ZV ps ss)
def a0d(ss:BN):Ks (ss.map e9)=(age).map λk=>aQ [η k,e9 (kY ss k)]:=by
 refine aqb i
 unfold Ks;rw[gI,List.getElem?_zipIdx,gI,gI];rw[jt (Ş i)]
 ·rw[amA h,aBM];simp
 ·rw[abm,E4 (by rw[fH])];rfl
def vb zM o8:gE (ZV ps ss k) 131072:=by
 rw[jL ZV d9 (adv ps ss fuel _ _ _)]
def aD2 UX d6(hk:Ş k):OA ps [] (kY ss k).2:=⟨hg.eY,(hg.sg _ (Z_ hk)).1,Θ,Θ⟩
abbrev aE7 cZ:Prop:=∀ps ss M,R!->g [h!,nI] M=.ok (A7 uH) M
def a2v br(rs:xH):pg (A7 rs):=amz a3H rs
def adw br{pre post:eG}aM0:k<n/\pre.length<n:=by
 rw[Jj h1 (k∈sO) (by rw[fy h]) h2 (À h)];simp at h1 h2;omega
def adM{bK bU:D1}(hc:∀ps ss,R!->Oo bK [h!,nI])(hw:anm fuel bU):aE7 (Am (aFN bK bU)):=by
 intro ps ss M hg;refine My (a2v _);rw[Vf aFN P r (∃G,r=.ok (A7 uH) (M++G)) ?_ bB zD zE gx f9 fz];rw[q8 hfs hg.Bk (lX .ah M (aK (hc ps ss hg M)) (gN (X5 (M++[ς []]))))];rw[wG (kC (fun(k:Nat)=>RG (η k) (e9 (kY ss k))) (z4 (∃y3 y4 y5,ρ=[qo,EC,iZ,y3,y4,y5]/\M'=M++[ς ((R0).map GC)])) age none (M++[ς []])
  (by unfold alv;simp[a0d]) trivial (akD none none none) ?_ ?_)]
 ·rintro pre k post hx ρ M' ⟨y3,y4,y5,rfl,rfl⟩;rw[Fj hk iJ (adw hx) i! (Iq (dR R0)) (by
   have h1:=ZO pre λk _=>vb ps ss k;omega)]
  rw[De _ a54];rw[d8];rw[dm alu (hw ps ss [] (kY ss k).1 (kY ss k).2 (M++[ς ((R0).map GC)]) (aD2 hg hk) (by simp;have:=hg.eY;rw[Ś fuel]) aZ) (kC cv (λzv ρ M'=>∃y5,ρ=[qo,EC,iZ,ko,aY (e9 (kY ss k)),y5]/\M'=M++[ς ((R0++zv.map λw=>(k,w)).map GC)])
   (RK fuel [] (kY ss k).1 (kY ss k).2) none (M++[ς ((R0).map GC)]) (ig (by simp[e9]at alu⊢;exact alu)) trivial (IX Θ) ?_ ?_)]
  ·rintro zv w ayJ zK ρ M' ⟨y5,rfl,rfl⟩
   rw[t7 zF (zv.length≤131072) (by
    rw[fJ h1 (adv ps ss fuel [] (kY ss k).1 (kY ss k).2) zK h1];simp[fuel]at h1;omega) (wo _)];rw[um (CK .ah (M++[ς ((R0++(zv++[w]).map λw=>(k,w)).map GC)]) (aur _))];simp[sS,l7,GC,lim,-List.length_flatMap];omega
  ·rintro ρ' M' ⟨y5,rfl,rfl⟩;refine j4 (JB _ _ ?_);rw[aqF eP];rfl
 ·rw[Ic M' y3 y4 y5 rfl rfl];exact gN (bp (A7 uH) (M++I?) (gh DJ ak5) ajO)
def Zy{bU:D1}(hw:ano fuel bU):aE7 (aFk bU):=by
 intro ps ss M hg;rw[Vf aFk P r (r=.ok (A7 uH) M) ?_ bB zD zE gx f9 fz];rw[dm hfs hg.Bk (se (ς []) Θ)];rw[d8]
 have hi:jG [(uE az)] [qo,EC,yt [],none] M=.ok (JI (age).map,none) M:=XK (aK fM);generalize jG [(uE az)]=gr at hi⊢
 refine cj (kC (jJ (k:Nat) k) (z4 (∃y3,ρ=[qo,EC,aY (A7 R0),y3]/\M'=M)) age none M
  hi trivial (PV none) ?_ ?_)
 ·rintro pre k post hx ρ M' ⟨y3,rfl,rfl⟩;rw[Fj hk iJ (adw hx) i! (Iq (dR R0)) (by
   have h1:=ZO pre λk _=>vb ps ss k;omega)]
  have wb:=vb ps ss k;rw[wA _];rw[dm alu (hw ps ss [] (kY ss k).1 (kY ss k).2 M' (aD2 hg hk) (by simp;have:=hg.eY;rw[Ś fuel]) aZ) (Ku (A7 ((pre++[k]).flatMap (ZV ps ss))) M' ?_ (aur _))];rw[ao];rw[NN]
  rw[yY (xs:=RK fuel [] (kY ss k).1 (kY ss k).2) (w:=none) (M':=M') cv x9 (λw=>GC (k,w)) (j8 [y,ko]) (ig (by simp[TX hk,e9]at alu⊢;exact alu)) trivial (gg none) (U9 x hx)
   (e! (adv ps ss fuel _ _ _))]
  ·rw[C0 _ _,fL (by rw[Df (adv ps ss fuel _ _ _)]),ag,Tl,fL (by simp[ZV,lim,-List.length_flatMap]at wb⊢;omega)];simp[ZV]
  ·rw[WL y _ _ _ (aK GC)]
 ·rintro ρ' M' ⟨y3,rfl,rfl⟩;exact gN (Cr (A7 uH) M' (aK ak5))
universe Sb
universe zE
section
namespace L2
open PySem
def a0e{M G:aL}xC:h9 (M++o::G) M.length o:=Θ
def aI2{M G:aL}{o o':fB}:ajA (M++o::G).set o'=M++o'::G:=Θ
universe L2
namespace Sb
open PySem L2
abbrev OB BG(k:Int):Int:=ns.getD (k%ns.length).toNat 0
abbrev aQW BG(k:Int):Int:=
 (asz (OB ns k+104729*(k+1))*48271%4294967279 / 64*69621+asz (OB ns k+104729*(k+1))*48271%4294967279)%4294967231
abbrev aIo cZ:Prop:=∀ns k M,g [.dX ns,η k] M=.ok (η (OB ns k)) M
abbrev aFh cZ:Prop:=∀ns k M,g [.dX ns,η k] M=.ok (η (IJ k)) M
def adP:aIo awf:=by
 intro ns k M;rw[nv awf r (r=.ok (η (OB ns k)) M)];rw[jt (ns=[])]
 ·subst h;rw[o? (tI M (aK fO) (dy (MX (η 0) M ?_)))];simp[OB]
 ·rw[vL hl (0<ns.length) aN1 (OQ M (gh fO h) (yi (η (OB ns k)) M XJ))];rw[mG (apQ k b ns.length) (Int.emod_lt_of_pos k (b:=ns.length) aD)];simp[fM,mO,oV,hl,eT,u5,Bm];rw[FP EK h2]
  have h3:(k%aS ns.length).toNat<ns.length:=aD
  simp[h3,OB]
def ad5 Eb(h:aIo g):aFh (awj g):=by
 intro ns k M;rw[nv awj r (r=.ok (η (IJ k)) M)]
 refine xU η (asz (OB ns k+104729*(k+1))) M
 ·simp[h ns k M,mO,oV,qA,small]
 refine xU η (asz (OB ns k+104729*(k+1))*48271%4294967279) M
 ·simp[mO,oV,qA,small]
 refine yl (η (IJ k));simp[mO,wV,oV,qA,small,aQW]
def wd BG(k:Int):0≤IJ k:=Int.emod_nonneg _ aZ
universe Sb
universe zE
section
namespace Sb
open PySem L2
abbrev cnt jY r3:Nat:=dR (ps.filter (HQ p j p.js))
def a0f jY r3:dR (DV ps j)=cnt ps j:=by
 unfold DV cnt
 have:ps=(Aq).map (fj.at ps):=by
  refine aqb i;rw[mF gI h (qk i)]
  ·rw[va h,aBM];rfl
  ·rw[abm,E4 (by rw[fH])];rfl
 conv=>rhs;rw[this]
 rw[List.filter_map,d9];rfl
def aIp jY rZ r3:cnt (ps++[p]) j=cnt ps j+oi j p.js 1 0:=by
 rw[iU cnt List.filter_append List.length_append]
 congr 1
 by_cases h:j∈p.js<;>simp[h]
abbrev fresh(c:Int)iw:Int:=(c+37*i)%1000
def aWw(c:Int)iw:0≤Jp i/\Jp i≤999:=by
 rw[Ś fresh]
def aGe(c:Int){i k:Nat}(hi:i<27)(hk:k<27)(h:Jp i=Jp k):i=k:=by
 rw[qs fresh];omega
structure aeT(c:Int)jY(loose:fD)(many:Nat):Prop where
 eY:many≤3*ps.length
 old:fT ps (∀j∈p.js,∃i,i<many/\j=Jp i)
 once:agX ps
 two:∀j,cnt ps j≤2
 lo:∀j∈loose,cnt ps j≤1/\∃i,i<many/\j=Jp i
structure anA(c:Int)(loose:fD)(m0 many:Nat)(ends:fD):Prop where
 nd:ends.Nodup
 le:m0≤many
 src:∀j∈ends,j∈loose\/∃i,m0≤i/\i<many/\j=Jp i
abbrev aXt:fD->fj
 |[j,k]=>.pl j k
 |[t,s,b]=>.pt t s b
 |_=>.pl 0 0
def a0g{ends:fD}azP:(akv).js=ends:=by
 rcases ends with _ | ⟨a,_ | ⟨b,_ | ⟨d,_ | ⟨e,r⟩⟩⟩⟩
 ·rw[F9]
 ·rw[F9]
 ·rfl
 ·rfl
 ·rw[F9]
def aXu xB UN(h:fT ps (j∉p.js)):cnt ps j=0:=by
 rw[iU cnt List.length_eq_zero_iff List.filter_eq_nil_iff];intro p hp;simp[h p hp]
def aXv{c:Int}xB az1 aMY(hm:many≤3*(ps.length+1))(a55:many≤24)azP:
  aeT c (ps++[akv]) (ends.filter (atP j j)++aBY (ũ j j)) many:=by
 rw[fu hj (a0g h) b! (∀i,m0≤i->i<many->cnt ps (Jp i)=0) (λi h1 h2=>aXu λp hp hm=>by
  obtain⟨i',h3,h4⟩:=I.old p hp _ hm;rw[eg (aGe c aD aD h4)])]
 refine⟨by rw[au List.length_append hm],je p hp j hm,uc,dJ j,c! j hm⟩
 ·rcases Sw with hp | hp
  ·rw[RX i (I.old p hp j hm) i (aAo h1) h2]
  ·rw[HB hp];rw[yP hp hj hm];rcases E.src j hm with h1 | ⟨i,_,h1,h2⟩
   ·obtain⟨_,i,h2,h3⟩:=I.lo j h1;rw[bQ i (aAo h2) h3]
   ·rw[bQ i h1 h2]
 ·rcases Sw with hp | hp
  ·exact I.once p hp
  ·rw[ahV hp hp];rw[au hj E.nd]
 ·rw[aIp,hj];have:=I.two j;split
  ·rename_i hm;rcases E.src j hm with h1 | ⟨i,h0,h1,rfl⟩
   ·rw[eg (I.lo j h1).1]
   ·rw[n? (b! i h0 h1)]
  ·omega
 ·rw[aIp,hj];rcases aBJ with hm | hm
  ·rw[yg aBH];rw[HC h2 h2];rcases E.src j h1 with h3 | ⟨i,h0,h3,rfl⟩
   ·rw[nF h3 h2]
   ·rw[b! i h0 h3,EK];exact M_ aD i h3
  ·rw[yg aBH];rw[HC h2 h2];rw[HZ];rw[MK h3 i h4 h5 (I.lo j h1) h3 i (aAo h4) h5]
def aXw{c:Int}az1 aMA UN(h1:j∈loose)(h2:j∉ends):anA c loose m0 many (ends++[j]):=by
 rw[eV ?_ E.le (c! k hk)]
 ·rw[List.nodup_append];rw[eV E.nd Θ (je a ha b hb)];rw[Ma hb hb];rintro rfl;exact h2 ha
 ·rcases aNP with hk | hk
  ·exact E.src k hk
  ·rw[ń hk hk (Ω h1)]
def aXx{c:Int}xB az1 aMY(a55:many<24):anA c loose m0 (many+1) (ends++[Jp many]):=by
 have hn:Jp many∉ends:=λh=>by
  rcases E.src _ h with h1 | ⟨i,h0,h1,h2⟩
  ·obtain⟨_,i,h2,h3⟩:=I.lo _ h1;have:=aGe c aD (by rw[eg E.le]) h3;rw[eg E.le]
  ·rw[eg (aGe c aD aD h2)]
 rw[eV ?_ (Nat.le_succ_of_le E.le) (c! k hk)]
 ·rw[List.nodup_append];rw[eV E.nd Θ (je a ha b hb)];rw[Ma hb hb];rintro rfl;exact hn ha
 ·rcases aNP with hk | hk
  ·rcases E.src k hk with h1 | ⟨i,h0,h1,h2⟩
   ·exact Ω h1
   ·exact aA ⟨i,h0,aD,h2⟩
  ·rw[ń hk hk (aA (M_ many E.le aD))]
structure aeM jY:Prop where
 ayI:agV 1
 eY:Vj 8
 qM:fT ps (∀j∈p.js,0≤j/\j≤999)
 once:agX ps
 two:∀j,gE (DV ps j) 2
def aeT.good{c:Int}xB{loose:fD}{many:Nat}(I:aeT c ps loose many)(h1:agV 1)(h8:Vj 8):aeM ps:=
 ⟨h1,h8,λp hp j hj=>by obtain⟨i,_,rfl⟩:=I.old p hp j hj;exact aWw c i,I.once,λj=>by rw[au a0f (I.two j)]⟩
universe Sb
universe zE
end
mutual
section
namespace Sb
open PySem L2
def aJZ p7{xs ys:fD}{i k:Nat}{y:aj}(hi:rj i (Mt xs))aLX(hl:akG):
  Ŭ (C1 fE) (b5 (ae i)) akR ρ M=.ok (hV (xs.filter (z_ j j ys))) M:=by
 rw[yY (xs:=xs) (w:=none) (M':=M) aj.int (z_ j j ys) aj.int (λρ=>∃z,ρ=[z,C!]) (ig (vY hi)) trivial ⟨none,gh KC hk⟩ (nu x) Rd]
 ·rw[cc (by rw[ni (ajU hl)])]
 ·rw[uo z hρ];refine t8 _ lT ?_ (JE _);simp[Kl (neg:=true) (enc:=aj.int) (λa=>mS a) (λa b e=>by cases e;rfl) hy]
def a0h p7{xs ys:fD}{i k n:Nat}{y:aj}(hi:rj i (iz n))(hn:qZ M n asS)aLX(hl:akG):
  Ŭ (C1 fE) (b5 (ae i)) akR ρ M=.ok (hV (xs.filter (z_ j j ys))) M:=by
 rw[yY (xs:=xs) (w:=ajP asS) (M':=M) aj.int (z_ j j ys) aj.int (λρ=>∃z,ρ=[z,C!]) (Om (vY hi) hn) hn ⟨none,gh KC hk⟩ (nu x) Rd]
 ·rw[cc (by rw[ni (ajU hl)])]
 ·rw[uo z hρ];refine t8 _ lT ?_ (JE _);simp[Kl (neg:=true) (enc:=aj.int) (λa=>mS a) (λa b e=>by cases e;rfl) hy]
def a0i{xs:fD}{n:Int}cw(h:xs≠[])(hn:0≤n):∃j∈xs,zX (hV xs) (n%(aso (ahg<4) Int 4))=.ok (η j) M:=by
 rw[gq hl (SK 0) aN1 hd (aS 0<(aso (ahg<4) Int 4)) (by split<;>omega) hle (asL (aso (ahg<4) Int 4)) (by split<;>omega)]
 generalize (aso (ahg<4) Int 4)=d at hd hle;rw[mG (apQ n b d) (Int.emod_lt_of_pos n hd)];rw[aAz i hi h1];rw[hi]
 rw[W7 h3 JN aD xs[i] (List.getElem_mem h3) (Dq (by rw[gI,List.getElem?_eq_getElem h3];rfl))]
def a0j{ends:fD}cw azP:∃z,ajM [X?,X7] (aS ends.length-2)=.ok z M/\(akv).enc=aQ (z::Fg):=by
 rcases ends with _ | ⟨a,_ | ⟨b,_ | ⟨d,_ | ⟨e,r⟩⟩⟩⟩
 ·rw[F9]
 ·rw[F9]
 ·exact jy X? FA
 ·exact jy X7 (LZ 1)
 ·rw[F9]
abbrev aI3 cZ:Prop:=∀ns(b:Int) M,∃ps,aeM ps/\g [.dX ns,η b] M=.ok h! M
def aJ0 br{xs:fD}{z:Str}:pg (aQ (aE z::asS)):=atC (by
 rcases aPC with rfl | hx
 ·simp
 ·rw[aqo i rfl hx];simp)
def a2w br rZ:pg p.enc:=by
 cases p with
 |pl j k=>exact aJ0 (xs:=[j,k])
 |pt t s b=>exact aJ0 (xs:=[t,s,b])
def N?{qy:D1}aaX:aI3 (Am (avR qy)):=by
 intro ns b M
 suffices h:∃ps G,aeM ps/\avR qy [.dX ns,η b] M=.ok h! (M++G) by
  rw[yw ps G hg e h ⟨ps,hg,aDz G e (amz a2w _)⟩]
 rw[NO avR P r (∃ps G,aeM ps/\r=.ok h! (M++G)) (X5 (M++[ς []]))];rw[wz (ς []) (M++[ς []]) Θ]
 rw[wz (η 0) (M++[ς []]) Θ]
 rw[d8];rw[aAz n hn (show 0≤1+IJ b%8 by rw[eg (wd ns b)])]
 rw[bJ aQM (1≤n/\n≤8) (by rw[eg (wd ns b)]) hi (jG [(lD (Ξ 1) (Mr qy [aq,az] (Ξ 8)))] [ry .dX,dh b,iZ,yt [],dh 0,none,none,none,none,none,none] (M++[ς []])
   = .ok (JI (sO).map,none) (M++[ς []])) (XK (by simp[hm ns b,mO,oV,hn]))]
 generalize jG [(lD (Ξ 1) (Mr qy [aq,az] (Ξ 8)))]=gr at hi⊢
 refine cj (CE (jJ (k:Nat) k) (∃y5 y6 y7 y8 qH Z? G ps loose many,ρ=[ry .dX,dh b,iZ,atM,Vw (many:Nat),y5,y6,y7,y8,qH,Z?] ∧
   M'=M++ς asf::G/\ps.length=pre.length/\loose.length≤3*pre.length/\aeT (wL (b+9)) ps loose many) sO (M++[ς []]) hi ?_)
 ·exact⟨none,none,none,none,none,none,[],[],[],0,rfl,rfl,rfl,Θ,⟨Θ,Θ,Θ,aK cnt,Θ⟩⟩
 ·rintro pre k post hx ρ M' ⟨y5,y6,y7,y8,qH,Z?,G,ps,loose,many,rfl,rfl,iJ,avf,I⟩;rw[aie hk a8K (adw hx) _];generalize GW:M++ς asf::G=aa
  rw[wz (η (wL (b+1+k))) aa (aK (hm ns))]
  rw[wz X3 (aa++[ς []]) Θ]
  rw[d8]
  obtain⟨n2,KR,a8L⟩:∃n2:Nat,aS 2+(ag8 (wL (b+1+k)%5<3) 0)=n2/\(n2=2\/n2=3):=by
   split
   ·exact lK 3 (aA rfl)
   ·exact lK 2 (Ω rfl)
  have GR:jG [(ajb (Ξ 2) OC [(cg u6 (Mq 6 (Ξ 5)) (Ξ 3))])] [ry .dX,dh b,iZ,atM,dh many,ko,dh (wL (b+1+k)),ag6,y8,qH,Z?] (aa++[ς []])
    = .ok (JI (aLv).map,none) (aa++[ς []]):=XK (by
   simp[mO,u6,oV,OC]
   rw[←KR])
  generalize jG [(ajb (Ξ 2) OC [(cg u6 (Mq 6 (Ξ 5)) (Ξ 3))])]=a8T at GR⊢
  refine cj (kC (jJ (k:Nat) k) (λzv ρ M'=>∃y8 qH Z? ends Be,ρ=[ry .dX,dh b,iZ,atM,Vw (Be:Nat),ko,dh (wL (b+1+k)),ag6,y8,qH,Z?] ∧
   M'=aa++[ς Fg]/\aAb zv.length/\Be≤many+zv.length/\anA (wL (b+9)) loose many Be ends) aLv none (aa++[ς []]) GR trivial ?_ ?_ ?_)
  ·exact⟨y8,qH,Z?,[],many,rfl,rfl,rfl,fe,⟨Θ,fe,Θ⟩⟩
  ·rintro zv j ayJ zK ρ M' ⟨awI,amG,xo,ends,Be,rfl,rfl,OU,aQJ,E⟩;rw[asv hj a8M (adw zK) anD I.eY];rw[wA _]
   generalize aKC:wL (b+10+3*k+j)=pick
   rw[cV aQP (0≤pick) (by rw[cA aKC (wd _ _)]) (wh (η pick) (aa++[ς Fg]) (by simp[hm ns,qA,small,aKC]))];rw[wz (hV (loose.filter (ũ j j))) (aa++[ς Fg]) (aJZ (ys:=ends) rfl rfl Θ aD)];rw[ajC L aQD L (aBY (ũ j j)=L) lT];rw[aQD];rw[d8]
   have hif:∃t,sY (cU sL) (CB u6 (Mq 9 (Ξ 8)) (Ï [(Ξ 7),(Ξ 2),(Ξ 2)] jf)) [ry .dX,dh b,iZ,atM,dh Be,ko,dh (wL (b+1+k)),ag6,yp,dh pick,Mt L] (aa++[ς Fg])
     = .ok t (aa++[ς Fg])/\(aO t->L≠[]):=by
    have a6n:j=0\/j=1\/j=2:=aD
    obtain⟨v,hv⟩:∃v:Int,∀M,ajM [η 7,η 2,η 2] j=.ok (η v) M:=by
     rcases a6n with rfl | rfl | rfl
     ·rw[Ac 7 M FA]
     ·rw[Ac 2 M (LZ 1)]
     ·rw[Ac 2 M (LZ 2)]
    cases L with
    |nil=>rw[bQ false (aK fO) (nofun)]
    |cons x xs=>rw[bQ (iY (pick%8<v)) (by simp[fO,mO,oV,u6,hv]) (JE _)]
   rw[Ce t ht aU hif (Ĉ t _ ht (dJ ht) _)]
   ·obtain⟨x,hx,hix⟩:=a0i (M:=aa++[ς Fg]) (aU ht) (n:=pick / 8) aD;obtain⟨avj,zK⟩:=List.mem_filter.mp (aQD▸hx);rw[n9 (CK .ah (aa++[ς ((ends++[x]).map η)]) (j4 ⟨_,_,_,ends++[x],Be,rfl,rfl,aK OU,by rw[fH],aXw E avj (of_decide_eq_true zK)⟩)) hd (aS 0<(aj7 (aS L.length<4) L.length 4)) (by
     have:=aOo (aU ht);split<;>omega)]
    simp[fM,Ua,wV,mO,oV];rw[if_pos hd,ag,hix];simp[sS,l7,lim];omega
   ·rw[o? (CK .ah (aa++[ς ((ends++[fresh (wL (b+9)) Be]).map η)]) (gN (Ku (η (jv (Be+1))) (aa++[ς ((ends++[fresh (wL (b+9)) Be]).map η)]) Θ (j4 ⟨_,_,_,ends++[fresh (wL (b+9)) Be],Be+1,rfl,rfl,aK OU,by rw[fH],aXx I E aD⟩))))];simp[hm ns,qA,small,mO,oV,sS,l7,fresh,lim];omega
  ·rintro ρ' M' ⟨awI,amG,xo,ends,Be,rfl,rfl,OU,aQJ,E⟩;rw[List.length_range]at OU aQJ;rw[dm anD I.eY (gN (rm (hV (ends.filter (atP j j)++aBY (ũ j j))) (aa++[ς Fg])))]
   ·rw[ao,a0h (xs:=ends) (ys:=loose) (n:=aa.length) rfl Θ rfl rfl aD,ag,aJZ (xs:=loose) (ys:=ends) rfl rfl Θ aD,ag,Tl,←List.map_append,cc];rw[d9,List.length_append];rw[mG (aqf (atP j j) ends) (aqf (ũ j j) loose)];omega
   ·rw[d8];rw[Ce z aQR hz2 (a0j (M:=aa++[ς Fg]) (ends:=ends) aD) (CK .ah (M++ς ((ps++[akv]).map fj.enc)::(G++[ς Fg])) (j4 ⟨_,_,_,_,_,_,G++[ς Fg],ps++[akv],_,Be,rfl,rfl,aK iJ,?_,aXv I E aD aD aD⟩))]
    ·simp[fM,azf,oV]at aQR⊢;rw[aQR,hz2];subst GW;simp[FK,wU,sS,l7,lim];rw[BW];rw[fH]
    ·rw[List.length_append];rw[mG (aqf (atP j j) ends) (aqf (ũ j j) loose)]
     have h3:uf pre [k]=pre.length+1:=Θ
     omega
 ·rintro ρ' M' ⟨y5,y6,y7,y8,qH,Z?,G,ps,loose,many,rfl,rfl,iJ,avf,I⟩;refine Ő h! (M++.gone::G) (fS (M_ ps (.gone::G) (I.good ?_ ?_)))
  ·simp[DJ]
  ·rw[iJ];rw[fH]
  ·rw[iJ];rw[fH]
universe Sb
universe zE
section
namespace Sb
open PySem L2
def aXy br{pre post:eG}aM0:k=pre.length:=by
 have h1:h9 sO pre.length k:=by rw[fy h]
 rw[fJ h2 (adw h).2 (List.getElem?_range h2) h1];exact(Vq).symm
def aWx rZ:p.js.length≤3:=by cases p<;>simp[fj.js]
def a2x br(s:aaA):pg (e9 s):=atC (by
 rw[HB hx];rcases hx with rfl | rfl<;>simp)
abbrev aI4 cZ:Prop:=∀ns(b:Int) ps M,aeM ps->∃ss,R!/\g [.dX ns,η b,h!] M=.ok nI M
def aJ1 d5 d6(h:asL k):NP fE none=xs.drop k:=by
 rw[mJ TG qL.aIQ qL.aw4 (Nat.min_eq_left h)];exact List.take_of_length_le Θ
def ayi d5 d6:aiP fE=xs.take k:=by
 rw[iU TG qL.aIQ qL.aw4];simp
def adk{qy bN:D1}aaX aaY:aI4 (Am (avJ qy bN)):=by
 intro ns b ps M hg;have a83:=hg.eY
 suffices h:∃ss G,R!/\avJ qy bN [.dX ns,η b,h!] M=.ok nI (M++G) by
  rw[yw ss G hg e h ⟨ss,hg,aDz G e (amz a2x _)⟩]
 rw[NO avJ P r (∃ss G,R!/\r=.ok nI (M++G)) (X5 (M++[ς []]))];rw[d8]
 have hi:jG [(uE aI)] [ry .dX,dh b,qo,iZ,none,none,none,none,none] (M++[ς []])=.ok (JI (Aq).map,none) (M++[ς []]):=XK (aK fM);generalize jG [(uE aI)]=gr at hi⊢
 refine cj (CE (jJ (k:Nat) k) (∃y4 y5 y6 y7 ss,ρ=[ry .dX,dh b,qo,iZ,y4,y5,y6,y7,none]/\M'=M++[ς (ss.map e9)]/\aDr (3*pre.length)/\ss.Nodup ∧
  ng ss (s.2<pre.length/\s.1∈(eH s.2).js)) Aq (M++[ς []]) hi ⟨none,none,none,none,[],rfl,rfl,Θ,Θ,Θ⟩)
 ·rintro pre k post hx ρ M' ⟨y4,y5,y6,y7,ss,rfl,rfl,hl,jm,hs⟩;obtain⟨hk,iJ⟩:=adw hx;rw[ahU hkp (aXy hx) hjl (aWx (eH k)) (wo _)];rw[um (kC aj.int (λzv ρ M'=>∃y5 y6 y7 ss,ρ=[ry .dX,dh b,qo,iZ,ko,y5,y6,y7,none]/\M'=M++[ς (ss.map e9)]/\aDr (3*pre.length+zv.length)/\ss.Nodup ∧
   ng ss ((s.2<pre.length/\s.1∈(eH s.2).js)\/(s.2=k/\s.1∈zv))) (eH k).js none (M++[ς (ss.map e9)]) (aJ3 (gh (OE hk) amg)) trivial ⟨y5,y6,y7,ss,rfl,rfl,by rw[Ab hl],jm,λs h=>Ω (hs s h)⟩ ?_ ?_)]
  ·rintro zv j ayJ zK ρ M' ⟨a7O,aGn,aGo,tt,rfl,rfl,xq,avh,alr⟩;rw[gq aQN (eH k).js.Nodup (hg.once _ (ayh hk)) hjn (j∉zv) (by
    rw[zK,List.nodup_append]at aQN;exact λh=>aQN.2.2 j h j Θ rfl) a8G (zv.length<3) (by
    have:=À zK;rw[ź];omega)]
   rw[wA _]
   generalize a5o:wL (b+3*k+tt.length)=num;refine wh (η num) (M++[ς aum]) (by simp[hm ns,fM,qA,small,a5o]);rw[wz (.ai (Kq (bl (B? k j)))) (M++[ς aum]) (gh (hb ps k j _ aD) gw)]
   rw[d8]
   rw[bJ ay8 (ic (tt++[(j,k)])) (by
    rw[List.nodup_append]
    rw[eV avh Θ (je s Bv s2 hs2)];rw[ahV hs2 hs2];rintro rfl;rcases alr _ Bv with h | h
    ·omega
    ·exact hjn h.2) hif (∃t,o4 (t_ (Mq 6 (Ξ 3)) (Ξ 0)) (sY (cU (ae 7)) (t_ (Mq 6 (Ξ 3)) (Ξ 1))) [ry .dX,dh b,qo,iZ,ko,yp,dh num,z7 .ai (Kq (bl (B? k j))),none] (M++[ς aum])=.ok t (M++[ς aum])) (by
    rw[Ak (num%3=0)]
    ·rw[cB true (Yk mO oV h1)]
    ·rw[q_ h2 (Kq (bl (B? k j)))]
     ·rw[cB (fK (num%3) 1) (by simp[mO,oV,fO,h1,h2])]
     ·rw[cB false (by simp[mO,oV,fO,h1,h2])])]
   rw[sx ht hif];refine Ĉ t _ ht (dJ _) _
   ·refine CK .ah (M++[ς ((tt++[(j,k)]).map e9)]) (j4 ⟨_,_,_,tt++[(j,k)],rfl,rfl,by rw[fH],ay8,AR⟩)
    ·simp[sS,l7,lim,e9];omega
    ·rcases aBK with h | h
     ·rcases alr s h with h | h
      ·exact Ω h
      ·exact r_ h.1 (aK h.2)
     ·rw[HB h];rw[fq h (aA (kR Θ))]
   ·rw[ų ⟨_,_,_,tt,rfl,rfl,by rw[fH],avh,AR⟩];rcases alr s hs with h | h
    ·exact Ω h
    ·exact r_ h.1 (aK h.2)
  ·rintro ρ' M' ⟨a7O,aGn,aGo,tt,rfl,rfl,xq,avh,alr⟩;refine j4 ⟨_,_,_,_,tt,rfl,rfl,by rw[fH],avh,AR⟩;rw[aN2];rcases alr s hs with h | h
   ·rw[cB aD h.2]
   ·rw[WH h.1 aD h.2]
 ·rintro ρ' M' ⟨y4,y5,y6,y7,ss,rfl,rfl,hl,jm,hs⟩;rw[List.length_range]at hl hs;rw[aAz sh hsh (apQ (wL (b+30)) b (1+aLD))]
  rw[cV gU (sh≤ss.length) (by rw[eg (Int.emod_lt_of_pos (wL (b+30)) (b:=1+aLD) aD)]) (gN (xU η sh (M++[ς (ss.map e9)])))]
  ·simp[hm ns,fM,mO,oV];rw[BW,hsh]
  ·rw[d8]
   rw[cV aKO ((asX++asY).Perm ss) (by
    rw[HS (List.perm_append_comm (l₁:=asX) (l₂:=asY)) List.take_append_drop]) (yi (df ((asX++asY).take 16)) (M++[ς (ss.map e9)]) (fS (M_ _ [ς (ss.map e9)] ⟨hg.ayI,aD,hg.qM,hg.once,hg.two,?_,?_,c! s h⟩)))]
   ·rw[gq e1 (∀M:aL,tu false gC (asQ sh) none (M++[ς (ss.map e9)])=.ok (df asX) (M++[ς (ss.map e9)])) (λM=>by
     simp only[tu,Bz,ZN];rw[aJ1 (by rw[Ab gU]),←List.map_drop,cc (by rw[fH])]) e2 (∀M:aL,tu false gC none (asQ sh) (M++[ς (ss.map e9)])=.ok (df asY) (M++[ς (ss.map e9)])) (λM=>by
     simp only[tu,Bz,ZN];rw[ayi,←List.map_take,cc (by rw[fH])]) e3 (∀dF(xs:BN),akG->tu false (df xs) none (some 16) M=.ok (df (xs.take 16)) M) (vJ M hx (by
     simp only[tu,Kf];rw[Fl (cu (asQ 16) (jv 16)),ayi,←List.map_take,cc (by rw[fH])]))]
    simp only[aej,ao,av,ZL,m4,bb,ag,aX,aW,e1,e2,Tl];rw[←List.map_append,cc (by rw[fH]),ag,e3 _ _ (by rw[fH])]
   ·rw[n? List.length_take]
   ·exact((aKO.nodup_iff).mpr jm).sublist (List.take_sublist _ _)
   ·exact hs s (aKO.mem_iff.mp (List.mem_of_mem_take h))
universe Sb
universe zE
section
namespace Sb
open PySem L2 PyProof.Rows
structure anp rZ(j o:Int):Prop where
 ne:o≠j
 mem:o∈p.js
 aRk:p.js.length=3->p.js.headD 0=j\/p.js.headD 0=o
def a0k{p:fj}aMW(h:o∈zx p j):anp p j o:=by
 cases p with
 |pl a b=>
  rw[abP h1 h2 aq5 agf h1 (aK fj.js)]
 |pt t s b=>
  simp only[fj.js,List.nodup_cons,List.mem_cons,List.not_mem_nil,or_false,not_or]at hn;rw[qs zx];rw[Co];split at h
  ·rw[XD];subst e;rw[HB h];rw[eV ?_ (by rcases h with rfl | rfl<;>simp[fj.js]) (λ_=>Ω rfl)]
   rcases h with rfl | rfl
   ·exact dW (hn.1.1 e.symm)
   ·exact dW (hn.1.2 e.symm)
  ·rw[XD];rw[ahV h h];rw[bQ (cK (e z.symm)) (aK fj.js) (λ_=>aA rfl)]
abbrev Chain zM:Bool->Int->fF->cO gV
 |_,j,a,[]=>∀b,a=nh->(j,b)∈ss
 |f,j,a,(a',j',o)::r=>cu a a'/\j'=j/\(cW f->(j,a')∉ss)/\qk a'/\anp (eH a') j o/\Yr false o (B? a' o) r
def aG3 aaS(hn:agX ps):∀dj(way w:gV)r3 xD(f:Bool),OA ps way a->(cW f->(j,a)∉ss)->w∈Yc n j a →
  ∃r,w=way++r/\r≠[]/\Yr f j (some a) r/\af3/\YX ps.length
 |0,way,w,j,a,f,ok,hf,h=>by simp[aRa]at h
 |n+1,way,w,j,a,f,ok,hf,h=>by
  rw[adn]at h;split at h
  ·rw[F9]
  rename_i ha;rw[agA o ho hw h];rw[sy aEC (a0k (hn _ (ayh ok.lt)) ho) jm (z3 (way++[(a,j,o)]).map) (by
   rw[aNW];rw[eV ok.nd Θ (je x hx y hy)];rw[Ma hy hy];rintro rfl;exact ha hx) hlen (gE (way++[(a,j,o)]) ps.length) (by
   rw[Qe (Zz (n:=ps.length) jm (yX (by
    rw[q6 s hs hx];rcases aBK with hs | hs
    ·exact ok.all s hs
    ·rw[ń hs hs ok.lt])))])]
  unfold A9 at hw;cases hb:AM o with
  |none=>
   rw[hb]at hw;rw[ahV hw hw];exact⟨[(a,j,o)],rfl,Θ,⟨rfl,rfl,hf,ok.lt,aEC,by rw[au hb (nofun)]⟩,jm,hlen⟩
  |some b=>
   rw[yy hb hw hw];split at hw
   ·rename_i hs;rw[ahV hw hw];exact⟨[(a,j,o)],rfl,Θ,⟨rfl,rfl,hf,ok.lt,aEC,by rw[hb];intro b' e;cases e;exact hs⟩,jm,hlen⟩
   ·rename_i hs;rw[VU r e hr hc h1 h2 (aG3 hn n (way++[(a,j,o)]) w o b false (ok.step ha hb) (λ_=>hs) hw) ⟨(a,j,o)::r,by rw[fy e],Θ,⟨rfl,rfl,hf,ok.lt,aEC,by rw[au hb hc]⟩,h1,h2⟩]
structure aI5 zM(r:ae4):Prop where
 lt:Ş r.1
 ne:r.2≠[]
 chain:Yr true (kY ss r.1).1 (uD (kY ss r.1)) r.2
 nd:z3 r.2.map
 len:agV (lI r.2)
def aX2 UX{r:ae4}(h:r∈uH):aI5 ps ss r:=by
 rw[agA k hk h h];have hk:=List.mem_range.mp hk;rw[q6 w hw h];obtain⟨r,e,h1,h2,h3,h4⟩:=aG3 hg.once fuel [] w (kY ss k).1 (kY ss k).2 true (aD2 hg hk) nofun hw;rw[fz]at e;subst e;exact⟨hk,h1,h2,h3,h4⟩
universe Sb
universe zE
section
namespace L2
open PySem
def aek zO qR G!{f6 dv:bu}p7(y:aj)(aa:aL)dj(fs DS:sG)(h:dv ρ M=.ok y aa)(ho:Eu aa=.ok (ο n) aa)(hn:aa[n]? = ü C fs)aMQ
  (q:Q (.nx ρ (aa.set n (dB C DS)))):Q (hE C f f6 dv ρ M):=by
 unfold hE;rw[h,Res.pS,ho,Res.pS,Ko hn];dsimp only;rw[ek (if_pos hl) hf q]
def alR zO tL G!{dv:bu}{ρ:ej}{M G G':aL}{fs:sG}{s2:cR}(y:aj)(DS:sG)(h0:aj4 0)(h:dv ρ (M++dB c fs::G)=.ok y (M++dB c fs::G'))aMQ
  (q:Q (.nx ρ (M++dB c DS::G'))):Q (hE c f aq dv ρ (M++dB c fs::G)):=by
 rw[Õ (aek y _ M.length fs DS h (vY h0) Θ hl hf ?_) aI2 q]
universe L2
namespace Sb
open PySem L2
abbrev a2y(L:Nat)zM(rs:xH)apm:sG:=
 [FW,Jv,Ny,JC (η wait),PK (η 0),WN (ο (L+1)),abO (ο (L+2)),ajy (ο (L+3)),("falls",ο (L+4)),("trains",ο (L+5))]
abbrev lh Pu(L:Nat)zM(rs:xH)apm:aL:=
 [dB c (a2y L ps ss rs wait),.ak [],ς (Ū _),.ak [],.ak [],.ak []]
def Zn tL azM UX apm dF:aFb c oP [gC,h!,nI,η wait] (M++[dB c []])=.ok .ah (M++lh c M.length ps ss uH wait):=by
 rw[cF Bo hg.eY hss hg.Bk];rw[jw aFb (pO (P:=λr=>r=.ok .ah (M++lh c M.length ps ss uH wait)) ?_)]
 simp only[bB,zD,zE,gx,Nat.zero_add,Nat.reduceAdd,Nat.reduceSub,List.replicate,f9,fz,eP];generalize hrs:uH=rs
 rw[vL alq (∀N:aL,nM true Au (b5 az) (bP 0) uV (dC mD) [iZ,qo,EC,dh wait] N=.ok (ο N.length) (N++[ς (Ū _)])) (λN=>by
  rw[JV ps N fj.enc (λ_=>mD) (j8 [y]) XI (λx _ ρ hρ=>by
   rw[VE y _ _ wC]) (e! Bo),C0 _ _,ml (by rw[Df Bo])]) (NM M M [] (A7 rs) [FW] (gh (hr ps ss _ hg) hrs) (by rw[h_ (0<1000)]))];rw[Ē (NM M M [] h! [FW,Jv] (by simp[A_];exact cc (by rw[fH])) (by rw[h_ (1<1000)])) (cj (NM M M [] nI [FW,Jv,Ny] (by simp[A_];exact cc (by rw[fH])) (by rw[h_ (2<1000)])))];rw[Ē (NM M M [] (η wait) [FW,Jv,Ny,JC (η wait)] (rfl) (by rw[h_ (3<1000)])) (cj (NM M M [] (η 0) [FW,Jv,Ny,JC (η wait),PK (η 0)] (rfl) (by rw[h_ (4<1000)])))];rw[Ē (NM M M [.ak []] (ο kh) [FW,Jv,Ny,JC (η wait),PK (η 0),WN (ο kh)] (aK rh) (by rw[h_ (5<1000)])) (cj (NM M M [.ak [],ς (Ū _)] (ο (qh 2)) [FW,Jv,Ny,JC (η wait),PK (η 0),WN (ο kh),abO (ο (qh 2))] (by rw[fy alq]) (by rw[h_ (6<1000)])))];rw[QC (cj (NM M M [.ak [],ς (Ū _),.ak []] (ο (qh 3)) [FW,Jv,Ny,JC (η wait),PK (η 0),WN (ο kh),abO (ο (qh 2)),ajy (ο (qh 3))] (aK rh) (by rw[h_ (7<1000)]))) (cj (NM M M [.ak [],ς (Ū _),.ak [],.ak []] (ο (qh 4)) [FW,Jv,Ny,JC (η wait),PK (η 0),WN (ο kh),abO (ο (qh 2)),ajy (ο (qh 3)),("falls",ο (qh 4))] (aK rh) (by rw[h_ (8<1000)]))) (alR (M:=M) (G':=[.ak [],ς (Ū _),.ak [],.ak [],.ak []]) (s2:=pV) (ο (qh 5)) [FW,Jv,Ny,JC (η wait),PK (η 0),WN (ο kh),abO (ο (qh 2)),ajy (ο (qh 3)),("falls",ο (qh 4)),("trains",ο (qh 5))] rfl (aK rh) (by rw[h_ (9<1000)]) cS Q?)]
universe Sb
universe zE
end
mutual
section
namespace Sb
open PySem L2
section
variable {κ:Type} [Ca] {α:Type}
abbrev b9 K9:at7:=Ho (d.find? (pB q (q.1=k))).map
abbrev i8 K9(v:α):BO:=
 if d.any (pB q (q.1=k)) then d.map (λq=>arn (q.1=k) q.1 v q) else d++[(k,v)]
abbrev i7 K9:BO:=d.filter (qu q q.1 k)
def Oc qT:bR (b9 ([]:BO) k):=rfl
def ft(q:κ×α)K9:b9 (q::d) k=vz q.1 k (uD q) (b9 d k):=by
 rw[dz b9 List.find?_cons];rw[yH h q.1 k h]
def aT2 apf:CL (d++[(k,v)])=(CL d).or (vz k k' fU none):=by
 induction d with
 |nil=>rw[fz,ft,Oc];rfl
 |cons q d ih=>
  rw[f9,ft,ft,ih];rw[yH h q.1 k' h]
def aX3 apf:CL (MM q (arn (q.1=k) q.1 v q))=if k'=k then(CL d).map (λ_=>v) else CL d:=by
 induction d with
 |nil=>simp[Oc]
 |cons q d ih=>
  rw[bB,ft,ft,ih];rw[jt (q.1=k)]
  ·rw[Q2 (k=k')]
   ·simp[h,h2]
   ·have h3:¬k'=k:=dW auh;simp[h,h2,h3]
  ·rw[Q2 (q.1=k')]
   ·subst h2;simp[h]
   ·simp[h,h2]
def mem_keys K9:k∈q3↔AZ (b9 d k):=by
 induction d with
 |nil=>simp[Oc]
 |cons q d ih=>
  rw[bB,List.mem_cons,ih,ft];rw[jt (q.1=k)]
  ·simp[h]
  ·rw[WH pH (λo=>o.elim (dW (absurd e.symm h)) id) aA]
def any_keys K9:aO (d.any (pB q (q.1=k)))↔k∈q3:=by
 rw[aqN];constructor
 ·rintro⟨q,hq,h⟩;exact ó q hq (of_decide_eq_true h)
 ·intro h;rw[Ew q hq e h];rw[bQ q hq aPe]
def zd apf:CL (i8 d k v)=vz k' k fU (CL d):=by
 rw[VG i8 h (d.any (pB q (q.1=k)))]
 ·rw[yK,aX3];rw[Q2 (k'=k)]
  ·subst h2;have:=(mem_keys d k').mp ((Ý k').mp h);rw[eK,eK];cases e:CL d with
   |none=>rw[pG e this this]
   |some x=>rfl
  ·rw[HZ,HZ]
 ·rw[pH,aT2];rw[Q2 (k'=k)]
  ·subst h2;have h3:¬(AZ (CL d)):=M4 ((Ý k').mpr ((mem_keys d k').mpr e));rw[eK,eK];cases e:CL d with
   |none=>rfl
   |some x=>rw[pG e h3 h3]
  ·rw[HZ,R2 auh];simp
def Oa(d:BO)(k k':κ):CL (i7 d k)=vz k' k none (CL d):=by
 unfold i7
 induction d with
 |nil=>simp[Oc]
 |cons q d ih=>
  rw[mF List.filter_cons h (q.1=k)]
  ·rw[sr (aK h),ih,ft];rw[Q2 (k'=k)]
   ·rw[ail h2 h2]
   ·rw[HZ,HZ,R2 (h2 (e.symm.trans h))]
  ·rw[ah6 h,ft,ih,ft];rw[Q2 (k'=k)]
   ·rw[if_pos h2,if_pos h2,akO (e.trans h2)]
   ·rw[HZ,HZ]
def aWy K9(v:α):gf (i8 d k v).map=oi k q3 q3 (q3++[k]):=by
 rw[VG i8 h (d.any (pB q (q.1=k)))]
 ·rw[yK,jx ((Ý k).mp h),List.map_map];refine E5 q _;rw[yH h2 q.1 k h2]
 ·rw[pH,akO ((Ý k).mpr e),List.map_append];rfl
def aX4 apf:k'∈gf (i8 d k v).map↔k'=k\/k'∈q3:=by
 rw[mem_keys,zd,mem_keys];rw[yH h k' k h]
def amr K9(k':κ):k'∈gf (i7 d k).map↔k'≠k/\k'∈q3:=by
 rw[mem_keys,Oa,mem_keys];rw[yH h k' k h]
def aeb afM{v:α}(h:Nv):z3 (i8 d k v).map:=by
 rw[aWy];split
 ·exact h
 ·rename_i hk;rw[List.nodup_append];rw[eV h Θ (je a ha b hb)];rw[Ma hb hb];rintro rfl;exact hk ha
def qr afM(h:Nv):z3 (i7 d k).map:=by
 unfold i7;have:(gf (d.filter (qu q q.1 k)).map).Sublist q3:=aAM;exact h.sublist this
def aIq afM{v:α}(h:k∉q3):i8 d k v=d++[(k,v)]:=by
 rw[dz i8 (akO ((Ý k).mp e))]
def Dt afM{v:α}(h:b9 d k=fU):(k,v)∈d:=by
 rw[qs b9];rw[aqu q hq e h];rw[mG (List.mem_of_find?_eq_some hq) (List.find?_some hq)];have h3:q.1=k:=agf;obtain⟨a,b⟩:=q;cases h3;cases e;exact h1
def au3{d:BO}(hn:Nv){q:κ×α}(h:q∈d):b9 d q.1=uD q:=by
 induction d with
 |nil=>rw[F9]
 |cons q' d ih=>
  rw[ft];rw[aCP bB hn];rcases E_ with rfl | h
  ·simp
  ·rw[R2 (hn.1 (by rw[pe (lP q h)])),ih hn.2 h]
universe zE
universe Sb
universe zE
section
namespace Sb
open PySem L2
abbrev YL rX dZ:gV:=(c7.getD r (0,[])).2
abbrev Hh rX dZ:Nat:=(c7.getD r (0,[])).1
abbrev wW rX dZ:eG:=gf (jN).map
structure iM where
 steps:gV
 ahead:gV
 out:Bool
structure Bl where
 u:Int
 ns:fD
 bd:Bool
structure bL where
 locks:xG
 points:P?
 green:eG
 falls:yf
 now:Int
 trains:QO
structure TB where
 tr:iM
 ob:Nat
 so:Nat
 sP:Nat
structure FB where
 u:Int
 f7:eF
 ob:Nat
structure cI where
 locks:Ek
 lying:AD
 greens:Ek
 falls:BR FB
 ticks:Int
 trains:Sd TB
structure hG dj rX:Prop where
 nd:asI r (ic sI)
 lt:asI r (ajT (p<n))
 hd:asI r (asI r' (AW=Hh c7 r'->∃p,p∈sI/\p∈wW c7 r'))
abbrev eB(t:iM):rC:=t.steps.headD (0,0,0)
structure Gv rX(sW:RC)(locks:xG)(t:iM):Prop where
 ne:ajt []
 nd:ic aBv
 st:Wh (ai1 locks s.1)
 e8:Ŝ []->∃r k,ajw r/\ru::t.ahead=(jN).drop k/\Wi (pA locks s.1 r)
 ot:aO t.out->Yv/\bR (sW ru.1 CJ)
abbrev T7(t t':iM):Prop:=(Wh (∀s'∈t'.steps,s.1≠s'.1))/\Wi (∀s'∈t'.ahead,s.1≠s'.1)
abbrev avA UH:Prop:=ua\/r∈nB
structure Inv dj rX(sW:RC)ly:Prop where
 ln:aAA n
 own:∀r,xJ->ajw r/\ajT (Ĺ p r/\∀x t,dG=eU->Wi (s.1≠p))
 lk:∀p r,Ĺ p r->p∈sI
 o3:W.green.Nodup
 zA:ic nB
 Bx:∀r∈W.green,r∉nB
 kH:af9
 tr:∀x t,dG=eU->Gv c7 sW W.locks t
 A4:∀x y t t',dG=eU->cu (B6 y) t'->x≠y->T7 t t'
abbrev KG rX(Dz:mj)dZ(q:FB):Bl:=⟨q.u,q.f7.toList,Dz AW⟩
abbrev GD(_:Int)xE:iM:=t.tr
section
variable {κ:Type} [Ca] {α β:Type}
abbrev iG afC(d:BO):gO κ β:=MM q (q.1,g q.1 q.2)
def al7 afC(d:BO):gf (iG g d).map=q3:=by rw[Mm iG]
def ZF afC qT:∀d:BO,b9 (iG g d) k=(b9 d k).map (g k)
 |[]=>rfl
 |q::d=>by
  have ih:=ZF g k d;unfold iG at ih⊢;rw[bB,ft,ft,ih];rw[jt (q.1=k)]
  ·rw[Al h]
  ·simp[h]
def al8 afC qT(v:α)(d:BO):iG g (i8 d k v)=i8 (iG g d) k (g k v):=by
 unfold iG i8
 have:(MM q (q.1,g q.1 q.2)).any (pB q (q.1=k))=d.any (pB q (q.1=k)):=by rw[aDE];rfl
 rw[this];split
 ·rw[List.map_map,List.map_map]
  refine E5 q _
  rw[jt (q.1=k)]
  ·rw[Al h]
  ·simp[h]
 ·simp
def aGf afC qT(d:BO):iG g (i7 d k)=i7 (iG g d) k:=by
 unfold iG i7;rw[aqY];rfl
universe zE
structure ZP dj rX(oU:mj)(Dz:mj)ly o9:Prop where
 locks:∀p<n,IM p = aY Hs
 DY:ic art
 DZ:fT art (p<n)
 tv:B.lying.length=n
 fP:W.points.length=n
 Bj:∀p<n,Xe p->h9 W.points p B.lying[p]?
 greens:∀s r,Iu s=j?↔ua/\AW=s
 o3:ic arh
 falls:W.falls=Þ (KG c7 Dz)
 ticks:B.ticks=W.now
 trains:W.trains=iG GD B.trains
section
variable {n:Nat}{c7:xH}{oU:mj}{Dz:mj}{sW:RC}{W:bL}{B:cI}
def Inv.avb p9 gb(h:ua):ajw r:=(pK (Ω h)).1
def Inv.lock p9{r p:Nat}K6(hp:p∈sI):Ĺ p r:=((pK h).2 p hp).1
def Inv.one p9(R:auU){r r':Nat}K6(h':RT)(e:AW=Hh c7 r'):r=r':=by
 rw[đ p h2 (R.hd r (pK h).1 r' (Ii h').1 e)];rw[fJ e1 (aiV h1) (I.lock h' h2) e1];cases e1;rfl
def ZP.al9 G5:nB=sj:=by
 rw[S.falls,al7]
abbrev Kh dZ Ph:xG:=abN l s (akw s j?) l
abbrev Ob dZ Pj:Ek:=abN d s (i8 d s.1 r) d
abbrev S? dZ UO:xG:=l.map (M! o o j? none o)
abbrev N7 Pj:Ek:=abN d s (i7 d s.1) d
abbrev DB(oU:mj)Pw l!(l:P?):P?:=abN l s (if oU s.1 then l.set s.1 (aY (mV s)) else l) l
abbrev DN Pw l!(l:AD):AD:=abN l s (akw s (mV s)) l
def awq dZ:∀Ph,dR (Kh r w l)=l.length
 |[],l=>rfl
 |s::w,l=>by show dR (Kh r w (akw s j?))=_;rw[fy (awq r w)]
def aGg(r p:Nat):∀Ph,Qn p->(Kh r w l)[p]? = oi p vA (Hw r) l[p]?
 |[],l,h=>aK Kh
 |s::w,l,h=>by
  show(Kh r w (akw s j?))[p]? = _;rw[aGg r p w _ (a! h),bB];rw[Ak (p∈vA)]
  ·rw[EK,auv h1]
  ·rw[mF EL h2 (s.1=p)]
   ·subst h2;rw[aC0,aN6]
   ·rw[R2 ((arp).elim (dW auh) h1),aOc]
def aGh(r p:Nat):∀Pj,b9 (Ob r w d) p=oi p vA j? (b9 d p)
 |[],d=>aK Ob
 |s::w,d=>by
  show b9 (Ob r w (i8 d s.1 r)) p=_;rw[aGh r p w,bB,zd];rw[Ak (p∈vA)]
  ·rw[EK,auv h1]
  ·rw[mF EL h2 (p=s.1)]
   ·subst h2;rw[FP eK Θ]
   ·rw[HZ,R2 ((arp).elim h2 h1)]
def alW vg:∀Pj,b9 (N7 w d) p=oi p vA none (b9 d p)
 |[],d=>aK N7
 |s::w,d=>by
  show b9 (N7 w (i7 d s.1)) p=_;rw[alW p w,bB,Oa];rw[Ak (p∈vA)]
  ·rw[EK,auv h1]
  ·rw[mF EL h2 (p=s.1)]
   ·subst h2;rw[FP eK Θ]
   ·rw[HZ,R2 ((arp).elim h2 h1)]
def axe dZ:∀Pj,Nv->z3 (Ob r w d).map
 |[],d,h=>h
 |s::w,d,h=>axe r w _ (aeb h)
def aFZ:∀Pj,Nv->z3 (N7 w d).map
 |[],d,h=>h
 |s::w,d,h=>aFZ w _ (qr h)
def aIr br dZ Pj(hw:fT vA (p<n))(h:fT q3 (p<n)):fT (gf (Ob r w d).map) (p<n):=by
 intro p hp;rw[mem_keys,aGh]at hp;rw[Ak (p∈vA)]
 ·exact hw p h1
 ·rw[EL,←mem_keys]at hp;exact h p hp
def aG4 br Pj(h:fT q3 (p<n)):fT (gf (N7 w d).map) (p<n):=by
 intro p hp;rw[mem_keys,alW]at hp;rw[Ak (p∈vA)]
 ·rw[pG EK hp hp]
 ·rw[EL,←mem_keys]at hp;exact h p hp
def ama(r p:Nat)UO:(S? r l)[p]? = l[p]?.map (M! o o j? none o):=by
 rw[dz S? gI]
def aF0 Pw:∀l!(l:P?),dR (DB oU mV w l)=l.length
 |[],l=>rfl
 |s::w,l=>by
  show dR (DB oU mV w (if oU s.1 then l.set s.1 (aY (mV s)) else l))=_;rw[aF0 mV w];split<;>simp
def axf Pw:∀l!(l:AD),dR (DN mV w l)=l.length
 |[],l=>rfl
 |s::w,l=>by
  show dR (DN mV w (akw s (mV s)))=_;rw[fy (axf mV w)]
def aHa{lw lb:auW}:∀l!(l:P?)(b:AD),(ng w (Xe s.1->lw s=lb s))->l.length=b.length->(∀p<l.length,Xe p->h9 l p b[p]?) →
  ∀p<l.length,Xe p->h9 (DB oU lw w l) p (DN lb w b)[p]?
 |[],l,b,_,_,h=>h
 |s::w,l,b,hw,hl,h=>by
  show ∀p<l.length,Xe p->h9 (DB oU lw w (if oU s.1 then l.set s.1 (aY (lw s)) else l)) p (DN lb w (b.set s.1 (lb s)))[p]?
  have ih:=aHa (lw:=lw) (lb:=lb) w (if oU s.1 then l.set s.1 (aY (lw s)) else l) (b.set s.1 (lb s)) (r! (hw s (aK hs))) (by split<;>simp[hl]) (by
   intro p hp uY
   have K1:Qn p:=by split at hp<;>simpa using hp
   rw[lE (s.1=p)]
   ·subst e;rw[if_pos uY,List.getElem?_set_self K1,List.getElem?_set_self aD,hw s Θ uY]
   ·rw[agI];split
    ·rw[au agI (h p K1 uY)]
    ·exact h p K1 uY)
  intro p hp;exact ih p (by split<;>simpa using hp)
def Gv.of{locks ayj:xG}{t:iM}(h:Gv c7 sW locks t)(h1:Wh (ai1 ayj s.1))(h2:Wi (ayj[s.1]? = locks[s.1]?)):Gv c7 sW ayj t:=
 ⟨h.ne,h.nd,h1,dW (by rw[wB r k a b c (h.e8 e) r k a b (r! (by rw[au (h2 s hs) (c s hs)]))]),h.ot⟩
def Gv.al azN(h:Gv c7 sW locks t)vh(hs:s∈t.ahead):∃r,pA locks s.1 r:=by
 obtain⟨r,_,_,_,c⟩:=h.e8 (List.ne_nil_of_mem hs);rw[cB r (c s hs)]
def T7.symm{t u:iM}(h:T7 t u):T7 u t:=⟨λs hs s' gG e=>h.1 s' gG s hs e.symm,λs hs s' gG e=>h.2 s' gG s hs e.symm⟩
def axg{W W':bL}aNl gb(h:avA W' r):xJ:=h.imp (λh=>hg.subset h) λh=>hf.subset h
def Inv.put p9{W':bL}m6(ht:at0 (z? t))(hl:W'.locks.length=W.locks.length)
  aNl(hk:vC p (W'.locks[p]? = IM p \/ ai1 W'.locks p))
  (hv:∀r,avA W' r->ajT (W'.locks[p]? = IM p /\ Wi (s.1≠p)))
  (hy:∀y u,y≠x->B6 y=dO->(ng u.ahead (W'.locks[s.1]? = IM s.1))/\T7 t u)(hx:Gv c7 sW W'.locks t):q9 W':=by
 rw[t7 get (∀y u,b9 W'.trains y=dO->(y=x/\u=t)\/(y≠x/\B6 y=dO)) (λy u h=>by
  rw[ht,zd]at h;rw[lE (y=x)]
  ·rw[yL]at h;cases h;exact Jf e
  ·rw[bG wF h (r_ e h)]) ⟨by rw[au hl I.ln],QB r h (pK (axg hg hf h)).1 (QB p hp (by rw[au (hv r h p hp).1 (QH (axg hg hf h))]) (cG y u hu)),cG p r h,aOQ,aOR,
  λr h h'=>I.Bx r (hg.subset h) (hf.subset h'),by rw[au ht (aeb I.kH)],cG y u hu,M6 y z u u' hu aQQ ne⟩]
 ·rcases get y u hu with⟨_,rfl⟩ | ⟨_,h'⟩
  ·exact(hv r h p hp).2
  ·exact((pK (axg hg hf h)).2 p hp).2 y u h'
 ·rcases hk p with e | e
  ·rw[Fq h (I.lk p r h)]
  ·rw[e]at h;cases h
 ·rcases get y u hu with⟨_,rfl⟩ | ⟨e,h'⟩
  ·exact hx
  ·refine(I.tr y u h').of AR (hy y u e h').1;rcases hk s.1 with e' | e'
   ·rw[fX e' ((I.tr y u h').st s hs)]
   ·exact e'
 ·rcases get y u hu with⟨rfl,rfl⟩ | ⟨e,h1⟩
  ·rcases get z u' aQQ with⟨rfl,_⟩ | ⟨e',h2⟩
   ·rw[WY ne]
   ·exact(hy z u' e' h2).2
  ·rcases get z u' aQQ with⟨rfl,rfl⟩ | ⟨e',h2⟩
   ·exact(hy y u e h1).2.symm
   ·exact I.A4 y z u u' h1 h2 ne
def Inv.del p9 gz:q9 (Ms W (Qp x)):=by
 have get:∀y u,b9 (Qp x) y=dO->B6 y=dO:=λy u h=>by
  rw[Oa]at h;split at h
  ·cases h
  ·exact h
 exact⟨I.ln,QB r h (pK h).1 (QB p hp ((pK h).2 p hp).1 (λy u hu=>((pK h).2 p hp).2 y u (get y u hu))),I.lk,I.o3,I.zA,I.Bx,qr I.kH,λy u hu=>I.tr y u (get y u hu),λy z u u' h h'=>I.A4 y z u u' (get y u h) (get z u' h')⟩
abbrev aax rX(oU:mj)Pw UH:bL:=
 { W with locks:=Rt r,points:=DB oU mV jN W.points,green:=VO [r]}
abbrev setB rX Pw o9 dZ:cI:=
 { B with locks:=U8 r jN,lying:=DN mV jN B.lying,greens:=i8 B.greens AW r}
def set_inv{mV:auW}K8 gb(hr:ajw r)(aU:jN≠[])(hf:ajT (auE p))
  (ht:∀x t,dG=eU->Wh (s.1∉sI)):q9 (aax c7 oU mV W r):=by
 rw[kP hp0 (∃p,p∈sI) (by
  unfold wW;cases e:jN with
  |nil=>rw[CM aU]
  |cons s w=>rw[cB s.1 Θ]) hold (∀r',RT->fT (wW c7 r') (p∉sI)) (λr' h' p hp K1=>by
  rw[fJ e1 (QH h') (hf p K1) e1];cases e1) aP2 (∀r',RT->r'≠r) (λr' h' e=>by
  subst e;rw[ee p hp hp0 (hold _ h' p hp hp)]) aQG (∀x t,dG=eU->Wi (s.1∉sI)) (λx t h s hs hp=>by
  rw[SV r' e ((r7 h).al hs) (hf _ hp) e];cases e)]
 have get:∀p<n,(Rt r)[p]? = oi p sI (Hw r) (IM p):= jQ (aGg r p _ _ (by rw[au I.ln hp]))
 rw[č lt (∀p(o:fF),h9 (Rt r) p o->p<n) (λp o h=>by
  have:=LJ.1;rwa[awq,I.ln]at this) lt' (∀p(o:fF),h9 W.locks p o->p<n) (λp o h=>by
  rw[HS LJ.1 I.ln]) ⟨by rw[abL (dR (Kh _ _ _)=_) awq I.ln],?_,?_,?_,I.zA,?_,I.kH,?_,I.A4⟩]
 ·intro r' h'
  have h':RT\/r'=r:=by
   rcases h' with h' | h'
   ·rcases aNO with h' | h'
    ·exact Ω (Ω h')
    ·exact aA (a! h')
   ·exact Ω (aA h')
  rcases h' with h' | rfl
  ·rw[iC (Ii h').1 (QB p hp ?_ ((Ii h').2 p hp).2)];show(Rt r)[p]? = _;rw[ek (get p (R.lt r' (Ii h').1 p hp)) (sr (hold r' h' p hp)) (QH h')]
  ·rw[cB hr (QB p hp (by show(U2 _ _)[p]? = _;rw[FP (get p (akx _ p hp)) hp]) (λx t h s hs e=>aQG x t h s hs (e▸hp)))]
 ·intro p r' h;rw[rz h (pA (Rt r) p r') h (get p (lt p _ h)) h];split at h
  ·rename_i hp;cases h;exact hp
  ·exact I.lk p r' h
 ·show ic (VO [r]);rw[List.nodup_append];rw[eV I.o3 Θ (je a ha b hb)];rw[ń hb hb (aP2 a (Ω ha))]
 ·intro r' h' h2;have h':r'∈VO [r]:=h';rcases aNO with h' | h'
  ·exact I.Bx r' h' h2
  ·simp at h';exact aP2 r' (aA h2) h'
 ·intro x t h;refine(r7 h).of AR AR
  ·have e:=(r7 h).st s hs;show(Rt r)[s.1]? = _;rw[ek (get s.1 (lt' _ _ e)) (sr (ht x t h s hs)) e]
  ·obtain⟨r',e⟩:=(r7 h).al hs;show(Rt r)[s.1]? = _;rw[get s.1 (lt' _ _ e),sr (aQG x t h s hs)]
def a0l{lw lb:auW}PB gb(hr:ajw r)(hf:ajT (auE p))(hl:ng jN (Xe s.1->lw s=lb s)):
  wI (aax c7 oU lw W r) (setB c7 lb B r):=by
 refine⟨?_,axe r _ _ S.DY,aIr r _ _ (R.lt r hr) S.DZ,by rw[abL (dR (DN _ _ _)=_) axf S.tv],by rw[abL (dR (DB _ _ _ _)=_) aF0 S.fP],?_,?_,aeb S.o3,S.falls,S.ticks,S.trains⟩
 ·intro p hp;show z! (Rt r) p (b9 (U8 r jN) p);rw[aGg _ _ _ _ (by rw[au I.ln hp]),aGh,asZ p];split<;>rfl
 ·intro p hp;exact aHa jN W.points B.lying hl (kU S.fP S.tv) (jQ (S.Bj p (by rw[bG S.fP hp hp]))) p (by rw[au S.fP hp])
 ·intro s r';show cu (b9 (i8 B.greens AW r) s) r'↔r'∈VO [r]/\Hh c7 r'=s;rw[mF zd h (s=AW)]
  ·subst h;rw[eK];constructor
   ·intro e;cases e;simp
   ·rw[aiG h2];rcases aNN with h1 | h1
    ·obtain⟨p,hp,K1⟩:=R.hd r' (I.avb h1) r hr h2;rw[uK (QH (Ω h1)) (hf p K1)];cases this
    ·simp at h1;rw[h1]
  ·rw[pH,S.greens];constructor
   ·rw[aiG h2];rw[cB (aK h1) h2]
   ·rw[aiG h2];rcases aNN with h1 | h1
    ·rw[cB h1 h2]
    ·rw[Ma h1 h1];rw[nF h2.symm h]
def aGi{s r' r:Nat}PB K6:cu (b9 (agx AW) s) r'↔r'∈(AV x x)/\Hh c7 r'=s:=by
 rw[Oa,List.mem_filter];rw[lE (s=AW)]
 ·rw[yL];constructor
  ·intro h;cases h
  ·rintro⟨⟨h1,h2⟩,h3⟩;rw[pn (I.one R (Ω h1) h (h3.trans e)) agf]
 ·rw[wF,S.greens];constructor
  ·rw[aiG h2];rw[cB ⟨h1,decide_eq_true λe'=>e (by rw[←h2,e'])⟩ h2]
  ·rintro⟨⟨h1,_⟩,h2⟩;rw[cB h1 h2]
def aX5 p9{r p:Nat}K6(hp:p<n):oB[p]? = oi p sI MN (IM p):=by
 rw[mF ama h1 (p∈sI)]
 ·rw[aiV h1,EK];simp
 ·rw[EL];cases e:IM p with
  |none=>rfl
  |some o=>
   rw[Option.map_some];split
   ·rename_i e2;subst e2;rw[pn (I.lk p r e) h1]
   ·rfl
def aIs K8 gb K6{g:eG}{f:yf}{t:Int}(hg:g.Sublist W.green)(hf:(arP).Sublist nB)(DR:r∉g)(KX:r∉arP):
  q9 { W with locks:=oB,green:=g,falls:=f,now:=t}:=by
 rw[t7 old (∀r',r'∈g\/r'∈arP->RT/\r'≠r) (λr' h'=>by
  rcases h' with h' | h'
  ·rw[Ac (Ω (hg.subset h')) e (DR (e▸h'))]
  ·rw[Ac (aA (hf.subset h')) e (KX (e▸h'))]) ⟨gh S? I.ln,?_,?_,aOQ,aOR,λr' h1 h2=>I.Bx r' (hg.subset h1) (hf.subset h2),I.kH,?_,I.A4⟩]
 ·intro r' h';rw[yg (old r' h')];rw[iC (Ii h1).1 (QB p hp ?_ ((Ii h1).2 p hp).2)];show oB[p]? = _;rw[ama,QH h1];simp[h2]
 ·intro p r' h';rw[rz h' (pA oB p r') h' ama h'];rw[aqu o ho e h'];split at e
  ·cases e
  ·rw[fq e (I.lk p r' ho)]
 ·intro x u hu;refine(V9 u hu).of AR AR
  ·show oB[s.1]? = _;rw[ama,(V9 u hu).st s hs];simp
  ·show oB[s.1]? = _;obtain⟨r',e⟩:=(V9 u hu).al hs;rw[ama,e,Option.map_some];rw[acf ((some r':fF)=j?)]
   ·have e3:r'=r:=aBn;rw[bG e3 e (WI rfl (((pK h).2 s.1 (I.lk _ _ e)).2 x u hu s hs))]
   ·rw[Q7 e2]
def aIw PB gb K6{g:eG}{gs:Ek}{f:yf}{fb:BR FB}{t:Int}(hg:∀s r,b9 gs s=j?↔r∈g/\AW=s)(alo:ic (gs.map (·.1)))(a6j:f=iG (KG c7 Dz) fb):
  wI { W with locks:=oB,green:=g,falls:=f,now:=t} { B with locks:=Vp jN,greens:=gs,falls:=fb,ticks:=t}:=by
 refine⟨?_,aFZ _ _ S.DY,aG4 _ _ S.DZ,S.tv,S.fP,S.Bj,hg,alo,a6j,rfl,S.trains⟩;intro p hp;show z! oB p (b9 (Vp jN) p);rw[aX5 I h hp,alW,asZ p];show(oi p sI _ _)=aY (oi p sI _ _);split<;>rfl
abbrev Z0 UH:bL:=Sq W oB green (AV x x)
abbrev amB rX o9 dZ:cI:=Sq B (Vp jN) greens (agx AW)
def aIx{g:eG}gb:r∉g.filter (qu x x r):=λh=>of_decide_eq_true aq5.2 rfl
def aUF K8 gb(h:ua):q9 (Z0 W r):=
 aIs (t:=W.now) R I (Ω h) List.filter_sublist Sx aIx (I.Bx r h)
def aUG PB gb(h:ua):wI (Z0 W r) (amB c7 B r):=by
 have:=aIw (fb:=B.falls) (t:=W.now) R I S (Ω h) (λs r'=>aGi (s:=s) (r':=r') R I S (Ω h)) (qr S.o3) S.falls;have e2:=S.ticks;unfold Z0 amB;rw[←e2]at this;rw[cA e2 this]
abbrev T5 UH(u:Bl):bL:={ W with green:=aCR (qu x x r),falls:=aiw r u}
abbrev anq rX o9 dZ(u:FB):cI:={ B with greens:=agx AW,falls:=VM r u}
def aX6 p9 gb{u:Bl}(h:ua):q9 (T5 W r u):=by
 rw[t7 hm (∀r',r'∈gf (aiw r u).map↔r'=r\/r'∈nB) (aX4 _ _ _) ⟨I.ln,?_,I.lk,I.o3.sublist List.filter_sublist,aeb I.zA,?_,I.kH,I.tr,I.A4⟩]
 ·intro r' h';refine Ii ?_;rcases h' with h' | h'
  ·exact Ω aBG.1
  ·rcases(hm r').mp h' with rfl | h'
   ·exact Ω h
   ·exact aA h'
 ·intro r' h1 h2;rcases(hm r').mp h2 with rfl | h2
  ·exact aIx h1
  ·exact I.Bx r' (List.mem_filter.mp h1).1 h2
def aX8 PB gb{u:FB}(h:ua):wI (T5 W r (KG c7 Dz r u)) (anq c7 B r u):=
 ⟨S.locks,S.DY,S.DZ,S.tv,S.fP,S.Bj,λs r'=>aGi R I S (Ω h),qr S.o3,by show aiw r _=iG _ (VM r u);rw[S.falls,al8],S.ticks,S.trains⟩
abbrev TY(f:yf)PC dZ:Bool:=match b9 f r with
 |dO=>F4 u.u t
 |none=>false
abbrev aay(f:BR FB)PC dZ:Bool:=match b9 f r with
 |dO=>F4 u.u t
 |none=>false
def aIy G5 PC dZ:TY W.falls t r=aay B.falls t r:=by
 unfold TY aay;rw[S.falls,ZF];cases b9 B.falls r<;>rfl
abbrev oM UH:bL:=if TY W.falls W.now r then Sq W oB falls (Qx r) else W
abbrev oR rX o9 dZ:cI:=if aay B.falls B.ticks r then Sq B (Vp jN) falls AP else B
def aGs{f:yf}{t:Int}gb(h:aO (TY f t r)):r∈arP:=by
 rw[qs TY];rw[mem_keys];cases e:b9 f r with
 |none=>rw[e]at h;cases h
 |some u=>rfl
def aHb K8 gb:q9 (oM W r):=by
 unfold oM;split
 ·rename_i h;refine aIs (t:=W.now) R I (aA (aGs h)) Sx aAM (λh'=>I.Bx r h' (aGs h)) (λh'=>((amr _ _ _).mp h').1 rfl)
 ·exact I
def aWz PB gb:wI (oM W r) (oR c7 B r):=by
 unfold oM oR;rw[aIy S,S.ticks];split
 ·rename_i h;rw[←aIy S]at h;have:=aIw (f:=Qx r) (fb:=AP) (t:=W.now) R I S (aA (aGs h)) (λs r'=>as1 r') S.o3 (kU S.falls aGf);have e2:=S.ticks;rw[←e2]at this;rw[S.falls]at this⊢;rw[cA e2 this]
 ·exact S
def aHc gb:(oM W r).now=W.now:=by unfold oM;split<;>rfl
abbrev xI ly:bL:={ W with now:=AX}
abbrev zw o9:cI:=HO ticks (MA 1)
def amL p9:q9 (xI W):=⟨I.ln,I.own,I.lk,I.o3,I.zA,I.Bx,I.kH,I.tr,I.A4⟩
def aI6 G5:wI (xI W) (zw B):=⟨S.locks,S.DY,S.DZ,S.tv,S.fP,S.Bj,S.greens,S.o3,S.falls,by show MA 1=AX;rw[S.ticks],S.trains⟩
abbrev Due ly:Prop:=A1 W.falls (W.now<q.2.u)
abbrev Gs ly:bL:=(nB).foldl oM (xI W)
abbrev Iy rX o9:cI:=(sj).foldl (oR c7) (zw B)
def aGt(R:auU):∀aaK,auS->q9 (Wg W)
 |[],W,I=>I
 |r::rs,W,I=>aGt R rs _ (aHb R I)
def aGu(R:auU):∀aaK o9,auS->aQb->wI (Wg W) (rs.foldl (oR c7) B)
 |[],W,B,I,S=>S
 |r::rs,W,B,I,S=>aGu R rs _ _ (aHb R I) (aWz R I S)
def aX9 K8:q9 (Gs W):=aGt R _ _ (amL I)
def aYa PB:wI (Gs W) (Iy c7 B):=by
 unfold Gs Iy;rw[Ď (aGu R _ _ _ (amL I) (aI6 S))]
def aG5:∀aaK,ic nB->(Wg W).now=W.now/\A1 (Wg W).falls (q∈W.falls/\(q.1∈rs->W.now<q.2.u))
 |[],W,_=>kR (Xr q hq Θ)
 |r::rs,W,hn=>by
  rw[List.foldl_cons]
  have a5p:z3 (oM W r).falls.map:=by
   unfold oM;split
   ·exact qr hn
   ·exact hn
  rw[yg (aG5 rs (oM W r) a5p)];rw[aHc]at h1 h2;rw[ah7 h1 q hq];obtain⟨h3,h4⟩:=h2 q hq;unfold oM at h3;split at h3
  ·have h5:=List.mem_filter.mp h3;rw[Ac h5.1 h ((E_).elim (dW (WI e (aBb h5))) h4)]
  ·rename_i hd;rw[iC h3 (λh=>(E_).elim (dJ e) h4)];subst e;unfold TY at hd;rw[pG (au3 hn h3) hd hd];omega
def Sr p9:Due (Gs W):=by
 rw[yg (aG5 nB (xI W) I.zA)];intro q hq;have h3:=h2 q hq;rw[jL Gs h1 (h3.2 (lP q h3.1))]
def aYb aa2 gb{u:Bl}(hw:W.now<u.u)(hr:r∉nB):Due (T5 W r u):=by
 intro q hq;have hq:q∈aiw r u:=hq;show W.now<q.2.u;rw[aIq hr]at hq;rcases aNQ with hq | hq
 ·exact D q hq
 ·rw[ń hq hq hw]
abbrev Oq ly vg:bL:={ W with points:=aqA ((W.points.getD p none).map (!·))}
abbrev aez o9 vg:cI:=HO lying (aB5 (!(Ls p)))
def Oy p9 Ea:q9 (Oq W p):=⟨I.ln,I.own,I.lk,I.o3,I.zA,I.Bx,I.kH,I.tr,I.A4⟩
def aWA G5 Ea(hp:p<n)(uY:Xe p):wI (Oq W p) (aez B p):=by
 refine⟨S.locks,S.DY,S.DZ,gh aez S.tv,gh Oq S.fP,?_,S.greens,S.o3,S.falls,S.ticks,S.trains⟩;intro q hq a6B;show h9 (aqA ((W.points.getD p none).map (!·))) q (aB5 (!(Ls p)))[q]?;rw[mG (S.Bj p hp uY) (S.Bj q hq a6B)]
 have tw:ar5 p:=by rw[au S.tv hp]
 rw[lE (p=q)]
 ·subst e;rw[agE (by rw[au S.fP hp]),List.getElem?_set_self tw,List.getD_eq_getElem?_getD,h1,List.getD_eq_getElem?_getD,List.getElem?_eq_getElem tw];rfl
 ·rw[ek agI agI h2]
def aV7 aa2 Ea:Due (Oq W p):=D
def awy UO(p q:Nat):(aiy p)[q]? = l[q]? \/ ai1 (aiy p) q:=by
 rw[jt (p=q)]
 ·subst h;by_cases hl:Qn p
  ·exact aA (List.getElem?_set_self hl)
  ·left;rw[E4 (by rw[fH]),abm]
 ·exact Ω aOh
def aI7 G5(hl:aAA n){p q:Nat}(hq:q<n):z! (W.locks.set p none) q (b9 (MJ p) q):=by
 rw[mF Oa h (q=p)]
 ·subst h;rw[eK,agE (by rw[au hl hq])]
 ·rw[pH,agJ (M4 e.symm),S.locks q hq]
def aKg{d:Ek}Ea(h:A1 q3 (q<n)):A1 (gf (i7 d p).map) (q<n):=vH (h q ((amr _ _ _).mp hq).2)
abbrev aae rX UH gz(old:gV):bL:=
 { W with green:=aCR (qu y y r),falls:=Qx r,locks:=RH ((jN).headD (0,0,0)),trains:=aqx ((jN).take 1++old) ((jN).drop 1)}
abbrev aeN rX o9 dZ gz xE:cI:=
 { B with greens:=agx AW,falls:=AP,locks:=MJ ((jN).headD (0,0,0)).1,trains:=PJ t}
def aH9 K8 gb fC{old:gV}K6(aU:jN≠[])(ho:∀t,dG=eU->t.steps=old)(hn:ajY->old=[]):q9 (aae c7 W r x old):=by
 rw[Ŏ w fN (∃s w,jN=s::w) (by
  cases e:jN with
  |nil=>rw[CM aU]
  |cons s w=>exact jy s w)]
 rw[Jj Zh (sI=s0.1::vA) (by rw[Ik wW fN]) jm (R.nd r (pK h).1)];rw[aCP Zh jm];rw[gq Bq (Ĺ s0.1 r) (aiV (by rw[fy Zh])) hw (ng w (s.1∈sI)) (r! (by rw[au Zh (iA (lP s hs))])) g8 (IY s0) aOx.1];have aII:vC q (q≠s0.1->RS[q]? = IM q):= vH (agJ (dW (hq e.symm)))
 rw[bJ hold (ng old (auE s.1)) (r! (by
  cases e:dG with
  |none=>rw[pG (hn e) hs hs]
  |some t=>exact(r7 e).st s (by rw[au (ho t e) hs]))) afc (z3 ((s0::w).take 1++old).map) (by
  show ic (s0.1::old.map (·.1));rw[List.nodup_cons];rw[Nd IW]
  ·rw[Ew s hs e h];have:=hold s hs;rw[e,Bq]at this;cases this
  ·cases e:dG with
   |none=>rw[fy (hn e)]
   |some t=>rw[←ho t e];exact(r7 e).nd)]
 rw[dz aae fN]
 refine I.put (x:=x) rfl Θ List.filter_sublist aAM (λp=>awy _ _ _) (je r' h' p hp) (je y u ne hu) ⟨Θ,afc,?_,?_,Θ⟩
 ·rw[LY h'' (RT/\r'≠r) (by
   rcases h' with h' | h'
   ·rw[cB (Ω aBG.1) (aBb aBG)]
   ·rw[cB (aA ((amr _ _ _).mp h').2) ((amr _ _ _).mp h').1]) hd (p∉sI) K1 (by
   rw[fJ e1 (QH h''.1) (aiV K1) e1];cases e1;exact h''.2 rfl)]
  rw[cB (abE p (hd (by rw[e,Zh];simp))) (λs hs e=>hd (e▸hw s hs))]
 ·rw[eV (r! (abE _ (((pK h).2 s0.1 (by rw[fy Zh])).2 y u hu s hs e))) (mE s hs s' gG e) (λs hs s' gG e=>((pK h).2 s.1 (hw s hs)).2 y u hu s' gG e.symm)];rw[fu e0 ((I.tr y u hu).st s' gG) hs (s=s0\/s∈old) (a! hs)]
  rcases hs with rfl | hs
  ·rw[←e,Bq]at e0;cases e0
  ·cases e1:dG with
   |none=>rw[pG (hn e1) hs hs]
   |some t=>exact(I.A4 x y t u e1 hu (dW aun)).1 s (by rw[au (ho t e1) hs]) s' gG e
 ·intro s hs
  have hs:s=s0\/s∈old:=a! hs
  show RS[s.1]? = _;rcases hs with rfl | hs
  ·exact aOK
  ·rcases awy W.locks s0.1 s.1 with e | e
   ·rw[pe (hold s hs)]
   ·exact e
 ·intro _;rw[uJ ⟨r,0,(pK h).1,by rw[cC fN],AR⟩ hs (s∈w) hs];rw[abL (RS[s.1]? = _) (abE _ (jm.1 (e▸lP s hs))) (aiV (hw s hs))]
def aIa PB gb fC{old:gV}{t:TB}K6(ht:t.tr=Cb ((jN).take 1++old) ((jN).drop 1)):wI (aae c7 W r x old) (aeN c7 B r x t):=
 ⟨jQ (aI7 S I.ln hp),qr S.DY,aKg S.DZ,S.tv,S.fP,S.Bj,λs r'=>aGi R I S h,qr S.o3,by show Qx r=iG _ AP;rw[S.falls,aGf],S.ticks,by show JS=iG GD (PJ t);rw[al8,S.trains,GD,ht]⟩
abbrev anr ly D8:bL:=
 Sq W (RH (SP 0 0 0)) trains (z? (atQ ahJ 1))
abbrev aKP UI vg xE:cI:=Sq B (MJ p) trains (PJ t)
def aYd K8 m6 La(aU:Ŝ []):q9 (anr W x t):=by
 rw[Ŏ w fN (∃s w,t.ahead=s::w) (by
  cases e:t.ahead with
  |nil=>rw[CM aU]
  |cons s w=>exact jy s w)]
 have T:=r7 hx;obtain⟨r,k,hr,hk,rQ⟩:=T.e8 aU;rw[fN]at hk rQ
 have jm:z3 (s0::w).map:=by
  have h1:((jN).drop k |>.map (·.1)).Nodup:=by
   rw[fX List.map_drop ((abe r).sublist (aBd _))]
  rw[←hk,bB,List.nodup_cons]at h1;exact h1.2
 rw[aCP bB jm];rw[fu Bq (rQ s0 Θ) g8 (IY s0) aOx.1];have aII:vC q (q≠s0.1->RS[q]? = IM q):= vH (agJ (dW (hq e.symm)))
 have afc:z3 (asJ ((s0::w).take 1)).map:=by
  show ic (s0.1::aBv);rw[List.nodup_cons];rw[iC IW T.nd];rw[Ew s hs e h];have:=T.st s hs;rw[e,Bq]at this;cases this
 rw[dz anr fN]
 refine I.put (x:=x) rfl Θ Sx Sx (λp=>awy _ _ _) (je r' h' p hp) (je y u ne hu) ⟨Θ,afc,?_,?_,Θ⟩
 ·rw[fJ h1 (((Ii h').2 p hp).2 x t hx) fN h1];rw[cB (abE p (h1 s0 Θ e.symm)) (r! (h1 s (iA hs)))]
 ·have hd:=I.A4 x y t u hx hu (dW aun);rw[T7,fN]at hd;rw[eV (r! (abE _ (hd.2 s0 Θ s hs e.symm))) (mE s hs s' gG e) (r! (hd.2 s (iA hs)))]
  have hs:s=s0\/ajx s:=a! hs
  rcases hs with rfl | hs
  ·have e0:=(I.tr y u hu).st s' gG;rw[←e,Bq]at e0;cases e0
  ·exact hd.1 s hs s' gG e
 ·intro s hs
  have hs:s=s0\/ajx s:=a! hs
  show RS[s.1]? = _;rcases hs with rfl | hs
  ·exact aOK
  ·rcases awy W.locks s0.1 s.1 with e | e
   ·rw[pe (T.st s hs)]
   ·exact e
 ·intro _;refine⟨r,k+1,hr,?_,AR⟩
  ·rw[←List.drop_drop,←hk];rfl
  ·have hs:s∈w:=hs;rw[abL (RS[s.1]? = _) (abE _ (jm.1 (e▸lP s hs))) (rQ s (iA hs))]
def aYe p9 G5 m6{t':TB}(ht:t'.tr=atQ ahJ 1):wI (anr W x t) (aKP B x (SP 0 0 0).1 t'):=
 ⟨jQ (aI7 S I.ln hp),qr S.DY,aKg S.DZ,S.tv,S.fP,S.Bj,S.greens,S.o3,S.falls,S.ticks,by show JS=iG GD I4;rw[al8,S.trains,GD,ht]⟩
abbrev T! ly D8:bL:=Ms W (z? t)
abbrev aD3 UI xE:cI:=Ms B (PJ t)
def aI8 G5 fC{t:TB}:wI (T! W x t.tr) (aD3 B x t):=
 ⟨S.locks,S.DY,S.DZ,S.tv,S.fP,S.Bj,S.greens,S.o3,S.falls,S.ticks,by show JS=iG GD (PJ t);rw[al8,S.trains,GD]⟩
def aI9 p9 fC{t t':iM}La(ha:t'.ahead=t.ahead)(hs:ng t'.steps (ajx s))(hT:Gv c7 sW W.locks t'):q9 (T! W x t'):=by
 refine I.put (W':=T! W x t') (x:=x) rfl rfl Sx Sx (λp=>Ω rfl) (λr' h' p hp=>kR (by rw[fX ha (((Ii h').2 p hp).2 x t hx)])) (λy u ne hu=>lR (Wn _ _)) hT;have hd:=I.A4 x y t u hx hu (dW aun);rw[cB (λs h=>hd.1 s (hs s h)) (by rw[au ha hd.2])]
def a0m p9 m6 La(ha:Yv)(hb:bR (sW ru.1 CJ)):q9 (T! W x (auL [])):=
 aI9 I hx ha.symm (λs h=>h) ⟨(r7 hx).ne,(r7 hx).nd,(r7 hx).st,λh=>absurd rfl h,λ_=>kR hb⟩
def aT0{t:iM}(h:t.steps.length≠1)(aU:ajt []):t.steps.dropLast≠[]/\t.steps.dropLast.headD (0,0,0)=ru:=by
 unfold eB;cases e:t.steps with
 |nil=>rw[CM aU]
 |cons s w=>
  cases w with
  |nil=>rw[pG e h h]
  |cons s' w=>simp
def aYf p9 m6 La(h1:t.steps.length≠1):q9 (T! W x L!):=by
 rw[ĥ T (r7 hx) h2 h3 (aT0 h1 T.ne)];rw[bJ hm (ng t.steps.dropLast (ajx s)) (λs h=>(aOe).subset h) e (eB L!=ru) h3];exact aI9 I hx rfl hm ⟨h2,T.nd.sublist ((aOe).map _),λs h=>T.st s (hm s h),λh=>by rw[pe (T.e8 h)],λh=>by rw[pe (T.ot h)]⟩
abbrev adr UJ:bL:=Ms W (Qp x)
abbrev aP3 UI:cI:=Ms B (ate x)
def a0n G5 fC:wI (adr W x) (aP3 B x):=
 ⟨S.locks,S.DY,S.DZ,S.tv,S.fP,S.Bj,S.greens,S.o3,S.falls,S.ticks,by show Qp x=iG GD (ate x);rw[aGf,S.trains]⟩
abbrev flip m8:rC:=(s.1,s.2.2,s.2.1)
abbrev Hm Ph:xG:=abN l s (aiy s.1) l
def amC:∀Ph,dR (Hm w l)=l.length
 |[],l=>rfl
 |s::w,l=>by show dR (Hm w (aiy s.1))=_;rw[fy (amC w)]
def amP vg:∀Ph,Qn p->(Hm w l)[p]? = oi p vA MN l[p]?
 |[],l,h=>aK Hm
 |s::w,l,h=>by
  show(Hm w (aiy s.1))[p]? = _;rw[amP p w _ (a! h),bB];rw[Ak (p∈vA)]
  ·rw[EK,auv h1]
  ·rw[mF EL h2 (s.1=p)]
   ·subst h2;rw[aC0,aN6]
   ·rw[R2 ((arp).elim (dW auh) h1),aOc]
def aKb Ph vg:(Hm w l)[p]? = l[p]? \/ ai1 (Hm w l) p:=by
 rw[jt (Qn p)]
 ·rw[amP p w l h];split
  ·exact aA rfl
  ·exact Ω rfl
 ·left;rw[E4 (by rw[n? amC]),abm]
def aJa Ph vg(hp:p∉vA):(Hm w l)[p]? = l[p]?:=by
 rw[jt (Qn p)]
 ·rw[amP p w l h,if_neg hp]
 ·rw[E4 (by rw[n? amC]),abm]
abbrev Kv gz(_:Nat)(u:Bl):Bl:=⟨u.u,u.ns.filter (qu y y x),u.bd⟩
abbrev Kw gz(_:Nat)(u:FB):FB:={ u with f7:=vz u.f7 iB none u.f7}
abbrev aeG ly D8:bL:=
 { W with locks:=atp,falls:=iG (Kv x) W.falls,trains:=ake []}
abbrev aKQ UI(e8:gV)xE:cI:={ B with locks:=Vp e8,falls:=Þ (Kw x),trains:=PJ t}
def aXX p9 m6 La:q9 (aeG W x t):=by
 rw[sy T (r7 hx) hm (∀s∈Ao,∃s'∈t.steps,s.1=s'.1) (λs h=>by
  rw[Mf s' h' h (jy s' (List.mem_reverse.mp h'))]) afc (z3 (Ao).map) (by
  rw[List.map_map,Fl (((·.1)∘flip:rC->Nat)=(·.1)),List.map_reverse]
  exact(List.reverse_perm _).nodup_iff.mpr T.nd)]
 rw[jw aeG (I.put (x:=x) rfl (amC _ _) Sx (by rw[au al7 Sx]) (λp=>aKb _ _ _) (je r' h' p hp) (je y u ne hu) ⟨?_,afc,?_,λh=>absurd rfl h,λh=>by cases h⟩)]
 ·have h'':RT:=by
   rcases h' with h' | h'
   ·exact Ω h'
   ·right;have h':r'∈gf (iG (Kv x) W.falls).map:=h';rwa[al7]at h'
  rw[iC (aJa _ _ _ IW) (r! (LR hs))]
  rw[Ew s hs e h];exact((Ii h'').2 p hp).2 x t hx s hs e
 ·have hd:=I.A4 x y t u hx hu (dW aun);rw[eV (r! (aJa _ _ _ IW)) (mE s hs s' gG e) (r! (LR hs))]
  ·rw[Ew s' gG e h];exact hd.2 s' gG s hs e
  ·rw[SW s2 h2 e2 (hm s hs) (hd.1 s2 h2 s' gG (e2.symm.trans e))]
 ·have:=T.ne;intro h;apply this;rw[t6 h2 (t.steps.reverse=[]) (List.map_eq_nil_iff.mp h) (List.reverse_eq_nil_iff.mp h2)]
 ·intro s hs;rw[ahW s2 e2 (hm s hs)];show atp[s.1]? = _;rw[e2];rcases aKb t.ahead W.locks s2.1 with e | e
  ·rw[pe (T.st s2 h2)]
  ·exact e
def aXY p9 G5 m6{t':TB}(ht:t'.tr=Cb Ao []):wI (aeG W x t) (aKQ B x t.ahead t'):=by
 refine⟨uc,aFZ _ _ S.DY,aG4 _ _ S.DZ,S.tv,S.fP,S.Bj,S.greens,S.o3,?_,S.ticks,by show JS=iG GD I4;rw[al8,S.trains,GD,ht]⟩
 ·show z! atp p (b9 (Vp t.ahead) p);rw[amP _ _ _ (by rw[au I.ln hp]),alW,asZ p];split<;>rfl
 ·show iG (Kv x) W.falls=iG _ (Þ (Kw x));rw[S.falls];rw[aqS iG];refine E5 q _;obtain⟨r,u,o,ob⟩:=q;simp only[Function.comp,Kv,Kw,KG];cases o with
  |none=>simp
  |some y=>rw[yH e y x e]
def aRw{W':bL}aa2(hn:W'.now=W.now)(hf:∀q∈W'.falls,∃q'∈W.falls,q'.2.u=q.2.u):Due W':=vH (by
 rw[Š q' h (hf q hq)];rw[hn,←e];exact D q' h)
def aIb aa2 gb fC{old:gV}:Due (aae c7 W r x old):=akJ D q aBI.1
def SF aa2 m6:Due (aeG W x t):=aRw D rfl (vH (by
 rw[Mf q' h hq (jy q' h)]))
def Inv.lt p9 Ea{v:fF}(h:h9 W.locks p v):p<n:=by
 rw[HS LJ.1 I.ln]
def Inv.ae6 p9 m6(h:dG=eU):t.steps.length≤n:=by
 rw[Qe (Zz (n:=n) (r7 h).nd (jQ (by
  rw[wu s hs hp (I.lt ((r7 h).st s hs))])))]
def Inv.a5q K8 m6(h:dG=eU):aqT n:=by
 rw[lE Yv]
 ·rw[fy e]
 ·obtain⟨r,k,hr,hk,_⟩:=(r7 h).e8 e;rw[fu h1 (Zz (n:=n) (abe r) (R.lt r hr)) h2 (gE (ru::t.ahead) (dR jN)) (by rw[fX hk (aBd _).length_le])]
  rw[EJ wW h1 d9 h1];rw[zE]at h2;omega
def TP{t:iM}(h:ajt []):ajx ru:=by
 unfold eB;cases e:t.steps with
 |nil=>rw[CM h]
 |cons s w=>simp
def aIc:∀(d:QO),Nv->(A1 d (q.2.steps≠[]))->(A1 d (∀q'∈d,q.1≠q'.1->T7 q.2 q'.2))->ic (MM q (eB q.2).1)
 |[],_,_,_=>Θ
 |q::d,hn,hs,hd=>by
  rw[bB,List.nodup_cons]at hn⊢;rw[iC IW (aIc d hn.2 (λq' h=>hs q' (aK h)) λa ha b hb=>hd a (aK ha) b (aK hb))];rw[Ew q' jT e h];rw[RO q'.1 q.1 e' (hn.1 (e'▸lP q' jT)) ((hd q' (aK jT) q Θ aU).1 _ (TP (hs q' (aK jT))) _ (TP (hs q Θ)) e)]
def Inv.aD4 p9:apX n:=by
 rw[Jj hm (LS (B6 q.1=uD q)) (vH auK) h1 (aIc W.trains I.kH (vH (JY (hm q hq)).ne) λq hq q' jT aU=>I.A4 _ _ _ _ (hm q hq) (hm q' jT) aU)]
 rw[Qe (Zz (n:=n) h1 (jQ (by
  rw[wu q hq hp (I.lt ((JY (hm q hq)).st _ (TP (JY (hm q hq)).ne)))])))]
universe zE
universe Sb
universe zE
end
mutual
section
namespace Sb
open PySem L2
section
variable {α:Type}
abbrev encD afk apn:nZ:=MM q ((jM q.1:Key),e q.1 q.2)
def am7 af0:((jM a:Key)=jM b)↔a=b:=by
 rw[n? Sum.inl.injEq]
def uO afk o8:∀d:BR α,nO (XM e) (jM k)=(b9 d k).map (e k)
 |[]=>rfl
 |q::d=>by
  have ih:=uO e k d;unfold nO encD at ih⊢
  rw[bB,List.find?_cons,ft];rw[jt (q.1=k)]
  ·rw[Al h]
  ·rw[pH];have h':auu (jM q.1:Key) (jM k):=decide_eq_false λe=>h (am7.mp e);rw[aqZ h' ih]
def ams afk o8(v:α)apn:kE (XM e) (jM k) (e k v)=Az e (i8 d k v):=by
 unfold kE i8 encD
 have ha:(MM q ((jM q.1:Key),e q.1 q.2)).any (Nb (j7=jM k))=d.any (pB q (q.1=k)):=by
  rw[aDE]
  congr 1
  funext q
  rw[agH am7]
 rw[ha];split
 ·rw[List.map_map,List.map_map]
  refine E5 q _
  rw[jt (q.1=k)]
  ·rw[Al h]
  ·have h':¬((jM q.1:Key)=jM k):=M4 (am7.mp e);rw[ahn pH (if_neg h')]
 ·simp
def amb afk o8 apn:Kz (XM e) (jM k)=Az e (i7 d k):=by
 unfold Kz i7 encD;rw[aqY]
 congr 1
 refine aAq q _;rw[agH (not_congr am7)]
abbrev jS afz apo:nZ:=MM q ((JR:Key),e q.1 q.2)
def amQ{a b:Int}:((asD:Key)=asE)↔a=b:=lQ Sum.inl.injEq
def zf afz(k:Int):∀d:Sd α,nO (jS e d) ĕ=(b9 d k).map (e k)
 |[]=>rfl
 |q::d=>by
  have ih:=zf e k d;unfold nO jS at ih⊢
  rw[bB,List.find?_cons,ft];rw[jt (q.1=k)]
  ·rw[Al h]
  ·rw[pH];have h':auu (JR:Key) ĕ:=decide_eq_false λe=>h (amQ.mp e);rw[aqZ h' ih]
def aIe afz(k:Int)(v:α)apo:kE (jS e d) ĕ (e k v)=jS e (i8 d k v):=by
 unfold kE i8 jS
 have ha:(MM q ((JR:Key),e q.1 q.2)).any (Nb (j7=ĕ))=d.any (pB q (q.1=k)):=by
  rw[aDE]
  congr 1
  funext q
  rw[agH amQ]
 rw[ha];split
 ·rw[List.map_map,List.map_map]
  refine E5 q _
  rw[jt (q.1=k)]
  ·rw[Al h]
  ·have h':¬((JR:Key)=ĕ):=M4 (amQ.mp e);rw[ahn pH (if_neg h')]
 ·simp
def aHd afz(k:Int)apo:Kz (jS e d) ĕ=jS e (i7 d k):=by
 unfold Kz i7 jS;rw[aqY]
 congr 1
 refine aAq q _;rw[agH (not_congr amQ)]
def axl afz apo:dR (jS e d)=d.length:=aK jS
def aV8{e:Int->α->aj}fC{t t':α}{d:Sd α}(hn:Nv)(h:b9 d x=eU)(he:e x t'=e x t):jS e (i8 d x t')=jS e d:=by
 unfold i8 jS;rw[jx ((Ý x).mpr ((mem_keys d x).mpr (by rw[cC h]))),List.map_map];refine E5 q hq;rw[aq6];by_cases e1:q.1=x
 ·have:=Yu;rw[e1,h]at this;cases this;rw[if_pos e1,e1,he]
 ·rw[Q7 e1]
def amt afk apn:dR (XM e)=d.length:=aK encD
universe zE
section
variable {M:aL}{n:Nat}{kvs:nZ}
def aRq qQ gX D! G3(hk:iH x=fE):JX x (ο n)=.ok (.ai (if neg then !(qm Ex) else qm Ex)) M:=by
 rw[MD jj amm h];simp only[L2.getD,h,hk,Option.map_some]
def Th{x v:aj}D! G3 aMR:eT (ο n) x M=.ok v M:=by
 rw[MD eT amm h];simp only[L2.getD,h,hk,Option.map_some,hv]
def Tw d5 gW gX aow(hx:zW):abV n i=.ok x M:=by
 have hl:JN:=aOw.1;simp only[eT,amm,h,u5,Bm];rw[BW,BW];simp[hx]
def aEM{k v:aj}{kk:Key}G3(hk:cu (iH k) kk)(hl:aqy lim):DG (ο n) k v M=aY (lS n .ak (kE kvs kk v)):=by
 simp only[DG,h,hk,at8]
def Tp d5 gW{v:aj}aow(hi:JN):DG (ο n) (η i) v M=aY (r? n (xs.set i v)):=by
 simp only[DG,h,Bm];rw[BW,BW];simp
def pP xC afp:EB n:=LJ.1
def get_set{o o':fB}afp:Se (Nh o') o':=agE (pP h)
def rA{m:Nat}{o':fB}(h:n≠m):(Nh o')[m]? = M[m]?:=aOh
universe zE
def y! zO{f6 gr dv:bu}p7(y:aj)(aa:aL)m7(M2:aL)(k:aj)(bE M':aL)aLY aLU(q:Q (.nx ρ M')):Q (k7 f6 gr dv ρ M):=by
 unfold k7;rw[hv,Res.pS,ho,Res.pS,hk,Res.pS,hp];exact q
def axm zO qR{ps:Ar bu}p7(h:oK ps ρ M=.ok () M)(q:Q (bW C ρ M)):Q (gj C ps ρ M):=by
 rw[jL gj h q]
def ZG zO gB p7 Pu K5 aL9:Q (qv d ρ M):=by
 rw[jL qv h q]
def ans zO gW gB p7 Pu K5 aL9:Q (lV i d ρ M):=by
 rw[jL lV h q]
@[simp] def aW0 rW tL cw aaH:(Res.exc c M:yd).bind f=bW c M:=rfl
@[simp] def a8g{a b:bu}p7:xf a b ρ M=xR (a ρ M).bind (match x with | .ai k=>oq k (b ρ aa) (.ok (qa .ai) aa) | _=>aF):=by
 unfold xf
 congr 1
 funext x aa
 cases x<;>try rfl
 rename_i k;cases k<;>rfl
@[simp] def aJb{a b:bu}p7:ae1 a b ρ M=xR (a ρ M).bind (match x with | .ai k=>if aO k then .ok (ju .ai) aa else b ρ aa | _=>aF):=by
 unfold ae1
 congr 1
 funext x aa
 cases x<;>try rfl
 rename_i k;cases k<;>rfl
@[simp] def a8o qQ iO cw:gw neg (η i) .ah M=.ok (.ai neg) M:=by cases neg<;>rfl
@[simp] def a8p qQ cw:gw neg .ah .ah M=.ok (.ai ! neg) M:=by cases neg<;>rfl
@[simp] def a8q qQ br cw:gw neg (ο n) .ah M=.ok (.ai neg) M:=by cases neg<;>rfl
@[simp] def aXZ Pe:u6 (η i) (η j) M=.ok (.ai (iY (i<j))) M:=rfl
@[simp] def aIf Pe:avD (η i) (η j) M=.ok (.ai (F4 i j)) M:=rfl
@[simp] def aX0 Pe:tg (η i) (η j) M=.ok (.ai (iY (j<i))) M:=rfl
@[simp] def a8h Pe:alf (η i) (η j) M=.ok (.ai (F4 j i)) M:=rfl
universe Sb
universe zE
section
namespace Sb
open PySem L2
structure eE where
 aT:Addr
 fa:Addr
 dK:Addr
 he:Addr
 tr:Addr
 rd:Addr
structure eJ where
 ps:alG
 ss:BN
 rs:xH
 wait:Int
inductive tF where
 |yard
 |fall dZ
 |train gz
 |steps gz
 |ahead gz
 |DI
abbrev Bg gc PC:sG:=
 [("found",A7 Y.rs),("pieces",kN),aAK Rm,JC (η Y.wait),PK (η t),WN (ο 1),abO (ο 2),ajy (ο 3),("falls",ο 4),("trains",ο 5)]
abbrev kG(b:Bool):aj:=aE (if b then "straight" else "branch")
abbrev fY:eF->aj
 |XA=>η i
 |none=>.ah
abbrev uZ(u:FB):sG:=[AQ u.u,aby u.f7]
abbrev lj xE:sG:=[("steps",ο t.so),("ahead",ο t.sP),("is_out",.ai t.tr.out)]
abbrev eI:p! (p! aj):=cQ r (η r)
abbrev J_:akZ FB:=cQ u (ο u.ob)
abbrev Ge:Int->TB->aj:=cQ t lJ
structure amM(C:eE)D7 gz xE:Prop where
 ot:o t.ob=W8 x
 os:o t.so=vU x
 oa:o t.sP=qn x
 mt:Ep M = Er
 ms:Eo M = Hp
 ma:aiN M aqG
structure dt p5(e:eF)D7 o9:Prop where
 y0:M[0]? = Ey HE
 y1:M[1]? = Qz .ak eI B.locks
 y2:qZ M 2 (B.lying.map kG)
 y3:M[3]? = Qz .ak eI B.greens
 y4:ajI M 4 .ak
 y5:v5 M 5 .ak Xl
 lo:∀i≤5,o i=.yard
 hi:∀i,ġ i->o i=.DI
 qI:Qu q (o q.2.ob=RJ q.1/\M[q.2.ob]? = ai5 (uZ q.2))
 awG:agm q (e≠some q.1->amM C o M q.1 q.2)
structure k8 D7(o':dg)K5:Prop where
 len:aAh
 tag:apH i (o' i=o i)
 out:apH i (o i=.DI->M'[i]? = M[i]?)
def k8.refl{o:dg}cw:FH M:=⟨fe,Wn _ _,λ_ _ _=>rfl⟩
def k8.trans{o o1 o2:dg}{M aa M2:aL}(a:NV o1 aa)(b:k8 o1 aa o2 M2):NV o2 M2:=
 ⟨Nat.le_trans a.len b.len,λi h=>e7 (b.tag i (aAR h)) (a.tag i h),λi h1 h2=>e7 (b.out i (aAR h1) (e7 (a.tag i h1) h2)) (a.out i h1 h2)⟩
def k8.set{o:dg}cw br{v:fB}(h:o n≠.DI):FH (Nh v):=⟨Θ,Wn _ _,λi _ hi=>rA (M4 (e▸hi))⟩
abbrev kB(o:dg)dj(g:tF):dg:=M! i i n g (o i)
def Kc{o:dg}br{g:tF}:kB o n g n=g:=eK
def Od{o:dg}{n i:Nat}{g:tF}(h:i≠n):kB o n g i=o i:=pH
def k8.push{o:dg}cw{v:fB}{g:tF}:NV (kB o M.length g) (M++[v]):=⟨Θ,λi h=>Od aD,aAE i h _ h⟩
def Zq{o:dg}{i j:Nat}{a b:tF}(h1:o i=a)(h2:o j=b)(h:a≠b):i≠j:=M4 (by rw[←h1,←h2,e])
section
variable {C:eE}{Y:eJ}{e:eF}{o:dg}{M:aL}{B:cI}{ρ:ej}
def dt.gt jq gW{g:tF}(hi:o i=g)(hg:g≠.yard):5<i:=by
 by_cases h5:i≤5
 ·rw[nF ((atX (h.lo i h5)) hi).symm hg]
 ·omega
def dt.mv jq UP{B':cI}(hl:xO)(h0:M'[0]? = Ey (Bg Y B'.ticks))(h1:M'[1]? = Qz .ak eI B'.locks)(h2:qZ M' 2 (B'.lying.map kG))
  (h3:M'[3]? = Qz .ak eI B'.greens)(h4:M'[4]? = Qz .ak J_ B'.falls)(h5:v5 M' 5 .ak (jS Ge B'.trains))(hf:A1 B'.falls (q∈B.falls))(ht:A1 B'.trains (asy q))(hm:∀i,5<i->M'[i]? = M[i]?):dt C Y e o M' B':=
 ⟨h0,h1,h2,h3,h4,h5,h.lo,λi hi=>h.hi i (by rw[cA hl hi]),Xr q (h.qI q (hf q hq)).1 (e7 (hm _ (LO (h.qI q (hf q hq)).1)) (h.qI q (hf q hq)).2),λq hq he=>by
  have T:=Ra (ht q hq) he
  exact I8 (e7 (hm _ (LO T.ot)) T.mt) (e7 (hm _ (LO T.os)) T.ms) (e7 (hm _ (LO T.oa)) T.ma)⟩
def dt.a5r jq PC:dt C Y e o (LF 0 (dB C.aT (Bg Y t))) (HO ticks t):=
 h.mv Θ (get_set h.y0) Ġ Ģ Ĥ ş ai3 (cQ h h) (cQ h h) λi hi=>rA aD
def dt.aP4 jq(l:Ek):dt C Y e o (lS 1 .ak (encD eI l)) (S6 B l):=
 h.mv Θ Qc (get_set h.y1) Ģ Ĥ ş ai3 (cQ h h) (cQ h h) λi hi=>rA aD
def dt.put2 jq(l:AD):dt C Y e o (r? 2 (l.map kG)) (HO lying l):=
 h.mv Θ Qc Ġ (get_set h.y2) Ĥ ş ai3 (cQ h h) (cQ h h) λi hi=>rA aD
def dt.put3 jq(l:Ek):dt C Y e o (lS 3 .ak (encD eI l)) (HO greens l):=
 h.mv Θ Qc Ġ Ģ (get_set h.y3) ş ai3 (cQ h h) (cQ h h) λi hi=>rA aD
def dt.aKR jq dZ:dt C Y e o (lS 4 .ak (Az J_ AP)) (HO falls AP):=
 h.mv Θ Qc Ġ Ģ Ĥ aDJ ai3 (cQ h aq5.1) (cQ h h) λi hi=>rA aD
def dt.a3I jq gz:dt C Y e o (Xh 5 .ak Ge (ate x)) (Ms B (ate x)):=
 h.mv Θ Qc Ġ Ģ Ĥ ş arR (cQ h h) (cQ h aq5.1) λi hi=>rA aD
def dt.push jq(v:fB)(g:tF):dt C Y e (kB o M.length g) (M++[v]) B:=by
 rw[LY a (∀apg,jz M v'->jz (M++[v]) v') (dW (Mp e e)) b (∀apg,jz M v'->kB o M.length g i=o i) e (Od (by rw[eg (pP e)]))]
 exact⟨a h.y0,a h.y1,a h.y2,a h.y3,a h.y4,a h.y5,λi hi=>e7 (Od (by rw[eg (pP h.y5)])) (h.lo i hi),λi hi=>by
   rw[List.length_append,List.length_singleton]at hi;exact e7 (Od aD) (h.hi i aD),
  Xr q (Wo (h.qI q hq).2 CI) (a (h.qI q hq).2),λq hq he=>by
   have T:=Ra hq he
   exact⟨Wo T.mt T.ot,Wo T.ms T.os,Wo T.ma T.oa,a T.mt,a T.ms,a T.ma⟩⟩
def amM.push fC{t:TB}aol(v:fB)(g:tF):NT (kB o M.length g) (M++[v]) t:=by
 rw[LY a (∀apg,jz M v'->jz (M++[v]) v') (dW (Mp e e)) b (∀apg,jz M v'->kB o M.length g i=o i) e (Od (by rw[eg (pP e)]))];exact⟨Wo T.mt T.ot,Wo T.ms T.os,Wo T.ma T.oa,a T.mt,a T.ms,a T.ma⟩
def amM.set fC{t:TB}aol gW{v:fB}{g:tF}(hi:o i=g)(h1:g≠W8 x)(h2:g≠vU x)(h3:g≠qn x):BQ (M.set i v) t:=
 I8 (x! (Zq hi T.ot h1) T.mt) (x! (Zq hi T.os h2) T.ms) (x! (Zq hi T.oa h3) T.ma)
def dt.own(h:J3)gW{v:fB}(hi:o i=W8 x\/o i=vU x\/o i=qn x):dt C Y iB o (M.set i v) B:=by
 have g:∀{j:Nat}{g:tF},o j=g->g≠W8 x->g≠vU x->g≠qn x->(M.set i v)[j]? = M[j]?:= λhj h1 h2 h3=>rA (by
  rcases hi with hi | hi | hi
  ·exact Zq hi hj (Ne.symm h1)
  ·exact Zq hi hj (Ne.symm h2)
  ·exact Zq hi hj (Ne.symm h3))
 have y:∀j≤5,(M.set i v)[j]? = M[j]?:= λj hj=>ă (h.lo j hj) (nofun)
 refine⟨ab7 0 h.y0,ab7 1 h.y1,ab7 2 h.y2,ab7 3 h.y3,ab7 4 h.y4,ab7 5 h.y5,h.lo,λj hj=>h.hi j (a! hj),
  Xr q CI (e7 (ă CI (nofun)) (h.qI q hq).2),cG q hq he⟩
 rw[fu T (Ra hq he) hn (q.1≠x) (dW (he (lQ e)))];exact I8 (e7 (g T.ot (auM (tF.train.inj e)) nofun nofun) T.mt) (e7 (g T.os nofun (auM (tF.steps.inj e)) nofun) T.ms) (e7 (ă T.oa (auM (tF.ahead.inj e))) T.ma)
def dt.but p_ gz:J3:=⟨h.y0,h.y1,h.y2,h.y3,h.y4,h.y5,h.lo,h.hi,h.qI,λq hq _=>V! q hq⟩
def dt.seen fC{t t':TB}(h:J3)(hn:ajW)(hx:nr=eU)(T:BQ M t')(ho:t'.ob=t.ob):BV M (Ms B I4):=by
 refine⟨h.y0,h.y1,h.y2,h.y3,h.y4,?_,h.lo,h.hi,h.qI,cG q hq _⟩
 ·rw[W5 (v5 M 5 .ak (jS Ge I4)) (aV8 hn hx (by show aj.obj t'.ob=aj.obj t.ob;rw[ho])) h.y5]
 ·have hq:q∈I4:=hq
  rw[fJ zJ (WG (aeb hn)) zd zJ];rw[lE (q.1=x)]
  ·rw[yL]at zJ;cases zJ;rw[pe T]
  ·rw[bG wF zJ (Ra (Dt zJ) (λe'=>e (aO0).symm))]
def dt.a5s fC{t':TB}(h:J3)(hn:ajW)(T:BQ M t'):BV (Xh 5 .ak Ge I4) (Ms B I4):=by
 have T':=ats i 5 v (.ak (jS Ge I4)) (SM 5);have g:∀i,5<i->(Xh 5 .ak Ge I4)[i]? = M[i]?:= λi hi=>rA aD
 rw[uJ ⟨Qc,Ġ,Ģ,Ĥ,ş,arR,h.lo,λi hi=>h.hi i XT,
  Xr q CI (Nr _ (LO CI) (h.qI q hq).2),cG q hq _⟩ hq (q∈I4) hq];rw[fJ zJ (WG (aeb hn)) zd zJ];rw[lE (q.1=x)]
 ·rw[yL]at zJ;cases zJ;rw[pe T']
 ·rw[wF]at zJ;have T2:=Ra (Dt zJ) (λe'=>e (aO0).symm);exact⟨T2.ot,T2.os,T2.oa,Nr _ (LO T2.ot) T2.mt,Nr _ (LO T2.os) T2.ms,Nr _ (LO T2.oa) T2.ma⟩
def dt.keep jq UP aLR:dt C Y e o M' B:=by
 rw[bJ g (∀gW{v:fB},AN M->o i≠.DI->AN M') (λe hn=>Ĝ _ (pP e) hn e) y (∀gW{v:fB},AN M->i≤5->AN M') (λe hi=>g e (by rw[uG (h.lo _ hi)]))]
 exact⟨y h.y0 aZ,y h.y1 aZ,y h.y2 aZ,y h.y3 aZ,y h.y4 aZ,y h.y5 aZ,h.lo,λi hi=>h.hi i (Nat.le_trans hl hi),Xr q CI (g (h.qI q hq).2 (by rw[uG CI])),λq hq he=>by
  have T:=Ra hq he
  exact I8 (g T.mt (by rw[uG T.ot])) (g T.ms (by rw[uG T.os])) (g T.ma (by rw[uG T.oa]))⟩
def dt.fld jq G! gX gB azA(hf:mH HE f=iB):lW C.aT f d ρ M=.ok x M:=by
 unfold lW;rw[uy hd ag (Ko h.y0)];rw[cC hf]
variable {t:Int}
def aec:CW (Str.ofString "found")=aY WU:=cS
def Gi:CW (Str.ofString "pieces")=Nl:=cS
def awr:CW (Str.ofString "signals")=aY Rm:=cS
def a2z:CW (Str.ofString "wait")=dh Y.wait:=cS
def axQ:CW (Str.ofString "ticks")=dh t:=cS
def amR:CW (Str.ofString "locks")=iz 1:=cS
def axR:CW (Str.ofString "lying")=iz 2:=cS
def amu:CW (Str.ofString "greens")=iz 3:=cS
def vi:CW (Str.ofString "falls")=iz 4:=cS
def adW:CW (Str.ofString "trains")=iz 5:=cS
def aG6:bR (CW (Str.ofString "train_in")):=cS
def aV9:bR (CW (Str.ofString "lock_of")):=cS
def dt.met jq{m:Str}Eb gB BH d5 azA(hf:bR (mH HE m))(ha:xV=.ok xs M):Uc C.aT m g d ds ρ M=g (ο 0::xs) M:=by
 unfold Uc;rw[uy hd ag (Ko h.y0)];rw[j3 hf];rw[ha,ag]
abbrev cm p8 dj:Bool:=F4 0 i&&iY (i<n)
def aT1 d5 iO:dE [ς xs,η i] M=.ok (.ai (ħ i)) M:=by
 rw[nv dE r (r=.ok (.ai (ħ i)) M)];refine yl (.ai (ħ i));by_cases h:0≤i<;>simp[fM,h,cm]
def Kg iO(h : -1000≤i)(h2:aCB i):ŏ i:=by
 rw[jw small (decide_eq_true (lR ?_))]
 ·rw[EG (aS (-(2 ^ 64)) = -18446744073709551616) aZ]
 ·rw[EG (aS (2 ^ 64)=18446744073709551616) aZ]
abbrev rT p8:Prop:= -1000≤i/\aCB i
def ae7 iO{y:aj}BI:oK [none,n6,none] [C!,yo] M=.ok () M:=by
 have h:=Kg hi.1 hi.2;simp only[oK,av,aX,aW,ag,h,if_true]
def axS d5{dK aT:Addr}G! iO jq BI(hf:mH HE f=g!):
  Dp 2 (Xd (cU (aB dE [(MG f),az])) (gj dK [none,n6,none])) [ο 0,η i] M=BU (ħ i) .ok .ah (bW dK M):=by
 refine RP P r (r=BU (ħ i) .ok .ah (bW dK M));rw[dm e (nw [aM,yo] hf) (xY (!(ħ i)))]
 ·simp[e,aT1,fO]
 ·refine axm (ae7 hi) (dq ?_);rw[sr qt]
 ·rw[r9 (qw ?_)];rw[jx qt]
def acX iO jq BI:aET C.dK C.aT dE [ο 0,η i] M=BU (Ln i) .ok .ah g_:=by
 rw[Mn (axS (dK:=C.dK) (aT:=C.aT) h hi aec) d9 this]
def acY iO jq BI:aEU C.dK C.aT dE [ο 0,η i] M=Sg .ok .ah:=by
 rw[Mn (axS (dK:=C.dK) (aT:=C.aT) h hi Gi) d9 this]
def acP iO jq BI:aEO C.dK C.aT dE [ο 0,η i] M=Ĭ i .ok .ah:=by
 rw[Mn (axS (dK:=C.dK) (aT:=C.aT) h hi awr) d9 this]
abbrev uU:ow fj
 |.pl _ _=>false
 |.pt _ _ _=>true
def adf rZ:nz agd M=.ok (.ai (uU p)) M:=by
 rw[nv nz r (r=.ok (.ai (uU p)) M)];refine yl (.ai (uU p));cases p<;>simp[fj.enc,uU]
def a53 iO br(h:aO (cm i n)):∃k:Nat,i=k/\k<n:=by
 rw[qs cm];rw[F9];rw[bQ i.toNat aD aD]
def avm{k n:Nat}(h:k<n):aO (cm (aS k) n):=by
 unfold cm;rw[Ab h]
abbrev uM jY vg:Bool:=uU (eH p)
abbrev ac6 p8 jY:Bool:=cm i ps.length&&uM ps i.toNat
def acU iO{bK dM:D1}jq BI azW aL0:
  avx C.dK C.aT bK dM [ο 0,η i] M=æ i .ok .ah:=by
 rw[nv avx r (r=æ i .ok .ah)];rw[VG ac6 ho (Hy i)]
 ·rw[if_pos ho]at hc;rw[z9 k hk ho]
  rw[o? (C? .ah M (aK hc))];have e:=nw [aM,ko] Gi;rw[ia ho (xY (!(agl k)))]
  ·simp[e,OE hk,hp,fO,uM]
  ·rw[n9 (axm (ae7 hi) (dq ?_)) hk (aus k) qt]
   rw[Int.toNat_natCast,hk];rfl
  ·rw[n9 (dy (qw ?_)) hk (aqd k) qt]
   rw[Int.toNat_natCast,hk];rfl
 ·have ho:cW (Hy i):=a! ho
  rw[ho]at hc⊢;rw[o? (ZG C.dK M (aK hc) (rD (dq ?_)))];rfl
def aIU{rs:xH}azH:h9 rs r (Hh rs r,YL rs r):=by
 unfold Hh YL;rw[apU h];rfl
def Go{rs:xH}azH:zX (A7 rs) r=.ok (aQ [η (Hh rs r),cv (YL rs r)]) M:=Dq (by rw[gI,aIU h];rfl)
def alV gb jq G8:alH C.aT [ο 0,η r] M=.ok (η b_) M:=by
 rw[nv alH q (q=.ok (η b_) M)];rw[vS e (nw [aM,b6] aec) (Cr (η b_) M (gh e (Go hr)))]
def ami gb jq G8:al1 C.aT [ο 0,η r] M=.ok g4 M:=by
 rw[nv al1 q (q=.ok g4 M)];rw[vS e (nw [aM,b6] aec) (Cr g4 M (gh e (Go hr)))]
def lL UQ aMI xD r3:avP bN [kN,η a,η j] M=.ok (.ai (R? j).isNone) M:=by
 rw[nv avP q (q=.ok (.ai (R? j).isNone) M)];refine yl (.ai (R? j).isNone);cases e:R? j<;>simp[hb,e,bl]
abbrev A3 gc qS:Bool:=(E3 (gP s).2 (gP s).1).isNone
def aly UQ PD jq(hs:wc)aMF:alE C.aT bN [ο 0,η s] M=.ok (.ai lH) M:=by
 rw[nv alE q (q=.ok (.ai lH) M)];rw[i6 e1 (nw [aM,fc,none] awr) e2 (nw [aM,fc,aY XG] Gi) (se XG (gh e1 (TX hs)))];exact Cr (.ai lH) M (by simp[e2,e9,hb,A3]at e2⊢)
def aWa iO{bK:D1}jq azW:
  avu C.aT bK [ο 0,η i] M=Sg .ok (bl (LG i.toNat)):=by
 rw[nv avu q (q=Sg .ok (bl (LG i.toNat)))]
 rw[q_ ho (Hy i)]
 ·rw[ho]at hc⊢
  rw[z9 k hk ho]
  rw[o? (lX .ah M (aK hc) (aji (bl (LG k))))];have e:=nw [aM,ko] amR;unfold aeh;rw[Fl (([aj.obj 0,aj.int ↑k].map some++agG (2 - lI [aj.obj 0,aj.int ↑k]) none:ej)=[aM,ko]),e,ag,pT h.y1]
  rw[NN];rw[pT h.y1];rw[su iH uO];cases LG k<;>rfl
 ·have ho:cW (Hy i):=a! ho
  rw[ux ho hc (cj (Yi M))]
def a2A iO{bK:D1}jq(hl:aCi)aL7:
  aFc C.aT bK [ο 0,η i] M=æ i .ok (kG (Ls i.toNat)):=by
 rw[nv aFc q (q=æ i .ok (kG (Ls i.toNat)))]
 rw[q_ ho (HW i)]
 ·rw[ho]at hc⊢
  rw[z9 k hk aOI.1]
  rw[o? (lX .ah M (aK hc) (aji (kG (Ls k))))];rw[fu e (nw [aM,ko] axR) cE (ar5 k) (by rw[au hl hk])]
  simp only[bB,zD,zE,gx,Nat.zero_add,Nat.reduceAdd,Nat.reduceSub,List.replicate,f9,fz,eP,ao,e,ag,av,aX,aW];exact Tw h.y2 (by rw[gI,List.getD_eq_getElem?_getD,List.getElem?_eq_getElem cE];rfl)
 ·have ho:cW (HW i):=a! ho
  rw[ux ho hc (cj (Yi M))]
def aUH iO{bK:D1}jq(hc:bK [ο 0,η i] M=Ĭ i .ok .ah):
  mx C.aT bK [ο 0,η i] M=Ĭ i .ok (.ai (atI i.toNat)):=by
 rw[nv mx q (q=Ĭ i .ok (.ai (atI i.toNat)))]
 rw[q_ ho (LP i)]
 ·rw[ho]at hc⊢;rw[z9 k hk ho];rw[o? (lX .ah M (aK hc) (aji (.ai (atI k))))];have e:=nw [aM,ko] amu;simp only[bB,zD,zE,gx,Nat.zero_add,Nat.reduceAdd,Nat.reduceSub,List.replicate,f9,fz,eP,ao,e,ag,av,aX,aW];rw[WA h.y3 k (jM k),uO];simp
 ·have ho:cW (LP i):=a! ho
  rw[ux ho hc (cj (Yi M))]
universe zE
universe Sb
universe zE
end
mutual
section
namespace Sb
open PySem L2
def axn cw br xC afp:Nh o=M:=by
 refine aqb i;rw[lE (n=i)]
 ·subst e;rw[get_set h,h]
 ·rw[rA e]
def Tq cw br{o o':fB}afp:(Nh o').set n o=M:=by
 rw[List.set_set,axn h]
abbrev aYr dj(kvs:nZ)(Q:Ej):Ej
 |.nx ρ M=>Hj .bO/\Q (.nx ρ (JU .ak))
 |.eO x M=>Hj .bO/\Q (.eO x (JU .ak))
 |_=>False
def Z! zO UL{s:cR}aaG D6 d5 G3(hi:HD M=.ok (xs,I6 .bO) M')(hs:aYr n kvs Q (s ρ M)):Q (Bd gr s ρ M):=by
 unfold Bd amH;rw[j3 hi];rw[j3 h];revert hs;cases s ρ M with
 |nx ρ M=>rintro⟨a,b⟩;rw[sf aeE];rw[au (if_pos a) b]
 |eO x M=>rintro⟨a,b⟩;rw[sf aeE];rw[au (if_pos a) b]
 |_=>exact False.elim
def axo gB p7 D6 G3 ao4:Ow d ρ M=.ok (SH q (aQ [xk q.1,q.2]),I6 .bO) (JU .bO):=by
 rw[Yo Ow hd (pT h)]
def aZN gB p7 D6 G3 ao4:BM d ρ M=.ok (SH q q.2,I6 .bO) (JU .bO):=by
 rw[Yo BM hd (pT h)]
def keys_eq gB p7 D6 G3 ao4:OD d ρ M=.ok (ai7 q q.1,I6 .bO) (JU .bO):=by
 rw[Yo OD hd (pT h)]
abbrev aEi(q:Int×TB):aj:=aQ [η q.1,ο q.2.ob]
abbrev aQj(q:Nat×FB):aj:=aQ [η q.1,ο q.2.ob]
def aIV(d:Sd TB):((jS Ge d).map λq=>RG (xk q.1) q.2)=d.map aEi:=by rw[Mm jS]
def aZO(d:BR FB):((XM J_).map λq=>RG (xk q.1) q.2)=d.map aQj:=by rw[Mm encD]
section
variable {C:eE}{Y:eJ}{e:eF}{o:dg}{M:aL}{B:cI}{ρ:ej}{t:TB}
def aRx G! gX gB(h:Ep M = Er)(hd:dN=.ok lJ M)(hf:mH F7 f=iB):lW C.tr f d ρ M=.ok x M:=by
 unfold lW;rw[uy hd ag (Ko h)];rw[cC hf]
def Tz:mH F7 (Str.ofString "steps")=iz t.so:=cS
def amD:mH F7 (Str.ofString "ahead")=iz t.sP:=cS
def ayO:mH F7 (Str.ofString "is_out")=d7 .ai t.tr.out:=cS
def OO aa8 G! gX gB(h:M[0]? = Ey (Bg Y tk))azA(hf:mH (Bg Y tk) f=iB):lW C.aT f d ρ M=.ok x M:=by
 unfold lW;rw[uy hd ag (Ko h)];rw[cC hf]
def Y? azZ(hl:Lq):avt C.tr [lJ] M=.ok (bX Sf) M:=by
 rw[nv avt q (q=.ok (bX Sf) M)];rw[dm e (SI ρ [fV] d aq h1 Tz) (yl (bX Sf))];show YA (b5 (aDf C.tr)) [fV] M=_;rw[yY (xs:=t.tr.steps) (w:=ql t.so (ς ô)) (M':=M) bk x9 (CR s s) (j8 [y]) (Om e h2) h2 (gg none) (nu x) Rd]
 ·rw[C0 _ _];rw[iU uT (jx (by rw[Df hl])) nC];rw[Mm bX]
 ·rw[VE y _ _ Na]
abbrev awc(d:Sd TB)(p:Int):eF:=gf (d.find? (HQ q p (abD q.2 s.1))).map
def aUI iO{bK f5:D1}p_ azW
  aMD(hl:ajl q q.2):
  alx C.aT bK f5 [ο 0,η i] M=Sg .ok (fY (Vg i)):=by
 rw[nv alx q (q=Sg .ok (fY (Vg i)))]
 rw[q_ ho (Hy i)]
 ·rw[ho]at hc⊢;simp only[bB,zD,zE,gx,Nat.zero_add,Nat.reduceAdd,Nat.reduceSub,List.replicate,f9,fz,eP];rw[o? (lX .ah M (aK hc) Yt)];rw[fJ hi (axo h.y5 (nw [aM,yo,none,none] adW)) aIV hi]
  refine Z! h.y5 hi ?_;rw[cV hz (v5 (QS 5 .bO) 5 .bO Xl) arR (kC aEi (z4 (∃y z,ρ=[aM,yo,y,z]/\M'=QS 5 .bO/\aq3 (HQ q i (abD q.2 s.1)))) B.trains _ _ hi hz (jd none none rfl rfl) ?_ ?_)]
  ·rintro pre q post hx ρ M' ⟨y,z,rfl,rfl,i!⟩;rw[ahM _ hq (asy q) (by rw[n!])]
   rw[cF T (V! q hq) T' (ats i 5 v (.bO Xl) (SM 5))]
   rw[dm e1 (hu q.2 _ T'.mt T'.ms (hl q hq)) (yj (mw i (abD q.2 s.1)) (QS 5 .bO))]
   ·rw[dD,ao,av];dsimp only[List.set_cons_succ,List.set_cons_zero,aX,aW];rw[ag,bV,aJ,av];rw[j!];rw[ag,bq,ag,ag,e1,ag];rw[j9 (bX (gf q.2.tr.steps.map)) (ς ((abD q.2 s.1).map η)) (aK bX),amq]
    rfl
   ·refine ū (η q.1) (QS 5 .bO) ⟨hz,cx (fS ?_)⟩;rw[FP (Tq h.y5) trivial];unfold awc;rw[hx,List.find?_append,i!,List.find?_cons,hk];rfl
   ·rw[r9 (A2 hz (jd _ _ rfl ?_))];rw[List.find?_append,i!,List.find?_cons,hk];rfl
  ·rw[Ic M' y z rfl rfl i!];rw[iC hz (gN (bp .ah M (by rw[cC (Tq h.y5)]) (fS ?_)))];rw[iU awc i! (if_pos trivial)];rfl
 ·have ho:cW (Hy i):=a! ho
  rw[ux ho hc (cj (Yi M))]
abbrev a2B cZ dj dF(ti:mj):Prop:=vC p (p<n->∃x,g [ο 0,η p] M=.ok x M/\gw true x .ah M=.ok (.ai (ti p)) M)
def acJ Ea UR{ti:mj}p_(ht:a2B gt Y.ps.length M ti)(hp:vB)(hs:rT p):
  avo C.he C.aT gt [ο 0,η p] M=aqk (zT||ti p) M (.ok .ah M):=by
 rw[jw avo (pO (P:=λq=>q=aqk (zT||ti p) M (.ok .ah M)) ?_)]
 simp only[bB,zD,zE,gx,Nat.zero_add,Nat.reduceAdd,Nat.reduceSub,List.replicate,f9,fz,eP]
 rw[q8 e (nw [aM,lF] amR) (SD zT M ?_)]
 ·simp[e];rw[WA h.y1 k (jM p),uO];simp
 ·have e3:=ae7 (M:=M) (y:=ο 0) hs;rw[BX gj e3];refine rD (dq ?_);rw[hk,Bool.true_or,eK]
 ·rw[đ x h2 (ht p hp)];rw[Đ e2 (h.met (ρ:=[aM,lF]) (g:=gt) (d:=aq) (ds:=[az]) (xs:=[η p]) rfl aG6 rfl) (gN (F1 (ti p) M))]
  ·show(CB (gw true) (Uc C.aT "train_in" gt aq [az]) (dC .ah)) [aM,lF] M=_;rw[dD,ao,e2,h1,ag,bb,ag,h2];rfl
  ·refine axm (ae7 hs) (dq ?_);rw[cE,Bool.or_true,eK]
  ·rw[r9 (qw ?_)];rw[hk,cE,Bool.or_false,nC]
abbrev KH rZ m8:Bool:=match p with
 |.pl _ _=>true
 |.pt _ _ b=>HX b [s.2.1,s.2.2]
abbrev amN jY m8:Bool:=KH (eH s.1) s
def aIW m8:tu false (bk s) sC none M=.ok (aQ ([s.2.1,s.2.2].map η)) M:=rfl
def ady{dM:D1}aL0 rZ m8:avU dM [p.enc,bk s] M=.ok (kG (KH p s)) M:=by
 rw[nv avU q (q=.ok (kG (KH p s)) M)];cases p with
 |pl a b=>
  rw[o? (tI M ?_ (dy (gN (bp mD M rfl (fS rfl)))))];simp[hp,fO,uU]
 |pt t u b=>
  rw[vL e (Ć (η b) (aQ ([s.2.1,s.2.2].map η)) M=_) aIn (xY (mw b [s.2.1,s.2.2]))]
  ·simp[hp,fO,uU];simp only[fj.enc,a3G,ag,aIW];rw[fy e]
  ·refine H? NC M (fS ?_);simp only[KH,hk,kG];rfl
  ·rw[r9 (MX mD M ?_)];simp only[KH,hk,kG];rfl
abbrev amo o9(ti:mj)l!:Bool:=w.any λs=>ap4 s.1||ti s.1
def aUJ dZ l! m8(d:Ek):Ob r (w++[s]) d=i8 (Ob r w d) s.1 r:=by rw[ť Ob]
def aWb Pw l! m8(l:AD):DN mV (w++[s]) l=(DN mV w l).set s.1 (mV s):=by rw[ť DN]
def Zt br{l:eG}(h:l.Nodup)(hl:∀x∈l,x<n):l.length≤n:=Zz h hl
def adi iO{bK bU g7 gl gs:D1}{ti:mj}p_ G? aa9(hss:aDC 16)(KZ:Lr akC)
    (jm:ic art)(g8:fT art vB)(alq:aCi)(alo:ic arh)(s8:ng arh wc)
    aLT
    (hw:vC r (jZ->bU [ο 0,η r] M=.ok g4 M))
    aMs
    (hl:∀M p s,gl [fj.enc p,bk s] M=.ok (kG (KH p s)) M)
    aMH:
    (QJ i/\ac1 C.aT bK bU g7 gl gs [ο 0,η i] M=g_)\/∃r:Nat,i=r/\jZ ∧
      ((aO (XN B ti)/\ac1 C.aT bK bU g7 gl gs [ο 0,η i] M=bW C.he M) ∨
       (cW (XN B ti)/\Cz (ac1 C.aT bK bU g7 gl gs [ο 0,η i] M=.ok .ah M') (setB Y.rs aky B r))):=by
  rw[VG ac1 ho (Ln i)]
  · rw[ho]at hc
    rw[z9 r hr ho]
    rw[kQ (aA (ri r hr ?_)) (RP P q ((aO (XN B ti)/\q=bW C.he M)\/(cW (XN B ti)/\Cz (q=.ok .ah M') (setB Y.rs aky B r))))]
    simp only[bB,zD,zE,gx,Nat.zero_add,Nat.reduceAdd,Nat.reduceSub,List.replicate,f9,fz,eP];rw[Ē (C? .ah M (aK hc)) (VR g4 (aK (hw r hr)))];rw[d8]
    rw[cV aar (Wu (agt s.1)) (λs gG=>akx r s.1 (lP s gG)) (cj (CE bk (∃y,ρ=[aM,b6,wJ,y]/\M'=M/\cW (amo B ti pre)) b3 M XI (ER none rfl)))]
    · rintro pre s post hx ρ M' ⟨y,rfl,rfl,i!⟩
      rw[wA _];rw[cF Bv (aar s (by rw[n!])) e (hn s.1 Bv)];rw[q_ hh (ap4 s.1||ti s.1)]
      · rw[yS (if_pos hh) e (ZG C.he M' ?_ (aXI (rD (dq (Jf ?_)))))]
        · simp[bk,e]
        · rw[hx];rw[mJ amo List.any_append List.any_cons hh];simp
      · rw[yS (if_neg hh) e (CK .ah M' (ğ _ rfl ?_))]
        · simp[bk,e]
        · unfold amo at i!⊢
          rw[List.any_append,i!,List.any_cons];simp only[Bool.not_eq_true]at hh;rw[cC hh]
    · rw[QG M' y rfl rfl a3J]
      refine qY (kC bk (λpre ρ aa=>∃y,ρ=[aM,b6,wJ,y]/\BV aa (Sq B (U8 r pre) lying (DN aky pre B.lying))/\k8 o M' o aa)
        b3 none M' XI trivial (ri _ h k8.refl) ?_ ?_)
      · rintro pre s post hx ρ aa ⟨y,rfl,h1,f1⟩
        rw[wA _];rw[sy Bv (aar s (by rw[n!])) a15 (fT aLo vB) (jQ (by
          rw[wu s' gG hp (aar s' (by rw[hx];simp[gG]))])) hlen (gE (U8 r pre) 16) (by
          rw[uK (Zt (axe r pre _ jm) (aIr r pre _ a15 g8)) d9];omega)]
        rw[q8 e1 (RM [aM,b6,wJ,kq] d amR) (y! (η r) aa (ο 1) aa (η s.1) aa (ŵ 1 .ak eI r (pre++[s])) Θ e1 Na ?_ eu)]
        · rw[ajj h1.y1 s.1 (by rw[amt];show dR (U8 r pre)<_;exact LI hlen),aUJ]
          congr 3
          exact ams eI s.1 r _
        rw[cF h2 (h1.aP4 (U8 r (pre++[s]))) e2 (aqz ρ [aM,b6,wJ,kq] d rfl axR)]
        rw[dm e3 (aqz ρ [aM,b6,wJ,kq] d rfl Gi) (y! (kG (amN Y.ps s)) (ŵ 1 .ak eI r (pre++[s])) (ο 2) (ŵ 1 .ak eI r (pre++[s])) (η s.1) (ŵ 1 .ak eI r (pre++[s])) ((ŵ 1 .ak eI r (pre++[s])).set 2 (ς ((DN aky (pre++[s]) B.lying).map kG))) ?_ e2 Na ?_ (j4 (ri _ ?_ ?_)))]
        · rw[bV,aJ,ao,e3,ag]
          simp only[ao,av,bb,aX,aW,ag,aJ,bq];rw[j9 (eT (bk s) (η 0) (ŵ 1 .ak eI r (pre++[s]))) (.ok (η s.1) _) zm,ag,OE Bv,ag,ag,hl]
          rfl
        · rw[Tp h2.y2 (by simp;rw[ek axf alq Bv]),aWb,List.map_set]
        · exact h2.put2 _
        · exact e7 (aid (by rw[ES 1])) (uC (by rw[ES 2]))
      · rw[QG aa y rfl h1 f1]
        rw[om e1 (RM [aM,b6,wJ,y] d amu) hlen (B.greens.length≤16) (by
          rw[uK (Zt alo s8) d9];omega) (gN (y! (η r) aa (ο 3) aa (η b_) aa (WM 3 .ak eI (i8 B.greens b_ r)) Θ e1 ?_ ?_ (qw (aA (FQ a3J (h1.put3 _) (aid (by rw[ES 3])))))))]
        · simp[hs aa _ r h1 hr]
        · rw[ajj h1.y3 b_ (by rw[ah4 amt hlen])]
          congr 3
          exact ams eI b_ r _
  · rw[rz ho (QJ i) (a! ho) ho hc]
    rw[QC (Ω (lR ho)) (RP P q (q=g_)) (cj (Yi M))]
universe zE
universe Sb
universe zE
section
namespace Sb
open PySem L2
def aG7 gA [BEq α] [LawfulBEq α] aaJ azU az4 cw(ha:a∈as):Z9 (ς VL) [Em] M=.ok (η (as.idxOf a)) M:=by
 rw[sf Z9];rw[Io (PN _ (hp a)) Kf]
 rw[j3 (To (g:=WT) λz hz=>by
  rw[XZ b hz (PN _ (hp b))])]
 have:((VL).map WT).findIdx? (zR q q (l0 deep Em))=aY (as.idxOf a):=by
  rw[List.findIdx?_map,List.findIdx?_map]
  have hf:(((zR q q (l0 deep Em))∘WT)∘enc)=λb=>b == a:=by
   funext b
   rw[aq6];rw[Bool.eq_iff_iff,aes deep _ _ (hp b) (hp a),beq_iff_eq];rw[Ac (dW (inj _ _ e)) e (lQ e)]
  rw[hf];have g8:as.findIdx (λb=>b == a)<as.length:=List.findIdx_lt_length_of_exists ⟨a,ha,Θ⟩;rw[cC (List.findIdx?_eq_some_of_exists ⟨a,ha,Θ⟩)]
 rw[this]
section
variable {C:eE}{Y:eJ}{e:eF}{o:dg}{M:aL}{B:cI}{ρ:ej}{t:TB}
abbrev N2 gc m8:fF:=match Cw with
 |nh=>if(s.2.2,b)∈Y.ss then aCI (s.2.2,b) else none
 |none=>none
def ayP(q:Int×fF):zS (aQ [η q.1,bl q.2]):=by
 rw[VH y hy hy];rcases hy with rfl | rfl
 ·exact mS _
 ·cases q.2 with
  |none=>exact Ol
  |some n=>exact mS _
def aKc(a b:Int×fF)(h:RG (η a.1) (bl a.2)=RG (η b.1) (bl b.2)):a=b:=by
 rw[Ve a1 a2 a b1 b2 b];simp only[aj.tup.injEq,List.cons.injEq,aj.int.injEq,and_true]at h;rw[MB h2 h];cases a2<;>cases b2<;>simp only[bl]at h2<;>first | rfl | (cases h2;rfl) | cases h2 | (injection h2 with h3;have h4:=Int.ofNat.inj h3;subst h4;rfl)
def a3K UN{b:fF}{ss:BN}cw:Ć (aQ [η j,bl b]) nI M=.ok (.ai (mw (j,b) (ss.map λs=>(s.1,uD s)))) M:=by
 have:=Kl (neg:=false) (M:=M) (enc:=λq:Int×fF=>RG (η q.1) (bl q.2)) ayP aKc (a:=(j,b)) (as:=ss.map λs=>(s.1,uD s)) (y:=nI) (by
  show oY M (ς (ss.map e9))=_;rw[pv,List.map_map]
  rfl)
 rw[zV]
def aaf vj(h:w≠[]):Mk[0]? = HJ (w.headD (0,0,0)):=by
 cases w with
 |nil=>rw[WY h]
 |cons s w=>rfl
def acS aa8 UQ(h0:M[0]? = Ey (Bg Y tk))azZ(aU:Xq)
  aMI:avv C.tr C.aT bN [ο 0,lJ] M=.ok (bl ab6) M:=by
 rw[Fv avv (q=.ok (bl ab6) M)];rw[L6 e1 (SI ρ [aM,fV,none,none] d az h1 Tz) (bk (eB t.tr)) M]
 ·rw[ao,e1,ag,bb,ag];exact Tw (i:=0) h2 (aaf aU)
 rw[d8]
 generalize eB t.tr=s;rw[L6 e2 (OO (ρ:=[aM,fV,kq,none]) (d:=aq) h0 rfl Gi) (aQ [η s.2.2,bl Cw]) M]
 ·unfold fg;simp only[bk]at e2;simp only[aJ,bq,ao,av,bb,bV,aX,aW,ag,e2,bk,aai,zm,hb]
 rw[d8]
 rw[q8 e3 (OO (ρ:=[aM,fV,kq,iR [η s.2.2,bl Cw]]) (d:=aq) h0 rfl awr) (xY (mw (s.2.2,Cw) (Y.ss.map λs=>(s.1,uD s))))]
 ·simp only[dD,ao,av,aX,aW,ag,e3,a3K]
 ·rw[HC hk hk];rw[Ew q hq eq hk]
  rw[kP e4 (s.2.2=q.1) (by have:=congrArg Prod.fst eq;exact this.symm) e5 (Cw=uD q) (by have:=congrArg Prod.snd eq;exact this.symm) hm ((s.2.2,q.2)∈Y.ss) (by rw[au e4 hq]) hv (vI s=aCI (s.2.2,q.2)) (by rw[jL N2 e5 (if_pos hm)])]
  refine yi (bl (vI s)) M XJ;rw[hv];rw[iU qx e3 ag];simp only[aJ,bq,av,aX,aW,ag];rw[au e5 (aG7 (enc:=e9) anl amX (a:=(s.2.2,q.2)) hm)]
 ·rw[om hk apO hv (bR (vI s)) (by
   unfold N2;cases KW:Cw with
   |none=>rfl
   |some b=>
    rw[Õ (if_neg λhm=>hk ?_) KW (lP (s.2.2,b) hm)]) (dy (MX .ah M ?_))];rw[cC hv]
abbrev avz gc(d:Sd TB)qS:eF:=gf (d.find? (pB q (cu (vI (eB q.2.tr)) s))).map
def kt PD{ga:D1}p_(aU:agm q (q.2.tr.steps≠[]))
  (ha:∀xE M',M'[0]? = Ey HE->Ep M' = Er->Eo M' = Hp->Xq->ga [ο 0,lJ] M'=.ok (bl ab6) M'):
  mr C.aT ga [ο 0,η s] M=.ok (fY (ú Y s)) M:=by
 rw[Fp mr q (q=.ok (fY (ú Y s)) M) (cj ?_)];rw[fJ hi (axo h.y5 (nw [aM,fc,none,none] adW)) aIV hi]
 refine Z! h.y5 hi ?_;rw[cV hz (v5 (QS 5 .bO) 5 .bO Xl) arR (kC aEi (z4 (∃y z,ρ=[aM,fc,y,z]/\M'=QS 5 .bO/\aq3 (pB q (cu (vI (eB q.2.tr)) s)))) B.trains _ _ hi hz (jd none none rfl rfl) ?_ ?_)]
 ·rintro pre q post hx ρ M' ⟨y,z,rfl,rfl,i!⟩;rw[ahM _ hq (asy q) (by rw[n!])]
  rw[cF T (V! q hq) T' (ats i 5 v (.bO Xl) (SM 5))]
  rw[dm e1 (ha q.2 _ Qc T'.mt T'.ms (aU q hq)) (yj (fK (vI (eB q.2.tr)) (some s)) (QS 5 .bO))]
  ·rw[dD,ao,bV,aJ,av];dsimp only[List.set_cons_succ,List.set_cons_zero,aX,aW];rw[ag,aJ,av];rw[j!];rw[ag,bq,ag,ag,ag,e1,ag,av];rw[j!];rw[ag];cases hv:vI (eB q.2.tr) with
   |none=>
    rw[abA none .ah,ajJ p Ol (mS _)]
    rfl
   |some s'=>
    rw[abA (some s') (η s'),rE]
    rw[acf (s'=s)]
    ·rw[Al e2]
    ·rw[Xx e3 (aS s'=s) e2 e3]
  ·refine ū (η q.1) (QS 5 .bO) ⟨hz,cx (fS ?_)⟩;rw[Tq h.y5];unfold avz;rw[hx,List.find?_append,i!,List.find?_cons,hk];rfl
  ·rw[r9 (A2 hz (jd _ _ rfl ?_))];rw[List.find?_append,i!,List.find?_cons,hk];rfl
 ·rw[Ic M' y z rfl rfl i!];rw[iC hz (gN (bp .ah M (by rw[cC (Tq h.y5)]) (fS ?_)))];rw[Ik avz i!]
def acT fC jq(hs:Ei):avw C.dK C.aT [ο 0,η x] M=match nr with
  |eU=>.ok lJ M
  |none=>g_:=by
 rw[jw avw (pO (P:=λq=>q=match nr with | eU=>.ok lJ M | none=>g_) ?_)]
 simp only[bB,zD,zE,gx,Nat.zero_add,Nat.reduceAdd,Nat.reduceSub,List.replicate,f9,fz,eP]
 rw[q8 e1 (nw [aM,aV] adW) (xY (!(qm nr)))]
 ·rw[dD,ao,av];rw[j!];rw[ag,e1,ag,WA h.y5 k uA,zf];simp
 ·have e3:=ae7 (M:=M) (y:=ο 0) hs;rw[BX gj e3];refine rD (dq ?_);cases ht:nr with
  |none=>rfl
  |some t=>rw[pG ht hk hk]
 ·cases ht:nr with
  |none=>rw[pG ht hk hk]
  |some t=>
   rw[r9 (aji lJ)];rw[ao,e1,ag,av];rw[ahd ag (WB h.y5 k uA (by rw[zf,ht];rfl))]
def aZP fC{f5 bK:D1}p_(hn:ajW)(hl:ajl q q.2)
  (hc:bK [ο 0,η x] M=match nr with | eU=>.ok lJ M | none=>g_)
  aMD:
  aE4 f5 bK [ο 0,η x] M=match nr with
  |eU=>.ok (bX Sf) M
  |none=>g_:=by
 rw[Fv aE4 (q=match nr with | eU=>.ok (bX Sf) M | none=>g_)];cases ht:nr with
 |none=>
  rw[ht]at hc;unfold wM
  have:aB f5 [aB bK [aq,az]] [aM,aV] M=g_:=by
   simp[hc]
  rw[au this (dq rfl)]
 |some t=>
  rw[ht]at hc;rw[cF hm (Dt ht) T (V! _ hm)];exact Cr (bX Sf) M (gh hc (hu t M T.mt T.ms (hl _ hm)))
def aTK l! m8(d:Ek):N7 (w++[s]) d=i7 (N7 w d) s.1:=by rw[ť N7]
def aag zO{f6 dk:bu}p7 D6{y:aj}D!(v:aj)aM2(hn:Hj .ak)(hk:IQ M=.ok y M)(hy:iH y=fE)(hv:Ex=fU)(q:Q (.nx ρ (lS n .ak (Kz kvs k)))):Q (qv (awd f6 dk) ρ M):=by
 refine CK v (lS n .ak (Kz kvs k)) q;unfold awd;rw[uy ho ag (pT hn)];rw[hk,ag,pT hn,hy];dsimp only;rw[hv]
def aHe vj{xv:aj}{wt:qK}jq azD(hv:b5 az [aM,some xv,none] M=.ok (Mk,wt) M)(hc:v9 M)
  (hk:∀(aa:aL) v,v9 aa->v9 (aa.set 1 v)):aij (Zw C.aT [ο 0,xv] M=.ok .ah M') M' B w (Cs/\xO/\∀i,i≠1->M'[i]? = M[i]?):=by
 rw[Fp Zw q (aij (q=.ok .ah M') M' B w (Cs/\xO/\∀i,i≠1->M'[i]? = M[i]?)) (kC bk (λpre ρ aa=>∃y,ρ=[aM,some xv,y]/\dt C Y e o aa (af6 B pre)/\FH aa/\agF aa.length/\v9 aa/\∀i,i≠1->aa[i]? = M[i]?) w wt M hv hc ⟨none,rfl,h,k8.refl,rfl,hc,Wn _ _⟩ ?_ ?_)]
 ·rintro pre s post hx ρ aa ⟨y,rfl,h1,f1,l1,c1,g1⟩;rw[wA _];rw[fu e1 (RM [aM,some xv,kq] d amR) hs (s.1∉aLo) (λhm=>by
   rw[hx,List.map_append,List.nodup_append]at hn;exact hn.2.2 s.1 hm s.1 Θ rfl)]
  have hv:=hl s.1 (by rw[n!]);rw[U! v hv hv];refine aag (k:=jM s.1) (y:=η s.1) (η v) e1 h1.y1 Na rfl ?_ (A2 (hk _ _ c1) ⟨_,rfl,?_,aid (by rw[ES 1]),by rw[ari l1],hk _ _ c1,λi hi=>ajo (hi e.symm) (g1 i hi)⟩)
  ·rw[uO,alW,if_neg hs,hv];rfl
  ·rw[ek amb aTK (h1.aP4 _)]
 ·rintro ρ' aa ⟨y,rfl,h1,f1,l1,_,g1⟩;exact qw ⟨aa,rfl,h1,f1,l1,g1⟩
def adO vj jq azD:
  aij (Zw C.aT [ο 0,cv w] M=.ok .ah M') M' B w (Cs/\xO/\∀i,i≠1->M'[i]? = M[i]?):=
 aHe (wt:=none) h hn hl XI trivial λ_ _ _=>trivial
def aWc vj{a:Nat}jq azD(ha:qZ M a Mk)(h1:a≠1):
  aij (Zw C.aT [ο 0,ο a] M=.ok .ah M') M' B w (Cs/\xO/\∀i,i≠1->M'[i]? = M[i]?):=
 aHe (wt:=ql a (ς Mk)) h hn hl (Om rfl ha) ha λaa v hc=>ajo (h1 e.symm) hc
def aKS iO BI(hr:rj 1 yo):oK (C1 n6) ρ M=.ok () M:=by
 have h:=Kg hi.1 hi.2;simp only[oK,av,hr,ag,h,if_true]
def adh{u:Int}{v:aj}:avI C.fa [gC,η u,v] (M++[dB C.fa []])=.ok .ah (M++[dB C.fa [AQ u,Ņ v]]):=by
 rw[Fv avI (q=.ok .ah (M++[dB C.fa [AQ u,Ņ v]]))]
 rw[vL put (∀zO G!{dv:bu}{ρ:ej}(y:aj)(fs DS:sG),aj4 0->dv ρ (M++[dB C.fa fs])=.ok y (M++[dB C.fa fs])->agc->DC f y fs=DS->Q (.nx ρ (M++[dB C.fa DS]))->Q (hE C.fa f aq dv ρ (M++[dB C.fa fs]))) (λy fs DS h0 h hl hf q=>by
  unfold hE;rw[h,Res.pS,av,h0,Res.pS,Ko (C:=C.fa) (fs:=fs) Θ];dsimp only;rw[at8,hf,awO];exact q) (put (η u) [] [AQ u] rfl Θ (by rw[h_ (0<1000)]) cS eu)];exact put v [AQ u] [AQ u,Ņ v] rfl Θ (by rw[h_ (1<1000)]) cS Q?
def dt.fall p_ gb{u:FB}(hr:r∉sj)(hu:agF u.ob):
  Im (Yb r) ((M++[aDd (uZ u)]).set 4 (.ak (Xo (VM r u)))) (HO falls (VM r u)):=by
 rw[fu hp (h.push (dB C.fa (uZ u)) (RJ r)) h5 (EB 5) (pP h.y5)];have g:∀i,5<i->((M++[aDd (uZ u)]).set 4 (.ak (Xo (VM r u))))[i]? = (M++[aDd (uZ u)])[i]?:= λi hi=>rA aD;refine⟨j5 hp.y0,j5 hp.y1,j5 hp.y2,j5 hp.y3,get_set hp.y4,j5 hp.y5,hp.lo,λi hi=>hp.hi i XT,c! q hq,cG q hq he⟩
 ·rw[rz hq (q∈VM r u) hq (aIq hr) hq];rcases aNQ with hq | hq
  ·have:=hp.qI q hq;rw[cB this.1 (Nr _ (ash this.1) this.2)]
  ·rw[Ma hq hq];rw[WH hu Kc (Nr _ h5 Θ)]
 ·have T:=hp.awG q hq he;exact I8 (Nr _ (ash T.ot) T.mt) (Nr _ (ash T.os) T.ms) (Nr _ (ash T.oa) T.ma)
def adN iO aMO{W:bL}{sW:RC}{Dz:mj}p_ BI G?(I:af4 W)aaZ(tB:aq1)(KZ:Lr akC)
    aLT
    aMH
    (ht:∀M B' qS,BV M B'->B'.trains=B.trains->wc->gt [ο 0,η s] M=.ok (fY (ú Y s)) M)
    (hb:∀M B qS,vn->wc->bN [ο 0,η s] M=.ok (.ai lH) M)
    (hf:∀dF(u:Int)(v:aj),pX [gC,η u,v] (M++[dB C.fa []])=.ok .ah (M++[dB C.fa [AQ u,Ņ v]]))
    aMg
    aMJ:
    (QJ i/\Zv C.fa C.dK C.aT bK gs gt bN pX f5 bU [ο 0,η i] M=g_)\/∃r:Nat,i=r/\jZ ∧
      ((Md r/\Zv C.fa C.dK C.aT bK gs gt bN pX f5 bU [ο 0,η i] M=g_) ∨
       (ua/\((g5 (ud&&(Vz Y||kW))/\vD (Zv C.fa C.dK C.aT bK gs gt bN pX f5 bU [ο 0,η i] M=.ok .ah M') (Im (Yb r) M' (anq Y.rs B r (atR z5 Y))) (HR (Yb r)))
          \/ q? (ud&&(Vz Y||kW))/\Cz (Zv C.fa C.dK C.aT bK gs gt bN pX f5 bU [ο 0,η i] M=.ok .ah M') (amB Y.rs B r)))):=by
  rw[VG Zv ho (Ln i)]
  · rw[ho]at hc
    rw[z9 r hr ho]
    rw[kQ (aA (ri r hr ?_)) (RP P q ((Md r/\q=g_) ∨
       (ua/\((g5 (ud&&(Vz Y||kW))/\vD (q=.ok .ah M') (Im (Yb r) M' (anq Y.rs B r (atR z5 Y))) (HR (Yb r)))
          \/ q? (ud&&(Vz Y||kW))/\Cz (q=.ok .ah M') (amB Y.rs B r)))))]
    simp only[bB,zD,zE,gx,Nat.zero_add,Nat.reduceAdd,Nat.reduceSub,List.replicate,f9,fz,eP];rw[Ē (C? .ah M (aK hc)) (se (η b_) (aK (hs M B r h hr)))];rw[ĩ gU (KZ r hr) e1 (nw [aM,b6,WX,none] amu)]
    rw[Qa a5t (aeh (MG "greens") aI [aM,b6,WX,none] M=.ok (bl (Iu b_)) M) (by
      unfold aeh;rw[uy e1 ag (pT h.y3)];rw[NN];rw[pT h.y3];rw[su iH uO];cases Iu b_<;>rfl) DR (Iu b_=j?↔ua) (by
      rw[S.greens];rw[Ac (λa=>a.1) a (gg a)]) (xY (HX r W.green))]
    · rw[dD,ao,a5t]
      rw[NN];cases e:Iu b_ with
      |none=>
        have:Md r:=λh=>by rw[DR.mpr h]at e;cases e
        rw[abA none .ah,ajJ p Ol (mS _)]
        simp[this]
      |some r'=>
        rw[abA (some r') (η r'),rE]
        rw[acf (r'=r)]
        · subst e2
          have:=DR.mp e;simp[this]
        · have:Md r:=λh=>by rw[DR.mpr h]at e;cases e;exact e2 rfl
          rw[Xx e3 (aS r'=r) this e3]
    · rw[Jj hk (Md r) qt e3 (aKS (M:=M) (ρ:=[aM,Vw r,WX,none]) hi rfl)];rw[BX gj e3];exact rD (dq (Jf hk))
    · have hk:ua:=qt
      rw[Đ hg (DR.mpr hk) (qY (aag (k:=jM b_) (y:=η b_) (η r) e1 h.y3 Θ rfl (by rw[uO,hg];rfl) eu))];rw[amb];rw[sy h1 (h.put3 VP) f1 (FH (Ů 3 .ak eI)) (uC (by rw[ES 3])) l1 (aib (Ů 3 .ak eI)) List.length_set]
      generalize Ů 3 .ak eI=aa at h1 f1 l1;refine wh (fY (ahH Y)) aa (aK (ht aa _ b_ h1 rfl gU));generalize hnr:ahH Y=f7;rw[ĩ e2 (RM [aM,b6,WX,ai0 f7] d a2z) e4 (RM [aM,b6,WX,ai0 f7] d axQ)];rw[dm KW (hb aa _ b_ h1 gU) (F1 (ud&&(f7.isSome||kW)) aa)]
      · cases f7 with
        |none=>
          simp only[fY]at e2⊢;simp[e2,fO,KW];by_cases als:0<Y.wait<;>simp[als]
        |some x=>
          simp only[fY]at e2⊢;simp[e2,fO,KW];by_cases als:0<Y.wait<;>simp[als]
      · rw[bJ a6C (r∉sj) (by rw[cA S.al9 (I.Bx r hk)]) By aO5 (by
          rw[fJ h1 (Zt (n:=Y.rs.length) (l:=sj) (by rw[auO]) (yX (I.own x (aA (by rw[Ď hx]))).1)) d9 h1];omega)]
        rw[fu h2 (h1.fall (u:=⟨z5,f7,aa.length⟩) a6C rfl) e5 (Gr C.fa pX [(lD (MG "ticks") (MG "wait")),bw] [aM,b6,WX,ai0 f7] aa=.ok X3 (aa++[dB C.fa [AQ z5,aby f7]])) (by
          unfold Gr;simp only[aJ,bq,ao,e2,e4,ag,av,aX,aW];rw[JW (Ă (η _) (η _) aa) .ok (η z5) aa]
          rw[ahZ];rw[hf,ag])]
        rw[i6 hp (h1.push (dB C.fa [AQ z5,aby f7]) (RJ r)) e6 (hp.fld (ρ:=[aM,b6,WX,ai0 f7]) (d:=aq) rfl vi) (y! X3 _ (ο 4) (aa++[dB C.fa [AQ z5,aby f7]]) (η r) (aa++[dB C.fa [AQ z5,aby f7]]) _ e5 e6 Θ (ajj hp.y4 r (by rw[ah4 amt By])) (qw (r_ hk (Ω (Ys cE ?_)))))]
        · rw[l1]at h2⊢
          have:kE ś (jM r) gC=Xo (VM r (aBR z5 f7)):=ams J_ r (aBR z5 f7) B.falls;rw[W5 (Im _ (List.set _ 4 (.ak (kE ś (jM r) gC))) _) this h2]
        · rw[rz f2 (k8 o aa (arQ o (RJ r)) (aa++[dB C.fa [AQ z5,aby f7]])) k8.push l1 f2];rw[fX l1 (ahK f2 (uC (by rw[Od (by rw[eg (pP h.y5)]),SM 4];nofun)))]
      · have aDU:arw (gf (b3).map) Hs:=jQ (by
          rw[fJ h1 (QH (Ω hk)) (S.locks p (akx r p hp)) h1];cases O_:Hs with
          |none=>rw[O_]at h1;cases h1
          |some _=>rfl)
        obtain⟨M2,u1,u2,u3,u4,_⟩:=hu aa _ b3 h1 (abe r) aDU
        refine CK .ah M2 (qw (r_ hk (aA (mC cE M2 u2 (f1.trans u3)))));simp[hw aa _ r h1 hr,u1]
  · rw[rz ho (QJ i) (a! ho) ho hc]
    rw[QC (Ω (lR ho)) (RP P q (q=g_)) (cj (Yi M))]
universe zE
universe Sb
universe zE
end
mutual
section
namespace Sb
open PySem L2
section
variable {C:eE}{Y:eJ}{o:dg}{M:aL}{B:cI}{ρ:ej}
def aHf gb:∀aaK,r∉rs->b9 (Wg W).falls r=HU r
 |[],W,_=>rfl
 |x::rs,W,h=>by
  rw[List.foldl_cons,aHf rs _ (M4 IU)]
  unfold oM;split
  ·rw[Oa,akO IU]
  ·rfl
def aG8{c7:xH}gb:∀(rs:eG)o9,r∉rs->b9 (rs.foldl (oR c7) B).falls r=b9 B.falls r
 |[],B,_=>rfl
 |x::rs,B,h=>by
  rw[List.foldl_cons,aG8 rs _ (M4 IU)]
  unfold oR;split
  ·rw[Oa,akO IU]
  ·rfl
def aGv:∀aaK,(Wg W).now=W.now
 |[],W=>rfl
 |x::rs,W=>by rw[List.foldl_cons,aGv rs,aHc]
def axT gA{xs pre post:qU}{x:α}(h:xs.Nodup)(e:xs=pre++x::post):x∉pre:=λhm=>by
 rw[e,List.nodup_append]at h;exact h.2.2 x hm x Θ rfl
def aZQ{u:FB}:mH (uZ u) (Str.ofString "until")=dh u.u:=cS
def aZR{t t':Int}:DC "ticks" (η t') (Bg Y t)=Bg Y t':=cS
def ael{f5 bU:D1}{W:bL}{sW:RC}{Dz:mj}p_ G?(I:af4 W)aaZ aa2(tB:aq1)
  aMg
  aMJ:
  Cz (xp C.fa C.aT f5 bU [ο 0] M=.ok .ah M') (Iy Y.rs B):=by
 rw[jw xp (pO (P:=λq=>Cz (q=.ok .ah M') (Iy Y.rs B)) ?_)]
 simp only[bB,zD,zE,gx,Nat.zero_add,Nat.reduceAdd,Nat.reduceSub,List.replicate,f9,fz,eP]
 rw[q8 e1 (nw [aM,none] axQ) ?_]
 have ep:hE C.aT "ticks" aq (Rr (MG "ticks")) [aM,none] M=.nx [aM,none] (LF 0 (dB C.aT (Bg Y (MA 1)))):=by
  unfold hE;rw[ao,e1,ag,bb,ag,JW (Ă (η B.ticks) (η 1) M) .ok (η (MA 1)) M,Res.pS,R5 0 [aM,none] .ok ο 0,Res.pS,Ko h.y0]
  dsimp only;rw[jx (by rw[h_ (10<1000)]),aZR]
 rw[ia ep eu];rw[ahz h1 (h.a5r (MA 1)) f1 (FH (LF 0 (dB C.aT (Bg Y (MA 1))))) (uC (by rw[ES 0])) (LF 0 (dB C.aT (Bg Y (MA 1)))) aa h1 f1]
 rw[gq jm (ic sj) (by rw[auO]) g8 (YW r sj) (qf (pK (aA (by rw[Ď hr]))).1) hlen aO5 (by
  rw[fJ h1 (Zt jm g8) d9 h1];omega)]
 rw[om e2 (RM [aM,none] d vi) ei (aB Mj [agS] [aM,none] aa=.ok (ς (J4 (sj).map)) aa) (by
  rw[bV,aJ,e2];rw[wD bq]
  rw[wk Tt (pT h1.y4)]
  have e3:(ś).map (λq=>xk q.1)=J4 (sj).map:=by
   rw[aqS encD];rfl
  rw[Fl ((HO ticks (MA 1):cI).falls=B.falls),e3,fL (by rw[ahL hlen])]) (kC (jJ (r:Nat) r) (λpre ρ M2=>∃y,ρ=[aM,y]/\BV M2 (pre.foldl (oR Y.rs) (zw B))/\FH M2) sj none aa (ig ei) trivial (ri none h1 f1) ?_ ?_)]
 ·rintro pre r post hx ρ M2 ⟨y,rfl,h2,f2⟩
  rw[wA _]
  have hr:jZ:=g8 r (by rw[n!]);rw[cF O! (axT jm hx) bh (aGt R pre _ (amL I))];rw[sy b8 (aGu R pre _ _ (amL I) (aI6 S)) KI (b9 (pre.foldl (oR Y.rs) (zw B)).falls r=b9 B.falls r) (aG8 pre _ O!) aas (r∈sj) (by rw[n!])]
  rw[U! u GX ((aix _).mp aas)]
  have a6F:HU r=aY (KG Y.rs Dz r u):=by rw[S.falls,ZF,GX];rfl
  rw[sy a5u (D _ (Dt a6F)) ae8 ((pre.foldl (oR Y.rs) (zw B)).ticks=AX) (by rw[b8.ticks,aGv];rfl) hq ((r,u)∈(pre.foldl (oR Y.rs) (zw B)).falls) (Dt (kU KI GX))];rw[H_ hf (h2.qI _ hq).2 e3 (aqz ρ [aM,b6] d rfl vi) e4 (aqz ρ [aM,b6] d rfl axQ)]
  rw[kP e5 (HN agS az [aM,b6] M2=.ok (ο u.ob) M2) (by
   rw[ao,e3,ag];rw[NN];exact WB h2.y4 k (jM r) (by rw[uO,KI,GX];rfl)) e6 (lW C.fa "until" (q! agS) [aM,b6] M2=.ok (η u.u) M2) (by
   unfold lW at e5⊢;rw[uy e5 ag (Ko hf)];rw[cC aZQ]) Bb (oR Y.rs (pre.foldl (oR Y.rs) (zw B)) r=(pre++[r]).foldl (oR Y.rs) (zw B)) (by rw[List.foldl_append];rfl) OK (aay (pre.foldl (oR Y.rs) (zw B)).falls (pre.foldl (oR Y.rs) (zw B)).ticks r=fK u.u AX) (by
   unfold aay
   rw[uy KI GX ae8];refine decide_eq_decide.mpr ⟨IW,IW⟩
   ·rw[EG (W.now<u.u) a5u]
   ·omega)]
  refine yj (fK u.u AX) M2
  ·rw[dD,ao,e6,ag,e4,ag,ae8,rE];rfl
  ·rw[vL aDU (arw (gf (b3).map) (b9 (pre.foldl (oR Y.rs) (zw B)).locks p)) (jQ (by
    have hm2:r∈gf (MP W).falls.map:=by rw[b8.al9,mem_keys,KI,GX];rfl
    rw[fJ h1 (bh.lock (aA hm2) hp) (b8.locks p (akx r p hp)) h1];cases O_:b9 (pre.foldl (oR Y.rs) (zw B)).locks p with
    |none=>rw[O_]at h1;cases h1
    |some _=>rfl)) (aag (k:=jM r) (y:=η r) (ο u.ob) e3 h2.y4 Θ rfl (by rw[uO,KI,GX];rfl) eu)];rw[amb];rw[ahz h3 (h2.aKR r) f3 (FH (JT 4 .ak (Xo (i7 (pre.foldl (oR Y.rs) (zw B)).falls r)))) (aiH (uC (by rw[ES 4]))) (JT 4 .ak (Xo (i7 (pre.foldl (oR Y.rs) (zw B)).falls r))) bE h3 f3];obtain⟨iL,u1,u2,u3,u4,_⟩:=hu bE _ b3 h3 (abe r) aDU
   refine lX .ah iL (gh (hw bE _ r h3 hr) u1) (j4 (ri _ ?_ (f3.trans u3)));rw[←Bb];rw[jL oR (jx (by rw[F3 (aO (aay _ _ _)) aDe])) u2]
  ·rw[ų (ri _ ?_ f2)];rw[←Bb];rw[jL oR (IA hc (by rw[aBg ff hc hk ff];cases ff)) h2]
 ·rw[QG M2 y rfl h2 f2];exact qw (ri M2 h2 f2)
@[simp] def aZS{neg b:Bool}:fi neg (kG b) mD M=.ok (.ai (BS b b)) M:=by cases b<;>cases neg<;>with_unfolding_all rfl
def ad3 iO{bK g7:D1}{ti:mj}p_(alq:aCi)
    aL7
    aMs:
    (cW (HW i)/\adt C.aT bK g7 [ο 0,η i] M=g_)\/∃p:Nat,i=p/\vB/\JO ∧
      ((g5 (zT||ti p)/\adt C.aT bK g7 [ο 0,η i] M=bW C.he M) ∨
       (q? (zT||ti p)/\Cz (adt C.aT bK g7 [ο 0,η i] M=.ok .ah M') (aez B p))):=by
  rw[VG adt ho (HW i)]
  · rw[ho]at hc
    have Bs:=aOI;rw[z9 p hp Bs.1]
    rw[kQ (aA (t8 p hp (a! Bs.2) ?_)) (RP P q ((g5 (zT||ti p)/\q=bW C.he M)\/(q? (zT||ti p)/\Cz (q=.ok .ah M') (aez B p))))]
    simp only[bB,zD,zE,gx,Nat.zero_add,Nat.reduceAdd,Nat.reduceSub,List.replicate,f9,fz,eP];rw[o? (C? .ah M (aK hc))];have e:=hn p hp;rw[q_ hh (zT||ti p)]
    · rw[bG (if_pos hh) e (cj (ZG C.he M IU (rD (dq (Jf hh)))))]
    · rw[if_neg hh]at e
      rw[n9 (cj (C? .ah M IU)) zF (ar5 p) (by rw[au alq hp])]
      rw[om e1 (nw [aM,lF] axR) e2 (vF (MG "lying") az [aM,lF]=.ok (kG (Ls p)) M) (by
        rw[ao,e1,ag];rw[NN];exact Tw h.y2 (by rw[gI,List.getD_eq_getElem?_getD,List.getElem?_eq_getElem zF];rfl)) (X9 (kG (!(Ls p))) M (ο 2) M (η p) M (r? 2 ((aB5 (!(Ls p))).map kG)) e1 (kU (Tp h.y2 (a! zF)) List.map_set) (qw (aA (FQ (a! hh) (h.put2 _) (uC (by rw[ES 2]))))))];rw[Z5,dD,ao,e2,ag,bb,ag,aZS,ag,ag];cases Ls p<;>rfl
  · rw[rz ho (cW (HW i)) (a! ho) ho hc]
    rw[QC (Ω (lR ho)) (RP P q (q=g_)) (cj (Yi M))]
universe zE
universe Sb
universe zE
section
namespace Sb
open PySem L2
section
variable {C:eE}{Y:eJ}{e:eF}{o:dg}{M:aL}{B:cI}{ρ:ej}{t:TB}
abbrev Bc gc UI qS:fF:=match Iu s with
 |j?=>j?
 |none=>gf (B.falls.find? λq=>Ķ q.1 s&&(X0 q.2.f7||lH)).map
def aKd{u:FB}:mH (uZ u) (Str.ofString "near")=ai0 u.f7:=cS
def a3q{i j:Int}aom BI(hj:rT j):oK [none,n6,none,Nk] [y,yo,yp,z,w] M=.ok () M:=by
 rw[cF h (Kg hi.1 hi.2) h2 (Kg hj.1 hj.2)];simp only[oK,av,aX,aW,ag,h,h2,if_true]
def aTL fC{bN gs:D1}xw:ac4 C.fa C.rd C.aT bN gs [ο 0,η x,.ah] M=bW C.rd M:=by
 rw[Fp ac4 q (q=bW C.rd M) (cj (OQ M Θ ?_))];have e3:=aKS (M:=M) (ρ:=[aM,aV,Xn,none,none]) hx rfl;rw[BX gj e3];exact rD (dq rfl)
def ade fC PD{bN gs:D1}jq xw(hsm:rT s)(g8:YW r sj)
  aME
  (hb:∀M',M'[0]? = Ey HE->bN [ο 0,η s] M'=.ok (.ai lH) M'):
  ac4 C.fa C.rd C.aT bN gs [ο 0,η x,η s] M=match Bc Y B x s with
  |j?=>.ok (η r) M
  |none=>bW C.rd M:=by
 rw[Fp ac4 q (q=match Bc Y B x s with | j?=>.ok (η r) M | none=>bW C.rd M) (cj (tI M Θ (dy Yt)))];rw[dm e1 (nw [aM,aV,fc,none,none] amu) (SD (atI s) M ?_)]
 ·rw[dD,ao,av];rw[j!];rw[ag,e1,ag,WA h.y3 k (jM s),uO];simp
 ·rw[U! r hr hk]
  rw[cV hp (Bc Y B x s=j?) (by rw[dz Bc hr]) (yi (η r) M (cx (fS (lQ hp))))];rw[ao,e1,ag,av];rw[ahd ag (WB h.y3 k (jM s) (by rw[uO,hr];rfl))]
 ·rw[ur hg (bR (Iu s)) qt hp (Bc Y B x s=gf (B.falls.find? λq=>Ķ q.1 s&&(X0 q.2.f7||lH)).map) (by rw[dz Bc hg]) (dy Yt)];rw[fJ hi (axo h.y4 (nw [aM,aV,fc,none,none] vi)) aZO hi]
  refine Z! h.y4 hi ?_;rw[kP hz (ajI (abt 4 .bO) 4 .bO) aDJ aEF ((abt 4 .bO)[0]? = Ey HE) Qc aQS (Qu q ((abt 4 .bO)[q.2.ob]? = ai5 (uZ q.2))) (λq hm=>x! (by rw[H7 (h.qI q hm).1]) (h.qI q hm).2) aEw ((abt 4 .bO).set 4 (.ak ś)=M) (Tq h.y4)];generalize abt 4 .bO=aa at hi hz aEF aQS aEw;refine kC aQj (z4 (∃y z,ρ=[aM,aV,fc,y,z]/\M'=aa/\aq3 (λq=>Ķ q.1 s&&(X0 q.2.f7||lH)))) B.falls _ _ hi hz (jd none none rfl rfl) ?_ ?_
  ·rintro pre q post hq ρ M' ⟨y,z,rfl,rfl,i!⟩;refine wo _
   rw[bJ hm (q∈B.falls) (by rw[fy hq]) hr (aAW q.1) (g8 _ (lP q hm))];rw[cF aeC (aQS q hm) e2 (hs _ q.1 aEF hr)]
   rw[dm e3 (hb _ aEF) (yj (Ķ q.1 s&&(X0 q.2.f7||lH)) M')]
   ·rw[bJ e4 (sQ (n_ (aB gs [aq,bw]) aI) [aM,aV,fc,qb,iz q.2.ob] M'=.ok (Ķ q.1 s) M') (by
     rw[dD,ao,bV];simp only[aJ,bq,av,aX,aW,ag,e2,rE];by_cases sT:SZ q.1=s
     ·simp[sT]
     ·have aEh:¬(aS (SZ q.1)=aS s):=dW (sT ahC);simp[sT,aEh]) e5 (sQ (n_ (ah0 C.fa bI) az) [aM,aV,fc,qb,iz q.2.ob] M'=.ok (X0 q.2.f7) M') (by
     have e6:lW C.fa "near" bI [aM,aV,fc,qb,iz q.2.ob] M'=.ok (fY q.2.f7) M':=by
      rw[dz lW av];rw[j!];rw[Io ag (Ko aeC)];rw[cC aKd]
     rw[dD,ao,e6,ag,av];rw[j!];rw[ag];cases q.2.f7 with
     |none=>rw[ym (fY none) .ah,ajJ p Ol (mS _)];rfl
     |some y=>rw[ym (fY C!) (η y),rE];rw[yH sT y x sT])]
    show sY _ _ [aM,aV,fc,qb,iz q.2.ob] M'=_;simp only[A8,Z4,e4,e5,ag];rw[Ak (SZ q.1=s)]
    ·rw[Q2 (q.2.f7=iB)]
     ·simp[h1,h2]
     ·simp[h1,h2,e3,fO]
    ·simp[h1]
   ·refine ū (η q.1) M' ⟨hz,cx (fS ?_)⟩;rw[aEw,hp,hq,List.find?_append,i!,List.find?_cons,hk];rfl
   ·rw[r9 (A2 hz (jd _ _ rfl ?_))];rw[List.find?_append,i!,List.find?_cons,hk];rfl
  ·rw[Ic M' y z rfl rfl i!];rw[iC hz eu];have e3:=a3q (M:=M) (y:=aM) (z:=y) (w:=z) hx hsm;rw[aEw];rw[BX gj e3];refine dq ?_;rw[hp,i!];rfl
universe zE
universe Sb
universe zE
section
namespace Sb
open PySem L2
section
variable {C:eE}{Y:eJ}{e:eF}{o:dg}{M:aL}{B:cI}{ρ:ej}{t:TB}
def a16 br gX d5(h:qZ M n (x::xs)):aeu (ο n) [η 0] M=.ok x (Vl n xs):=by
 rw[sf aeu];rw[wk l7 h]
 have e:cu (Bm (dR (x::xs)) 0) 0:=by unfold Bm;simp
 rw[j3 e];rw[j3 aW];rw[cC aCZ]
def aZT br gX d5 aow(hl:ajv lim):xn (ο n) [η 0,x] M=.ok .ah (r? n (x::xs)):=by
 unfold xn l7;rw[su h at8]
def aRP{f:zy}gB BH apj br ao4(hn:M[n]? = yt ys)(ha:xV=.ok xs M):qx f d ds ρ M=f (ο n) xs M:=by
 rw[iU qx hd ag]
 have:oF (ο n)=HT:=by unfold Ka;simp only[hn]
 rw[j3 this];rw[ha,ag]
def oT fC vh{a:gV}{f5:D1}(h:J3)aol(ha:ĉ (s::a))(hl:abQ s.1)(gU:Lq)
  (hu:∀M B,J3->abQ s.1->vD (f5 [ο 0,cv [s]] M=.ok .ah M') (dt C Y iB o M' (af6 B [s])) (Cs/\xO/\∀i,i≠1->M'[i]? = M[i]?)):
  vD (avV C.tr f5 [ο 0,lJ] M=.ok .ah M') (dt C Y iB o M' (S6 B (MJ s.1))) (BQ M' (aje s a)/\Cs/\xO):=by
 rw[jw avV (pO (P:=λq=>vD (q=.ok .ah M') (dt C Y iB o M' (S6 B (MJ s.1))) (BQ M' (aje s a)/\Cs/\xO)) ?_)]
 simp only[bB,zD,zE,gx,Nat.zero_add,Nat.reduceAdd,Nat.reduceSub,List.replicate,f9,fz,eP]
 rw[cF e1 (SI ρ [aM,fV,none] d az T.mt amD) hma T.ma];rw[ha,bB]at hma;refine rm (bk s) (Xf EY)
 ·rw[au (aki e1 hma [η 0] rfl) (a16 hma)]
 rw[d8];have h1:=h.own (v:=ς EY) (aA (aA T.oa));rw[kP k1 (Ep (Xf EY) = Er) (ya T.oa T.ot T.mt) k2 (Eo (Xf EY) = Hp) (ya T.oa T.os T.ms) k3 (aiN (Xf EY) EY) (get_set T.ma) f1 (FH (Xf EY)) (uC (by rw[uG T.oa]))];have l1:aib (Xf EY):=List.length_set;generalize Xf EY=aa at h1 k1 k2 k3 f1 l1;obtain⟨M2,u1,u2,u3,u4,aRo⟩:=hu aa B h1 hl;rw[o? (C? .ah M2 ?_)]
 ·have e2:PY [aI] [aM,fV,kq] aa=.ok (cv [s]) aa:=by
   unfold nL;simp only[aJ,bq,av,aX,aW,ag];rfl
  rw[bV];rw[Je aJ bq av e2];exact u1
 rw[gq j1 (Ep M2 = Er) (Ğ _ (by rw[H7 T.ot]) k1) j2 (Eo M2 = Hp) (Ğ _ (by rw[H7 T.os]) k2) a6J (aiN M2 EY) (Ğ _ (by rw[H7 T.oa]) k3)]
 rw[dm e3 (SI ρ [aM,fV,kq] d az j1 Tz) (CK .ah (JT t.so ς (bk s::ô)) (qw ⟨_,rfl,?_,I8 ?_ ?_ ?_,ahK u3 (uC (by rw[uG T.os])),by rw[List.length_set,u4,l1]⟩))]
 ·rw[au (aki e3 j2 [η 0,bk s] rfl) (aZT j2 (by rw[ni (LI gU)]))]
 ·exact u2.own (aA (Ω T.os))
 ·exact ya T.os T.ot j1
 ·exact get_set j2
 ·exact ya T.os T.oa a6J
def aWd{κ α:Type} [Ca] afM(h:bR (b9 d k)):i7 d k=d:=by
 rw[jw i7 (agz q hq (decide_eq_true (dJ e)))];have:k∈q3:=ó q hq e;rw[mem_keys,h]at this;cases this
def axp gA{f6 dk dx:bu}br{en:akZ α}{d:BR α}d6{z:aj}aM2(hn:M[n]? = Qz .ak en d)(hk:IQ M=.ok (η k) M)(hx:dx ρ M=.ok z M):
  ∃v,aei f6 dk dx ρ M=.ok v (lS n .ak (Az en (i7 d k))):=by
 unfold aei;rw[uy ho ag (pT hn)];rw[hk,ag,hx,ag,pT hn];rw[su iH uO];cases e:b9 d k with
 |none=>
  rw[Nd z];rw[aWd e,axn hn];rfl
 |some v=>rw[ie (by rw[cC amb])]
abbrev ax3 p5(bK:D1):Prop:=∀gz D7 o9 xE m8(a:gV),J3->BQ M t->ĉ (s::a)->abQ s.1->Lq →
 vD (bK [ο 0,lJ] M=.ok .ah M') (dt C Y iB o M' (S6 B (MJ s.1))) (BQ M' (aje s a)/\Cs/\xO)
def aIX br:DC "ahead" (ο n) F7=ahF t.tr n:=cS
def ac0 fC gb vh vj{gs bU bK:D1}(h:J3)aol G8(fN:b3=s::w)(i?:X4)(hl:abQ s.1)(gU:Lq)
  aME
  (hw:∀M' dZ,M'[0]? = Ey HE->jZ->bU [ο 0,η r] M'=.ok g4 M')azo:
  ∃M',la C.tr C.aT gs bU bK [ο 0,lJ,η r] M=.ok .ah M'/\dt C Y iB (M0 x) M' { B with greens:=VP,falls:=AP,locks:=MJ s.1} ∧
   NT (M0 x) M' (ar1 s w)/\HR (M0 x):=by
 rw[Fv la (∃M',q=.ok .ah M'/\dt C Y iB (M0 x) M' { B with greens:=VP,falls:=AP,locks:=MJ s.1} ∧
   NT (M0 x) M' (ar1 s w)/\HR (M0 x))];rw[ĥ e1 (nw [aM,fV,b6] amu) v1 p1 (axp (dx:=dC .ah) (z:=.ah) e1 h.y3 (k:=b_) (dk:=aB gs [aq,aI]) (aK (hs M r h.y0 hr)) rfl)];rw[cF h1 (h.put3 VP) T1 (ats i 3 v (.ak (Az eI VP)) (SM 3))];rw[Qa f1 (FH (Ů 3 .ak eI)) (uC (by rw[ES 3])) l1 (aib (Ů 3 .ak eI)) List.length_set (C? v1 _ p1)]
 generalize Ů 3 .ak eI=aa at h1 T1 f1 l1;rw[ĥ e2 (RM [aM,fV,b6] d vi) v2 p2 (axp (dx:=dC .ah) (z:=.ah) e2 h1.y4 (k:=r) (dk:=aI) rfl rfl)];rw[cF h2 (h1.aKR r) T2 (T1.set (i:=4) (v:=.ak (Xo AP)) (SM 4) nofun nofun nofun)];rw[Qa f2 (FH (WM 4 .ak J_ AP)) (aid (by rw[ES 4])) l2 (aib (WM 4 .ak J_ AP)) (kU List.length_set l1) (C? v2 _ p2)]
 generalize WM 4 .ak J_ AP=M2 at h2 T2 f2 l2;rw[cF h3 (h2.push (ς ((b3).map bk)) (qn x)) qO (T2.push (ς ((b3).map bk)) (qn x))];rw[gq f3 (k8 o M2 (kB o M2.length (qn x)) (M2++QX (b3).map)) k8.push k3 (qZ (M2++QX (b3).map) M2.length ((b3).map bk)) Θ e3 (aB (A_ true) [aB bU [aq,aI]] [aM,fV,b6] M2=.ok (ο M2.length) (M2++QX (b3).map)) (by
  rw[bV,aJ,bV];rw[Je aJ bq av (hw M2 r h2.y0 hr)];rw[wk A_ pv];exact ml (by rw[Df i?]))]
 rw[←l2];rw[o? (aek (ο M2.length) _ t.ob F7 auH e3 rfl qO.mt (by rw[h_ (3<1000)]) aIX eu)];have h4:=h3.own (v:=tS auH) (Ω qO.ot)
 have BA:NT (kB o M2.length (qn x)) ((M2++QX (b3).map).set t.ob (tS auH)) (aqE b3 M2.length):=
  ⟨qO.ot,qO.os,Kc,get_set qO.mt,ya qO.ot qO.os qO.ms,ya qO.ot Kc k3⟩
 have f4:NV (kB o M2.length (qn x)) ((M2++QX (b3).map).set t.ob (tS auH)):=e7 (f2.trans f3) (uC (by rw[uG qO.ot]));obtain⟨Ue,c1,c2,c3,c4,aQf⟩:=hc x _ _ _ (aqE b3 M2.length) s w h4 BA fN hl gU;exact lX .ah Ue (aK c1) (qw (t8 Ue c2 c3 (f4.trans c4)))
universe zE
universe Sb
universe zE
section
namespace Sb
open PySem L2
section
variable {C:eE}{Y:eJ}{e:eF}{o:dg}{M:aL}{B:cI}{ρ:ej}{t:TB}{W:bL}{sW:RC}{Dz:mj}
def aHg aoN aaZ(hp:Bc Y B x s=j?):xJ/\b_=s:=by
 unfold Bc at hp;cases hg:Iu s with
 |some r'=>
  rw[hg]at hp;cases hp;have:=(as1 r).mp hg;rw[cB (Ω this.1) this.2]
 |none=>
  rw[hg]at hp;rw[aqu q hq rfl hp];rw[mG (List.find?_some hq) (List.mem_of_find?_eq_some hq)];rw[aBU h1];rw[cB (aA (by rw[Ď (lP q h2)])) h1.1]
def aHI(I:af4 W)G? aaZ{r p:Nat}K6(hp:p∈wW Y.rs r):AZ Hs:=by
 rw[fJ h1 (QH h) (S.locks p (R.lt r (pK h).1 p hp)) h1];cases h2:Hs with
 |none=>rw[h2]at h1;cases h1
 |some _=>rfl
def ZP.afa aaZ gz:dG=(nr).map (·.tr):=by
 rw[S.trains,ZF];rfl
def ZP.kH aaZ(I:af4 W):ajW:=by
 have:=I.kH;rwa[S.trains,al7]at this
abbrev t0 dj:TB:=⟨Cb [] [],n,n+1,n+2⟩
def adb:avG C.tr [gC] (M++[tS []])=.ok .ah (M++CF::[ς [],ς []]):=by
 rw[Fv avG (q=.ok .ah (M++CF::[ς [],ς []]))]
 rw[vL mk (∀(G:aL)(fs:sG),nL true [] [iZ] (M++tS fs::G)=.ok (ο (qh (G.length+1))) (M++tS fs::(G++[ς []]))) (λG fs=>by
  rw[mJ nL bq ag (ml aZ)];simp) (alR (s2:=pV) (G:=[]) (G':=[ς []]) (ο kh) [("steps",ο kh)] rfl (mk [] []) (by rw[h_ (0<1000)]) cS eu)];rw[o? (alR (s2:=pV) (G:=[ς []]) (G':=[ς [],ς []]) (ο (qh 2)) [("steps",ο kh),("ahead",ο (qh 2))] rfl (mk [ς []] _) (by rw[h_ (1<1000)]) cS eu)];exact alR (s2:=pV) (G:=[ς [],ς []]) (G':=[ς [],ς []]) (qa .ai) (lj (t0 M.length)) rfl rfl (by rw[h_ (2<1000)]) cS Q?
abbrev aeH(o:dg)dj gz:dg:=kB (kB (kB o n (W8 x)) (n+1) (vU x)) (n+2) (qn x)
def dt.a5b p_ gz:dt C Y iB (atg o x) (M++CF::[ς [],ς []]) B/\NT (atg o x) (M++CF::[ς [],ς []]) (t0 M.length) ∧
  NV (atg o x) (M++CF::[ς [],ς []]):=by
 have e:M++CF::[ς [],ς []]=((M++[CF])++[ς []])++[ς []]:=Θ
 rw[mG (h.push CF (W8 x)) (h1.push (ς []) (vU x))];rw[sy h3 (h2.push (ς []) (qn x)) l1 (uf M [Nx]=kh) Θ l2 (uf (M++[Nx]) I2=qh 2) Θ]
 rw[l1]at h2 h3;rw[l2]at h3;rw[e];rw[De (h3.but x) ⟨?_,?_,Kc,aK t0,aK t0,aK t0⟩]
 ·show aeH o M.length x M.length=_;rw[mJ aeH (Od aD) (Od aD) Kc]
 ·show aeH o M.length x kh=_;rw[iU aeH (Od aD) Kc]
 ·rw[gq f1 (NV (abW x) (M++[Nx])) k8.push f2 (k8 (abW x) (M++[Nx]) (kB (abW x) kh (vU x)) ((M++[Nx])++I2)) (by
   rw[HS (k8.push (o:=abW x) (M:=M++[Nx]) (v:=fB.lst []) (g:=vU x)) l1]) f3 (k8 (kB (abW x) kh (vU x)) ((M++[Nx])++I2) (atg o x) (((M++[Nx])++I2)++I2)) (by
   rw[HS (k8.push (o:=kB (abW x) kh (vU x)) (M:=(M++[Nx])++I2) (v:=fB.lst []) (g:=qn x)) l2])]
  exact ahK f2 f3
universe zE
universe Sb
universe zE
end
mutual
section
namespace Sb
open PySem L2
inductive tC where
 |ok
 |none
 |held
 |red
abbrev Qb p5 D7 azl(P:cO cI):Prop:=match k with
 |.ok=>∃M' o' B',res=.ok .ah M'/\Im o' M' B'/\HR o'/\P B'
 |cP=>res=g_
 |.held=>res=bW C.he M
 |.red=>res=bW C.rd M
def aIg gA{l:qU}{p:Xm}{a:α}(ha:a∈l)(hp:akF a)(hu:Ht l (akF b->b=a)):cu auo a:=by
 cases e:auo with
 |none=>rw[nF hp (a! (List.find?_eq_none.mp e a ha))]
 |some b=>rw[hu b (List.mem_of_find?_eq_some e) (List.find?_some e)]
section
variable {C:eE}{Y:eJ}{e:eF}{o:dg}{M:aL}{B:cI}{ρ:ej}{t:TB}{W:bL}{sW:RC}
abbrev xd kL gz qS dZ:Bool:=fK b_ s&&(match HU r with
 |some fl=>fl.bd||mw x fl.ns
 |none=>true)
abbrev w7 kL gz qS:fF:=(akd).find? (xd Y W x s)
def aJx fC PD G? azx:w7 Y W x s=Bc Y B x s:=by
 rw[kP KZ (∀r,aO (xd Y W x s r)->b_=s) (λr h=>by
  rw[qs xd];rw[aBU h];exact h.1) a3r (∀r∈akd,xJ) (λr h=>List.mem_append.mp h) wb (∀r∈akd,∀r',RT->SZ r'=s->aO (xd Y W x s r)->r=r') (λr hr r' h' e hm=>I.one R (a3r r hr) h' (e7 (KZ r hm) e.symm)) By (Qu q (HU q.1=aY (KG Y.rs (A3 Y) q.1 q.2))) (vH (by
  have hn:ic sj:=by rw[auO]
  rw[S.falls,ZF,Yu];rfl))]
 unfold Bc;cases hg:Iu s with
 |some r=>
  rw[dm h1 ((as1 r).mp hg) (aIg (aPo (Ω h1.1)) ?_ λb hb hm=>wb b hb r (Ω h1.1) h1.2 hm)]
  have h2:bR (HU r):=by
   cases e2:HU r with
   |none=>rfl
   |some _=>rw[pn ((aix _).mpr (by rw[cC e2])) (I.Bx r h1.1)]
  rw[dz xd h2];simp[h1.2]
 |none=>
  dsimp only;cases hf:B.falls.find? (λq=>Ķ q.1 s&&(X0 q.2.f7||lH)) with
  |some q=>
   rw[mG (List.find?_some hf) (List.mem_of_find?_eq_some hf)];rw[aBU h1]
   rw[cV hm (q.1∈nB) (by rw[Ď (lP q h2)]) (aIg (a:=q.1) (aPo (aA hm)) ?_ λb hb hm'=>wb b hb q.1 (aA hm) h1.1 hm')];rw[dz xd (By q h2)];simp only[KG,h1.1,decide_true,Bool.true_and];rcases Bool.or_eq_true_iff.mp h1.2 with h3 | h3
   ·rw[HC h3 h3];rw[fy h3]
   ·rw[cC h3]
  |none=>
   rw[Ai (aDp _) (List.find?_eq_none.mpr (cG r hr hm))];have e1:=KZ r hm;rcases List.mem_append.mp hr with hr | hr
   ·rw[uK ((as1 r).mpr ⟨hr,e1⟩) hg];cases this
   ·rw[S.al9]at hr;rw[q6 q hq hr];have h4:=List.find?_eq_none.mp hf q hq;rw[EJ xd hm (By q hq) hm];simp only[KG,e1,decide_true,Bool.true_and,Bool.or_eq_true,decide_eq_true_eq]at hm;simp only[e1,decide_true,Bool.true_and,Bool.or_eq_true,decide_eq_true_eq,not_or]at h4;rcases hm with hm | hm
    ·exact h4.2 hm
    ·cases hnr:q.2.f7 with
     |none=>rw[pG hnr hm hm]
     |some y=>
      rw[pG hnr hm hm];exact h4.1 (kU hnr hm)
abbrev ayQ p5(oP:D1):Prop:=∀(e:eF)D7 UI qS,YM->Ei->wc->(YW r sj)->oP [ο 0,η x,η s] M=match Bc Y B x s with
 |j?=>.ok (η r) M
 |none=>bW C.rd M
abbrev aeI p5(dM:D1):Prop:=∀gz D7 o9 xE dZ m8 l!,J3->BQ M t->jZ->b3=s::w->X4->abQ s.1->Lq →
 ∃M',dM [ο 0,lJ,η r] M=.ok .ah M'/\dt C Y iB (M0 x) M' { B with greens:=VP,falls:=AP,locks:=MJ s.1} ∧
   NT (M0 x) M' (ar1 s w)/\HR (M0 x)
def aIh azx:YW r sj:=qf (pK (aA (by rw[Ď hr]))).1
def aJy G? aa9 afT:X4:=by
 have:=Zt (abe r) (R.lt r hr);rw[EJ wW this d9 this];omega
def a3s{x j:Int}aom(hj:rT j):oK [none,Nk,none] [y,aV,yp,z,w] M=.ok () M:=by
 have ff:=Kg hj.1 hj.2;simp only[oK,av,aX,aW,ag,ff,if_true]
def a3t{x j:Int}aom xw:oK [none,n6,none] [y,aV,yp,z,w] M=.ok () M:=by
 have ff:=Kg hx.1 hx.2;simp only[oK,av,aX,aW,ag,ff,if_true]
abbrev Gk kL(x i:Int):tC:=ajZ (LP i) (ajZ (A3 Y i.toNat) (if qm dG then .held else match w7 Y W x i.toNat with
 |tV=>.ok
 |none=>.red))
abbrev Ot kL(x i:Int):bL:=aae Y.rs W ((w7 Y W x i.toNat).getD 0) x []
def ad4{x i:Int}{alh bN oP N_ dM:D1}p_ xw BI G? azx aa9(aU:YY)
  (hk:alh [ο 0,η i] M=Ĭ i .ok .ah)(hb:vC s (wc->bN [ο 0,η s] M=.ok (.ai lH) M))(hr:ayQ C Y oP)
  (l8:∀M:aL,N_ [gC] (M++[tS []])=.ok .ah (M++CF::[ς [],ς []]))(hp:aeI C Y dM):
  Qb C Y o M (awn C.he C.dK C.tr C.aT alh bN oP N_ dM [ο 0,η x,η i] M) (Gk Y W x i) λB'=>ZP Y.ps.length Y.rs (uM Y.ps) (A3 Y) (Ot Y W x i) B':=by
 rw[Fv awn (Qb C Y o M q (Gk Y W x i) λB'=>ZP Y.ps.length Y.rs (uM Y.ps) (A3 Y) (Ot Y W x i) B')];rw[VG Gk ho (LP i)]
 ·rw[ho]at hk⊢;rw[z9 s hs ho];rw[apW eK];rw[Ē (lX .ah M (aK hk) Yt) (eD (! lH) M (gh (hb s hs) fO) (dJ cE) (dJ cE))]
  ·have cE:cW lH:=a! cE
   have e3:=a3s (M:=M) (x:=x) (y:=aM) (z:=none) (w:=none) hi
   rw[BX gj e3]
   refine rD (dq ?_)
   rw[cC cE]
  ·have cE:aO lH:=a! cE
   rw[cE,eK];rw[r9 (qY ?_)];rw[dm e1 (nw [aM,aV,fc,none,none] adW) (eD (qm nr) M ?_ (dJ l9) (dJ l9))]
   ·rw[dD,ao,av];rw[j!];rw[ag,e1,ag,WA h.y5 k uA,zf];simp
   ·have e3:=a3t (M:=M) (j:=aS s) (y:=aM) (z:=none) (w:=none) hx
    rw[BX gj e3]
    refine rD (dq ?_)
    have:AZ dG:=by rw[S.afa];simpa using l9
    rw[cC this]
   ·rw[bJ GY (bR nr) (a! l9) a6o ajY (by rw[S.afa,GY];rfl)]
    rw[a6o];rw[Q7 Θ];rw[i6 GZ (aJx (x:=x) (s:=s) R I S) e2 (hr none o M B x s h hx hs (aIh I S)) I0];cases tw:Bc Y B x s with
    |none=>
     rw[tw]at e2 GZ;rw[ia GZ (cj (ans C.rd M (aK e2) (rD (dq rfl))))]
    |some r=>
     rw[tw]at e2 GZ;rw[GZ];rw[asv Bw KZ (aHg S tw) tB (pK Bw).1]
     rw[Ŏ w fN (∃s0 w,b3=s0::w) (by
      cases dQ:b3 with
      |nil=>rw[nF dQ (aU r tB)]
      |cons a b=>exact jy a b)]
     rw[dm rQ (aHI I R S Bw (p:=s0.1) (by rw[dz wW fN];simp)) (se (η r) (aK e2))];rw[d8];rw[ahG h1 T1 f1 (h.a5b x) em (Gr C.tr N_ [] [aM,aV,Vw s,Vw r,none] M=.ok gC (M++CF::[ς [],ς []])) (by
      unfold Gr;rw[bq,ag,l8,ag]) (wh gC _ em)];rw[d8];generalize M++CF::[ς [],ς []]=aa at h1 T1 f1;rw[aqv M2 p1 p2 p3 p4 (hp x _ _ _ (t0 M.length) r s0 w h1 T1 tB fN (aJy R Bo tB) rQ (by rw[h_ (tR 0)])) (cj (C? .ah M2 (by show aB dM [aq,bI,bw] _ aa=_;rw[Ab p1])))];rw[cF jm (S.kH I) h5 (p2.a5s (x:=x) jm p3)];rw[om e5 (p2.fld (ρ:=[aM,aV,Vw s,Vw r,iZ]) (d:=aq) rfl adW) hlen (B.trains.length≤16) (by
      rw[uK I.aD4 S.trains];rw[EJ iG this d9 this];omega) (y! gC M2 (ο 5) M2 (η x) M2 _ rfl e5 rfl (WE p2.y5 uA (by rw[ah4 axl hlen])) (qw ⟨_,_,aeN Y.rs B r x ⟨Cb (s0::[]) w,M.length,kh,aa.length⟩,rfl,?_,ahK p4 (uC (by rw[uG (p2.lo 5 aZ)])),?_⟩))]
     ·have:kE Xl uA gC=jS Ge (PJ ⟨Cb (s0::[]) w,M.length,kh,aa.length⟩):=aIe Ge x ⟨Cb (s0::[]) w,M.length,kh,aa.length⟩ B.trains;show Im _ (JT 5 .ak (kE Xl uA gC)) _;rw[this];rw[jL aeN fN h5]
     ·rw[mJ Ot Int.toNat_natCast GZ Option.getD_some];exact aIa R I S Bw (by rw[cC fN])
 ·have ho:cW (LP i):=a! ho
  rw[ux ho hk (cj (ZG C.dK M (aK hk) (rD (dq rfl))))]
universe zE
universe Sb
universe zE
section
namespace Sb
open PySem L2
section
variable {C:eE}{Y:eJ}{e:eF}{o:dg}{M:aL}{B:cI}{ρ:ej}{t:TB}{W:bL}{sW:RC}
noncomputable abbrev avB kL o9:Prop:=aEc (A3 Y)
noncomputable abbrev aF4 kL:Prop:=Inv Y.ps.length Y.rs aAk W
abbrev aGV p5 cZ:Prop:=∀D7 UI,vn->Ei->g [ο 0,η x] M=match nr with
 |eU=>.ok lJ M
 |none=>g_
def dt.gone fC(h:J3)(hx:x∉aOp):vn:=
 ⟨h.y0,h.y1,h.y2,h.y3,h.y4,h.y5,h.lo,h.hi,h.qI,λq hq _=>Ra hq (dW (hx (ó q hq (aA9).symm)))⟩
def a3u:DC "is_out" (ju .ai) F7=ahF ajg t.sP:=cS
def aKT fC aom xw:oK [none,n6,none] [y,aV,z,w] M=.ok () M:=by
 have ff:=Kg hx.1 hx.2;simp only[oK,av,aX,aW,ag,ff,if_true]
def a3v fC{y z:qW}xw:oK [none,n6,none] [y,aV,z] M=.ok () M:=by
 have ff:=Kg hx.1 hx.2;simp only[oK,av,aX,aW,ag,ff,if_true]
abbrev DW kL gz:tC:=match dG with
 |none=>cP
 |eU=>Wc t.out red (Wc (Ŝ []) ok (match RB with
  |none=>.ok
  |tV=>match ab5 with
   |none=>.red
   |some s=>match w7 Y W x s with
    |tV=>.ok
    |none=>.red))
abbrev DX kL gz:bL:=match dG with
 |none=>W
 |eU=>if Ŝ [] then anr W x t else match RB with
  |none=>T! W x (auL [])
  |tV=>aae Y.rs W (((ab5).bind (w7 Y W x)).getD 0) x t.steps
def aUK vh d6(h:vI s=fE):Vb k:=by
 rw[qs N2];split at h
 ·split at h
  ·rename_i b _ hm;cases h;exact aOy
  ·cases h
 ·cases h
def aaq fC{gt bK bN dM oP ga:D1}p_ xw G? Hf aa9(aU:YY)
  azp azo aMF(hp:aeI C Y dM)(hr:ayQ C Y oP)(hr0:oP [ο 0,η x,.ah] M=bW C.rd M)
  (ha:∀t:TB,Ep M = Er->Eo M = Hp->Xq->ga [ο 0,lJ] M=.ok (bl ab6) M):
  YG C Y o M (FX C.rd C.tr C.aT gt bK bN dM oP ga [ο 0,η x] M) (DW Y W x) (DX Y W x):=by
 rw[jw FX (pO (P:=λq=>YG C Y o M q (DW Y W x) (DX Y W x)) ?_)];simp only[bB,zD,zE,gx,Nat.zero_add,Nat.reduceAdd,Nat.reduceSub,List.replicate,f9,fz,eP];rw[cF e0 (ht o M B x h hx) hg (S.afa x)];unfold DW DX;cases rR:nr with
 |none=>
  rw[rR]at e0 hg;rw[au hg (cj (ans C.dK M (aK e0) (rD (dq rfl))))]
 |some t=>
  rw[rR]at e0 hg;have hg:cu dG t.tr:=hg
  rw[j3 hg];rw[cF T (V! _ (Dt rR)) TI (V9 t.tr hg)];rw[cV gU Lq (L5 (I.ae6 hg) Bo) (se lJ (aK e0))];rw[d8]
  rw[L6 e1 (RN [aM,aV,fV,none] d Tz) (bk (eB t.tr)) M]
  ·rw[ao,e1,ag,bb,ag];exact Tw (i:=0) T.ms (aaf TI.ne)
  rw[d8]
  rw[i6 e2 (RN [aM,aV,fV,HJ (eB t.tr)] d ayO) e3 (RN [aM,aV,fV,HJ (eB t.tr)] d amD) (cj (SD t.tr.out M (by rw[i9,e2,ag];rfl)))]
  ·have e4:=aKT (M:=M) (y:=aM) (z:=fV) (w:=HJ (eB t.tr)) hx;rw[BX gj e4];refine rD (dq ?_);rw[cC hk]
  ·rw[hk,nC];rw[kQ I0 (F1 aPF M)]
   ·rw[i9,e3,ag];unfold fO;simp only[T.ma];cases t.tr.ahead<;>rfl
   ·have T?:t.tr.ahead≠[]:=λdQ=>by rw[dQ]at cE;cases cE
    rw[ail T? T?]
    rw[Ŏ w fN (∃s0 w,ĉ (s0::w)) (by
     cases dQ:t.tr.ahead with
     |nil=>rw[nF dQ T?]
     |cons a b=>exact jy a b)]
    have rQ:abQ s0.1:=by
     obtain⟨r,h1⟩:=TI.al (s:=s0) (by rw[fy fN]);rw[fJ aED (I.lt h1) (S.locks _ aED) h1];cases h2:LG s0.1 with
     |none=>rw[h2]at h1;cases h1
     |some _=>rfl
    obtain⟨M2,c1,c2,c3,c4,aQf⟩:=hc x o M B t s0 w (h.but x) T fN rQ gU;refine lX .ah M2 (aK c1) (qw ⟨M2,o,aKP B x s0.1 (aje s0 w),rfl,?_,c4,?_⟩)
    ·exact c2.seen (S.kH I) rR c3 rfl
    ·rw[HS (aYe I S (x:=x) (t:=t.tr) (t':=aje s0 w) (by rw[fN,hk];rfl)) fN]
   ·have T?:ĉ []:=by
     cases dQ:t.tr.ahead with
     |nil=>rfl
     |cons a b=>rw[dQ]at cE;cases cE
    rw[IA dQ (dQ T?),IA dQ (dQ T?)];rw[dm e5 (nw [aM,aV,fV,HJ (eB t.tr)] Gi) (eD (E3 (eB t.tr).1 (eB t.tr).2.2).isNone M ?_ (dJ l9) (dJ l9))]
    ·rw[bJ aEG (Qk (eB t.tr) 0=.ok (η (eB t.tr).1) M) zm i2 (Qk (eB t.tr) 2=.ok (η (eB t.tr).2.2) M) aai];rw[i9,bV,aJ,e5,ag];simp only[aJ,bq,ao,av,bb,aX,aW,ag,aEG,i2,hb];rfl
    ·have l9:bR (E3 (eB t.tr).1 (eB t.tr).2.2):=a! l9
     rw[ia l9 (aek (ju .ai) M t.ob F7 (ahF ajg t.sP) rfl rfl T.mt (by rw[h_ (3<1000)]) a3u (qw ⟨_,o,aD3 B x (S4 ajg t.sP),rfl,?_,uC (by rw[uG T.ot]),?_⟩))]
     ·refine((h.but x).own (Ω T.ot)).seen (S.kH I) rR (t':=S4 ajg t.sP) (I8 (get_set T.mt) (ya T.ot T.os T.ms) (ya T.ot T.oa T.ma)) rfl
     ·have:=aI8 S (x:=x) (t:=S4 ajg t.sP);rw[ux T? this this]
    ·rw[ajC b l9 b (E3 (eB t.tr).1 (eB t.tr).2.2=nh) (by
      cases dQ:E3 (eB t.tr).1 (eB t.tr).2.2 with
      |none=>rw[dQ]at l9;cases l9
      |some b=>exact gg b)]
     rw[j3 l9];have ea:=ha t T.mt T.ms TI.ne;cases Zj:ab6 with
     |none=>
      rw[yS Zj ea (ZG C.rd M ?_ (dq rfl))];simp[ea,bl,hr0]
     |some s=>
      rw[Zj]at ea;rw[H_ a5X (aUK Zj) GZ (aJx (x:=x) (s:=s) R I S) y9 (hr none o M B x s h hx a5X (aIh I S))];rw[j3 Option.bind_some];cases tw:Bc Y B x s with
      |none=>
       rw[tw]at y9 GZ;rw[ia GZ (ZG C.rd M ?_ (dq rfl))];simp[ea,bl,y9]
      |some r=>
       rw[tw]at y9 GZ;rw[GZ,Option.getD_some];rw[asv Bw KZ (aHg S tw) tB (pK Bw).1]
       rw[Ŏ w fN (∃s0 w,b3=s0::w) (by
        cases dQ:b3 with
        |nil=>rw[nF dQ (aU r tB)]
        |cons a b=>exact jy a b)]
       have rQ:=aHI I R S Bw (p:=s0.1) (by rw[dz wW fN];simp);rw[aqv M2 p1 p2 p3 p4 (hp x _ _ _ t r s0 w (h.but x) T tB fN (aJy R Bo tB) rQ gU) (lX .ah M2 (by simp[ea,bl,y9];exact p1) (qw ⟨M2,_,aeN Y.rs B r x (ar1 s0 w),rfl,?_,p4,?_⟩))]
       ·have:=p2.seen (S.kH I) rR p3 rfl;rw[jL aeN fN this]
       ·exact aIa R I S Bw (by rw[fN,hk];rfl)
abbrev Kx UJ:tC:=match dG with
 |none=>cP
 |eU=>Wc (ï 1/\cW t.out) held .ok
abbrev Gp UJ:bL:=match dG with
 |none=>W
 |eU=>vz t.steps.length 1 (adr W x) (T! W x L!)
def aX1 br d5 aow(hn:xs≠[]):∃y,ae2 (ο n) [] M=.ok y (Vl n xs.dropLast):=by
 unfold ae2 l7;simp only[h]
 have hl:SK (EV 1):=by
  rw[EG (xs.length≠0) (auM (List.eq_nil_of_length_eq_zero e))]
 rw[fX S2 lT]
def aem fC UR p_ xw Hf azp:
  YG C Y o M (awA C.he C.tr C.aT gt [ο 0,η x] M) (Kx W x) (Gp W x):=by
 rw[jw awA (pO (P:=λq=>YG C Y o M q (Kx W x) (Gp W x)) ?_)];simp only[bB,zD,zE,gx,Nat.zero_add,Nat.reduceAdd,Nat.reduceSub,List.replicate,f9,fz,eP];rw[cF e0 (ht o M B x h hx) hg (S.afa x)];unfold Kx Gp;cases rR:nr with
 |none=>
  rw[rR]at e0 hg;rw[au hg (cj (ans C.dK M (aK e0) (rD (dq rfl))))]
 |some t=>
  rw[rR]at e0 hg;have hg:cu dG t.tr:=hg
  rw[j3 hg];rw[i6 T (V! _ (Dt rR)) TI (V9 t.tr hg) (se lJ (aK e0))];rw[ĩ e1 (RN [aM,aV,fV] d Tz) e2 (RN [aM,aV,fV] d ayO)]
  rw[vL el (∀K5 vf,Eo M' = g!->fM [ο t.so] M'=.ok (η xs.length) M') (vJ M' hm (by
   unfold fM;simp only[amm,hm])) (xY (ue (aqK 1) (cW t.tr.out)))]
  ·rw[A8,dD,ao,bV,aJ,e1,ag,bq,ag,ag,el M _ T.ms,ag,bb,ag,rE,d9];rw[Ak (aqK 1)]
   ·cases h2:t.tr.out<;>simp[h1,h2,e2,fO]
   ·rw[Xx h3 (aS t.tr.steps.length=1) h1 h3]
  ·rw[cF hk aPt e4 (a3v (M:=M) (y:=aM) (z:=fV) hx)];rw[BX gj e4];refine rD (dq ?_);rw[cC HY]
  ·have hk:=apO;rw[MO];obtain⟨y,py⟩:=aX1 T.ms (a! TI.ne);rw[r9 (qY (C? y (Vl t.so (ô).dropLast) ?_))]
   ·rw[au (aki e1 T.ms [] rfl) py]
   rw[←List.map_dropLast];have h1:=(h.but x).own (v:=ς ap6) (aA (Ω T.os))
   have T1:BQ (r? t.so ap6) auG:=
    I8 (ya T.os T.ot T.mt) (get_set T.ms) (ya T.os T.oa T.ma)
   have f1:FH (r? t.so ap6):=uC (by rw[uG T.os]);generalize r? t.so ap6=aa at h1 T1 f1;rw[om e5 (aRx (t:=auG) (ρ:=[aM,aV,fV]) (d:=aI) T1.mt rfl Tz) hl (t.tr.steps.length≠0) (λdQ=>TI.ne (List.eq_nil_of_length_eq_zero dQ)) (F1 (iY (aqK 1)) aa)]
   ·rw[dD,ao,bV,aJ,e5,ag,bq,ag,ag,el aa _ T1.ms,ag,bb,ag,rE,d9,List.length_dropLast];by_cases ff:aqK 1
    ·simp[ff]
    ·rw[Xx h8 (jv (t.tr.steps.length-1)=0) ff h8];omega
   ·rw[HC cE cE];rw[if_pos cE];rw[dm e6 (RM [aM,aV,fV] d adW) (aag (k:=uA) (y:=η x) lJ e6 h1.y5 rfl rfl (by rw[zf,rR];rfl) (qw ⟨_,o,aP3 B x,rfl,?_,aid (by rw[ES 5]),a0n S⟩))];rw[fX aHd ((h1.a3I x).gone λhm=>((amr _ _ _).mp hm).1 rfl)]
   ·have cE:=aNU;rw[Sm cE (dy (qw ⟨aa,o,aD3 B x auG,rfl,h1.seen (S.kH I) rR T1 rfl,f1,aI8 (t:=auG) S⟩))]
universe zE
universe Sb
universe zE
section
namespace Sb
open PySem L2
section
variable {C:eE}{Y:eJ}{e:eF}{o:dg}{M:aL}{B:cI}{ρ:ej}{t:TB}{W:bL}
abbrev Ky UJ:tC:=match dG with
 |none=>cP
 |eU=>Wc t.out red .ok
abbrev Gl UJ:bL:=match dG with
 |none=>W
 |eU=>aeG W x t
def adL m8:sk [bk s] M=.ok (bk Rb) M:=by
 rw[nv sk q (q=.ok (bk Rb) M)];exact Cr (bk Rb) M (Yk bk flip fg)
def dt.a5c fC p_ UP(hl:xO)(h4:ajI M' 4 .ak)(hm:∀i,i≠4->(∀r,o i≠RJ r)->M'[i]? = M[i]?)
  (hf:Qu q (M'[q.2.ob]? = ai5 (uZ (Kw x q.1 q.2)))):BV M' (HO falls (Þ (Kw x))):=by
 have y:∀i≤5,i≠4->M'[i]? = M[i]?:= λi hi h4=>hm i h4 λr=>by rw[uG (h.lo i hi)]
 refine⟨akT 0 h.y0,akT 1 h.y1,akT 2 h.y2,akT 3 h.y3,?_,akT 5 h.y5,h.lo,λi hi=>h.hi i (by rw[cA hl hi]),c! q hq,cG q hq he⟩
 ·show v5 M' 4 .ak (Xo (Þ (Kw x)));rw[h4];unfold encD iG;rw[auJ]
 ·rw[q6 q' jT hq];rw[cB (h.qI q' jT).1 (hf q' jT)]
 ·rw[fu T (Ra hq he) g (∀gW{g:tF}{v:fB},o i=g->(∀r,g≠RJ r)->g≠.yard->AN M->AN M') (λhi hg hy e=>e7 (hm _ (by rw[eg (h.gt hi hy)]) (λr=>by rw[au hi (hg r)])) e)];exact I8 (ă T.ot T.mt) (ă T.os T.ms) (ă T.oa T.ma)
def a17{u:FB}:DC "near" .ah (uZ u)=uZ { u with f7:=none}:=cS
abbrev axU p5(f5:D1):Prop:=∀D7 o9 l! xD,vn->af3->(apw Hs)->qZ M a Mk->a≠1 →
 vD (f5 [ο 0,ο a] M=.ok .ah M') (BV M' (af6 B w)) (Cs/\xO/\∀i,i≠1->M'[i]? = M[i]?)
abbrev aQk(q:Nat×FB):aj:=ο q.2.ob
def a18(d:BR FB):((XM J_).map λq=>q.2)=d.map aQk:=by rw[Mm encD]
def aWe fC{z:qW}UM p_(hn:ic sj)
  (k:∀M',BV M' (HO falls (Þ (Kw x)))->Cs->P (.ok .ah M')):
  Fin P (Bd (BM agS) (e_ (BM agS) (bP 3) (M1 (ah0 C.fa bw) az (hE C.fa "near" bw (dC .ah)))) [aM,aV,z,none] M):=by
 rw[fJ hi (aZN h.y4 (nw [aM,aV,z,none] vi)) a18 hi]
 refine Z! h.y4 hi ?_;rw[ur hz (ajI (abt 4 .bO) 4 .bO) aDJ aPT (Qu q (Qu q' (q.2.ob=q'.2.ob->q=q'))) (λq hq q' jT e1=>by
  have e2:q.1=q'.1:=by
   have h1:=CI;rw[e1,(h.qI q' jT).1]at h1;exact(tF.fall.inj h1).symm
  rw[mG Yu (au3 hn jT)];rw[e2,h2]at h1;exact Prod.ext e2 (Vq).symm) (kC aQk (z4 (∃y,ρ=[aM,aV,z,y]/\xO/\ajI M' 4 .bO/\(∀i,i≠4->(∀r,o i≠RJ r)->M'[i]? = M[i]?)/\(Qu q (q∈pre->M'[q.2.ob]? = ai5 (uZ (Kw x q.1 q.2)))) ∧
   Qu q (q∉pre->M'[q.2.ob]? = ai5 (uZ q.2)))) B.falls _ _ hi hz ⟨none,rfl,Θ,hz,λi h4 _=>rA (dW (h4 e.symm)),λq _ hq=>LR hq,λq hq _=>x! (by rw[H7 CI]) (h.qI q hq).2⟩ ?_ ?_)]
 ·rintro pre q post hx ρ M' ⟨y,rfl,l1,z1,g1,p1,p2⟩;refine wo _
  rw[LY hq (q∈B.falls) (by rw[n!]) O! (q∉pre) hm (by
   rw[hx,List.map_append,List.nodup_append]at hn;exact hn.2.2 q.1 (lP q hm) q.1 Θ rfl)]
  rw[om m1 (p2 q hq O!) e6 (lW C.fa "near" bw [aM,aV,z,iz q.2.ob] M'=.ok (fY q.2.f7) M') (by
   rw[dz lW av];rw[j!];rw[Io ag (Ko m1)];rw[cC aKd]) (yj (X0 q.2.f7) M')]
  ·show sQ (n_ (ah0 C.fa bw) az) [aM,aV,z,iz q.2.ob] M'=_;rw[dD,ao,e6,ag,av];rw[j!];rw[ag];cases q.2.f7 with
   |none=>rw[ym (fY none) .ah,ajJ p Ol (mS _)];rfl
   |some y=>rw[ym (fY C!) (η y),rE];rw[yH sT y x sT]
  ·rw[HC hk hk]
   rw[cV h4 (q.2.ob≠4) (by rw[H7 CI]) (aek .ah M' q.2.ob (uZ q.2) (uZ { q.2 with f7:=none}) rfl rfl m1 (by rw[h_ (2<1000)]) a17 (A2 ?_ ⟨_,rfl,by rw[ari l1],?_,?_,?_,?_⟩))]
   ·exact agq h4 z1
   ·exact agq h4 z1
   ·intro i hi hr;exact ajo (hr q.1 (by rw[←e];exact CI)) (g1 i hi hr)
   ·intro q' jT hm;by_cases dQ:q'=q
    ·subst dQ;rw[get_set m1];simp[Kw,hk]
    ·rw[au (rA (dW (dQ (aPT q hq q' jT e).symm))) (p1 q' jT (by rcases aBJ with ff | ff;exact ff;simp at ff;rw[nF ff dQ]))]
   ·intro q' jT hm;have dQ:q'≠q:=dW (hm IU);rw[au (rA (dW (dQ (aPT q hq q' jT e).symm))) (p2 q' jT λff=>hm (aK ff))]
  ·rw[Đ hk apO (A2 z1 ⟨_,rfl,l1,z1,g1,?_,λq' jT hm=>p2 q' jT λff=>hm (aK ff)⟩)];intro q' jT hm;by_cases dQ:q'=q
   ·subst dQ;rw[m1];simp[Kw,hk]
   ·exact p1 q' jT (by rcases aBJ with ff | ff;exact ff;simp at ff;rw[nF ff dQ])
 ·rintro ρ' M' ⟨y,rfl,l1,z1,g1,p1,p2⟩;rw[iC z1 (qw (k _ ?_ ?_))]
  ·refine h.a5c (by rw[ari l1]) (get_set z1) (λi h4 hr=>ajo (h4 e.symm) (g1 i h4 hr)) (c! q hq);exact x! (by rw[H7 CI]) (p1 q hq hq)
  ·rw[eV (by rw[ek List.length_set l1 fe]) (Wn _ _) (cG i hi hw)]
   have h4:i≠4:=λe=>by rw[e,SM 4]at hw;cases hw
   exact ajo (h4 e.symm) (g1 i h4 λr=>by rw[uG hw])
def aZU br:DC "steps" (ο n) F7=lj ⟨t.tr,t.ob,n,t.sP⟩:=cS
def Z6 fC{gt f5 gd:D1}p_ xw G? Hf aa9 azp(hu:axU C Y f5)(hd:∀s M,gd [bk s] M=.ok (bk Rb) M):
  YG C Y o M (awB C.fa C.rd C.tr C.aT gt f5 gd [ο 0,η x] M) (Ky W x) (Gl W x):=by
 rw[jw awB (pO (P:=λq=>YG C Y o M q (Ky W x) (Gl W x)) ?_)];simp only[bB,zD,zE,gx,Nat.zero_add,Nat.reduceAdd,Nat.reduceSub,List.replicate,f9,fz,eP];rw[cF e0 (ht o M B x h hx) hg (S.afa x)];unfold Ky Gl;cases rR:nr with
 |none=>
  rw[rR]at e0 hg;rw[au hg (cj (ans C.dK M (aK e0) (rD (dq rfl))))]
 |some t=>
  rw[rR]at e0 hg;have hg:cu dG t.tr:=hg
  rw[j3 hg];have T:BQ M t:=V! _ (Dt rR);rw[om TI (V9 t.tr hg) gU Lq (L5 (I.ae6 hg) Bo) (se lJ (aK e0))];rw[d8]
  rw[i6 e2 (RN [aM,aV,fV,none] d ayO) e3 (RN [aM,aV,fV,none] d amD) (cj (SD t.tr.out M (by rw[i9,e2,ag];rfl)))]
  ·have e4:=aKT (M:=M) (y:=aM) (z:=fV) (w:=none) hx;rw[BX gj e4];refine rD (dq ?_);rw[cC hk]
  ·rw[hk,nC];refine dy eu
   rw[gq hand (ic apP) (by
    by_cases dQ:ĉ []
    ·rw[fy dQ]
    ·obtain⟨r,k,hr,a6p,_⟩:=TI.e8 dQ
     have h1:((b3).drop k |>.map (·.1)).Nodup:=by
      rw[fX List.map_drop ((abe r).sublist (aBd _))]
     rw[←a6p,bB,List.nodup_cons]at h1;exact h1.2) rQ (arw apP Hs) (jQ (by
    rw[q6 s0 hs0 hp];obtain⟨r,h1⟩:=TI.al hs0;rw[fJ aED (I.lt h1) (S.locks _ aED) h1];cases h2:LG s0.1 with
    |none=>rw[h2]at h1;cases h1
    |some _=>rfl)) ha1 (t.sP≠1) (by rw[H7 T.oa])]
   obtain⟨aa,u1,u2,u3,u4,aRo⟩:=hu o M B t.tr.ahead t.sP h hand rQ T.ma ha1;rw[o? (C? .ah aa ?_)]
   ·rw[bV,aJ];rw[NN];rw[aJ,e3];simp only[bq,ag];exact u1
   have T1:BQ aa t:=I8 (Ğ _ (by rw[H7 T.ot]) T.mt) (Ğ _ (by rw[H7 T.os]) T.ms) (Ğ _ ha1 T.ma)
   rw[mG (u2.but x) (h1.push (ς []) (qn x))];have T2:=T1.push (ς []) (qn x);rw[Qa f2 (k8 o aa (arQ o (qn x)) (aa++[ς []])) k8.push k2 ((aa++I2)[aa.length]? = yt []) Θ (aek X3 (aa++[ς []]) t.ob F7 ajh (by rw[Yo nL bq (ml aZ)]) rfl T2.mt (by rw[h_ (3<1000)]) aIX eu)];have h3:=h2.own (v:=tS ajh) (Ω T2.ot)
   have qO:NT (arQ o (qn x)) ((aa++I2).set t.ob (tS ajh)) (aqE [] aa.length):=
    ⟨T2.ot,T2.os,Kc,get_set T2.mt,ya T2.ot T2.os T2.ms,ya T2.ot Kc k2⟩
   have f3:NV (arQ o (qn x)) ((aa++I2).set t.ob (tS ajh)):=e7 (u3.trans f2) (uC (by rw[uG T2.ot]));generalize (aa++I2).set t.ob (tS ajh)=bE at h3 qO f3
   generalize aa.length=n1 at h3 qO f3;generalize kB o n1 (qn x)=o1 at h3 qO f3;rw[cF h4 (h3.push (ς ((yu).map bk)) (vU x)) BA (qO.push (ς ((yu).map bk)) (vU x))]
   rw[bJ f4 (k8 o1 bE (kB o1 bE.length (vU x)) (bE++[ς ((yu).map bk)])) k8.push k4 (qZ (bE++QX (yu).map) bE.length ((yu).map bk)) Θ]
   rw[om e5 (SI ρ [aM,aV,fV,none] d aI qO.mt Tz) ec (nM true Au (ae0 (Wv C.tr)) (bP 0) uV (aB gd [aq]) [aM,aV,fV,none] bE=.ok (ο bE.length) (bE++[ς ((yu).map bk)])) (by
    have ei:ae0 (Wv C.tr) [aM,aV,fV,none] bE=.ok (t.tr.steps.reverse.map bk,ql t.so (ς ô)) bE:=by
     rw[iU ae0 e5 ag];rw[su qO.ms List.map_reverse]
    rw[yY (xs:=t.tr.steps.reverse) (w:=ql t.so (ς ô)) (M':=bE) bk x9 (λs=>bk Rb) (j8 [y]) ei qO.ms (gg none) (nu s) (by rw[au List.length_reverse (e! gU)])]
    ·rw[C0 _ _,ml (by rw[ek d9 List.length_reverse (e! gU)]),List.map_map];rfl
    ·rw[VE y _ _ (aK hd)]) (cj (aek (ο bE.length) _ t.ob (lj (aqE [] n1)) (lj ⟨⟨yu,[],t.tr.out⟩,t.ob,bE.length,n1⟩) ec rfl BA.mt (by rw[h_ (3<1000)]) aZU eu))];have h5:=h4.own (v:=tS (lj ⟨⟨yu,[],t.tr.out⟩,t.ob,bE.length,n1⟩)) (Ω BA.ot)
   have aYg:NT (kB o1 bE.length (vU x)) ((bE++QX (yu).map).set t.ob (tS (lj ⟨⟨yu,[],t.tr.out⟩,t.ob,bE.length,n1⟩))) ⟨⟨yu,[],t.tr.out⟩,t.ob,bE.length,n1⟩:=
    ⟨BA.ot,Kc,BA.oa,get_set BA.mt,ya BA.ot Kc k4,ya BA.ot BA.oa BA.ma⟩
   have ji:NV (kB o1 bE.length (vU x)) ((bE++QX (yu).map).set t.ob (tS (lj ⟨⟨yu,[],t.tr.out⟩,t.ob,bE.length,n1⟩))):=e7 (f3.trans f4) (uC (by rw[uG BA.ot]));rw[dm h6 (h5.seen (S.kH I) rR aYg rfl) (aWe h6 (by show ic sj;rw[auO]) λM' y1 y2=>⟨M',_,aKQ B x t.tr.ahead ⟨⟨yu,[],t.tr.out⟩,t.ob,bE.length,n1⟩,rfl,y1,ji.trans y2,aXY I S (lQ hk)⟩)]
universe zE
universe Sb
universe zE
end
mutual
section
namespace Sb
open PySem L2
abbrev GF:as9->aj
 |none=>.ah
 |nh=>kG b
abbrev gu:akZ Bl:=cQ u (aQ [η u.u,hV u.ns,.ai u.bd])
abbrev mL(t:iM):aj:=ς [aiu,aiv,.ai t.out]
abbrev eR:Int->iM->aj:=cQ t (mL t)
abbrev wKs gc(g:eG)PC K4:nZ:=
 [(aDb,kN),(aDI,Rm),(lY "wait",η Y.wait),(aDa,ο 6),(asV,bX g),(atB,η t),(agP,WU),(Û,ο j),(ait,ο 9),(atc,ο 10)]
structure hJ gc dF ly K4:Prop where
 qG:qZ M 6 (W.points.map GF)
 jE:v5 M 7 .ak (Y8 Y j)
 wl:qZ M j aCq
 TQ:7<j/\j≠9/\j≠10
 jF:M[9]? = Qz .ak gu W.falls
 jl:akg M 10 .ak
structure kl K4(M M':aL):Prop where
 len:aAh
 out:∀i,i≠6->i≠7->i≠9->i≠10->i≠j->EB i->M'[i]? = M[i]?
section
variable {Y:eJ}{M:aL}{W:bL}{j:Nat}{ρ:ej}
def kl.refl:oH M:=⟨fe,λ_ _ _ _ _ _ _=>rfl⟩
def kl.trans{aa M2:aL}(a:oH aa)(b:kl j aa M2):oH M2:=⟨Nat.le_trans a.len b.len,λi h1 h2 h3 h4 h5 h6=>e7 (b.out i h1 h2 h3 h4 h5 (aAR h6)) (a.out i h1 h2 h3 h4 h5 h6)⟩
def kl.set br xC(h:n=6\/n=7\/n=9\/n=10\/n=j):oH (Nh o):=⟨Θ,λi h1 h2 h3 h4 h5 _=>rA aD⟩
def kl.push xC:oH (M++[o]):=⟨Θ,λi _ _ _ _ _ hi=>List.getElem?_append_left hi⟩
abbrev aee(j i:Nat):Prop:=i=6\/i=7\/i=9\/i=10\/i=j
def hJ.keep gJ UP(h1:∀i,aee j i->EB i->M'[i]? = M[i]?):AA M' W:=
 ⟨Ĝ 6 (Ω rfl) (pP h.qG) h.qG,Ĝ 7 (aA (Ω rfl)) (pP h.jE) h.jE,Ĝ j (aA (aA (aA (aA rfl)))) (pP h.wl) h.wl,h.TQ,Ĝ 9 (aA (aA (Ω rfl))) (pP h.jF) h.jF,Ĝ 10 (aA (aA (aA (Ω rfl)))) (pP h.jl) h.jl⟩
def hJ.push gJ(o:fB):AA (M++[o]) W:=h.keep (aAE i _ hi hi)
def hJ.aPU gJ(l:P?):AA (r? 6 (l.map GF)) { W with points:=l}:=
 ⟨get_set h.qG,auz,auF (by rw[P!]),h.TQ,j5 h.jF,j5 h.jl⟩
def hJ.an0 gJ UO:AA (r? j (l.map bl)) (S6 W l):=
 ⟨x! (by rw[P!]) h.qG,x! (by rw[P!]) h.jE,get_set h.wl,h.TQ,x! (by rw[P!]) h.jF,x! (by rw[P!]) h.jl⟩
def hJ.an1 gJ(g:eG)PC:AA (lS 7 .ak (wKs Y g t j)) { W with green:=g,now:=t}:=
 ⟨j5 h.qG,get_set h.jE,auF (by rw[P!]),h.TQ,j5 h.jF,j5 h.jl⟩
def hJ.an2 gJ(f:yf):AA (lS 9 .ak (encD gu f)) { W with falls:=f}:=
 ⟨j5 h.qG,auz,auF (by rw[P!]),h.TQ,get_set h.jF,j5 h.jl⟩
def hJ.T6 gJ(d:QO):AA (Xh 10 .ak eR d) (Ms W d):=
 ⟨j5 h.qG,auz,auF (by rw[P!]),h.TQ,j5 h.jF,get_set h.jl⟩
def hJ.aPV gJ UO:arX ((M++yD (l.map bl)).set 7 (.ak (Wa Y))) (S6 W l):=by
 rw[cF hp (ack (l.map bl)) aEq (pP h.jl)];exact⟨j5 hp.qG,get_set hp.jE,agq aD Θ,⟨aD,aD,aD⟩,j5 hp.jF,j5 hp.jl⟩
variable {g:eG}{t:Int}
def Tr:Jg aDb=Nl:=cS
def ZH:Jg aDI=aY Rm:=cS
def a19:Jg (lY "wait")=dh Y.wait:=cS
def aIi:Jg aDa=iz 6:=cS
def aed:Jg asV=i0 g:=cS
def ayR:Jg atB=dh t:=cS
def Ke:Jg agP=aY WU:=cS
def Z1:Jg Û=iz j:=cS
def Km:Jg ait=iz 9:=cS
def oN:Jg atc=iz 10:=cS
def axV{g':eG}:kE (wKs Y g t j) asV (bX g')=wKs Y g' t j:=cS
def a3w{t':Int}:kE (wKs Y g t j) atB (η t')=wKs Y g t' j:=cS
def aZV{j':Nat}:kE (wKs Y g t j) Û (ο j')=wKs Y g t j':=cS
def aZW:dR (wKs Y g t j)<lim:=by rw[abJ 10]
def hJ.ix gJ gB eo{v:aj}aLO:vF d (c5 x) ρ=.ok v M:=by
 rw[ao,hd,ag,bb,ag];exact Th h.jE rfl hv
def hJ.put gJ eo{v:aj}:DG (ο 7) (aE x) v M=aY (lS 7 .ak (kE (Y8 Y j) (lY x) v)):=aEM h.jE rfl aZW
def aSF br{x v:aj}D! afq(h:Hj .bO)aMR:eT (ο n) x M=.ok v M:=by
 rw[MD eT amm h];simp only[L2.getD,h,hk,Option.map_some,hv]
abbrev adF(d:QO)(p:Int):eF:=gf (d.find? (ajn q p q.2 s.1)).map
def aFz gA{p:Xm}:∀l:qU,auo=aC2[0]?
 |[]=>rfl
 |a::l=>by
  rw[aBV List.find?_cons];cases h:p a with
  |true=>rfl
  |false=>simpa using aFz l
def aeA(d:QO):((jS eR d).map λq=>xk q.1)=d.map (CR q q):=by rw[Mm jS]
def aZX{P:Ej}UL{s:cR}{aa:aL}D6 d5{ρ':ej}G3(hi:HD M=.ok (xs,I6 .bO) aa)(hs:s ρ M=.nx ρ' (JU .bO))(q:P (.nx ρ' M)):P (Bd gr s ρ M):=
 Z! h hi (by rw[WH hs (get_set h) (by rw[au (Tq h) q])])
def J!{p:Int}gJ aLM(xq:ajS):avH [ο 7,η p] M=.ok (fY AL) M:=by
 rw[jw avH (pO (P:=λq=>q=.ok (fY AL) M) ?_)]
 simp only[bB,zD,zE,gx,Nat.zero_add,Nat.reduceAdd,Nat.reduceSub,List.replicate,f9,fz,eP]
 rw[cF e (nq [aR,lF,none] oN) hi (keys_eq h.jl e)];rw[aeA]at hi;rw[Qa hz (akg (Yw .bO) 10 .bO) (get_set h.jl) avl (v5 (Yw .bO) 7 .ak (Y8 Y j)) auz (aZX (ρ':=[aR,lF,ET ((W.trains.filter (HQ q p (ajm q.2 s.1))).map (CR q q))]) h.jl hi ?_ eu)]
 ·rw[aZ7,yY (xs:=W.trains) (w:=ql 10 (.bO ou)) (M':=Yw .bO) (CR q q) (ajn q p q.2 s.1) (CR q q) (j8 [y,lF,aR]) hi hz (gg none) (U9 q hq) (e! xq)]
  ·rw[fL (by rw[ni (L5 FL xq)]),Res.pS];rfl
  ·rw[uo y hρ]
   refine t8 _ lT ?_ wC;rw[asO (Yw .bO) hz avl]
   rw[gq v1 (nO ou JR=agp q.2) (by rw[zf,Yu];rfl) e1 (HN (pF Mv aq) (Ξ 0) [qb,lF,aR] aa=.ok (cv q.2.steps) aa) (by
    have e2:HN aI arV [qb,lF,aR] aa=.ok (ο 10) aa:=by
     rw[ao,av];rw[j!];rw[ag,bb,ag];exact Th avl rfl oN
    rw[ao,ao,e2,ag,av];rw[j!];rw[ag,akh hz k JR v1,ag,bb,ag];exact FA) e3 (YA (b5 (EP Mv aq)) [qb,lF,aR] aa=.ok (ς ((ajm q.2 s.1).map η)) aa) (by
    rw[JV q.2.steps aa bk (CR s s) (j8 [y]) (ig e1) (nu s) (e! (hl q hq))]
    ·rw[C0 _ _,fL (by rw[Df (hl q hq)]),List.map_map];rfl
    ·rw[VE y _ _ Na])]
   show sQ (QA az _) [qb,lF,aR] aa=_;rw[dD,ao,av]
   rw[j!];rw[ag,e3,ag,amq];rfl
 ·refine yl (fY AL);rw[dz adF aFz];rw[Z5,i9,av];rw[j!];cases aqM (ajn q p q.2 s.1) with
  |nil=>rfl
  |cons q l=>
   simp[fO,fY];exact FA
def adQ Ea UR{ti:eF}gJ(hp:aqt p)(ht:gt [ο 7,η p] M=.ok (fY ti) M):av5 gt [ο 7,η p] M=.ok (.ai (Ft||ti.isSome)) M:=by
 rw[Fv av5 (q=.ok (.ai (Ft||ti.isSome)) M)];rw[dm e (nq [aR,lF] Z1) (yl (.ai (Ft||ti.isSome)))]
 have e2:abV j p=.ok (bl (ago p)) M:=Tw h.wl (by rw[gI,List.getD_eq_getElem?_getD,List.getElem?_eq_getElem hp];rfl);rw[aJb,ao,ao,e,ag];simp only[av,aX,aW,ag,e2,bb];cases ago p with
 |none=>cases ti<;>simp[bl,ht,fY]
 |some r=>simp[bl]
def aZY{l:xG}gb:(l.filter x9).map (M! o o j? aj.ah (bl o))=(S? r l).map bl:=by
 rw[C0 _ _];rw[dz S? List.map_map];refine E5 o _;dsimp only[Function.comp];split<;>rfl
def ZQ gb gJ(hl:aO6):av6 [ο 7,η r] M=.ok .ah ((M++MU (oB).map).set 7 (.ak (Wa Y))):=by
 rw[Fv av6 (q=.ok .ah ((M++MU (oB).map).set 7 (.ak (Wa Y))))];rw[i6 e (nq [aR,b6] Z1) hp (ack ((oB).map bl)) (X9 gC (M++MU (oB).map) (ο 7) (M++MU (oB).map) (aE "locks") (M++MU (oB).map) ((M++MU (oB).map).set 7 (.ak (Wa Y))) Θ (kU hp.put aZV) Q?)];rw[yY (xs:=W.locks) (w:=ql j (ς aCq)) (M':=M) bl x9 (M! o o j? aj.ah (bl o)) (j8 [y,b6]) (Om e h.wl) h.wl (gg none) (nu o) Rd]
 ·rw[aZY,ml (by simp[S?];exact Rd)]
 ·rw[uo y hρ];refine jd _ rfl (gg _) (dJ _);simp only[List.set_cons_zero,Z5,dD,ao,av,aX,aW,ag,bb];cases o with
  |none=>
   rw[abA none .ah,ajJ p Ol (mS _)]
   simp
  |some r'=>
   rw[abA (some r') (η r'),rE]
   rw[acf (r'=r)]
   ·rw[Al e2]
   ·rw[Xx e3 (aS r'=r) e2 e3]
universe zE
universe Sb
universe zE
section
namespace Sb
open PySem L2
section
variable {Y:eJ}{M:aL}{W:bL}{j:Nat}{ρ:ej}
def aF5:∀bs:AD,cu (bools (bs.map aj.ai)) bs
 |[]=>rfl
 |b::bs=>by rw[bB,bools,aF5 bs];rfl
abbrev aDV rZ m8:Bool:=match p with
 |.pl _ _=>true
 |.pt _ u _=>mw u [s.2.1,s.2.2]
abbrev tm jY m8:Bool:=aDV (eH s.1) s
abbrev oX ly vg:Bool:=Ft||qm AL
abbrev heldW ly l!:Bool:=w.any λs=>(oX W s.1)
def aUL dZ l! m8 UO:Kh r (w++[s]) l=(Kh r w l).set s.1 j?:=by rw[ť Kh]
def aGF(oU:mj)Pw l! m8(l:P?):DB oU mV (w++[s]) l=if oU s.1 then(DB oU mV w l).set s.1 (aY (mV s)) else DB oU mV w l:=by rw[ť DB]
def a3x G7 gB(hd:dN=.ok (.ai b) M):(Ï [ĭ,(dC mD)] (aB OC [d])) ρ M=.ok (kG b) M:=by
 have e:vC i (∀x,jz ([NC,mD]:fZ) x->ajM [NC,mD] i=.ok x M):=λi x h=>Dq h;simp only[ao,w4,aJ,bq,bb,ag,bV,hd];rw[XH,ag,hd,ag,ag,JW (OC [.ai b] M) .ok (η (ag8 b 0)) M,ag]
 cases b
 ·exact e 0 _ rfl
 ·exact e 1 _ rfl
def ZZ gb{A6:D1}gJ G? aa9(tB:aq1)G8(i?:X4)(Zg:ë)(aQP:W.points.length=Y.ps.length)(s8:ahr)
  (hh:vC p (aqt p->A6 [ο 7,η p] M=.ok (.ai (oX W p)) M)):
  (aO (ĵ W)/\rn A6 [ο 7,η r] M=.ok (aE "held") M) ∨
  (aut W/\Cx (rn A6 [ο 7,η r] M=.ok (aE "ok") M') (aax Y.rs (uM Y.ps) abf W r)):=by
 rw[Fv rn ((aO (ĵ W)/\q=.ok (aE "held") M)\/(aut W/\Cx (q=.ok (aE "ok") M') (aax Y.rs (uM Y.ps) abf W r)))];rw[L6 e1 (nq [aR,b6,none,none,none] Ke) g4 M]
 ·rw[ao,ao,e1];simp[Go hr]
 rw[d8]
 rw[cV aar (Wu (agt s.1)) (λs gG=>akx r s.1 (lP s gG)) (cj (xY (ĵ W)))]
 ·have e2:nM false (ĺ 0) (b5 aI) (bP 0) uV (aB A6 [az,Aa]) [aR,b6,wJ,none,none] M=.ok (ς (((b3).map λs=>(oX W s.1)).map .ai)) M:=by
   rw[JV b3 M bk (λs=>.ai (oX W s.1)) (j8 [y,aR]) XI (U9 s hs) (e! i?)]
   ·rw[C0 _ _,cc (a! i?),List.map_map];rfl
   ·rw[uo y hρ];refine jd _ rfl (gg _) (dJ _);have:=hh s.1 (by rw[au Zg (aar s hs)]);simp[bk];simpa using this
  rw[i9,bV,aJ,e2];rw[wD bq];unfold aav
  simp only[Kf,Option.bind_some,aF5,ag,fO,aw6];rw[Ik heldW List.any_map]
 ·exact H? (aE "held") M (fS (Jf hk))
 rw[r9 (qY (kC bk (λpre ρ aa=>∃y z,ρ=[aR,b6,wJ,y,z]/\AA aa (Sq W (U2 r pre) points (DB (uM Y.ps) abf pre W.points))/\oH aa)
  b3 none M XI trivial (mC none none h kl.refl) ?_ ?_))]
 ·rintro pre s post hx ρ aa ⟨y,z,rfl,h1,f1⟩
  rw[wA _];rw[i6 Bv (aar s (by rw[n!])) e2 (AU [aR,b6,wJ,kq,z] Z1) (cj (y! (η r) aa (ο j) aa (η s.1) aa (abX j ((U2 r (pre++[s])).map bl)) Θ e2 Na ?_ eu))]
  ·rw[Tp h1.wl (by simp;rw[ek awq Zg Bv]),aUL,List.map_set];rfl
  rw[ahz h2 (h1.an0 (U2 r (pre++[s]))) f2 (oH (abX j ((U2 r (pre++[s])).map bl))) Ru (abX j ((U2 r (pre++[s])).map bl)) M2 h2 f2];rw[dm e3 (MS [aR,b6,wJ,kq,z] d Tr) (wh (Ü s.1).enc M2 ?_)]
  ·rw[ao,e3];simp only[ao,av,bb,aX,aW,ag];rw[j9 (eT (bk s) (η 0) M2) (.ok (η s.1) M2) zm,ag,OE Bv]
  rw[um (F1 (agl s.1) M2)]
  ·unfold uM;cases hp:Ü s.1<;>simp[fj.enc,uU]
  ·rw[dm e4 (MS [aR,b6,wJ,kq,some (Ü s.1).enc] d aIi) (y! (kG (tm Y.ps s)) M2 (ο 6) M2 (η s.1) M2 (JT 6 ς ((DB (uM Y.ps) abf (pre++[s]) W.points).map GF)) ?_ e4 Na ?_ (j4 (FQ _ (h2.aPU _) (aiH uu))))]
   ·unfold uM at cE;unfold tm;cases hp:Ü s.1 with
    |pl a b=>rw[hp]at cE;cases cE
    |pt t u b=>
     rw[cV e (Ć (η u) (aQ ([s.2.1,s.2.2].map η)) M2=_) aIn (a3x ?_)];rw[ao,ao];simp only[av,bb,aej,ZL,m4,aX,aW,ag,fj.enc,aai];rw[aIW,ag,e];rfl
   ·rw[Tp h2.qG (by simp;rw[ek aF0 aQP Bv]),aGF,if_pos cE,List.map_set];rfl
  ·rw[ų (Ys _ f2)];rw[ek aGF (sr (by rw[aqj cE])) h2]
 ·rw[Ic aa y z rfl h1 f1];rw[dm e2 (AU [aR,b6,wJ,y,z] aed) (qY (X9 (bX (VO [r])) aa (ο 7) aa (aE "green") aa (aa.set 7 (.ak (PO (VO [r])))) Θ (kU h1.put axV) (ajq _ (aA (FQ hk (h1.an1 _ _) Ru)))))];rw[ao,e2];simp only[w4,aJ,bq,av,aX,aW,ag];rw[XH,ag,Tl,fL (by simp[lim];omega)];simp
universe zE
universe Sb
universe zE
section
namespace Sb
open PySem L2
section
variable {Y:eJ}{M:aL}{W:bL}{j:Nat}{ρ:ej}
def afb af0 aa7:mR 2 (k6 (bP a) (oG b)) (aQ [x,y]) ρ=sq (EU a).set b C!:=rfl
def aPW l!:zS (cv w):=by
 intro y hy;rw[aqo s rfl hy];rw[VH z hz hz];rcases hz with rfl | rfl | rfl<;>exact mS _
def eq_nil qQ vj:fi neg (cv w) (ς []) M=.ok (.ai (BS (fK w []) (fK w []))) M:=
 ZM (aPW w) (aPW []) (by cases w<;>simp[cv])
abbrev wq gc qS(t:iM):Bool:=fK t.ahead []&&(! t.out&&(fK CJ (gP s).1&&iY (ru.1≠(gP s).2)))
abbrev J8 gc(d:QO)qS:fD:=gf (d.filter λq=>wq Y s q.2).map
def aIj dj:∀l:fD,aO (aj.DF n (l.map η))
 |[]=>rfl
 |x::l=>by rw[bB,aj.DF,aIj n l];rfl
def adR PD gJ(hs:wc)(hn:af9)(aU:LS (q.2.steps≠[]))(xq:ajS):Rl av7 [ο 7,η s]=.ok (hV CU) M:=by
 refine My (aIj _ _);rw[Ó av7 q (∃G,q=.ok (hV CU) (M++G)) e1 [aR,fc,none,none,none,none,none,none] ZH (aah XG [aR,fc,C7,CD,none,none,none,none] M ?_ afb eu)]
 ·rw[ao,e1];simp[TX hs]
 refine X5 (M++[ς []]);rw[d8]
 rw[i6 hp (ack []) e2 (hp.ix (ρ:=[aR,fc,C7,CD,iZ,none,none,none]) (d:=aq) rfl oN) (cj ?_)];rw[fJ hi (keys_eq hp.jl e2) aeA hi]
 refine Z! hp.jl hi ?_;have aEq:=pP h.jl;rw[kP zs (∀f:fZ,akg ((M++yD f).set 10 (.bO ou)) 10 .bO) (λf=>get_set (ack f).jl) aGo (∀f:fZ,v5 ((M++yD f).set 10 (.bO ou)) 7 .ak (Y8 Y j)) (λf=>j5 (ack f).jE) a7Q (∀f:fZ,((M++yD f).set 10 (.bO ou))[M.length]? = yt f) (λf=>agq aD Θ) a7U (∀f f':fZ,ajA ((M++yD f).set 10 (.bO ou)).set (ς f')=(M++yD f').set 10 (.bO ou)) (λf f'=>by
  rw[fy (List.set_comm _ _ aD)])]
 refine kC (λq:Int×iM=>aj.int q.1) (z4 (∃a b c,ρ=[aR,fc,C7,CD,iZ,a,b,c]/\M'=(M++yD ((JG).map η)).set 10 (.bO ou))) W.trains _ _ hi (zs []) (akD none none none) ?_ ?_
 ·rintro pre q post hx ρ M' ⟨a,b,c,rfl,rfl⟩
  rw[wA _]
  rw[bJ hq (q∈W.trains) (by rw[n!]) v1 (nO ou JR=agp q.2) (by rw[zf,Yu];rfl)]
  rw[Lx z1 (zs ((JG).map η)) z2 (aGo ((JG).map η)) TS (a7Q ((JG).map η)) aGm (a7U ((JG).map η))]
  rw[bJ K0 (gE JG 100) (by
   rw[dz J8 d9];refine ajU ?_;rw[hx,List.length_append]at xq;omega) Bb (J8 Y (pre++[q]) s=JG++(aDQ (wq Y s q.2) [q.1])) (by
   rw[mJ J8 List.filter_append List.map_append List.filter_cons];split<;>rfl)]
  rw[Bb];generalize (M++yD ((JG).map η)).set 10 (.bO ou)=aa at z1 z2 TS aGm
  rw[ĝ et (∀ρ:ej,Sa 0->HN aq arV ρ aa=.ok (ο 10) aa) (λρ h0=>by
   rw[uy ao av h0];rw[ag,bb,ag];exact Th z2 rfl oN) (mL q.2) aa]
  ·rw[ao,et _ rfl,ag,av];rw[ahd ag (akh z1 k JR v1)]
  rw[d8];rw[kP aEG (eT (mL q.2) (η 0) aa=.ok (cv q.2.steps) aa) FA i1 (eT (mL q.2) (η 1) aa=.ok (cv q.2.ahead) aa) (LZ 1) i2 (eT (mL q.2) (η 2) aa=.ok (.ai q.2.out) aa) (LZ 2) i3 (eT (cv q.2.steps) (η 0) aa=.ok (bk (eB q.2)) aa) (Dq (i:=0) (aaf (aU q hq)))];rw[ur i4 (eT (bk (eB q.2)) (η 2) aa=.ok (η (eB q.2).2.2) aa) aai i5 (eT (bk (eB q.2)) (η 0) aa=.ok (η (eB q.2).1) aa) zm (rm (bk (eB q.2)) aa)]
  ·simp only[ao,av,bb,aX,aW,ag,aEG,i3]
  rw[um (yj (wq Y s q.2) aa)]
  ·rw[bJ el (∀ρ:ej,PY [] ρ aa=.ok (ς []) aa) (λρ=>by rw[Yo nL bq (fL aZ)]) Zf (∀b:Bool,E2 aa (.ai b) aa=.ok b aa) (û b)];simp only[A8,dD,axB,i9,ao,av,bb,aX,aW,ag,i1,i2,i4,i5,el,eq_nil,rE,Zf];unfold wq;rw[Ak (q.2.ahead=[])]
   ·cases h2:q.2.out
    ·by_cases h3:(eB q.2).2.2=(gP s).1
     ·by_cases h4:(eB q.2).1=(gP s).2
      ·simp[h1,h3,h4]
      ·have h5:¬(aS (eB q.2).1=aS (gP s).2):=dW (h4 ahC);simp[h1,h3,h4,h5]
     ·simp[h1,h3]
    ·simp[h1]
   ·simp[h1]
  ·rw[HY]
   rw[cV em (qx sS bI [eW] [aR,fc,C7,CD,iZ,qb,agp q.2,HJ (eB q.2)] aa=.ok .ah (abX M.length ((JG).map η++[η q.1]))) (by
    rw[aki rfl TS [η q.1] rfl];unfold sS l7;rw[su TS (jx (by rw[ni (LI K0)]))]) (lX .ah _ em ?_)];rw[ia aGm (A2 (zs _) (JB _ _ ?_))];rw[aPk]
  ·rw[hk,nC,eP];have:=aGm ((JG).map η);rw[r9 (A2 z1 (JB _ _ ?_))];rw[←this,axn TS]
 ·rw[Ic M' a b c rfl rfl];rw[iC (zs _) eu];rw[ia (Tq (ack ((CU).map η)).jl) (yi (hV CU) (M++I?) ajO)];simp[DJ,yB]
universe zE
universe Sb
universe zE
section
namespace Sb
open PySem L2
section
variable {Y:eJ}{M:aL}{W:bL}{j:Nat}{ρ:ej}
def aZZ qQ gb{ns:eG}:JX (η r) (bX ns)=.ok (.ai (PR r ns r ns)) M:=
 Kl (enc:=Nn (n:Nat)) (λa=>mS _) (λa b e=>by cases e;rfl) (a:=r) (as:=ns) rfl
def lx gb{g7 bN pX:D1}gJ G8(hs:akC)(s8:ahr)(By:ahs)
  (hn:∀M W' qS,AA M W'->at0 W.trains->wc->g7 [ο 7,η s] M=.ok (hV CU) M)
  apq
  (hf:∀M W,Ed->ë->pX [ο 7,η r] M=.ok .ah ((M++MU (oB).map).set 7 (.ak (Wa Y))))
  (Zg:ë):
  (Md r/\ac7 g7 bN pX [ο 7,η r] M=.ok (aE "none") M) ∨
  (ua/\((g5 (ud&&(! M5||kW))/\Cx (ac7 g7 bN pX [ο 7,η r] M=.ok (aE "ok") M') (T5 W r ⟨RI,FO,kW⟩)) ∨
   (q? (ud&&(! M5||kW))/\vD (ac7 g7 bN pX [ο 7,η r] M=.ok (aE "ok") M') (arX M' (Z0 W r)) (kl j M M')))):=by
 rw[Ó ac7 q ((Md r/\q=.ok (aE "none") M) ∨
  (ua/\((g5 (ud&&(! M5||kW))/\Cx (q=.ok (aE "ok") M') (T5 W r ⟨RI,FO,kW⟩)) ∨
   (q? (ud&&(! M5||kW))/\vD (q=.ok (aE "ok") M') (arX M' (Z0 W r)) (kl j M M'))))) e1 [aR,b6,none,none,none,none] aed (xY (HX r W.green))]
 ·rw[dD,ao,ace 1 [aR,b6,none,none,none,none] .ok r,ag,e1,ag,aZZ]
  rfl
 ·exact H? (aE "none") M (fS (Jf qt))
 rw[cV hk ua qt (dy (qY (X9 (bX (AV x x)) M (ο 7) M (aE "green") M (lS 7 .ak (PO (AV x x))) Θ (kU h.put axV) eu)))]
 ·rw[VQ W.green w M (Nn (n:Nat)) (qu x x r) (Nn (n:Nat)) (j8 [y,b6]) (ig e1) (nu x) (e! s8)]
  ·exact fL (by rw[ni (L5 FL s8)])
  ·rw[uo y hρ]
   refine t8 _ lT ?_ wC
   simp only[List.set_cons_zero,dD,ao,av,aX,aW,ag,rE];rw[acf (x=r)]
   ·rw[Al e2]
   ·rw[Xx e3 (aS x=r) e2 e3]
 rw[sy h1 (h.an1 (AV x x) W.now) f1 (oH (lS 7 .ak (PO (AV x x)))) uu l1 (aib (lS 7 .ak (PO (AV x x)))) List.length_set]
 generalize lS 7 .ak (PO (AV x x))=aa at h1 f1 l1
 have aQo:∀(ρ:ej),Sa 0->rj 1 b6->HN (q! B!) (Ξ 0) ρ aa=.ok (η b_) aa:=λρ h0 O_=>by
  have:=h1.ix (ρ:=ρ) (d:=aq) (vY h0) Ke;rw[ao,ao,this,ag,av,O_];simp[Go hr]
 rw[q8 e2 (AU [aR,b6,none,none,none,none] ZH) (aah (e9 (gP b_)) [aR,b6,aj0,akU,none,none] aa ?_ afb eu)]
 ·rw[ao,e2,ag,aQo _ rfl rfl,ag,TX hs]
 refine rm (hV FO) aa
 ·rw[bV,aJ,av];simp only[aX,aW,ag];rw[aJ,aQo _ rfl rfl];simp[hn aa _ b_ h1 rfl hs]
 rw[d8]
 rw[L6 e3 (AU [aR,b6,aj0,akU,Mt FO,none] Tr) (.ai kW) aa]
 ·rw[ao,bV,aJ,e3];simp only[aJ,bq,av,aX,aW,ag,bb,hb];unfold A3;cases E3 (gP b_).2 t!<;>rfl
 rw[ĩ e4 (AU [aR,b6,aj0,akU,Mt FO,z7 .ai kW] a19) e5 (AU [aR,b6,aj0,akU,Mt FO,z7 .ai kW] ayR)];rw[q8 e6 (AU [aR,b6,aj0,akU,Mt FO,z7 .ai kW] Km) (F1 (ud&&(! M5||kW)) aa)]
 ·rw[A8,dD,ao,e4];simp only[ag,bb,aX0,Z4,i9,av,aX,aW,aw6]
  rw[bJ Zf (∀l:fD,fO aa (hV l)=aY (! l.isEmpty)) (λl=>by cases l<;>rfl) acL (∀b:Bool,fO aa (.ai b)=nh) (û b)];cases K0:M5<;>by_cases als:0<Y.wait<;>simp[als,Zf,acL,K0]
 ·refine X9 (gu r ⟨RI,FO,kW⟩) aa (ο 9) aa (η r) aa (WM 9 .ak gu (aiw r ⟨RI,FO,kW⟩)) e6 ?_ (ajq _ (r_ hk (Ω (FQ cE (h1.an2 _) Ru))))
  ·rw[pU,aJ,ao,e5,ag,e4,ag,JW (Ă (η W.now) (η Y.wait) aa) .ok (η RI) aa]
   simp[gu]
  ·rw[ajj h1.jF r (by rw[ah4 amt By])]
   congr 3
   exact ams gu r _ _
 ·rw[dm sT (hf aa _ h1 Zg) (lX .ah _ (by rw[Ab sT]) (ajq _ (r_ hk (aA (Ys cE (ahK kl.push uu))))))];have:=h1.aPV oB;rw[ux l1 this this]
def adS{pX:D1}gJ(jm:ic nB)(By:ahs)(Zg:ë)
  (hf:∀M W j dZ,Ed->ë->pX [ο 7,η r] M=.ok .ah ((M++MU (oB).map).set 7 (.ak (Wa Y)))):
  ∃M' j',av8 pX [ο 7] M=.ok (aE "ok") M'/\hJ Y M' (Gs W) j'/\oH M'/\(j'=j\/ġ j'):=by
 rw[Ó av8 q (∃M' j',q=.ok (aE "ok") M'/\hJ Y M' (Gs W) j'/\oH M'/\(j'=j\/ġ j')) e1 [aR,none] ayR (X9 (η AX) M (ο 7) M (aE "now") M (lS 7 .ak (aqs Y AX j)) Θ (kU h.put a3w) eu)]
 ·rw[ao,e1,ag,bb,ag];rfl
 rw[ahz h1 (h.an1 W.green AX) f1 (oH (lS 7 .ak (aqs Y AX j))) uu (lS 7 .ak (aqs Y AX j)) aa h1 f1];rw[om e2 (AU [aR,none] Km) ei (aB Mj [yE] [aR,none] aa=.ok (ς (J4 (nB).map)) aa) (by
  rw[bV,aJ,e2];rw[wD bq]
  rw[wk Tt (pT h1.jF)]
  have e3:(encD gu W.falls).map (λq=>xk q.1)=J4 (nB).map:=by
   rw[aqS encD];rfl
  rw[e3,fL (by rw[ahL By])]) (cj (kC (jJ (r:Nat) r) (λpre ρ M2=>∃y j2,ρ=[aR,y]/\hJ Y M2 (MP W) j2/\oH M2/\(j2=j\/ġ j2)/\(MP W).locks.length=Y.ps.length) nB none aa (ig ei) trivial ⟨none,j,rfl,h1,f1,Ω rfl,Zg⟩ ?_ ?_))]
 ·rintro pre r post hx ρ M2 ⟨y,j2,rfl,h2,f2,o2,l2⟩;rw[wA _];rw[sy O! (axT jm hx) KI (b9 (MP W).falls r=HU r) (aHf pre _ O!) aas (r∈nB) (by rw[n!])]
  rw[U! u GX ((aix _).mp aas)]
  have ae8:(MP W).now=AX:=by rw[cC aGv]
  rw[cF e3 (MS [aR,b6] d Km) e4 (MS [aR,b6] d ayR)]
  rw[gq e5 (HN (q! yE) (Ξ 0) [aR,b6] M2=.ok (η u.u) M2) (by
   rw[ao,ao,e3,ag];rw[NN];rw[Th h2.jF (k:=jM r) (v:=gu r u) rfl (by rw[uO,KI,GX];rfl)];simp[gu]) Bb ((pre++[r]).foldl oM (xI W)=oM (MP W) r) (by rw[List.foldl_append];rfl) OK (TY (MP W).falls (MP W).now r=F4 u.u AX) (by
   rw[mJ TY KI GX ae8])]
  generalize MP W=aZH at *;refine yj (F4 u.u AX) M2
  ·rw[dD,ao,e5,ag,e4,ag,ae8,aIf];rfl
  ·rw[o? (aag (k:=jM r) (y:=η r) (gu r u) e3 h2.jF Θ rfl (by rw[uO,KI,GX];rfl) eu)];rw[amb];rw[sy h3 (h2.an2 (atf r)) f3 (oH (JT 9 .ak (Az gu (atf r)))) (aiH uu) l3 (dR (JT 9 .ak (Az gu (atf r)))=M2.length) List.length_set]
   generalize JT 9 .ak (Az gu (atf r))=bE at h3 f3 l3;rw[dm sT (hf bE _ _ r h3 l2) (lX .ah _ (by rw[Ab sT]) (j4 ⟨_,bE.length,rfl,?_,e7 (f3.trans kl.push) uu,aA f3.len,?_⟩))]
   ·rw[Bb];rw[jL oM (jx aDe) (h3.aPV _)]
   ·rw[Bb];rw[dz oM (jx aDe)];simpa[S?] using l2
  ·rw[ų ⟨_,j2,rfl,?_,f2,o2,?_⟩]
   ·rw[Bb];rw[jL oM (IA hc (by rw[aBg ff hc hk ff];cases ff)) h2]
   ·rw[Bb];rw[jL oM (IA hc (by rw[aBg ff hc hk ff];cases ff)) l2]
 ·rintro ρ' M2 ⟨y,j2,rfl,h2,f2,o2,l2⟩;exact abG M2 M2 j2 h2 f2 o2
def adz Ea{A6:D1}gJ(hp:vB)(Zg:ë)(uY:JO->∃b,pA W.points p b)
  (hh:A6 [ο 7,η p] M=.ok (.ai (oX W p)) M):
  (aus p/\adl A6 [ο 7,η p] M=.ok (aE "none") M) ∨
  (JO/\((g5 (oX W p)/\adl A6 [ο 7,η p] M=.ok (aE "held") M) ∨
   (q? (oX W p)/\Cx (adl A6 [ο 7,η p] M=.ok (aE "ok") M') (Oq W p)))):=by
 rw[Ó adl q ((aus p/\q=.ok (aE "none") M) ∨
  (JO/\((g5 (oX W p)/\q=.ok (aE "held") M) ∨
   (q? (oX W p)/\Cx (q=.ok (aE "ok") M') (Oq W p))))) e1 [aR,lF] Tr (xY (!(agl p)))]
 ·rw[dD,ao,ao,ao,e1];simp only[av,aX,aW,ag,OE hp,bb];unfold uM;cases hp:Ü p<;>simp[fj.enc,uU]
 ·exact H? (aE "none") M (fS (Jf qt))
 rw[cV hk JO qt (dy (qY (F1 (oX W p) M)))]
 ·simp[hh,fO]
 ·exact H? (aE "held") M (fS (r_ hk (Jf cE)))
 rw[Fj b hb (uY hk) acO (p<W.points.length) (List.getElem?_eq_some_iff.mp hb).1];have h1:=h.push (.ak [(V6,NC),(Wf,mD)]);rw[gq f1 (oH (M++[.ak [(V6,NC),(Wf,mD)]])) kl.push g1 ((M++I9 [(V6,NC),(Wf,mD)])[M.length]? = d7 .ak [(V6,NC),(Wf,mD)]) Θ ed (Gz [("straight",ĭ),("branch",(dC mD))] [aR,lF] M=.ok gC (M++I9 [(V6,NC),(Wf,mD)])) (by
  rw[af7])]
 generalize M++I9 [(V6,NC),(Wf,mD)]=aa at h1 f1 g1 ed;rw[om e2 (AU [aR,lF] aIi) e3 (eT (ο 6) (η p) aa=.ok (kG b) aa) (Tw h1.qG (by rw[gI,hb];rfl)) (dy (qY (X9 (kG (! b)) aa (ο 6) aa (η p) aa (abX 6 ((aqA (some ! b)).map GF)) e2 (by rw[Tp h1.qG (a! acO),List.map_set];rfl) (ajq _ (r_ hk (aA (Ys cE Ru)))))))]
 ·rw[ao,ed,ag,ao,e2,ag];simp only[av,aX,aW,ag,e3];cases b
  ·exact WB g1 k Wf cS
  ·exact WB g1 k V6 cS
 ·have:=h1.aPU (aqA (some ! b));rw[iU Oq List.getD_eq_getElem?_getD hb];rw[zV]
universe zE
universe Sb
universe zE
end
mutual
section
namespace Sb
open PySem L2
section
variable {Y:eJ}{M:aL}{W:bL}{j:Nat}{ρ:ej}
abbrev anv rX UH:bL:={ W with green:=aCR (qu y y r),falls:=Qx r,locks:=RH ((jN).headD (0,0,0))}
abbrev uX UJ dZ:Bl:=(HU r).getD (Cb 0 [x])
def ayk aoN:xd Y W x s r=(fK b_ s&&((uX W x r).bd||mw x (uX W x r).ns)):=by
 unfold xd uX;cases HU r<;>simp
def aKe(d:yf):((XM gu).map λq=>xk q.1)=R6 (q3).map n gi:=by
 rw[aqS encD];rfl
def aZ0 qQ fC UE:JX (η x) (hV ns)=.ok (.ai (PR x ns x ns)) M:=amq
def aWf{ρ:ej}d6 gb{g:eG}gB(hd:dN=.ok (bX g) M)(hc:KC (C1 fE) ρ=C1 b6)(hl:Iq g.length):
  Ŭ (C1 fE) (b5 d) RD ρ M=.ok (bX (g.filter (qu x x r))) M:=by
 rw[yY (xs:=g) (w:=none) (M':=M) (Nn (n:Nat)) (qu x x r) (Nn (n:Nat)) (j8 [y,b6]) (ig hd) trivial ⟨none,hc⟩ (nu x) Rd]
 ·exact fL (by rw[ni (L5 FL hl)])
 ·rw[uo y hρ]
  refine t8 _ lT ?_ wC
  simp only[List.set_cons_zero,dD,ao,av,aX,aW,ag,rE];rw[acf (x=r)]
  ·rw[Al e2]
  ·have e3:¬(aS x=r):=dW (e2 ahC);simp[e2,e3]
def pf fC PD gJ(Bw:∀r,xJ->jZ)(aU:YY)(i?:Lr X4)(s8:ahr)(By:ahs)
  (rQ:∀r,xJ->IY ((b3).headD (0,0,0))):
  match w7 Y W x s with
  |none=>al2 [ο 7,η s,η x] M=.ok .ah M
  |j?=>Cx (al2 [ο 7,η s,η x] M=.ok g4 M') (anv Y.rs W r):=by
 rw[jw al2 (pO (P:=λq=>match w7 Y W x s with | none=>q=.ok .ah M | j?=>Cx (q=.ok g4 M') (anv Y.rs W r)) ?_)]
 simp only[bB,zD,zE,gx,Nat.zero_add,Nat.reduceAdd,Nat.reduceSub,List.replicate,f9,fz,eP]
 rw[cF e1 (nq [aR,fc,aV,none,none,none] aed) e2 (nq [aR,fc,aV,none,none,none] Km)]
 rw[vL ei (cg (wU false) ō (aB Mj [yE]) [aR,fc,aV,none,none,none] M=.ok (ς (R6 (akd).map n gi)) M) (by
  rw[ao,e1,ag,bV,aJ,e2];rw[wD bq];rw[wk Tt (pT h.jF)];rw[aKe,fL (by rw[ahL By]),ag,Tl,List.map_append,fL (by simp[lim];omega)]) (CE (Nn (n:Nat)) (∃a b c,ρ=[aR,fc,aV,a,b,c]/\M'=M/\aq3 (xd Y W x s)) akd M (ig ei) ⟨none,none,none,rfl,rfl,rfl⟩)]
 ·rintro pre r post hx ρ M' ⟨a,b,c,rfl,rfl,i!⟩;rw[wA _];have hlr:xJ:=aPz (by rw[n!]);rw[sy hr (Bw r hlr) a3y (aO (xd Y W x s r)->w7 Y W x s=j?) (λhm=>by
   unfold w7;rw[hx,List.find?_append,i!,List.find?_cons,hm];rfl) aKU (cW (xd Y W x s r)->bR ((pre++[r]).find? (xd Y W x s))) (λhm=>by
   rw[List.find?_append,i!,List.find?_cons,hm];rfl)]
  rw[cV y9 (HN B! bw [aR,fc,aV,b6,b,c] M'=.ok (aQ [η b_,g4]) M') (by
   have:=nq [aR,fc,aV,b6,b,c] Ke;rw[ao,this,ag,av];rw[ahd ag (Go hr)]) (yj (fK b_ s) M')]
  ·rw[dD,ao,ao,y9,ag,bb,ag,JW (eT (aQ [η b_,g4]) (η 0) M') .ok (η b_) M',ag,av]
   rw[j!];rw[ag,rE];by_cases dQ:b_=s
   ·simp[dQ]
   ·have aEh:¬(aS b_=aS s):=dW (dQ ahC);simp[dQ,aEh]
  ·rw[i6 hk aPt e3 (nq [aR,fc,aV,b6,b,c] Km) (rm (gu r (uX W x r)) M')]
   ·unfold Ov
    rw[uy e3 ag (pT h.jF)];rw[av];rw[j!];rw[ag]
    have ed:fg [Ξ 0,h7 [aI],So .ai] [aR,fc,aV,b6,b,c] M'=.ok (aQ [η 0,ς [η x],qa .ai]) M':=by
     unfold fg nL;simp only[aJ,bq,bb,av,aX,aW,ag];rw[fL (by rw[h_ (1≤lim)])];rw[ahZ]
    rw[ed,ag,pT h.jF];rw[su iH uO];unfold uX;cases HU r<;>rfl
   rw[um (F1 ((uX W x r).bd||mw x (uX W x r).ns) M')]
   ·rw[gq i2 (eT (gu r (uX W x r)) (η 2) M'=.ok (.ai (uX W x r).bd) M') rfl i1 (eT (gu r (uX W x r)) (η 1) M'=.ok (hV (uX W x r).ns) M') rfl Zf (∀b:Bool,E2 M' (.ai b) M'=.ok b M') (û b)];simp only[Z4,i9,dD,ao,av,bb,aX,aW,ag,i1,i2,aZ0,Zf];cases(uX W x r).bd<;>simp
   ·have hm:aO (xd Y W x s r):=by rw[ayk,cE];simp[hk]
    rw[a3y hm]
    rw[Ŏ w fN (∃s0 w,b3=s0::w) (by
     cases dQ:b3 with
     |nil=>rw[nF dQ (aU r hr)]
     |cons a b=>exact jy a b)]
    rw[cF e4 (nq [aR,fc,aV,b6,Č r (uX W x r),c] aed) h1 (h.an1 (AV y y) W.now)];rw[vL f1 (kl j M' (M'.set 7 (.ak (PO (AV y y))))) uu (y! (bX (AV y y)) M' (ο 7) M' (aE "green") M' (M'.set 7 (.ak (PO (AV y y)))) (aWf e4 rfl s8) rfl rfl (kU h.put axV) eu)];rw[asO (M'.set 7 (.ak (PO (AV y y)))) h1 f1];rw[ĥ e5 (AU [aR,fc,aV,b6,Č r (uX W x r),c] Km) v2 p2 (axp (dx:=dC .ah) (z:=.ah) e5 h1.jF (k:=r) (dk:=bw) rfl rfl)];rw[om h2 (h1.an2 (Qx r)) f2 (kl j M' (WM 9 .ak gu (Qx r))) Ru (cj (C? v2 _ p2))];generalize WM 9 .ak gu (Qx r)=M2 at h2 f2;refine rm g4 M2
    ·have e6:=MS [aR,fc,aV,b6,Č r (uX W x r),c] d Ke;rw[bV,aJ,ao,ao,e6,ag,av];rw[j!];rw[ag,Go hr,ag,bb,ag,JW (eT (aQ [η b_,g4]) (η 1) M2) .ok g4 M2,ag,bq,ag,ag]
     rw[wk A_ pv];exact fL (by rw[Df (i? r hr)])
    rw[ĩ sT (MS [aR,fc,aV,b6,Č r (uX W x r),wJ] d Z1) iJ (rQ r hlr)];rw[fN]at iJ;rw[q8 h3 (h2.an0 RS) (y! .ah M2 (ο j) M2 (η s0.1) M2 (JT j ς ((RS).map bl)) rfl sT ?_ ?_ (gN (ū g4 _ (cx (fS (ri _ ?_ (aiH uu)))))))]
    ·rw[ao,ao,av]
     rw[j!];rw[ag,bb,ag,fN,j9 (eT (cv (s0::w)) (η 0) M2) (.ok (bk s0) M2) FA,ag,bb,ag]
     exact zm
    ·rw[Tp h2.wl (by rw[ni iJ]),List.map_set];rfl
    ·rw[jL anv fN h3]
   ·rw[ų ⟨_,_,_,rfl,rfl,aKU ?_⟩];rw[ayk,cE,Bool.and_false]
  ·rw[ų ⟨_,_,_,rfl,rfl,aKU ?_⟩];rw[ayk,hk,Bool.false_and]
 ·rintro ρ' M' ⟨a,b,c,rfl,rfl,i!⟩;refine MX .ah M' ?_;have:bR (w7 Y W x s):=i!;rw[this]
universe zE
universe Sb
universe zE
section
namespace Sb
open PySem L2
abbrev an3:tC->Str
 |.ok=> "ok"
 |cP=> "none"
 |.held=> "held"
 |.red=> "red"
abbrev DL gc K4 dF azl(W':bL):Prop:=match k with
 |.ok=>∃M' j',res=.ok (aE "ok") M'/\hJ Y M' W' j'/\oH M'/\(j'=j\/ġ j')
 |cP=>res=.ok (aE "none") M
 |.held=>res=.ok (aE "held") M
 |.red=>res=.ok (aE "red") M
section
variable {Y:eJ}{M:aL}{W:bL}{j:Nat}{ρ:ej}
def a2a d5:NP sC none=xs.drop 1:=by
 cases xs with
 |nil=>rfl
 |cons x xs=>exact aJ1 (k:=1) Θ
def a2b d5:aiP (aY (-1))=xs.dropLast:=by
 rw[mJ TG qL.aw4 Nat.sub_zero List.drop_zero]
 have e:V7 (aY (-1))=EV 1:=by
  rw[sf qL.md];rw[n? aCZ]
 rw[e,List.dropLast_eq_take]
def a2c d5:aiP sC=xs.take 1:=ayi (k:=1)
def aKV vj:gw false (cv w) .ah M=.ok (qa .ai) M:=rfl
def ayL vj aoO:tu false (cv w) none sC M=.ok (cv (w.take 1)) M:=by
 show(match oF (ς Mk) with | j_=>Mi (aiP sC) M | none=>aF)=_
 rw[j3 Kf];rw[a2c,←List.map_take,fL (by rw[Df (aBN _)])]
def ayM vj aoO:tu false (cv w) sC none M=.ok (cv (w.drop 1)) M:=by
 show(match oF (ς Mk) with | j_=>Mi (NP sC none) M | none=>aF)=_
 rw[j3 Kf];rw[a2a,←List.map_drop,fL (by rw[ek d9 List.length_drop (L5 (Nat.sub_le _ _) hl)])]
def a3z vj aoO:tu false (cv w) none (aY (-1)) M=.ok (cv w.dropLast) M:=by
 show(match oF (ς Mk) with | j_=>Mi (aiP (aY (-1))) M | none=>aF)=_
 rw[j3 Kf];rw[a2b,←List.map_dropLast,fL (by rw[ek d9 List.length_dropLast (L5 (Nat.sub_le _ _) hl)])]
def aKW{a b:gV}(ha:tR a.length)(hb:tR b.length):Ă (cv a) (cv b) M=.ok (cv (a++b)) M:=by
 show Mi (EY++b.map bk) M=_;rw[←List.map_append,fL (by rw[d9,List.length_append];rw[Q3 (_≤16000000)])]
abbrev ayl gc(dM:D1):Prop:=∀dF ly K4 gz qS,Ed->(∀r,xJ->jZ)->ahr->ahs->(∀r,xJ->IY ((b3).headD (0,0,0))) →
 match w7 Y W x s with
 |none=>dM [ο 7,η s,η x] M=.ok .ah M
 |j?=>Cx (dM [ο 7,η s,η x] M=.ok g4 M') (anv Y.rs W r)
structure aKx kL:Prop where
 lv:∀r,xJ->jZ
 gl:ahr
 fl:ahs
 lk:∀r,xJ->IY ((b3).headD (0,0,0))
 wl:Lr X4
 nd:af9
 tl:ajS
 sl:∀x t,dG=eU->t.steps.length≤99/\aqT 100/\ajt []
 al:∀x t,dG=eU->Wi (IY s)
def a7P m6 gJ(hl:ajS):DG (ο 10) (η x) (mL t) M=aY (Xh 10 .ak eR (z? t)):=by
 rw[WE h.jl uA (by rw[ah4 axl hl])]
 congr 3
 exact aIe eR x t _
def amT aoN(h:w7 Y W x s=j?):xJ:=aPz (List.mem_of_find?_eq_some h)
def adA fC PD{bN dM:D1}aoA(hs:wc)apq(hp:ayl Y dM):
  DL Y j M (avW bN dM [ο 7,η x,η s] M) (Gk Y W x s) (Ot Y W x s):=by
 rw[Ó avW q (DL Y j M q (Gk Y W x s) (Ot Y W x s)) e1 [aR,aV,fc,none,none,none] ZH (aah XG [aR,aV,fc,C7,CD,none] M ?_ afb eu)]
 ·rw[ao,e1];simp[TX hs]
 unfold Gk Ot;rw[ah9 hs];rw[q8 e2 (nq [aR,aV,fc,C7,CD,none] Tr) (xY (! lH))]
 ·rw[dD,ao,bV,aJ,e2];simp only[aJ,bq,av,aX,aW,ag,bb,hb];unfold A3;cases E3 (gP s).2 (gP s).1<;>rfl
 ·have hk:cW lH:=qt
  rw[au hk (Rv (aE "none") M)]
 have hk:aO lH:=qt
 rw[hk,eK];rw[Đ e3 (nq [aR,aV,fc,C7,CD,none] oN) (qY (F1 (qm dG) M))]
 ·rw[dD,ao,av];rw[j!];rw[ag,e3,ag,WA h.jl k uA,zf];simp
 ·rw[ek cE eK (Rv (aE "held") M)]
 rw[cE,nC];refine dy eu;have ep:=hp M W j x s h K.lv K.gl K.fl K.lk;cases Zi:w7 Y W x s with
 |none=>
  rw[yS Zi ep (VR .ah (aK ep))];rw[d8];exact cj (OQ M Θ (Rv (aE "red") M))
 |some r=>
  rw[Zi]at ep;obtain⟨aa,p1,p2,p3⟩:=ep;rw[dm i? (K.wl r (K.lv r (amT Zi))) (wh g4 aa (by rw[Ab p1]))];rw[wG (tI aa (aK aKV) (dy Yt))];rw[i6 e4 (p2.ix (ρ:=[aR,aV,fc,C7,CD,wJ]) (d:=aq) rfl oN) h2 (p2.T6 (aqx ((b3).take 1++[]) ((b3).drop 1))) (X8 (mL (Cb ((b3).take 1++[]) ((b3).drop 1))) aa (ο 10) aa (η x) aa _ e4 (abg p2) (abG _ _ j h2 (p3.trans uu) (Ω rfl)))];rw[cF sa (ayL (M:=aa) i?) sb (ayM (M:=aa) i?)];unfold nL;simp only[aJ,bq,aej,ZL,m4,av,bb,aX,aW,ag,sa,sb];rw[fL (by rw[h_ (3≤lim)]),eP];rfl
def ayN m6{d dk:bu}gJ La(hd:dN=.ok (ο 7) M)(hk:IQ M=.ok (η x) M):vF (ö d "trains") dk ρ=.ok (mL t) M:=by
 rw[ao,h.ix hd oN,ag,hk,ag];exact WB h.jl k uA (by rw[zf,hx];rfl)
def Z3{t:iM}:aiI t 0=.ok aiu M:=FA
def amn{t:iM}:aiI t 1=.ok aiv M:=LZ 1
def awi{t:iM}:aiI t 2=.ok (.ai t.out) M:=LZ 2
def aPX vj(h:w≠[]):zX (cv w) 0=.ok (bk (w.headD (0,0,0))) M:=Dq (i:=0) (aaf h)
def aDW vh:Qk s 0=.ok (η s.1) M:=zm
def aPY vh:Qk s 2=.ok (η s.2.2) M:=aai
def am8 G7:E2 M (.ai b) M=.ok b M:=rfl
def Ta:PY [] ρ M=.ok (ς []) M:=by rw[Yo nL bq (fL aZ)]
def Tb{b:fF}:gw false (bl b) .ah M=.ok (.ai b.isNone) M:=by cases b<;>rfl
def aen m6{bN dM:D1}aoA La apq(hp:ayl Y dM):
  DL Y j M (awC bN dM [ο 7,η x] M) (DW Y W x) (DX Y W x):=by
 rw[jw awC (pO (P:=λq=>DL Y j M q (DW Y W x) (DX Y W x)) ?_)]
 simp only[bB,zD,zE,gx,Nat.zero_add,Nat.reduceAdd,Nat.reduceSub,List.replicate,f9,fz,eP]
 obtain⟨gU,G0,aU⟩:=K.sl x t hx
 unfold DW DX
 rw[j3 hx]
 refine se (mL t) (ayN h hx rfl rfl);rw[wz (bk ru) M (by simp only[ao,av,bb,aX,aW,ag,Z3,aPX aU];rfl)];rw[wG (SD t.out M (by simp only[i9,ao,av,bb,aX,aW,ag,awi,am8]))]
 ·rw[ek hk eK (Rv (aE "red") M)]
 rw[hk,nC];rw[r9 (qY (F1 (!(fK t.ahead [])) M))]
 ·simp only[dD,ao,av,bb,aX,aW,ag,amn,Ta,eq_nil,if_true]
 ·have cE:Ŝ []:=a! cE
  rw[ail cE cE]
  have a6l:IY (SP 0 0 0):=by
   refine K.al x t hx _ ?_;cases dQ:t.ahead with
   |nil=>rw[nF dQ cE]
   |cons a b=>simp
  rw[cF e1 (nq [aR,aV,iW,Rp,none,none] Z1) h1 (h.an0 (RH (SP 0 0 0)))];rw[vL f1 (oH (r? j ((RH (SP 0 0 0)).map bl))) uu (y! .ah M (ο j) M (η (SP 0 0 0).1) M (r? j ((RH (SP 0 0 0)).map bl)) rfl e1 ?_ ?_ eu)]
  ·simp only[ao,av,bb,aX,aW,ag,amn,aPX cE,aDW]
  ·rw[Tp h.wl (by rw[ni a6l]),List.map_set];rfl
  rw[asO (r? j ((RH (SP 0 0 0)).map bl)) h1 f1];rw[i6 e2 (AU [aR,aV,iW,Rp,none,none] oN) h2 (h1.T6 (z? (atQ ahJ 1))) (cj (X8 (mL (atQ ahJ 1)) aa (ο 10) aa (η x) aa _ e2 (abg h1) (gN (H? (aE "ok") _ (fS (Jc _ j h2 Ru (Ω rfl)))))))];rw[H_ sa (ayL (M:=aa) G0) sb (ayM (M:=aa) G0) sc (aKW (M:=aa) (a:=ahJ) (b:=t.steps) (e! (aBN _)) (e! gU))]
  unfold nL;simp only[aJ,bq,ao,aej,ZL,m4,av,bb,aX,aW,ag,Z3,amn,sa,sb,sc];rw[cC (fL (by rw[h_ (3≤lim)]))]
 have cE:Yv:=a! cE
 rw[IA dQ (dQ cE),IA dQ (dQ cE)];rw[Đ e3 (nq [aR,aV,iW,Rp,none,none] Tr) (gN (rm (bl RB) M))]
 ·rw[bV,aJ,e3];simp only[aJ,bq,ao,av,bb,aX,aW,ag,aDW,aPY,hb]
 rw[wG (eD (RB).isNone M (by simp only[dD,ao,av,bb,aX,aW,ag,Tb]) (dJ l9) (dJ l9))]
 ·have l9:bR RB:=a! l9
  rw[l9];rw[i6 e4 (nq [aR,aV,iW,Rp,Xa none,none] oN) h2 (h.T6 (z? (auL []))) (cj (X8 (mL (auL [])) M (ο 10) M (η x) M _ e4 (abg h) (gN (H? (aE "ok") _ (fS (Jc _ j h2 uu (Ω rfl)))))))];have aEB:∀ρ,PY [] ρ M=.ok (ς []) M:=λρ=>Ta;rw[w4];simp only[aJ,bq,ao,av,bb,aX,aW,ag,Z3,aEB];rw[cC (fL (by rw[h_ (3≤lim)]))]
 rw[ajC b l9 b (RB=nh) (by
  cases dQ:RB with
  |none=>rw[dQ]at l9;cases l9
  |some b=>exact gg b)]
 rw[j3 l9];rw[r9 (gN (VR .ah rfl))];rw[d8];rw[om e5 (nq [aR,aV,iW,Rp,Xa nh,Xn] ZH) et (fg [Ww,bI] [aR,aV,iW,Rp,Xa nh,Xn] M=.ok (e9 (CJ,b)) M) (by
  unfold fg;simp only[aJ,bq,ao,av,bb,aX,aW,ag,aPY];rfl) (cj (eD (mw (CJ,b) Y.ss) M ?_ (dJ GY) (dJ GY)))]
 ·rw[dD,ao,et,ag,e5,ag];show(Ć (aQ [η CJ,η b]) Rm M).bind _=_;rw[a0a,ag];rfl
 ·rw[HC GY GY]
  have Zj:ab5=aCI (CJ,b):=by rw[jL N2 l9 (if_pos GY)]
  rw[Io Zj Option.bind_some];generalize hsi:Y.ss.idxOf (CJ,b)=s
  rw[Jj ei (qx Z9 Fd [fg [Ww,bI]] [aR,aV,iW,Rp,Xa nh,Xn] M=.ok (η s) M) (by
   unfold qx;rw[uy e5 ag Kf];rw[aJ,et];simp only[bq,ag];rw[aG7 (enc:=e9) anl amX (a:=(CJ,b)) GY,hsi]) ep (hp M W j x s h K.lv K.gl K.fl K.lk)];cases Zi:w7 Y W x s with
  |none=>
   rw[yS Zi ep (Ku .ah M ?_ eu)]
   ·rw[bV,aJ,av];simp only[aX,aW,ag];rw[aJ,ei];rw[Je aJ bq av ep]
   rw[d8];exact cj (OQ M Θ (Rv (aE "red") M))
  |some r=>
   rw[Zi]at ep;obtain⟨aa,p1,p2,p3⟩:=ep;rw[Option.getD_some];rw[dm i? (K.wl r (K.lv r (amT Zi))) (Ku g4 aa ?_ eu)]
   ·rw[bV,aJ,av];simp only[aX,aW,ag];rw[aJ,ei];rw[Je aJ bq av p1]
   rw[wG (tI aa (aK aKV) (dy Yt))];rw[i6 e6 (p2.ix (ρ:=[aR,aV,iW,Rp,Xa nh,wJ]) (d:=aq) rfl oN) h2 (p2.T6 (aqx (asJ ((b3).take 1)) ((b3).drop 1))) (X8 (mL (Cb (asJ ((b3).take 1)) ((b3).drop 1))) aa (ο 10) aa (η x) aa _ e6 (abg p2) (abG _ _ j h2 (p3.trans uu) (Ω rfl)))];rw[H_ sa (ayL (M:=aa) i?) sb (ayM (M:=aa) i?) sc (aKW (M:=aa) (a:=(b3).take 1) (b:=t.steps) (e! (aBN _)) (e! gU))];rw[w4];simp only[aJ,bq,ao,aej,ZL,m4,av,bb,aX,aW,ag,Z3,sa,sb,sc];rw[cC (fL (by rw[h_ (3≤lim)]))]
 ·rw[fu GY (of_decide_eq_false GY) Zj (bR ab5) (by rw[jL N2 l9 (if_neg GY)])]
  rw[au Zj (dy (qY (OQ M Θ (Rv (aE "red") M))))]
def adT m6 aoA La:DL Y j M (av9 [ο 7,η x] M) (Kx W x) (Gp W x):=by
 rw[jw av9 (pO (P:=λq=>DL Y j M q (Kx W x) (Gp W x)) ?_)]
 simp only[bB,zD,zE,gx,Nat.zero_add,Nat.reduceAdd,Nat.reduceSub,List.replicate,f9,fz,eP]
 obtain⟨gU,G0,aU⟩:=K.sl x t hx
 unfold Kx Gp
 rw[j3 hx]
 refine se (mL t) (ayN h hx rfl rfl);rw[d8]
 rw[Qa el (∀M',fM [aiu] M'=.ok (η t.steps.length) M') (λM'=>by
  rw[wk fM pv];rw[d9]) e1 (∀M',sQ (n_ (uE wK) (Ξ 1)) [aR,aV,iW] M'=.ok (iY (ï 1)) M') (λM'=>by
  simp only[dD,bV,aJ,bq,ao,av,bb,aX,aW,ag,Z3,el,rE];by_cases ff:ï 1
  ·simp[ff]
  ·rw[Xx h8 (aS t.steps.length=1) ff h8]) (xY (ue (ï 1) (cW t.out)))]
 ·rw[A8,e1,ag];simp only[axB,i9,ao,av,bb,aX,aW,ag,awi,am8];by_cases ff:ï 1
  ·cases h2:t.out<;>simp[ff]
  ·simp[ff]
 ·rw[HC hk hk];rw[au HY (Rv (aE "held") M)]
 have hk:=apO;rw[MO];rw[cF e4 (nq [aR,aV,iW] oN) h2 (h.T6 (z? L!))];rw[cV f2 (oH (Xh 10 .ak eR (z? L!))) uu (dy (qY (X8 (mL L!) M (ο 10) M (η x) M _ e4 (abg h) eu)))]
 ·have sa:=a3z (M:=M) (e! gU);rw[w4];simp only[aJ,bq,ao,aej,ZL,m4,av,bb,aX,aW,ag,Z3,amn,awi];rw[Fl ((zk (Ξ 1) [aR,aV,iW] M)=.ok (η (-1)) M)]
  rw[wD sa];rw[cC (fL (by rw[h_ (3≤lim)]))]
 rw[asO (Xh 10 .ak eR (z? L!)) h2 f2];rw[o? (eD (iY (ï 1)) aa (e1 aa) (dJ cE) (dJ cE))]
 ·rw[HC cE cE];rw[if_pos cE];rw[i6 e6 (MS [aR,aV,iW] d oN) h3 (h2.T6 (Qp x)) (aag (k:=uA) (y:=η x) (mL L!) e6 h2.jl rfl rfl (by rw[zf,zd,eK];rfl) (abG _ _ j ?_ (aiH uu) (Ω rfl)))];rw[aHd]
  have:i7 (z? L!) x=Qp x:=by
   unfold i7 i8;split
   ·rw[aqY]
    rw[aN3 g (vH (by
     have:=aBb aBI;by_cases dQ:q.1=x
     ·exfalso;simp only[Function.comp,dQ,if_true]at this;exact this rfl
     ·simp[dQ])),List.map_id]
    refine aAq q _;rw[aq6];rw[yH dQ q.1 x dQ]
   ·rw[fy List.filter_append]
  rw[au this h3]
 ·have cE:=aNU;rw[Sm cE (dy (abG aa aa j h2 f2 (Ω rfl)))]
universe zE
universe Sb
universe zE
end
mutual
section
namespace Sb
open PySem L2
abbrev A? gz(pre:eG)(d:yf):yf:=MM q (arn (q.1∈pre) q.1 (Kv x q.1 q.2) q)
def aHK gz(pre:eG)dZ:∀d:yf,b9 (A? x pre d) r=(b9 d r).map λu=>oi r pre (Kv x r u) u
 |[]=>rfl
 |q::d=>by
  have ih:=aHK x pre r d;unfold A? at ih⊢;rw[bB,ft,ft,ih];rw[jt (q.1∈pre)]
  ·rw[mF yK e (q.1=r)]
   ·subst e;simp[h]
   ·simp[e]
  ·rw[mF pH e (q.1=r)]
   ·subst e;simp[h]
   ·simp[e]
def aUC gz(pre:eG)(d:yf):gf (A? x pre d).map=q3:=by
 rw[dz A? List.map_map];refine E5 q _;rw[aq6];split<;>rfl
def aWg fC{pre:eG}{d:yf}gb{u:Bl}(hn:Nv)(hr:b9 d r=dO)(hp:r∉pre):i8 (A? x pre d) r (Kv x r u)=A? x (pre++[r]) d:=by
 rw[dz i8 (jx ((any_keys _ _).mpr (by rw[aUC,mem_keys,hr];rfl)))];rw[dz A? List.map_map]
 refine E5 q hq;rw[lE (q.1=r)]
 ·have h1:=Yu;rw[e,hr]at h1;rw[fu h2 Vq h3 (q.1∉pre) (by rw[pe hp])]
  rw[ahn (if_neg h3) yL];rw[ah6 e,e,←h2]
 ·rw[jt (q.1∈pre)]
  ·rw[ahn yK wF];rw[ah6 h]
  ·rw[ahn pH wF];rw[sr (gh h e)]
def aWh fC{d:yf}:A? x q3 d=iG (Kv x) d:=by
 unfold A? iG;refine E5 q hq;rw[jx (lP q hq)]
def aWi fC{d:yf}:A? x [] d=d:=by
 rw[iU A? (aN3 g (λq _=>Θ)) List.map_id]
def aYo l! m8 UO:Hm (w++[s]) l=(Hm w l).set s.1 none:=by rw[ť Hm]
section
variable {Y:eJ}{M:aL}{W:bL}{j:Nat}{ρ:ej}
def Tj m6 aoA(hfn:ic nB)(zG:A1 W.falls (tR q.2.ns.length))La:DL Y j M (awa [ο 7,η x] M) (Ky W x) (Gl W x):=by
 rw[jw awa (pO (P:=λq=>DL Y j M q (Ky W x) (Gl W x)) ?_)]
 simp only[bB,zD,zE,gx,Nat.zero_add,Nat.reduceAdd,Nat.reduceSub,List.replicate,f9,fz,eP]
 obtain⟨gU,G0,aU⟩:=K.sl x t hx
 unfold Ky Gl
 rw[j3 hx]
 refine se (mL t) (ayN h hx rfl rfl);rw[wG (SD t.out M (by simp only[i9,ao,av,bb,aX,aW,ag,awi,am8]))]
 ·rw[ek hk eK (Rv (aE "red") M)]
 rw[hk,nC];refine dy eu
 rw[vL ei (vF aI (Ξ 1) [aR,aV,iW,none,none,none,none]=.ok (ς (t.ahead.map bk)) M) (by
  rw[Je ao av bb amn]) (kC bk (λpre ρ aa=>∃y,ρ=[aR,aV,iW,y,none,none,none]/\AA aa (S6 W (aqV pre))/\oH aa) t.ahead none M (ig ei) trivial (ri none h kl.refl) ?_ ?_)]
 ·rintro pre s post avk ρ aa ⟨y,rfl,h1,f1⟩;rw[wA _];have a5d:IY s:=K.al x t hx s (by rw[fy avk]);rw[dm e2 (AU [aR,aV,iW,kq,none,none,none] Z1) (y! .ah aa (ο j) aa (η s.1) aa (abX j ((aqV (pre++[s])).map bl)) rfl e2 (by rw[Je ao av bb aDW]) ?_ (j4 (ri _ (h1.an0 _) Ru)))];rw[Tp h1.wl (by rw[d9];rw[W5 (s.1<dR (aqV pre)) amC a5d]),aYo,List.map_set];rfl
 ·rw[QG aa y rfl h1 f1]
  refine eu
  rw[ĝ y9 (anj false wK (Dv LX) [aR,aV,iW,y,none,none,none] aa=.ok (ς (t.steps.reverse.map bk)) aa) (by
   unfold anj
   simp only[ao,av,bb,ZL,aX,aW,ag,Z3];rw[Fl ((zk (Ξ 1) [aR,aV,iW,y,none,none,none] aa)=.ok (η (-1)) aa)]
   rw[ahZ];rw[MD aD1 eK Kf];rw[List.map_reverse,fL (by rw[ek List.length_reverse d9 (e! gU)])]) (cv Ao) aa]
  ·rw[JV t.steps.reverse aa bk (λs=>bk Rb) (j8 [y]) (ig y9) (nu s) (by rw[au List.length_reverse (e! gU)])]
   ·rw[C0 _ _,fL (by rw[ek d9 List.length_reverse (e! gU)])];rw[Mm cv]
   ·rw[VE y _ _ (Yk bk flip fg)]
  rw[d8];rw[cF e4 (AU [aR,aV,iW,y,MF Ao,none,none] oN) h2 (h1.T6 (ake []))];rw[vL f2 (oH (aa.set 10 (.ak (jS eR (ake []))))) Ru (X8 (mL (Cb Ao [])) aa (ο 10) aa (η x) aa _ e4 (abg h1) eu)]
  ·have aEB:∀ρ,PY [] ρ aa=.ok (ς []) aa:=λρ=>Ta;rw[w4];simp only[aJ,bq,av,bb,aX,aW,ag,aEB];rw[cC (fL (by rw[h_ (3≤lim)]))]
  generalize aa.set 10 (.ak (jS eR (ake [])))=M2 at h2 f2;rw[om e5 (MS [aR,aV,iW,y,MF Ao,none,none] d Km) el (aB Mj [yE] [aR,aV,iW,y,MF Ao,none,none] M2=.ok (ς (R6 (nB).map r (aS r))) M2) (by
   rw[bV,aJ,e5];rw[wD bq];rw[wk Tt (pT h2.jF)];rw[aKe,fL (by rw[ahL K.fl])]) (cj (kC (jJ (r:Nat) (aS r)) (λpre ρ bE=>∃a b,ρ=[aR,aV,iW,y,MF Ao,a,b]/\AA bE { W with locks:=atp,trains:=ake [],falls:=as2 x pre}/\oH bE) nB none M2 (ig el) trivial (mC none none (by rw[au aWi h2]) f2) ?_ ?_))]
  ·rintro pre r post avk ρ bE ⟨a,b,rfl,h3,f3⟩
   rw[wA _];have O!:=axT hfn avk;rw[U! u hu ((aix _).mp (show r∈nB by rw[fy avk]))]
   have hg:b9 (as2 x pre) r=dO:=by rw[aHK,hu];simp[O!]
   rw[L6 e6 (h3.ix (ρ:=[aR,aV,iW,y,MF Ao,b6,b]) (d:=aq) rfl Km) (gu r u) bE]
   ·rw[ao,e6,ag,av];rw[ahd ag (WB h3.jF k (jM r) (by rw[uO,hg];rfl))]
   rw[d8]
   rw[i6 sT (h3.ix (ρ:=[aR,aV,iW,y,MF Ao,b6,Č r u]) (d:=aq) rfl Km) avi (zG _ (Dt hu)) (X8 (gu r (Kv x r u)) bE (ο 9) bE (η r) bE (bE.set 9 (.ak (Az gu (as2 x (pre++[r]))))) sT ?_ (j4 (FQ _ (h3.an2 _) (f3.trans uu))))]
   ·rw[kP a6I (eT (gu r u) (η 0) bE=.ok (η u.u) bE) rfl j1 (eT (gu r u) (η 1) bE=.ok (hV u.ns) bE) rfl j2 (eT (gu r u) (η 2) bE=.ok (.ai u.bd) bE) rfl ec (Ŭ VT (b5 (rt (ae 6))) RD [aR,aV,iW,y,MF Ao,b6,Č r u] bE=.ok (hV (u.ns.filter (qu z z x))) bE) (by
     rw[VQ u.ns w bE (jJ gi n) (qu z z x) (jJ gi n) (j8 [y,aV]) (ig (by rw[Je ao av bb j1])) (nu z) (e! avi)]
     ·exact fL (by rw[ni (L5 FL avi)])
     ·rw[uo y hρ];refine t8 _ lT ?_ wC;simp only[List.set_cons_zero,dD,ao,av,aX,aW,ag,rE];rw[yH dQ z x dQ])]
    rw[pU];simp only[aJ,bq,ec,ag,ao,av,bb,aX,aW,a6I,j2];rfl
   ·rw[ajj h3.jF r (by rw[amt];show dR (as2 x pre)<_;rw[jL A? d9 (LI K.fl)]),←aWg hfn hu O!]
    congr 3
    exact ams gu r (Kv x r u) _
  ·rw[Ic bE a b rfl h3 f3];refine abG bE bE j ?_ f3 (Ω rfl);rw[bG aWh h3 h3]
universe zE
universe Sb
universe zE
section
namespace Sb
open PySem L2
def aIk aaS:∀aoj aph,Yr f j a w->ng w (qk s.1)
 |[],_,_,_,_,s,h=>CP
 | (a',j',o)::w,f,j,a,c,s,h=>by
  obtain⟨_,_,_,h1,_,h2⟩:=c;rcases E_ with rfl | h
  ·exact h1
  ·exact aIk w false o _ h2 s h
def aYp{p:fj}{a:Nat}aMW(hj:j∈p.js)(ho:anp p j o)(hp:aO (uU p)):aDV p (a,j,o)=KH p (a,j,o):=by
 cases p with
 |pl x y=>cases hp
 |pt t u b=>
  rw[mG ho.ne ho.mem];have h3:=ho.aRk rfl;simp only[fj.js,List.nodup_cons,List.mem_cons,List.not_mem_nil,or_false,not_or,List.headD_cons]at hn hj h2 h3;simp only[aDV,KH,List.mem_cons,List.not_mem_nil,or_false];rw[←decide_not];refine decide_eq_decide.mpr ?_;rw[H_ n1 hn.1.1 n2 hn.1.2 n3 hn.2.1];constructor
  ·rintro(e | e) (e' | e')<;>rcases h3 with h3 | h3<;>omega
  ·intro hh;rcases h3 with h3 | h3
   ·rcases h2 with h2 | h2 | h2
    ·omega
    ·exact aA h2.symm
    ·rw[pn (aA h2.symm) hh]
   ·rcases hj with hj | hj | hj
    ·omega
    ·exact Ω hj.symm
    ·rw[pn (Ω hj.symm) hh]
def aHL aaS(hn:agX ps):∀aoj aph,Yr f j a w->(∀b,a=nh->j∈(eH b).js)->ng w (aO (uM ps s.1)->tm ps s=amN ps s)
 |[],_,_,_,_,_,s,h,_=>CP
 | (a',j',o)::w,f,j,a,c,hj,s,h,hp=>by
  obtain⟨e1,e2,_,h1,h3,h2⟩:=c;subst e2;rcases E_ with rfl | h
  ·exact aYp (hn _ (ayh h1)) (hj a' e1) h3 hp
  ·exact aHL hn w false o _ h2 (vK (adu hb).2.2) s h hp
structure J7 gc:Prop where
 g:aRb Y.ps Y.ss
 rs:Y.rs=ak5 Y.ps Y.ss
 wt:0≤Y.wait
def a2d{rs:xH}azH:(Hh rs r,YL rs r)∈rs:=aBF (aIU h)
section
variable {Y:eJ}
def J7.ok G9:aI5 Y.ps Y.ss (b_,b3):=aX2 G.g (by rw[cA G.rs (a2d hr)])
def J7.head G9:(gP b_).2∈wW Y.rs r:=by
 rw[H_ h pL h1 h.ne h2 h.chain];unfold wW;dsimp only at h1 h2;cases e:b3 with
 |nil=>rw[CM h1]
 |cons s w=>
  rw[e]at h2;obtain⟨a',j',o⟩:=s;obtain⟨h3,_⟩:=h2;cases h3;simp
def J7.c7 eS:aQd:=by
 rw[eV (qf (pL).nd) (je r hr p hp) (mE r hr r' hr' e)]
 ·rw[wu s hs hp (aIk _ _ _ _ (pL).chain s hs)]
 ·rw[bQ (gP b_).2 (G.head hr) (by rw[pe (G.head hr')])]
def J7.sg G9:akC:=(pL).lt
def J7.mV G9:Wu (aqd s.1->tm Y.ps s=amN Y.ps s):=by
 refine aHL G.g.once _ _ _ _ (pL).chain oD;cases hb;exact(aiW (Z_ Ni)).2
def J7.len eS:aq1:=by
 rw[G.rs];unfold ak5;have:=ZO (List.range Y.ss.length) λk _=>vb Y.ps Y.ss k;rw[fJ h2 G.g.Bk List.length_range this];omega
def J7.wl G9:X4:=by
 rw[mG (pL).len G.g.eY];dsimp only at h1;omega
universe zE
structure Uj jY m8:Prop where
 lt:qk s.1
 i:s.2.1∈(eH s.1).js
 o:anp (eH s.1) s.2.1 s.2.2
abbrev rS:cO gV
 |[]=>True
 |[_]=>True
 |a::b::w=>a.2.1=b.2.2/\a.1≠b.1/\rS (b::w)
structure anJ jY(t:iM):Prop where
 ok:Wh (Uj ps s)
 alP:rS t.steps
def aw8 aaS:∀aoj aph,Yr f j a w->(∀b,a=nh->j∈(eH b).js)->ng w (Uj ps s)
 |[],_,_,_,_,_,s,h=>CP
 | (a',j',o)::w,f,j,a,c,hj,s,h=>by
  obtain⟨e1,e2,_,h1,h3,h2⟩:=c;subst e2;rcases E_ with rfl | h
  ·rw[bQ h1 (hj a' e1) h3]
  ·exact aw8 w false o _ h2 (vK (adu hb).2.2) s h
def aG0 aaS{s s':rC}{r:gV}:∀aoj aph o8,Yr f j a w->w.drop k=s::s'::r->cu (B? s.1 s.2.2) s'.1/\s'.2.1=s.2.2/\(s.2.2,s'.1)∉ss
 |[],_,_,_,k,_,h=>CP
 | (a',j',o)::w,f,j,a,0,c,h=>by
  obtain⟨e1,e2,_,h1,h3,h2⟩:=c;rw[List.drop_zero]at h;rw[uo rfl (List.cons.inj h)];obtain⟨a2,j2,o2⟩:=s';obtain⟨h4,h5,h6,_⟩:=h2;rw[bQ h4 h5 (h6 rfl)]
 | (a',j',o)::w,f,j,a,k+1,c,h=>by
  obtain⟨_,_,_,_,_,h2⟩:=c;exact aG0 w false o _ k h2 h
def three UX{a b c:Nat}UN(ha:qk a)(hb:qk b)(hc:qk c)aL2(a6K:j∈(eH c).js)(h1:a≠b)(h2:a≠c)(h3:b≠c):False:=by
 rw[fu h (hg.two j) m (∀{x:Nat},qk x->j∈(eH x).js->x∈DV ps j) (λhx a6M=>aAU hx (a! a6M))];rw[H_ ma (m ha aQV) mb (m hb aEL) mc (m hc a6K)];generalize DV ps j=l at h ma mb mc
 match l,h with
 |[],_=>simp at ma
 |[x],_=>simp at ma mb;omega
 |[x,y],_=>simp at ma mb mc;omega
 |_::_::_::_,h=>rw[F9]
def aYq UX af0 UN(ha:qk a)(hb:qk b)aL2(h:b≠a):AM j=nh:=by
 cases e:AM j with
 |none=>
  unfold beyond at e;rw[bG List.find?_eq_none e (WI (gh h aEL) (e b (List.mem_range.mpr hb)))]
 |some c=>
  rw[ahW h1 h3 (adu e)];by_cases hc:c=b
  ·rw[hc]
  ·exact(three hg ha hb h1 aQV aEL h3 h.symm h2.symm (Ne.symm hc)).elim
def aG1 gA{p:Xm}:∀l:qU,l.Pairwise (λa b=>¬(akF a/\akF b))->aC2=(auo).toList
 |[],_=>rfl
 |a::l,h=>by
  rw[yg (List.pairwise_cons.mp h)];rw[q_ e (p a)]
  ·rw[List.filter_cons_of_pos e,List.find?_cons_of_pos e];have:aC2=[]:=List.filter_eq_nil_iff.mpr λb hb hp=>h1 b hb ⟨e,hp⟩;rw[cC this]
  ·rw[List.filter_cons_of_neg e,List.find?_cons_of_neg e,aG1 l h2]
section
variable {Y:eJ}{W:bL}{B:cI}
abbrev OP kL:Prop:=∀x t,dG=eU->anJ Y.ps t
def aG2 eS azN aM3 vh{a:gV}(h:t.ahead=s::a):cu RB s.1/\s.2.1=CJ/\(CJ,s.1)∉Y.ss/\akz s:=by
 obtain⟨r,k,hr,e,_⟩:=T.e8 (by rw[fy h]);rw[fJ c (pL).chain h e];rw[ahW h1 h3 (aG0 _ _ _ _ k c e.symm)];refine⟨h1,h2,h3,aw8 _ _ _ _ c oD s (List.mem_of_mem_drop (i:=k) ?_)⟩
 ·cases hb;exact(aiW (Z_ Ni)).2
 ·show s∈(b3).drop k;rw[Ń e]
def avY eS vh d6(hs:akz s)(hk:Vb k):vI s=fE↔s.2.2=(gP k).1/\s.1≠(gP k).2:=by
 have hg:=aiW (Z_ hk);unfold N2;constructor
 ·intro h;split at h
  ·rename_i b hb;split at h
   ·rename_i hm;rw[fu e U1 e2 (gP k=(s.2.2,b)) (by
     rw[←e];rw[mG aOy (amA h1)];rw[List.getElem?_eq_getElem h1,List.getElem_idxOf]at h2;exact(Option.some.inj h2).symm)]
    rw[WH e2 rfl (adu hb).2.1.symm]
   ·cases h
  ·cases h
 ·rw[aiG h2];have hb:Cw=uD (gP k):=aYq G.g hs.lt hg.1 hs.o.mem (by rw[au h1 hg.2]) (Ne.symm h2)
  rw[j3 hb]
  have e:(s.2.2,(gP k).2)=gP k:=lQ h1
  rw[e,jx (Z_ hk)];rw[fJ h3 (amA hk) (List.getElem?_eq_getElem hk) h3];rw[←Option.some.inj h3,List.Nodup.idxOf_getElem G.g.nd k hk]
def aYs eS azN d6 aM3(J:anJ Y.ps t)(hk:Vb k):fK ab5 fE=wq Y k t:=by
 rw[cF hs (J.ok _ (TP T.ne)) hi (avY G hs hk)];unfold wq;rw[jt (ab5=fE)]
 ·rw[bJ h1 Yv (by
   cases e:t.ahead with
   |nil=>rfl
   |cons s a=>
    obtain⟨h1,_,h3,_⟩:=aG2 G T e;rw[qs N2];rw[yy h1 h h];rw[if_neg h3]at h;cases h) h2 (cW t.out) (by
   cases e:t.out with
   |false=>rfl
   |true=>
    have:=(T.ot e).2;rw[EJ N2 h this h];cases h)]
  have h3:=hi.mp h;simp[h,h1,h2,h3.1,h3.2]
 ·have h3:=mt hi.mpr h;rw[aA7];symm;by_cases h4:CJ=(gP k).1
  ·have:¬ru.1≠(gP k).2:=λh5=>h3 ⟨h4,h5⟩;simp[this]
  ·simp[h4]
def aZ1 eS Hf(J:OP Y W)d6(hk:Vb k):J8 Y W.trains k=(ú Y k).toList:=by
 have hT:LS (B6 q.1=uD q):=vH auK
 have e1:aqM (λq=>wq Y k q.2)=aqM (pB q (vI (eB q.2)=fE)):=
  List.filter_congr λq hq=>(aYs G (JY (hT q hq)) (J _ _ (hT q hq)) hk).symm
 unfold J8 avz;rw[e1,aG1]
 ·rw[S.trains];rw[dz iG List.find?_map];show List.map _ (aDK (aq8 q (vI (eB q.2.tr)=fE))).toList=_;cases aq8 q (vI (eB q.2.tr)=fE)<;>rfl
 ·rw[cV hp (W.trains.Pairwise (λa b=>a.1≠b.1)) (List.pairwise_map.mp I.kH) (List.Pairwise.imp_of_mem ?_ hp)];rintro a b ha hb aU ⟨h1,h2⟩;rw[Lx hTa (hT a ha) hTb (hT b hb) oa ((J _ _ hTa).ok _ (TP (JY hTa).ne)) ob ((J _ _ hTb).ok _ (TP (JY hTb).ne))];rw[Lx aQU ((avY G oa hk).mp aPr) ib ((avY G ob hk).mp agf) hg (aiW (Z_ hk)) hd ((I.A4 _ _ _ _ hTa hTb aU).1 _ (TP (JY hTa).ne) _ (TP (JY hTb).ne))];exact three G.g (j:=(gP k).1) oa.lt ob.lt hg.1 (by rw[cA aQU.1 oa.o.mem]) (by rw[cA ib.1 ob.o.mem]) hg.2 hd aQU.2 ib.2
def ax8(S:Lj)(p:Int):AL=Vg p:=by
 unfold adF awc;rw[S.trains];rw[dz iG List.find?_map];show aDK (aDK (aq8 q (p∈abD q.2 s.1)))=_;cases aq8 q (p∈abD q.2 s.1)<;>rfl
def a7C az6:aKx Y W:=by
 have hn:=G.g.eY;refine⟨λr h=>(pK h).1,ÿ (Zt I.o3 (cQ h (I.avb h))) G.len,?_,c! r h,qf akA,I.kH,LD I.aD4 aD,λx t h=>⟨?_,?_,(r7 h).ne⟩,mE x t h s hs⟩
 ·rw[Mn (Zt I.zA λx h=>(I.own x (aA h)).1) d9 (Nat.le_trans this G.len)]
 ·have hr:=(pK h).1;rw[I.ln];have aU:=(pL).ne;dsimp only at aU;cases e:b3 with
  |nil=>rw[CM aU]
  |cons s w=>exact aiz r s.1 (by rw[dz wW e];simp)
 ·rw[eg (I.ae6 h)]
 ·rw[eg (I.a5q G.c7 h)]
 ·obtain⟨r,hr⟩:=(r7 h).al hs;rw[au I.ln (I.lt hr)]
universe zE
universe Sb
universe zE
section
namespace Sb
open PySem L2
inductive gn where
 |set
 |cancel
 |throw
 |enter
 |tick
 |go
 |draw
 |turn
 deriving DecidableEq
abbrev gn.s:gn->Str
 |jR=> "set"
 |jA=> "cancel"
 |kT=> "throw"
 |jr=> "enter"
 |iF=> "tick"
 |.go=> "go"
 |kn=> "draw"
 |jP=> "turn"
abbrev am9 kL dZ:Bool:=ud&&(! M5||kW)
abbrev jB kL D4:tC:=match w with
 |jR=>ajZ (Ln i) (Wc (heldW W (YL Y.rs i.toNat)) held .ok)
 |jA=>ajZ (Ln i) (oi i.toNat W.green .ok cP)
 |kT=>ajZ (HW i) (Wc (oX W i.toNat) held .ok)
 |jr=>Gk Y W x i
 |iF=>.ok
 |.go=>DW Y W x
 |kn=>Kx W x
 |jP=>Ky W x
abbrev uS kL D4:bL:=match w with
 |jR=>aax Y.rs (uM Y.ps) abf W i.toNat
 |jA=>if am9 Y W i.toNat then T5 W i.toNat ⟨RI,J8 Y W.trains (SZ i.toNat),A3 Y (SZ i.toNat)⟩ else Z0 W i.toNat
 |kT=>Oq W i.toNat
 |jr=>Ot Y W x i
 |iF=>Gs W
 |.go=>DX Y W x
 |kn=>Gp W x
 |jP=>Gl W x
abbrev GG kL D4:bL:=match jB Y W w i x with
 |.ok=>uS Y W w i x
 |_=>W
structure OW kL:Prop where
 I:aF4 Y W
 D:Due W
 J:OP Y W
def rS.init:∀vj,rS w->rS w.dropLast
 |[],_=>trivial
 |[_],_=>trivial
 |[_,_],_=>trivial
 |a::b::c::w,h=>⟨h.1,h.2.1,rS.init (w:=b::c::w) h.2.2⟩
def rS.snoc{b:rC}:∀vj,rS w->(∀a∈w.getLast?,a.2.1=b.2.2/\a.1≠b.1)->rS (w++[b])
 |[],_,_=>trivial
 |[a],_,h=>by have:=h a Θ;rw[bQ this.1 this.2 trivial]
 |a::c::w,h1,h=>⟨h1.1,h1.2.1,rS.snoc (w:=c::w) h1.2.2 (λz hz=>h z (by rw[au List.getLast?_cons_cons hz]))⟩
def rS.flip:∀vj,rS w->rS (w.reverse.map flip)
 |[],_=>trivial
 |[_],_=>trivial
 |a::b::w,h=>by
  have ih:=rS.flip (w:=b::w) h.2.2;rw[List.reverse_cons,List.map_append];refine rS.snoc ih (c! z hz);rw[List.getLast?_map,List.getLast?_reverse]at hz
  have e:z=Sb.flip b:=a! hz.symm
  rw[WH e h.1.symm h.2.1.symm]
def Uj.flip xB vh(h:Uj ps s):Uj ps Rb:=⟨h.lt,h.o.mem,⟨h.o.ne.symm,h.i,dW (h.o.aRk e).symm⟩⟩
section
variable {Y:eJ}{W:bL}
def aYt{d:QO}Ea(h:bR (adF d p)):A1 d (ng q.2.steps (s.1≠p)):=by
 rw[qs adF];rw[Option.map_eq_none_iff,List.find?_eq_none]at h;intro q hq s hs e;refine h q hq ?_;rw[aAS];exact ó s hs (lQ e)
def aJz gb az6 G8(h:aut W):(fT (wW Y.rs r) (auE p))/\∀x t,dG=eU->Wh (s.1∉wW Y.rs r):=by
 rw[EJ heldW h List.any_eq_false h];rw[L8 p hp (yh x t hx s hs hp)]
 ·have g8:=aiz r p hp;rw[q6 z hz hp];have h1:=h z hz;unfold oX at h1;rw[Bool.or_eq_true,not_or]at h1;rw[fu h2 h1.1 hl (IY z) (by rw[au I.ln g8])]
  rw[List.getD_eq_getElem?_getD,S2]at h2;rw[S2];cases e:W.locks[z.1] with
  |none=>rfl
  |some _=>rw[pG e h2 h2]
 ·rw[Ew z hz e hp];have h1:=h z hz;unfold oX at h1;rw[Bool.or_eq_true,not_or]at h1
  rw[t6 h2 (bR (ags (aS z.1))) (by
   cases e:ags (aS z.1) with
   |none=>rfl
   |some _=>rw[pG e h1 h1]) (aYt h2 _ (Dt hx) s hs e.symm)]
def OP.put(J:OP Y W){W':bL}m6(ht:at0 (z? t))(hT:anJ Y.ps t):OP Y W':=λy u hu=>by
 rw[ht,zd]at hu;rw[lE (y=x)]
 ·rw[yL]at hu;cases hu;exact hT
 ·rw[bG wF hu (J y u hu)]
def OP.same(J:OP Y W){W':bL}(ht:at0 W.trains):OP Y W':=λy u hu=>J y u (by rw[cA ht hu])
def aYu G9:∃o w,b3=((gP b_).2,t!,o)::w:=by
 rw[mG (pL).ne (pL).chain];dsimp only at h1 h2;cases e:b3 with
 |nil=>rw[CM h1]
 |cons s w=>
  rw[e]at h2;obtain⟨a',j',o⟩:=s;obtain⟨h3,h4,_⟩:=h2;cases h3;rw[bQ o w (lQ h4)]
def ax9 G9:Wu (akz s):=aw8 _ _ _ _ (pL).chain (vK (by
 cases hb;exact(aiW (Z_ Ni)).2))
def aZ2 aoN(h:w7 Y W x s=j?):b_=s:=by
 have:=List.find?_some h;unfold xd at this;exact of_decide_eq_true (Bool.and_eq_true_iff.mp this).1
def aJA eS gb{old:gV}{a:gV}G7 G8(h1:ng old (akz s))(h2:rS old)(h3:ng old.head? (vI s=aY b_)):anJ Y.ps ⟨(b3).take 1++old,a,b⟩:=by
 rw[Š o w (aYu G hr)];rw[fJ h (ax9 G hr) e h];rw[e];rw[L8 s hs ?_]
 ·rcases List.mem_cons.mp hs with rfl | hs
  ·exact h _ Θ
  ·exact h1 s hs
 ·cases old with
  |nil=>trivial
  |cons s old=>
   have:=(avY G (h1 s Θ) Ni).mp (h3 s Θ);rw[bQ this.1.symm this.2.symm h2]
def aGG{W:bL}:(Gs W).trains=W.trains:=by
 unfold Gs
 have:∀aaK,(Wg W).trains=W.trains:=λrs=>by
  induction rs with
  |nil=>exact û W
  |cons r rs ih=>
   intro W;rw[List.foldl_cons,ih];unfold oM;split<;>rfl
 exact this _ _
def aZ3 Pc eS(h:Hq)(hk:jB Y W w i x=.ok):OW Y (uS Y W w i x):=by
 rw[fu R G.c7 aU YY (qf (pL).ne)];cases w with
 |set=>
  rw[aBm jB hk hk];split at hk
  ·rename_i hn;split at hk
   ·cases hk
   ·rename_i hh;rw[z9 r hr hn];rw[Int.toNat_natCast]at hh;rw[abP hf ht (aJz G h.I hr (a! hh)) (set_inv R h.I hr (aU r hr) hf ht) h.D arS]
  ·cases hk
 |cancel=>
  rw[aBm jB hk hk];split at hk
  ·split at hk
   ·rename_i hg;rw[sf uS];split
    ·rename_i hq;have hw:=(Bool.and_eq_true_iff.mp hq).1;rw[eV (aX6 h.I hg) (aYb h.D ?_ (h.I.Bx _ hg)) arS];have:=of_decide_eq_true hw;rw[Q3 (W.now<RI)]
    ·rw[bQ (aUF R h.I hg) h.D arS]
   ·cases hk
  ·cases hk
 |throw=>rw[bQ (Oy h.I) (aV7 h.D) arS]
 |tick=>rw[bQ (aX9 R h.I) (Sr h.I) (h.J.same aGG)]
 |enter=>
  have hk:Gk Y W x i=.ok:=hk;unfold Gk at hk;split at hk
  ·split at hk
   ·split at hk
    ·cases hk
    ·rename_i hx;split at hk
     ·rename_i r hp;show OW Y (Ot Y W x i)
      rw[dz Ot hp];rw[Mh hl (amT hp) hr (h.I.own r hl).1 hx ajY (a! hx)]
      rw[bQ (aH9 R h.I hl (aU r hr) (λt ht=>by rw[hx]at ht;cases ht) wC) (aIb h.D) (ň (aJA G hr Θ trivial Θ))]
     ·cases hk
   ·cases hk
  ·cases hk
 |go=>
  have hk:DW Y W x=.ok:=hk;show OW Y (DX Y W x);unfold DW at hk;unfold DX;cases hx:dG with
  |none=>rw[hx]at hk;cases hk
  |some t=>
   rw[hx]at hk;dsimp only at hk⊢;rw[cF T (h.I.tr x t hx) J (h.J x t hx)];split at hk
   ·cases hk
   ·split at hk
    ·rename_i ha;rw[if_pos ha];rw[eV (aYd R h.I hx ha) (akJ h.D q hq) (ň ?_)];cases e:t.ahead with
     |nil=>rw[CM ha]
     |cons s a=>
      obtain⟨h1,h2,_,h4⟩:=aG2 G T e;rw[L8 z hz ?_]
      ·rcases List.mem_cons.mp hz with rfl | hz
       ·exact h4
       ·exact J.ok z hz
      ·rw[cF hl J.alP hn T.ne];unfold eB at h1 h2;show rS (s::t.steps);cases e2:t.steps with
       |nil=>rw[nF e2 hn]
       |cons b w=>
        rw[e2]at h1 h2 hl;rw[bQ h2 (adu h1).2.1 hl]
    ·rename_i ha;rw[Q7 ha]
     have ha:Yv:=a! ha
     split at hk
     ·rename_i hb;rw[bQ (a0m h.I hx ha hb) (akJ h.D q hq) (ň ⟨J.ok,J.alP⟩)]
     ·rename_i b hb;split at hk
      ·cases hk
      ·rename_i s hs;split at hk
       ·rename_i r hp;rw[hs,Option.bind_some,hp,Option.getD_some];rw[cF hl (amT hp) hr (h.I.own r hl).1];rw[eV (aH9 R h.I hl (aU r hr) (λu hu=>by rw[hx]at hu;cases hu;rfl) (λhn=>by rw[hx]at hn;cases hn)) (aIb h.D) (ň (aJA G hr J.ok J.alP (c! z hz)))]
        have:z=ru:=by
         rw[iU eB List.headD_eq_head?_getD hz];rfl
        rw[this,hs,aZ2 hp]
       ·cases hk
 |draw=>
  have hk:Kx W x=.ok:=hk;rw[RE (OW Y (Gp W x)) Gp];cases hx:dG with
  |none=>exact h
  |some t=>
   dsimp only;have J:=h.J x t hx;split
   ·rw[eV (h.I.del x) (akJ h.D q hq) (cG y u hu)];rw[rz hu (b9 (Qp x) y=dO) hu Oa hu];split at hu
    ·cases hu
    ·exact h.J y u hu
   ·rename_i h1;rw[bQ (aYf h.I hx h1) (akJ h.D q hq) (ň ⟨r! (J.ok s (List.dropLast_subset _ hs)),J.alP.init⟩)]
 |turn=>
  have hk:Ky W x=.ok:=hk;rw[RE (OW Y (Gl W x)) Gl];cases hx:dG with
  |none=>exact h
  |some t=>
   have J:=h.J x t hx;rw[eV (aXX h.I hx) (SF h.D) (ň ⟨AR,J.alP.flip⟩)];rw[Mf z hz hs (J.ok z (List.mem_reverse.mp hz)).flip]
def aKp Pc eS(h:Hq):OW Y (GG Y W w i x):=by
 unfold GG;split
 ·rename_i hk;exact aZ3 G h hk
 ·exact h
universe zE
universe Sb
universe zE
end
mutual
section
namespace Sb
open PySem L2
abbrev rM gc:nZ:=[(lY "set",aDS η),(lY "cancel",aDS η),(lY "throw",aDT η)]
abbrev O? gc:nZ:=rM Y++[(aC1,akf)]
abbrev OF gc(w:gn):fF:=match w with
 |jR=>aPa
 |jA=>aPa
 |kT=>some Y.ps.length
 |jr=>some Y.ss.length
 |_=>none
abbrev w6 kL D4:Bool:=match OF Y w with
 |some n=>cm i n
 |none=>fK w iF||qm dG
section
variable {Y:eJ}{M:aL}{W:bL}{j:Nat}{ρ:ej}
def aJB{w:gn}:nO (O? Y) (lY w.s)=(OF Y w).map (agC n n):=by cases w<;>with_unfolding_all rfl
def aZ4:kE (rM Y) aC1 akf=O? Y:=cS
def aya{w:gn}:iH (aE w.s)=aY (lY w.s):=rfl
def aKX(w:gn):zS (aE w.s):=by
 have:agg (aE w.s):=by cases w<;>decide +kernel
 rw[zV]
def a2e{w v:gn}:(w.s=v.s)↔w=v:=by cases w<;>cases v<;>decide +kernel
def ayV{w v:gn}qQ:fi neg (aE w.s) (aE v.s) M=.ok (.ai (BS (fK w v) (fK w v))) M:=ZM (aKX _) (aKX _) (by rw[au aj.str.injEq a2e])
def ana{w:gn}{u:Str}azh az3:sQ (n_ (ae k) (c5 u)) ρ M=.ok (fK w v) M:=by
 subst hu;rw[dD,ao,av,h];dsimp only;rw[ag,bb,ag,ayV];rfl
def a5e gJ aoC:aB fM [(aDN (ae k))] ρ M=.ok (aDS η) M:=by
 rw[bV,aJ,h.ix (vY hk) Ke];simp[fM]
def a3A gJ aoC:aB fM [(ö (ae k) "pieces")] ρ M=.ok (aDT η) M:=by
 rw[bV,aJ,h.ix (vY hk) Tr];simp[fM]
def aPZ gJ aoC:aB fM [(ö (ae k) "signals")] ρ M=.ok akf M:=by
 rw[bV,aJ,h.ix (vY hk) ZH];simp[fM]
def aP0 gJ aoC:Gz [("set",(jO (aDN (ae k)))),("cancel",(jO (aDN (ae k)))),("throw",(jO (ö (ae k) "pieces")))] ρ M=.ok gC (M++[.ak (rM Y)]):=by
 unfold Gz;simp only[bB,zD,aJ,bq,a5e h hk,a3A h hk,ag];rfl
def adB Pc gJ:Rl aFG [ο 7,aE w.s,η i,η x]=.ok (.ai (w6 Y W w i x)) M:=by
 refine My rfl
 rw[Fp aFG q (∃G,q=.ok (.ai (w6 Y W w i x)) (M++G)) (wh gC (M++[.ak (rM Y)]) (aP0 h rfl))];rw[d8]
 rw[q8 h1 (h.push (.ak (rM Y))) (y! akf (M++[.ak (rM Y)]) gC (M++[.ak (rM Y)]) (aE "enter") (M++[.ak (rM Y)]) (M++[.ak (O? Y)]) (aPZ h1 rfl) rfl rfl ?_ eu)]
 ·rw[aEM (kvs:=rM Y) Θ (kk:=aC1) rfl (by rw[abJ 3]),aZ4];simp
 rw[fu h2 (h.push (.ak (O? Y))) hd (v5 (M++I9 (O? Y)) M.length .ak (O? Y)) Θ]
 generalize aEu:M++I9 (O? Y)=M2 at h2 hd;rw[vL fin (∀G7,b=w6 Y W w i x->∃G,(Res.ok (aj.ai b) M2)=.ok (.ai (w6 Y W w i x)) (M++G)) (λhb=>⟨I9 (O? Y),kU aEu hb⟩) (SD (qm (OF Y w)) M2 ?_)]
 ·rw[dD];simp only[ao,av,aX,aW,ag];rw[aRq hd aya,aJB];cases OF Y w<;>rfl
 ·rw[U! n hn hk];refine yi (.ai (cm i n)) M2 (cx (fS (fin ?_)))
  ·unfold amY
   simp only[bb,av,aX,aW,ag,aIf];unfold cm;by_cases h0:0≤i
   ·simp only[h0,decide_true,Bool.true_and];simp only[ao,av,aX,aW,ag];rw[Th hd aya (by rw[aJB,hn];rfl),ag,aXZ]
   ·simp[h0]
  ·rw[dz w6 hn]
 ·have hn:bR (OF Y w):=by cases e:OF Y w with
   |none=>rfl
   |some n=>rw[e]at hk;cases hk
  rw[Đ e3 (MS [aR,Rz,yo,aV,iZ] d oN) (Ő (.ai (fK w iF||qm dG)) M2 (fS (fin ?_)))]
  ·have e4:(aj.str "tick")=aE (gn.tick).s:=rfl;rw[aJb,ao,av,e4];rw[j!];rw[ag,bb,ag,ayV,ag];by_cases ht:w=iF
   ·simp[ht]
   ·simp only[ht,decide_false,Bool.false_eq_true,if_false,Bool.false_or];rw[ao,av];rw[j!];rw[ag,e3,ag,WA h2.jl k uA,zf];cases dG<;>rfl
  ·rw[dz w6 hn]
abbrev l5 gc dF ly K4(res:n0)D4:Prop:=DL Y j M res (jB Y W w i x) (uS Y W w i x)
def DL.get Le{k:tC}{W':bL}(h:DL Y j M res k W'):∃M',res=.ok (aE (an3 k)) M':=by
 cases k with
 |ok=>obtain⟨M',_,e,_⟩:=h;rw[cB M' e]
 |none=>rw[cB M h]
 |held=>rw[cB M h]
 |red=>rw[cB M h]
def aYv Pc(h:cW (w6 Y W w i x)):jB Y W w i x=cP:=by
 have go:∀{v:gn},bR (OF Y v)->v≠iF->cW (w6 Y W v i x)->ajY:=λ{v} h1 h2 h3=>by
  rw[EJ w6 h3 h1 h3];simpa[h2] using h3
 cases w with
 |set=>have h:QJ i:=h;unfold jB;simp[h]
 |cancel=>have h:QJ i:=h;unfold jB;simp[h]
 |throw=>have h:cW (Hy i):=h;unfold jB ac6;simp[h]
 |enter=>have h:cW (LP i):=h;rw[RE (Gk Y W x i=_) Gk];simp[h]
 |tick=>cases h
 |go=>have:=go rfl aZ h;show DW Y W x=_;rw[dz DW this]
 |draw=>have:=go rfl aZ h;show Kx W x=_;rw[dz Kx this]
 |turn=>have:=go rfl aZ h;show Ky W x=_;rw[dz Ky this]
def Dn UM(w:gn){u:Str}{s1 rest:cR}azh(hv:w≠v)az3(q:PE P (rest ρ M)):PE P (lz (M1 (ae k) (c5 u) s1) rest ρ M):=
 cj (tI M (kU (ana v hu h) (decide_eq_false hv)) (dy (az8 q)))
def aSr UM(w:gn){u:Str}gB{rest:cR}(hu:w.s=u)az3(y:aj)K5(e:dN=.ok y M')(q:P (.ok y M')):PE P (lz (M1 (ae k) (c5 u) (wM d)) rest ρ M):=
 cj (OQ M (kU (ana w hu h) (decide_eq_true rfl)) (bp y M' e (cx (fS q))))
def adU Pc aNa(ht:gt [ο 7,aE w.s,η i,η x] M=.ok (.ai (w6 Y W w i x)) M)
  (h0:atF i->q1 (g0 [ο 7,η i] M) jR)(h1:atF i->q1 (g1 [ο 7,η i] M) jA)(h2:aO (Hy i)->q1 (g2 [ο 7,η i] M) kT)
  (h3:aO (LP i)->q1 (g3 [ο 7,η x,η i] M) jr)(h4:q1 (rF [ο 7] M) iF)(h5:∀t,dG=eU->q1 (rG [ο 7,η x] M) .go)
  (h6:∀t,dG=eU->q1 (rH [ο 7,η x] M) kn)(Ze:∀t,dG=eU->q1 (rI [ο 7,η x] M) jP):
  q1 (awb gt g0 g1 g2 g3 rF rG rH rI [ο 7,aE w.s,η i,η x] M) w:=by
 rw[Fp awb q (l5 Y M W j q w i x) (cj (xY (! w6 Y W w i x)))]
 ·simp only[axB,i9,bV,aJ,bq,av,aX,aW,ag,ht,am8]
 ·refine H? (aE "none") M (fS ?_);rw[Ik l5 (aYv qt)]
 rw[cV hk (aO (w6 Y W w i x)) qt I0]
 rw[bJ tr (∀{v:gn},bR (OF Y v)->v≠iF->aO (w6 Y W v i x)->∃t,dG=eU) (λ{v} h1 h2 h3=>by
  unfold w6 at h3;rw[bG h1 h3 (Option.isSome_iff_exists.mp (Va h2 h3))]) ev (∀Eb BH d5{y:aj}UP,fx ds [aR,Rz,yo,aV] M=.ok xs M->g xs M=.ok y M'->aB g ds [aR,Rz,yo,aV] M=.ok y M') (λe1 e2=>by
  rw[bV,e1,ag,e2])]
 cases w with
 |set=>
  have L:=h0 hk;rw[ee M' e L.get (Yz P q q jR jR _ (Q_ e) (e▸L))]
 |cancel=>
  have L:=h1 hk;rw[ee M' e L.get (Dn (P:=λq=>l5 Y M W j q jA i x) jA jR rfl aZ rfl (Yz P q q jA jA _ (Q_ e) (e▸L)))]
 |throw=>
  have L:=h2 hk;rw[ee M' e L.get (Dn (P:=λq=>l5 Y M W j q kT i x) kT jR rfl aZ rfl (Dn (P:=λq=>l5 Y M W j q kT i x) kT jA rfl aZ rfl (Yz P q q kT kT _ (Q_ e) (e▸L))))]
 |enter=>
  have L:=h3 hk;rw[ee M' e L.get (Dn (P:=λq=>l5 Y M W j q jr i x) jr jR rfl aZ rfl (M3 jr jr jA jr jr kT (Yz P q q jr jr _ (Q_ e) (e▸L))))]
 |tick=>
  have L:=h4;rw[ee M' e L.get (Dn (P:=λq=>l5 Y M W j q iF i x) iF jR rfl aZ rfl (M3 iF iF jA iF iF kT (Dn (P:=λq=>l5 Y M W j q iF i x) iF jr rfl aZ rfl (Yz P q q iF iF _ (Q_ e) (e▸L)))))]
 |go=>
  rw[sx htr (tr rfl aZ hk)];have L:=h5 t htr;rw[ee M' e L.get (Dn (P:=λq=>l5 Y M W j q .go i x) .go jR rfl aZ rfl (M3 .go .go jA .go .go kT (M3 .go .go jr .go .go iF (Yz P q q .go .go _ (Q_ e) (e▸L)))))]
 |draw=>
  rw[sx htr (tr rfl aZ hk)];have L:=h6 t htr;rw[ee M' e L.get (Dn (P:=λq=>l5 Y M W j q kn i x) kn jR rfl aZ rfl (M3 kn kn jA kn kn kT (M3 kn kn jr kn kn iF (Dn (P:=λq=>l5 Y M W j q kn i x) kn .go rfl aZ rfl (Yz P q q kn kn _ (Q_ e) (e▸L))))))]
 |turn=>
  rw[sx htr (tr rfl aZ hk)];have L:=Ze t htr;rw[ee M' e L.get (Dn (P:=λq=>l5 Y M W j q jP i x) jP jR rfl aZ rfl (M3 jP jP jA jP jP kT (M3 jP jP jr jP jP iF (M3 jP jP .go jP jP kn (bp _ M' (Q_ e) (fS (e▸L)))))))]
universe zE
universe Sb
universe zE
section
namespace Sb
open PySem L2
structure aSU(a b c d:Addr):Prop where
 ab:a≠b
 ac:a≠c
 ad:a≠d
 bc:b≠c
 bd:b≠d
 cd:c≠d
abbrev aDX az2 D4 dF:n0:=match w with
 |jR=>g0 [ο 0,η i] M
 |jA=>g1 [ο 0,η i] M
 |kT=>g2 [ο 0,η i] M
 |jr=>g3 [ο 0,η x,η i] M
 |iF=>rF [ο 0] M
 |.go=>rG [ο 0,η x] M
 |kn=>rH [ο 0,η x] M
 |jP=>rI [ο 0,η x] M
abbrev xe D4(y:aj):ej:=[aM,Rz,yo,aV,C!,none]
abbrev afd aNq:cR:=
 (eN (t9 ah8) (Q1 avM) (eN (t9 (c5 "cancel")) (Q1 awo) (eN (t9 atj) (Q1 awD) (eN (t9 (c5 "enter")) (Q0 awE [aq,bw,aI]) (eN (t9 Qy) (Q0 amO [aq]) (eN (t9 (c5 "go")) (ab4 anF) (eN (t9 aiB) (ab4 B1) (ab4 B2))))))))
section
variable {C:eE}{Y:eJ}{o:dg}{M:aL}{B:cI}{W:bL}{j:Nat}{ρ:ej}
def aSs{w:gn}{u:Str}{s1 s2:cR}azh{i x:Int}{y:aj}:eN (t9 (c5 u)) s1 s2 (xe w i x y) M=vz w v (s1 (xe w i x y) M) (s2 (xe w i x y) M):=by
 rw[BX eN (ana (w:=w) v hu rfl)];rw[yH h w v h]
def TN Eb BH d5(h:xV=.ok xs M):qv (aB g ds) ρ M=NG (g xs M).out _ (.nx ρ aa):=by
 rw[mJ qv bV h ag]
def aIl aoY Pc{y:aj}:afd g0 g1 g2 g3 rF rG rH rI (xe w i x y) M=(aDX g0 g1 g2 g3 rF rG rH rI w i x M).out (xe w i x y) λ_ aa=>.nx (xe w i x y) aa:=by
 rw[kP h2 (fx [aq,aI] (xe w i x y) M=.ok [ο 0,η i] M) rfl h1 (fx [aq] (xe w i x y) M=.ok [ο 0] M) rfl h3 (fx [aq,bw] (xe w i x y) M=.ok [ο 0,η x] M) rfl h4 (fx [aq,bw,aI] (xe w i x y) M=.ok [ο 0,η x,η i] M) rfl];unfold afd;rw[W2 u "set" jR,W2 u "cancel" jA,W2 u "throw" kT,W2 u "enter" jr,W2 u "tick" iF,W2 u "go" .go,W2 u "draw" kn,TN h2,TN h2,TN h2,TN h4,TN h1,TN h3,TN h3,TN h3];cases w<;>rfl
abbrev Ts(C:eE):tC->Addr
 |.ok=>C.dK
 |cP=>C.dK
 |.held=>C.he
 |.red=>C.rd
def Qb.bad Le{k:tC}{P:cO cI}(h:Qb C Y o M res k P)(hk:k≠.ok):res=bW (Ts C k) M:=by
 cases k with
 |ok=>rw[WY hk]
 |none=>exact h
 |held=>exact h
 |red=>exact h
def aZI aoY Pc{wN:Addr}{k:tC}{P:cO cI}(h:Qb C Y o M (aDX g0 g1 g2 g3 rF rG rH rI w i x M) k P):
  (k=.ok/\∃M' o' B',DK [wN,C.dK,C.he,C.rd] 4 5 (afd g0 g1 g2 g3 rF rG rH rI) (xe w i x .ah) M=.nx (xe w i x .ah) M'/\Im o' M' B'/\HR o'/\P B') ∨
  (k≠.ok/\DK [wN,C.dK,C.he,C.rd] 4 5 (afd g0 g1 g2 g3 rF rG rH rI) (xe w i x .ah) M=.nx (xe w i x gC) (M++[bW (Ts C k)])):=by
 by_cases hk:k=.ok
 ·subst hk;obtain⟨M',o',B',e,h1,h2,h3⟩:=h;refine Ω ⟨rfl,M',o',B',?_,h1,h2,h3⟩;rw[mJ DK aIl e Res.pS]
 ·refine aA (lR hk);unfold DK;rw[uy aIl (h.bad hk) Res.aJi];rw[cC (jx (by cases k<;>simp[Ts]))]
abbrev aKY p5 D7 azl(v:tC->aj)(P:cO cI):Prop:=
 (k=.ok/\∃M' o' B',res=.ok (v k) M'/\Im o' M' B'/\HR o'/\P B')\/(k≠.ok/\∃c,res=.ok (v k) (M++[bW c]))
universe zE
universe Sb
universe zE
section
namespace Sb
open PySem L2
abbrev wZ(d:gn×Int×Int):aj:=aQ [aE d.1.s,η d.2.1,η d.2.2]
abbrev Pa(jb:akW)(d:gn×Int×Int):Prop:=rT d.2.1/\jb d.2.2
def aRA{N m:Int}(hm:0<m):∃k:Nat,N%m=k/\aS k<m:=by
 rw[mG (apQ N b m) (Int.emod_lt_of_pos N hm)];rw[bQ (N%m).toNat aD aD]
section
variable {Y:eJ}{M:aL}{W:bL}{j:Nat}{ρ:ej}
def Z2{N m:Int}(h:0<m):mO (η N) (η m) M=.ok (η (N%m)) M:=by
 unfold mO oV;simp[h]
def axa{N m:Int}(h:0<m)(h2:ċ m):wV (η N) (η m) M=.ok (η (N / m)) M:=by
 unfold wV oV;simp[h,h2]
def KJ gA aa5 aaJ{d aEg:bu}{N c:Int}d6 aM4(hm:aEg ρ M=.ok (η xs.length) M)(hN:rj k IT)(aU:SK 0)(h1:0<c:=by decide)(h2:ċ c:=by decide):
  ∃a∈xs,vF d (QE (cg wV (ae k) (Ξ c)) aEg) ρ=.ok Em M:=by
 rw[Cq m e1 e2 (at5 (N / c) m xs.length aD) g8 (SK m) aD]
 rw[De xs[m] aPI];rw[ao,hd,ag,ao,ao,av,hN];dsimp only;rw[ag,bb,ag,axa h1 h2,ag,hm,ag,Z2 aD,ag,e1];exact Dq (by rw[gI,List.getElem?_eq_getElem g8];rfl)
def aZJ gA aa5 aaJ gB aM4:aB fM [d] ρ M=.ok (η xs.length) M:=by
 rw[bV,aJ,hd];simp[fM]
def a5f D6 G3:fM [ο n] M=.ok (asP η) M:=by
 unfold fM;simp[oY,h]
def Za aba PD{bN g7:D1}gJ(hs:wc)(hss:aDC 16)apq
  (hn:g7 [ο 7,η s] M=.ok (hV CU) M)aaP(xg:LS (jb q.1))(xq:apX 90):
  ∃ds:gO gn (Int×Int),ŝ 90/\(∀d∈ds,Pa jb d)/\avy bN g7 [ο 7,η s] M=.ok (ς ah1) M:=by
 rw[gq hnn (acr x CU x) (yX (by
  rw[wu q hq hx (xg q aBI.1)])) K0 (gE CU 90) (by
  rw[jL J8 d9 (ajU xq)]) key (∃ds:gO gn (Int×Int),ŝ 90/\(∀d∈ds,Pa jb d)/\((aO lH/\∃nm:Int,ds=[(jr,aS s,nm)]/\vF (h7 [(Ξ 0),WZ,(Ξ 102),(Ξ 103),(Ξ 104)]) (aB Ua [(Ξ 4),(jO wj)]) [aR,fc,C7,CD]=.ok (η nm) M)\/(cW lH/\ds=(CU).map λx=>(.go,0,x)))) (by
  rw[q_ hk lH]
  ·obtain⟨m,a82,hm⟩:∃m:Nat,m<5/\(aj7 (jv W.trains.length<4) (W.trains.length:Nat) 4)=aS m:=by
    split
    ·exact jy W.trains.length aD
    ·exact jy 4 aD
   rw[gq hl (lI ([0,101,102,103,104]:fD)=5) rfl g8 (m<lI ([0,101,102,103,104]:fD)) aD hsm (acr y ([0,101,102,103,104]:fD) y) (A0 (hN y (List.mem_append_left [100,-3,-5,3,999999,7] hy)))]
   refine⟨[(jr,aS s,([0,101,102,103,104]:fD)[m])],Θ,?_,Ω (uv hk _ ?_)⟩
   ·intro d hd;rw[List.mem_singleton.mp hd];rw[cB ⟨by rw[Q3 (-1000≤aS s)],by show aS s≤_;omega⟩ (hsm _ aPI)]
   ·have e1:=nq [aR,fc,C7,CD] oN;rw[ao,w4];simp only[aJ,bq,bb,ag,bV];rw[XH,ag,e1];rw[wD (a5f h.jl)];rw[JW (Ua [η 4,η (dR ou:Nat)] M) .ok (η (aj7 (jv (dR ou)<4) (dR ou:Nat) 4)) M,axl,hm,ag]
    exact Dq (xs:=([0,101,102,103,104]:fD).map aj.int) (by rw[gI,List.getElem?_eq_getElem g8];rfl)
  ·refine⟨(CU).map λx=>(.go,0,x),a! K0,?_,aA (gg qt)⟩;intro d hd;rw[q6 x hx hd];rw[cB ⟨by rw[Q3 (-1000≤aS 0)],by show aS 0≤_;omega⟩ (hnn x hx)])]
 obtain⟨ds,hdl,OK,hc⟩:=key;refine⟨ds,hdl,OK,?_⟩;rw[Ó avy q (q=.ok (ς ah1) M) e1 [aR,fc,none,none] ZH (aah XG [aR,fc,C7,CD] M ?_ afb eu)]
 ·rw[ao,e1];simp[TX hs]
 rw[q8 e2 (nq [aR,fc,C7,CD] Tr) (xY lH)]
 ·rw[dD,ao,bV,aJ,e2];simp only[aJ,bq,av,aX,aW,ag,bb,hb,Tb];rfl
 ·rcases hc with⟨_,nm,rfl,e⟩ | ⟨hc,_⟩
  ·refine yi (ς [wZ (jr,aS s,nm)]) M XJ;rw[w4];simp only[aJ,bq,pU,e,bb,av,aX,aW,ag];rw[cC XH]
  ·rw[hk]at hc;cases hc
 ·rcases hc with⟨hc,_⟩ | ⟨_,rfl⟩
  ·rw[hk]at hc;cases hc
  ·rw[r9 (aji _)];rw[JV CU M (jJ gi n) (λx=>wZ (.go,0,x)) (j8 [y]) (ig (by simp only[bV,aJ,bq,av,aX,aW,ag,hn])) (nu z) (e! K0)]
   ·rw[C0 _ _,fL (by rw[Df K0]),List.map_map];rfl
   ·rw[WL y _ _ _ (by rw[cC pU])]
universe zE
universe Sb
universe zE
section
namespace Sb
open PySem L2
abbrev ayb:cR:=(C2 (n_ (pD mO (Ξ 32)) (Ξ 1)) (kS 9 (ahE [LX,(Ov jf (ae 7) akc),(lD Ml (Ah (Ξ 32) Ml))] (pD wV Ě) (Ξ 3)) (lV 5 (ahE [(zk (Ξ 5)),(Ξ 3),aC3] (pD wV Ě) (Ξ 3)))) (Yd [(ae 7),(ae 9),(tn (o4 akP akQ) eW (abx [(Ξ 0),akE,WZ,(zk (Ξ 3))] (ug 512)))]))
abbrev ayc:cR:=(lz (yO (t_ (ae 7) (c5 "cancel")) (cU E?) (lV 9 (Aw E? (ug 64) akb))) ayb)
abbrev ayd:cR:=(lz (yO (cU aDi) (sY (cU bI) (aim (Ξ 4) (Ξ 2))) (Yd [(abx [VN,(c5 "go"),VN,Qy] (ug 64)),(Ξ 0),(Aw bI (ug 256) (uE bI))])) ayc)
abbrev aKr(alK:D1):cR:=(lz (yO (aim (Ξ 4) (Ξ 0)) (cU E?) (Ff 10 (Aw E? (ug 64) akb) 11 (R3 (aB alK [aI,(EP į sL)]) (h7 [(fg [(c5 "cancel"),sL,(Ξ 0)])]) (Ah (Ξ 256) (Ξ 2))) (yN F! (d? (Aw F! (ug 1024) (jO F!)))))) ayd)
abbrev anZ:List gn:=[jR,jR,.go,.go,.go,kn,kn,jr,jA,iF,kT,jP]
abbrev i_ BG(k N:Int)(names:fD)(nm:Int)(l:aj)(w:gn)dj(a:Int)(y z:qW):ej:=[ry .dX,ko,aR,IT,Ò,dh nm,some l,Rz,iz n,dh a,y,z]
abbrev G1(jb:akW)dF(q:n0):Prop:=∃d,Pa jb d/\q=.ok (wZ d) M
abbrev Gq gc(w:gn):Nat:=match w with
 |jR=>Y.rs.length
 |jA=>Y.rs.length
 |kT=>Y.ps.length
 |_=>Y.ss.length
section
variable {Y:eJ}{M:aL}{W:bL}{j:Nat}{ns:fD}{k N:Int}{names:fD}{nm:Int}{l:aj}{w:gn}{n:Nat}{a:Int}{y z:qW}{ρ:ej}
def aIC eS:Iq (Gq Y w):=by
 rw[mG G.len G.g.eY];have h3:=G.g.Bk;cases w<;>(rw[sf Gq];omega)
def aHM gJ afv(h8:rj 8 (iz n))(Ze:ρ[7]? = Y0 aE w.s)(h2:Sa 2):Ov jf (ae 7) akc ρ M=.ok (η (Gq Y w)) M:=by
 rw[MD Ov av h8];rw[Io ag (pT hd)];rw[Io av Ze];rw[ag,aPZ h h2,ag,pT hd,aya];dsimp only
 have:(nO (rM Y) (lY w.s)).getD akf=η (Gq Y w):=by cases w<;>with_unfolding_all rfl
 rw[this]
def tmod{c r:Int}(h3:rj 3 IT)(hc:0<c):sQ (n_ (pD mO (Ξ c)) (Ξ r)) ρ M=.ok (fK (N%c) r) M:=by
 rw[dD,ao,ao,av,h3];dsimp only;rw[ag,bb,ag,Z2 hc,ag,bb,ag,rE];rfl
def aKs gJ(h2:Sa 2):cU E? ρ M=.ok aCD M:=by
 rw[i9,h.ix (vY h2) aed,ag];simp[fO]
def aID gJ(h2:Sa 2)(h3:rj 3 IT)(hg:aBf):∃r∈W.green,vF E? (Ah (Ξ 64) akb) ρ=.ok (η r) M:=by
 rw[fu e (h.ix (ρ:=ρ) (d:=aI) (vY h2) aed) hp (0<W.green.length) (apY hg)];exact KJ (enc:=jJ (r:Nat) (aS r)) e (at3 (jJ (r:Nat) (aS r)) e) h3 hp
def lits{xs:fD}(hl:akG)BH(h:xV=.ok asS M):PY ds ρ M=.ok (ς (xs.map aj.int)) M:=by
 rw[w4,h,ag,cc (a! hl)]
def a5g iO(h1 : -1000≤i:=by decide)(h2:aCB i:=by decide):Hl:=⟨h1,h2⟩
def aJC aba aaP eS gJ afv ao9:PE (G1 jb M) (ayb (i_ ns k N names nm l w n a y z) M):=by
 unfold ayb
 rw[vL last (∀(nm a:Int),jb nm->rT a->PE (G1 jb M) ((Yd [(ae 7),(ae 9),(tn (o4 akP akQ) eW (abx [(Ξ 0),akE,WZ,(zk (Ξ 3))] (ug 512)))]) (i_ ns k N names nm l w n a y z) M)) (λnm a xg ha=>by
  have e1:sQ (cg (fi true) (ae 7) (c5 "enter")) (i_ ns k N names nm l w n a y z) M=.ok (!(fK w jr)) M:=by
   have e4:(aj.str "enter")=aE (gn.enter).s:=rfl;rw[dD,ao,R5 7 (i_ ns k N names nm l w n a y z) .ok aE w.s,ag,bb,ag,e4,ayV]
   rfl
  obtain⟨b,hb,e2⟩:∃b∈([0,100,101,-3]:fD),vF (h7 [(Ξ 0),akE,WZ,(zk (Ξ 3))]) (Ah (Ξ 512) (Ξ 4)) (i_ ns k N names nm l w n a y z)=.ok (η b) M:=
   KJ (enc:=aj.int) (xs:=[0,100,101,-3]) (lits aZ rfl) rfl rfl aZ
  have aEx:jb b:=hN b (by
   simp only[List.mem_cons,List.not_mem_nil,or_false]at hb⊢
   omega)
  obtain⟨c,hc,e3⟩:∃c,jb c/\tn (o4 akP akQ) eW (abx [(Ξ 0),akE,WZ,(zk (Ξ 3))] (ug 512)) (i_ ns k N names nm l w n a y z) M=.ok (η c) M:=by
   have lZ:∃q,o4 akP akQ (i_ ns k N names nm l w n a y z) M=.ok q M:=by
    rw[Z4,e1,ag,auw aZ];rw[yH hw w jr hw]
   obtain⟨q,lZ⟩:=lZ;rw[Z5,lZ,ag];cases q with
   |true=>exact jy nm xg
   |false=>rw[bQ b aEx e2]
  refine yi (wZ (w,a,c)) M (fS (xQ ⟨ha,hc⟩));rw[pU,aJ,R5 7 (i_ ns k N names nm l w n a y z) .ok aE w.s,ag,aJ,ace 9 (i_ ns k N names nm l w n a y z) .ok a,ag,aJ,e3]
  rfl) (SA (fK (N%32) 1) M (auw aZ) (λhk=>dy (gN (last nm a xg ha))))];have Ut:=aIC (w:=w) G;obtain⟨q,aQn,a8X⟩:=at5 (N / 32) m 1000 aZ
 obtain⟨b,hb,e2⟩:∃b∈([-1,aS (Gq Y w),1000+N / 32%1000]:fD),vF (h7 [LX,(Ov jf (ae 7) akc),(lD Ml (Ah (Ξ 32) Ml))]) (Ah Ě (Ξ 3)) (i_ ns k N names nm l w n a y z)=.ok (η b) M:=by
  rw[ME (KJ (enc:=aj.int) (xs:=[-1,aS (Gq Y w),1000+N / 32%1000]) (lits (by rw[h_ (tR 3)]) ?_) rfl rfl (by rw[h_ (0<3)])) e1 (zk (Ξ 1) (i_ ns k N names nm l w n a y z) M=.ok (η (-1)) M) rfl e3 (cg (wU false) Ml (Ah (Ξ 32) Ml) (i_ ns k N names nm l w n a y z) M=.ok (η (1000+N / 32%1000)) M) (by
   rw[ao,bb,ag,ao,ao,ace 3 (i_ ns k N names nm l w n a y z) .ok N,ag,bb,ag,axa aZ aZ,ag,bb,ag,Z2 aZ,ag]
   rfl)]
  rw[aJ,e1,ag,aJ,aHM (w:=w) h hd rfl rfl rfl,ag,aJ,e3];rfl
 rw[cV aEx (rT b) (by
  rw[HB hb];rw[Ś rT]) (se (η b) e2)];show GB (L2.Fin (G1 jb M)) _ (lV 5 _ (i_ ns k N names nm l w n b y z) M)
 obtain⟨c,hc,e4⟩:∃c∈([-5,3,999999]:fD),vF (h7 [(zk (Ξ 5)),(Ξ 3),aC3]) (Ah Ě (Ξ 3)) (i_ ns k N names nm l w n b y z)=.ok (η c) M:=
  KJ (enc:=aj.int) (xs:=[-5,3,999999]) (lits aZ rfl) rfl rfl aZ
 rw[cV hcs (jb c) (hN c (by
  simp only[List.mem_cons,List.not_mem_nil,or_false]at hc⊢
  omega)) (Ku (η c) M e4 eu)];exact last c b hcs aEx
def aZK aba aaP eS aoD afv ao9:PE (G1 jb M) (ayc (i_ ns k N names nm l w n a y z) M):=by
 rw[jw ayc (cj (SA (fK w jA&&aCD) M ?_ (λhk=>dy (gN (aJC hN G h hd xg ha)))))]
 ·rw[A8,ana (w:=w) (u:= "cancel") jA rfl rfl,ag,aKs h rfl];rw[yH hw w jA hw]
 ·have hg:aBf:=aDA aAJ.2
  rw[Ce r hr e (aID (N:=N) (ρ:=i_ ns k N names nm l w n a y z) h rfl rfl hg) (Ku (η r) M e eu)];rw[mG (s8 r hr) G.len];exact aJC (a:=aS r) hN G h hd xg Ų
def aJD aba aaP eS aoD afv(zG:acr x names x)ao9:PE (G1 jb M) (ayd (i_ ns k N names nm l w n a y z) M):=by
 unfold ayd;rw[q8 bx (aqn ρ (i_ ns k N names nm l w n a y z) d aI Km) (SA (aPc&&(aCm&&fK (N%4) 2)) M ?_ (λhk=>dy (gN (aZK hN G h s8 hd xg ha))))]
 ·rw[bJ e1 (cU aDi (i_ ns k N names nm l w n a y z) M=.ok aPc M) (by
   rw[i9,bx,ag];rw[wk fO h.jF];rw[Ik encD List.isEmpty_map]) e2 (cU bI (i_ ns k N names nm l w n a y z) M=.ok aCm M) (by
   rw[i9,ym (ae 4 (i_ ns k N names nm l w n a y z) M) (.ok (hV names) M),ag]
   simp[fO])]
  rw[A8,e1,ag,A8,e2,ag,auw aZ];cases W.falls.isEmpty<;>cases names.isEmpty<;>simp
 ·rw[bJ hn (cW names.isEmpty) (by
   rw[Qe (Bool.and_eq_true_iff.mp aAJ.2).1]) hp (0<names.length) (apY hn)]
  obtain⟨v,hv,e1⟩:∃v∈([jP,.go,jP,iF]:List gn),vF (h7 [VN,(c5 "go"),VN,Qy]) (Ah (Ξ 64) (Ξ 4)) (i_ ns k N names nm l w n a y z)=.ok (aE v.s) M:=
   KJ (enc:=fun(v:gn)=>aj.str v.s) (xs:=[jP,.go,jP,iF]) (by rw[au w4 (cc aZ)]) rfl rfl aZ
  have en:ae 4 (i_ ns k N names nm l w n a y z) M=.ok (ς aPg) M:=rfl;rw[Ce x hx e2 (KJ (c:=256) (N:=N) (k:=3) (enc:=aj.int) (xs:=names) en (at3 aj.int en) rfl hp) (yi (wZ (v,0,x)) M (cx (fS (xQ ⟨a5g (i:=0),zG x hx⟩))))];rw[pU,aJ,e1,ag,aJ,bb,ag,aJ,e2];rfl
def aZL aba{gd:D1}aaP eS aoD afv(zG:acr x names x)ao9
  (hg:vC s (wc->∃ds:gO gn (Int×Int),ŝ 90/\(∀d∈ds,Pa jb d)/\gd [ο 7,η s] M=.ok (ς ah1) M)):PE (G1 jb M) (aKr gd (i_ ns k N names nm l w n a none none) M):=by
 rw[jw aKr (cj (SA (fK (N%4) 0&&aCD) M ?_ (λhk=>dy (gN (aJD hN G h s8 hd zG xg ha)))))]
 ·rw[A8,auw aZ,ag,aKs h rfl];rw[yH hw (N%4) 0 hw]
 ·have hge:aBf:=aDA aAJ.2
  rw[Š r hr (aID (N:=N) (ρ:=i_ ns k N names nm l w n a none none) h rfl rfl hge)];rw[dm tB (s8 r hr) (se (η r) e)];show GB (L2.Fin (G1 jb M)) _ (lz (lV 11 _) _ Nz M);obtain⟨ds,hdl,OK,Gf⟩:=hg b_ (G.sg tB);have y9:=aqn ρ Nz d aI Ke;obtain⟨m,em,hm⟩:=at5 (N / 256) m 2 aZ
  rw[gq e1 (aB gd [aI,(EP į sL)] Nz M=.ok (ς ah1) M) (by
   rw[bV,aJ,R5 2 Nz .ok ο 7,ag,aJ,ao,ao,y9,ag,ace 10 Nz .ok r,ag,Go tB,ag,bb,ag,zm]
   rw[wD bq];exact Gf) e2 (cg (qA false) (h7 [(fg [(c5 "cancel"),sL,(Ξ 0)])]) (Ah (Ξ 256) (Ξ 2)) Nz M=.ok (ς ((aqP (gn.cancel,aS r,aS 0)).map wZ)) M) (by
   have el:PY [(fg [(c5 "cancel"),sL,(Ξ 0)])] Nz M=.ok (ς [wZ (jA,r,0)]) M:=by
    rw[w4,aJ,pU];exact XH
   rw[ao,el,ag,ao,ao,ace 3 Nz .ok N,ag,bb,ag,axa aZ aZ,ag,bb,ag,Z2 aZ,ag,em]
   have:m=0\/m=1:=aD
   rcases this with rfl | rfl<;>with_unfolding_all rfl) e3 (∃Ug:gO gn (Int×Int),tR Ug.length/\(∀d∈Ug,Pa jb d)/\(R3 (aB gd [aI,(EP į sL)]) (h7 [(fg [(c5 "cancel"),sL,(Ξ 0)])]) (Ah (Ξ 256) (Ξ 2))) Nz M=.ok (ς V0) M) (by
   refine⟨ds++aqP (gn.cancel,aS r,aS 0),by rw[Vm List.length_replicate];omega,c! d hd,?_⟩
   ·rcases List.mem_append.mp hd with hd | hd
    ·exact OK d hd
    ·rw[List.eq_of_mem_replicate hd];have h2:=G.len;rw[cB ⟨by rw[Q3 (-1000≤aS r)],by show aS r≤_;omega⟩ (hN 0 Θ)]
   ·rw[ao,e1,ag,e2,ag,Tl,←List.map_append,cc (by rw[d9,List.length_append,List.length_replicate];omega)])]
  obtain⟨Ug,Bt,Bs,e3⟩:=e3;refine se (ς V0) e3;rw[Ai (GB (L2.Fin (G1 jb M)) _ (eN _ _ _ (i_ ns k N names nm l w n a b6 (ET V0)) M)) (eD (! Ug.isEmpty) M ?_ (dJ cE) (λ_=>dy (gN (aJD hN G h s8 hd zG xg ha))))]
  ·rw[i9,R5 11 (i_ ns k N names nm l w n a b6 (ET V0)) .ok ς V0,ag]
   simp[fO]
  ·rw[bJ hp (0<Ug.length) (apY (a! cE)) en (ae 11 (i_ ns k N names nm l w n a b6 (ET V0)) M=.ok (ς V0) M) rfl];rw[SW d KU e4 (KJ (c:=1024) (N:=N) (k:=3) (enc:=wZ) (xs:=Ug) en (at3 wZ en) rfl hp) (bp (wZ d) M e4 (cx (fS (jy d (Bs d KU)))))]
def adV aba{qy gd:D1}aaP aaX eS aoD(zG:LS (jb q.1))(xq:apX 90)
  (hg:∀dF qS,Ed->wc->∃ds:gO gn (Int×Int),ŝ 90/\(∀d∈ds,Pa jb d)/\gd [ο 7,η s] M=.ok (ς ah1) M):
  ∃d,Pa jb d/\Rl (al3 qy gd) [.dX ns,η k,ο 7]=.ok (wZ d) M:=by
 have main:G1 jb (M++[.ak (rM Y)]) (al3 qy gd [.dX ns,η k,ο 7] M):=by
  rw[jw al3 (pO (P:=G1 jb (M++[.ak (rM Y)])) ?_)]
  simp only[bB,zD,zE,gx,Nat.zero_add,Nat.reduceAdd,Nat.reduceSub,List.replicate,f9,fz,eP];refine se (η (IJ k)) (aK (hm ns k M));rw[d8]
  generalize IJ k=N
  rw[ur K0 (gE agr 90) (by rw[ni xq]) aDY (acr x agr x) (yX (by
   rw[wu q hq hx (zG q hq)])) (rm (hV agr) M)]
  ·have e:=aqn ρ [ry .dX,ko,aR,IT,none,none,none,none,none,none,none,none] d aI oN;rw[bV,aJ,e];rw[wD bq];rw[wk Tt (pT h.jl)];rw[aeA,fL (by rw[ahL xq])];rw[Mm hV]
  rw[d8];generalize agr=names at K0 aDY
  obtain⟨nm,xg,e1⟩:∃nm,jb nm/\(tn (cU bI) (Aw bI (ug 16) (uE bI)) (Ξ 7)) [ry .dX,ko,aR,IT,Ò,none,none,none,none,none,none,none] M=.ok (η nm) M:=by
   rw[bJ en (ae 4 [ry .dX,ko,aR,IT,Ò,none,none,none,none,none,none,none] M=.ok (ς aPg) M) rfl et (cU bI [ry .dX,ko,aR,IT,Ò,none,none,none,none,none,none,none] M=.ok aCm M) (by
    rw[i9,en,ag];simp[fO])]
   rw[Z5,et,ag];cases he:names.isEmpty with
   |true=>exact jy 7 (hN 7 Θ)
   |false=>
    have hp:0<names.length:=apY he;rw[qj x hx e (KJ (c:=16) (N:=N) (k:=3) (enc:=aj.int) (xs:=names) en (at3 aj.int en) rfl hp) x (aDY x hx) e]
  refine se (η nm) e1;rw[um (xU ς (anZ.map λw=>aj.str w.s) M)]
  ·rw[au w4 (cc aZ)]
  rw[d8];rw[Ce w hw e2 (KJ (c:=4) (N:=N) (k:=3) (M:=M) (ρ:=[ry .dX,ko,aR,IT,Ò,dh nm,ET (anZ.map λw=>aj.str w.s),none,none,none,none,none]) (enc:=λw=>aj.str w.s) (xs:=anZ) (d:=ae 6) (aEg:=Ξ 12) rfl rfl rfl aZ) (se (aE w.s) e2)];rw[wz gC (M++[.ak (rM Y)]) (aP0 h rfl)]
  rw[d8];rw[ahz h1 (h.push (.ak (rM Y))) hd (aND (M++I9 (rM Y)) M.length .ak Y) Θ (M++I9 (rM Y)) aa h1 hd];generalize M.length=n at hd;rw[fu Ut (aIC (w:=w) G) aQK (0<(aj7 (aS (Gq Y w) > 1) (Gq Y w) 1)) (by split<;>omega)]
  rw[ahG a ea ha (aRA (N:=wL (k+1)) aQK) GV (Iq a) (by split at ha<;>omega) (xU η a aa)]
  ·have e3:=aHM (w:=w) (n:=n) (ρ:=[ry .dX,ko,aR,IT,Ò,dh nm,ET (anZ.map λw=>aj.str w.s),Rz,iz n,none,none,none]) h1 hd rfl rfl rfl;simp only[ao,bV,aJ,bq,av,aX,aW,ag,bb,aHZ,hm ns _ aa]at e3⊢;rw[e3];rw[ahZ];rw[JW (anR [η 1,η (Gq Y w)] aa) .ok (η (aj7 (aS (Gq Y w) > 1) (Gq Y w) 1)) aa,ag,Z2 aQK,ea]
  rw[d8];exact aZL hN (a:=aS a) G h1 s8 hd aDY xg Ų (r! (hg aa s h1 hs))
 rw[qj d hd e main d hd (aDz _ e rfl)]
universe zE
universe Sb
universe zE
end
mutual
section
namespace Sb
open PySem L2
section
variable {C:eE}{Y:eJ}{o:dg}{M:aL}{B:cI}{W:bL}{j:Nat}{w:gn}{i x:Int}
def aYw{y:Int}(hy:y≠x):b9 (uS Y W w i x).trains y=B6 y:=by
 cases w with
 |set=>rfl
 |cancel=>rw[sf uS];split<;>rfl
 |throw=>rfl
 |tick=>show b9 (Gs W).trains y=_;rw[aGG]
 |enter=>
  show b9 JS y=_;rw[zd,VW]
 |go=>
  rw[RE (b9 (DX Y W x).trains y=_) DX];split
  ·rfl
  ·split
   ·show b9 JS y=_;rw[zd,VW]
   ·split
    ·show b9 JS y=_;rw[zd,VW]
    ·show b9 JS y=_;rw[zd,VW]
 |draw=>
  rw[RE (b9 (Gp W x).trains y=_) Gp];split
  ·rfl
  ·split
   ·show b9 (Qp x) y=_;rw[Oa,VW]
   ·show b9 JS y=_;rw[zd,VW]
 |turn=>
  rw[RE (b9 (Gl W x).trains y=_) Gl];split
  ·rfl
  ·show b9 JS y=_;rw[zd,VW]
def aJE{y:Int}(hy:y≠x):b9 (GG Y W w i x).trains y=B6 y:=by
 unfold GG;split
 ·exact aYw hy
 ·rfl
def a2f eS(h:Hq)(hn:LS (rT q.1))xw:A1 (GG Y W w i x).trains (rT q.1):=vH (by
 rw[lE (q.1=x)]
 ·rw[pe hx]
 ·have h1:=WG (aKp (w:=w) (i:=i) (x:=x) G h).I.kH;rw[bG (aJE e) h1 (hn _ (Dt h1))])
structure tE p5 dF o9 ly(o:dg)K4:Prop where
 y:vn
 w:Ed
 f:Hq
 S:Lj
 sep:∀i,aee j i->o i=.DI
 nm:LS (rT q.1)
abbrev St p5 dF ly:Prop:=∃B o j,tE C Y M B W o j
abbrev KY p5 D7 ly(res:n0)D4:Prop:=YG C Y o M res (jB Y W w i x) (uS Y W w i x)
def tE.push azB(v:fB):tE C Y (M++[v]) B W (kB o M.length .DI) j:=by
 refine⟨s.y.push v .DI,s.w.push v,s.f,s.S,c! i hi,s.nm⟩;unfold kB;split
 ·rfl
 ·rw[abR i hi]
def hJ.ad gJ gW(hi:aee j i):EB i:=by
 rcases hi with rfl | rfl | rfl | rfl | rfl
 ·exact pP h.qG
 ·exact pP h.jE
 ·exact pP h.jF
 ·exact pP h.jl
 ·exact pP h.wl
def a3B UP p_(f:oH M')(sep:∀i,aee j i->o i=.DI):BV M' B:=
 h.keep f.len λi hi aU=>f.out i (aiO (sep i (Ω e))) (aiO (sep i (aA (Ω e)))) (aiO (sep i (aA (aA (Ω e))))) (aiO (sep i (aA (aA (aA (Ω e)))))) (aiO (sep i (aA (aA (aA (aA e)))))) hi
abbrev anw p5(gd:D1):Prop:=∀M B W o j D4,tE C Y M B W o j->q1 (gd [ο 7,aE w.s,η i,η x] M) w
abbrev anb p5(ga:D1)(v:tC->aj):Prop:=∀M B W o D4,vn->Hq->Lj->Hl->Ei->aKY C Y o M (ga [ο 0,aE w.s,η i,η x] M) (jB Y W w i x) v λB'=>avB Y (uS Y W w i x) B'
def step{gd ga:D1}{v:tC->aj}eS(hd:anw C Y gd)(ha:anb C Y ga v)azB BI xw:
  ∃aa M2,gd [ο 7,aE w.s,η i,η x] M=.ok (aE (an3 (jB Y W w i x))) aa/\ga [ο 0,aE w.s,η i,η x] aa=.ok (v (jB Y W w i x)) M2/\St C Y M2 (GG Y W w i x):=by
 rw[H_ L (hd M B W o j w i x s) hf (aKp (w:=w) (i:=i) (x:=x) G s.f) hn (a2f (w:=w) (i:=i) (x:=x) G s.f s.nm hx)];by_cases hk:jB Y W w i x=.ok
 ·have ea:GG Y W w i x=uS Y W w i x:=by rw[dz GG hk]
  rw[ea]at hf hn⊢;unfold l5 at L;rw[hk]at L⊢;obtain⟨aa,j',e1,w1,f1,hj⟩:=L;rw[cF y1 (a3B s.y f1 s.sep) A (ha aa B W o w i x y1 s.f s.S hi hx)];rw[hk]at A;rcases A with⟨_,M2,o',B',e2,y2,f2,b8⟩ | ⟨hc,_⟩
  ·rw[t7 aP1 (∀i,aee j' i->o i=.DI) (λi hi=>by
    rcases hj with rfl | hj
    ·rw[abR i hi]
    ·rcases hi with e | e | e | e | e
     ·rw[abR i (Ω e)]
     ·rw[abR i (aA (Ω e))]
     ·rw[abR i (aA (aA (Ω e)))]
     ·rw[abR i (aA (aA (aA (Ω e))))]
     ·exact s.y.hi i aD) ⟨aa,M2,e1,e2,B',o',j',y2,w1.keep λi hi hl=>f2.out i hl (aP1 i hi),hf,b8,c! i hi,hn⟩];rw[au (f2.tag i (w1.ad hi)) (aP1 i hi)]
  ·rw[WY hc]
 ·have ea:GG Y W w i x=W:=by
   unfold GG;split
   ·rw[XD];rw[CM hk]
   ·rfl
  rw[ea]
  rw[Jj e1 (gd [ο 7,aE w.s,η i,η x] M=.ok (aE (an3 (jB Y W w i x))) M) (by
   unfold l5 at L;cases e:jB Y W w i x with
   |ok=>rw[CM hk]
   |none=>rw[Fq L L]
   |held=>rw[Fq L L]
   |red=>rw[Fq L L]) A (ha M B W o w i x s.y s.f s.S hi hx)];rcases A with⟨hc,_⟩ | ⟨_,c,e2⟩
  ·rw[nF hc hk]
  ·exact⟨M,_,e1,e2,B,_,j,s.push (bW c)⟩
def aZM eS Hf afT:XN B (λp=>JQ)=ĵ W:=by
 unfold amo heldW
 have:∀w:gV,(∀x∈w,agt x.1)->(w.any λs=>ap4 s.1||qm (Vg s.1))=w.any λs=>oX W s.1:=λw hw=>by
  induction w with
  |nil=>rfl
  |cons x w ih=>
   rw[List.any_cons,List.any_cons,ih (A0 (hw y (aK hy)))];rw[mJ oX List.getD_eq_getElem?_getD (S.locks x.1 (hw x Θ)) (ax8 S)];rfl
 exact this _ (yX (aiz r x.1 (lP x hx)))
def a2g(S:Lj)Ea(hp:vB):(zT||JQ)=oX W p:=by
 rw[mJ oX List.getD_eq_getElem?_getD (asZ p) (ax8 S)];rfl
def a3i Le eS afG
    (h:(QJ i/\res=g_)\/∃r:Nat,i=r/\jZ ∧
      ((aO (XN B (λp=>JQ))/\res=bW C.he M) ∨
       (cW (XN B (λp=>JQ))/\Cz (res=.ok .ah M') (setB Y.rs aky B r)))):KY C Y o M W res jR i x:=by
  rw[asu KY jB uS];rcases h with⟨hn,e⟩ | ⟨r,rfl,hr,c⟩
  · rw[au hn e]
  rw[ah9 hr];rw[aZM G f.I S hr]at c;rcases c with⟨hh,e⟩ | ⟨hh,M',e,y1,f1⟩
  · rw[au hh e]
  · rw[fX hh ⟨M',o,_,e,y1,f1,a0l G.c7 f.I S hr (aJz G f.I hr hh).1 (G.mV hr)⟩]
def aYx Le eS afG
    (h:(QJ i/\res=g_)\/∃r:Nat,i=r/\jZ ∧
      ((Md r/\res=g_) ∨
       (ua/\((g5 (ud&&(Vz Y||kW))/\vD (res=.ok .ah M') (Im (Yb r) M' (anq Y.rs B r (atR z5 Y))) (HR (Yb r)))
          \/ q? (ud&&(Vz Y||kW))/\Cz (res=.ok .ah M') (amB Y.rs B r))))):KY C Y o M W res jA i x:=by
  rw[asu KY jB uS];rcases h with⟨hn,e⟩ | ⟨r,rfl,hr,c⟩
  · rw[au hn e]
  rw[ah9 hr];rcases c with⟨hg,e⟩ | ⟨hg,c⟩
  · rw[Sm hg e]
  rw[if_pos hg];rw[fu aU (aZ1 G f.I S f.J Ni) hq ((ud&&(Vz Y||kW))=am9 Y W r) (by
    rw[dz am9 aU];cases ahH Y<;>rfl)]
  rw[hq]at c;rcases c with⟨hb,M',e,y1,f1⟩ | ⟨hb,M',e,y1,f1⟩
  · rw[hb,eK]
    refine⟨M',_,_,e,y1,f1,?_⟩;have:=aX8 (u:=atR z5 Y) G.c7 f.I S hg;unfold KG at this;rw[←aU,S.ticks]at this;rw[au S.ticks this]
  · rw[hb,nC]
    exact⟨M',_,_,e,y1,f1,aUG G.c7 f.I S hg⟩
def a0y Le eS afG
    (h:(cW (HW i)/\res=g_)\/∃p:Nat,i=p/\vB/\JO ∧
      ((g5 (zT||JQ)/\res=bW C.he M) ∨
       (q? (zT||JQ)/\Cz (res=.ok .ah M') (aez B p)))):KY C Y o M W res kT i x:=by
  rw[asu KY jB uS];rcases h with⟨hn,e⟩ | ⟨p,rfl,hp,uY,c⟩
  · rw[au hn e]
  have acO:aO (HW (aS p)):=by rw[jL ac6 (avm hp) uY]
  rw[apW (if_pos acO)];rw[a2g S hp]at c;rcases c with⟨hh,e⟩ | ⟨hh,M',e,y1,f1⟩
  · rw[au hh e]
  · rw[fX hh ⟨M',o,_,e,y1,f1,aWA S hp uY⟩]
def a2h Le eS afG(h:Cz (res=.ok .ah M') (Iy Y.rs B)):KY C Y o M W res iF i x:=by
 rw[yw M' e y1 f1 h ⟨M',o,_,e,y1,f1,aYa G.c7 f.I S⟩]
def a2i Le afT(h:(aO (ĵ W)/\res=.ok (aE "held") M)\/(aut W/\Cx (res=.ok (aE "ok") M') (aax Y.rs (uM Y.ps) abf W r))):l5 Y M W j res jR r x:=by
 rw[asu l5 jB uS];rw[ah9 hr];rcases h with⟨hh,e⟩ | ⟨hh,M',e,w1,f1⟩
 ·rw[au hh e]
 ·rw[fX hh ⟨M',j,e,w1,f1,Ω rfl⟩]
def aWj Le afT(h:(Md r/\res=.ok (aE "none") M) ∨
  (ua/\((g5 (ud&&(! M5||kW))/\Cx (res=.ok (aE "ok") M') (T5 W r ⟨RI,FO,kW⟩)) ∨
   (q? (ud&&(! M5||kW))/\vD (res=.ok (aE "ok") M') (arX M' (Z0 W r)) (kl j M M'))))):l5 Y M W j res jA r x:=by
 unfold l5 jB uS am9;dsimp only;rw[ah9 hr];rcases h with⟨hg,e⟩ | ⟨hg,c⟩
 ·rw[Sm hg e]
 rw[if_pos hg];rcases c with⟨hb,M',e,w1,f1⟩ | ⟨hb,M',e,w1,f1⟩
 ·rw[hb,eK];exact⟨M',j,e,w1,f1,Ω rfl⟩
 ·rw[hb,nC];exact⟨M',_,e,w1,f1,aA fe⟩
def Tx Le Ea(hp:vB)(h:(aus p/\res=.ok (aE "none") M) ∨
  (JO/\((g5 (oX W p)/\res=.ok (aE "held") M)\/(q? (oX W p)/\Cx (res=.ok (aE "ok") M') (Oq W p))))):l5 Y M W j res kT p x:=by
 unfold l5 jB uS ac6;dsimp only;rw[avm hp,Int.toNat_natCast,Bool.true_and];rcases h with⟨hg,e⟩ | ⟨hg,c⟩
 ·rw[au hg e]
 rw[hg,eK];rcases c with⟨hh,e⟩ | ⟨hh,M',e,w1,f1⟩
 ·rw[au hh e]
 ·rw[fX hh ⟨M',j,e,w1,f1,Ω rfl⟩]
universe zE
universe Sb
universe zE
section
namespace Sb
open PySem L2
abbrev aYy Pu cZ:Prop:=∀ps ss apm dF,R!->g [gC,h!,nI,η wait] (M++[dB c []])=.ok .ah (M++lh c M.length ps ss uH wait)
abbrev anc jY:P?:=ps.map λp=>U5 (uU p) uB
abbrev l_ gc:bL:=⟨vt none,abh,[],[],0,[]⟩
abbrev KB gc:cI:=⟨[],aDL,[],[],0,[]⟩
abbrev o0:dg:=λi=>Wc (i≤5) yard .DI
abbrev aad gc:aL:=[ς ((abh).map GF),.ak (wKs Y [] 0 8),ς ((vt (none:fF)).map bl),.ak [],.ak []]
section
variable {C:eE}{Y:eJ}{M:aL}
def amU{f6 gr dv:bu}p7(y:aj)(aa:aL)m7(M2:aL)(k:aj)(bE M':aL)aLY aLU:k7 f6 gr dv ρ M=.nx ρ M':=by
 unfold k7;rw[hv,Res.pS,ho,Res.pS,hk,Res.pS,hp]
def aIE:vC n (F2 (aCF [aj.ah])=(aCF (none:fF)).map bl)
 |0=>rfl
 |n+1=>by rw[List.replicate_succ,List.flatten_cons,aIE n,List.replicate_succ];rfl
def a0z br(h:n≤16):qA true (ς [.ah]) (η n) M=.ok gC (M++[ς ((aCF (none:fF)).map bl)]):=by
 rw[bJ hs (ŏ gi) (Kg aD aD) a5L (aBi (aS 2 ^ 62)) aCY]
 rw[wk qA Kf];rw[a5L,Int.toNat_natCast,if_pos ⟨hs,aD,aD,by simp[lim];omega⟩,aIE,ml (by simp[lim];omega)]
abbrev qG gc:nZ:=[(aDb,kN),(aDI,Rm),(lY "wait",η Y.wait),(aDa,ο 6),(asV,ς []),(atB,η 0)]
abbrev jE gc:nZ:=qG Y++[(agP,WU)]
abbrev w8 gc:nZ:=jE Y++[(Û,ο 8)]
abbrev jF gc:nZ:=w8 Y++[(ait,ο 9)]
def a61:kE (qG Y) agP WU=jE Y:=cS
def a62:kE (jE Y) Û (ο 8)=w8 Y:=cS
def a63:kE (w8 Y) ait (ο 9)=jF Y:=cS
def a5h:kE (jF Y) atc (ο 10)=wKs Y [] 0 8:=cS
def ZY azM eS(h6:M.length=6):awk oP [kN,Rm,η Y.wait] M=.ok (ο 7) (M++aad Y):=by
 rw[cF Bo G.g.eY hrs G.rs];rw[Fp awk q (q=.ok (ο 7) (M++aad Y)) (xU ο 6 (M++[ς ((abh).map GF)]))]
 ·rw[JV Y.ps M fj.enc (λp=>GF (U5 (uU p) uB)) (j8 [y]) XI (nu p) (e! Bo)]
  ·rw[C0 _ _,ml (by rw[Df Bo]),h6];rw[Mm anc]
  ·rw[uo y hρ];refine jd _ rfl (gg _) (dJ _);cases p<;>simp[fj.enc,uU,GF,kG]
 rw[d8]
 have l1:uf M (yD ((abh).map GF))=7:=aK h6
 generalize GW:M++yD ((abh).map GF)=aa at l1;refine xU ο 7 (aa++[.ak (qG Y)])
 ·unfold Gz;simp only[bB,zD,aJ,bq,av,aX,aW,ag,bb,w4];rw[XH];rw[su ag l1];rfl
 rw[d8]
 rw[Qa an7 (∀(G:aL)(o o':fB),(aa++o::G).set 7 o'=aa++o'::G) (λG o o'=>by rw[cA l1 aI2]) an8 (∀(G:aL)(o:fB),h9 (aa++o::G) 7 o) (λG o=>by rw[cA l1 a0e]) ?_];rw[ia (amU WU (aa++[.ak (qG Y)]) (ο 7) (aa++[.ak (qG Y)]) (aE "routes") (aa++[.ak (qG Y)]) (aa++[.ak (jE Y)]) ?_ rfl rfl ?_) eu]
 rotate_left
 ·simp[hr Y.ps Y.ss _ G.g,hrs]
 ·rw[WE (an8 [] _) agP (by rw[abJ 6]),a61,an7]
 rw[o? ?_]
 rw[ia (amU (ο 8) (aa++[.ak (jE Y),ς ((vt (none:fF)).map bl)]) (ο 7) (aa++[.ak (jE Y),ς ((vt (none:fF)).map bl)]) (aE "locks") (aa++[.ak (jE Y),ς ((vt (none:fF)).map bl)]) (aa++[.ak (w8 Y),ς ((vt (none:fF)).map bl)]) ?_ rfl rfl ?_) eu]
 rotate_left
 ·simp only[ao,w4,aJ,bq,bb,ag,bV,av,aX,aW];rw[XH,ag,j9 (fM [kN] (aa++I9 (jE Y))) (.ok (aDT η) (aa++I9 (jE Y))) (aK fM),ag,a0z Bo]
  simp[l1]
 ·rw[WE (an8 _ _) Û (by rw[abJ 7]),a62,an7]
 rw[o? ?_]
 rw[ia (amU (ο 9) (aa++[.ak (w8 Y),ς ((vt (none:fF)).map bl),.ak []]) (ο 7) (aa++[.ak (w8 Y),ς ((vt (none:fF)).map bl),.ak []]) (aE "falls") (aa++[.ak (w8 Y),ς ((vt (none:fF)).map bl),.ak []]) (aa++[.ak (jF Y),ς ((vt (none:fF)).map bl),.ak []]) ?_ rfl rfl ?_) eu]
 rotate_left
 ·simp[rh,l1]
 ·rw[WE (an8 _ _) ait (by rw[abJ 8]),a63,an7]
 rw[o? ?_]
 rw[ia (amU (ο 10) (aa++[.ak (jF Y),ς ((vt (none:fF)).map bl),.ak [],.ak []]) (ο 7) (aa++[.ak (jF Y),ς ((vt (none:fF)).map bl),.ak [],.ak []]) (aE "trains") (aa++[.ak (jF Y),ς ((vt (none:fF)).map bl),.ak [],.ak []]) (aa++[.ak (wKs Y [] 0 8),ς ((vt (none:fF)).map bl),.ak [],.ak []]) ?_ rfl rfl ?_) eu]
 rotate_left
 ·simp[rh,l1]
 ·rw[WE (an8 _ _) atc (by rw[abJ 9]),a5h,an7]
 refine bp (ο 7) _ (by simp;rfl) (fS ?_);rw[←GW];unfold aad
 simp
def a7B:OW Y (l_ Y):=by
 rw[eV ⟨aK l_,c! r h,cG p r h,aK l_,aK l_,aK l_,aK l_,cG x t h,mE x y t t' h⟩ (gh Due l_) (cG x t h)]
 ·rcases h with h | h<;>simp[l_]at h
 ·simp[l_,List.getElem?_replicate]at h
 ·simp[l_,Oc]at h
 ·simp[l_,Oc]at h
 ·simp[l_,Oc]at h
def start eS:tE C Y (lh C.aT 0 Y.ps Y.ss Y.rs Y.wait++aad Y) (KB Y) (l_ Y) o0 8:=by
 refine⟨⟨rfl,rfl,?_,rfl,rfl,rfl,λi hi=>by rw[dz o0 (if_pos hi)],c! i hi,aK KB,aK KB⟩,Jc rfl rfl aZ rfl rfl,a7B,⟨?_,aK KB,aK KB,aK KB,gh l_ anc,?_,?_,aK KB,rfl,rfl,rfl⟩,c! i hi,aK l_⟩
 ·show aY (fB.lst (Y.ps.map λ_=>aj.str "straight"))=ET ((aDL).map kG);rw[auJ]
 ·have:11≤i:=hi;rw[dz o0 Ö]
 ·intro p hp;simp[l_,KB,Oc,List.getElem?_replicate,hp]
 ·intro p hp uY
  have e:pA (l_ Y).points p true:=by
   show abh[p]? = _;rw[iU anc gI (va hp)];have:aO (uU (Ü p)):=uY;simp[this]
  rw[e];show _=aY aDL[p]?;rw[gI,va hp];rfl
 ·intro s r;simp[KB,l_,Oc]
 ·rw[dz o0 (sr (by rcases hi with rfl | rfl | rfl | rfl | rfl<;>omega))]
universe zE
universe Sb
universe zE
section
namespace Sb
open PySem L2
section
variable (C:eE)
abbrev Uh gc dF PC:Prop:=M[0]? = Ey (Bg Y t)
abbrev axi cZ:Prop:=∀Y e o M B p8,YM->Hl->g [ο 0,η i] M=BU (Ln i) .ok .ah g_
abbrev axh cZ:Prop:=∀Y e o M B p8,YM->Hl->g [ο 0,η i] M=Sg .ok .ah
abbrev axj cZ:Prop:=∀Y e o M B p8,YM->Hl->g [ο 0,η i] M=Ĭ i .ok .ah
abbrev axk cZ:Prop:=∀Y e o M B p8,YM->Hl->g [ο 0,η i] M=æ i .ok .ah
abbrev aKf cZ:Prop:=∀Y M t dZ,Uh C Y M t->jZ->g [ο 0,η r] M=.ok (η b_) M
abbrev TC cZ:Prop:=∀Y M t dZ,Uh C Y M t->jZ->g [ο 0,η r] M=.ok g4 M
abbrev amS cZ:Prop:=∀Y M t qS,Uh C Y M t->ED->wc->g [ο 0,η s] M=.ok (.ai lH) M
abbrev ayC cZ:Prop:=∀rZ M,g agd M=.ok (.ai (uU p)) M
abbrev aIR cZ:Prop:=∀M p s,g [fj.enc p,bk s] M=.ok (kG (KH p s)) M
abbrev aal cZ:Prop:=∀jY aoe M,EE->g [h!,η a,η x] M=.ok (.ai (AM x).isNone) M
abbrev aeV cZ:Prop:=∀jY aoe M,EE->g [h!,η a,η x] M=.ok (bl (AM x)) M
abbrev aJM cZ:Prop:=∀xE M',Ep M' = Er->Eo M' = Hp->Lq->g [lJ] M'=.ok (bX Sf) M'
abbrev aKo cZ:Prop:=∀Y o M B p8,vn->(ajl q q.2)->Hl->g [ο 0,η i] M=Sg .ok (fY (Vg i))
abbrev ayA cZ:Prop:=∀Y o M B vg,vn->(ajl q q.2)->az9->vB->g [ο 0,η p] M=aqk (zT||JQ) M (.ok .ah M)
abbrev awK cZ:Prop:=∀Y M tk xE,Uh C Y M tk->ED->Ep M = Er->Eo M = Hp->Xq->g [ο 0,lJ] M=.ok (bl ab6) M
abbrev aJG cZ:Prop:=∀Y o M B qS,vn->ED->(agm q (q.2.tr.steps≠[]))->g [ο 0,η s] M=.ok (fY (ú Y s)) M
abbrev aHJ cZ:Prop:=∀dF(u:Int)(v:aj),g [gC,η u,v] (M++[dB C.fa []])=.ok .ah (M++[dB C.fa [AQ u,Ņ v]])
abbrev anO cZ:Prop:=∀Y e o M B w,YM->af3->(apw Hs)->aij (g [ο 0,cv w] M=.ok .ah M') M' B w (Cs/\xO/\∀i,i≠1->M'[i]? = M[i]?)
abbrev ay0 cZ:Prop:=∀Y,aGV C Y g
abbrev aKq cZ:Prop:=∀M:aL,g [gC] (M++[tS []])=.ok .ah (M++CF::[ς [],ς []])
abbrev aKn cZ:Prop:=∀s M,g [bk s] M=.ok (bk Rb) M
abbrev ayB cZ:Prop:=∀Y,ED->aDC 16->ayQ C Y g
abbrev k? cZ(w:gn)(arg:Int->Int->fZ):Prop:=∀Y M B W o Lf,tN->vn->Hq->Lj->Hl->Ei->KY C Y o M W (g (arg i x) M) w i x
variable {C}
variable {Y:eJ}{o:dg}{M:aL}{B:cI}{W:bL}{ρ:ej}
def anx:aKf C (alH C.aT):=λY M t r h hr=>by
 rw[nv alH q (q=.ok (η b_) M)];rw[vS e (OO h (ρ:=[aM,b6]) (d:=aq) rfl aec) (Cr (η b_) M (gh e (Go hr)))]
def aeQ:TC C (al1 C.aT):=λY M t r h hr=>by
 rw[nv al1 q (q=.ok g4 M)];rw[vS e (OO h (ρ:=[aM,b6]) (d:=aq) rfl aec) (Cr g4 M (gh e (Go hr)))]
def a2j UQ(hb:aeV bN):aal (avP bN):=λps a x M hl=>lL (Y:=⟨ps,[],[],0⟩) (λa x=>hb ps a x M hl) a x
def a3j UQ(hb:aal bN):amS C (alE C.aT bN):=λY M t s h hl hs=>by
 rw[nv alE q (q=.ok (.ai lH) M)];rw[i6 e1 (OO h (ρ:=[aM,fc,none]) (d:=aq) rfl awr) e2 (OO h (ρ:=[aM,fc,aY XG]) (d:=aq) rfl Gi) (se XG (gh e1 (TX hs)))];rw[vS acL (fun(a:Nat) (aS x)=>hb Y.ps a x M hl) (Cr (.ai lH) M (by simp[e2,e9,acL,A3]at e2⊢))]
def aKZ:ayC nz:=λp M=>adf p
def aK0:axi C (aET C.dK C.aT dE):=λY e o M B i h hi=>acX h hi
def a3k:axh C (aEU C.dK C.aT dE):=λY e o M B i h hi=>acY h hi
def aK1:axj C (aEO C.dK C.aT dE):=λY e o M B i h hi=>acP h hi
def a3l{bK dM:D1}(hc:axh C bK)(hp:ayC dM):axk C (avx C.dK C.aT bK dM):=λY e o M B i h hi=>acU h hi (hc Y e o M B i h hi) (λp=>hp p M)
def a3m:aJM C (avt C.tr):=λt M h1 h2 h3=>Y? h1 h2 h3
def aK2{bK f5:D1}aMN:aKo C (alx C.aT bK f5):=λY o M B i h hl hi=>aUI h (hc Y _ o M B i h hi) hu hl
def wx br(h:Iq n):rT gi:=Ų
def a3n UR(ht:aKo C gt):ayA C (avo C.he C.aT gt):=λY o M B p h hl Zd hp=>by
 refine acJ (ti:=λp=>JQ) h (c! q hq) hp XO;rw[uK (ht Y o M B q h hl XO) (ahf hq)];rw[bQ _ this (by dsimp only;cases Vg q<;>rfl)]
def a3o{dM:D1}(hp:ayC dM):aIR (avU dM):=λM p s=>ady (λp=>hp p M) p s
def a3p UQ(hb:aeV bN):awK C (avv C.tr C.aT bN):=λY M tk t h0 hl h1 h2 aU=>acS h0 h1 h2 aU λa j=>hb Y.ps a j M hl
def a30{ga:D1}(ha:awK C ga):aJG C (mr C.aT ga):=λY o M B s h hl aU=>kt h aU λt M' h0 h1 h2 h3=>ha Y M' _ t h0 hl h1 h2 h3
def a31:aHJ C (avI C.fa):=λM u v=>adh
def ayS:anO C (Zw C.aT):=λY e o M B w h hn hl=>adO h hn hl
def a33:axU C Y (Zw C.aT):=λo M B w a h hn hl ha h1=>aWc h hn hl ha h1
def a34:ay0 C (avw C.dK C.aT):=λY o M B x h hx=>acT h hx
def a35:aKq C (avG C.tr):=λM=>adb
def a36:aKn sk:=λs M=>adL s
def a37{bN gs:D1}(hb:amS C bN)aoG:ayB C (ac4 C.fa C.rd C.aT bN gs):=λY hl hss e o M B x s h hx gU g8=>
 ade h hx XO g8 (λM' r h0 hr=>hs Y M' _ r h0 hr) (λM' h0=>hb Y M' _ s h0 hl gU)
def a38{f5:D1}(hu:anO C f5):ax3 C Y (avV C.tr f5):=λx o M B t s a h T ha hl gU=>
 oT h T ha hl gU λM B h hl=>hu Y _ o M B [s] h Θ (a! hl)
def a39{gs bU bK:D1}aoG abb azo:aeI C Y (la C.tr C.aT gs bU bK):=λx o M B t r s w h T hr fN i? hl gU=>
 ac0 h T hr fN i? hl gU (λM' r h0 hr=>hs Y M' _ r h0 hr) (λM' r h0 hr=>hw Y M' _ r h0 hr) hc
def aP8 Hf{q:Int×TB}(hq:asy q):cu (B6 q.1) q.2.tr:=by
 rw[Õ (au3 (q:=(q.1,q.2.tr)) I.kH ?_) S.trains (lP q hq)]
def an9 eS Hf:ajl q q.2:=vH (by
 have:=I.ae6 (aP8 I S hq);rw[eg G.g.eY])
def a5i Hf:agm q (q.2.tr.steps≠[]):=vH (JY (aP8 I S hq)).ne
def a44 Hf:ajW:=by
 have:=I.kH;rw[S.trains,al7]at this;rw[zV]
def a4a eS Hf:∀x∈arh,Vb x:=yX (by
 rw[U! r hr ((aix _).mp hx)];rw[yg ((S.greens x r).mp hr)];rw[cA h2 (G.sg (I.avb h1))])
def J7.le eS:ED:=by rw[eg G.g.eY]
def a4b{bK bU g7 gl gs:D1}(hc:axi C bK)abb(hn:ayA C g7)(hl:aIR gl)aoG:k? C (ac1 C.aT bK bU g7 gl gs) jR (λi _=>[ο 0,η i]):=λY M B W o i x G h f S hi hx=>
 a3i G f S (adi (ti:=λp=>JQ) h G.c7 G.g.eY G.g.Bk (qf Ni) S.DY S.DZ S.tv S.o3 (a4a G f.I S) (hc Y _ o M B i h hi) (qf (hw Y M _ r h.y0 hr))
  (jQ (hn Y o M B p h (an9 G f.I S) G.g.eY hp)) hl (λM B r h hr=>hs Y M _ r h.y0 hr))
def aYl aMO(hc:axi C bK)aoG(ht:aJG C gt)(hb:amS C bN)(hf:aHJ C pX)(hu:anO C f5)abb:k? C (Zv C.fa C.dK C.aT bK gs gt bN pX f5 bU) jA (λi _=>[ο 0,η i]):=λY M B W o i x G h f S hi hx=>
 aYx G f S (adN h hi G.c7 f.I S G.len (qf Ni) (hc Y _ o M B i h hi) (λM B r h hr=>hs Y M _ r h.y0 hr) (λM B' s h hB gU=>by rw[cA hB (ht Y o M B' s h G.le (by rw[au hB (a5i f.I S)]))]) (λM B s h gU=>hb Y M _ s h.y0 G.le gU) hf (λM B w h=>hu Y _ o M B w h) (λM B r h hr=>hw Y M _ r h.y0 hr))
def a0A{bK g7:D1}(hc:axk C bK)(hn:ayA C g7):k? C (adt C.aT bK g7) kT (λi _=>[ο 0,η i]):=λY M B W o i x G h f S hi hx=>
 a0y G f S (ad3 (ti:=λp=>JQ) h S.tv (hc Y _ o M B i h hi) (jQ (hn Y o M B p h (an9 G f.I S) G.g.eY hp)))
def a1X{f5 bU:D1}(hu:anO C f5)abb:k? C (xp C.fa C.aT f5 bU) iF (cQ _ [ο 0]):=λY M B W o i x G h f S hi hx=>
 a2h G f S (ael h G.c7 f.I S f.D G.len (λM B w h=>hu Y _ o M B w h) (λM B r h hr=>hw Y M _ r h.y0 hr))
def a0B{alh bN oP N_ dM:D1}(hk:axj C alh)(hb:amS C bN)(hr:ayB C oP)(l8:aKq C N_)(hp:∀Y,aeI C Y dM):k? C (awn C.he C.dK C.tr C.aT alh bN oP N_ dM) jr (λi x=>[ο 0,η x,η i]):=λY M B W o i x G h f S hi hx=>
 ad4 h hx hi G.c7 f.I S G.g.eY (qf (pL).ne) (hk Y _ o M B i h hi) (r! (hb Y M _ s h.y0 G.le hs)) (hr Y G.le G.g.Bk) l8 (hp Y)
def a45{gt bK bN dM oP ga:D1}aoP(hc:∀Y,ax3 C Y bK)(hb:aal bN)(hp:∀Y,aeI C Y dM)(hr:ayB C oP)(hr0:∀M gz,Ei->oP [ο 0,η x,.ah] M=bW C.rd M)(ha:awK C ga):k? C (FX C.rd C.tr C.aT gt bK bN dM oP ga) .go (cQ x [ο 0,η x]):=λY M B W o i x G h f S hi hx=>
 aaq h hx G.c7 f.I S G.g.eY (qf (pL).ne) (ht Y) (hc Y) (λa j=>aiM a j M) (hp Y) (hr Y G.le G.g.Bk) (hr0 M x hx) (λt h1 h2 h3=>ha Y M _ t h.y0 G.le h1 h2 h3)
def a1Y UR aoP:k? C (awA C.he C.tr C.aT gt) kn (cQ x [ο 0,η x]):=λY M B W o i x G h f S hi hx=>aem h hx f.I S (ht Y)
def a1Z{gt f5 gd:D1}aoP(hu:∀Y,axU C Y f5)(hd:aKn gd):k? C (awB C.fa C.rd C.tr C.aT gt f5 gd) jP (cQ x [ο 0,η x]):=λY M B W o i x G h f S hi hx=>Z6 h hx G.c7 f.I S G.g.eY (ht Y) (hu Y) hd
structure awJ(C:eE)az2:Prop where
 a0:k? C g0 jR (λi _=>[ο 0,η i])
 a1:k? C g1 jA (λi _=>[ο 0,η i])
 a2:k? C g2 kT (λi _=>[ο 0,η i])
 a3:k? C g3 jr (λi x=>[ο 0,η x,η i])
 a4:k? C rF iF (cQ _ [ο 0])
 a5:k? C rG .go (cQ x [ο 0,η x])
 a6:k? C rH kn (cQ x [ο 0,η x])
 a7:k? C rI jP (cQ x [ο 0,η x])
def awJ.all aoY aLJ Pc eS p_ afG BI xw:KY C Y o M W (aDX g0 g1 g2 g3 rF rG rH rI w i x M) w i x:=by
 cases w with
 |set=>exact A.a0 Y M B W o i x G h f S hi hx
 |cancel=>exact A.a1 Y M B W o i x G h f S hi hx
 |throw=>exact A.a2 Y M B W o i x G h f S hi hx
 |enter=>exact A.a3 Y M B W o i x G h f S hi hx
 |tick=>exact A.a4 Y M B W o i x G h f S hi hx
 |go=>exact A.a5 Y M B W o i x G h f S hi hx
 |draw=>exact A.a6 Y M B W o i x G h f S hi hx
 |turn=>exact A.a7 Y M B W o i x G h f S hi hx
universe zE
universe Sb
universe zE
end
mutual
section
namespace Sb
open PySem L2
structure aYm(d:QO):Prop where
 nd:Nv
 ne:A1 d (q.2.steps≠[])
 sl:A1 d (tR (aNM q.2))
 tl:d.length≤90
abbrev aIT cZ:Prop:=∀Y M W j(p:Int),Ed->arT->g [ο 7,η p] M=.ok (fY AL) M
abbrev aH4 cZ:Prop:=∀Y M W j vg,Ed->arT->aqt p->g [ο 7,η p] M=.ok (.ai (oX W p)) M
abbrev aHS cZ:Prop:=∀Y M W j dZ,Ed->aO6->g [ο 7,η r] M=.ok .ah ((M++MU (oB).map).set 7 (.ak (Wa Y)))
abbrev ayx cZ:Prop:=∀Y M W j qS,Ed->arT->wc->g [ο 7,η s] M=.ok (hV CU) M
abbrev aIS cZ:Prop:=∀Y,tN->ayl Y g
section
variable {C:eE}{Y:eJ}{o:dg}{M:aL}{B:cI}{W:bL}{j:Nat}
def tok az6:arT:=by
 have Zd:=G.g.eY;refine⟨I.kH,vH (JY auK).ne,c! q hq,?_⟩
 ·rw[eg (I.ae6 auK)]
 ·rw[eg I.aD4]
def a4c:aIT avH:=λY M W j p h T=>J! h T.nd T.sl (e! T.tl)
def a4d UR(ht:aIT gt):aH4 (av5 gt):=λY M W j p h T hp=>adQ h hp (ht Y M W j p h T)
def a4e:aHS av6:=λY M W j r h hl=>ZQ h hl
def aK3:ayx (trunc av7):=λY M W j s h T hs=>adR h hs T.nd T.ne (e! T.tl)
def a4f:aIS al2:=λY G M W j x s h Bw s8 By rQ=>pf h Bw (qf (pL).ne) (qf akA) s8 By rQ
structure aIM p5 az2:Prop where
 jC:∀M B W o j Lf,tE C Y M B W o j->atF i->q1 (g0 [ο 7,η i] M) jR
 l1:∀M B W o j Lf,tE C Y M B W o j->atF i->q1 (g1 [ο 7,η i] M) jA
 l2:∀M B W o j Lf,tE C Y M B W o j->aO (Hy i)->q1 (g2 [ο 7,η i] M) kT
 l3:∀M B W o j Lf,tE C Y M B W o j->aO (LP i)->q1 (g3 [ο 7,η x,η i] M) jr
 l4:∀M B W o j Lf,tE C Y M B W o j->q1 (rF [ο 7] M) iF
 a6O:∀M B W o j Lf t,tE C Y M B W o j->dG=eU->q1 (rG [ο 7,η x] M) .go
 a6P:∀M B W o j Lf t,tE C Y M B W o j->dG=eU->q1 (rH [ο 7,η x] M) kn
 a6Q:∀M B W o j Lf t,tE C Y M B W o j->dG=eU->q1 (rI [ο 7,η x] M) jP
def a6R{A6 g7 bN pX dM:D1}eS(hh:aH4 A6)(hn:ayx g7)aaY(hf:aHS pX)(hp:aIS dM):
  aIM C Y (rn A6) (ac7 g7 bN pX) (adl A6) (avW bN dM) (av8 pX) (awC bN dM) av9 awa:=by
 rw[fu Zd G.g.eY hb' (∀M aoe,bN [kN,η a,η x] M=.ok (bl (R? x)) M) (λM a x=>aiM a x M)];refine⟨λM B W o j i x s hn=>?_,λM B W o j i x s hk=>?_,λM B W o j i x s hk=>?_,λM B W o j i x s hk=>?_,λM B W o j i x s=>?_,λM B W o j i x t s ht=>?_,λM B W o j i x t s ht=>?_,λM B W o j i x t s ht=>?_⟩
 ·rw[z9 r hr hn];rw[vS K (Vv G) (a2i hr (ZZ s.w G.c7 G.g.eY G.len hr akA s.f.I.ln s.S.fP K.gl (jQ (hh Y M W j p s.w (ę G) hp))))]
 ·rw[z9 r hr hk];rw[vS K (Vv G) (aWj hr (lx s.w hr Ni K.gl K.fl (λM W' k h hW hk=>by rw[cA hW (hn Y M W' j k h (by rw[au hW (ę G)]) hk)]) hb' (λM W h hl=>hf Y M W j r h aD) s.f.I.ln))]
 ·rw[z9 p zF hk];rw[n9 (Tx zF (adz s.w zF s.f.I.ln (dJ uY) (hh Y M W j p s.w (ę G) (by rw[au s.f.I.ln zF])))) hl (ar5 p) (by rw[au s.S.tv zF])]
  rw[cB B.lying[p] (kU (s.S.Bj p zF uY) S2)]
 ·rw[z9 r hr hk];exact adA s.w (Vv G) hr hb' (hp Y G)
 ·exact adS s.w s.f.I.zA (Vv G).fl s.f.I.ln (λM W j r h hl=>hf Y M W j r h aD)
 ·exact aen s.w (Vv G) ht hb' (hp Y G)
 ·exact adT s.w (Vv G) ht
 ·refine Tj s.w (Vv G) s.f.I.zA (c! q hq) ht;rw[s.S.falls]at hq;rw[aqo u rfl hq];show gE u.2.f7.toList 100;cases u.2.f7<;>simp
def a10 aNa(ht:∀M W j D4,Ed->gt [ο 7,aE w.s,η i,η x] M=.ok (.ai (w6 Y W w i x)) M)(L:aIM C Y g0 g1 g2 g3 rF rG rH rI):anw C Y (awb gt g0 g1 g2 g3 rF rG rH rI):=λM B W o j w i x s=>
 adU (ht M W j w i x s.w) (L.jC M B W o j i x s) (L.l1 M B W o j i x s) (L.l2 M B W o j i x s) (L.l3 M B W o j i x s) (L.l4 M B W o j i x s) (λt=>L.a6O M B W o j i x t s) (λt=>L.a6P M B W o j i x t s) (λt=>L.a6Q M B W o j i x t s)
def a46:∀c∈([0,101,102,103,104,100,-3,-5,3,999999,7]:fD),rT c:=by
 rw[VH y hy hy];rw[Ś rT]
universe zE
universe Sb
universe zE
section
namespace Sb
open PySem L2
abbrev Zh gc dZ:Nat:=((b3).headD (0,0,0)).1
structure a47 kL:Prop where
 lk:∀p r,Ĺ p r->Wu (s.1=p->JO->z! W.points p (aY (tm Y.ps s)))
 tr:∀x t,dG=eU->Wh (aqd s.1->z! W.points s.1 (aY (tm Y.ps s)))
 hd:∀r,Ĺ (Zh Y r) r->xJ
section
variable {Y:eJ}{W:bL}
def Kp:a47 Y (l_ Y):=by
 rw[W7 h (∀p r:Nat,¬(pA (l_ Y).locks p r)) (λp r h=>by
  have h:pA (vt (none:fF)) p r:=h;rw[aAP h];split at h
  ·cases h
  ·cases h) (λp r e=>WI e (h p r)) (λx t hx=>(by cases hx)) (V4 r e e (h _ r))]
universe zE
universe Sb
universe zE
section
namespace Sb
open PySem L2
section
variable {C:eE}{Y:eJ}{o:dg}{M:aL}{B:cI}{W:bL}{j:Nat}{ρ:ej}
structure xt p5 dF o9 ly(o:dg):Prop where
 y:vn
 f:Hq
 S:Lj
def xt.keep afw UP aLR:xt C Y M' B W o:=⟨d.y.keep hl h1,d.f,d.S⟩
def xt.app afw(G:aL):xt C Y (M++G) B W o:=d.keep Θ (aAE i hi _ hi)
abbrev aQw kL qS:Bool:=W.green.any (pB r (b_=s))
structure ayD p5(O5 avd O6 avc ava:D1):Prop where
 lk:∀M B W o vg,xt C Y M B W o->vB->O5 [ο 0,η p] M=.ok (bl (ago p)) M
 aef:∀M B W o gz t,xt C Y M B W o->Ei->dG=eU->avd [ο 0,η x] M=.ok (bX aBv) M
 ti:∀M B W o vg,xt C Y M B W o->vB->O6 [ο 0,η p] M=.ok (fY AL) M
 alQ:∀M B W o vg b,xt C Y M B W o->vB->JO->pA W.points p b->avc [ο 0,η p] M=.ok (kG b) M
 oP:∀M B W o qS,xt C Y M B W o->wc->ava [ο 0,η s] M=.ok (.ai (aQw Y W s)) M
def a4g{bK f5 gt dM gs:D1}eS aMN aoP(hq:axk C dM)(hs:axj C gs):ayD C Y (avu C.aT bK) (aE4 f5 gt) (alx C.aT bK f5) (aFc C.aT dM) (mx C.aT gs):=by
 rw[ahU Zd G.g.eY hss G.g.Bk ⟨M6 M B W o p s hp,λM B W o x t s hx ht'=>?_,M6 M B W o p s hp,λM B W o p b s hp acO hb=>?_,M6 M B W o k s hk⟩]
 ·have:=aWa (i:=aS p) s.y (hc Y _ o M B p s.y XO);rw[aA1 (ahf hp) this];rw[this,List.getD_eq_getElem?_getD,s.S.locks p hp];rfl
 ·rw[Mh e (aZP s.y (a44 s.f.I s.S) (an9 G s.f.I s.S) (ht Y o M B x s.y hx) hu) h1 s.S.trains h2 (dG=(nr).map (·.tr)) (by rw[h1,ZF];rfl)]
  rw[ht']at h2;cases h3:nr with
  |none=>rw[h3]at h2;cases h2
  |some q=>
   rw[h3]at h2;rw[h3]at e;cases h2;exact e
 ·have:=(aK2 hc hu) Y o M B p s.y (an9 G s.f.I s.S) XO;rw[ahf hp,←ax8 s.S]at this;rw[zV]
 ·have hn:aO (HW (aS p)):=by rw[mJ ac6 (avm hp) Int.toNat_natCast acO];rfl
  have:=a2A (i:=aS p) (bK:=dM) s.y s.S.tv (hq Y _ o M B p s.y XO);rw[aA1 (if_pos hn) this];rw[this];rw[fJ h (s.S.Bj p hp acO) hb h];rw[List.getD_eq_getElem?_getD,←U1];rfl
 ·have:=aUH (i:=aS k) s.y (hs Y _ o M B k s.y XO);rw[aA1 (ahf hk) this];rw[this]
  congr 2
  rw[mJ aQw Bool.eq_iff_iff Option.isSome_iff_exists List.any_eq_true];constructor
  ·rintro⟨r,hr⟩;rw[abP h1 h2 ((s.S.greens k r).mp hr) r h1 aO8]
  ·rintro⟨r,h1,h2⟩;rw[cB r ((s.S.greens k r).mpr ⟨h1,agf⟩)]
universe zE
universe Sb
universe zE
section
namespace Sb
open PySem L2
section
variable {C:eE}{Y:eJ}{o:dg}{M:aL}{B:cI}{W:bL}{j:Nat}{ρ:ej}
universe zE
universe Sb
universe zE
section
namespace Sb
open PySem L2
section
variable {C:eE}{Y:eJ}{o:dg}{M:aL}{B:cI}{W:bL}{j:Nat}{ρ:ej}
universe zE
universe Sb
universe zE
section
namespace L2
open PySem
universe L2
namespace Sb
open PySem L2
abbrev a4h(L:Nat)(rs:xH):fZ:=(rs.zipIdx L).map λq=>aQ [η q.1.1,ο q.2]
section
variable {C:eE}{Y:eJ}{o:dg}{M:aL}{B:cI}{W:bL}{j:Nat}{ρ:ej}
abbrev a5M:akZ Bool:=cQ b (.ai b)
structure a7X gc dF(d:BR Bool)K5:Prop where
 len:M.length<M'.length
 old:apH i (M'[i]? = M[i]?)
 gd:M'[M.length]? = Qz .ak a5M d
 wy:Lr (qZ M' (kh+r) ((b3).map bk))
 ls:qZ M' (kh+Y.rs.length) (a4h kh Y.rs)
universe zE
universe Sb
universe zE
section
namespace Sb
open PySem L2
section
variable {C:eE}{Y:eJ}{o:dg}{M:aL}{B:cI}{W:bL}{j:Nat}{ρ:ej}
universe zE
universe Sb
universe zE
section
namespace Sb
open PySem L2
section
variable {C:eE}{Y:eJ}{o:dg}{M:aL}{B:cI}{W:bL}{j:Nat}{ρ:ej}
abbrev ZI:ow tC
 |.ok=>true
 |_=>false
def adC aoY{wN:Addr}eS aLJ:
  anb C Y (aFH wN C.he C.dK C.rd g0 g1 g2 g3 rF rG rH rI) λk=>.ai (ZI k):=λM B W o w i x h f S hi hx=>by
 have T:=aZI (wN:=wN) (A.all (w:=w) G h f S hi hx);rw[Fp aFH q (aKY C Y o M q (jB Y W w i x) (λk=>.ai (ZI k)) λB'=>avB Y (uS Y W w i x) B') (VR .ah rfl)];rw[wG ?_];show GB _ _ (DK [wN,C.dK,C.he,C.rd] 4 5 (afd g0 g1 g2 g3 rF rG rH rI) (xe w i x .ah) M);rcases T with⟨hk,M',o',B',e,h1,h2,h3⟩ | ⟨hk,e⟩
 ·rw[ia e (MX (ju .ai) M' (Ω ⟨hk,M',o',B',?_,h1,h2,h3⟩))];rw[cC hk]
 ·rw[ia e (MX (qa .ai) (M++[fB.exc (Ts C (jB Y W w i x))]) (aA ⟨hk,Ts C (jB Y W w i x),?_⟩))];cases eX:jB Y W w i x with
  |ok=>rw[nF eX hk]
  |none=>rfl
  |held=>rfl
  |red=>rfl
def tE.aT azB:xt C Y M B W o:=⟨s.y,s.f,s.S⟩
structure a7V kL(d:BR Bool):Prop where
 at':∀p b,b9 d p=nh->vB/\JO/\aO (oX W p)/\pA W.points p b
def awO{G:fB}{G':fB}:ajA (M++[G]).set G'=M++[G']:=by
 rw[List.set_append_right _ _ fe,Nat.sub_self];rfl
universe zE
universe Sb
universe zE
section
namespace Sb
open PySem L2
section
variable {C:eE}{Y:eJ}{o:dg}{M:aL}{B:cI}{W:bL}{j:Nat}{ρ:ej}
def a48 d6:qA false (η 2) (η k) M=.ok (η (2*k)) M:=aW4 (by rw[cC (Kg aZ aZ)])
def a49{a b c:Nat}{x y z:aj}:mR 3 (k6 (bP a) (k6 (bP b) (oG c))) (aQ [x,y,z]) ρ=sq ((EU a).set b C!).set c (some z):=rfl
abbrev aP9 cZ:Prop:=∀Y M,tN->M.length=6->g [kN,Rm,η Y.wait] M=.ok (ο 7) (M++aad Y)
def a4i azM:aP9 (awk oP):=λY M G h6=>ZY hr G h6
universe zE
universe Sb
universe zE
section
namespace Sb
open PySem L2
section
variable {P:Type} [V5]
noncomputable abbrev gy(P:Type):=P×eG
abbrev aab(acc l:lG):lG:=l.foldl (λacc x=>oi x.1 aqB acc (acc++[x])) acc
abbrev gH:nc->lG->lG
 |_,[]=>[]
 |S,x::l=>oi x.1 S (gH S l) (x::gH (x.1::S) l)
def aHN{S S':nc}(l:lG)(h:∀p,p∈S↔p∈S'):gH S l=gH S' l:=by
 induction l generalizing S S' with
 |nil=>rfl
 |cons x l ih=>
  simp only[gH,h x.1];rw[ih h,ih (S:=x.1::S) (S':=x.1::S') λp=>aK (h p)]
def aye(acc l:lG):aab acc l=acc++gH aqB l:=by
 induction l generalizing acc with
 |nil=>simp[aab,gH]
 |cons x l ih=>
  have e:aab acc (x::l)=aab (oi x.1 aqB acc (acc++[x])) l:=rfl;rw[e,gH];split
  ·rw[ih]
  ·rw[ih,List.append_assoc,List.singleton_append];rw[aHN (S:=gf (acc++[x]).map) (S':=x.1::aqB) l λp=>aK or_comm]
def aUD(T S:nc)(l:lG):AI (gH S l) (z_ x x.1 T)=gH (S++T) l:=by
 induction l generalizing S with
 |nil=>rfl
 |cons x l ih=>
  simp only[gH];rw[Ak (x.1∈S)]
  ·rw[EK,ah6 h1,ih]
  ·rw[mF EL h2 (x.1∈T)]
   ·rw[ah6 h2,aia h2,ih]
    exact aHN l λp=>by
     simp only[f9,List.mem_cons,List.mem_append];rw[cB (λh=>h.elim (dW (aA (e▸h2))) id) aA]
   ·rw[sr (gh h1 h2),atL h2,ih,f9]
def aIF(S:nc)(l:lG):gH S (aCr x x.1 S)=gH S l:=by
 suffices h:∀T:nc,(fT S (p∈T))->gH T (aCr x x.1 S)=gH T l from h S (cQ h h)
 induction l with
 |nil=>intro T _;rfl
 |cons x l ih=>
  intro T hT;rw[jt (x.1∈S)]
  ·rw[aia h,gH,jx (hT _ h),ih T hT]
  ·rw[atL h,gH,gH];split
   ·exact ih T hT
   ·rw[ih (x.1::T) (jQ (iA (hT p hp)))]
def TA{S:nc}{l:lG}{x:gy P}(h:x∈gH S l):x∈l/\x.1∉S:=by
 induction l generalizing S with
 |nil=>cases h
 |cons y l ih=>
  rw[gH]at h;split at h
  ·rw[cB (iA (ih h).1) (ih h).2]
  ·rename_i hn;rcases E_ with e | h
   ·subst e;rw[cB List.mem_cons_self hn]
   ·rw[Ac (iA (ih h).1) z ((ih h).2 (iA z))]
def a11{S:nc}{l:lG}{x:gy P}(h:x∈l):x.1∈S\/x.1∈gf (gH S l).map:=by
 induction l generalizing S with
 |nil=>cases h
 |cons y l ih=>
  rw[gH];rcases E_ with e | h
  ·subst e;split
   ·rename_i h;exact Ω h
   ·exact aA Θ
  ·split
   ·exact ih h
   ·rcases ih (S:=y.1::S) h with z | z
    ·rcases List.mem_cons.mp z with e | z
     ·exact aA IU
     ·exact Ω z
    ·exact aA (by simp only[bB,List.mem_cons];exact aA z)
def ayu(S:nc)(l:lG):z3 (gH S l).map:=by
 induction l generalizing S with
 |nil=>exact List.nodup_nil
 |cons y l ih=>
  rw[gH];split
  ·exact ih S
  ·rw[bB,List.nodup_cons];rw[iC IW (ih _)];rw[Ew x hx e h];exact(TA hx).2 (by rw[aBC e])
def TK{S:nc}aNe(l:lG):(gH S l).find? (λx=>b x.1)=arG x (b x.1):=by
 suffices h:∀T:nc,(fT T (aO (b p)->∃x∈([]:lG),True))->(gH T l).find? (λx=>b x.1)=arG x (b x.1) from h S λp hp e=>by rw[hS p hp]at e;cases e
 induction l with
 |nil=>intro T _;rfl
 |cons y l ih=>
  intro T hT;rw[gH,List.find?_cons];split
  ·rename_i h;cases e:b y.1 with
   |true=>obtain⟨x,hx,_⟩:=hT _ h e;cases hx
   |false=>exact ih T hT
  ·rw[List.find?_cons];cases e:b y.1 with
   |true=>rfl
   |false=>
    refine ih (y.1::T) (cG p hp e2);rcases aPB with z | z
    ·rw[z,e]at e2;cases e2
    ·exact hT p z e2
universe zE
universe Sb
universe zE
section
namespace Sb
open PySem L2
section
variable {P A:Type} [V5]
abbrev ZA à(en:p! P)(L:lG):lG:=L.flatMap (dW ((AI sO (nx e.1)).map λr=>(en r,e.2++[r])))
abbrev sX à(b:ow P)(en:p! P):C9 lG Sl
 |0,_=>none
 |k+1,L=>match at4 (λx=>b x.1) with
  |some e=>uD e
  |none=>sX n nx b en k (gH [] (Cu en L))
abbrev alX à aor(R:v_):v_:=R.flatMap (dW ((AI sO (nx (f e.1))).map λr=>(ls r,e.2++[r])))
abbrev ll(f:A->P):nc->v_->v_
 |_,[]=>[]
 |S,x::l=>oi (f x.1) S (tT l) (x::ll f (f x.1::S) l)
abbrev Ud à(b:ow P)aor:C9 v_ (nc->wm Sl)
 |0,_,_=>none
 |k+1,R,S=>if R.isEmpty then MN else match (Cy R).find? (λx=>b (f x.1)) with
  |iB=>Hw x.2
  |none=>Ud n nx b f ls k (tT (Cy R)) (S++(tT (Cy R)).map (J2 x x))
abbrev Gg(f:A->P)(x:gy A):gy P:=(f x.1,x.2)
def axW(f:A->P)(S:nc)(l:v_):(tT l).map (Gg f)=gH S (l.map (Gg f)):=by
 induction l generalizing S with
 |nil=>rfl
 |cons x l ih=>
  rw[ll,bB,gH];show _=oi (f x.1) S _ _;split
  ·exact ih S
  ·rw[bB,ih];rfl
def aws à aor(R:v_):(Cy R).map (Gg f)=Cu (AF (ls r)) (ach f):=by
 unfold alX ZA;rw[List.map_flatMap,List.flatMap_map];simp only[List.map_map];rfl
def aHO br{nx:P->mj}{en:p! P}{S eZ:nc}(h3:fT eZ (∀r<n,aO (nx p r)->en r∈S))(L:lG):
  AI (Cu en L) (z_ x x.1 S)=AI (Cu en (L.filter (z_ x x.1 eZ))) (z_ x x.1 S):=by
 induction L with
 |nil=>rfl
 |cons e L ih=>
  unfold ZA at ih⊢;rw[List.flatMap_cons,List.filter_append,ih];rw[jt (e.1∈eZ)]
  ·rw[aia h];rw[List.filter_eq_nil_iff.mpr,fz];intro x hx;rw[q6 r hr hx];obtain⟨hr1,hr2⟩:=Vh;simpa using h3 _ h r (List.mem_range.mp hr1) hr2
  ·rw[atL h,List.flatMap_cons,List.filter_append]
def Fh{S:nc}aNe(l:lG):(aCr x x.1 S).find? (λx=>b x.1)=arG x (b x.1):=by
 induction l with
 |nil=>rfl
 |cons x l ih=>
  rw[jt (x.1∈S)]
  ·rw[aia h,List.find?_cons,hS _ h,ih]
  ·rw[atL h,List.find?_cons,List.find?_cons,ih]
def a0C{f:A->P}{b:ow P}(l:v_):(l.map (Gg f)).find? (λx=>b x.1)=(arG x (b (f x.1))).map (Gg f):=by
 rw[cC List.find?_map]
def aFi{U S:nc}(hn:S.Nodup)(h:fT S (p∈U)):S.length≤U.length:=by
 induction S generalizing U with
 |nil=>exact q4
 |cons x S ih=>
  rw[List.nodup_cons]at hn
  rw[fu h1 (ih (U:=U.erase x) hn.2 (jQ (by
   rw[RO p x e (hn.1 (e▸hp)) ((List.mem_erase_of_ne aU).mpr (h p (iA hp)))]))) h2 (x∈U) (aBT x)];rw[fu h3 (List.length_erase_of_mem h2) h4 (0<U.length) (List.length_pos_of_mem h2)];rw[n? zE]
structure DO à(b:ow P)aor(Kp:P)(L:lG)(R:v_)(S eZ:nc):Prop where
 r:ach f=L.filter (z_ x x.1 eZ)
 s:∀p,p∈S↔p∈eZ\/p∈R.map (J2 x x)
 cl:fT eZ (∀r<n,aO (nx p r)->f (ls r)∈S)
 nb:fT S (cW (b p))
 nd:S.Nodup
 sub:fT S (p=Kp\/∃r<n,p=f (ls r))
variable {n:Nat}{nx:P->mj}{b:ow P}{f:A->P}{ls:p! A}{Kp:P}{L:lG}{R:v_}{S eZ:nc}
def DO.pl afS{x:gy P}(h:x∈L):x.1∈S:=by
 rw[mF j.s h0 (x.1∈eZ)]
 ·exact Ω h0
 ·right
  have:x∈ach f:=by rw[au j.r (aOs h (aK h0))]
  rw[Ew y hy e this];exact ó y hy (by rw[Q4 e])
def DO.avC afS(m:Nat):sX n nx b (AF (ls r)) (m+1) L=sX n nx b (AF (ls r)) m (gH [] (Cu (AF (ls r)) L)):=by
 rw[sX]
 have:bR (at4 (λx=>b x.1)):=ap5 x hx (by rw[fy (j.nb _ (j.pl hx))])
 rw[this]
def DO.zA afS:(gH [] (Cu (AF (ls r)) L)).find? (λx=>b x.1)=((Cy R).find? λx=>b (f x.1)).map (Gg f):=by
 rw[TK (V4 p h h (List.not_mem_nil)),←Fh j.nb,aHO j.cl L,←j.r,Fh j.nb,←aws,a0C]
def DO.aQ8 afS(h:bR ((Cy R).find? (λx=>b (f x.1)))):
  DO n nx b f ls Kp (gH [] (Cu (AF (ls r)) L)) (tT (Cy R)) (S++(tT (Cy R)).map (J2 x x)) S:=by
 rw[č hm (((tT (Cy R)).map (J2 x x))=gf (gH S (Cu (AF (ls r)) (ach f))).map) (by
  rw[←aws,←axW,List.map_map];rfl) aas (∀{x:gy P},x∈Cu (AF (ls r)) (ach f)->cW (b x.1)/\∃r<n,x.1=f (ls r)) (by
  intro x hx;rw[Nd ?_]
  ·rw[←aws]at hx;rw[q6 y hy hx];have:=List.find?_eq_none.mp h y hy;simpa[Gg] using this
  ·rw[agw e he hx];rw[Mf r hr he (jy r (aBc Vh))]) ⟨?_,JE p,mE p hp r hr hx,uc,?_,uc⟩]
 ·rw[axW,aws,aUD,fz,←aIF S (Cu _ L),aHO j.cl L,←j.r,aIF]
 ·rw[List.mem_append];rcases(j.s p).mp hp with h0 | h0
  ·exact Ω (j.cl p h0 r hr hx)
  ·rw[q6 y hy h0];rw[hm];have:(f (ls r),y.2++[r])∈Cu (AF (ls r)) (ach f):=List.mem_flatMap.mpr ⟨Gg f y,List.mem_map_of_mem hy,lP r (aAU hr hx)⟩;exact a11 (S:=S) this
 ·rcases Sw with h0 | h0
  ·exact j.nb p h0
  ·rw[hm]at h0;rw[Mf x hx h0 (aas (TA hx).1).1]
 ·rw[List.nodup_append];rw[eV j.nd (by rw[au hm (ayu _ _)]) (mE p hp q hq e)];rw[yP e hm hq];rw[Mf x hx hq ((TA hx).2 hp)]
 ·rcases Sw with h0 | h0
  ·exact j.sub p h0
  ·rw[hm]at h0;rw[wu x hx h0 (aA (aas (TA hx).1).2)]
def DO.eY afS:S.length≤n+1:=by
 rw[Qe (asw U (Kp::(sO).map (AF (ls r))) j.nd (by
  rcases auy p with e | ⟨r,hr,e⟩
  ·rw[aBC e]
  ·rw[pe (iA (aOa r hr))]))]
def DO.empty(m:Nat):∀{L:lG}{S eZ:nc},DO n nx b f ls Kp L [] S eZ->bR (sX n nx b (AF (ls r)) m L):=by
 induction m with
 |zero=>intros;rfl
 |succ m ih=>intro L S eZ j;rw[au j.avC (ih (j.aQ8 rfl))]
def go_eq{U:nc}(hU:∀r<n,f (ls r)∈U)(h0:Kp∈U):∀(k m:Nat){L:lG}{R:v_}{S eZ:nc},DO n nx b f ls Kp L R S eZ->(R≠[]->n+2≤m+S.length)->(U.length+2≤k+S.length\/R=[]/\1≤k) →
  Ud n nx b f ls k R S=aY (sX n nx b (AF (ls r)) m L):=by
 intro k
 induction k with
 |zero=>
  intro m L R S eZ j _ hk
  rw[eg (asw U U j.nd (by
   rcases auy p with e | ⟨r,hr,e⟩
   ·rw[pe h0]
   ·rw[pe (hU r hr)]))]
 |succ k ih=>
  intro m L R S eZ j hm hk
  have hl:=asw U U j.nd (by
   rcases auy p with e | ⟨r,hr,e⟩
   ·rw[pe h0]
   ·rw[pe (hU r hr)])
  rw[Ud];cases R with
  |nil=>rw[jx (Fl (aO ([]:v_).isEmpty)),j.empty m]
  |cons x R=>
   rw[Q7 Θ];rw[cF hm (hm (aBu _)) hf j.eY];rw[ajC m rfl m' (m=m'+1) (ahl (m-1))];rw[j.avC];have e:=j.zA;cases hc:(Cy (x::R)).find? (λx=>b (f x.1)) with
   |some y=>
    rw[hc]at e
    rw[gq hb (aO (b (f y.1))) (a! (List.find?_some hc)) hy (¬f y.1∈S) (λh=>by rw[j.nb _ h]at hb;cases hb) g8 (S.length+1≤n+1) (by
     rw[Qe (aFi (U:=Kp::(sO).map (AF (ls r))) (S:=f y.1::S) (List.nodup_cons.mpr ⟨hy,j.nd⟩) (jQ (by
      rcases aPB with e | hp
      ·subst e;rw[agw e he (List.mem_of_find?_eq_some hc)];rw[wu r hr he (iA (lP r Vh.1))]
      ·rcases auy p with e | ⟨r,hr,e⟩
       ·rw[aBC e]
       ·rw[pe (iA (aOa r hr))])))])]
    rw[ajC m rfl m' (m=m'+1) (ahl (m-1))];rw[sX,e];rfl
   |none=>
    rw[dm j' (j.aQ8 hc) (ih m j' (dJ aU) ?_)]
    ·have:0<dR (tT (Cy (x::R))):=aAI;rw[Vm d9];omega
    ·have hk:U.length+2≤k+1+S.length:=hk.elim id λh=>nomatch h.1;rcases Nat.eq_zero_or_pos (dR (tT (Cy (x::R)))) with h0 | h0
     ·exact aA (ahl (List.length_eq_zero_iff.mp h0))
     ·left;rw[Vm d9];omega
universe zE
universe Sb
universe zE
end
mutual
section
namespace Sb
open PySem L2
section
variable {C:eE}{Y:eJ}{o:dg}{M:aL}{B:cI}{W:bL}{j:Nat}{ρ:ej}
def axb qQ gW{ns:eG}:JX (η (aS i)) (bX ns)=.ok (.ai (PR i ns i ns)) M:=
 Kl (enc:=Nn (n:Nat)) (λa=>mS a) (λa b e=>by injection e with e;omega) rfl
abbrev aac l!(cH:eG):Bool:=w.all (z_ s s.1 cH)
def Hn vh:Qk s 0=.ok (η s.1) M:=zm
def awe vh:Qk s 1=.ok (η s.2.1) M:=aeL
def rO vh:Qk s 2=.ok (η s.2.2) M:=aai
def lr{bU:D1}{r:Int}vj{cH:eG}(hw:bU [ο 0,η r] M=.ok (cv w) M)aoO:Td bU [ο 0,η r,bX cH] M=.ok (.ai (aac w cH)) M:=by
 rw[nv Td q (q=.ok (.ai (aac w cH)) M)];simp only[bB,zD,zE,gx,Nat.zero_add,Nat.reduceAdd,Nat.reduceSub,List.replicate,eP];rw[n9 (yl (.ai (aac w cH))) e (Ŭ (ĺ 2) (b5 (aB bU [aq,az])) (Jz Aa az) [aM,b6,i0 cH] M=.ok (ς ((aCs s s.1 cH).map bk)) M) (by
  rw[VQ w w M bk (HQ s s.1 cH) bk (j8 [y,i0 cH]) (ig (aK hw)) (nu s) Rd]
  ·exact cc (by rw[ni (ajU hl)])
  ·rw[uo y hρ];refine t8 _ lT ?_ wC;rw[dD,ao,ao];show((xR (Qk s 0).bind (Ć x (bX cH) aa))).bind _=_;rw[Hn,ag,axb,ag];rfl)]
 rw[ao,bV,aJ,e];rw[wD bq];rw[show fM [ς ((aCs s s.1 cH).map bk)] M=.ok (η (dR (aCs s s.1 cH))) M by simp[fM]];rw[ag,bb,ag,rE]
 congr 2
 rw[dz aac Bool.eq_iff_iff];simp[List.all_eq_true,List.filter_eq_nil_iff]
def ayv gB aMZ(hn:n≤4194304):jG [d] ρ M=.ok (JI (sO).map,none) M:=by
 have e:CZ [d] M=.ok [η gi] M:=by rw[aJ,h];rfl
 rw[MD jG e ag]
 have aEs:aBi (aS 2 ^ 62):=aCY
 rw[FP aEs Ų];rw[show(gi).toNat=n from Int.toNat_natCast n]
 have:qM 0 n=JI (sO).map:=by
  unfold qM
  exact List.map_congr_left λk _=>Θ
 rw[this]
universe zE
universe Sb
universe zE
section
namespace Sb
open PySem L2
section
variable {C:eE}{Y:eJ}{o:dg}{M:aL}{B:cI}{W:bL}{j:Nat}{ρ:ej}
abbrev tJ gc dZ:rC:=(b3).headD (0,0,0)
abbrev OG gc(p:Nat×Int)dZ:Bool:=ue (cu vO (tJ Y r).1) ((tJ Y r).2.1=p.2)&&XQ [p.1]
def awz dj(l:eG):pg (bX l):=axD (yX (by
 rw[XZ k hx aZ9]))
def axc d6 gB{l:fZ}gX(hk:aj4 k)(hd:CZ [d] (M++[ς l])=.ok [x] (M++[ς l]))(hl:l.length<lim):qx sS (ae k) [d] ρ (M++[ς l])=.ok .ah (M++[ς (l++[x])]):=by
 rw[aki (vY hk) (ZN (o:=ς l)) [x] hd];unfold sS l7;simp only[ZN];rw[at8,L2.awO]
def aK4(q:fF×Int):zS (aQ [bl q.1,η q.2]):=by
 rw[VH y hy hy];rcases hy with rfl | rfl
 ·cases q.1 with
  |none=>exact Ol
  |some n=>exact mS _
 ·exact mS _
def a12{a b:fF}{i k:Int}:RG (bl a) (η i)=RG (bl b) (η k)↔a=b/\i=k:=by
 constructor
 ·intro h;simp only[aj.tup.injEq,List.cons.injEq,and_true,aj.int.injEq]at h;rw[iC ?_ h.2];have h1:=h.1;cases a<;>cases b<;>simp[bl]at h1
  ·rfl
  ·rw[Int.ofNat.inj h1]
 ·rintro⟨rfl,rfl⟩;rfl
def adj{bN bU N_:D1}vh{us:eG}(h0:∀G,(M++G)[0]? = Ey HE)(DM:ED)(hb:aeV bN)abb
  (hi:∀M dZ cH,aiA C Y M->jZ->N_ [ο 0,η r,bX cH] M=.ok (.ai (XQ cH)) M)ao5(avi:us.length≤4194304):
  Rl (alJ C.aT bN bU N_) [ο 0,bk s,zU]=.ok (bX (LU (s.1,s.2.2))) M:=by
 refine My (awz _ _);rw[Fv alJ (∃G,q=.ok (bX (LU (s.1,s.2.2))) (M++G))]
 rw[ur f0 (aiA C Y M) (by rw[HS (h0 []) eP]) fp (∀U0,rj 0 aM->aiA C Y M->lW C.aT "pieces" aq ρ M=.ok kN M) (λρ M h1 h2=>by
  exact OO h2 (vY h1) Gi) (rm (bl Cw) M)]
 ·simp only[bV,aJ,bq,ao,av,bb,aX,aW,ag,fp [aM,kq,i0 us,none,none,none,none] M rfl f0,Hn,rO];exact hb Y.ps s.1 s.2.2 M DM
 rw[wz gC (M++[ς []]) Θ];rw[wG ?_];refine CE (jJ (r:Nat) r) (∃a b,ρ=[aM,kq,i0 us,Xa Cw,iZ,a,b]/\M'=M++[ς (J4 (ai8 Y (s.1,s.2.2)).map)]) us (M++[ς []]) (ig rfl) (ER none none)
 ·rintro pre r post hx ρ M' ⟨a,b,rfl,rfl⟩
  rw[wA _]
  have hr:jZ:=DP r (by rw[n!]);rw[fu f1 (h0 [ς (J4 (ai8 Y (s.1,s.2.2)).map)]) hlen (dR (J4 (ai8 Y (s.1,s.2.2)).map)<lim) (by
   rw[ia d9 (ara FL ?_)];rw[hx,List.length_append]at avi;exact Nat.lt_of_le_of_lt aD (show 4194304<lim by decide))]
  rw[Mh e1 (hw Y _ _ r f1 hr) e2 (hi _ r [s.1] f1 hr) Bb (AI (pre++[r]) (OG Y (s.1,s.2.2))=ai8 Y (s.1,s.2.2)++(aDQ (OG Y (s.1,s.2.2) r) [r])) (by rw[aOl];rfl)]
  rw[Bb];have al:=fun(ρ:ej) (hk:aj4 4) (h5:rj 5 b6)=>axc (ρ:=ρ) (k:=4) (d:=eW) (x:=η r) (M:=M) hk (by rw[aJ,av,h5];rfl) hlen;generalize Bq:(ai8 Y (s.1,s.2.2)).map (jJ (r:Nat) r)=jC at e1 e2 al
  rw[ĝ hf (z! b3 0 (tJ Y r)) (by
   unfold tJ;cases hw:b3 with
   |nil=>rw[nF hw (aU r hr)]
   |cons x w=>rfl) (bk (tJ Y r)) (M++[ς jC])]
  ·simp only[bV,aJ,bq,ao,av,bb,aX,aW,ag,e1];exact Dq (i:=0) (by rw[gI,hf];rfl)
  rw[um (yj (OG Y (s.1,s.2.2) r) (M++[ς jC]))]
  ·rw[gq el (∀M:aL,Mi [η s.1] M=.ok (bX [s.1]) M) (λM=>cc LK) aQn (PZ (aQ [η (tJ Y r).1,η (tJ Y r).2.1]) (aQ [bl Cw,η s.2.2]) (M++[ς jC])=.ok (.ai (ue (some (tJ Y r).1=Cw) ((tJ Y r).2.1=s.2.2))) (M++[ς jC])) (ZM (aK4 (some (tJ Y r).1,_)) (aK4 (_,_)) (a12 (a:=some (tJ Y r).1))) Zf (∀b:Bool,E2 (M++[ς jC]) (.ai b) (M++[ς jC])=.ok b (M++[ς jC])) (û b)];unfold nL;simp only[A8,dD,i9,pU,ao,bV,aJ,bq,av,bb,aX,aW,ag,Hn,awe,rO,aQn,el,e2,Zf];unfold OG;by_cases h1:cu Cw (tJ Y r).1<;>by_cases h2:(tJ Y r).2.1=s.2.2<;>simp[h1,h2,eq_comm]
  ·rw[hk,eK];rw[kQ (lX .ah _ (al _ rfl rfl) ?_) (ğ _ _ ?_)];rw[aBl Bq];rfl
  ·rw[hk,nC,eP];exact dy (ğ _ _ (lQ Bq))
 ·rw[QG M' a b rfl rfl];refine Ő (bX (LU (s.1,s.2.2))) (M++I?) ajO;simp[DJ,yB]
universe zE
universe Sb
universe zE
section
namespace Sb
open PySem L2
section
variable {C:eE}{Y:eJ}{o:dg}{M:aL}{B:cI}{W:bL}{j:Nat}{ρ:ej}
abbrev DA UJ(e8:eG)vg:Bool:=Ft&&I_ p e8||HX AL NB
def a4j(a:eF):zS (fY a):=by
 cases a with
 |none=>exact Ol
 |some n=>exact mS _
def a13(a b:eF)(h:fY a=fY b):a=b:=by
 cases a<;>cases b<;>simp[fY]at h
 ·rfl
 ·rw[h]
def aKh qQ{a:eF}fC:JX (fY a) (aQ [.ah,η x])=.ok (.ai (PR a NB a NB)) M:=
 Kl (enc:=fY) a4j a13 (as:=NB) rfl
def aKi qQ{b:fF}:gw neg (bl b) .ah M=.ok (.ai (aAY b.isSome b.isNone)) M:=by cases b<;>cases neg<;>rfl
def acZ{O5 avd O6 avc ava:D1}fC{e8:eG}afw aNm(Zd:az9):
  Rl (alA C.aT O5 O6) [ο 0,η x,bX e8]=.ok (bX (ajQ (DA W x e8))) M:=by
 refine My (awz _ _)
 rw[Fp alA q (∃G,q=.ok (bX (ajQ (DA W x e8))) (M++G)) (X5 (M++[ς []]))];rw[wG ?_];rw[om e0 ((d.app [ς []]).y.fld (ρ:=[aM,aV,i0 e8,iZ,none,none]) (d:=aq) rfl Gi) hi (jG [(jO (MG "pieces"))] [aM,aV,i0 e8,iZ,none,none] (M++[ς []])=.ok (JI (aAZ).map,none) (M++[ς []])) (XK (by rw[bV,aJ,e0];simp[fM])) (CE (jJ (p:Nat) p) (∃a b,ρ=[aM,aV,i0 e8,iZ,a,b]/\M'=M++[ς (J4 (ai9 W x e8).map)]) aAZ (M++[ς []]) hi (ER none none))]
 ·rintro pre p post hx ρ M' ⟨a,b,rfl,rfl⟩
  rw[wA _]
  have hp:vB:=aBk (by rw[n!]);rw[sy d1 (d.app [ς (J4 (ai9 W x e8).map)]) hlen (dR (J4 (ai9 W x e8).map)<lim) (by
   rw[ia d9 (ara FL ?_)];have:=À hx;rw[List.length_range,List.length_append,zE]at this;exact ara (show arE 16 by omega) (show 16<lim by decide)) Bb (AI (pre++[p]) (DA W x e8)=ai9 W x e8++(aDQ (DA W x e8 p) [p])) (by rw[aOl];rfl)]
  rw[Bb];have al:=fun(ρ:ej) (hk:aj4 3) (h5:rj 4 lF)=>axc (ρ:=ρ) (k:=3) (d:=bI) (x:=η p) (M:=M) hk (by rw[aJ,av,h5];rfl) hlen;generalize Bq:(ai9 W x e8).map (jJ (r:Nat) r)=jC at d1 al;rw[i6 k1 (fun(ρ:ej) (h0:ae 0 ρ (M++[ς jC])=.ok (ο 0) (M++[ς jC])) (h4:CZ [bI] (M++[ς jC])=.ok [η p] (M++[ς jC]))=>e7 (d1.y.met (ρ:=ρ) (g:=O5) (d:=aq) (ds:=[bI]) (xs:=[η p]) h0 aV9 h4) (Q.lk _ B W o p d1 hp)) k2 (fun(ρ:ej) (h0:ae 0 ρ (M++[ς jC])=.ok (ο 0) (M++[ς jC])) (h4:CZ [bI] (M++[ς jC])=.ok [η p] (M++[ς jC]))=>e7 (d1.y.met (ρ:=ρ) (g:=O6) (d:=aq) (ds:=[bI]) (xs:=[η p]) h0 aG6 h4) (Q.ti _ B W o p d1 hp)) (xU .ai (Ft&&I_ p e8) (M++[ς jC]))]
  ·unfold xf;rw[ao,k1 _ rfl rfl,ag,bb,ag,aKi,eK,ag];cases h:Ft with
   |false=>rfl
   |true=>
    show cg (jj true) bI aI _ _=_;rw[ao];show abc (η p) (bX e8) _=_;rw[axb,eK];simp
  rw[um (yj (DA W x e8 p) (M++[ς jC]))]
  ·rw[Z4,i9];show(E2 (M++[ς jC]) (.ai (Ft&&I_ p e8)) (M++[ς jC])).bind _=_;rw[JW (E2 (M++[ς jC]) (.ai (Ft&&I_ p e8)) (M++[ς jC])) .ok (Ft&&I_ p e8) (M++[ς jC]),ag]
   unfold DA;cases(Ft&&I_ p e8) with
   |true=>rfl
   |false=>
    rw[nC,dD,ao,k2 _ rfl rfl,ag];show(abc (fY AL) (aQ [.ah,η x]) _).bind _=_;rw[aKh,eK,ag,Bool.false_or]
  ·rw[hk,eK];rw[kQ (lX .ah _ (al _ rfl rfl) ?_) (ğ _ _ ?_)];rw[aBl Bq];rfl
  ·rw[hk,nC,eP];exact dy (ğ _ _ (lQ Bq))
 ·rw[QG M' a b rfl rfl];refine Ő (bX (ajQ (DA W x e8))) (M++I?) ajO;simp[DJ,yB]
universe zE
universe Sb
universe zE
section
namespace Sb
open PySem L2
section
variable {C:eE}{Y:eJ}{o:dg}{M:aL}{B:cI}{W:bL}{j:Nat}{ρ:ej}
def ayT d5 gX(h:HH xs.getLast? x):ajM xs (-1)=.ok x M:=by
 rw[bJ aU (xs≠[]) (dW (by rw[e]at h;cases h)) hl (SK 0) aAI];simp only[eT,pv,u5,Bm];rw[Ö,BW,show(aS (-1)+xs.length).toNat=EV 1 by omega];rw[aOF h];simp[h]
noncomputable abbrev k_:=Nat×Int
abbrev gv m8:k_:=(s.1,s.2.2)
abbrev K2(p:k_):qi:=[jM p.1,Sum.inl p.2]
abbrev qD(S:n5):gO qi aj:=S.map λp=>(K2 p,ju .ai)
def aKj{p q:k_}:K2 p=K2 q↔p=q:=by
 rw[Ve a b p c d q];constructor
 ·intro h;simp only[K2,List.cons.injEq,Sum.inl.injEq,and_true]at h;rw[Int.ofNat.inj h.1,h.2]
 ·intro h;rw[h]
def a4k{S:n5}{p:k_}:nO (qD S) (K2 p)=oi p S (d7 .ai true) none:=by
 unfold nO qD
 induction S with
 |nil=>rfl
 |cons q S ih=>
  rw[bB,List.find?_cons];rw[jt (q=p)]
  ·rw[Al h]
  ·have:¬K2 q=K2 p:=M4 (aKj.mp e);simp only[this,decide_false,ih,List.mem_cons,Ne.symm h,false_or]
def a4l{S:n5}{p:k_}(h:p∉S):kE (qD S) (K2 p) (ju .ai)=qD (S++[p]):=by
 unfold kE qD;rw[if_neg,List.map_append]
 ·rfl
 ·rw[aqN];rintro⟨q,hq,e⟩;rw[wu a ha hq (h ((aKj.mp aPG)▸ha))]
abbrev KA(e:gy rC):aj:=aQ [bk e.1,bX e.2]
abbrev ZJ dF(S:n5)(G:aL)(F:sF):aL:=M++(.jk (qD S)::(G++[ς (F.map KA)]))
variable {S S':n5}{G:aL}{F F':sF}
def a3L:v5 (eL S F) M.length .jk (qD S):=by unfold ZJ;simp
def aK5:qZ (eL S F) NF (F.map KA):=by
 rw[mJ ZJ aAB (show NF-M.length=G.length+1 by omega) aX];simp
def aK6 gW(h:i<G.length):(eL S F)[kh+i]? = G[i]?:=by
 unfold ZJ;rw[aAB,show kh+i-M.length=i+1 by omega,aX,List.getElem?_append_left h]
def a14:ajA (eL S F).set (.jk (qD S'))=eL S' F:=by unfold ZJ;simp
def a2M:(eL S F).set NF (ς (F'.map KA))=eL S F':=by
 rw[mJ ZJ (List.set_append_right _ _ aD) (show NF-M.length=G.length+1 by omega) List.set_cons_succ];simp
def aJF{A P:Type} [V5] azm(l:v_)(x:gy A):tT (l++[x])=oi (f x.1) (S++(tT l).map (J2 y y)) (tT l) (tT l++[x]):=by
 induction l generalizing S with
 |nil=>simp only[fz,ll,zD,eP]
 |cons y l ih=>
  rw[f9,ll,ll];split
  ·exact ih
  ·rename_i hy;rw[ih,bB]
   have:(f x.1∈f y.1::S++(ll f (f y.1::S) l).map (J2 y y))↔f x.1∈S++f y.1::(ll f (f y.1::S) l).map (J2 y y):=by
    simp only[f9,List.mem_cons,List.mem_append];rw[Ac (λh=>h.elim (dW (aA (Ω e))) λh=>h.elim Ω λh=>aA (aA h)) h (h.elim (λh=>aA (Ω h)) λh=>h.elim Ω λh=>aA (aA h))]
   rw[jt (f x.1∈f y.1::S++(ll f (f y.1::S) l).map (J2 y y))]
   ·rw[yK,jx (this.mp h)]
   ·rw[pH,if_neg (cK (h (this.mpr z)))];rfl
def aKk{A P:Type} [V5] azm(h:S.Nodup)(l:v_):ic (S++(tT l).map (J2 y y)):=by
 have hm:((tT l).map (J2 x x))=gf (gH S (l.map (Gg f))).map:=by rw[←axW,List.map_map];rfl
 rw[hm,List.nodup_append];rw[eV h (ayu _ _) (mE p hp q hq e)];subst e;rw[Mf x hx hq ((TA hx).2 hp)]
def axX{A P:Type} [V5] azm{l:v_}{x:gy A}(h:x∈tT l):x∈l:=by
 induction l generalizing S with
 |nil=>cases h
 |cons y l ih=>
  rw[ll]at h;split at h
  ·exact iA (ih h)
  ·rcases E_ with e | h
   ·rw[fq e List.mem_cons_self]
   ·exact iA (ih h)
universe zE
universe Sb
universe zE
section
namespace Sb
open PySem L2
section
variable {C:eE}{Y:eJ}{o:dg}{M:aL}{B:cI}{W:bL}{j:Nat}{ρ:ej}{S S':n5}{G:aL}{F F':sF}
abbrev J' gc dZ:rC:=(ab8 b3).getD (0,0,0)
abbrev mU gc(p:k_):Bool:=(vO).isNone
abbrev aoa Pu(bU jD:D1):cR:=(Ð 9 (abo (aB bU [aq,jf])) (yN (aB jD [(õ c "pieces"),(nJ 9),Xy]) (d? (L? (ae 7) [jf]))) (AH (cg (jj true) (fg [(nJ 9),Xy]) bI) (lO (k7 bI (fg [(nJ 9),Xy]) (Xc .ai)) (yW eW [(fg [(ae 9),(L? (ae 7) [jf])])]))))
abbrev ZT(m g:Nat)(last us fQ:aj)(a6 a7 a8 a9:qW):ej:=[aM,ahY,some us,Jl,iz m,iz (m+1+g),a6,a7,a8,a9]
abbrev adJ(eZ:n5)(l:sF):n5:=eZ++(EI l).map λy=>gv y.1
def aP5 api(h:YX 1000):Ă (bX w) (bX [r]) M=.ok (bX (w++[r])) M:=by
 rw[Tl,fL (by rw[Vm d9];exact e! (show _≤1001 by rw[fH]))];rw[←List.map_append]
def a3M zO{bU jD:D1}{last us fQ:aj}vh api{a9:qW}{eZ:n5}{l1:sF}aa8 aMc(DM:ED)G8(aU:b3≠[])(i?:YX 1000)
  (hS:ajd iE)(hF:ajd kg)
  (hb:aO (mU Y o_)->Q (.eO (bX (w++[r])) (eL iE kg)))
  (hn:Ĕ Y o_->Q (.nx (X6 us kq abn) (eL (BY (l1++[(gD,w++[r])])) (EI (l1++[(gD,w++[r])]))))):
  Q (aoa C.aT bU jD (X6 us kq a9) (eL iE kg)):=by
 unfold aoa;rw[Lx f0 (h0 iE kg) gd (a3L (M:=M) (S:=iE) (G:=G) (F:=kg)) gl (aK5 (M:=M) (S:=iE) (G:=G) (F:=kg)) e1 (hw Y _ _ r f0 hr)]
 rw[bJ ayU (ab8 ((b3).map bk) = abn) (by
  rw[List.getLast?_map];unfold J';cases h:ab8 b3 with
  |none=>rw[pn agv aU]
  |some x=>rfl) e2 (eT g4 (η (-1)) (eL iE kg)=.ok (bk gD) (eL iE kg)) (ayT ayU)];rw[Mh e3 (KN Y.ps gD.1 gD.2.2 (eL iE kg) DM) ea (aP5 (M:=eL iE kg) (r:=r) i?) el (∀M:aL,Mi [η r] M=.ok (bX [r]) M) (λM=>cc LK)];rw[L6 ep (λa9=>OO f0 (ρ:=X6 us kq a9) (d:=aq) rfl Gi) (bk gD) (eL iE kg)]
 ·rw[ao,bV,aJ];show(Fa (xR (Res.ok (aj.obj 0) _).bind (qe (fx [jf] _ aa).bind ys (.ok (x::ys) M2))).bind xs (bU xs aa)).bind _=_;rw[ag];show(((bU [ο 0,η r] _)).bind _)=_;rw[e1,ag];show((Res.ok (aj.int (-1)) _).bind _)=_;rw[ag,e2]
 rw[Ai (Q (lz _ _ (X6 us kq abn) _)) (cj (yj (mU Y o_) (eL iE kg)))]
 ·rw[i9,bV,aJ,ep,ag];simp only[ZT,aJ,bq,ao,av,bb,aX,aW,ag,Hn,rO,e3];rfl
 ·refine yi (bX (w++[r])) (eL iE kg) (hb hk);unfold nL;simp only[ZT,aJ,bq,ao,av,bb,aX,aW,ag,el,ea]
 ·rw[ME I0 cE (TZ (aQ [η gD.1,η gD.2.2])=aY (K2 o_)) rfl aEj (abc (aQ [η gD.1,η gD.2.2]) gC (eL iE kg)=.ok (.ai (HX o_ iE)) (eL iE kg)) (by
   rw[dz jj (show bR (oY (eL iE kg) gC) by rw[sf oY];rw[sf Ka];rw[gd])];rw[wk getD gd];rw[cE,Option.map_some,a4k];by_cases h:o_∈iE<;>simp[h])]
  rw[cV wb (EI (l1++[(gD,w++[r])])=oi o_ iE kg (kg++[(gD,w++[r])])) (by
   rw[jt (o_∈iE)]
   ·rw[fX yK (e7 (aJF (f:=gv) (S:=eZ) l1 (gD,w++[r])) yK)]
   ·rw[fX pH (e7 (aJF (f:=gv) (S:=eZ) l1 (gD,w++[r])) pH)]) (eD (HX o_ iE) (eL iE kg) ?_ (dJ h2) (dJ h2))]
  ·rw[dD];simp only[ZT,pU,aJ,bq,ao,av,bb,aX,aW,ag,Hn,rO,aEj]
  ·rw[rz Uw (o_∉iE) (a! h2) (if_neg Uw) wb]
   rw[cV hu (BY (l1++[(gD,w++[r])])=iE++[o_]) (by
    unfold adJ;rw[wb,List.map_append,←List.append_assoc];rfl) (cj ?_)]
   have a5W:k7 bI (fg [(nJ 9),Xy]) (Xc .ai) (X6 us kq abn) (eL iE kg)
     = .nx (X6 us kq abn) (eL (iE++[o_]) kg):=by
    unfold k7;simp only[ZT,pU,aJ,bq,ao,av,bb,aX,aW,ag,Hn,rO,Res.pS];rw[wk DG gd];rw[j3 cE];rw[jx (by rw[jL qD d9 (LI hS)]),a4l Uw,a14]
   rw[ia a5W eu];rw[i6 aQv (aK5 (M:=M) (S:=iE++[o_]) (G:=G) (F:=kg)) a5O (aP5 (M:=eL (iE++[o_]) kg) (r:=r) i?) (CK .ah (eL (iE++[o_]) (kg++[(gD,w++[r])])) ?_)]
   ·rw[aRP (n:=NF) rfl aQv (xs:=[aQ [bk gD,bX (w++[r])]]) (by
     unfold nL
     simp only[ZT,pU,aJ,bq,ao,av,bb,aX,aW,ag,el,a5O])]
    unfold sS l7
    rw[su aQv (jx (by rw[ni (LI hF)]))];rw[show(kg).map KA++[aQ [bk gD,bX (w++[r])]]=(kg++[(gD,w++[r])]).map KA by rw[aPk],a2M]
   ·have:=hn hk;rw[hu,wb]at this;rw[zV]
  ·rw[rz l8 (o_∈iE) (a! h2) (if_pos l8) wb]
   have hu:BY (l1++[(gD,w++[r])])=iE:=by rw[dz adJ wb]
   have:=hn hk;rw[hu,wb]at this;exact dy this
universe zE
universe Sb
universe zE
end
mutual
section
namespace Sb
open PySem L2
section
variable {C:eE}{Y:eJ}{o:dg}{M:aL}{B:cI}{W:bL}{j:Nat}{ρ:ej}{S S':n5}{G:aL}{F F':sF}
abbrev acH gc(us:eG)(e:gy rC):sF:=(LU (gv e.1)).map λr=>(gD,e.2++[r])
abbrev N9 gc(us:eG)(R:sF):sF:=R.flatMap (acH Y us)
def aIG gA{p:Xm}{l1 l2:qU}{x:α}(h1:∀y∈l1,cW (p y))(hx:akF x):(l1++x::l2).find? p=iB:=by
 rw[List.find?_append,ap5 y hy (by rw[fy (h1 y hy)])];simp[hx]
def a2N{U:n5}{eZ:n5}{l:sF}(hn:eZ.Nodup)(hs:fT eZ (p∈U))(hl:∀x∈l,gv x.1∈U):gE (BY l) U.length:=by
 refine aFi (aKk hn l) uc;rcases Sw with h | h
 ·exact hs p h
 ·rw[wu x hx h (hl x (axX hx))]
def a3N zO{zI bU jD:D1}{last fQ:aj}{us:eG}{R:sF}{a6 a7 a8 a9:qW}{eZ U:n5}aa8{wt:qK}aMc(DM:ED)
  ao5(i?:∀e∈R,lI e.2≤1000)(jm:eZ.Nodup)(avg:fT eZ (p∈U))azy(hU:agb)
  (DR:∀s S F,zI [ο 0,bk s,zU] (eL S F)=.ok (bX (LU (gv s))) (eL S F))
  (hi:b5 bw (LW zU a6 a7 a8 a9) (eL eZ [])=.ok (aiY,wt) (eL eZ []))(hc:∀S F,v9 (eL S F))
  (hb:∀x S F,(HF).find? (λx=>mU Y (gv x.1))=iB->Q (.eO (bX x.2) (eL S F)))
  (hn:∀a6 a7 a8 a9,bR ((HF).find? (λx=>mU Y (gv x.1)))->Q (.nx (LW zU a6 a7 a8 a9) (eL (BY HF) (EI HF)))):
  Q (e_ Q9 (mR 2 (k6 (bP 6) (oG 7))) (e_ (b5 (aB zI [aq,(ae 6),aI])) (bP 8) (aoa C.aT bU jD)) (LW zU a6 a7 a8 a9) (eL eZ [])):=by
 rw[ur l8 (∀(l:sF),(∀x∈l,∃r∈us,x.1=gD)->ajd (BY l)/\ajd (EI l)) (λl hl=>by
  rw[fu h (a2N (U:=U) jm avg (l:=l) (yX (by rw[Š r hr (hl x hx)];rw[pe (OS r hr)]))) h2 (dR (BY l)=eZ.length+dR (EI l)) (by unfold adJ;rw[Vm d9])]
  omega) hcn (∀(pre:sF),∀x∈xW,∃r∈us,x.1=gD) (λpre x hx=>by
  rw[agw e he hx];rw[Mf r hr he (jy r Vh.1)]) (kC KA (z4 (∃a6 a7 a8 a9,ρ=LW zU a6 a7 a8 a9/\M'=eL (BY xW) (EI xW)/\∀y∈xW,Ĕ Y (gv y.1))) R wt (eL eZ []) hi (hc _ _) ⟨a6,a7,a8,a9,rfl,by unfold adJ N9;simp[ll],by intro y hy;cases hy⟩ ?_ ?_)]
 ·rintro pre e post hx ρ M' ⟨Dg,au1,NZ,Dh,rfl,rfl,O7⟩;rw[aie s w e (LW zU kq (i0 w) NZ Dh)];rw[gq a5a (YX 1000) (i? (s,w) (by rw[n!])) eR (HF=xW++(acH Y us (s,w)++N9 Y us post)) (by rw[hx];rw[iU N9 List.flatMap_append List.flatMap_cons]) aQm (N9 Y us (pre++[(s,w)])=xW++acH Y us (s,w)) (by rw[dz N9 List.flatMap_append];simp)]
  rw[dm hg (DR s (BY xW) (EI xW)) (kC (jJ (r:Nat) r) (λip ρ M'=>∃a8 a9,ρ=LW zU kq (i0 w) a8 a9/\M'=eL (BY (xW++agW r (gD,w++[r]))) (EI (xW++agW r (gD,w++[r])))/\∀y∈xW++agW r (gD,w++[r]),Ĕ Y (gv y.1)) (LU (gv s)) none (eL (BY xW) (EI xW)) ?_ trivial (mC NZ Dh Θ (a! O7)) ?_ ?_)]
  ·refine ig ?_;simp only[ZT,bV,aJ,bq,av,aX,aW,ag,hg]
  ·rintro ip r aKI hxi ρ M' ⟨a8,a9,rfl,rfl,aob⟩;rw[ahM (X6 zU kq a9) hr (r∈us) (aPy (show r∈LU (gv s) by rw[fy hxi])).1]
   rw[om acL (l8 (xW++agW r (gD,w++[r])) (yX (by
    rcases List.mem_append.mp hx with h | h
    ·exact hcn pre x h
    ·rw[Mf r' hr' h (jy r' (aPy (show r'∈LU (gv s) by rw[hxi];simp[hr'])).1)]))) eC (acH Y us (s,w)=(agW r (gD,w++[r]))++(gD,w++[r])::aKI.map λr=>(gD,w++[r])) (by rw[mJ acH hxi List.map_append bB]) (a3M h0 hw KN DM (DP r hr) (aU r (DP r hr)) a5a acL.1 acL.2 (dJ hk) (dJ hk))]
   ·refine alU (alU (hb (gD,w++[r]) _ _ ?_));rw[eR,eC,List.append_assoc,←List.append_assoc,f9];exact aIG aob hk
   ·refine j4 (Ys _ (c! y hy))
    ·rw[List.map_append,←List.append_assoc];rfl
    ·rw[List.map_append,←List.append_assoc]at hy;rcases aNR with h | h
     ·exact aob y h
     ·rw[ap3 h hk]
  ·rw[Ic M' a8 a9 rfl rfl aob];exact A2 (hc _ _) ⟨_,_,_,_,rfl,by rw[cC aQm],by rw[au aQm aob]⟩
 ·rintro ρ' M' ⟨Dg,au1,NZ,Dh,rfl,rfl,O7⟩;exact hn _ _ _ _ (ap5 y hy (by rw[fy (O7 y hy)]))
universe zE
universe Sb
universe zE
section
namespace Sb
open PySem L2
section
variable {C:eE}{Y:eJ}{o:dg}{M:aL}{B:cI}{W:bL}{j:Nat}{ρ:ej}{S S':n5}{G:aL}{F F':sF}
abbrev aat Pu(zI bU jD:D1):cR:=(Ð 5 vZ (e_ Q9 (mR 2 (k6 (bP 6) (oG 7))) (e_ (b5 (aB zI [aq,(ae 6),aI])) (bP 8) (aoa c bU jD))) (lV 3 eW))
abbrev aKt dF(fQ:aj)(R:sF)(G:aL):Prop:=fQ=ς aiY\/∃i,fQ=ο (kh+i)/\i<G.length/\qZ G i aiY
abbrev aJL dF(res:Sl)(out:Out):Prop:=(∃w G',cu res w/\out=.eO (bX w) (M++G'))\/(bR res/\∃ρ' G',out=.nx ρ' (M++G'))
def a3O{zI bU jD:D1}{last:aj}{us:eG}{U:n5}aa8 br{nx:k_->mj}aMa azr(DM:ED)
  ao5 azy(hU:agb)
  aMi:
  ∀o8(R:sF)(S:n5)(G:aL)(fQ:aj)(a5 a6 a7 a8 a9:qW),cu (Ud n nx (mU Y) gv (J' Y) k R S) res->S.Nodup->(fT S (p∈U))->(∀e∈R,lI e.2+k≤1000)->aKt M fQ R G →
   aJL M res (Dx (cU bw) (aat C.aT zI bU jD) k [aM,ahY,i0 us,Jl,iZ,a5,a6,a7,a8,a9] (M++.jk (qD S)::G)):=by
 intro k
 induction k with
 |zero=>intro R S G fQ a5 a6 a7 a8 a9 hp;cases hp
 |succ k ih=>
  intro R S G fQ a5 a6 a7 a8 a9 hp jm avg i? hv
  rw[bJ hlen (uf M (fB.jk (qD S)::G)=NF) (by rw[fH]) et (cU bw [aM,ahY,i0 us,Jl,iZ,a5,a6,a7,a8,a9] (M++.jk (qD S)::G)=.ok (! R.isEmpty) (M++.jk (qD S)::G)) (by
   rw[i9];show E2 (M++.jk (qD S)::G) fQ _=_;rcases hv with e | ⟨i,e,hi,hg⟩
   ·rw[e];cases R<;>rfl
   ·have:qZ (M++fB.jk (qD S)::G) (kh+i) aiY:=by
     rw[aAB,show kh+i-M.length=i+1 by omega,aX,hg]
    rw[e];rw[sf fO];rw[this];cases R<;>rfl)]
  rw[Dx,et,Res.pS];rw[Ud]at hp;cases hR:R.isEmpty with
  |true=>
   rw[hR,eK]at hp;cases hp;rw[ek Bool.not_true nC (aA (M_ rfl _ _))]
  |false=>
   rw[hR,nC,zB]at hp;rw[Bool.not_false,eK]
   suffices h:∀Q:Ej,(∀x G',res=iB->Q (.eO (bX x) (M++G')))->(∀ρ' S' G' awp a5 a6 a7 a8 a9,bR ((HF).find? (λx=>mU Y (gv x.1)))->S'=adJ S HF->aKt M awp (ll gv S HF) G'->ρ'=[aM,ahY,i0 us,some awp,iZ,a5,a6,a7,a8,a9]->Q (.nx ρ' (M++.jk (qD S')::G')))->Q (aat C.aT zI bU jD [aM,ahY,i0 us,Jl,iZ,a5,a6,a7,a8,a9] (M++.jk (qD S)::G)) from by
    refine h (λout=>aJL M res (match out with
     |.nx ρ' M'=>Dx (cU bw) (aat C.aT zI bU jD) k ρ' M'
     |.ct ρ' M'=>Dx (cU bw) (aat C.aT zI bU jD) k ρ' M'
     |.kA ρ' M'=>.nx ρ' M'
     |.eO x M'=>.eO x M'
     |bW c ρ' M'=>bW c ρ' M'
     |aF=>aF)) (λx G' e=>Ω (M_ x G' e)) (λρ' S' G' awp NY Dg au1 NZ Dh hf hS' hv' hρ=>?_)
    subst hρ hS';rw[yS hf hp (ih (ll gv S HF) _ G' awp NY Dg au1 NZ Dh hp (aKk jm _) uc (c! e he) hv')]
    ·rcases Sw with h | h
     ·exact avg p h
     ·rw[q6 x hx h];rw[agw e he (axX hx)];rw[wu r hr he (OS r Vh.1)]
    ·rw[agA e' Uu hx (axX he)];rw[q6 r hr hx];have:=i? e' Uu;simp only[List.length_append,List.length_singleton];omega
   intro Q hq1 zJ;rw[jw aat (xU ο NF (eL S []))]
   ·rw[iU nL bq ag];unfold uT;simp[ZJ,hlen]
   show Q (lz _ _ (LW zU a6 a7 a8 a9) (eL S []));have mW:∀S F,eL S F=M++(.jk (qD S)::(G++[ς (F.map KA)])):=Wn _ _
   obtain⟨wt,hi,hc⟩:∃wt,b5 bw (LW zU a6 a7 a8 a9) (eL S [])=.ok (aiY,wt) (eL S [])/\∀S F,v9 (eL S F):=by
    rcases hv with e | ⟨i,e,hi,hg⟩
    ·rw[WJ none (ig (by rw[cC e])) _ _ trivial]
    ·rw[WJ _ (Om (by rw[cC e]) (e7 (aK6 hi) hg)) _ _ (e7 (aK6 hi) hg)]
   rw[o? (a3N (U:=U) (tk:=tk) (λS F=>by rw[au mW (h0 _)]) hw KN DM DP aU (λe he=>by rw[eg (i? e he)]) jm avg OS hU (λs S F=>by rw[au mW (DR _ s)]) hi hc (je x S F hf) (mE Dg au1 NZ Dh hf))]
   ·refine cx ?_;rw[mW];rw[bG hf hp (hq1 x.2 _ (Option.some.inj hp).symm)]
   ·rw[Õ (gN (Ku (ο NF) _ rfl ?_)) mW (zJ _ _ _ (ο NF) _ _ _ _ _ hf rfl (aA (ri G.length Θ Θ)) rfl)]
abbrev S!:Sl->aj
 |some w=>bX w
 |none=>.ah
def ado{zI bU jD:D1}{last:rC}{us:eG}{U:n5}aa8 br{nx:k_->mj}aMa azr(DM:ED)
  ao5 azy(a6s:gv last∈U)(hU:agb)
  aMi(hp:cu (Ud n nx (mU Y) gv (J' Y) 1000 [(last,[])] [gv last]) res):
  Rl (my C.aT zI bU jD) [ο 0,bk last,zU]=.ok PS M:=by
 refine My (by cases res with | none=>exact aI0 | some w=>exact awz _ _)
 rw[Fp my q (∃G,q=.ok PS (M++G)) (xU ς ([((last,[]):gy rC)].map KA) M)]
 ·unfold nL;simp only[pU,aJ,bq,av,aX,aW,ag,cc (xs:=[]) q4];exact cc LK
 rw[um (wh gC (M++[.jk (qD [gv last])]) ?_)]
 ·unfold FV;simp only[pU,aJ,bq,ao,av,bb,aX,aW,ag,Hn,rO];rfl
 rw[d8]
 rw[q8 h (a3O (last:=bk last) h0 hw KN DM DP aU OS hU DR zB 1000 [(last,[])] [gv last] [] (ς ([((last,[]):gy rC)].map KA)) none none none none none hp Θ (a! a6s) Θ (Ω rfl)) ?_];show GB _ _ (Dx (cU bw) (aat C.aT zI bU jD) 1000 _ _);rcases h with⟨w,G',e,ho⟩ | ⟨e,ρ',G',ho⟩
 ·rw[ek ho e (cx (fS (gg G')))]
 ·rw[ek ho e (MX .ah _ (gg G'))]
universe zE
universe Sb
universe zE
section
namespace Sb
open PySem L2
section
variable {C:eE}{Y:eJ}{o:dg}{M:aL}{B:cI}{W:bL}{j:Nat}{ρ:ej}
abbrev s4(t:iM):rC:=(t.ahead.getLast?).getD ru
def a2O br d5 gX(hn:M[n]? = g!)(h:HH xs.getLast? x):abV n (-1)=.ok x M:=by
 rw[gq aU (xs≠[]) (dW (by rw[e]at h;cases h)) hl (SK 0) aAI e (oY M (ο n)=j_) (by rw[sf oY];rw[sf Ka];rw[hn])]
 rw[dz eT e];simp only[u5,Bm];rw[Ö,BW,show(aS (-1)+xs.length).toNat=EV 1 by omega];rw[aOF h];simp[h]
def adg{t:TB}azZ(h3:aiN M aqG)(aU:Xq):alI C.tr [lJ] M=.ok Q! M:=by
 rw[nv alI q (q=.ok Q! M)];simp only[bB,zD,zE,gx,Nat.zero_add,Nat.reduceSub,List.replicate,eP];rw[i6 ea (SI ρ [fV] d aq h1 amD) es (SI ρ [fV] d aq h1 Tz) (cj (SA aPF M ?_ (λhk=>I0)))]
 ·rw[i9,ea,ag];rw[wk fO h3];rw[cC List.isEmpty_map]
 ·refine yi Q! M XJ;rw[ao,ea,ag];rw[Ai (abV t.sP (-1)=_) (a2O h3 ?_)];rw[List.getLast?_map];unfold s4;cases h:t.tr.ahead.getLast? with
  |none=>rw[agv]at hk;cases hk
  |some x=>rfl
 ·rw[n9 (yl Q!) hn (ĉ []) (by cases h:t.tr.ahead with | nil=>rfl | cons a b=>rw[pG h hk hk])]
  rw[ao,es,ag,bb,ag];rw[jL s4 hn (Tw (i:=0) h2 (aaf aU))]
abbrev adX kL D8:eG:=ajQ (DA W x yx)
abbrev aea kL D8:eG:=akj aqh r (XQ (adX Y W x t))
abbrev ads kL D8(p:k_)dZ:Bool:=OG Y p r&&XQ (adX Y W x t)
def a0D m6(R:sF):alX Y.rs.length (ads Y W x t) gv (J' Y) R=N9 Y (aea Y W x t) R:=by
 unfold alX N9 acH aea ads;simp only[List.filter_filter]
def Tg azs fC{t:TB}{res:Sl}eS afw xw(ht:nr=eU)(aU:Xq)(G0:tR t.tr.ahead.length)aoH(KN:aal jD)
  (hls:∀xE M,Ep M = Er->Eo M = Hp->aiN M aqG->Xq->ali [lJ] M=.ok Q! M)
  (hsh:∀e8,alj [ο 0,η x,bX e8] M=.ok (bX (ajQ (DA W x e8))) M)
  (hic:∀dZ cH,jZ->Um [ο 0,η r,bX cH] M=.ok (.ai (XQ cH)) M)
  (mW:Ĕ Y (gv (s4 t.tr))->alk [ο 0,Q!,bX (aea Y W x t.tr)] M=.ok PS M):
  Zu C.tr C.aT KM ali jD alj alk Um [ο 0,η x] M=.ok (S! (if mU Y (gv (s4 t.tr)) then some [] else res)) M:=by
 rw[Jj DM ED G.le T (d.y.awG (x,t) (Dt ht) nofun)];rw[Vf Zu P q (q=.ok (S! (if mU Y (gv (s4 t.tr)) then some [] else res)) M) ?_ bB zD zE gx f9 fz];rw[fJ ec (hca Y o M B x d.y hx) ht ec]
 refine xU ο t.ob M
 ·simp only[bV,aJ,bq,av,aX,aW,ag,ec]
 rw[d8]
 rw[L6 el (hls t M T.mt T.ms T.ma aU) Q! M]
 ·simp only[bV,aJ,bq,av,aX,aW,ag,el]
 rw[d8]
 rw[i6 e3 (KN Y.ps (s4 t.tr).1 (s4 t.tr).2.2 M DM) ep (d.y.fld (ρ:=[aM,aV,fV,Nq,none]) (d:=aq) rfl Gi) (cj (SA (mU Y (gv (s4 t.tr))) M ?_ (λhk=>I0)))]
 ·rw[i9,bV,aJ,ep,ag];simp only[aJ,bq,ao,av,bb,aX,aW,ag,Hn,rO,e3];rfl
 ·rw[ia hk (yi (ς []) M XJ)];rw[w4,bq,ag];exact cc q4
 rw[hk];rw[om ea (RN [aM,aV,fV,Nq,none] d amD) a5P (YA (b5 (ais C.tr aI)) [aM,aV,fV,Nq,none] M=.ok (bX apP) M) (by
  rw[yY (xs:=t.tr.ahead) (w:=ql t.sP (ς aqG)) (M':=M) bk x9 (agC s (aS s.1)) (j8 [y]) (Om ea T.ma) T.ma (gg none) (nu s) (e! G0)]
  ·rw[j9 (t.tr.ahead.filter x9) t.tr.ahead (agz _ _ rfl),cc (by rw[ni G0])]
   show _=Ā (aj.lst (R6 (apP).map n gi));rw[auJ]
  ·rw[WL y _ _ _ Hn]) (rm (bX (Rn Y W x)) M)]
 ·rw[bV,aJ,R5 0 [aM,aV,fV,Nq,none] .ok ο 0,ag,aJ,ace 1 [aM,aV,fV,Nq,none] .ok x,ag,aJ,a5P]
  rw[wD bq];exact hsh _
 rw[ĩ bx (d.y.fld (ρ:=[aM,aV,fV,Nq,i0 (Rn Y W x)]) (d:=aq) rfl aec) tB G.len]
 rw[cV a5Y (Ŭ [none,M?,some 4] (jG [(jO (MG "found"))]) (cU (aB Um [az,aq,aI])) [aM,aV,fV,Nq,i0 (Rn Y W x)] M=.ok (bX (aea Y W x t.tr)) M) (by
  rw[VQ aqh w M (jJ (r:Nat) r) (λr=>XQ (Rn Y W x)) (jJ (r:Nat) r) (j8 [y,aM,i0 (Rn Y W x)]) (ayv (by rw[bV,aJ,bx];simp[fM]) aD) (U9 r hr) (by rw[aBP tB])]
  ·exact fL (by rw[ni (acd (by rw[aBP tB]))])
  ·rw[uo y hρ];refine t8 _ lT ?_ wC;rw[i9];show(Um [ο 0,η r,bX (Rn Y W x)] M).bind _=_;rw[hic r _ aPv,ag];rfl) (yl PS)];rw[bV,aJ,R5 0 [aM,aV,fV,Nq,i0 (Rn Y W x)] .ok ο 0,ag,aJ,ym (ae 3 [aM,aV,fV,Nq,i0 (Rn Y W x)] M) (.ok Q! M),ag,aJ,a5Y]
 rw[wD bq];exact mW hk
def aU9 azs fC afw xw(ht:bR nr)aoH:Zu C.tr C.aT KM ali jD alj alk Um [ο 0,η x] M=g_:=by
 rw[fJ ec (hca Y o M B x d.y hx) ht ec];unfold Zu Dp lz lV;simp only[bB,zD,zE,gx,Nat.zero_add,Nat.reduceAdd,Nat.reduceSub,List.replicate,f9,fz]
 have e:aB KM [aq,az] [aM,aV,none,none,none] M=g_:=by
  simp only[bV,aJ,bq,av,aX,aW,ag,ec]
 rw[cC e]
universe zE
universe Sb
universe zE
section
namespace Sb
open PySem L2
section
variable {C:eE}{Y:eJ}{o:dg}{M:aL}{B:cI}{W:bL}{j:Nat}{ρ:ej}
abbrev lp:D1:=JA 3 2 (Mc [none,sC,M?] (am3 wj) (Jz az (F0 (b5 (EP Mv aq))))) (d? (tn (cU aI) wK (dC .ah)))
structure Ui gc dF ly K4:Prop where
 jE:v5 M 7 .ak (Y8 Y j)
 wl:qZ M j aCq
 xo:akg M 10 .bO
def Ui.ix afD gB eo{v:aj}aLO:vF d (c5 x) ρ=.ok v M:=by
 rw[ao,hd,ag,bb,ag];exact Th h.jE rfl hv
def Ui.app afD(G:aL):Ui Y (M++G) W j:=⟨Mp h.jE h.jE,Mp h.wl h.wl,Mp h.xo h.xo⟩
def aSG{p:Int}afD aLM(xq:ajS):lp [ο 7,η p] M=.ok (fY AL) M:=by
 rw[Fv lp (q=.ok (fY AL) M)];rw[fu e (nq [aR,lF,none] oN) hi (am3 wj [aR,lF,none] M=.ok (W.trains.map (CR q q),ql 10 (.bO ou)) M) (by
  rw[iU am3 e ag];rw[wk aEV h.xo];rw[aeA])]
 rw[i6 hz h.xo avl h.jE (xU ς ((W.trains.filter (HQ q p (ajm q.2 s.1))).map (CR q q)) M)]
 ·rw[yY (xs:=W.trains) (w:=ql 10 (.bO ou)) (M':=M) (CR q q) (ajn q p q.2 s.1) (CR q q) (j8 [y,lF,aR]) hi hz (gg none) (U9 q hq) (e! xq)]
  ·rw[fL (by rw[ni (L5 FL xq)])]
  ·rw[uo y hρ]
   refine t8 _ lT ?_ wC
   rw[gq v1 (nO ou JR=agp q.2) (by rw[zf,Yu];rfl) e1 (vF (pF Mv aq) (Ξ 0) [qb,lF,aR]=.ok (cv q.2.steps) M) (by
    have e2:vF aI arV [qb,lF,aR]=.ok (ο 10) M:=by
     rw[ao,av];rw[j!];rw[ag,bb,ag];exact Th avl rfl oN
    rw[ao,ao,e2,ag,av];rw[j!];rw[ag,akh hz k JR v1,ag,bb,ag];exact FA) e3 (YA (b5 (EP Mv aq)) [qb,lF,aR] M=.ok (ς ((ajm q.2 s.1).map η)) M) (by
    rw[JV q.2.steps M bk (CR s s) (j8 [y]) (ig e1) (nu s) (e! (hl q hq))]
    ·rw[C0 _ _,fL (by rw[Df (hl q hq)]),List.map_map];rfl
    ·rw[VE y _ _ Na])]
   show sQ (QA az _) [qb,lF,aR] M=_;rw[dD,ao,av]
   rw[j!];rw[ag,e3,ag,amq];rfl
 ·rw[um (yl (fY AL))];rw[dz adF aFz];rw[Z5,i9,av];rw[j!];cases aqM (ajn q p q.2 s.1) with
  |nil=>rfl
  |cons q l=>
   simp[fO,fY];exact FA
universe zE
universe Sb
universe zE
section
namespace Sb
open PySem L2
section
variable {C:eE}{Y:eJ}{o:dg}{M:aL}{B:cI}{W:bL}{j:Nat}{ρ:ej}
abbrev mQ(p:k_):aj:=aQ [η (aS p.1),η p.2]
def a7p{t:iM}:aiI t 0=.ok aiu M:=FA
def aRn{t:iM}:aiI t 1=.ok aiv M:=LZ 1
def ad6{t:iM}(aU:ajt []):awl [mL t] M=.ok (mQ pq) M:=by
 rw[NO awl P q (q=.ok (mQ pq) M) (rm (bk (s4 t)) M)]
 ·rw[Z5,i9];simp only[ao,av,bb,aX,aW,ag,a7p,aRn];unfold s4;cases h:t.ahead.getLast? with
  |none=>
   rw[agv];rw[F3 (zX aiu 0=_) (Dq (i:=0) (aaf aU))]
  |some x=>
   have hn:Ŝ []:=dW (by rw[e]at h;cases h)
   have:fO M aiv=uB:=by
    cases e:t.ahead with
    |nil=>rw[CM hn]
    |cons a b=>rfl
   rw[this];rw[F3 (zX aiv (-1)=_) (ayT (by rw[List.getLast?_map,h];rfl))]
 rw[um (yl (mQ pq))];simp only[pU,aJ,bq,ao,av,bb,aX,aW,ag,Hn,rO];rfl
abbrev O8 ly D8 xD m8:Bool:=!(fK s.1 a||I_ s.1 yx&&agK s.1)&&atE s.1 NB
abbrev aGw ly D8 l! xD:Bool:=w.all (O8 W x t a)
def ZB UR m6{r a:Nat}afD(hn:af9)(ht:dG=eU)(G0:aqT 100)G8(rQ:Wu (IY s))
  (hgt:vC p (gt [ο 7,η p] M=.ok (fY AL) M)):avX gt [ο 7,η x,η r,η a] M=.ok (.ai (FJ a)) M:=by
 rw[Vf avX P q (q=.ok (.ai (FJ a)) M) ?_ bB zD zE gx f9 fz]
 rw[ĝ v1 (nO ou uA=iW) (by rw[zf,ht];rfl) (mL t) M]
 ·rw[ao,asM d rfl oN,ag];rw[F3 (abV 10 x=_) (akh h.xo k uA v1)]
 rw[um (rm (bX yx) M)]
 ·rw[JV t.ahead M bk (agC s (aS s.1)) (j8 [y]) (ig (by rw[Je ao av bb aRn])) (nu s) (e! G0)]
  ·rw[j9 (t.ahead.filter x9) t.ahead (agz _ _ rfl),cc (by rw[ni G0])]
   show _=Ā (aj.lst (R6 (yx).map n gi));rw[auJ]
  ·rw[WL y _ _ _ Hn]
 rw[wG (CE bk (∃b,ρ=[aR,aV,b6,dh a,iW,i0 yx,b]/\M'=M/\ng pre (aO (O8 W x t a s))) b3 M ?_ (uv none rfl (λs hs=>nomatch hs)))]
 ·refine ig ?_;rw[ao,ao,asM d rfl Ke,ag];show(xR (zX WU r).bind (eT x (η 1) aa))=_;rw[ek (Go hr) ag aeL]
 ·rintro pre s post hx ρ M' ⟨b,rfl,rfl,bz⟩;refine wo [aR,aV,b6,dh a,iW,i0 yx,kq]
  rw[gq hs (s∈b3) (by rw[n!]) aP6 (cW (O8 W x t a s)->cW (FJ a)) (λhb=>by
   unfold aGw;rw[hx,List.all_append,List.all_cons,hb];simp) a5T (eT (ο j) (η (aS s.1)) M'=.ok (bl (ago s.1)) M') (Tw h.wl (by rw[gI,List.getD_eq_getElem?_getD,List.getElem?_eq_getElem (rQ s hs)];rfl))];rw[q8 eX (nq [aR,aV,b6,dh a,iW,i0 yx,kq] Z1) (SA (fK s.1 a||I_ s.1 yx&&agK s.1) M' ?_ (λhk=>I0))]
  ·rw[Z4,dD];simp only[ao,av,bb,aX,aW,ag,Hn,rE];rw[Ak (s.1=a)]
   ·simp[h1]
   ·have O_:¬(aS s.1=aS a):=dW (h1 ahC);rw[A8,dD];rw[Je ao av bb Hn];rw[j9 (abc (η (aS s.1)) (bX yx) M') (.ok (.ai (HX s.1 yx)) M') axb,ag]
    rw[Q2 (s.1∈yx)]
    ·simp[h1,O_,h2]
    ·have e3:sQ (cg (gw true) (atG Qs 6) (dC .ah)) [aR,aV,b6,dh a,iW,i0 yx,kq] M'=.ok (agK s.1) M':=by
      rw[dD,ao,ao,eX,ag];simp only[ao,av,bb,aX,aW,ag,Hn,a5T,aKi];rfl
     rw[uy (sr (a! O_)) (decide_eq_false h2) Bool.not_false];rw[ag,eK,e3,decide_eq_false h1,Bool.false_or,aO8,Bool.true_and]
  ·have:=aP6 (by rw[Ik O8 hk]);rw[au this (H? (qa .ai) M' (alU XJ))]
  ·rw[dm hg (hgt s.1) (F1 (HX (ags s.1) NB) M')]
   ·rw[dD];simp only[pU,bV,aJ,bq,ao,av,bb,aX,aW,ag,Hn,hg,aKh];rfl
   ·have:=aP6 (by rw[dz O8 hk];simpa using cE);rw[au this (ū (qa .ai) M' XJ)]
   ·rw[r9 (ğ _ rfl (c! s' gG))];rcases List.mem_append.mp gG with h' | h'
    ·exact bz s' h'
    ·rw[List.mem_singleton.mp h'];rw[iU O8 hk (show aO (atE s.1 NB) by cases e:atE s.1 NB with | true=>rfl | false=>rw[e]at cE;cases cE)]
     rfl
 ·rw[QG M' b rfl rfl bz];have:aO (FJ a):=List.all_eq_true.mpr bz;rw[au this (gN (bp (ju .ai) M' rfl (fS rfl)))]
universe zE
universe Sb
universe zE
end
mutual
section
namespace Sb
open PySem L2
section
variable {C:eE}{Y:eJ}{o:dg}{M aa:aL}{B:cI}{W:bL}{j:Nat}{ρ:ej}
abbrev pW(e:gy k_):aj:=aQ [mQ e.1,bX e.2]
abbrev zi gc dZ:k_:=o_
abbrev pY kL D8(p:k_)dZ:Bool:=ue (t!=p.2) (Ae=vO)&&FJ p.1
def a3P(p:k_):zS (mQ p):=by
 rw[VH y hy hy];rcases hy with rfl | rfl<;>exact mS _
def a2P(p q:k_)(h:mQ p=mQ q):p=q:=by
 rw[Ve a b p c d q];simp only[mQ,aj.tup.injEq,List.cons.injEq,aj.int.injEq,and_true]at h;rw[Int.ofNat.inj h.1,h.2]
def a5v api(h:aDj):Ă (bX w) (bX [r]) M=.ok (bX (w++[r])) M:=by
 rw[Tl,fL (by rw[Vm d9];exact e! (show _≤4194305 by rw[fH]))];rw[←List.map_append]
abbrev w_ gz(ps fQ v4:aj)(a5 a6:qW)(Ti:Nat)(a8 a9 kJ jV jU:qW):ej:=[aR,aV,some ps,Jl,some v4,a5,a6,iz Ti,a8,a9,kJ,jV,jU]
abbrev aD5(bK:D1):cR:=(Ff 10 (pF B! (ae 9)) 11 (fg [(EP (rt sL) LX),(yR (abo (rt sL)))]) (kS 12 (xf (n_ (atG Fd 10) jf) (cg (jj true) F! (F0 (b5 (ae 7))))) (yO (cU (ae 12)) (cU (aB bK [aq,az,(ae 9),(nJ 5)])) (yW (ae 7) [(fg [F!,(L? (ae 6) [(ae 9)])])]))))
def a3Q zO{bK:D1}m6{fQ v4:aj}{p:k_}api{kJ jV jU:qW}{F:I1}aNi G8(KZ:akC)(aU:b3≠[])(i?:aDj)(hF:F.length≤1000)
  (acN:bK [ο 7,η x,η r,η p.1] (aa++[ς Ij])=.ok (.ai (FJ p.1)) (aa++[ς Ij]))
  (hq:∀kJ jV jU,Q (.nx (acj x (iR [η p.2,CH]) kJ jV jU) (aa++[ς ((if pY Y W x t p r&&I_ (zi Y r) agi then F++[(zi Y r,w++[r])] else F).map pW)]))):
  Q (aD5 bK (acj x (iR [η p.2,CH]) kJ jV jU) (aa++[ς Ij])):=by
 unfold aD5;rw[Lx hz (h Ij) gl (ZN (M:=aa) (o:=ς Ij)) al (fun(ρ:ej) (v:aj) (d:bu) (hk:rj 7 ag6) (hd:CZ [d] (aa++[ς Ij])=.ok [v] (aa++[ς Ij]))=>axc (ρ:=ρ) (k:=7) (d:=d) (x:=v) (M:=aa) hk hd (by rw[ni (LI hF)])) ea (a5v (M:=aa++[ς Ij]) (r:=r) i?)];generalize aEu:aa++yD Ij=M2 at hz gl al acN ea⊢
 rw[cV a5K (∀ρ:ej,Sa 0->rj 9 b6->HN B! (ae 9) ρ M2=.ok (aQ [η b_,g4]) M2) (λρ h0 ff=>by
  rw[ao,hz.ix (d:=aq) (vY h0) Ke,ag,av,ff];exact Go hr) (wh (aQ [η b_,g4]) M2 (a5K _ rfl rfl))];show Q (lz _ _ (acj x (iR [η p.2,CH]) (iR [η b_,g4]) jV jU) M2)
 rw[bJ ayU (ab8 ((b3).map bk) = abn) (by
  rw[List.getLast?_map];unfold J';cases h:ab8 b3 with
  |none=>rw[pn agv aU]
  |some x=>rfl) e2 (eT g4 (η (-1)) M2=.ok (bk gD) M2) (ayT ayU)];rw[ĝ en (∀ρ:ej,zk (Ξ 1) ρ M2=.ok (η (-1)) M2) wC (mQ (zi Y r)) M2]
 ·simp only[w_,pU,aJ,bq,ao,av,bb,aX,aW,ag,aeL,en,e2,Hn,rO];rfl
 show Q (lz _ _ (acj x (iR [η p.2,CH]) (iR [η b_,g4]) (IL (zi Y r)) jU) M2)
 rw[kP es (∀ρ:ej,Sa 0->rj 10 (iR [η b_,g4])->HN Fd (nJ 10) ρ M2=.ok (e9 (gP b_)) M2) (λρ h0 aEq=>by
  rw[ao,hz.ix (d:=aq) (vY h0) ZH,ag,ao,av,aEq];dsimp only;rw[ag,bb,ag,zm,ag];exact TX KZ) a5R (PZ (e9 (gP b_)) (aQ [η p.2,CH]) M2=.ok (.ai (ue (t!=p.2) (Ae=vO))) M2) (by
  refine(ZM (x:=aQ [η t!,bl Ae]) (p:=t!=p.2/\Ae=vO) (ayP (_,tV)) (ayP (_,_)) ⟨IW,IW⟩)
  ·have:=aKc (t!,Ae) (p.2,vO) h;rw[cB (congrArg (·.1) this) (congrArg (·.2) this)]
  ·rw[h.1,h.2]) a5Q (∀ρ:ej,rj 7 ag6->YA (b5 (ae 7)) ρ M2=.ok (ς ((agi).map mQ)) M2) (λρ Ze=>by
  rw[yY (xs:=F) (w:=ql aa.length (ς Ij)) (M':=M2) pW x9 (dW (mQ e.1)) (j8 [y]) (Om (vY Ze) gl) gl (gg none) (nu s) (e! hF)]
  ·rw[j9 (F.filter x9) F (agz _ _ rfl),fL (by rw[Df hF]),List.map_map]
   rfl
  ·rw[WL y _ _ _ (j9 (eT (pW s) (η 0) M2) _ zm)]) aEj (abc (mQ (zi Y r)) (ς ((agi).map mQ)) M2=.ok (.ai (akK Y r)) M2) (Kl (neg:=true) (enc:=mQ) a3P a2P rfl)]
 refine xU .ai (ue (t!=p.2) (Ae=vO)&&akK Y r) M2
 ·rw[mJ xf ao (es _ rfl rfl) ag];show((PZ (e9 (gP b_)) (aQ [η p.2,CH]) M2).bind _)=_;rw[a5R,ag];cases ue (t!=p.2) (Ae=vO) with
  |false=>rfl
  |true=>
   show cg (jj true) F! _ _ _=_;rw[ao];show((YA (b5 (ae 7)) _ M2).bind λy bE=>abc (mQ (zi Y r)) y bE)=_;rw[a5Q _ rfl,ag,aEj,Bool.true_and]
 show Q (eN _ _ _ (acj x (iR [η p.2,CH]) (iR [η b_,g4]) (IL (zi Y r)) (z7 .ai (ue (t!=p.2) (Ae=vO)&&akK Y r))) M2)
 rw[rz a6x ((pY Y W x t p r&&I_ (zi Y r) agi)=((ue (t!=p.2) (Ae=vO)&&akK Y r)&&FJ p.1)) (by
  rw[dz pY decide_not];cases ue (t!=p.2) (Ae=vO)<;>cases FJ p.1<;>simp) a6x hq];generalize hg:(ue (t!=p.2) (Ae=vO)&&akK Y r)=gd at hq⊢;rw[cV a5S (eT (mQ p) (η 0) M2=.ok (η p.1) M2) zm (yj (gd&&FJ p.1) M2)]
 ·rw[A8,i9];show((E2 M2 (.ai gd) M2).bind _)=_;rw[JW (E2 M2 (.ai gd) M2) .ok gd M2,ag]
  cases gd with
  |false=>rfl
  |true=>
   rw[eK,i9];simp only[w_,bV,aJ,bq,ao,av,bb,aX,aW,ag,a5S,acN,Bool.true_and];rfl
 ·have q:=hq (iR [η b_,g4]) (IL (zi Y r)) (d7 .ai gd);rw[hk,eK,List.map_append]at q;rw[n9 (lX .ah _ (al _ (aQ [mQ (zi Y r),bX (w++[r])]) _ rfl ?_) q) el (∀M:aL,Mi [η r] M=.ok (bX [r]) M) (λM=>cc LK)];unfold nL;simp only[w_,pU,aJ,bq,ao,av,bb,aX,aW,ag,el,ea]
 ·have q:=hq (iR [η b_,g4]) (IL (zi Y r)) (d7 .ai gd);rw[hk,nC,aEu]at q;exact dy q
universe zE
universe Sb
universe zE
section
namespace Sb
open PySem L2
section
variable {C:eE}{Y:eJ}{o:dg}{M aa:aL}{B:cI}{W:bL}{j:Nat}{ρ:ej}
abbrev O9 gc(w:eG)dZ:gy k_:=(zi Y r,w++[r])
abbrev ON kL D8(L:I1):I1:=ZA Y.rs.length (pY Y W x t) (zi Y) L
def a0E m6(L:I1)(e:gy k_):ON Y W x t (L++[e])=ON Y W x t L++(AI aqh (pY Y W x t e.1)).map (O9 Y e.2):=by
 unfold ON ZA;rw[aqF eP];rfl
def a0F{U:n5}(hU:agb){l:I1}(hl:∀y∈l,y.1∈U):ajd (W0 l):=by
 rw[aye,fz,zD]
 rw[uK (asw U U (ayu [] l) (by
  rw[wu y hy hp (hl y (TA hy).1)])) d9]
 omega
def a0G(l:I1)(y:gy k_):NX (l++[y])=oi y.1 (gf (W0 l).map) (W0 l) (W0 l++[y]):=by
 have e:NX (l++[y])=aab (W0 l) [y]:=by rw[dz aab List.foldl_append]
 rw[mF e h (y.1∈gf (W0 l).map)]
 ·rw[au yK yK]
 ·rw[au pH pH]
abbrev aD6(bN bK:D1):cR:=(kS 8 (fg [aj8,(aB bN [aI,(nJ 5),aj8])]) (e_ (jG [aka]) (bP 9) (aD5 bK)))
def a3R zO{bN bK:D1}m6{fQ v4:aj}{a5 a6 a8 a9 kJ jV jU:qW}{L:I1}{wt:qK}{U:n5}eS aNi aaY(aU:YY)aNo
  (i?:∀e∈L,lI e.2≤4194304)(acN:∀l(r a:Nat),jZ->bK [ο 7,η x,η r,η a] (aa++[ς l])=.ok (.ai (FJ a)) (aa++[ς l]))
  (hi:b5 bw (w_ x kN fQ v4 a5 a6 aa.length a8 a9 kJ jV jU) (aa++[ς []])=.ok (aiZ,wt) (aa++[ς []]))(hc:∀l,v9 (aa++[ς l]))
  (hq:∀a5 a6 a8 a9 kJ jV jU,Q (.nx (w_ x kN fQ v4 a5 a6 aa.length a8 a9 kJ jV jU) (aa++[ς ((NX (ON Y W x t L)).map pW)]))):
  Q (e_ Q9 (mR 2 (k6 (bP 5) (oG 6))) (aD6 bN bK) (w_ x kN fQ v4 a5 a6 aa.length a8 a9 kJ jV jU) (aa++[ς []])):=by
 rw[cV a6e (∀L y,y∈ON Y W x t L->y.1∈U) (λL y hy=>by
  rw[agw e he hy];rw[wu r hr he (OS r (aBc Vh))]) (kC pW (z4 (∃a5 a6 a8 a9 kJ jV jU,ρ=w_ x kN fQ v4 a5 a6 aa.length a8 a9 kJ jV jU/\M'=aa++[ς ((Yn).map pW)])) L wt (aa++[ς []]) hi (hc _) ⟨a5,a6,a8,a9,kJ,jV,jU,rfl,rfl⟩ ?_ ?_)]
 ·rintro pre e post hx ρ M' ⟨NY,Dg,NZ,Dh,ak1,ak2,ak3,rfl,rfl⟩;rw[aie p w e (w_ x kN fQ v4 (IL p) (i0 w) aa.length NZ Dh ak1 ak2 ak3)];unfold aD6;rw[cF hz (h ((Yn).map pW)) a6G (i? (p,w) (by rw[n!]))]
  rw[bJ e0 (eT (mQ p) (η 0) (aa++[ς ((Yn).map pW)])=.ok (η p.1) _) zm e1 (eT (mQ p) (η 1) (aa++[ς ((Yn).map pW)])=.ok (η p.2) _) aeL];rw[L6 eb (aiM p.1 p.2 (aa++[ς ((Yn).map pW)])) (aQ [η p.2,CH]) (aa++[ς ((Yn).map pW)])]
  ·simp only[w_,pU,bV,aJ,bq,ao,av,bb,aX,aW,ag,e0,e1,eb]
  rw[Ai (Body _ _ _ (e_ _ _ _ (w_ x kN fQ v4 (IL p) (i0 w) aa.length (iR [η p.2,CH]) Dh ak1 ak2 ak3) _)) (kC (jJ (r:Nat) r) (λip ρ M'=>∃a9 kJ jV jU,ρ=w_ x kN fQ v4 (IL p) (i0 w) aa.length (iR [η p.2,CH]) a9 kJ jV jU/\M'=aa++[ς ((NX (akk++(ip.filter (pY Y W x t p)).map (O9 Y w))).map pW)]) aqh none (aa++[ς ((Yn).map pW)]) ?_ trivial ⟨Dh,ak1,ak2,ak3,rfl,Θ⟩ ?_ ?_)]
  ·rw[vS y9 (hz.ix (ρ:=w_ x kN fQ v4 (IL p) (i0 w) aa.length (iR [η p.2,CH]) Dh ak1 ak2 ak3) (d:=aq) rfl Ke) (ayv (by rw[bV,aJ,y9];simp[fM]) (by rw[eg G.len]))]
  ·rintro ip r aKI hxi ρ M' ⟨aQg,aEd,aEe,c12,rfl,rfl⟩;refine wo (acj x (iR [η p.2,CH]) aEd aEe c12);rw[bJ hr jZ (aBk (by rw[fy hxi])) a5w (∀r'∈ip,aAW r') (λr' h'=>aBk (by rw[hxi];simp[h']))]
   rw[dm hlen (a0F hU (l:=akk++(ip.filter (pY Y W x t p)).map (O9 Y w)) (A0 (by
    rcases aNR with h' | h'
    ·exact a6e pre y h'
    ·rw[wu r' hr' h' (OS r' (a5w r' (List.mem_filter.mp hr').1))]))) (a3Q (t:=t) h hr Ni (aU r hr) a6G hlen (acN _ r p.1 hr) λa8Q a8R a8S=>j4 ⟨_,_,_,_,rfl,?_⟩)];rw[List.filter_append,List.map_append,←List.append_assoc];rw[q_ hn (pY Y W x t p r)]
   ·rw[List.filter_cons_of_pos hn,hn,Bool.true_and];show _=aa++[ς ((NX ((akk++(ip.filter (pY Y W x t p)).map (O9 Y w))++[O9 Y w r])).map pW)];rw[mF a0G hm (zi Y r∈gf (NX (akk++(ip.filter (pY Y W x t p)).map (O9 Y w))).map)]
    ·rw[sr (by rw[aAS];exact cK (z hm)),jx (show(O9 Y w r).1∈_ from hm)]
    ·rw[jx (by rw[aAS];exact hm),sr (show¬(O9 Y w r).1∈_ from hm)];rfl
   ·rw[List.filter_cons_of_neg hn,show cW (pY Y W x t p r) by simpa using hn,Bool.false_and,nC];simp
  ·rintro ρ' M' ⟨aQg,aEd,aEe,c12,rfl,rfl⟩;exact A2 (hc _) ⟨_,_,_,_,_,_,_,rfl,lQ a0E⟩
 ·rintro ρ' M' ⟨NY,Dg,NZ,Dh,ak1,ak2,ak3,rfl,rfl⟩;exact hq _ _ _ _ _ _ _
universe zE
universe Sb
universe zE
section
namespace Sb
open PySem L2
section
variable {C:eE}{Y:eJ}{o:dg}{M aa:aL}{B:cI}{W:bL}{j:Nat}{ρ:ej}
abbrev aaC dF(fQ:aj)(L:I1):Prop:=fQ=ς aiZ\/∃i,fQ=ο i/\qZ M i aiZ
def aaC.it{fQ:aj}{L:I1}(h:aaC M fQ L){ρ:ej}(h3:pA ρ 3 fQ):∃wt,b5 bw ρ M=.ok (aiZ,wt) M/\∀G,v9 (M++G):=by
 rcases h with e | ⟨i,e,hi⟩
 ·rw[bQ none (ig (by rw[av,h3,e])) (λ_=>trivial)]
 ·rw[bQ _ (Om (by rw[av,h3,e]) hi) (λG=>Mp hi hi)]
def aaC.app{fQ:aj}{L:I1}(h:aaC M fQ L)(G:aL):aaC (M++G) fQ L:=by
 rcases h with e | ⟨i,e,hi⟩
 ·exact Ω e
 ·exact aA ⟨i,e,Mp hi hi⟩
def Zo{ge bN bK:D1}m6{U:n5}eS afD(ht:dG=eU)(hge:ge [mL t] M=.ok (mQ pq) M)aaY(aU:YY)aNo
  (acN:∀G(r a:Nat),jZ->bK [ο 7,η x,η r,η a] (M++G)=.ok (.ai (FJ a)) (M++G)):
  Rl (avK ge bN bK) [ο 7,η x]=.ok (S! (í (pY Y W x t) (mU Y) (zi Y) Fw [(pq,[])])) M:=by
 generalize a6E:í (pY Y W x t) (mU Y) (zi Y) Fw [(pq,[])]=tgt;refine My (by cases tgt with | none=>exact aI0 | some w=>exact awz _ _)
 rw[Fp avK q (∃G,q=.ok (S! tgt) (M++G)) (VR kN (asM d rfl Tr))];rw[d8]
 rw[ĝ v1 (nO ou uA=iW) (by rw[zf,ht];rfl) (ς ([((pq,[]):gy k_)].map pW)) M]
 ·have e1:vF wj az [aR,aV,Nl,none,none,none,none,none,none,none,none,none,none]=.ok (mL t) M:=by
   rw[ao,asM d rfl oN,ag];rw[F3 (abV 10 x=_) (akh h.xo k uA v1)]
  unfold nL;rw[aJ,pU,aJ,bV,aJ,e1];simp only[bq,aJ,ag,hge,cc (xs:=[]) q4];exact cc LK
 rw[wG (CE (jJ (k:Nat) k) (∃G fQ L a4 a5 a6 a7 a8 a9 kJ jV jU,ρ=[aR,aV,Nl,Jl,a4,a5,a6,a7,a8,a9,kJ,jV,jU]/\M'=M++G/\aaC (M++G) fQ L/\í (pY Y W x t) (mU Y) (zi Y) (Fw-pre.length) L=tgt/\∀e∈L,lI e.2≤pre.length) (List.range Fw) M ?_ ?_)]
 ·rw[dm y9 (nq [aR,aV,Nl,ET ([((pq,[]):gy k_)].map pW),none,none,none,none,none,none,none,none,none] Ke) (ayv (n:=Fw) ?_ (by rw[eg G.len]))];rw[ao,bV,aJ,y9];simp[fM]
 ·exact⟨[],_,[(pq,[])],_,_,_,_,_,_,_,_,_,rfl,(List.append_nil M).symm,Ω rfl,a6E,λe he=>by rw[ap3 he q4]⟩
 ·rintro pre k post hx ρ M' ⟨mY,fQ,L,a4,a5,a6,a7,a8,a9,kJ,jV,jU,rfl,rfl,hv,hl,hw⟩;rw[ahM [aR,aV,Nl,Jl,ko,a5,a6,a7,a8,a9,kJ,jV,jU] iJ (arE Y.rs.length) (by
   have:=À hx;rw[List.length_range,List.length_append,zE]at this;omega)]
  have a80:=G.len;rw[show Fw-pre.length=aLi+1 by omega,sX]at hl;rw[Ce wt hi hc (hv.it (ρ:=[aR,aV,Nl,Jl,ko,a5,a6,a7,a8,a9,kJ,jV,jU]) rfl) (cj (kC pW (λp2 ρ M'=>∃NY Dg,ρ=[aR,aV,Nl,Jl,ko,NY,Dg,a7,a8,a9,kJ,jV,jU]/\M'=M++mY/\∀e∈p2,Ĕ Y e.1) L wt (M++mY) hi (by rw[HS (hc []) eP]) (jd a5 a6 rfl (λe he=>nomatch he)) ?_ ?_))]
  ·rintro p2 e ayJ zK ρ M' ⟨NY,Dg,rfl,rfl,O7⟩;rw[aie p w e [aR,aV,Nl,Jl,ko,IL p,i0 w,a7,a8,a9,kJ,jV,jU]];rw[bJ e0 (eT (mQ p) (η 0) (M++mY)=.ok (η p.1) _) zm e1 (eT (mQ p) (η 1) (M++mY)=.ok (η p.2) _) aeL];rw[dm eb (aiM p.1 p.2 (M++mY)) (yj (mU Y p) (M++mY))]
   ·rw[dD];simp only[bV,aJ,bq,ao,av,bb,aX,aW,ag,e0,e1,eb,Tb];rfl
   ·have hf:at4 (λx=>mU Y x.1)=ql p w:=by rw[au zK (aIG O7 hk)]
    rw[yS hf hl (ū (bX w) (M++mY) (cx (alU (cx (fS (lR mY))))))];rw[Q4 hl]
   ·rw[r9 (A2 (by rw[HS (hc []) eP]) (jd _ _ rfl (c! e he)))];rcases List.mem_append.mp he with h' | h'
    ·exact O7 e h'
    ·rw[ap3 h' hk]
  ·rw[Ic M' NY Dg rfl rfl O7];rw[yS (ap5 e he (by rw[fy (O7 e he)])) hl (gN (wh (ο (uf M mY)) (M++mY++[ς []]) Θ))];rw[q8 hv2 (hv.app [ς []]) ?_];show GB _ _ (e_ _ _ (aD6 bN bK) (w_ x kN fQ (η k) NY Dg (uf M mY) a8 a9 kJ jV jU) (M++mY++[ς []]))
   obtain⟨a9i,GR,Uz⟩:∃wt,b5 bw (w_ x kN fQ (η k) NY Dg (uf M mY) a8 a9 kJ jV jU) (M++mY++[ς []])=.ok (aiZ,wt) (M++mY++[ς []])/\∀l,v9 (M++mY++[ς l]):=by
    rcases hv with e | ⟨i,e,hi⟩
    ·rw[bQ none (ig (by rw[cC e])) (λ_=>trivial)]
    ·rw[bQ _ (Om (by rw[cC e]) (Mp hi hi)) (λl=>Mp hi hi)]
   rw[kQ (a3R (t:=t) (U:=U) G (λl=>by rw[aBO (h.app _)]) hb aU hU OS (λe he=>LD (hw e he) aD) (λl r a hr=>by rw[aBO (acN _ r a hr)]) GR Uz λaQf a8O a8P aQg aEd aEe c12=>gN (Ku (ο (uf M mY)) _ rfl ?_)) (j4 ⟨mY++[ς ((NX (ON Y W x t L)).map pW)],ο (uf M mY),NX (ON Y W x t L),_,_,_,_,_,_,_,_,_,rfl,aNV,aA (IX (by rw[cA List.append_assoc ZN])),?_,c! e he⟩)]
   ·rw[List.length_append,List.length_singleton,show Fw-(pre.length+1)=aLi by omega,aye];exact hl
   ·rw[aye]at he;rw[agA e' Uu hm (TA he).1];rw[q6 r hr hm];have:=hw e' Uu;simp only[List.length_append,List.length_singleton];omega
 ·rintro ρ' M' ⟨mY,fQ,L,a4,a5,a6,a7,a8,a9,kJ,jV,jU,rfl,rfl,hv,hl,hw⟩;rw[List.length_range,Nat.sub_self,sX]at hl;rw[fq hl (MX .ah (M++mY) (gg mY))]
universe zE
universe Sb
universe zE
section
namespace Sb
open PySem L2
section
variable {C:eE}{Y:eJ}{o:dg}{M aa:aL}{B:cI}{W:bL}{j:Nat}{ρ:ej}{x:Int}{t:iM}
def a3S G9:(tJ Y r).1=(gP b_).2/\(tJ Y r).2.1=t!:=by
 rw[H_ h pL hn h.ne hc h.chain];unfold tJ;cases hw:b3 with
 |nil=>rw[nF hw hn]
 |cons s w=>
  rw[Cq a j o s Uz (Chain Y.ps Y.ss true t! Ae ((a,j,o)::w)) (by rw[cA hw hc])]
  rw[cB (Option.some.inj Uz.1).symm Uz.2.1]
def a3T G9(p:k_):ads Y W x t p r=pY Y W x t p r:=by
 rw[yg (a3S G hr)];unfold ads OG pY
 have e1:ue (cu vO (tJ Y r).1) ((tJ Y r).2.1=p.2)=ue (t!=p.2) (Ae=vO):=by
  rw[h1,h2];rw[agH ⟨λh=>⟨h.2,h.1.symm⟩,λh=>⟨h.2.symm,h.1⟩⟩]
 rw[e1,Bool.and_assoc]
 congr 1
 unfold aac aGw;rw[Bool.eq_iff_iff,Bool.and_eq_true,List.all_eq_true,List.all_eq_true,List.all_eq_true]
 have key:Wu (aO (O8 W x t p.1 s)↔Í (s.1∉[p.1])/\Í (s.1∉adX Y W x t)):=r! (by
  rw[bJ g8 (agt s.1) (aiz r _ (lP s hs)) hm (s.1∈adX Y W x t↔aO (DA W x yx s.1)) (by
   rw[iU adX List.mem_filter List.mem_range];rw[Ac (λh=>h.2) h ⟨g8,h⟩])]
  rw[decide_eq_true_eq,decide_eq_true_eq,hm];unfold O8 DA;rw[List.mem_singleton];by_cases a1:s.1=p.1<;>by_cases a2:s.1∈yx<;>cases a3:agK s.1<;>cases a4:atE s.1 NB<;>simp[a1,a2,a3,a4])
 rw[Ac (λh s hs=>(key s hs).mpr ⟨h.1 s hs,h.2 s hs⟩) h ⟨r! ((key s hs).mp (h s hs)).1,r! ((key s hs).mp (h s hs)).2⟩]
def aGH{P:Type} [V5] br{nx nx':P->mj}{b:ow P}{en:p! P}(h:∀p,∀r<n,nx p r=nx' p r):∀o8(L:lG),sX n nx b en k L=sX n nx' b en k L
 |0,_=>rfl
 |k+1,L=>by
  have e:Cu en L=ZA n nx' en L:=by
   unfold ZA
   congr 1
   funext e
   rw[List.filter_congr λr hr=>h e.1 r aPv]
  rw[sX,sX,e,aGH h k]
abbrev aet jY:n5:=(Aq).flatMap λa=>(eH a).js.map λj=>(a,j)
def aKl rW{f:α->akn}(h:∀a,gE (f a) 3):∀l:qU,gE (l.flatMap f) (3*l.length)
 |[]=>Θ
 |a::l=>by
  rw[List.flatMap_cons,List.length_append,zE];have:=h a;rw[eg (aKl h l)]
def axd xB(h:Vj 16):gE (aet ps) 900:=by
 rw[uK (aKl (f:=λa=>(eH a).js.map λj=>((a,j):k_)) (λa=>by rw[d9];cases eH a<;>simp[fj.js]) Aq) List.length_range];rw[Ś aet]
def aKJ xB vh(h:Uj ps s):gv s∈aet ps:=List.mem_flatMap.mpr ⟨s.1,List.mem_range.mpr h.lt,lP s.2.2 h.o.mem⟩
def a2Q G9:gD∈b3:=by
 unfold J';cases h:ab8 b3 with
 |none=>rw[pn agv (pL).ne]
 |some s=>exact aOi
def a0H(hb:aO (mU Y pq)):cu (í (pY Y W x t) (mU Y) (zi Y) Fw [(pq,[])]) []:=by
 rw[sX,List.find?_cons,hb]
def a3U eS(hU:Lr (o_∈WV))(h0:pq∈WV)(hb:Ĕ Y pq):
  Ud Y.rs.length (ads Y W x t) (mU Y) gv (J' Y) 1000 [(s4 t,[])] [pq]=aY (í (pY Y W x t) (mU Y) (zi Y) Fw [(pq,[])]):=by
 rw[Jj j (DO Y.rs.length (ads Y W x t) (mU Y) gv (J' Y) pq [(pq,[])] [(s4 t,[])] [pq] []) (by
  refine⟨aK Gg,JE p,(λp hp=>nomatch hp),uc,Θ,jQ (Ω (List.mem_singleton.mp hp))⟩;rw[ap3 hp hb]) hl (axd (ps:=Y.ps) G.g.eY)];rw[go_eq (U:=WV) hU h0 1000 Fw j (JE _) (Ω (by rw[fH]))]
 congr 1
 exact aGH (λp r hr=>a3T G hr p) _ _
universe zE
universe Sb
universe zE
end
mutual
section
namespace Sb
open PySem L2
section
variable {C:eE}{Y:eJ}{o:dg}{M:aL}{B:cI}{W:bL}{j:Nat}{ρ:ej}
def a3V{k:tC}:PZ (aE (an3 k)) (aE "ok") M=.ok (.ai (ZI k)) M:=by cases k<;>with_unfolding_all rfl
def adD{dM gs qy aEp aEo:D1}(hp:aI3 dM)(hs:aI4 gs)aaX(l8:aYy C.aT aEo)(hnw:aP9 aEp)BG:∃Y M,tN/\aFK C.aT dM gs qy aEp aEo [.dX ns] []=.ok (aQ [ο 0,ο 7]) M/\St C Y M (l_ Y):=by
 rw[E8 ps a6k ep (hp ns 0 []) ss hg es (hs ns 40 ps [] a6k)];rw[cF Bo hg.eY hss hg.Bk]
 rw[bJ hw0 (0≤tY%4) (Int.emod_nonneg _ aZ) G (J7 (abC (tY%4))) (lK hg hw0)];rw[Mh ei (l8 ps ss (tY%4) [] hg) en (hnw (abC (tY%4)) (lh C.aT 0 ps ss uH (tY%4)) G rfl) eZ (St C (abC (tY%4)) (lh C.aT 0 ps ss uH (tY%4)++aiX (tY%4)) (l_ (abC (tY%4)))) ⟨_,_,_,start (C:=C) G⟩];refine⟨abC (tY%4),lh C.aT 0 ps ss uH (tY%4)++aiX (tY%4),G,?_,eZ⟩;clear eZ;rw[NO aFK P r (r=.ok (aQ [ο 0,ο 7]) (lh C.aT 0 ps ss uH (tY%4)++aiX (tY%4))) (wh h! [] (aK ep))];rw[wz nI [] (aK es)]
 rw[wz (η (tY%4)) [] (gh (hm ns 39 []) Z2)]
 rw[d8];generalize tY%4=wait at ei en⊢
 rw[cV a5U (Gr C.aT aEo [(aB PX [az]),(aB PX [aI]),bw] [ry .dX,qo,EC,dh wait] []=.ok (ο 0) (auP 0)) (by
  unfold Gr;simp only[aJ,bq,bV,av,aX,aW,ag];rw[j9 (A_ false [h!] ([]:aL)) (.ok h! []) (by simp[A_];exact cc (by rw[fH])),ag,j9 (A_ false [nI] ([]:aL)) (.ok nI []) (by simp[A_];exact cc (by rw[fH]))]
  rw[ahZ];rw[ei,ag];rfl) (Cr (aQ [ο 0,ο 7]) (auP 0++aiX wait) ?_)];rw[pU,aJ,a5U,ag];simp only[aJ,bq,bV,av,aX,aW,ag];have a5V:aEp [h!,nI,η wait] (auP 0)=.ok (ο 7) (auP 0++aiX wait):=en;rw[cC a5V]
abbrev anz gz:Prop:=Ei/\x≠5000
def aP7:∀c∈([0,101,102,103,104,100,-3,-5,3,999999,7]:fD),anz c:=by
 intro y hy;rw[Nd (a46 y hy)];rw[HB hy];omega
abbrev ayw p5 cZ:Prop:=∀M B W o j ns k,tE C Y M B W o j->bR (B6 5000)->∃d,Pa anz d/\g [.dX ns,η k,ο 7] M=.ok (wZ d) M
def aYn{qy bN g7:D1}eS aaX aaY(hn:ayx g7):ayw C Y (Am (al3 qy (avy bN g7))):=λM B W o j ns k s h5=>by
 rw[t6 nm (LS (anz q.1)) (Xr q (s.nm q hq) (dW (by
  have:=WG s.f.I.kH;rw[e,h5]at this
  cases this))) (adV aP7 hm G s.w (qf (s.f.I.avb hr)) nm (ę G).tl λM k h hk=>Za h hk G.g.Bk (λM a x=>aiM a x M) (hn Y M W j k h (ę G) hk) aP7 nm (ę G).tl)]
abbrev aau kL D8:Sl:=í (pY Y W x t) (mU Y) (zi Y) Fw [(pq,[])]
abbrev aHV p5 cZ:Prop:=∀M B W o gz t,xt C Y M B W o->Ei->dG=eU->g [ο 0,η x] M=.ok (S! (aau Y W x t)) M
abbrev aHU p5 cZ:Prop:=∀M B W o gz,xt C Y M B W o->Ei->ajY->g [ο 0,η x] M=g_
abbrev aHT gc cZ:Prop:=∀M W j gz t,Hq->Ui Y M W j->dG=eU->g [ο 7,η x] M=.ok (S! (aau Y W x t)) M
def ky{bU:D1}{wN:Addr}fC(h:bU [ο 0,η x] M=g_)(a6c:C.dK≠wN):aE6 wN C.he C.dK C.rd bU [ο 0,η x] M=.ok (ju .ai) (M++[bW C.dK]):=by
 rw[NO aE6 P q (q=.ok (ju .ai) (M++[bW C.dK])) (VR .ah rfl)];rw[wG ?_]
 have e:DK [wN,C.dK,C.he,C.rd] 2 3 (uh bU) [aM,aV,Xn,none] M=.nx [aM,aV,iZ,none] (M++[bW C.dK]):=by
  unfold DK qv
  have e1:aB bU [aq,az] [aM,aV,Xn,none] M=g_:=by
   simp only[bV,aJ,bq,av,aX,aW,ag,h]
  rw[Io e1 Res.aJi]
  rw[cC aC0]
 rw[ia e (gN (Cr (ju .ai) (M++[bW C.dK]) ?_))];unfold anP;rw[NN];rw[j3 ZN]
 have:([CG wN,(C.dK,true),CG C.he,CG C.rd]:Xb).lookup C.dK=uB:=by
  rw[List.lookup_cons];rw[fy (show Hr C.dK wN from beq_eq_false_iff_ne.mpr a6c)]
 rw[this]
def a5x(l:eG):zS (bX l):=by
 intro y hy;rw[XZ k hy (mS _)]
def a5y(r:Sl):zS (S! r):=by
 cases r with
 |none=>exact Ol
 |some l=>exact a5x l
universe zE
universe Sb
universe zE
section
namespace Sb
open PySem L2
section
variable {C:eE}{Y:eJ}{o:dg}{M:aL}{B:cI}{W:bL}{j:Nat}{ρ:ej}{x:Int}{t:iM}
def aKm eS(T:Gv Y.rs aAk W.locks t):aqT 100:=by
 rw[jt Yv]
 ·rw[au h q4]
 ·obtain⟨r,k,hr,e,_⟩:=T.e8 h;have h1:=À e;rw[zE,List.length_drop]at h1;rw[eg akA]
def aKK eS(f:Hq)(ht:dG=eU):pq∈WV:=by
 rw[dm T (f.I.tr x t ht) (aKJ ?_)];unfold s4;cases h:t.ahead.getLast? with
 |none=>
  show akz ru;refine(f.J x t ht).ok _ ?_;unfold eB;cases hs:t.steps with
  |nil=>rw[nF hs T.ne]
  |cons a b=>rw[apT]
 |some s=>
  have hm:s∈t.ahead:=aOi
  obtain⟨r,k,hr,e,_⟩:=T.e8 (cK (by rw[z]at hm;cases hm))
  exact ax9 G hr s (List.mem_of_mem_drop (by rw[cA e (iA hm)]))
def aD7 eS:Lr (o_∈WV):=qf (aKJ (ax9 G hr _ (a2Q G hr)))
def a5z UQ eS aaY:aHT Y (Am (avK awl bN (avX lp))):=λM W j x t f h ht=>by
 rw[i6 T (f.I.tr x t ht) K (tok G f.I) (Zo (U:=WV) G h ht (ad6 T.ne) hb (qf (pL).ne) (e! (axd G.g.eY)) (aD7 G) λG' r a hr=>ZB (h.app G') f.I.kH ht (aKm G T) hr AR λp=>aSG (h.app G') K.nd K.sl (e! K.tl))];have:=aiz r _ (lP s hs);rw[au f.I.ln this]
def aJH(S:Lj):dG=(nr).map (·.tr):=by
 rw[S.trains,ZF];rfl
def a5A{KM jD bN bU O5 avd O6 avc ava:D1}eS aoH(KN:aal jD)(tw:aeV bN)abb aNm:
  aHV C Y (Zu C.tr C.aT KM (alI C.tr) jD (Am (alA C.aT O5 O6)) (Am (my C.aT (Am (alJ C.aT bN bU (Td bU))) bU jD)) (Td bU)):=λM B W o x t d hx ht=>by
 rw[cF T (d.f.I.tr x t ht) e (aJH (x:=x) d.S)];rw[ht]at e;rw[aqu tb hb rfl e.symm];have Zd:=G.g.eY;rw[gq hic (∀M dZ cH,aiA C Y M->jZ->Td bU [ο 0,η r,bX cH] M=.ok (.ai (XQ cH)) M) (λM r cH h0 hr=>lr (hw Y M _ r h0 hr) akA) DP (YW r (aea Y W x tb.tr)) (qf (aBc Vh)) h0 (∀G',aiA C Y (M++G')) (λG'=>(d.app G').y.y0)]
 have hf:=Tg (res:=aau Y W x tb.tr) (KM:=KM) (ali:=alI C.tr) (jD:=jD) (alj:=Am (alA C.aT O5 O6)) (alk:=Am (my C.aT (Am (alJ C.aT bN bU (Td bU))) bU jD)) (Um:=Td bU) G d hx hb T.ne (aKm G T) hca KN (λt M h1 h2 h3 h4=>adg h1 h2 h3 h4) (λe8=>acZ d Q Zd) (λr cH hr=>hic M r cH d.y.y0 hr) (dJ hbd)
 ·rw[hf];cases hbd:mU Y (gv (s4 tb.tr)) with
  |true=>rw[Ik aau (a0H hbd)]
  |false=>rfl
 ·rw[cV Bt (gE (aea Y W x tb.tr) 4194304) (acd (by rw[List.length_range];rw[eg G.len])) (ado (U:=WV) (tk:=B.ticks) h0 hw KN G.le DP (qf (pL).ne) (qf (aD7 G r (DP r hr))) (aKK G d.f ht) (e! (axd Zd)) (c! G' s) (λR=>a0D R) (a3U G (aD7 G) (aKK G d.f ht) hbd))];exact adj (B:=B) (λa7Y=>by rw[aBO (h0 _)]) G.le tw hw hic DP (qf (pL).ne) Bt
def a5B azs aoH:aHU C Y (Zu C.tr C.aT KM ali jD alj alk Um):=λM B W o x d hx ht=>by
 have e:=aJH (x:=x) d.S;rw[bG ht e (aU9 d hx (Option.map_eq_none_iff.mp e.symm) hca)]
universe zE
universe Sb
universe zE
section
namespace Sb
open PySem L2
section
variable {C:eE}{Y:eJ}{o:dg}{M:aL}{B:cI}{W:bL}{j:Nat}{ρ:ej}{x:Int}{t:iM}
def aHP{P:Type} [V5] br{nx:P->mj}{b:ow P}{en:p! P}:∀(k m:Nat)(L:lG)(w:eG),(∀e∈L,lI e.2≤m)->cu (sX n nx b en k L) w->YX (m+k)
 |0,m,L,w,_,h=>by cases h
 |k+1,m,L,w,hL,h=>by
  rw[sX]at h;cases hf:at4 (λx=>b x.1) with
  |some e=>
   rw[hf]at h;cases h;rw[eg (hL e (List.mem_of_find?_eq_some hf))]
  |none=>
   rw[hf]at h
   rw[eg (aHP k (m+1) _ w (λe he=>by
    rw[agA e' Uu hm (TA he).1]
    rw[q6 r hr hm]
    have:=hL e' Uu
    simp only[List.length_append,List.length_singleton]
    omega) h)]
def aJI gA:∀l:qU,bools (l.map λ_=>ath)=aY (l.map λ_=>false)
 |[]=>rfl
 |a::l=>by
  rw[bB,bB,bools,aJI l];rfl
def a2R G7:fi true (.ai b) (.ai b) M=.ok (qa .ai) M:=by cases b<;>with_unfolding_all rfl
def a3W gX(h:zS x):fi true x x M=.ok (qa .ai) M:=by
 rw[cC (ZM (p:=True) h h Θ)]
abbrev zl BG(y3 y4 y5 y6 y7 y8 qH:qW):ej:=[ry .dX,aM,aR,y3,y4,y5,y6,y7,y8,qH]
def Ds{gs qy aQu gd ga bU gl g7:D1}BG(hs:∃Y M,tN/\gs [.dX ns] []=.ok (aQ [ο 0,ο 7]) M/\St C Y M (l_ Y))aaX(aEz:∀Y,tN->ayw C Y aQu)(hd:∀Y,tN->anw C Y gd)(ha:∀Y,tN->anb C Y ga λk=>.ai (ZI k))
  (hw:∀Y,tN->aHV C Y bU)(hn:∀Y,tN->aHU C Y bU)(hl:∀Y,tN->aHT Y gl)(alo:∀M,bU [ο 0,η 5000] M=g_->g7 [ο 0,η 5000] M=.ok (ju .ai) (M++[bW C.dK])):∃M',uk gs qy aQu gd ga bU gl g7 [.dX ns] []=.ok (ju .ai) M':=by
 obtain⟨Y,aeR,G,es,Hn⟩:=hs;rw[NO uk P r (∃M',r=.ok (ju .ai) M') (cj (aah (aQ [ο 0,ο 7]) (zl ns none none none none none none none) aeR ?_ afb eu))]
 ·simp only[bV,aJ,bq,av,aW,ag,es]
 rw[Cq n hn1 KR (at5 (IJ 38) m 31 aZ) hi (jG [(Mr qy [aq,(Ξ 38)] (Ξ 31))] (zl ns none none none none none none none) aeR=.ok (JI (sO).map,none) aeR) (XK (by unfold zl;simp[hm ns 38 aeR,Z2,hn1]))];generalize jG [(Mr qy [aq,(Ξ 38)] (Ξ 31))]=gr at hi⊢
 refine cj (CE (jJ (k:Nat) k) ((∃y3 y4 y5 y6 y7 y8 qH,ρ=MW y6 y8 qH)/\∃W,St C Y M' W/\bR (B6 5000)) sO aeR hi (M_ ⟨_,_,_,_,_,_,_,rfl⟩ _ Hn))
 ·rintro pre k post hx ρ M ⟨⟨y3,y4,y5,y6,y7,y8,qH,rfl⟩,W,⟨B,o,j,s⟩,h5⟩;refine wo (zl ns ko y4 y5 y6 y7 y8 qH);rw[E8 d aQH ed (aEz Y G M B W o j ns (60+2*aS k) s h5) w i x d];rw[Qa GR Hl aQH.1 zK (anz x) aQH.2 (aah (wZ (w,i,x)) (zl ns ko Rz yo aV y7 y8 qH) M ?_ a49 eu)]
  ·unfold zl;simp only[bV,aJ,bq,ao,av,bb,aX,aW,ag,a48,aHZ,ed]
  rw[aqv aa M2 e1 e2 rO (step (w:=w) (i:=i) (x:=x) G (hd Y G) (ha Y G) s GR zK.1) (xU .ai (ZI (jB Y W w i x)) aa)]
  ·unfold zl;simp only[ao,bV,aJ,bq,av,bb,aX,aW,ag,e1,a3V]
  rw[Ai (Body none _ _ (eN _ _ _ (zl ns ko Rz yo aV (z7 .ai (ZI (jB Y W w i x))) y8 qH) aa)) (tI M2 ?_ (dy (j4 ⟨⟨_,_,_,_,_,_,_,rfl⟩,_,rO,?_⟩)))]
  ·unfold zl;simp only[dD,ao,bV,aJ,bq,av,aX,aW,ag,e2,a2R]
  ·rw[au (aJE (show aS 5000≠x from dW (zK.2 e.symm))) h5]
 ·rintro ρ' M ⟨⟨y3,y4,y5,y6,y7,y8,qH,rfl⟩,W,⟨B,o,j,s⟩,h5⟩;refine Yt;rw[cF eX (s.w.ix (ρ:=MW y6 y8 qH) (d:=aI) rfl oN) hk (keys_eq s.w.jl eX)];rw[yS aeA hk (Z! s.w.jl hk ?_)];rw[gq xo (akg (Yw .bO) 10 .bO) (get_set s.w.jl) hZ (Ui Y (Yw .bO) W j) ⟨j5 s.w.jE,x! (Ne.symm s.w.TQ.2.2) s.w.wl,xo⟩ hY (xt C Y (Yw .bO) B W o) (s.aT.keep Θ λi hi ho=>rA (dW (ho (by rw[fq e (s.sep 10 (by unfold aee;simp))]))))]
  have a6b:=hn Y G M B W o 5000 s.aT ⟨aZ,aZ⟩ h5;generalize a58:LF 10 (fB.bO ou)=aJw at hk xo hZ hY⊢;refine kC (λq:Int×iM=>aj.int q.1) (z4 ((∃y6 y8 qH,ρ=MW y6 y8 qH)/\M'=aJw)) W.trains _ aJw hk xo (gg (M_ _ _ _)) ?_ ?_
  ·rintro pre q post hx ρ M' ⟨⟨aGn,awI,amG,rfl⟩,rfl⟩;rw[ahM (MW qb awI amG) hq (q∈W.trains) (by rw[n!])]
   rw[cF aQF (WG s.f.I.kH) fN (hw Y G M' B W o q.1 q.2 hY (s.nm q hq) aQF)];rw[fu el (hl Y G M' W j q.1 q.2 s.f hZ aQF) hlen (∀w,cu (aau Y W q.1 q.2) w->aDj) (λw hr=>by
    have:=aHP _ 0 _ w Θ hr;rw[eg G.len])]
   generalize aau Y W q.1 q.2=res at fN el hlen;refine rm PS M'
   ·unfold zl;simp only[bV,aJ,bq,av,aX,aW,ag,fN]
   rw[Ai (Body _ _ _ (lz _ _ (MW qb Nm amG) M')) (rm PS M')]
   ·unfold zl;simp only[bV,aJ,bq,av,aX,aW,ag,el]
   rw[Ai (Body _ _ _ (lz _ _ (MW qb Nm Nm) M')) (cj (RW I0))]
   ·rw[Z4,dD];unfold zl;rw[Je ao av bb (a3W (a5y res))];rw[nC];rw[A8,dD];simp only[ao,av,bb,aX,aW,ag];cases res with
    |none=>rfl
    |some w=>rw[af7]
   ·rw[ME (RW (dy (A2 xo (gg (M_ _ _ _))))) lZ (an4 jf vV (MW qb Nm Nm) M'=.ok (ς (R6 (Qq).map n n)) M') (by
     have e0:PY [] (MW qb Nm Nm) M'=.ok (ς []) M':=by rw[iU nL bq ag];exact cc q4
     rw[Yo an4 (ym (ae 8 (MW qb Nm Nm) M') (.ok PS M')) e0]
     cases res with
     |none=>rfl
     |some w=>cases w<;>rfl) avf (gE Qq 4194304) (by
     cases res with
     |none=>exact q4
     |some w=>exact hlen w rfl)]
    rw[i9,bV,aJ,JV Qq M' (jJ (n:Nat) n) (λ_=>ath) (j8 [y]) (ig lZ) (nu r) (e! avf)]
    ·rw[show AI Qq x9=Qq from agz _ _ rfl,fL (by rw[Df avf])]
     rw[wD bq];rw[sf aav];rw[ym (Ka M' (ς ((Qq).map λ_=>ath))) (d7 (Qq).map (λ_=>ath)),Option.bind_some,aJI]
     have:cW (((Qq).map λ_=>false).any id):=by
      rw[List.any_eq_false];intro b hb;obtain⟨_,_,rfl⟩:=List.mem_map.mp hb;simp
     dsimp only;rw[ag,this];rfl
    ·rw[WL y _ _ _ cS]
  ·rintro ρ'' M' ⟨⟨aGn,awI,amG,rfl⟩,rfl⟩;rw[iC xo eu];rw[←a58,Tq s.w.jl];refine yi (ju .ai) (M++[bW C.dK]) (fS lT);unfold zl;simp only[bV,aJ,bq,av,bb,aX,aW,ag,alo M a6b]
universe zE
universe Sb
universe zE
section
namespace Rw
open PySem L2 Sb PySem.W
structure Top á(gT aGx k9 gS k! kD cT ck:Addr):Prop where
 aQX:Uk K mg "BadYard" gT
 aTn:Uk K mg "Held" k9
 aEN:Uk K mg "NotThere" gS
 Nw:Uk K mg "Red" k!
 aVa:mg "NotThere" = n7 gS
 aRf:Catch K mg "BoxError" aGx [gT,gS,k9,k!]
 aVb:aD0 K (Δ gS) [CG gT,(gS,true),CG k9,CG k!]
 a5J:aSU gT gS k9 k!
 avZ:Oe K kD "near"
 aRB:Oe K kD "until"
 N4:Oe K cT "ahead"
 km:Oe K cT "is_out"
 eQ:Oe K cT "steps"
 aEH:J5 "falls"
 alS:J5 "found"
 aEI:J5 "greens"
 aQ3:J5 "locks"
 avS:J5 "lying"
 au5:J5 "pieces"
 alL:J5 "signals"
 alT:J5 "ticks"
 aEn:J5 "trains"
 aFA:J5 "wait"
 aKL:C3 "any"
 a2S:C3 "bool"
 aGI:C3 "enumerate"
 aKM:C3 "int"
 aFm:C3 "isinstance"
 alb:C3 "len"
 aQ7:C3 "list"
 a3X:C3 "max"
 aKN:C3 "min"
 aEP:C3 "range"
 aVc:C3 "reversed"
 a0I:C3 "tuple"
 a7H:∃t:Tok,mg "LAST_JOINT" = sq η 999 t
 a7w:∃t:Tok,mg "MOST_PIECES" = sq η 16 t
 a7q:∃t:Tok,mg "MOST_SIGNALS" = sq η 16 t
 aUk:cJ "joints_of" Zp QF
 aUl:cJ "pieces_at" Tf ato
 aSt:cJ "piece_beyond" Y! ajp
 aUm:cJ "is_border" lL ajp
 aTo:cJ "joints_out" Zr asN
 aUn:cJ "is_points" adf QF
 aWk:cJ "lie_for" ady aC5
 aTp:cJ "check_yard" ada V8
 aSu:cJ "check_pieces" acQ ["pieces"]
 aSv:cJ "check_joints" acR (ahv "joints")
 aSg:cJ "check_signals" acV V8
 aTq:aeB K mg "Train" cT "Train.__init__" adb ["self"]
 aSw:cJ "pieces_under" Y? VX
 aUo:cJ "last_step" adg VX
 aYh:cJ "turned" adL EX
 aYi:cJ "routes" adM V8
 aHQ:cJ "ways_on" al4 ["pieces","signals","way","joint","piece"]
 aUp:aeB K mg "Yard" ck "Yard.__init__" Zn atz
 aSy:ane K ck "lock_of" "Yard.lock_of" mf akm
 aSh:ane K ck "train_in" "Yard.train_in" avp akm
 aUq:aeB K mg "Fall" kD "Fall.__init__" adh ["self","until","near"]
 Jn:agR "set_route" adi
 aYj:agR "cancel" adN
 a2T:cJ "tick" ael ["yard"]
 a0J:atn "throw" ad3
 aYk:Lv "unlock" adO "steps"
 aUr:agR "signal_of" alV
 aYN:agR "way_of" ami
 aSz:Lv "is_at_border" aly "signal"
 aSA:Lv "signal_ahead" acS "train"
 aTr:Lv "train_near" kt "signal"
 aSB:aiC "train_called" acT
 aSH:agR "check_route" acX
 aSI:atn "check_piece" acY
 aSC:atn "check_points" acU
 aSD:Lv "check_signal" acP "signal"
 aSE:cJ "is_number_of" avF ["things","number"]
 a7R:atn "check_not_held" acJ
 aWl:aiC "way_out" Tg
 aSJ:cJ "shut_pieces" acZ (aqW "ahead")
 aVd:cJ "is_clear" lr atq
 aVe:cJ "shortest" ado (ar0 "last")
 aUs:cJ "routes_on" adj (ar0 "end")
 a0K:cJ "enter" ad4 ar2
 a5C:aiC "go" aaq
 a2U:aiC "draw" aem
 a2V:aiC "turn" Z6
 aTs:cJ "route_past" ade ar2
 aSK:cJ "pass_signal" ac0 aDm
 aWm:Lv "come_on" oT "train"
 aYO:cJ "_law_cell" adP ahe
 a0L:cJ "_law_mix" ad5 ahe
 aVf:cJ "_law_beyond" Te aK8
 aVg:cJ "_law_pieces" N? aOS
 aUt:cJ "_law_signals" adk aLe
 aYP:cJ "_law_outs" pd ass
 aIH:cJ "_law_ways" amj aLb
 aVh:cJ "_law_routes" Zy aPA
 a0o:cJ "_law_new" ZY aOU
 aRC:cJ "_law_train_in" J! SQ
 aYQ:cJ "_law_held" adQ SQ
 aYR:cJ "_law_free" ZQ Lw
 XB:cJ "_law_set" ZZ Lw
 aYS:cJ "_law_near" adR aqH
 aVi:cJ "_law_cancel" lx Lw
 aYT:cJ "_law_tick" adS ["_law_world"]
 aWn:cJ "_law_throw" adz SQ
 aYU:cJ "_law_pass" pf aOV
 aVX:cJ "_law_enter" adA aO9
 a2W:cJ "_law_go" aen SJ
 aYV:cJ "_law_draw" adT SJ
 aYW:cJ "_law_turn" Tj SJ
 aVY:cJ "_law_there" adB ahD
 aYX:cJ "_law_done" adU ahD
 aVZ:cJ "_law_asked" adC aLu
 aSj:cJ "_law_near_deeds" Za aqH
 aYY:cJ "_law_deed" adV ["_law_script","_law_k","_law_world"]
 aV0:cJ "_law_start" adD È
 a0p:cJ "_law_end" ad6 ["_law_train"]
 aV1:cJ "_law_clear" ZB aLf
 aUu:cJ "_law_way_out" Zo SJ
 aTt:cJ "_law_no_train" ky ["_law_yard","_law_name"]
section
variable {z:aod}{gT aGx k9 gS k! kD cT ck:Addr}(T:Top z.K z.mg gT aGx k9 gS k! kD cT ck)
include T
omit T in theorem aTu:cD QF QF Zp:=bD
def aRD:aps (k+1) 1 (Dm):=EM T.aUk aTu (CA Ċ (fm (NQ (af 0))))
omit T in theorem aTv:cD ato ato Tf:=bD
omit T in theorem alM:jg ["number","piece","joint"]:=dP
def aRE aox:d! "pieces_at" (Zk Dk):=EM T.aUl aTv (I! (Qt (aw Tf) ato ["number","piece","joint"] [none,none,sC]) (aJn (af 0) T.aGI) (C_ (aQ1 (bS alM).calm (sR (apI 0 (bS alM).nd) (I5 (apI 1 (bS alM).nd))))) (yb (iy (oQ (bS alM).hu) (af 2) (Ec S9 hr (bS alM).mT (ef 1)))))
omit T in theorem aRS:cD ["pieces","number","joint","other"] ajp Y!:=bD
def tq aM5:apu (k+1) (alD acW):=sd T.aSt aRS (Ŧ (Fs alN) (Fi WW (af 3) (af 1) (fW (af 3)))) (uz ew)
omit T in theorem aTw:cD ajp ajp lL:=bD
def aTx aoI:aAd (k+1) (avP Di):=EM T.aUm aTw (qz Dy (Ju eh (ef 2)) ew)
omit T in theorem aSL:cD asN asN Zr:=bD
omit T in theorem aRl:jg ["other","joint"]:=dP
def aSM aox:d! "joints_out" (alz Dk):=H8 T.aTo aSL (cq G.hu) (bM 0) cN (fW (I! (aj3 (aw Zr) asN ["other","joint"]) (kZ (QK S9 0)) (iX (bS aRl).nd) (yb (Jy (ZC (bS aRl).hu))))) (L_ (Rq (cq G.hu) (bM 0) (fW (zZ (Ig (bM 0) 0)))) (zZ (B8 0)))
omit T in theorem aTy:cD QF QF adf:=bD
def aTz:aq4 (k+1) (nz):=EM T.aUn aTy (qz (cq G.hu) (bM 0) cN)
omit T in theorem aVj:cD aC5 aC5 ady:=bD
def aVk(adm:aq4 k ka):d! "lie_for" (avU ka):=Ch T.aWk aVj (YN (Cd (ze (bt (QK adm 0)) (iq (iy (oQ G.hu) (bM 0) (NQ (af 1))))) qq) qq)
omit T in theorem aSY:cD V8 V8 ada:=bD
def aSZ(aE8:aBy k aE2)(ox:er "check_signals" og):d! "check_yard" (mn aE2 og):=Qf T.aTp aSY (QK aE8 0) (atU ox)
omit T in theorem aRT:cD (ahv "piece") ["pieces"] acQ:=bD
def aRU(aEX:er "check_joints" aE3)aox:aBy (k+1) (avr gT aE3 Dk):=H8 T.aSu aRT (cq G.hu) (sE 0) bT (iD (aXQ T.aQX hr (An cN))) (uF (Cc TM (sE 0) aOW (Qh (jh (y_ aOW (jh uP))))) (Vy (af 0) (dU 1) (x_ (B3 aEX (QK S9 1)))))
omit T in theorem aRV:cD ["pieces","joints","joint"] (ahv "joints") acR:=bD
def aRW aM5:d! "check_joints" (avs gT acW):=Ch T.aSv aRV (Vy (af 1) (dU 2) (n8 (Cd (ra (iy aer (af 2) bT) (A! (iy TM (af 2) aOX))) (Qh (jh (XR (jh (y_ aOX uP)))))) (Cc TM (mm PySem.F.slot_list_count PySem.F.type_list_count (aHr G.hu) (af 1) (ef 2)) bT (Qh (jh (XR (jh uP))))) (Fi TM (Ī (Fs alN)) bT (Qh (jh (XR uP))))))
omit T in theorem a7S:cD ["pieces","signals","joint","number"] V8 acV:=bD
def a7T aox:d! "check_signals" (avn gT Dk):=H8 T.aSg a7S TM (sE 1) aOY (Qh (jh (y_ aOY (jh uP)))) (Vy (af 1) (yI (sR (dU 2) ab1)) (EO TM (mm PySem.F.slot_list_count PySem.F.type_list_count (aHr G.hu) (af 1) (Wb (vQ (af 2) 3))) bT (Qh (jh (XR (jh (y_ (af 3) uP))))) (Cd (ra (iy aer (af 3) bT) (A! (iy aJ6 (af 3) (sE 0)))) (Qh (jh (y_ (af 3) (jh uP))))) (Fi Nj (af 2) (Ec S9 hr G.mT (fm (vq 0 (af 3)))) (Qh (jh (y_ (af 3) (jh (XR uP))))))))
omit T in theorem aS0:cD ["self"] ["self"] adb:=bD
def aS1:In z (k+1) "Train" cT 1 (avG cT):=s9.go T.aTq aS0 λ_ _ _ _ _ _ _ hr G=>(n8 (tW T.eQ (xZ tP)) (tW T.N4 (xZ tP)) (iD (tW T.km uR)))
omit T in theorem aRX:cD VX VX Y?:=bD
omit T in theorem aRc:jg EX:=dP
def aRY:aBz (k+1) (avt cT):=EM T.aSw aRX (NI (C8 (aw Y?) VX EX) (kZ (oj T.eQ)) (iX (bS aRc).nd) (QT (bS aRc).hu))
omit T in theorem aTA:cD VX VX adg:=bD
def aTB:aCg (k+1) (alI cT):=sd T.aUo aTA (CY (oj T.N4) (fW (arv T.N4 IS))) (fW (rg (oj T.eQ)))
omit T in theorem aV2:cD EX EX adL:=bD
def aV3:Ad (k+1) "turned" (sk):=EM T.aYh aV2 (mP (vP (bM 0) (bM 0) (B8 0)))
omit T in theorem aV4:cD ["pieces","signals","told","number","signal","way"] V8 adM:=bD
def aV5(aFn:er "check_yard" aFq)(aGy:asm k 5 ZD):d! "routes" (aFN aFq ZD):=Qf T.aYi aV4 (nk aFn) (rf 2 (xZ tP) (Ie (aJn (af 1) T.aGI) (yI (sR (dU 3) (I5 (dU 4)))) (Vy (Ju aGy (vP ye (bM 4) (B8 4))) (dU 5) (FY (af 2) (Wb (vQ (af 3) 5))))) (Xg (af 2)))
omit T in theorem aGZ:cD ["pieces","signals","way","joint","piece","found","out","longer","beyond"] ["pieces","signals","way","joint","piece"] al4:=bD
omit T in theorem aRF:jg EX:=dP
def aVl(aTC:er "joints_out" aFr)aoI(aGy:asm k 5 ZD):asm (k+1) 5 (aRN aFr Di ZD):=H8 T.aHQ aGZ (oQ G.hu) (af 4) (NI (C8 (aw al4) ["pieces","signals","way","joint","piece","found","out","longer","beyond"] EX) (kZ (af 2)) (iX (bS aRF).nd) (QT (bS aRF).hu)) (fW ye) (rf 5 (xZ tP) (Ez (L1 aTC (vq 0 (af 4)) 3) (dU 6) (kc 7 (sJ (af 2) (Ō (Mb (af 4) (af 3) 6))) (SU 8 (Ax eh (af 4) (ef 6)) (F? (ŭ (iy Dy (af 8) ew) (A! (iy (oQ G.hu) (mP (vQ (af 6) 8)) (af 1)))) (FY (af 5) (ef 7)) (x_ (mm PySem.F.slot_list_extend PySem.F.type_list_extend aUR (af 5) (fm (Ju aGy (Mb (af 7) (af 6) 8))))))))) (Xg (af 5)))
omit T in theorem aTD:cD atz atz Zn:=bD
omit T in theorem aSk:jg QF:=dP
def aTE(aw7:er "routes" awU):In z (k+1) "Yard" ck 4 (aFb ck awU):=s9.go T.aUp aTD λ_ _ _ _ _ _ _ hr G=>(ą (tW T.alS (L1 aw7 (af 1) 2)) (tW T.au5 (CA Ċ (ef 1))) (tW T.alL (CA Ċ (ef 2))) (tW T.aFA (af 3)) (ą (tW T.alT bT) (tW T.aQ3 ad9) (tW T.avS (Y_ true (C8 (aw Zn) atz QF) G.calm (kZ (af 1)) (iX (bS aSk).nd) (ku _ N6) (ku _ cN))) (tW T.aEI ad9) (uF (tW T.aEH ad9) (iD (tW T.aEn ad9)))))
omit T in theorem aRZ:cD akm akm mf:=bD
def aR0(N5:aCx Gd):ant z (k+1) ck "lock_of" 2 (avu ck Gd):=Kt.go T.aSy aRZ λ_ _ _ _ _ _ _ hr G=>(L_ (Ga (nk N5)) (aH3 G.hu auA (af 1)))
omit T in theorem zr:cD ["self","piece","name","train"] akm avp:=bD
def zt(N5:aCx Gd)(aEY:aBz k kb):asi z (k+1) ck 2 (alx ck Gd kb):=Kt.go T.aSh zr λ_ _ _ _ _ _ _ hr G=>(n8 (Ga (nk N5)) (si (Ie (awS ţ) (yI (sR (dU 2) ab1)) (Fi (oQ G.hu) (af 1) (QK aEY 3) (fW (af 2))))) (uz ew))
omit T in theorem aTF:cD ["self","until","near"] ["self","until","near"] adh:=bD
def aTG:In z (k+1) "Fall" kD 3 (avI kD):=s9.go T.aUq aTF λ_ _ _ _ _ _ _ hr G=>(uF (tW T.aRB (af 1)) (iD (tW T.avZ (af 2))))
omit T in theorem aTH:Cm ["yard","route","way","step"] "route" (aw adi):=bD
def aTI(ac2:er "check_route" Zl)aaN(gL:aPw fI)(aGz:er "lie_for" aF6)(Dr:aCc wR):d! "set_route" (ac1 ck Zl nN fI aF6 wR):=Qf T.Jn aTH (nk ac2) (kc 2 (nk uN) (n8 (Ŧ (af 2) (x_ (Sy gL (B8 3)))) (Ŧ (af 2) (uF (Lu auA (bM 3) (af 1)) (Ñ (oj T.avS) (bM 3) (L1 aGz (arv T.au5 (bM 3)) 3)))) (Ñ ai4 (nk Dr) (af 1))))
omit T in theorem aV6:Cm ["yard","route","signal","near"] "route" (aw adN):=bD
def aWI(ac2:Et (k+1) "check_route" Zl)(Dr:Et (k+1) "signal_of" wR)(aFo:Et (k+1) "train_near" aFs)aLK(aUv:In z k "Fall" kD 3 ub)(Du:Et (k+1) "unlock" wX)(uN:Et (k+1) "way_of" nN):Et (k+2) "cancel" (Zv kD gS ck Zl wR aFs J9 ub wX nN):=Qf T.aYj aV6 (nk ac2) (kc 2 (nk Dr) (EO WW (aH3 G.hu ai4 (af 2)) (af 1) (iD (N3 T.aEN hr (jh (y_ (af 1) uP)))) (Ga (abi ai4 (af 2))) (SU 3 (Fs aFo) (F? (Xj (iy TM (oj T.aFA) bT) (iq (ŭ (iy Tv (af 3) ew) (A! (bt (Fs S_)))))) (Ñ š (af 1) (aJs aUv hr G.mT (vQ (sJ (oj T.alT) (oj T.aFA)) 3))) (x_ (B3 Du (nk uN)))))))
omit T in theorem a0q:cD (Vd "route") ["yard"] ael:=bD
def a0r(Du:aDO wX)aaN:Ad (k+1) "tick" (xp kD ck wX nN):=sd T.a2T a0q (tW T.alT (agU (oj T.alT))) (Vy (CA ajk (fm š)) (dU 1) (abp (S7 T.aRB (Wx T.aEH)) (oj T.alT) (aja (abi š (af 1)) (x_ (B3 Du (nk uN))))))
omit T in theorem aYZ:att (aw ad3):=bD
def aY0(aEZ:er "check_points" kd)(gL:aPw fI):d! "throw" (adt ck kd fI):=Qf T.a0J aYZ (nk aEZ) (aja (nk gL) (Ñ (oj T.avS) (af 1) (Kr (HL (Wx T.avS) cN) cN cN)))
omit T in theorem aWJ:Cm (Wm "steps" "step") "steps" (aw adO):=bD
def aWK:d! "unlock" (Zw ck):=Ch T.aYk aWJ (Vy (af 1) (dU 2) (x_ (abi auA (bM 2))))
omit T in theorem aTJ:aDn (aw alV):=bD
def aTh:d! "signal_of" (alH ck):=EM T.aUr aTJ (rg (Wx T.alS))
omit T in theorem aWL:aDn (aw ami):=bD
def aWM:d! "way_of" (al1 ck):=EM T.aYN aWL (rg (Wx T.alS))
omit T in theorem aR1:Cm (Wm "signal" "place") "signal" (aw aly):=bD
def aR2 aoJ:d! "is_at_border" (alE ck Dl):=oE T.aSz aR1 2 (Wx T.alL) (fW (L3 N8 Qd (bM 2) 2))
omit T in theorem aR3:Cm ["yard","train","head","place"] "train" (aw acS):=bD
def aR4 aoI:d! "signal_ahead" (avv cT ck Di):=oE T.aSA aR3 2 (rg (S7 T.eQ (af 1))) (rf 3 (mP (Ag (bM 2) (L3 eh Qd (bM 2) 2))) (Cc (oQ G.hu) (af 3) (oj T.alL) (fW (mm PySem.F.slot_list_index PySem.F.type_list_index (aHs G.hu) (oj T.alL) (ef 3)))) (uz ew))
omit T in theorem Ee:Cm ["yard","signal","name","train"] "signal" (aw kt):=bD
def aS2 aNy:d! "train_near" (mr ck acK):=sd T.aTr Ee (si (Ie (awS ţ) (yI (sR (dU 2) ab1)) (abp (Sz alF 3) (af 1) (fW (af 2))))) (uz ew)
omit T in theorem aR5:Cm (Vd "name") "name" (aw acT):=bD
def aR6:d! "train_called" (avw gS ck):=H8 T.aSB aR5 Nj (af 1) ţ ajL (fW (Wx T.aEn))
omit T in theorem aSl:aDn (aw acX):=bD
def aSm(fo:aBw Gb):d! "check_route" (aET gS ck Gb):=Ch T.aSH aSl (atH (bt (L1 fo (oj T.alS) 1)) ajL)
omit T in theorem aSn:att (aw acY):=bD
def aSo(fo:aBw Gb):d! "check_piece" (aEU gS ck Gb):=Ch T.aSI aSn (atH (bt (L1 fo Qd 1)) ajL)
omit T in theorem aR7:att (aw acU):=bD
def aR8(N5:aCx Gd)(adm:aq4 k ka):d! "check_points" (avx gS ck Gd ka):=Qf T.aSC aR7 (nk N5) (atH (bt (Ec adm hr G.mT (fm (Wx T.au5)))) ajL)
omit T in theorem aR9:Cm (Vd "signal") "signal" (aw acP):=bD
def aSa(fo:aBw Gb):d! "check_signal" (aEO gS ck Gb):=Ch T.aSD aR9 (atH (bt (L1 fo (oj T.alL) 1)) ajL)
omit T in theorem aSb:cD ["things","number"] ["things","number"] avF:=bD
def aSc:d! "is_number_of" dE:=EM T.aSE aSb (aym (qz aJ6 (af 1) bT) (yA (qz aer (af 1) (sE 0))))
omit T in theorem a7I:att (aw acJ):=bD
def a7L(oy:asi z k ck 2 Zc):d! "check_not_held" (avo k9 ck Zc):=H8 T.a7R a7I (oQ G.hu) (af 1) auA auR (Fi Tv (ayo oy hr G.mT (af 0) (ef 1)) ew auR)
omit T in theorem aVm:as5 ["yard","name","train","last","shut"] (aw Tg):=bD
omit T in theorem aRG:jg EX:=dP
omit T in theorem aRH:jg ["route","yard","shut"]:=dP
def aVn aon(aFB:aCg k aFI)aoJ(aFe:aCy k aFd)(aF3:aCt k aFR)(adq:aqD k Zx):d! "way_out" (Zu cT ck cb aFI Dl aFd aFR Zx):=ahR T.aWl aVm 2 dA (rf 3 (QK aFB 2) (CY (L3 N8 Qd (bM 3) 3) (fW ye)) (kc 4 (Ju aFe (fm (NI (C8 (aw Tg) ["yard","name","train","last","shut"] EX) (kZ (WD T.N4)) (iX (bS aRG).nd) (QT (bS aRG).hu)))) (fW (Ax aF3 (af 3) (fm (I! (Qt (aw Tg) ["yard","name","train","last","shut"] ["route","yard","shut"] [none,M?,some 4]) (aEK T.aEP (fm (Ī (oj T.alS)))) (iX (bS aRH).nd) (yb (bt (Ec adq hr (bS aRH).mT (xF (af 1) (Hx (ef 2))))))))))))
omit T in theorem aSp:cD ["yard","name","ahead","shut","piece","locked"] (aqW "ahead") acZ:=bD
def aSq(aSQ:ant z k ck "lock_of" 2 aE5)(oy:asi z k ck 2 Zc):aCy (k+1) (alA ck aE5 Zc):=oE T.aSJ aSp 3 (xZ tP) (L_ (Qi (fm (Ī Qd)) (dU 4) (Ô 5 (aym (qz Tv (ayo aSQ hr G.mT (af 0) (ef 4)) ew) (yA (qz Nj (af 4) (af 2)))) (ra (bt (af 5)) (A! (iy Nj (ayo oy hr G.mT (af 0) (ef 4)) (mP (vQ ew 1))))) (FY (af 3) (ef 4)))) (aRj (af 3)))
omit T in theorem aUw:cD atq atq lr:=bD
omit T in theorem aFf:jg ["step","pieces"]:=dP
def aUx aaN:aqD (k+1) (Td nN):=EM T.aVd aUw (qz (cq G.hu) (Ī (I! (VB (aw lr) atq ["step","pieces"] 2) (kZ (nk uN)) (iX (bS aFf).nd) (yb (iy (oQ (bS aFf).hu) (VD (bS aFf).hu bT) (af 1))))) bT)
omit T in theorem aUy:cD ["yard","last","usable","reached","seen","further","end","taken","route","step"] (ar0 "last") ado:=bD
def aUz(aFC:aCd k aFJ)aaN aoJ:aCt (k+1) (my ck aFJ nN Dl):=oE T.aVe aUy 3 (Ō (Ag (af 1) ye)) (rf 4 (aXF (mP (Ig (bM 1) 1)) uR (ara (Nat.add_le_add_left aZ _) G.hu)) (aXD 1000 G.own (bt (af 3)) (rf 5 (xZ tP) (Ez (af 3) (yI (sR (dU 6) (I5 (dU 7)))) (Vy (Ax aFC (af 6) (ef 2)) (dU 8) (rf 9 (HG (Sz uN 8) IS) (CY (L3 N8 Qd (bM 9) 9) (fW (atW (af 7) 8))) (Fi Nj (mP (Ig (bM 9) 9)) (af 4) (uF (Lu (af 4) (mP (Ig (bM 9) 9)) uR) (FY (af 5) (Wb (Ag (af 9) (atW (af 7) 8))))))))) (Vx 3 (af 5)))) (uz ew))
omit T in theorem aTi:cD ["yard","end","usable","beyond","found","route","first"] (ar0 "end") adj:=bD
def aTj aoI aaN(adq:aqD k Zx):aCd (k+1) (alJ ck Di nN Zx):=oE T.aUs aTi 3 (L3 eh Qd (bM 1) 1) (rf 4 (xZ tP) (Ez (af 2) (dU 5) (Ô 6 (rg (Sz uN 5)) (ze (HL (mP (Ig (bM 6) 6)) (mP (Ig (af 3) 1))) (iq (bt (Ax adq (af 5) (fm (zZ (B8 1))))))) (FY (af 4) (ef 5)))) (Xg (af 4)))
omit T in theorem aY1:cD ["yard","name","signal","route","train"] ar2 ad4:=bD
def aY2(aE0:Et (k+1) "check_signal" ke)aLK(ac8:aqQ (k+1) Zs)(aTk:In z k "Train" cT 1 sv)(ac3:aqI (k+1) Zm):uw (k+2) "enter" (awn k9 gS cT ck ke J9 Zs sv Zm):=Qf T.a0K aY1 (Fs aE0) (n8 (F? (ZS (bt (Fs S_))) (iD (N3 T.aEN hr (jh (XR (jh uP))))) acm) (Rq (oQ G.hu) ţ auR) (kc 3 (Ju ac8 (ef 2)) (rf 4 (aXR aTk hr G.mT) (Ga (Ax ac3 (af 4) (ef 3))) (Ñ ţ (af 1) (af 4)))))
omit T in theorem a3Y:as5 ["yard","name","train","head"] (aw aaq):=bD
def a3Z aon(adx:er "come_on" ZE)aoJ(ac3:aqI k Zm)(ac8:aqQ k Zs)aNy:d! "go" (FX k! cT ck cb ZE Dl Zm Zs acK):=ahR T.a5C a3Y 2 dA (rf 3 (rg aiL) (CY (WD T.km) (iD (N3 T.Nw hr (jh (y_ (af 1) (jh uP)))))) (Il (bt (WD T.N4)) (x_ (Fs adx)) (Il (bt (L3 N8 Qd (bM 3) 3)) (iD (acI T.km (af 2) uR)) (x_ (Ax ac3 (af 2) (fm (Ju ac8 (fm (Fs alF)))))))))
omit T in theorem a0s:as5 (aqW "train") (aw aem):=bD
def a0t aon:d! "draw" (awA k9 cT ck cb):=ahR T.a2U a0s 2 dA (n8 (Cd (ze (Xv (Ī aiL)) (iq (ZS (bt (WD T.km))))) auR) (Ga (a04 PySem.F.slot_list_pop PySem.F.type_list_pop aZk aiL)) (abp (Ī aiL) bT (x_ (abi ţ (af 1)))))
omit T in theorem a0u:as5 ["yard","name","train","fall"] (aw Z6):=bD
omit T in theorem Fm:jg EX:=dP
def a0v aon(Du:aDO wX)(axq:Ad k "turned" awV):d! "turn" (awB kD k! cT ck cb wX awV):=ahR T.a2V a0u 2 dA (ą (CY (WD T.km) (iD (N3 T.Nw hr (jh (y_ (af 1) (jh uP)))))) (Ga (B3 Du (WD T.N4))) (acI T.N4 (af 2) (xZ tP)) (acI T.eQ (af 2) (Y_ true (C8 (aw Z6) ["yard","name","train","fall"] EX) G.calm (a2n aiL T.aVc) (iX (bS Fm).nd) (ku _ N6) (C_ (Ec axq hr (bS Fm).mT (ef 0))))) (iD (si (Ie (aZf š) (dU 3) (abp (S7 T.avZ (af 3)) (af 1) (iD (acI T.avZ (af 3) ew)))))))
omit T in theorem aS3:cD ["yard","name","signal","route","fall"] ar2 ade:=bD
def aS4(S_:er "is_at_border" J9)(Dr:aCc wR):aqQ (k+1) (ac4 kD k! ck J9 wR):=H8 T.aTs aS3 Dy (af 2) ew (iD (N3 T.Nw hr (jh (y_ (af 1) uP)))) (EO (oQ G.hu) (af 2) ai4 (fW (arv T.aEI (af 2))) (si (Ie (awS š) (yI (sR (dU 3) (I5 (dU 4)))) (iD (Cd (ze (HL (Sz Dr 3) (af 2)) (iq (ŭ (HL (S7 T.avZ (af 4)) (af 1)) (A! (bt (Fs S_)))))) (fW (af 3)))))) (iD (N3 T.Nw hr (jh (y_ (af 1) (jh (XR uP)))))))
omit T in theorem aSR:cD aDm aDm ac0:=bD
def aSS(Dr:aCc wR)aaN(adx:er "come_on" ZE):aqI (k+1) (la cT ck wR nN ZE):=Qf T.aSK aSR (awR G.hu ai4 (Fs Dr) ew) (n8 (Ga (awR G.hu š (af 2) ew)) (acI T.N4 (af 1) (CA (aQ0 true) (fm (Fs uN)))) (atU adx))
omit T in theorem aVo:Cm (Wm "train" "step") "train" (aw oT):=bD
def aVp(Du:aDO wX):d! "come_on" (avV cT wX):=oE T.aWm aVo 2 (mm PySem.F.slot_list_pop PySem.F.type_list_pop aWu (S7 T.N4 (af 1)) (An bT)) (aja (B3 Du (zZ (ef 2))) (x_ (mm PySem.F.slot_list_insert PySem.F.type_list_insert aUE (S7 T.eQ (af 1)) (vQ bT 2))))
omit T in theorem aWN:cD ahe ahe adP:=bD
def aWO:d! "_law_cell" awf:=sd T.aYO aWN (CY (af 0) (fW (vq 0 (rB yZ (af 1) (sE 0))))) (uz bT)
omit T in theorem aY3:cD ["_law_script","_law_k","_law_number"] ahe ad5:=bD
def aY4(axr:er "_law_cell" awW):d! "_law_mix" (awj awW):=oE T.a0L aY3 2 (NR (abz (nk axr) P0 bT Ŵ)) (kc 2 (NR (Cn P0 (af 2))) (fW (NR (rB (cn false) (Cn P0 (Cn il (af 2))) (af 2)))))
omit T in theorem aUA:cD aK9 aK8 Te:=bD
omit T in theorem avL:jg ["_law_k","_law_at","_law_joint","_law_pieces_here"]:=dP
def aGJ:aqq (k+1) 3 (avQ):=sd T.aVf aUA (ab0 3 (Qt (aw Te) aK9 ["_law_k","_law_at","_law_joint","_law_pieces_here"] [none,sC,some 2,M?]) (aEK T.aEP (fm (sE 0))) (iX (bS avL).nd) (yb (Xj (Jy (ZC (bS avL).hu)) (iq (iy (oQ (bS avL).hu) (af 2) (NQ (ax (bS avL).hu (af 3) (af 0))))))) (ku _ (af 0))) (fW (Kr (bt (af 3)) (bM 3) ew))
omit T in theorem aUB:cD ary aOS N?:=bD
omit T in theorem aRr:jg aqw:=dP
omit T in theorem aRs:jg aPi:=dP
omit T in theorem aRt:jg aqw:=dP
def aT9 aoo:d! "_law_pieces" (avR oO):=oE T.aVg aUB 2 (xZ tP) (kc 3 ye (n8 (S0 4 bT) (Qi (fm (sJ bT (NR (nk sV)))) (dU 5) (kc 6 (B3 sV (sJ Ŵ (af 5))) (rf 7 (xZ tP) (Qi (fm (sJ bT (au7 aGR T.aKM aJr (fm (qz aer (auN 6) bT))))) (dU 8) (rf 9 (B3 sV (sJ (abz Ŵ P0 bT (af 5)) (af 8))) (ab0 10 (VB (aw N?) ary aqw 7) (kZ (af 3)) (iX (bS aRr).nd) (yb (Jy (avq (bS aRr).hu))) (ku _ (af 0))) (Il (Xj (bt (af 10)) (iq (iy aer (auN 9) (QI (ļ bT bT bT) (af 8))))) (FY (af 7) (fm (vq 10 (rB yZ (Cn il (af 9)) (J6 (aHp G.calm) T.aKN aJp (Ag bT (sE 10))))))) (aja (aOm aQx (af 7) (fm (NR (abz (B3 sV Ŵ) P0 bT (af 4))))) (Vx 4 (agU (af 4))))))) (kc 3 (sJ (I! (VB (aw N?) ary aPi 3) (kZ (af 7)) (iX (bS aRs).nd) (yb (Jy (avq (bS aRs).hu)))) (I! (VB (aw N?) ary aqw 7) (kZ (af 3)) (iX (bS aRt).nd) (yb (Jy (avq (bS aRt).hu))))) (FY (af 2) (fm (sJ (mP (fm (QI (xF cN (An cN)) (Cn aZi (sE 7))))) (au7 aTN T.a0I aVB (ef 7))))))))) (Xg (af 2))))
omit T in theorem aTl:cD ["_law_script","_law_base","_law_pieces_here","_law_found","_law_at","_law_joint","_law_number","_law_border","_law_shift"] aLe adk:=bD
def aTm aoo UW:aBx (k+1) (avJ oO nK):=oE T.aUt aTl 3 (xZ tP) (uF (Qi (fm (sE 2)) (dU 4) (iD (Ie (aJ7 (NQ (vq 2 (af 4)))) (dU 5) (kc 6 (B3 sV (sJ (abz (af 1) P0 bT (af 4)) (sE 3))) (Ô 7 (qz Dy (ahP wO (af 2) (af 4) 5) ew) (ra (Xv (auN 6)) (A! (Xj (bt (af 7)) (iq (Xv (auN 6)))))) (FY (af 3) (Wb (vQ (af 5) 4)))))))) (kc 8 (rB yZ (B3 sV Ŵ) (sJ bT (sE 3))) (fW (SS (sJ (SS (af 3) (N! (af 8)) Tc) (SS (af 3) Tc (N! (af 8)))) Tc (N! bT)))))
omit T in theorem aWP:cD ass ass pd:=bD
omit T in theorem aGK:jg aPh:=dP
def Pm:d! "_law_outs" av4:=H8 T.aYP aWP (cq G.hu) (bM 0) cN (fW (I! (aj3 (aw pd) ass aPh) (aJ7 (NQ (af 0))) (iX (bS aGK).nd) (yb (Jy (ZC (bS aGK).hu))))) (fW (Kr (HL (af 1) (bM 0)) (zZ (Ig (bM 0) 0)) (zZ (B8 0))))
omit T in theorem aHR:cD aLd aLb amj:=bD
omit T in theorem aGL:jg LA:=dP
def aWQ(aY5:er "_law_outs" awX)UW(axt:aq0 k 5 pE):aq0 (k+1) 5 (aFO awX nK pE):=oE T.aIH aHR 5 (xZ tP) (EO (oQ G.hu) (af 3) (NI (C8 (aw amj) aLd LA) (kZ (af 2)) (iX (bS aGL).nd) (QT (bS aGL).hu)) (Xg (af 5)) (Ez (L1 aY5 (vq 0 (af 3)) 4) (dU 6) (kc 7 (sJ (af 2) (Ō (Mb (af 3) (af 4) 6))) (SU 8 (Ax wO (af 3) (ef 6)) (F? (ŭ (iy Dy (af 8) ew) (A! (iy (oQ G.hu) (mP (vQ (af 6) 8)) (af 1)))) (FY (af 5) (ef 7)) (Vx 5 (rB (cn true) (af 5) (Ju axt (Mb (af 7) (af 8) 6)))))))) (Xg (af 5)))
omit T in theorem aUa:cD ["_law_pieces_here","_law_signals_here","_law_found","_law_k"] aPA Zy:=bD
omit T in theorem aS5:jg ["_law_way","_law_k"]:=dP
def aUb(axt:aq0 k 5 pE):d! "_law_routes" (aFk pE):=oE T.aVh aUa 2 ye (L_ (Qi (fm (sE 1)) (dU 3) (Vx 2 (sJ (af 2) (NI (VB (aw Zy) ["_law_pieces_here","_law_signals_here","_law_found","_law_k"] ["_law_way","_law_k"] 3) (kZ (Ju axt (Į ye (rg (vq 1 (af 3))) (rg (vq 1 (af 3)))))) (iX (bS aS5).nd) (C_ (mP (vQ (af 1) 0))))))) (af 2))
omit T in theorem aY6:cD aLg aOU ZY:=bD
omit T in theorem aFT:jg ["_law_piece"]:=dP
def aY7(aFU:er "_law_routes" aFP):aCu (k+1) (awk aFP):=sd T.a0o aY6 (aQ2 true 3 (C8 (aw ZY) aLg ["_law_piece"]) G.calm G.nd (kZ (af 0)) (iX (bS aFT).nd) (ku _ N6) (C_ (Kr (iy (cq (bS aFT).hu) (VD (bS aFT).hu bT) cN) cN ew)) cS) (kc 4 (am2 (zj (af 0) (zj (af 1) (zj (af 2) (zj (af 3) (zj ye (zj bT FR))))))) (ą (akH (nk aFU)) (akH (rB (aQ9 true) (zZ (An ew)) (sE 0))) (akH ad9) (akH ad9) (fW (af 4))))
omit T in theorem aRu:cD aDw SQ J!:=bD
omit T in theorem uL:jg ag7:=dP
omit T in theorem avE:jg LA:=dP
def aS6:d! "_law_train_in" avH:=sd T.aRC aRu (si (ab0 2 (Qt (aw J!) aDw ag7 [none,sC,M?]) (axJ (gQ 0)) (iX (bS uL).nd) (yb (iy (oQ (bS uL).hu) (af 1) (Y_ false (acG.of (sc:=(am0 _ (aw J!))) ag7 LA Au rfl (aHq wC rfl) dP) (bS uL).calm (kZ (ax (bS uL).hu (ax (bS uL).hu (ax (bS uL).hu (af 2) cN) (af 0)) bT)) (iX (af8 (bS uL).mT avE).nd) (ku _ N6) (QT (af8 (bS uL).mT avE).hu)))) (ku _ (af 0)))) (fW (Kr (bt (af 2)) (bM 2) ew))
def aST:d! "_law_train_in" lp:=sd T.aRC aRu (ab0 2 (Qt (aw J!) aDw ag7 [none,sC,M?]) (aXH (gQ 0)) (iX (bS uL).nd) (yb (iy (oQ (bS uL).hu) (af 1) (Y_ false (acG.of (sc:=(am0 _ (aw J!))) ag7 LA Au rfl (aHq wC rfl) dP) (bS uL).calm (kZ (ax (bS uL).hu (ax (bS uL).hu (ax (bS uL).hu (af 2) cN) (af 0)) bT)) (iX (af8 (bS uL).mT avE).nd) (ku _ N6) (QT (af8 (bS uL).mT avE).hu)))) (ku _ (af 0))) (fW (Kr (bt (af 2)) (bM 2) ew))
omit T in theorem aWR:cD SQ SQ adQ:=bD
def aWS aNt:d! "_law_held" (av5 ac5):=EM T.aYQ aWR (aKB (qz Tv (Ib 0) ew) (yA (qz Tv (nk mI) ew)))
omit T in theorem aWT:cD Lw Lw ZQ:=bD
omit T in theorem aGM:jg ["_law_lock","_law_route"]:=dP
def aWU:d! "_law_free" av6:=Ch T.aYR aWT (Ñ (af 0) cN (Y_ true (aj3 (aw ZQ) Lw ["_law_lock","_law_route"]) G.calm (kZ (gQ 0)) (iX (bS aGM).nd) (ku _ N6) (C_ (Kr (Jy (cq (bS aGM).hu)) ew (af 0)))))
omit T in theorem aY8:cD aLs Lw ZZ:=bD
omit T in theorem aFV:jg ["_law_step","_law_world"]:=dP
def aY9 aM6:d! "_law_set" (rn adG):=oE T.XB aY8 2 (aif 0) (n8 (CY (J6 (aHx G.calm) T.aKL aJq (fm (NI (VB (aw ZZ) aLs ["_law_step","_law_world"] 0) (kZ (af 2)) (iX (bS aFV).nd) (C_ (Ec amc hr (bS aFV).mT (Ag (af 1) (VD (bS aFV).hu bT))))))) qq) (Ŧ (af 2) (uF (Wj (bM 3) (af 1)) (kc 4 (B_ 0 (bM 3)) (abp (bM 4) cN (iD (Wj (bM 3) (QI (xF cN (An cN)) (au7 aGR T.aKM aJr (fm (qz (oQ G.hu) (bM 4) (NQ (af 3)))))))))))) (abr (Lu (af 0) cN (atW (gQ 0) 1))))
omit T in theorem Ps:cD ["_law_world","_law_signal","_law_joint","_law_at","_law_found","_law_name","_law_train","_law_head"] aqH adR:=bD
def Pt:d! "_law_near" av7:=sd T.aYS Ps (aeg (Ib 0) (yI (sR (dU 2) ab1))) (rf 4 (xZ tP) (si (Ie (axJ (gQ 0)) (dU 5) (kc 6 (B_ 0 (af 5)) (Ô 7 (rg (bM 6)) (ze (HL (bM 6) ye) (ze (ZS (bt (bM 6))) (ze (HL (bM 7) (af 2)) (iq (iy WW (bM 7) (af 3)))))) (FY (af 4) (ef 5)))))) (Xg (af 4)))
omit T in theorem aUc:cD aLa Lw lx:=bD
omit T in theorem aRv:jg aqR:=dP
def aUd aM7 UW aM8:d! "_law_cancel" (ac7 adH nK adI):=H8 T.aVi aUc Nj (af 1) (gQ 0) qq (n8 (Lu (af 0) cN (I! (aj3 (aw lx) aLa aqR) (kZ (gQ 0)) (iX (bS aRv).nd) (yb (Jy (ZC (bS aRv).hu))))) (aeg (B_ 0 (aif 0)) (yI (sR (dU 2) ab1))) (kc 4 (B3 amd (aif 0)) (rf 5 (qz Dy (ahP wO (gQ 0) (af 3) 2) ew) (F? (Xj (iy TM (gQ 0) bT) (iq (ŭ (bt (af 4)) (A! (bt (af 5)))))) (iD (Rx (mP (Mb (rB (cn false) (gQ 0) (gQ 0)) (af 4) 5)))) (atU ame)) qq)))
omit T in theorem aWV:cD Lw ["_law_world"] adS:=bD
def aWW aM8:aCh (k+1) (av8 adI):=sd T.aYT aWV (Lu (af 0) cN (agU (gQ 0))) (abr (Ez (CA ajk (agD 0)) (dU 1) (Fi aJP (aif 0) (gQ 0) (aja (abi (gQ 0) (af 1)) (atU ame)))))
omit T in theorem aVq:cD SQ SQ adz:=bD
def aVr aM6:d! "_law_throw" (adl adG):=H8 T.aWn aVq (cq G.hu) (aif 0) cN qq (n8 (CY (nk amc) qq) (Rx (HG (am2 (zj cN (zj cN FR))) (Ib 0))) qq)
omit T in theorem aWX:cD aLh aOV pf:=bD
omit T in theorem aGN:jg aqR:=dP
def aWY:aq2 (k+1) (al2):=sd T.aYU aWX (Ŧ (sJ (gQ 0) (CA ajk (agD 0))) (abp (atN 0 (af 3)) (af 1) (Ô 4 (awQ G.hu (gQ 0) (af 3) (mP (ļ bT (zZ (ef 2)) uR))) (ra (bt (bM 4)) (A! (iy (oQ G.hu) (af 2) (bM 4)))) (n8 (Lu (af 0) cN (I! (VB (aw pf) aLh aqR 3) (kZ (gQ 0)) (iX (bS aGN).nd) (yb (Jy (ZC (bS aGN).hu))))) (Ga (awR G.hu (gQ 0) (af 3) ew)) (rf 5 (CA Ċ (fm (atN 0 (af 3)))) (Wj (rg (bM 5)) ew) (fW (af 5))))))) (uz ew)
omit T in theorem aVs:cD ["_law_world","_law_name","_law_signal","_law_joint","_law_at","_law_way"] aO9 adA:=bD
def aVt UW(adY:aq2 k ZK):aCM (k+1) (avW nK ZK):=sd T.aVX aVs (aeg (B_ 0 (af 2)) (yI (sR (dU 3) (I5 (dU 4))))) (EO Tv (ahP wO (gQ 0) (af 4) 3) ew qq (Rq (oQ G.hu) (gQ 0) qq) (kc 5 (Ax adY (af 2) (ef 1)) (EO Dy (af 5) ew qq (Rx (ahQ (SS (af 5) Tc (N! bT)) (NQ (af 5)) uR)) qq)))
omit T in theorem a0w:cD ["_law_world","_law_name","_law_train","_law_head","_law_at","_law_way"] SJ aen:=bD
def a0x UW(adY:aq2 k ZK):d! "_law_go" (awC nK ZK):=oE T.a2W a0w 2 (Ib 0) (kc 3 (rg (bM 2)) (n8 (CY (bM 2) qq) (Cc WW (bM 2) ye (n8 (Wj (rg (rg (bM 2))) ew) (Rx (ahQ (rB (cn false) (SS (bM 2) Tc (N! bT)) (bM 2)) (NQ (bM 2)) uR)) qq)) (kc 4 (L3 wO (gQ 0) (bM 3) 3) (EO Dy (af 4) ew (abr (Rx (ahQ (bM 2) ye uR))) (S0 5 ew) (EO (oQ G.hu) (mP (vQ (bM 3) 4)) (gQ 0) (Vx 5 (Ax adY (mm PySem.F.slot_list_index PySem.F.type_list_index (aHs G.hu) (gQ 0) (Wb (vQ (bM 3) 4))) (ef 1))) (Cc Dy (af 5) ew qq) (abr (Rx (ahQ (rB (cn false) (SS (af 5) Tc (N! bT)) (bM 2)) (NQ (af 5)) uR))))))))
omit T in theorem aWZ:cD (apR "_law_name" "_law_train") SJ adT:=bD
def aWB:d! "_law_draw" av9:=oE T.aYV aWZ 2 (Ib 0) (n8 (Cd (ze (Xv (J6 ak4 T.alb ak8 (B8 2))) (iq (ZS (bt (bM 2))))) qq) (Rx (zZ (vP (SS (bM 2) Tc (N! IS)) (bM 2) (B8 2)))) (abr (Cc (cq G.hu) (J6 ak4 T.alb ak8 (B8 2)) bT (x_ (abi (gQ 0) (af 1))))))
omit T in theorem aWC:cD aBZ SJ Tj:=bD
omit T in theorem av0:jg LA:=dP
omit T in theorem aGO:jg aOT:=dP
def aWD:d! "_law_turn" awa:=oE T.aYW aWC 2 (Ib 0) (ą (CY (bM 2) qq) (Ŧ (bM 2) (iD (Wj (bM 3) ew))) (ab0 4 (C8 (aw Tj) aBZ LA) (kZ (aZh false (bM 2) (N! IS))) (iX (bS av0).nd) (ku _ N6) (C_ (mP (Į (VD (bS av0).hu bT) (VD (bS av0).hu bT) (VD (bS av0).hu bT))))) (Rx (ahQ (af 4) ye uR)) (abr (Ez (CA ajk (agD 0)) (dU 5) (SU 6 (B_ 0 (af 5)) (Wj (af 5) (mP (vP (bM 6) (I! (aj3 (aw Tj) aBZ aOT) (kZ (bM 6)) (iX (bS aGO).nd) (yb (Jy (ZC (bS aGO).hu)))) (B8 6))))))))
omit T in theorem aUX:cD ["_law_world","_law_word","_law_number","_law_name","_law_many"] ahD adB:=bD
def aUY:aCJ (k+1) 4 (aFG):=oE T.aVY aUX 4 (am2 (zj (x7 0) (zj (x7 0) (zj (x7 0) FR)))) (n8 (akH (x7 0)) (Rq (oQ G.hu) (af 4) (fW (aXM aJP aer bT (af 2) (vq 4 (af 1))))) (fW (aKB (qz (cq G.hu) (af 1) cN) (yA (qz (oQ G.hu) (af 3) (gQ 0))))))
omit T in theorem aWE:cD ahD ahD adU:=bD
def PH(aGA:aCJ k 4 aF7)(axO:er "_law_set" axK)(aFW:er "_law_cancel" aFQ)(aGB:er "_law_throw" aF8)(aGC:aCM k aF9)(axu:aCh k awY)(ayq:er "_law_go" ayf)(axv:er "_law_draw" awZ)(axw:er "_law_turn" aw0):aCb (k+1) 4 (awb aF7 axK aFQ aF8 aF9 awY ayf awZ aw0):=sd T.aYX aWE (F? (ZS (bt (Ju aGA (vQ (af 2) 3)))) qq acm) (EO (cq G.hu) (af 1) cN (aic axO 2) (Rq (cq G.hu) cN (aic aFW 2)) (EO (cq G.hu) (af 1) cN (aic aGB 2) (Rq (cq G.hu) cN (fW (Ax aGC (af 3) (ef 2)))) (EO (cq G.hu) (af 1) cN (fW (QK axu 0)) (Rq (cq G.hu) cN (aic ayq 3)) (L_ (Rq (cq G.hu) cN (aic axv 3)) (Sz axw 3)))))
omit T in theorem aUZ:cD ["_law_yard","_law_word","_law_number","_law_name","_law_kept","e"] aLu adC:=bD
def aU0(aFD:er "set_route" avM)(axx:er "cancel" awo)(axP:er "throw" awD)(Ha:uw k "enter" awE)(ayr:Ad k "tick" amO)(aD8:er "go" anF)(ays:er "draw" B1)(ayt:er "turn" B2):aCK (k+1) 4 (aFH gT k9 gS k! avM awo awD awE amO anF B1 B2):=sd T.aVZ aUZ (S0 4 ew) (L_ (aJ2 4 5 G.mT T.aRf (λfP OI aH Gt=>(Il (YC W?) (NL aFD (Hx (ef 2))) (Il (YC W?) (NL axx (Hx (ef 2))) (Il (YC W?) (NL axP (Hx (ef 2))) (Il (YC W?) (NL Ha (Hx (vQ (af 3) 2))) (Il (YC W?) (NL ayr (ef 0)) (Il (YC W?) (NL aD8 (Hx (ef 3))) (Il (YC W?) (NL ays (Hx (ef 3))) (NL ayt (Hx (ef 3)))))))))))) (qz Dy (af 4) ew))
omit T in theorem aSd:cD aPj aqH Za:=bD
omit T in theorem a7M:jg ["_law_name"]:=dP
def aSe UW aM7:d! "_law_near_deeds" (avy nK adH):=sd T.aSj aSd (aeg (Ib 0) (yI (sR (dU 2) ab1))) (L_ (Cc Dy (ahP wO (gQ 0) (af 3) 2) ew (fW (Ō (Į cN (af 1) (QI (vP bT bT (ļ bT bT bT)) (J6 (aHp G.calm) T.aKN aJp (Ag bT (x7 0)))))))) (NI (C8 (aw Za) aPj ["_law_name"]) (kZ (nk amd)) (iX (bS a7M).nd) (C_ (mP (Mb cN bT 0)))))
omit T in theorem aWF:cD ["_law_script","_law_k","_law_world","_law_number","_law_names","_law_name","_law_some","_law_word","_law_many","_law_at","_law_route","_law_good"] ["_law_script","_law_k","_law_world"] adV:=bD
def aWG aoo(aE1:er "_law_near_deeds" alK):aCe (k+1) (al3 oO alK):=ahR T.aYY aWF 3 sV (ahk 4 (CA ajk (agD 2)) 5 (Kr (bt (af 4)) (vq 4 (rB yZ Ľ (sE 4))) bT) (ahk 6 (zZ (vP cN cN (vP cN cN (vP cN cN (vP cN cN (vP cN cN (xF cN (An cN)))))))) 7 (vq 6 Yh) (ahk 8 (am2 (zj (x7 2) (zj (x7 2) (zj (x7 2) FR)))) 9 (rB yZ (B3 sV Ŵ) (J6 (aVu G.calm) T.a3X aZn (Ag bT (awQ G.hu (af 8) (af 7) (x7 2))))) (ą (Cd (ze (Xv (Cn yZ (af 3))) (iq (bt (gQ 2)))) (kc 10 (B_ 2 (rB yZ Ľ (x7 2))) (SU 11 (abz (W6 aE1 (af 2) (fm (atN 2 (af 10)))) P0 (Ō (ļ cN (af 10) bT)) Yh) (CY (af 11) (fW (vq 11 (rB yZ Ľ (sE 11)))))))) (Cd (ze (bt (gQ 2)) (ze (bt (af 4)) (iq (Xv (Cn yZ (af 3)))))) (auB (Į (QI (vP cN cN (xF cN (An cN))) Yh) bT (vq 4 (rB yZ Ľ (sE 4)))))) (Cd (ze (HL (af 7) cN) (iq (bt (gQ 2)))) (Vx 9 (B_ 2 (rB yZ Ľ (x7 2))))) (Cc (cq G.hu) (Cn yZ (af 3)) bT (SU 9 (QI (Į IS (awQ G.hu (af 8) (af 7) (x7 2)) (sJ bT Yh)) Yh) (S0 5 (QI (ļ IS bT bT) Yh)))) (auB (Į (af 7) (af 9) (Kr (ŭ (iy WW (af 7) cN) (A! (Xv (Cn yZ (af 3))))) (af 5) (QI (vP bT bT (Ag bT IS)) Yh))))))))
omit T in theorem aU2:cD ["_law_script","_law_pieces_here","_law_signals_here","_law_wait"] È adD:=bD
def aU4(aFX:Et (k+1) "_law_pieces" aFM)(aFE:aBx (k+1) ui)(sV:Et (k+1) "_law_mix" oO)(Hb:aCu (k+1) axL)(aUe:In z k "Yard" ck 4 uj):aCN (k+2) (aFK ck aFM ui oO axL uj):=oE T.aV0 aU2 1 (Sy aFX (An bT)) (ahk 2 (Ax aFE bT (ef 1)) 3 (NR (Sy sV (An bT))) (auB (Ag (aJs aUe hr G.mT (Mb (CA Ċ (ef 1)) (CA Ċ (ef 2)) 3)) (ahP Hb (af 1) (af 2) 3))))
omit T in theorem aYG:cD ["_law_train","_law_last"] ["_law_train"] ad6:=bD
def aYH:aCv (k+1) (awl):=oE T.a0p aYG 1 (Kr (bt (bM 0)) (HG (bM 0) IS) (rg (bM 0))) (auB (Ig (bM 1) 1))
omit T in theorem aU5:cD aLc aLf ZB:=bD
omit T in theorem aRI:jg LA:=dP
def aU6 aNt:aCL (k+1) 4 (avX ac5):=oE T.aV1 aU5 4 (Ib 0) (n8 (ab0 5 (C8 (aw ZB) aLc LA) (kZ (bM 4)) (iX (bS aRI).nd) (ku _ N6) (QT (bS aRI).hu)) (Ez (atN 0 (af 2)) (dU 6) (uF (Cd (ra (HL (bM 6) (af 3)) (A! (Xj (iy Nj (bM 6) (af 5)) (iq (iy Tv (B_ 0 (bM 6)) ew))))) (uz uR)) (Fi Nj (Sy mI (B8 6)) (mP (vQ ew 1)) (uz uR)))) (uz uR))
omit T in theorem Hc:cD ["_law_world","_law_name","_law_pieces_here","_law_ways_here","_law_many","_law_place","_law_way","_law_longer","_law_signal","_law_route","_law_one","_law_new_here","_law_good"] SJ Zo:=bD
omit T in theorem aRp:jg ["_law_old"]:=dP
def He(axZ:aCv k axA)UW(aGp:aCL k 4 aGa):d! "_law_way_out" (avK axA nK aGa):=oE T.aUu Hc 2 (gQ 0) (rf 3 (Ō (Ag (Ec axZ hr G.mT (fm (Ib 0))) ye)) (Qi (fm (agU (x7 0))) (dU 4) (uF (Ez (af 3) (yI (sR (dU 5) (I5 (dU 6)))) (Fi Dy (L3 wO (af 2) (bM 5) 5) ew (fW (af 6)))) (rf 7 (xZ tP) (Ez (af 3) (yI (sR (dU 5) (I5 (dU 6)))) (SU 8 (mP (Ag (bM 5) (L3 wO (af 2) (bM 5) 5))) (Qi (fm (x7 0)) (dU 9) (ahk 10 (B_ 0 (af 9)) 11 (mP (Ag (rg (HG (bM 10) IS)) (rg (HG (bM 10) IS)))) (Ô 12 (aym (qz (cq G.hu) (B_ 0 (bM 10)) (af 8)) (yA (qz Nj (af 11) (NI (C8 (aw Zo) ["_law_world","_law_name","_law_pieces_here","_law_ways_here","_law_many","_law_place","_law_way","_law_longer","_law_signal","_law_route","_law_one","_law_new_here","_law_good"] ["_law_old"]) (kZ (af 7)) (iX (bS aRp).nd) (QT (bS aRp).hu))))) (ze (bt (af 12)) (iq (bt (Ju aGp (Ig (af 9) 5))))) (FY (af 7) (Wb (Ag (af 11) (atW (af 6) 9))))))))) (Vx 3 (af 7))))) (uz ew))
omit T in theorem aS7:cD ["_law_yard","_law_name","_law_kept","e"] ["_law_yard","_law_name"] ky:=bD
def aS8(pb:er "way_out" m3):d! "_law_no_train" (aE6 gT k9 gS k! m3):=sd T.aTt aS7 (S0 2 ew) (L_ (aJ2 2 3 G.mT T.aRf (λfP OI aH Gt=>(NL pb (Hx (ef 1))))) (a2l [CG gT,(gS,true),CG k9,CG k!] T.aVb (af 2) T.aFm T.aVa))
omit T in theorem aU7:cD ["_law_script","_law_yard","_law_world","_law_k","_law_word","_law_number","_law_name","_law_good","_law_found","_law_due"] È Ds:=bD
omit T in theorem aTT:jg ["_law_route"]:=dP
def aU8{f fd}(D:QR z.K "law" "law" Ds f fd)(aGq:aCN k aGb)aoo(axy:aCe k awM)(axz:aCb k 4 awN)(aGr:aCK k 4 aGc)(pb:er "way_out" m3)(aFF:er "_law_way_out" aFL)(aFx:er "_law_no_train" aFl):rJ z.P z.w z.K z.mg z.base (l6 z.P z.w) (k+1) f fd È (Bu z.K 1 (uk aGb oO awM awN aGc m3 aFL aFl)):=a3C D aU7 λ_ _ _ _ _ _ hr G=>(n8 (aeg (QK aGq 0) (yI (sR (dU 1) (I5 (dU 2))))) (Qi (fm (NR (Sy sV (An bT)))) (dU 3) (uF (aeg (Ax axy (abz bT P0 bT (af 3)) (ef 2)) (yI (sR (dU 4) (sR (dU 5) (I5 (dU 6)))))) (kc 7 (qz (cq G.hu) (W6 axz (af 2) (Mb (af 4) (af 5) 6)) cN) (Fi WW (W6 aGr (af 1) (Mb (af 4) (af 5) 6)) (af 7) (uz uR))))) (L_ (si (Ie (axJ (gQ 2)) (dU 6) (kc 8 (L1 pb (af 1) 6) (rf 9 (L1 aFF (af 2) 6) (Cd (ra (iy WW (af 8) (af 9)) (A! (Xj (iy Tv (af 9) ew) (iq (ZS (bt (aJ9 "list" (af 8) T.aFm T.aQ7 aQT))))))) (uz uR)) (iD (CY (J6 (aHx G.calm) T.aKL aJq (fm (NI (C8 (aw Ds) ["_law_script","_law_yard","_law_world","_law_k","_law_word","_law_number","_law_name","_law_good","_law_found","_law_due"] ["_law_route"]) (kZ (a2q (af 8) (yA ye))) (iX (bS aTT).nd) (C_ (aJ9 "bool" (af 0) T.aFm T.a2S aXU))))) (uz uR))))))) (W6 aFx (af 1) (An bT))))
def aJJ:∀n,∃g,asm (3+n) 5 g/\anm n g
 |0=>⟨_,zc.bad T.aHQ aGZ,λps ss way j a M ok hn _=>by rw[eg ok.len]⟩
 |n+1=>by
  obtain⟨g,F,S⟩:=aJJ n;rw[Iv amW (aps 1 1 _) (aRD T) aeC 2 "pieces_at" _ (aRE T amW) aTb (apu 3 _) (tq T aeC) aTc (lC 2 "joints_out") (aSM T amW)];rw[bQ _ (aVl T (aTc.mono aD) (aTb.mono aD) F).trunc (a2t S)]
def aIB:∀n,∃g,aq0 (3+n) 5 g/\ano n g
 |0=>⟨_,zc.bad T.aIH aHR,λps ss way j a M ok hn _=>by rw[eg ok.len]⟩
 |n+1=>by
  obtain⟨g,F,S⟩:=aIB n;rw[bJ amW (lC 1 "_law_outs") (Pm T) aeC (aqq 1 3 _) (aGJ T)];rw[bQ _ (aWQ T (amW.mono aD) (aeC.mono aD) F).trunc (a2u (λp j M=>Sb.pd p j M) (λps n j M h=>Sb.Te ps n j M h) S)]
def a2X aoU(F:QR z.K "law" "law" Ds f fd):rJ z.P z.w z.K z.mg z.base (l6 z.P z.w) 40 f fd È (aeJ z.K):=by
 rw[E8 bU aTg aYc (aJJ T fuel) gl Bl aX7 (aIB T fuel)];rw[QL axr (lC 1 "_law_cell") (aWO T) sV 2 "_law_mix" _ (aY4 T axr.up) aFX 3 "_law_pieces" (aT9 T sV.up).trunc wO (aqq 1 3 _) (aGJ T)];rw[Iv aFE (aBx 3 _) (aTm T sV.up wO.up).trunc aFU 21 "_law_routes" _ (aUb T Bl.up) Hb (aCu 22 _) (aY7 T aFU.up) S9 (aps 1 1 _) (aRD T)];rw[Iv alN (lC 2 "pieces_at") (aRE T S9.up) aEX 3 "check_joints" _ (aRW T alN.up) aE8 (aBy 4 _) (aRU T aEX.up S9.up) ox (lC 2 "check_signals") (a7T T S9.up)];rw[Iv aFn (lC 5 "check_yard") (aSZ T aE8.up ox.up) aw7 21 "routes" _ (aV5 T aFn.up aTg.up).trunc aUf (In z 22 "Yard" ck 4 _) (aTE T aw7.up) aGq (aCN 24 _) (aU4 T aFX.up aFE.up sV.up Hb.up aUf.up)];rw[Iv amd (lC 1 "_law_near") (Pt T).trunc aE1 2 "_law_near_deeds" _ (aSe T wO.up amd.up) axy (aCe 3 _) (aWG T sV.up aE1.up).trunc aGA (aCJ 1 4 _) (aUY T).trunc];rw[QL mI (lC 1 "_law_train_in") (aS6 T) amc 2 "_law_held" _ (aWS T mI.up) axO 3 "_law_set" (aY9 T amc.up) ame (lC 1 "_law_free") (aWU T)];rw[Iv aFW (lC 2 "_law_cancel") (aUd T amd.up wO.up ame.up) aGB 3 "_law_throw" _ (aVr T amc.up) adY (aq2 1 _) (aWY T) aGC (aCM 2 _) (aVt T wO.up adY.up)];rw[QL axu (aCh 2 _) (aWW T ame.up) ayq 2 "_law_go" _ (a0x T wO.up adY.up) axv 1 "_law_draw" (aWB T) axw (lC 1 "_law_turn") (aWD T)];rw[QL axz (aCb 4 4 _) (PH T aGA.up axO.up aFW.up aGB.up aGC.up axu.up ayq.up axv.up axw.up) fo 1 "is_number_of" _ (aSc T) ac2 2 "check_route" (aSm T fo.up) uN (lC 1 "way_of") (aWM T)];rw[kP N5 (lC 2 "check_piece") (aSo T fo.up) aEY (aBz 1 _) (aRY T) aRm (asi z 3 ck 2 _) (zt T N5.up aEY.up) gL (lC 4 "check_not_held") (a7L T aRm.up)];rw[QL adm (aq4 1 _) (aTz T) aGz 2 "lie_for" _ (aVk T adm.up) Dr 1 "signal_of" (aTh T) aFD (lC 5 "set_route") (aTI T ac2.up uN.up gL.up aGz.up Dr.up)];rw[QL eh (apu 3 _) (tq T alN.up) alF 4 "signal_ahead" _ (aR4 T eh.up) aFo 5 "train_near" (aS2 T alF.up) N8 (aAd 4 _) (aTx T eh.up)];rw[kP S_ (lC 5 "is_at_border") (aR2 T N8.up) aUg (In z 1 "Fall" kD 3 _) (aTG T) Du (lC 1 "unlock") (aWK T) axx (lC 6 "cancel") (aWI T ac2.up Dr.up aFo.up S_.up aUg.up Du.up uN.up)];rw[QL aEZ (lC 3 "check_points") (aR8 T N5.up adm.up) axP 5 "throw" _ (aY0 T aEZ.up gL.up) aE0 2 "check_signal" (aSa T fo.up) ac8 (aqQ 6 _) (aS4 T S_.up Dr.up)];rw[Iv aTU (In z 1 "Train" cT 1 _) (aS1 T) adx 2 "come_on" _ (aVp T Du.up) ac3 (aqI 3 _) (aSS T Dr.up uN.up adx.up) Ha (uw 7 "enter" _) (aY2 T aE0.up S_.up ac8.up aTU.up ac3.up)];rw[QL ayr (Ad 2 "tick" _) (a0r T Du.up uN.up) dA 1 "train_called" _ (aR6 T) aD8 7 "go" (a3Z T dA.up adx.up N8.up ac3.up ac8.up alF.up) ays (lC 2 "draw") (a0t T dA.up)];rw[Iv axq (Ad 1 "turned" _) (aV3 T) ayt 2 "turn" _ (a0v T dA.up Du.up axq.up) aGr (aCK 8 4 _) (aU0 T aFD.up axx.up axP.up Ha.up ayr.up aD8.up ays.up ayt.up) aFB (aCg 1 _) (aTB T)];rw[kP aSV (ant z 3 ck "lock_of" 2 _) (aR0 T N5.up) aFe (aCy 4 _) (aSq T aSV.up aRm.up).trunc adq (aqD 2 _) (aUx T uN.up) aFC (aCd 4 _) (aTj T eh.up uN.up adq.up).trunc];rw[Iv aF3 (aCt 5 _) (aUz T aFC.up uN.up N8.up).trunc pb 6 "way_out" _ (aVn T dA.up aFB.up N8.up aFe.up aF3.up adq.up) axZ (aCv 1 _) (aYH T) aS9 (lC 1 "_law_train_in") (aST T)];rw[gq aGp (aCL 2 4 _) (aU6 T aS9.up) aFF (lC 3 "_law_way_out") (He T axZ.up wO.up aGp.up).trunc aFx (lC 7 "_law_no_train") (aS8 T pb.up)];rw[sy aU3 (aU8 (k:=38) T F aGq.up sV.up axy.up axz.up aGr.up pb.up aFF.up aFx.up) hj (axE Dm) (λp M=>Sb.Zp p M) hc (∀ps ss,R!->Oo (mn (avr gT (avs gT (Zk Dm)) Dm) (avn gT Dm)) [h!,nI]) (λps ss hg=>
  Sb.ada (Sb.acQ hg (jQ (Sb.acR (λps j M h=>Sb.Tf ps j M h) (by rw[eg hg.eY]) hg.two (hg.qM p hp) (hg.once p hp))) hj) (Sb.acV hg hj))]
 have aXW:=Sb.adM hc aYc;rw[gq hm (aFh (awj awf)) (Sb.ad5 Sb.adP) hb (aFg avQ) (λps n j M h=>Sb.Te ps n j M h) tw (aeV (alD (Zk Dm))) (λps a x M h=>Sb.Y! ps a x M h)]
 let C:eE:=⟨ck,kD,gS,k9,cT,k!⟩
 rw[Lx pu (a3m (C:=C)) aEf (a3k (C:=C)) ca (a34 (C:=C)) ti (aK2 (C:=C) aEf pu)];rw[Lx aQ6 (a3n (C:=C) ti) aQh (a3l (C:=C) aEf aKZ) bor (a2j tw) bd (a3j (C:=C) bor)];rw[Lx e8 (a3p (C:=C) tw) pa (a37 (C:=C) bd anx) co (λY=>a38 (C:=C) (Y:=Y) ayS) ps (λY=>a39 (C:=C) (Y:=Y) anx aeQ (co Y))];rw[Jj A (awJ C _ _ _ _ _ _ _ _) ⟨a4b aK0 aeQ aQ6 (a3o aKZ) anx,aYl aK0 anx (a30 e8) bd a31 ayS aeQ,a0A aQh aQ6,a0B aK1 bd pa a35 ps,a1X ayS aeQ,a45 ca co bor ps pa (λM x hx=>Sb.aTL (C:=C) hx) e8,a1Y ca,a1Z ca (λY=>a33) a36⟩ he (a4d a4c)];rw[kP OK (∀Y,tN->anw C Y _) (λY G=>a10 (C:=C) (λM W j w i x h=>Sb.adB h) (a6R G he aK3 hb a4e a4f)) has (∀Y,tN->anb C Y _ λk=>.ai (ZI k)) (λY G=>Sb.adC (C:=C) (wN:=gT) G A) aEz (∀Y,tN->ayw C Y _) (λY G=>aYn (C:=C) G hm hb aK3) hQ (∀Y,tN->ayD C Y _ _ _ _ _) (λY G=>a4g (C:=C) G aEf pu ca aQh aK1)];exact(aU3.imp λ_ _ _ _ h=>aWv (λns=>Sb.Ds (C:=C) ns (Sb.adD (C:=C) (Sb.N? hm) (Sb.adk hm hb) hm (λps ss wait M hg=>Sb.Zn aXW hg wait M) (a4i (Sb.Zy aX7)) ns) hm aEz OK has (λY G=>a5A (C:=C) G ca bor tw aeQ (hQ Y G)) (λY G=>a5B (C:=C) ca) (λY G=>a5z G hb) (λM e=>Sb.ky (C:=C) (wN:=gT) e T.a5J.ab.symm)) h).mono aZ
universe zE
open Hd
def all_mk D5 tK{mg:Str->gK}{fa:Addr}(X:K.In h)(G:h.Ns mainGlobals mg)(a6i:mg "law" = n7 fa)(H:All facts K):
  ∃fd:FuncData,(∀lu G6,BindsTo s fd (sD [u]) [("_law_script",u)])/\∀base:Heap,auc->arc mg->rJ P w K mg base (l6 P w) 40 fa fd È (aeJ K):=by
 have T:Top K mg 44 31 68 56 80 292 172 271:=⟨akl (Jq 0).a (Jr 5),akl (Jq 2).a (Jr 6),akl (Jq 3).a (Jr 7),akl (Jq 4).a (Jr 8),Ja (Jq 3).a,akl (Jq 1).a (a5m (Ro 9) (Ro 10) (Ro 11) (Ro 12)),⟨aXJ ⟨(Jq 0).xc,(Ro 13)⟩ ⟨(Jq 3).xc,(Ro 14)⟩ ⟨(Jq 2).xc,(Ro 15)⟩ ⟨(Jq 4).xc,(Ro 16)⟩⟩,⟨aZ,aZ,aZ,aZ,aZ,aZ⟩,(pM 17).fd (iT 26),(pM 17).fd (iT 27),(pM 20).fd (iT 28),(pM 20).fd (iT 29),(pM 20).fd (iT 30),(pM 23).fd (iT 31),(pM 23).fd (iT 32),(pM 23).fd (iT 33),(pM 23).fd (iT 34),(pM 23).fd (iT 35),(pM 23).fd (iT 36),(pM 23).fd (iT 37),(pM 23).fd (iT 38),(pM 23).fd (iT 39),(pM 23).fd (iT 40),CQ (iT 41),CQ (iT 42),CQ (iT 43),CQ (iT 44),CQ (iT 45),CQ (iT 46),CQ (iT 47),CQ (iT 48),CQ (iT 49),CQ (iT 50),CQ (iT 51),CQ (iT 52),⟨284,Ja (iT 53)⟩,⟨280,Ja (iT 54)⟩,⟨282,Ja (iT 55)⟩,(bC 56:bH "joints_of" "joints_of" "joints_of" Zp).de X G,(bC 57:bH "pieces_at" "pieces_at" "pieces_at" Tf).de X G,(bC 58:bH "piece_beyond" "piece_beyond" "piece_beyond" Y!).de X G,(bC 59:bH "is_border" "is_border" "is_border" lL).de X G,(bC 60:bH "joints_out" "joints_out" "joints_out" Zr).de X G,(bC 61:bH "is_points" "is_points" "is_points" adf).de X G,(bC 62:bH "lie_for" "lie_for" "lie_for" ady).de X G,(bC 63:bH "check_yard" "check_yard" "check_yard" ada).de X G,(bC 64:bH "check_pieces" "check_pieces" "check_pieces" acQ).de X G,(bC 65:bH "check_joints" "check_joints" "check_joints" acR).de X G,(bC 66:bH "check_signals" "check_signals" "check_signals" acV).de X G,(bC 67:ar4 K (Δ 172) "Train.__init__" adb).aEJ (Jr 21) (Jr 22) (Ja (pM 20).a),(bC 68:bH "pieces_under" "pieces_under" "pieces_under" Y?).de X G,(bC 69:bH "last_step" "last_step" "last_step" adg).de X G,(bC 70:bH "turned" "turned" "turned" adL).de X G,(bC 71:bH "routes" "routes" "routes" adM).de X G,(bC 72:bH "ways_on" "ways_on" "ways_on" al4).de X G,(bC 73:ar4 K (Δ 271) "Yard.__init__" Zn).aEJ (Jr 24) (Jr 25) (Ja (pM 23).a),(bC 74:ark K (Δ 271) "lock_of" "lock_of" "Yard.lock_of" mf).me (pM 23).cl,(bC 75:ark K (Δ 271) "train_in" "train_in" "Yard.train_in" avp).me (pM 23).cl,(bC 76:ar4 K (Δ 292) "Fall.__init__" adh).aEJ (Jr 18) (Jr 19) (Ja (pM 17).a),(bC 77:bH "set_route" "set_route" "set_route" adi).de X G,(bC 78:bH "cancel" "cancel" "cancel" adN).de X G,(bC 79:bH "tick" "tick" "tick" ael).de X G,(bC 80:bH "throw" "throw" "throw" ad3).de X G,(bC 81:bH "unlock" "unlock" "unlock" adO).de X G,(bC 82:bH "signal_of" "signal_of" "signal_of" alV).de X G,(bC 83:bH "way_of" "way_of" "way_of" ami).de X G,(bC 84:bH "is_at_border" "is_at_border" "is_at_border" aly).de X G,(bC 85:bH "signal_ahead" "signal_ahead" "signal_ahead" acS).de X G,(bC 86:bH "train_near" "train_near" "train_near" kt).de X G,(bC 87:bH "train_called" "train_called" "train_called" acT).de X G,(bC 88:bH "check_route" "check_route" "check_route" acX).de X G,(bC 89:bH "check_piece" "check_piece" "check_piece" acY).de X G,(bC 90:bH "check_points" "check_points" "check_points" acU).de X G,(bC 91:bH "check_signal" "check_signal" "check_signal" acP).de X G,(bC 92:bH "is_number_of" "is_number_of" "is_number_of" avF).de X G,(bC 93:bH "check_not_held" "check_not_held" "check_not_held" acJ).de X G,(bC 94:bH "way_out" "way_out" "way_out" Tg).de X G,(bC 95:bH "shut_pieces" "shut_pieces" "shut_pieces" acZ).de X G,(bC 96:bH "is_clear" "is_clear" "is_clear" lr).de X G,(bC 97:bH "shortest" "shortest" "shortest" ado).de X G,(bC 98:bH "routes_on" "routes_on" "routes_on" adj).de X G,(bC 99:bH "enter" "enter" "enter" ad4).de X G,(bC 100:bH "go" "go" "go" aaq).de X G,(bC 101:bH "draw" "draw" "draw" aem).de X G,(bC 102:bH "turn" "turn" "turn" Z6).de X G,(bC 103:bH "route_past" "route_past" "route_past" ade).de X G,(bC 104:bH "pass_signal" "pass_signal" "pass_signal" ac0).de X G,(bC 105:bH "come_on" "come_on" "come_on" oT).de X G,(bC 106:bH "_law_cell" "_law_cell" "_law_cell" adP).de X G,(bC 107:bH "_law_mix" "_law_mix" "_law_mix" ad5).de X G,(bC 108:bH "_law_beyond" "_law_beyond" "_law_beyond" Te).de X G,(bC 109:bH "_law_pieces" "_law_pieces" "_law_pieces" N?).de X G,(bC 110:bH "_law_signals" "_law_signals" "_law_signals" adk).de X G,(bC 111:bH "_law_outs" "_law_outs" "_law_outs" pd).de X G,(bC 112:bH "_law_ways" "_law_ways" "_law_ways" amj).de X G,(bC 113:bH "_law_routes" "_law_routes" "_law_routes" Zy).de X G,(bC 114:bH "_law_new" "_law_new" "_law_new" ZY).de X G,(bC 115:bH "_law_train_in" "_law_train_in" "_law_train_in" J!).de X G,(bC 116:bH "_law_held" "_law_held" "_law_held" adQ).de X G,(bC 117:bH "_law_free" "_law_free" "_law_free" ZQ).de X G,(bC 118:bH "_law_set" "_law_set" "_law_set" ZZ).de X G,(bC 119:bH "_law_near" "_law_near" "_law_near" adR).de X G,(bC 120:bH "_law_cancel" "_law_cancel" "_law_cancel" lx).de X G,(bC 121:bH "_law_tick" "_law_tick" "_law_tick" adS).de X G,(bC 122:bH "_law_throw" "_law_throw" "_law_throw" adz).de X G,(bC 123:bH "_law_pass" "_law_pass" "_law_pass" pf).de X G,(bC 124:bH "_law_enter" "_law_enter" "_law_enter" adA).de X G,(bC 125:bH "_law_go" "_law_go" "_law_go" aen).de X G,(bC 126:bH "_law_draw" "_law_draw" "_law_draw" adT).de X G,(bC 127:bH "_law_turn" "_law_turn" "_law_turn" Tj).de X G,(bC 128:bH "_law_there" "_law_there" "_law_there" adB).de X G,(bC 129:bH "_law_done" "_law_done" "_law_done" adU).de X G,(bC 130:bH "_law_asked" "_law_asked" "_law_asked" adC).de X G,(bC 131:bH "_law_near_deeds" "_law_near_deeds" "_law_near_deeds" Za).de X G,(bC 132:bH "_law_deed" "_law_deed" "_law_deed" adV).de X G,(bC 133:bH "_law_start" "_law_start" "_law_start" adD).de X G,(bC 134:bH "_law_end" "_law_end" "_law_end" ad6).de X G,(bC 135:bH "_law_clear" "_law_clear" "_law_clear" ZB).de X G,(bC 136:bH "_law_way_out" "_law_way_out" "_law_way_out" Zo).de X G,(bC 137:bH "_law_no_train" "_law_no_train" "_law_no_train" ky).de X G⟩;obtain⟨_,_,_,_,_,_,F⟩:=(bC 138:bH "law" "law" "law" Ds).avC X G a6i;rw[bQ _ (λs u=>.of_eq rfl) (λbase _ _=>a2X (z:=⟨P,w,K,mg,base⟩) T F)]
universe Rw
universe zE
end
open PySem PySem.W PyProof.Rows
set_option maxRecDepth 100000 in
set_option maxHeartbeats 0 in
theorem PySem.Challenge.cw_signalbox_k30_way_out_holds : PySem.Challenge.rw_signalbox_k30_way_out.Holds := by
 refine PySem.W.holds_law Rw.a7D λa5D=>?_
 refine PySem.W.holds_open (q:=Rw.Q) (loose:=Rw.ks) (Xt:=λs=>xlAt Rw.Q [] s && recOk [] s) (XP:=XL Rw.Q []) (Yf:=Hook.obs Rw.hk) (Ya:=Hook.val Rw.hk) (YP:=Hook.says Rw.hk) (N:=8930) (d:=⟨"law",L2.Kn Rw.Ds,L2.Gh Rw.Ds,L2.aw Rw.Ds,Rw.a60⟩) (kwd:=[])
  (Hd.aYI (boot_open Rw.a6Z rfl Rw.a5Z) Rw.a7f Rw.a7o Rw.run Rw.aFj rfl) (Hook.of Rw.hk) (Hook.keeps Rw.hk) (λs e=>xl_of s (Bool.and_eq_true_iff.mp e).1) XL.keeps (by kernel_rfl) (by kernel_rfl) (by kernel_rfl) (λs e=>recFacts_of (Bool.and_eq_true_iff.mp e).2) (by kernel_rfl) a5D (by kernel_rfl) ⟨rfl,rfl,rfl,rfl,rfl,by kernel_rfl⟩ ?hw ?hc
 case hw=>w_witness2
 refine Hd.a2r (l:=PySem.Challenge.rw_signalbox_k30_way_out) (n:=63) (k:=40) (x := "_law_script") (fR:=λw=>L2.l6 PySem.Challenge.rw_signalbox_k30_way_out.prog w) (sp:=L2.aeJ) rfl (by decide) (by kernel_rfl) ⟨rfl,by decide,by decide⟩ (λw mg fa h K iu H G Ut=>Rw.all_mk iu G Ut H) (λK H a ns _ _ hS=>⟨a,ns,rfl,hS,λ_=>rfl⟩) (λw H s e s' z=>by obtain⟨_,_,_,_,_,q⟩:=z; exact q)
