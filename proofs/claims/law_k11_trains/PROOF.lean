import PyProof.Rows.All
import Wide.All
import Wide.FinOn
import Open.Boot
import Open.Tree
import Open.Line
import KE.KTryMore
import KE.KIsAll
import KE.KFromBytes
import KE.KDictList
import KE.KDictOf
import KE.KItem
import Lean
import PyProof.EqAt
import PyProof.EqKinds
import PyProof.TupleCall
import PyProof.Rows.SetFrom
import PyProof.DictWalks
import KE.KRevIter
import KE.KRevSl
import PySem.Challenge.RW_signalbox_k11_trains
set_option Elab.async false
set_option linter.all false
set_option maxRecDepth 100000
set_option maxHeartbeats 4000000
noncomputable abbrev eY:=PySem.W.Frag
theorem bw {α:Type _}{a:α}{l:List α}:(a::l)[0]? = some a:=rfl
theorem bB {α:Type _}{a:α}{i:Nat}{l:List α}:(a::l)[i+1]? = l[i]?:=rfl
theorem cZ {α β:Type _}{f:α->β}{a:α}{l:List α}:(a::l).map f=f a::l.map f:=rfl
theorem zD {α β:Type _}{f:α->β}:([]:List α).map f=[]:=rfl
theorem zE {α:Type _}{a:α}{l:List α}:(a::l).length=l.length+1:=rfl
theorem yE {α:Type _}:([]:List α).length=0:=rfl
theorem Dd {α:Type _}{a:α}{l m:List α}:(a::l)++m=a::(l++m):=rfl
theorem wC {α:Type _}{l:List α}:[]++l=l:=rfl
theorem mV {α:Type _}{l:List α}:l++[]=l:=by simp
theorem eX {α β:Type _}{f:α->β}{l:List α}{i:Nat}:(l.map f)[i]? = l[i]?.map f:=by simp
theorem eH {α β:Type _}{f:α->β}{l:List α}:(l.map f).length=l.length:=by simp
section
namespace L2
open PySem PySem.Spec PyProof.Rows
noncomputable def inClass (s:Stmt) (j:Nat):Stmt:=match s with
 |.ClassDef _ _ _ body _ _ _ _ _ _ _=>body.getD j (.Pass ⟨0,0,0,0⟩)
 |_=>.Pass ⟨0,0,0,0⟩
noncomputable def Js (s:Stmt):Arguments:=match s with
 |.FunctionDef _ a _ _ _ _ _ _ _ _=>a
 |_=>{ posonlyargs:=[],args:=[],vararg:=none,kwonlyargs:=[],kw_defaults:=[],kwarg:=none,defaults:=[]}
noncomputable def hV (s:Stmt):List Stmt:=match s with
 |.FunctionDef _ _ b _ _ _ _ _ _ _=>b
 |_=>[]
noncomputable def ax (s:Stmt):Scope:=match s with
 |.FunctionDef _ _ _ _ _ _ sc _ _ _=>sc
 |_=>{ kind:=.function,names:=[],isGenerator:=false,isCoroutine:=false}
end L2
namespace Hd
open PySem PySem.W PySem.Calls PyProof.Rows
noncomputable def bC (st:SharedT->Thread->Option (SharedT×Thread)) (m:Nat) (ann:Option Value):Nat->SharedT->Thread->Option SharedT
 |0,_,_=>none
 |n+1,s,t=>match through t with
  |true=>some s
  |false=>match stepOk m ann t with
   |false=>none
   |true=>match st s t with
    |some x=>bC st m ann n x.1 x.2
    |none=>none
theorem bN {tb:String->Option Builtin}{p:Program}{w:World}{m:Nat}{ann:Option Value}:∀{n:Nat}{s s':SharedT}{t:Thread},
  bC (stepT (denote tb) p w) m ann n s t=some s'->topRun tb p w m ann n s.abs t=some s'.abs
 |0,_,_,_,h=>by cases h
 |n+1,s,s',t,h=>by
  unfold bC at h;unfold topRun;cases ht:through t with
  |true=>rw[ht]at h;cases h;rfl
  |false=>
   rw[ht]at h;cases hk:stepOk m ann t with
   |false=>rw[hk]at h;cases h
   |true=>
    rw[hk]at h;cases hs:stepT (denote tb) p w s t with
    |none=>rw[hs]at h;cases h
    |some x=>
     rw[hs]at h;rw[stepT_spec hs];exact bN h
noncomputable def PH (p q:Program) (loose:List Str) (Xt:Shared->Bool) (g0:Bool) (H₀:Heap) (s:Shared):=
 ((staticsOk (importedModules p.main.body) H₀ s.heap&&namesBound p s.heap&&gensDone s&&laidKept H₀ s.heap),openSeen q loose (importedModules p.main.body) Xt g0 s)
theorem aXd {p q:Program}{loose:List Str}{Xt:Shared->Bool}{α:Type}{Yf:Shared->α}{Ya:World->α}{N:Nat}{g0:Bool}{H₀:Params->Heap}{gs₀:Array GenState}{d₀:Drawn}{k₀:Nat}{m₀:Nat}{ann:Option Value}{M:Nat}
  {T₀:Params->BT}{n₀:Nat}{l₀:Life}
  (cE:∀w:World,(fencedOpening treeTable p w N).map (λs=>(s.heap,s.gens,s.drawn,s.toks))=some (H₀ w.params,gs₀,d₀,k₀))
  (size:∀w:World,((H₀ w.params).isNs mainGlobals&&gs₀.size == 0,(H₀ w.params).objs.size,(H₀ w.params).nsMap mainGlobals "__annotations__")=(true,m₀,ann))
  (tree:∀P:Params,absHeap (T₀ P) n₀ l₀=H₀ P)
  (run:∀(w:World) (os:OsState),(bC (stepT (denote treeTable) p w) m₀ ann M ⟨T₀ w.params,n₀,l₀,gs₀,d₀,k₀,os⟩ (topStub p)).map (λs=>PH p q loose Xt g0 (H₀ w.params) s.abs)=some (true,openGood q loose))
  (aDE:∀(w:World) (os:OsState),(bC (stepT (denote treeTable) p w) m₀ ann M ⟨T₀ w.params,n₀,l₀,gs₀,d₀,k₀,os⟩ (topStub p)).map (λs=>Yf s.abs)=some (Ya w))
  (le:Nat.ble M N=true):LeftO p q loose Xt Yf Ya N g0:=λw=>by
 obtain⟨⟨h,gs,d,k,os⟩,e,e'⟩:=Option.map_eq_some_iff.mp (cE w)
 obtain⟨rfl,rfl,rfl,rfl⟩:h=H₀ w.params/\gs=gs₀/\d=d₀/\k=k₀:=by simpa using e'
 obtain⟨z1,z2,SX⟩:_/\_/\_:=by simpa only[Prod.mk.injEq] using size w
 obtain⟨aV,r0,auc⟩:=Option.map_eq_some_iff.mp (run w os);unfold PH at auc
 obtain⟨l1,l2⟩:_/\_:=by simpa only[Prod.mk.injEq] using auc
 have l3:Yf aV.abs=Ya w:=by
  have:=aDE w os;rw[r0]at this;exact Option.some.inj this
 have r1:=bN r0;have r:=topRun_mono (N-M) _ _ _ _ r1;rw[show M+(N-M)=N by have:=Nat.le_of_ble_eq_true le;omega]at r
 have a0:SharedT.abs ⟨T₀ w.params,n₀,l₀,gs,d,k,os⟩=⟨H₀ w.params,gs,d,k,os⟩:=by
  show(⟨absHeap (T₀ w.params) n₀ l₀,gs,d,k,os⟩:Shared)=_;rw[tree]
 rw[a0]at r
 have t:topFrom treeTable p w N ⟨H₀ w.params,gs,d,k,os⟩=some aV.abs:=by
  unfold topFrom;dsimp only;rw[z1,z2,SX,r];show(match staticsOk (importedModules p.main.body) (H₀ w.params) aV.abs.heap&&namesBound p aV.abs.heap&&gensDone aV.abs&&laidKept (H₀ w.params) aV.abs.heap with | true=>_ | false=>_)=_
  rw[l1]
 unfold openEnds;rw[e];show(topFrom treeTable p w N _).map _=_;rw[t];exact congrArg some (Prod.ext l2 l3)
noncomputable def treeOf (l:List Obj):BT:=l.zipIdx.foldl (λt x=>t.ins x.2 x.1) .nil
open L2
inductive Dp where
 |v (x:Option (Option Value))
 |b (x:Option Bool)
 |f (x:Option (FuncData×Bool))
noncomputable abbrev uu:=(eY->Dp)×Dp
noncomputable def Sat (K:eY) (l:List uu):Prop:=∀e∈l,e.1 K=e.2
noncomputable def eb (f:eY->Bool):uu:=(λK=>.b (some (f K)),.b (some true))
noncomputable def f9 (f:eY->Option Bool) (v:Option Bool):uu:=(λK=>.b (f K),.b v)
noncomputable def ev (f:eY->Option (Option Value)) (v:Option (Option Value)):uu:=(λK=>.v (f K),.v v)
noncomputable def aw8 (K:eY) (v:Option (Option Value)) (q:Str):Option (FuncData×Bool):=match v with
 |some (some (.ref f))=>match K.lookup f with
  |some ⟨_,_,.func fd,_⟩=>some ({ fd with kwdefaults:=.none,doc:=.none,pyModule:=.none,annotations:=none,code:=.none,closureTuple:=.none},codeIn K fd.code q&&keepIn K (.ref f)&&isFn K (.ref f))
  |_=>none
 |_=>none
noncomputable def bz (g:eY->Option (Option Value)) (x q:Str) (st:Stmt):uu:=(λK=>.f (aw8 K (g K) q),.f (some (PySem.W.fnOf x q (Js st) (hV st) (ax st) .none .none .none .none none .none .none,true)))
noncomputable def TA (x:Str) (C:Addr):List uu:=
  [ev (λK=>nsIn K mainGlobals x) (some (some (.ref C))),ev (λK=>findIn K (.ref C) "__getattribute__") (some (some (.builtin "BaseException.__getattribute__"))),ev (λK=>findIn K (.ref C) "__getattr__") (some none),
   ev (λK=>findIn K (.ref C) "__class__") (some (some (.builtin "object.__class__"))),f9 (λK=>mroIn K C (.type "object")) (some true),f9 (λK=>mroIn K C (.type "BaseException")) (some true),eb (λK=>isClsIn K C),
   ev (λK=>specialIn K (.builtin "object.__class__") "__get__") (some (some (.builtin "getset_descriptor.__get__"))),f9 (λK=>takesIn K (.builtin "object.__class__")) (some true)]
noncomputable def akn (x:Str) (C:Addr):List uu:=
 [ev (λK=>nsIn K mainGlobals x) (some (some (.ref C))),eb (λK=>plainGet K C Str.empty),eb (λK=>hasDictIn K C),eb (λK=>plainOver K C),ev (λK=>findIn K (.ref C) "__setattr__") (some (some (.builtin "object.__setattr__")))]
noncomputable def All (l:List (List uu)) (K:eY):Prop:=∀g∈l,Sat K g
noncomputable def bI (as:List Addr) (h:Heap):eY:=as.filterMap λa=>match h.get? a with
 |some o=>some (a,o)
 |none=>none
theorem bO (as:List Addr) (h:Heap):(bI as h).In h:=by
 induction as with
 |nil=>intro a o e;cases e
 |cons b as ih=>
  intro a o e;unfold bI at e;rw[List.filterMap_cons]at e;cases hb:h.get? b with
  |none=>rw[hb]at e;exact ih a o e
  |some x=>
   rw[hb]at e;simp only[List.lookup_cons]at e;split at e
   ·rename_i q;cases e;rw[beq_iff_eq.mp q];exact hb
   ·exact ih a o e
noncomputable def hook (as:List Addr) (L:List (List uu)):Hook where
 α:=List (List Dp)
 obs s:=L.map λg=>g.map λe=>e.1 (bI as s.heap)
 val _:=L.map λg=>g.map (·.2)
 says _ h:=∃K:eY,K.In h/\All L K
 of w s e:=⟨bI as s.heap,bO as s.heap,λg hg x hx=>List.map_inj_left.mp (List.map_inj_left.mp e g hg) x hx⟩
 keeps w h h' x k:=by obtain⟨K,a,b⟩:=x;exact⟨K,a.keeps k,b⟩
end Hd
end
section
namespace Rw
open PySem L2 PySem.W PyProof.Rows PySem.Calls Hd
noncomputable def top (i:Nat):Stmt:=PySem.Challenge.pw_signalbox_k11_trains.main.body.getD i (.Pass ⟨0,0,0,0⟩)
noncomputable abbrev kb:Stmt:=top 11
noncomputable abbrev Sj:Stmt:=top 12
noncomputable abbrev X?:Stmt:=top 13
noncomputable abbrev lL:Stmt:=top 14
noncomputable abbrev Sh:Stmt:=top 15
noncomputable abbrev acA:Stmt:=top 16
noncomputable abbrev oI:Stmt:=top 17
noncomputable abbrev acq:Stmt:=top 18
noncomputable abbrev ab3:Stmt:=top 19
noncomputable abbrev ab4:Stmt:=top 20
noncomputable abbrev ip:Stmt:=top 21
noncomputable abbrev acr:Stmt:=inClass (top 23) 0
noncomputable abbrev R?:Stmt:=top 24
noncomputable abbrev ac5:Stmt:=top 25
noncomputable abbrev ac6:Stmt:=top 27
noncomputable abbrev ali:Stmt:=top 28
noncomputable abbrev ke:Stmt:=inClass (top 30) 0
noncomputable abbrev auA:Stmt:=inClass (top 30) 2
noncomputable abbrev aui:Stmt:=inClass (top 30) 3
noncomputable abbrev lj:Stmt:=inClass (top 30) 4
noncomputable abbrev auB:Stmt:=inClass (top 30) 5
noncomputable abbrev ll:Stmt:=inClass (top 30) 6
noncomputable abbrev auw:Stmt:=inClass (top 30) 7
noncomputable abbrev acB:Stmt:=inClass (top 31) 0
noncomputable abbrev acC:Stmt:=top 32
noncomputable abbrev ac7:Stmt:=top 33
noncomputable abbrev adv:Stmt:=top 34
noncomputable abbrev adi:Stmt:=top 35
noncomputable abbrev ac8:Stmt:=top 36
noncomputable abbrev ak3:Stmt:=top 37
noncomputable abbrev alu:Stmt:=top 38
noncomputable abbrev akU:Stmt:=top 39
noncomputable abbrev ab5:Stmt:=top 40
noncomputable abbrev acs:Stmt:=top 41
noncomputable abbrev ab6:Stmt:=top 42
noncomputable abbrev ace:Stmt:=top 43
noncomputable abbrev acf:Stmt:=top 44
noncomputable abbrev ab7:Stmt:=top 45
noncomputable abbrev ab8:Stmt:=top 46
noncomputable abbrev mi:Stmt:=top 47
noncomputable abbrev abV:Stmt:=top 48
noncomputable abbrev adj:Stmt:=top 50
noncomputable abbrev Zo:Stmt:=top 51
noncomputable abbrev adw:Stmt:=top 52
noncomputable abbrev Y6:Stmt:=top 53
noncomputable abbrev acu:Stmt:=top 54
noncomputable abbrev acg:Stmt:=top 55
noncomputable abbrev acM:Stmt:=top 56
noncomputable abbrev acU:Stmt:=top 58
noncomputable abbrev adk:Stmt:=top 59
noncomputable abbrev Sk:Stmt:=top 60
noncomputable abbrev M3:Stmt:=top 61
noncomputable abbrev acD:Stmt:=top 62
noncomputable abbrev YE:Stmt:=top 63
noncomputable abbrev tI:Stmt:=top 64
noncomputable abbrev Sl:Stmt:=top 65
noncomputable abbrev YN:Stmt:=top 66
noncomputable abbrev Si:Stmt:=top 67
noncomputable abbrev acV:Stmt:=top 68
noncomputable abbrev YF:Stmt:=top 69
noncomputable abbrev YO:Stmt:=top 70
noncomputable abbrev acW:Stmt:=top 71
noncomputable abbrev lr:Stmt:=top 72
noncomputable abbrev acX:Stmt:=top 73
noncomputable abbrev acN:Stmt:=top 74
noncomputable abbrev YG:Stmt:=top 75
noncomputable abbrev acO:Stmt:=top 76
noncomputable abbrev adx:Stmt:=top 77
noncomputable abbrev acY:Stmt:=top 78
noncomputable abbrev So:Stmt:=top 79
noncomputable abbrev acP:Stmt:=top 80
noncomputable abbrev acZ:Stmt:=top 81
noncomputable abbrev alc:Stmt:=top 82
noncomputable abbrev acE:Stmt:=top 83
noncomputable abbrev ady:Stmt:=top 84
noncomputable abbrev Sp:Stmt:=top 85
noncomputable abbrev Yb:Stmt:=top 86
noncomputable abbrev ac0:Stmt:=top 87
noncomputable abbrev AI:Stmt:=top 88
noncomputable def facts:List (List uu):=[TA "BadYard" 44,
 TA "BoxError" 31,
 TA "Held" 68,
 TA "NotThere" 56,
 TA "Red" 80,
 [eb λK=>excIn K 44 [.type "ValueError",.type "Exception",.type "BaseException",.type "object"] "ValueError.__new__"],
 [eb λK=>excIn K 68 [.type "ValueError",.type "Exception",.type "BaseException",.type "object"] "ValueError.__new__"],
 [eb λK=>excIn K 56 [.type "ValueError",.type "Exception",.type "BaseException",.type "object"] "ValueError.__new__"],
 [eb λK=>excIn K 80 [.type "ValueError",.type "Exception",.type "BaseException",.type "object"] "ValueError.__new__"],
 [f9 (λK=>exmOne K (.ref 44) (.ref 31)) (some true)],
 [f9 (λK=>exmOne K (.ref 56) (.ref 31)) (some true)],
 [f9 (λK=>exmOne K (.ref 68) (.ref 31)) (some true)],
 [f9 (λK=>exmOne K (.ref 80) (.ref 31)) (some true)],
 [f9 (λK=>kitOne K (.ref 44) (.ref 44)) (some true)],
 [f9 (λK=>kitOne K (.ref 56) (.ref 44)) (some false)],
 [f9 (λK=>kitOne K (.ref 68) (.ref 44)) (some false)],
 [f9 (λK=>kitOne K (.ref 80) (.ref 44)) (some false)],
 [f9 (λK=>kitOne K (.ref 44) (.ref 68)) (some false)],
 [f9 (λK=>kitOne K (.ref 56) (.ref 68)) (some false)],
 [f9 (λK=>kitOne K (.ref 68) (.ref 68)) (some true)],
 [f9 (λK=>kitOne K (.ref 80) (.ref 68)) (some false)],
 [f9 (λK=>kitOne K (.ref 44) (.ref 56)) (some false)],
 [f9 (λK=>kitOne K (.ref 56) (.ref 56)) (some true)],
 [f9 (λK=>kitOne K (.ref 68) (.ref 56)) (some false)],
 [f9 (λK=>kitOne K (.ref 80) (.ref 56)) (some false)],
 [f9 (λK=>kitOne K (.ref 44) (.ref 80)) (some false)],
 [f9 (λK=>kitOne K (.ref 56) (.ref 80)) (some false)],
 [f9 (λK=>kitOne K (.ref 68) (.ref 80)) (some false)],
 [f9 (λK=>kitOne K (.ref 80) (.ref 80)) (some true)],
 [f9 (λK=>kitOne K (.ref 44) (.type "ValueError")) (some true)],
 [f9 (λK=>kitOne K (.ref 56) (.type "ValueError")) (some true)],
 [f9 (λK=>kitOne K (.ref 68) (.type "ValueError")) (some true)],
 [f9 (λK=>kitOne K (.ref 80) (.type "ValueError")) (some true)],
 akn "Fall" 285,
 [eb λK=>makesIn K 285],
 [eb λK=>keepIn K (.ref 285)],
 akn "Train" 172,
 [eb λK=>makesIn K 172],
 [eb λK=>keepIn K (.ref 172)],
 akn "Yard" 264,
 [eb λK=>makesIn K 264],
 [eb λK=>keepIn K (.ref 264)],
 [ev (λK=>findIn K (.ref 285) "near") (some none)],
 [ev (λK=>findIn K (.ref 285) "until") (some none)],
 [ev (λK=>findIn K (.ref 172) "ahead") (some none)],
 [ev (λK=>findIn K (.ref 172) "is_out") (some none)],
 [ev (λK=>findIn K (.ref 172) "steps") (some none)],
 [ev (λK=>findIn K (.ref 264) "falls") (some none)],
 [ev (λK=>findIn K (.ref 264) "found") (some none)],
 [ev (λK=>findIn K (.ref 264) "greens") (some none)],
 [ev (λK=>findIn K (.ref 264) "locks") (some none)],
 [ev (λK=>findIn K (.ref 264) "lying") (some none)],
 [ev (λK=>findIn K (.ref 264) "pieces") (some none)],
 [ev (λK=>findIn K (.ref 264) "signals") (some none)],
 [ev (λK=>findIn K (.ref 264) "ticks") (some none)],
 [ev (λK=>findIn K (.ref 264) "trains") (some none)],
 [ev (λK=>findIn K (.ref 264) "wait") (some none)],
 [ev (λK=>nsIn K mainGlobals "ValueError") (some none)],
 [ev (λK=>nsIn K mainGlobals "all") (some none)],
 [ev (λK=>nsIn K mainGlobals "any") (some none)],
 [ev (λK=>nsIn K mainGlobals "bool") (some none)],
 [ev (λK=>nsIn K mainGlobals "enumerate") (some none)],
 [ev (λK=>nsIn K mainGlobals "int") (some none)],
 [ev (λK=>nsIn K mainGlobals "isinstance") (some none)],
 [ev (λK=>nsIn K mainGlobals "len") (some none)],
 [ev (λK=>nsIn K mainGlobals "list") (some none)],
 [ev (λK=>nsIn K mainGlobals "max") (some none)],
 [ev (λK=>nsIn K mainGlobals "min") (some none)],
 [ev (λK=>nsIn K mainGlobals "range") (some none)],
 [ev (λK=>nsIn K mainGlobals "reversed") (some none)],
 [ev (λK=>nsIn K mainGlobals "tuple") (some none)],
 [ev (λK=>nsIn K mainGlobals "LAST_JOINT") (some (some (.int 999 284)))],
 [ev (λK=>nsIn K mainGlobals "MOST_PIECES") (some (some (.int 16 280)))],
 [ev (λK=>nsIn K mainGlobals "MOST_SIGNALS") (some (some (.int 16 282)))],
 [bz (λK=>nsIn K mainGlobals "joints_of") "joints_of" "joints_of" kb],
 [bz (λK=>nsIn K mainGlobals "pieces_at") "pieces_at" "pieces_at" Sj],
 [bz (λK=>nsIn K mainGlobals "piece_beyond") "piece_beyond" "piece_beyond" X?],
 [bz (λK=>nsIn K mainGlobals "is_border") "is_border" "is_border" lL],
 [bz (λK=>nsIn K mainGlobals "joints_out") "joints_out" "joints_out" Sh],
 [bz (λK=>nsIn K mainGlobals "is_points") "is_points" "is_points" acA],
 [bz (λK=>nsIn K mainGlobals "lie_for") "lie_for" "lie_for" oI],
 [bz (λK=>nsIn K mainGlobals "check_yard") "check_yard" "check_yard" acq],
 [bz (λK=>nsIn K mainGlobals "check_pieces") "check_pieces" "check_pieces" ab3],
 [bz (λK=>nsIn K mainGlobals "check_joints") "check_joints" "check_joints" ab4],
 [bz (λK=>nsIn K mainGlobals "check_signals") "check_signals" "check_signals" ip],
 [bz (λK=>findIn K (.ref 172) "__init__") "__init__" "Train.__init__" acr],
 [bz (λK=>nsIn K mainGlobals "pieces_under") "pieces_under" "pieces_under" R?],
 [bz (λK=>nsIn K mainGlobals "turned") "turned" "turned" ac5],
 [bz (λK=>nsIn K mainGlobals "routes") "routes" "routes" ac6],
 [bz (λK=>nsIn K mainGlobals "ways_on") "ways_on" "ways_on" ali],
 [bz (λK=>findIn K (.ref 264) "__init__") "__init__" "Yard.__init__" ke],
 [bz (λK=>findIn K (.ref 264) "time") "time" "Yard.time" auA],
 [bz (λK=>findIn K (.ref 264) "lock_of") "lock_of" "Yard.lock_of" aui],
 [bz (λK=>findIn K (.ref 264) "train_in") "train_in" "Yard.train_in" lj],
 [bz (λK=>findIn K (.ref 264) "lies") "lies" "Yard.lies" auB],
 [bz (λK=>findIn K (.ref 264) "is_green") "is_green" "Yard.is_green" ll],
 [bz (λK=>findIn K (.ref 264) "where") "where" "Yard.where" auw],
 [bz (λK=>findIn K (.ref 285) "__init__") "__init__" "Fall.__init__" acB],
 [bz (λK=>nsIn K mainGlobals "set_route") "set_route" "set_route" acC],
 [bz (λK=>nsIn K mainGlobals "cancel") "cancel" "cancel" ac7],
 [bz (λK=>nsIn K mainGlobals "tick") "tick" "tick" adv],
 [bz (λK=>nsIn K mainGlobals "throw") "throw" "throw" adi],
 [bz (λK=>nsIn K mainGlobals "unlock") "unlock" "unlock" ac8],
 [bz (λK=>nsIn K mainGlobals "signal_of") "signal_of" "signal_of" ak3],
 [bz (λK=>nsIn K mainGlobals "way_of") "way_of" "way_of" alu],
 [bz (λK=>nsIn K mainGlobals "is_at_border") "is_at_border" "is_at_border" akU],
 [bz (λK=>nsIn K mainGlobals "signal_ahead") "signal_ahead" "signal_ahead" ab5],
 [bz (λK=>nsIn K mainGlobals "train_near") "train_near" "train_near" acs],
 [bz (λK=>nsIn K mainGlobals "train_called") "train_called" "train_called" ab6],
 [bz (λK=>nsIn K mainGlobals "check_route") "check_route" "check_route" ace],
 [bz (λK=>nsIn K mainGlobals "check_piece") "check_piece" "check_piece" acf],
 [bz (λK=>nsIn K mainGlobals "check_points") "check_points" "check_points" ab7],
 [bz (λK=>nsIn K mainGlobals "check_signal") "check_signal" "check_signal" ab8],
 [bz (λK=>nsIn K mainGlobals "is_number_of") "is_number_of" "is_number_of" mi],
 [bz (λK=>nsIn K mainGlobals "check_not_held") "check_not_held" "check_not_held" abV],
 [bz (λK=>nsIn K mainGlobals "enter") "enter" "enter" adj],
 [bz (λK=>nsIn K mainGlobals "go") "go" "go" Zo],
 [bz (λK=>nsIn K mainGlobals "draw") "draw" "draw" adw],
 [bz (λK=>nsIn K mainGlobals "turn") "turn" "turn" Y6],
 [bz (λK=>nsIn K mainGlobals "route_past") "route_past" "route_past" acu],
 [bz (λK=>nsIn K mainGlobals "pass_signal") "pass_signal" "pass_signal" acg],
 [bz (λK=>nsIn K mainGlobals "come_on") "come_on" "come_on" acM],
 [bz (λK=>nsIn K mainGlobals "_law_cell") "_law_cell" "_law_cell" acU],
 [bz (λK=>nsIn K mainGlobals "_law_mix") "_law_mix" "_law_mix" adk],
 [bz (λK=>nsIn K mainGlobals "_law_beyond") "_law_beyond" "_law_beyond" Sk],
 [bz (λK=>nsIn K mainGlobals "_law_pieces") "_law_pieces" "_law_pieces" M3],
 [bz (λK=>nsIn K mainGlobals "_law_signals") "_law_signals" "_law_signals" acD],
 [bz (λK=>nsIn K mainGlobals "_law_outs") "_law_outs" "_law_outs" YE],
 [bz (λK=>nsIn K mainGlobals "_law_ways") "_law_ways" "_law_ways" tI],
 [bz (λK=>nsIn K mainGlobals "_law_routes") "_law_routes" "_law_routes" Sl],
 [bz (λK=>nsIn K mainGlobals "_law_new") "_law_new" "_law_new" YN],
 [bz (λK=>nsIn K mainGlobals "_law_train_in") "_law_train_in" "_law_train_in" Si],
 [bz (λK=>nsIn K mainGlobals "_law_held") "_law_held" "_law_held" acV],
 [bz (λK=>nsIn K mainGlobals "_law_free") "_law_free" "_law_free" YF],
 [bz (λK=>nsIn K mainGlobals "_law_set") "_law_set" "_law_set" YO],
 [bz (λK=>nsIn K mainGlobals "_law_near") "_law_near" "_law_near" acW],
 [bz (λK=>nsIn K mainGlobals "_law_cancel") "_law_cancel" "_law_cancel" lr],
 [bz (λK=>nsIn K mainGlobals "_law_tick") "_law_tick" "_law_tick" acX],
 [bz (λK=>nsIn K mainGlobals "_law_throw") "_law_throw" "_law_throw" acN],
 [bz (λK=>nsIn K mainGlobals "_law_pass") "_law_pass" "_law_pass" YG],
 [bz (λK=>nsIn K mainGlobals "_law_enter") "_law_enter" "_law_enter" acO],
 [bz (λK=>nsIn K mainGlobals "_law_go") "_law_go" "_law_go" adx],
 [bz (λK=>nsIn K mainGlobals "_law_draw") "_law_draw" "_law_draw" acY],
 [bz (λK=>nsIn K mainGlobals "_law_turn") "_law_turn" "_law_turn" So],
 [bz (λK=>nsIn K mainGlobals "_law_there") "_law_there" "_law_there" acP],
 [bz (λK=>nsIn K mainGlobals "_law_done") "_law_done" "_law_done" acZ],
 [bz (λK=>nsIn K mainGlobals "_law_asked") "_law_asked" "_law_asked" alc],
 [bz (λK=>nsIn K mainGlobals "_law_refusal") "_law_refusal" "_law_refusal" acE],
 [bz (λK=>nsIn K mainGlobals "_law_is") "_law_is" "_law_is" ady],
 [bz (λK=>nsIn K mainGlobals "_law_same") "_law_same" "_law_same" Sp],
 [bz (λK=>nsIn K mainGlobals "_law_near_deeds") "_law_near_deeds" "_law_near_deeds" Yb],
 [bz (λK=>nsIn K mainGlobals "_law_deed") "_law_deed" "_law_deed" ac0],
 [bz (λK=>nsIn K mainGlobals "law") "law" "law" AI]]
noncomputable abbrev PW:=PySem.Challenge.pw_signalbox_k11_trains
noncomputable def Q:Program:=PySem.W.view PW [88]
noncomputable def ks:List Str:=(["_wall","BoxError","BadYard","NotThere","Held","Red","MOST_PIECES","MOST_SIGNALS","LAST_JOINT","joints_of","pieces_at","piece_beyond","is_border","joints_out","is_points","lie_for","check_yard","check_pieces","check_joints","check_signals","Train","pieces_under","turned","routes","ways_on","Yard","Fall","set_route","cancel","tick","throw","unlock","signal_of","way_of","is_at_border","signal_ahead","train_near","train_called","check_route","check_piece","check_points","check_signal","is_number_of","check_not_held","enter","go","draw","turn","route_past","pass_signal","come_on","_law_cell","_law_mix","_law_beyond","_law_pieces","_law_signals","_law_outs","_law_ways","_law_routes","_law_new","_law_train_in","_law_held","_law_free","_law_set","_law_near","_law_cancel","_law_tick","_law_throw","_law_pass","_law_enter","_law_go","_law_draw","_law_turn","_law_there","_law_done","_law_asked","_law_refusal","_law_is","_law_same","_law_near_deeds","_law_deed"]:List String).map Str.ofString
noncomputable def a4U:Pos:=match AI with
 |.FunctionDef _ _ _ _ _ _ _ _ _ p=>p
 |_=>⟨0,0,0,0⟩
noncomputable def hk:Hook:=hook [3,2,31,30,44,43,56,55,68,67,80,79,172,171,264,263,285,284,21,20,89,88,94,93,101,100,108,107,113,112,120,119,127,126,134,133,141,140,148,147,155,154,169,168,181,180,188,187,195,194,200,199,212,211,219,218,226,225,233,232,240,239,247,246,254,253,261,260,282,281,296,295,303,302,310,309,317,316,324,323,331,330,338,337,345,344,352,351,359,358,366,365,373,372,380,379,387,386,394,393,401,400,408,407,415,414,422,421,429,428,434,433,441,440,448,447,455,454,462,461,469,468,474,473,479,478,486,485,491,490,496,495,501,500,506,505,511,510,518,517,523,522,528,527,535,534,540,539,547,546,554,553,559,558,566,565,573,572,580,579,585,584,592,591,599,598,606,605,613,612,620,619,625,624,630,629,637,636,642,641] facts
noncomputable def tr (P:Params):BT:=treeOf (boot_heap P).objs.toList
theorem a4S:opening PW=plainProg PW.main.scope.names:=by kernel_rfl
theorem a3K (s:Shared):fenceModules? PW s=some s:=by kernel_rfl
theorem a5u:PySem.Challenge.rw_signalbox_k11_trains.row.wellSaid=true:=by kernel_rfl
theorem a5v:PySem.Challenge.rw_signalbox_k11_trains.wellSaid=true:=by
 unfold PySem.W.OpenLaw.wellSaid;rw[a5u,Bool.true_and]
 kernel_rfl
theorem a44 (w:World):((boot_heap w.params).isNs mainGlobals&&(Array.mk ([]:List GenState)).size == 0,(boot_heap w.params).objs.size,(boot_heap w.params).nsMap mainGlobals "__annotations__")=(true,11,(some (.ref 6))):=by kernel_rfl
theorem a5f (P:Params):absHeap (tr P) 11 {}=boot_heap P:=by kernel_rfl
theorem run (w:World) (os:OsState):(bC (stepT (denote treeTable) PW w) 11 (some (.ref 6)) 8416 ⟨tr w.params,11,{},Array.mk [],boot_drawn,boot_toks,os⟩ (topStub PW)).map (λs=>PH PW Q ks (λs=>xlAt Q [] s&&recOk [] s) true (boot_heap w.params) s.abs)=some (true,openGood Q ks):=by kernel_rfl
theorem aDE (w:World) (os:OsState):(bC (stepT (denote treeTable) PW w) 11 (some (.ref 6)) 8416 ⟨tr w.params,11,{},Array.mk [],boot_drawn,boot_toks,os⟩ (topStub PW)).map (λs=>hk.obs s.abs)=some (hk.val w):=by kernel_rfl
end Rw
end
def ZqN (k:Lean.Name):String:="\t".intercalate (k.components.map fun c=>c.toString false)
def ZqS:Nat->Lean.Syntax->String
|0,_=>""
|_,.atom _ v=>"'"++v++"\n"
|_,.ident _ _ x _=>"."++ZqN x++"\n"
|n+1,.node _ k as=>(match k with
 |`null=>"(n"
 |.str `Lean.Parser.Term x=>"(t"++x
 |.str `Lean.Parser.Tactic x=>"(c"++x
 |k=>"(_"++ZqN k)++"\n"++as.foldl (fun r a=>r++ZqS n a) ""++")\n"
|_,_=>"?\n"
local macro_rules
|`(mutual $cs* end)=>do
 if !cs[0]!.raw.isOfKind ``Lean.Parser.Command.universe then Lean.Macro.throwUnsupported
 let l:=Lean.Syntax.mkStrLit ((cs.extract 1).foldl (fun r c=>let d:=c.raw[1];r++ZqS 10000 (.node .none `null #[d[1][0],d[2][0],d[3][1]])) "")
 `(def $(Lean.mkIdent `ZqD):ident:String:=$l)
mutual
universe zD
def aN a:=some (a)
def d7 a b:=aN (a b)
def aC:=(by decide)
def η:=.int
def cJ a:=d7 η a
def afB:=by with_unfolding_all rfl
def bh a:=(by simpa using a)
def eB:=by dsimp only[List.set]
def Ξ:=(by simp)
def QS a:=List (a)
def jC a:=decide (a)
def av:=(by omega)
def ο:=.obj
def cF a:=d7 ο a
def EA a b:=Nat.le_trans a (b)
def UA a b c d:=Inv a pins b c d
def cz:=List Addr
def qB a:=Heap.get?_push_of_some _ a
def gW a b:=QS (a×b)
def aK a:=(by simp[a])
def DS a:=starEach a X.env
def bU:=(by rw[afB])
def dw:=Option Nat
def az a b:=by
 rw[a]
 exact b
def iW a:=List.replicate Y.ps.length a
def cC:=List Value
def ς:=.lst
def QT a:=wW Y.rs a
def GP a:=b4 W.trains a
def Ω:=.str
def dY:=List aj
def fO:=Option Value
def Ç:=by decide +kernel
def bI a b c d:=by
 have a:=b
 have c:=d
def ak:=ae 0
def fe:=Nat.le_refl _
def kQ a:=d7 ς a
def KM a b c d:=by obtain⟨a,b,c⟩:=List.mem_map.mp d
def zM a b:=by
 unfold a
 refine b
def EB a b c d:=by
 obtain⟨a,b⟩:=c
 exact d
def dN:=(by rw[Ç])
def lJ a:=eval a X.env
def bq a b c d e f:=by
 have a:b:=c
 have d:e:=f
def eE a b c d e f g h i j k l:=by
 rw[bq a b c d e f]
 rw[bq g h i j k l]
def eS a b c:=by obtain⟨a,rfl,b⟩:=c
def d5 a b:=cD f_ a (b)
def lS a:=⟨a,rfl⟩
def e8 a b c d:=by
 obtain⟨a,b⟩:=c
 exact d
def oN a:=List.mem_cons_of_mem _ a
def bV a b c:=by
 rw[a]at b
 exact c
def fu a:=wpAny_bind (a)
def eo a b c d e:=by obtain⟨a,b,rfl,c,d⟩:=e
def mL:=W.falls.map (·.1)
def eL:=Option Int
def cO a:=a->Prop
def Bt:=cO Shared
def nj a b c d e f:=wpAny a b (c) d e f
def afR a b c:=List.mem_map.mpr ⟨a,b,c⟩
def cV a b c:=by
 have a:=b
 refine c
def gz:=List Str
def d? a:=eN (a) sY
def b_ a:=d? (af a)
def cH:=List V
def Δ:=.ref
def QU a b:=a = some b
def zN:=t.steps.reverse.map flip
def e!:=.builtin
def dI a:=yi false a
def KN a b:=by rw[az (uM a) b]
def ff a b:=by
 refine a
 refine b
def gG:=gW Addr Obj
def b! a b:=by
 rw[←a]
 exact b
def QV a b c d e f g h i:=by
 refine a
 obtain⟨b,c,d,e,f,g,h⟩:=i
def kq a b:=UA X σ a b
def eK:=List Int
def vC a b:=s.heap.get? a=some b
def KO a b:=uL G.hu (a) b
def vD a b:=KO (af a) b
def mh a b:={ a with heap:=b}
def QW a b:=M.set a (b)
def xT:=t.tr.steps.reverse.map flip
def iz:=List eJ
def cP a b c:=λa b c=>?_
def lT:=ps.map dR.enc
def jB a:=a≤sizeLine
def jh a b:=⟨a,rfl,b⟩
def ji a:=by
 rw[eB]
 refine a
def bL a:=H.f a rfl
def cj:=by exact w.elim
def dF:=List Expr
def EC a:=List.getElem?_eq_none (a)
def rI a b c d:=X! a (cP b c d)
def xU:=if_neg Bool.false_ne_true
def ED a b:=fun a=>aj.int b
def QX a b:=by rw[a,List.getElem?_eq_getElem b]
def dX a b c d:=by
 have a:b:=c
 refine d
def GQ a:=Heap.get?_push_size a rfl
def aG:=ae 1
def rJ a b:=by obtain⟨a,rfl⟩:=b
def ku a:=by
 dsimp only
 rw[a]
def KP a:=b4 B.locks a
def ck a:=λa=>?_
def aD:=cF 0
def gX a:=EA a aC
def fP a b c:=QU a[b]? c
def mj:=Heap.lt_size e
def KQ a b c d e f g:=by
 obtain⟨a,b,c,d,e⟩:=f
 exact g
def aI:=cF 7
def cg:=QT r
def pN a:=Nat.ne_of_lt (a)
def È a b:=beyond Y.ps a b
def cu a:=ayT G.ie a
def g?:=cF M.length
def afS a b:=Nat.lt_of_lt_of_le (a) b
def wZ:=X.env.cells.lookup x
def É a b c d e:=by
 obtain⟨a,b,c⟩:=d
 exact e
def vE a b c d:=if a=b then c else d
def eT a:=vD a d9
def lU a:=MS trivial a
def gA a:=yj Y.ss a
def zO a b:=λa=>jC b
def lV a b c d:=Fn z a b c d
def pO a b:=by exact absurd a b
def jV a:=M.length+a
def rK:=B.falls.map (·.1)
def gf:=List Nat
def QY:=t.tr.steps.map bE
def vF:=w.map (·.1)
def vG a b c d e f:=by
 obtain⟨a,b,c,d⟩:=e
 exact f
def apk a:=["_law_world",a]
def UB a:=a == NameKind.free
def gi:=sl.mono e1
def d8 a:=dR.at ps a
def XU a:=gW Str a
def ee:=.type
def KR a:=aN (some a)
def cX:=bo Y.rs r
def fZ a:=by
 have:=a
 omega
def afT a:=aN9 false a
def qC:=d.map (·.1)
def dz a b:=λa b=>?_
def EE a b:=List.map_congr_left (dz a b)
def mO a:=(a).length
def gK:=if_pos rfl
def BL a:=by
 show a
 decide
def dO:=ο M.length
def aH:=ae 2
def zP a:=eN (af 0) a
def UC a b c:=by obtain⟨a,b⟩:=Option.isSome_iff_exists.mp c
def iH:=ss.map fE
def eU a:=vD a bW
def Θ a:=dC (η a)
def dj a:=dC (Ω a)
def Kv a:=AB a Y.rs.length
def aX:=cJ x
def iO:=kq H s
def UD a b:=by simp[a,b,PyData.eqv]
def apl a b c:=by obtain⟨a,_,b⟩:=List.mem_map.mp c
def QZ:=.Attribute
def Q0 a:=by rw[QX List.getD_eq_getElem?_getD a]
def aLc a b c:=acJ PySem.F.slot_list_append PySem.F.type_list_append a b c
def zQ a:=QS (Option a)
def dQ a:=a=false
def jg a b:=aIh X aJ a b
def b7 a b:=by exact⟨a,b⟩
def UE a:=Nat.lt_of_le_of_lt a aC
def GR a:=AB a Y.ps.length
def dJ a b:=by
 unfold a
 rw[b]
def Hr a b:=by rw[List.getElem?_set_self a]at b
def BN:=List.range ps.length
def Q1 a b c d e:=PySem.W.kia_one a I.qY b c d e
def aq:=.inl
def qD a b c:=by
 rw[a]at b
 dsimp only at c
def Hs a:=List.mem_append_right _ a
def EF:=aQ.MT.mpr rfl
def EG a:=Value->a
def iD:=EG Bt
def b8:=some o
def EH a b:=cD a aG b
def iX a b c d:=⟨a,b,c,rfl,d⟩
def UG a b:=(by simpa[a] using b)
def fy a b:=by refine⟨a,b⟩
def jW a b c:=by
 unfold a
 rw[az b c]
def Q2:=List.getElem?_eq_getElem hl
def aot a b c:=attributeBase a b X.env c
def afU a:=by
 rw[ku a]
 dsimp only
def gj a:=asD a G.nd
def nh a:=d7 a kvs
def EI a:=[dm.lst a]
def UH a b c:=aZ1 a b c ?_
def rL a b c:=aN (a b c)
def Ht a:=by simp only[List.mem_cons,List.not_mem_nil,or_false]at a
def dD:=some u
def fz a b:=by
 subst a
 exact b
def UI:=s.heap.push PySem.W.emptyDict
def xV a b:=PySem.W.findIn K a b
def Bv a:=gW Nat a
def Hu a:=a<Y.ss.length
def rM a b c d e:=by
 rw[bI a b c d]
 refine e
def iE a:=a (·.1)
def gB:=some x
def UJ:=List.getElem?_append_left hi
def aA:=.inr
def KS a b:=(a▸List.mem_of_getElem? b)
def sW:=List Tr
def jj a b c d:=λa b c d=>?_
def gM a b c d e f g h i:=by
 rw[bq a b c d e f]
 have g:h:=i
def vH a b c d e f g h:=by
 rw[bI a b c d]
 rw[bI e f g h]
def vI a b c d e f g:=by
 rw[bq a b c d e f]
 refine g
def Eb:=aQ.Se.mpr rfl
def fB:=aw ?_
def kA a b:=⟨a,b,rfl⟩
def BO:=sc.names.lookup x
def xW a b c d:=by obtain⟨cb,a,b,c⟩:=d
def KU a b:=by rw[List.getElem?_set_ne a]at b
def tu:=List Key
def UK a:=List.getElem?_append_left (a)
def aLd a b:=Calls.callWith_builtin a (b)
def Qc:=t.tr.steps.map (·.1)
def KV a:=h.gt a nofun
def KW a b:=beyond ps a b
def Z9 a:=(a).isSome
def aE:=.bad
def eV a b:=(a).trans b
def kB a:=eV (p_ aC) a
def afV a b:=eV (p_ a) b
def tv:=qS.set Ξ
def bH:=ae 3
def kC a b:=cD a bH b
def Hv a:=aN (bF a)
def KX a b c d e f:=wpAny_mono a b λc d e=>f
def Ê a b c d e f g:=I.turned (a:=s.toks) b c d e f g
def j7 a b c:=nj (model X.prog X.w) X.A a b X.qZ c
def Hw a b c d e f g h:=by
 obtain⟨a,b,c⟩:=d
 obtain⟨e,f,g⟩:=h
def XQ a:=assignEach a X.env
def Ec a b:=KO (eT a) b
def Q3 a b:=⟨a,t.ob,t.so,b⟩
def fh:=by
 simp
 omega
def w4 a:=RelV a u
def Ed a:=cm bl a ak
def BP a:=d5 ak (dC (Ω a))
def abN a:=X.s₀.heap.objs.size≤a
def Hx a b:=by have a:=of_decide_eq_true b
def KY a:=AB a Y.ss.length
def kR a:=if_pos (a)
def UL a:=["yard",a]
def dW:=cO aM
def apm a b c d e f:=wpAny_Call_method a b c PySem.F.plainAttrs_dict d e f
def Ë a b:=aub a B.trains b
def kS a b c:=show a=b from c
def yX a b c:=λa=>PyData.eqv b c
def pP a:=R7 a (af 0)
def nk:=.refl
def mq a b c d e:=by rw[EB a b c ⟨d,e⟩]
def Ì a:=ps.length≤a
def sV:=List br
def uN:=QS dw
def Q4 a b:={ a with locks:=b}
def dh a b c:=a3z K mg a b c
def zR a:=if_neg (a)
def afW a:=PySem.W.instObj a s.heap.objs.size
def DR:=List Env
def iY:=cF t.ob
def bN:=.cons
def cU:=.Name
def aO a:=a=true
def Ef a b:=aO (aj.jv a b)
def XN:=aO X.calm
def di a:=mO (a)
def gk:=aCx ps
def cv:=cJ r
def Q5 a:=xs.length≤a
def fQ a b:=(by simp[a,b])
def afX a:=aN (nM a)
def Hy a:=d7 Ω a
def gm:=Ω "straight"
def Q6:=Ω "trains"
def Hz a b c:=eG C Y none a b c
def aV:=.tup
def rz:=h'.get? b
def fm:=some t
def apn a b c:=wpAny_bind (a:=Builtin.Tuple.tupleExact b) c
def KZ a b c d e f g h i j k l m:=ef.bind (a:=iq X.K) b λc d e f g h i j k l=>m
def xX a:=d5 ak (dC (η a))
def qE a b:=upd H a b
def jk a b:=fP a i b
def DY a:=a≠X.env.locals
def vJ:=dj "cancel"
def tw a b c d e f:=by
 obtain⟨a,b⟩:=c
 have d:e:=f
def cG:=.none
def apo a:=a<Y.ps.length
def Eg a b:=d5 a (dC (η b))
def BQ:=DecidableEq κ
def UM a:=λa=>rfl
def gY:=kQ xs
def zS a:=(a,false)
def ez a b:=lV k a 2 b
def bG:=.exc
def apq a b:=by rw[a,List.getD_eq_getElem?_getD,b]
def Q7 a:=aN (bE a)
def rN:=lS none
def dZ:=GP x
def Eh a:=a≤2097152
def mu a b c d:=by
 rw[zM a (AA (b:=λc=>d) ?_)]
 simp only[cZ,zD,zE,yE,Nat.zero_add,Nat.reduceAdd,Nat.reduceSub,List.replicate,Dd,wC,mV]
def Q8:=W.trains.map (·.1)
def Q9:=List.Sublist.refl _
def Í a b:=if a then b else none
def afY a:=iM B.greens a
def UN a:=auT B.trains a
def apr a b c:=wKs a W.green b c
def BR:=dj "enter"
def K0 a:=(by simp at a)
def gZ a:=H.v a rfl
def f5 a b c:=by
 unfold a
 rw[b,c]
def BB a b c d:=by
 obtain⟨a,b⟩:=c
 refine d
def K1 a:=B.lying.getD a true
def atE a b c:=lV a "_law_beyond" b c
def nq:=by exact w1.elim
def BC a:=a<W.locks.length
def iZ a:=(by rw[a])
def jE a b c:=UH (a) b c
def aou a:=X.A.units+a
def ry:=List α
def uO:=List aeA
def kT:=I.tok _
def jF a:=d7 Δ a
def BD a b:=⟨a,b,false⟩
def BA a b:=Hz o a b
def zT a b:=aQ K ι S a b
def cQ:=.ins
def Î a b:=rL cQ a b
def kU a:=⟨rfl,a⟩
def nr a b c d e f g:=by rw[É a b c d ⟨e,f,g⟩]
def eF a b c:=by refine⟨a,b,c⟩
def Ï a b c:=by rw[cV a (of_decide_eq_true b) c]
def Q_:=List.mem_cons.mp h
def ayU a b c:=swapsWith a b c X.env
def BE a b c d e:=by
 obtain⟨a,b,c⟩:=d
 refine e
def iI:=.cancel
def Qt a b:=QW a (ς b)
def jX a:=Sum.inl (a:Int)
def fc:=some k
def UO a b:=aO (PySem.W.keepIn a b)
def bO a b c d:=FnAt K (nsIn K mainGlobals a) b c d
def Ð a b:=m6 a hr G.ie (zP (b_ b))
def vK a b c d:=abR (iT a b c) d apE
def Ei a b:=abR (DB.aEi a) b apE
def Ñ a b:=by obtain⟨_,_,_,_,o,_,_,a,_⟩:=b
def Ò a b:=if a then b else aE
def ayY a:=("signals",a)
def Ó a:=I.a_.fresh (a)
def Kz:=apk "_law_route"
def zU a b c d e:=by
 obtain⟨a,b⟩:=c
 have d:=e
def fq:=some v
def kc:=gW Key aj
def rO a b:=jE a b ?_
def aps a b c d:=by obtain⟨a,b,c⟩:=Option.map_eq_some_iff.mp d
def oO a b c d e f:=by
 rw[bI a b c d]
 have e:=f
def i0:=.fields
def Qu a:=Vals a us
def i6 a:=H.x a rfl
def rP a b:=by
 simp only[a]
 rw[b]
def mw a b c d:=⟨a,b,rfl,c,d⟩
def afZ a b:=aLd a (Calls.evalArgs_plain b)
def i7 a b:=jC (a∈b)
def UP a:=Calls.spliced_cons (a)
def UQ a:=wpAny_Call_Name_kw (a)
def Ej a:=by
 unfold a
 dsimp only
def UR a b c:=a++List.replicate b c
def Ô a:=d? (eT a)
def KA a b c:=dh a b (UL c)
def BF:=ee "list"
def KB a b:={ cls:=a,data:=b}
def ng:=Res aj
def af0 a:=aF.a_.fresh (a)
def apt a:=d7 a "getset_descriptor.__get__"
def af1 a:=W.locks.getD a none
def xY:=BP "falls"
def Uq a:=MZ a B.locks
def jl:=some xs
def xZ a:=d7 aV a
def zV a b c:=i? K ι a b c
def vL a:=by
 rw[a]
 dsimp only
def Qv a b:=by rw[a,Bool.and_eq_true]at b
def Kx:=bootBuiltins x
def BG a b c:={ a with heap:=b,toks:=c}
def zW a b:=λ_ a=>nomatch b
def nt a b c:=by
 rw[a]at b
 simp at c
def Õ:=tupleKind_room_in1 hu
def apu a b c d e f g h i j k:=PySem.W.fnOf a b c d e f kV g h i j k
def BH a:=by exact False.elim a
def DZ:=List.range n
def BI a:=aU5 a ds.length
def Ur a b c d e f g:=by
 rw[mu a b c d]
 rw[cV e f g]
def XO a:=dQ (iE a)
def oP a:=a<ps.length
def ì a b:=cD (sq false) a b
def fR:=lS _
def qF a:=Inv n cR sx a
def apv a:=by rw[a,Int.toNat_natCast]
def aLe a:=List.length_pos_iff.mpr (a)
def apw a:=aLe (List.isEmpty_eq_false_iff.mp a)
def Ek a b c:=a λb aa=>c
def x6 a:=jh _ a
def rQ a b c:=by
 rw[a]at b⊢
 exact c
def Us:=Option.some.inj h1
def vM a b:=by rw[f5 a b Res.oS]
def KC a b c d e f:=by
 obtain⟨a,b,c⟩:=d
 rw[fy e f]
def Qw a:=List.replicate k a
def HA a:=b4 B.greens a
def u5 a b c d:=Slots K a b c d
def jm a b c d:=by
 have a:=b
 rw[c]at d
def tB a b:=t7 a b bW
def ayZ a b c d e:=by obtain⟨⟨a,b⟩,c,d⟩:=Option.map_eq_some_iff.mp e
def x7 a b:=ps.map λa=>b
def BJ a b c d:=if a∈b then c else d
def Co:=some .local
def oQ:=some .cell
def af2 a:=List.getElem?_set_self (a)
def í:=List.range ss.length
def î:=of_decide_eq_true h2
def wY:=Option aj
def El a b c d e:=X! a λb c d=>e
def xr a b c d e f g h i j k:=by rw[KQ a b c d e f ⟨g,h,i,j,k⟩]
def pQ:=gP eR W.trains
def kD:=cc ss
def apx a b c:=PyProof.Rows.callWith_type1 (a) b c
def af3 a:=a=M.length
def w9:=af3 M'.length
def rA a b:=by by_cases a:aO b
def rB a b:=m7 (a) (b)
def xt a b c:=rB a (rB b c)
def pR a b c:=m7 (lW a b) (c)
def KD a b:=rB a (bZ b)
def Cp a b:=kvs.map λa=>b
def apy a b c d e f g h i j:=by
 obtain⟨⟨a,b⟩,c,d⟩:=e
 obtain⟨⟨f,g⟩,h,i⟩:=j
def HB:=wpAny_pure ?_
def HC:=Nat.zero_le _
def HD:=Nat.le_succ _
def s4:=h.get? b
def KG:=way.map (·.1)
def Em:=ends.map η
def Qx a b c d e f:=FnAt K (findIn a b c) d e f
def Ut a b c d e:=Ext ι a b c d e
def af4 a b c:=su a b c (ck hk) (ck hk)
def jA:=cO aeI
def kg a b:=Dn X a b
def zX a:=by unfold a at w
def ï a b:=by have a:=of_decide_eq_false b
def Uu:=Option.some.inj h
def xu:=.Subscript
def Uv a:=aQ.mono a r1
def Uw a b:=ky a b W.locks
def HE a:=zT a v
def KH a b c:=il.go a b λ_ _ _ _ _ _ _ hr G=>(c)
def apz a:=List.getElem?_append_right (a)
def qG a:=by simp only[ag,a]
def bC a b c:=by exact⟨a,b,c⟩
def apA a:=a "getset_descriptor.__get__"
def ð a:=SeqAt.readOf s.heap a
def aLf:=B.trains.map (·.1)
def ñ a:=by rw[az List.length_set a]
def atF a:=Loc X.env.scope a
def Cq:=by dsimp only at h
def pF:=aCx Y.ps
def af5 a:=H.o a rfl
def kW a:=H.c a rfl
def om a:=d5 a aG
def pS:=[none]
def qH:=x6 ?_
def oq a b c d e:=nj a b c d e s
def af6:=List.getElem?_set_ne e
def xw a b c:=ag8 a (UL b) c
def pT a b c:=vE a true b c
def tC a b c d e:=λa b c d e=>?_
def Ux a:=W.trains.length≤a
def KI a b:=Nat.le_trans (a) b
def nu a b:=some (a,b)
def lK:=some c
def apB a b c d e f:=by
 obtain⟨a,b⟩:=c
 obtain⟨d,e⟩:=f
def En a:=show a from rfl
def HF a b:=zR (λa=>b)
def xx a b c d:=by by_cases a:b=c<;>simp[d]
def apC:=t.tr.steps.dropLast.map bE
def af7 a:=List.getElem?_set_ne (a)
def d6 a b:=lV a b 2 _
def i8 a:=a3v (a)
def KJ a:=i8 (aZZ a)
def qI a:=dQ (a)
def uP a b:=qI (a == b)
def apD a b:=afS (Heap.lt_size a) b
def aoy a b c:=lV a "piece_beyond" b c
def ò a b c:=lV a "pieces_under" b c
def ó:=Eh W.green.length
def KL:=jB xs.length
def HG:=ns.map V.int
def HH:=.function
def zY a b:=λa=>aj.int b
def GG:=List Bool
def u6:=some true
def u7 a:=d? (eU a)
def u9 a:=dC (a false)
def Qy a:=h.lo a aC
def HJ a:=aN (gL a)
def iJ:=.enter
def lI:=r<Y.rs.length
def Cr a b:=by
 unfold a
 rw[afU b]
def w5 a b:=a->Option b
def XX a b:=∀a<Y.rs.length,b
def HK a:=kQ (a)
def gn a:=KJ (a)
def aLg a:=withoutEnding? "BaseException.__getattribute__" a
def aLh a b:=Bind.checkArgs "BaseException.__getattribute__" a b
def aoU a b:=by rw[az (LawfulBEq.eq_of_beq a) b]
def Qz:=jB kvs.length
def Eo:=Value.ref a
def Ep:=Hy "where"
def tD a:=kK.set (a)
def mz:=.BoolOp
def ô a b:=s.heap.push { cls:=a,data:=b}
def er:=cJ s
def rt:=zV S M H
def rC a b c:=⟨a,rfl,b,c⟩
def Uy a:=a<s.heap.objs.size
def õ a b:=scope.names.lookup a=b
def ö a:=a≠s.heap.objs.size
def Lx a b:={ a with trains:=b}
def af8 a:=["_law_one",a]
def lM a:=⟨a,?_⟩
def uQ:=.Call
def oj:=envOfC qual scope s.heap.objs.size f cd
def Uz a b c d e f:=aPr (a:=b) (c:=d) e rfl f
def xy a:=d5 aH (dC (η a))
def aoV a:=Nat.le_trans I.ok.Zw a
def af9 a:=aO (PyData.canLay0 a)
def rD:=h.get? a
def HL a b c:=m6 a hr G.ie (zP (eN b c))
def jn a b:=∀p∈a,b
def ay0:=List.getElem?_eq_some_iff.mp h2
def ay1:=List.getElem?_eq_some_iff.mp hM
def Vp a b:=aQ.FD.mpr (jh a b)
def aov a b c:=lV a "joints_of" b c
def HM a b:=X.env.kindOf a=b
def Vq a b:=M5 a b B.locks
def yY:=List Stmt
def ø a:=qO Y.ps a
def nv:=aN aG
def DT:=cO Out
def kE a:=by rw[if_neg a]
def QA a b:=jj a b ρ hρ
def zj a b:=encD a (b)
def Cs:=abQ ps ss
def ay2 a b c:=by obtain⟨a,b⟩:=Int.eq_ofNat_of_zero_le c
def azB a:=W.locks.length=a
def ù a b c:=if a then(b) else c
def aga a b c:=by obtain⟨_,vs,a,b⟩:=c
def fS a b c d e:=by
 have a:=b
 have c:d:=e
def QB a b c:=t.ahead.headD (a,b,c)
def Er a b c d e:=by
 rw[mu a b c d]
 refine e
def tE a:=Z9 (a)
def aoW a:=tE (KP a)
def tF a:=ay eW [a]
def azC a b:=by rw[apq a (List.getElem?_eq_getElem b)]
def XY:=List Keyword
def Ly:=Ed "trains"
def Lz:=BP "routes"
def ú a:=a<xs.length
def pU:=.ahead
def u_:=some 1
def Bs:=gW κ α
def tG:=by dsimp only[bB,bw]
def zk a b:=ik Y a b j
def DP:=zk M W
def aoX a:=by rw[List.size_toArray,a]
def aoY a:=List.ext_getElem? (ck a)
def aoD a b:=dQ (behindInMarks a b)
def QC:=["_law_step"]
def QD:=apk "_law_at"
def QE:=BP "signals"
def abB:=K.In s.heap
def HN a b c:=by rw[eS a b (vals1 c)]
def tH:=gW Addr Bool
def tK a:=by rw[ji (Bq a)]
def ou a:=I.own r a
def xA a b c:=by rw[KM a b rfl c]
def HO a b c:=vK (cf G.hu) a b c
def jf:=HE x
def Vr a:=show False from a
def afH a b:=∀a∈B.trains,b
def Es a b:=L2.Fin a (b)
def LA a b:=λpre ρ a=>b
def Ct a b c d:=by
 unfold a at b
 rw[c]at d
def afI a b:=by simp only[Function.comp,a,b]
def qJ a b c:=a[b]? = aN c
def Bx a b c:=lV (a) b 2 c
def azD a b c d e f g h:=by
 intro pins a σ b c d e
 refine wpAny_Call_method0_late f g h
def û a:=List.replicate n a
def HP a b c d e f g:=by
 obtain⟨a,b,c⟩:=d
 have e:f:=g
def zl:=Sum.inl x
def zm:=rel.val k
def aoZ a:=aO (ø a)
def Vs a b:=apr a W.now b
def jY:=.throw
def jZ:=some r
def yW a b:=qJ ρ a b
def G3 a b:=w1 ι1 aW H1 a nk s1 b
def Et a b c:=qL a b c (eP rfl)
def Cu a b c:=λρ M=>Ek a b c
def ao0 a:=by simp only[List.lookup_cons,a]
def ao1 a b:=List.length_filter_le (a) b
def afJ a:=X.env.scope.kind == a
def afK a:=Nat.lt_succ_of_lt (a)
def Vt a b:=some (KB a b)
def Eu:=if_pos av
def XT:=pure false
def cW:=.nil
def tL a b:=by
 refine a
 exact b
def ao2 a:=List.replicate k.toNat a
def ao3 a:=d7 a "object.__class__"
def ao4 a:=by rw[az a Bool.false_ne_true]
def ao5 a b c:=aO (PySem.W.plainGet a b c)
def azE a b:={ a with toks:=b}
def pV:=aN gk
def pW:=Δ s.heap.objs.size
def xB:=d5 ak (dC Q6)
def PU a:=backTo pos (DS a)
def pG:=("pieces",gk)
def tM:=.gone
def g4 a:=by rw[b7 _ a]
def Cv:=UM _
def ru:=BA M B
def gg:=bx K ι S xs vs
def LB a:=wpAny_pure (a)
def mC a b:=by
 refine a
 rw[b]
def gp a:=by
 rw[a]
 simp
def iK a b c:=QW a (b (c))
def zo a b:=by obtain⟨t,a⟩:=b
def zp a b c d e f g h:=by
 have a:=b
 rw[bq c d e f g h]
def b9 a:=a=none
def ow a:=b9 (H a)
def G4 a:=b9 (H' a)
def azF:=Nat.le_refl s.heap.objs.size
def afL a:=wpAny_passesOwn hp a
def afM a b:=s1.heap.push (KB a b)
def afN a:=pN (Heap.lt_size a)
def afO:=Eh W.falls.length
def u!:=if_neg e
def G5 a b:=af4 a b ?_
def pH:=KJ d9
def pI a:=LA M' a
def rE a:=a<M.length
def gC a:=(a).Nodup
def xC a b:=aty (a) (b)
def lN a b c:=xC a (xC b c)
def G6 a b:=xC a (gn b)
def oz a b c:=aty (ba a G.nd (b)) (c)
def tN a b c d e:=oz a b (oz c d e)
def afP a b:=zi.map λa=>b
def atx:=qF W
def afQ a:=["pieces",a]
def Ew a:=∃M',a
def uR a b c:=Ew (a/\b/\c)
def gT a b:=by rw[KN (a) b]
def ü a b c d e:=KH a b (aty (ba c G.nd (d)) e)
def azG a b:=PySem.W.specialIn a b "__get__"
def azH a b:=Builtin.Slice.slicePlaces a b 1
def azI:=List.getElem?_eq_getElem fK
def ao6 a b:=PySem.W.hideAll_get _ a b
def ao7 a b c:=by have:=List.all_eq_true.mp a b c
def ao8:=List.mem_append.mp hp
def ao9:=List.nodup_cons.mp nd
def ý:=Nat.lt_irrefl _
def þ:=AllBare s'.gens
def ÿ a b c d:=aQ.atN.mpr (mw a b c d)
def À:=apk "_law_name"
def Á a b c:=by
 rw[f5 a b c]
 dsimp only
def Â:=azB Y.ps.length
def QF a b c d e:=by
 obtain⟨a,b⟩:=c
 rw[d]at e
def QG a b c d e:=by
 obtain⟨a,b,c⟩:=d
 exact e
def abM a:=assign a X.env
def QH:=wpAny_pure h
def QI a b:=by rw[az (if_neg a) b]
def LC a:=AH N.length a
def LD:=cx "routes"
def LF a:=alO W.trains a
def LG:=Ed "falls"
def Cw:=.Constant
def Cx a b:=m6 a hr G.ie (zP (d? b))
def Cy a b c:=KH a b (gn c)
def Cz a:=gC (iE a)
def P_ a:=gW Int a
def qK a b:=afR a b rfl
def DV:=Bv Nat
def oA a b c d:=by
 refine a
 have b:c:=d
def LH a b c d e f g h i:=by rw[vG a b c d e ⟨f,g,h,i⟩]
def rF a:=by
 simp
 exact a
def LI a:=B.ticks+a
def zq:=LI Y.wait
def nw a:=by unfold a at h
def tO a:=a->Bool
def Ex a b:=d7 a (b)
def kX a b:=cD (dq false) (a) b
def apa a b c:=Int.emod_nonneg a (b:=c) av
def agK a:=by rw[List.flatMap_append,List.flatMap_cons,List.flatMap_nil,a]
def QJ a b:=∀a∈W.trains,b
def DW a b:=holding a (b)
def j0 a b:=(by rw[a,b])
def Vu:=aQ.akJ.mpr rfl
def Vv:=cx "straight"
def Vw a:=qj.md xs.length xs.length a
def Vx:=afQ "signals"
def G7:=cx "locks"
def G8 a:=M.getD a tM
def G9 a:=b4 W.falls a
def G_:=dj "tick"
def atD a:=aO (X.fn a)
def xD:=if_pos e
def xE a:=h.at a rfl
def xF a b c:=i8 (abR a b c)
def zu a:=(a).toArray
def G! a b:=∀a∈fp,b
def jG:=cJ k
def Kw a:=vC b a
def gJ a:=aO (a)
def i9 a:=by by_cases h:a
def azJ:=Bool.and_eq_true_iff.mp hk
def azK a b c:=acJ PySem.F.slot_list_count PySem.F.type_list_count a b c
def azL a b c:=acJ PySem.F.slot_list_index PySem.F.type_list_index a b c
def azM a b c:=EA a (Nat.mul_le_mul_right b c)
def l?:=bF cX
def Vy a b:=I.tr x a b
def Ey:=bh hb
def bY:=ae 4
def XM:=eG C Y e o M B
def apb a b c d e:=by
 obtain⟨a,b⟩:=c
 dsimp only at d e
def apc:=List.mem_filter.mp h
def apd:=by simp only[Function.comp]
def ape a:=wpAny_newObj_type a aTk
def apf a b:=B.trains.find? (zO a b)
def apg a b c:=aO (PySem.W.codeIn a b c)
def Vz a b c:=by rw[EB a rfl b c]
def rG:=ayY kD
def rS:=CZ X.prog X.w
def X0 a:=b9 (S a)
def iF:=s.heap.objs.size+1
def P! a b:=fP a n b
def jH:=bo cR r
def VA a b c d:=by
 obtain⟨a,b⟩:=c
 refine d
def QK a b c d e f:=by
 obtain⟨a,b,c,d⟩:=e
 exact f
def QL a b c d:={ a with locks:=b,c:=d}
def LJ a:=W.locks[a]?
def azN a b:=by rw[List.getElem?_eq_getElem a]at b
def Ez a b c:=a[b]? = HK c
def agL a:=s2.heap.objs.size+a
def nA a b:=∀s∈a,b
def aLi a:=d7 a "BaseException.__getattribute__"
def azO:=beq_eq_false_iff_ne.mpr h
def azP:=Nat.le_of_ble_eq_true rfl
def azQ:=List.filter_sublist.map _
def azR a b:=aLd a (PySem.evalArgs_none b)
def Ã a c d:=I.base.there b a c d
def Ä a:=by rw[az a True.intro]
def Å a b c d e:=by rw[eo a b c d (aQ.ml.mp e)]
def GN:=.ListComp
def agM:=Sem Value
def D4:=dj "set"
def LK a b c d e:=lN a b (lN c d e)
def mD:=some b
def DX a:=YS X.K a
def zv a b c d:=by obtain⟨ι,a,b,ρ,ao,sl,c⟩:=d
def By a b c d:=if a then b c M else d
def D5 a b:=Ez M a b
def gN:=pre.flatMap (ua ps ss n way j a)
def c8:=d ρ M
def nB a b:=λa H1=>b
def azS a b:=by simp only[a,Option.some.injEq]at b
def agN:=M'.take M.length
def zw a b:=putK kvs a b
def zx a b c:=by rw[eS a b (a3P c)]
def zy a:=by
 rw[dJ a List.map_map]
 rfl
def aph a b c:=by
 obtain⟨_,_,_,a⟩:=b
 exact c
def LL a b c:=by
 rw[←a,←b]
 exact c
def azT a:=by simp only[Bool.and_eq_true]at a
def aLj a b:=by rw[az (List.take_append_of_le_length a) b]
def api a:=base.Ns mainGlobals a
def apj:=List.mem_cons.mp hb
def aoL:=[s1.heap.objs.size]
def aoM a b:=Heap.SameBut a s.heap b
def aKQ:=standAt apos.atName
def aoN:=B.greens.map (·.1)
def aoO a:=fu (wpAny_holding a)
def QM:=Array Value
def X3:=Option Addr
def QN:=fs.lookup f
def QO:=! xs.isEmpty
def Qj:=aQ.MT.mp r1
def Qk a:=iM W.trains a
def Ql:=dj "plain"
def ã a:=M.length≤a
def G? a:=lh a Y.ps
def w6:=Hy w.s
def tP:=tO Nat
def zz a b c:=by
 subst a
 rw[b]at c
def gU:=.tick
def D6 a:=ρ.set a gB
def mE:=model prog w
def LM a:=nu n a
def u? a b:=pE n cR nV C8 a b
def D7 a b c d e f:=by
 have a:=b
 rw[dX c d e f]
def azU b:=Nat.lt_of_lt_of_le b a.len
def azV a:=d7 a "object.__setattr__"
def agO a b c d e f g h i:=by
 rw[fS a b c d e]
 generalize f=g at h i
def VB a:=F_ xs.length a
def agP:=["_law_world","_law_word","_law_number","_law_name"]
def VC a b:=h.avi a b nofun
def VD a b c d:=by rw[bV a b (absurd c d)]
def VE:=Ed "greens"
def VF:=BP "pieces"
def VG a:=Vs a M.length
def LN:=tm X.stack
def LO:=cx "falls"
def LP a:=iM B.locks a
def tQ a b c:=⟨a,b,rfl,c⟩
def CA a:=KO a bW
def nC:=("found",Jh rs)
def azW a b c:=by
 obtain⟨_,_,_,a,_⟩:=b
 rw[g4 c]
def ä a:=t.steps.length=a
def Qm a b:=by obtain⟨rfl,a⟩:=b
def Qn a b:=∀a∈B.falls,b
def tR a:=by
 rw[a]
 nofun
def D8 a:=by rw[tR (Qy a)]
def h7:=.turn
def D9 a b c:=lV a b 3 c
def sU:=Je Y
def azX a b c:=if a then(b,NameKind.cell) else c
def VH a:=EH (dq false) (dj a)
def rT a b c:=qE a (b c)
def pJ a b:=rT a ς b
def Qo a b:=cD gr (a) b
def zA a b c:=Qo (ay a b) c
def zB a b:=Qo (kC v7 a) b
def agQ a b c d e f g h:=by
 obtain⟨a,b⟩:=c
 rw[mq d e f g h]
def rU a:=⟨a,[]⟩
def aoP a b c d:=if a then(b,c) else d
def aoQ a b:=["_law_world",a,b]
def aLk:=List.getElem?_eq_some_iff.mp this
def azY a:=Nat.lt_of_lt_of_le a E.le
def azZ a:=s.heap.FunFrames X.base a
def az0 a b:=List.filter_congr (dz a b)
def azd a b:=aN (PySem.W.methodObj a b)
def aze a b:=aO (PySem.W.hasDictIn a b)
def aKX a:=aO (PyData.canLayAll0 a)
def aoR:=env.cells.lookup n
def aoS:=List.mem_cons.mp e
def aoT a b c d:=codeAny_mono a (cP b c d)
def aqe:=List.getElem_mem _
def aqf a b:=s2.heap.push (KB a b)
def aqg:=t.steps.map (·.1)
def aqh:=B.locks.map (·.1)
def aqi a b:=aO (PySem.W.isFn a b)
def aZW a:=ez "train_called" a
def aZV:=Array DictEntry
def agR:=h1.symm.trans e
def å:=aO d.canLay0
def agS a b c d:=λa b=>absurd c d
def Hf:=if_pos h1
def Hg:=if_pos hk
def Hh a:=aO3 G.calm a
def Hi a:=by rw[fZ (KV a)]
def afA a b:=Q4 a (Uq b)
def Hj a b c d:=rB a (pR b c d)
def Hl a b c:=i8 (df G.hu a b c)
def Ho a:=qI (a == sysModules)
def aqj a b:=jn a (aO (Z9 b))
def æ a b:=CA (Ec a b)
def CB a b c d e:=by obtain⟨a,vs,b,c,d⟩:=e
def aoG a b c d:=ta a b (nB c d)
def agT a b:=FE (Q3 a b)
def CC a b c:=by rw[cV a b (Bq c)]
def Qp a:=d? (mR a)
def CD a b:=by rw[ff (Bq a) b]
def CE a b:=by rw[UD a (ft b)]
def CF a b c:=bp (wj a b) c sr
def CG a b:=bp (M? a) b sr
def vc:=Hv cX
def Ks:=Ì 100
def vd:=by
 refine qH
 rw[eB]
def LQ:=iq X.K
def abv:=gW κ aj
def yZ a b:=if neg then ! a else b
def zC a b c d e f g h i:=El a b c ⟨d,e,f,g,h⟩ i
def oB:=by rw[gp hx]
def oD a b:=by rw[bI h1 a h2 b]
def pK a:=eN bW a
def DQ:=gW κ V
def jI a:=Ð a 1
def ve a b:=w ι S H a nk ao b
def ake a:=(false,lJ a)
def aLl a:=a "BaseException.__getattribute__"
def agU a b c d e f g h:=by
 obtain⟨a,b,c⟩:=d
 rw[dX e f g h]
def ç a b c d:=akl.of (sc:=a) b c d rfl Cv dN
def vf a:=aOX ns a
def zF a:=iN W.trains x a
def Hp a b c d:=eV (a.2 b c) d
def LR a b:=d.map λa=>b
def kF a b c d:=by
 unfold a
 rw[b,c,d]
def agV a b c d:=by
 rw[kF a b c d]
 dsimp only
def vg a b:=show a=b from rfl
def akj a:=a = none
def xG a:=akj (mg a)
def VI a b c:=if a then .b else c
def azf:=List.range h.objs.size
def azg:=List.range Y.ss.length
def azh a:=List.mem_append_left _ a
def aKY a b c:=swapsWithSole a b pos.line c
def azi:=PySem.W.plainGet_of hg
def azj a:=j0 a Array.append_assoc
def Hq a:=[dm.exc a]
def pL:=bh hk
def Qq a b c d e f:=by
 rw[QV a ι b c ρ ao sl d e]
 refine f
def eu a b c:=by
 rw[a,b]
 exact c
def aLm:=List.getElem?_eq_some_iff.mp h1
def aLn:=List.getElem?_eq_some_iff.mp hx
def aLo:=List.getElem?_eq_some_iff.mp ZA
def aZX:=X.mg "isinstance"
def aqk:=decide_eq_true h2
def aql:=apk "_law_signal"
def aqm a b:=D9 a "pass_signal" b
def VJ a:=Value.int i a
def VK a:=Value.str a t
def VL:=cx "branch"
def VM:=cx "trains"
def VN a:=auf.trunc ?_ a
def U4 a:=rs.foldl nO a
def U5 a b:=aO (aj.yx a b)
def U6 a:=aO (small a)
def U7 a:=nA t.steps a
def U8 a:=nA t.ahead a
def Qs a b:=(by simp[a,List.find?_cons,b])
def RI a b c:=by
 intro a b
 rw[Ht c]
def RJ:=as.map enc
def RK a:=dR.at Y.ps a
def RL a:=iM W.falls a
def atG a:=b9 (X.mg a)
def RM a b c:=Ex a (encD b c)
def agW a:=Ë a cg
def oE a b c:=zO a (b≠c)
def pM:=.bool
def D_ a b:=acp a ?_ b
def GV a b c:=iX a _ b c
def kY a b:=Cu a x b
def azk a:=[a,"_law_world"]
def azl a:=List.mem_of_getElem? (a)
def è a b c d e f g h i:=ur.imp (a:=b) c λd e f g h=>i
def agX a:=evalEach a X.env
def agY:=t.ahead.take 1
def agZ a b:=eV (f1.trans a) b
def ag0 a:=jn a p.js.Nodup
def D!:=if_neg h
def D?:=tm outer
def Ea:=a.map bE
def U9 a b:=d5 a (ae b)
def Fa:=XU Addr
def U_ a:=cm C.aP a ak
def GS a:=Î C.aP a
def aN5:=ij Y.ps.length Y.rs
def U' a b:=abR (aco a) b apE
def Fb:=some .free
def LS a b c d:=by
 have a:b:=c
 subst d
def zG a b c d e:=m7 (bp (n9 (cD a b c)) d sr) e
def rV a b:=by
 have:=a
 rw[b]at this
def aLp:=List.idxOf_lt_length_of_mem hm
def azm:=List.mem_filter.mp h'
def azn:=List.mem_filter.mp hm
def azo:=List.mem_filter.mp hq
def azp:=List.mem_append.mp ho
def azq:=List.mem_append.mp hm
def azr:=List.mem_append.mp hs
def azs:=I.mod.glob.keeps I.lX
def azt:=List.getElem?_range h
def azu a:=List.length_take_le _ a
def azv a:=by rw[az List.length_range a]
def azw:=by rw[aoX List.size_toArray]
def ag1 a b c:=if gJ a then b else c
def é a:=AB a xs.length
def ê:=XU NameKind
def ë:=dj "branch"
def ĺ:=Ed "pieces"
def aoA a b:=ayU a b pos.line
def azx a:=d5 a (dC (Ω "pieces"))
def ļ:=d5 aH (dC (Ω "routes"))
def LU:=if_neg h2
def ľ a:=heldW a cX
def LV a b:=EA a (gX b)
def LW a b c:=kq a (mh b c)
def La a b:=KO (afT a) b
def Lb:=XU Value
def Lc a b c d:=by rw[fy a (cP b c d)]
def Ld a b c:=by rw[fy a (dz b c)]
def Le:=⟨t.steps.dropLast,t.ahead,t.out⟩
def ń a:=a=ps.length
def GW a b c d e f:=by rintro ρ' a ⟨b,c,d,e,f⟩
def qs a:=by rw[az eH a]
def Lf a b c d e f g:=hU (a:=b) (G':=c) (s2:=sr) d e rfl f g bU fB
def jJ:=.draw
def U! a b:=du a ρ b
def U? a:=U! ds a
def aqn a:=t.tr.steps.length=a
def aqo a:=s1.heap.objs.size+a
def xH a b c d:=λa b=>⟨c,d⟩
def Lg a b c:=qL a b rfl (t8 c)
def mF a b c:=rI (a) b s1 c
def nD a b:=ì a (b)
def kZ a b:=(a).lookup b
def vh:=cn t
def Lh a b:=by
 simp at a
 subst b
def aqp a:=wpAny_pure (x6 a)
def aqq a b c:=lV a "_law_asked" b c
def aqr:=af8 "_law_route"
def aqs a b:=D9 a "route_past" b
def aqt a:=by rw[f5 a List.map_map List.map_map]
def ag2 a b:=s₁.heap.get? a=b
def ag3 a:=a<B.lying.length
def ag4 a:=Str.ofString (toString a)
def zH a b c d e f:=he pins a b c d e f
def zI:=cc Y.ss
def Li a b c d:=uc X.prog X.w a b c d
def zJ a b c:=by rw[LS a b Ey c]
def DU:=lJ o
def Va a c:=cP b a c
def rW:=jV 1
def j3:=ow b
def kr:=Kw o
def xJ:=KZ c7 w ι1 aW aa H1 x v e1 s1 r1 w1 ?_
def ayR a:=ends.length=a
def Vb a b c:=by
 unfold a
 rw[rA b c]
def Vc a:=a≤ps.length
def azy a:=tupleKind (a)
def Vd a:=by
 refine a
 rw[eB]
def j4 a:=tF (a)
def azz a b:=⟨a,b,M.length⟩
def aqu a b c d e f g h i j:=⟨s1.heap.objs.size,a,b,c,d,e,f,g,h,i,j⟩
def RN a b c d e f:=by
 intro pins a σ b c d e
 exact f
def azA a:=by refine wpAny_truthy_bool a
def ay5 a:=congrArg List.length a
def aKV a b c:=s.heap.IsSliceOf a b c cG
def ay6 a:=by simp only[Bool.and_eq_true,decide_eq_true_eq]at a
def vj a:=by by_cases hb:a
def ņ a b c:=yz X.K a b c
def rX a:=d7 a ns
def rY:=XU aj
def CH a b:=Et a b ?_
def CI a b c d e f:=nQ a b c none d e trivial f ?_ ?_
def kG:=bG C.cI M
def aLq a b:=cb.toArray.eraseIdxIfInBounds a=b
def ň a b c:=by
 simp at a
 rw[fz b c]
def GX a b:=∀a∈xs,b
def Ve a:=abP a3y T.a3J a3B (a)
def xK a:=Ve (b_ a)
def xM a:=Ve (Ô a)
def aLr a:=X.s₀.heap.FunFrames X.base a
def aLs:=List.getElem?_append_left hn
def aLt a b c:=Builtin.Slice.sliceAdjust lo a b c
def aLu:=List.drop_eq_getElem_cons fK
def ag5:=Value.ref iF
def ag6:=X.base.get? b
def ag7 a c d e f:=I.base.keep b a c d e f
def agl a b c d e:=I.base.slot a o b c d e
def agm a b:=kvs.any (zO a b)
def agn a:=bs.getD a false
def aoF:=ã M'.length
def GY:=Option V
def GZ:=["step"]
def atC a:=Good0 a aJ
def G0 a:=I.own r' a
def kH:=cJ p
def qq:=gW Key V
def kh:=Az Y cg
def ki a b c:=by rw[zM a (AA (P:=λb=>c) ?_)]
def aqv a:=by simp only[h,a]<;>omega
def ago a b:=if a then 1 else b
def Vf:=e.trans e1
def Vg:=hh.trans q
def Vh:=hu.trans q
def Vi a b:=iN B.falls a b
def aqw a:=AY a W.locks
def Vj:=dj "none"
def vm a:=λσ H Q=>a
def pX a b:=kg (a) (b)
def aLv a:=by simp only[Array.length_toList]at a
def Lj a:=a∉W.green
def Lk a:=xs.length-a
def Ll a b c d e:=codeAny a b (c) d e
def ay7 a b c d:=by
 obtain⟨_,a,b,_⟩:=c
 rw[g4 d]
def Vk a:=W.green++a
def aLw:=List.getElem?_append_left h
def aLx:=List.getElem?_eq_getElem a1
def aLy a:=List.Pairwise.imp_of_mem ?_ a
def aKW a b:=swappedStores a b X.env
def ay8 a:=PySem.W.lookIn name a
def ay9:=of_decide_eq_true h
def aza a:=of_decide_eq_true a.1
def azb a:=of_decide_eq_true a.2
def azc a:=List.drop_sublist _ a
def aAA a:=fu (wpAny_standAt a)
def aAB:=dQ W.green.isEmpty
def aAC a b c d:=by rw[jm a (JP.symm.trans b) c d]
def aqx:=by rw[List.filter_map]
def aqy:=["_law_script"]
def aKS a:=Nt a "isinstance"
def aqz a b:=by
 dsimp only
 rw[az a b]
def aqA:=Int.ofNat.inj e
def apP a b c:=lV a "is_points" b c
def apQ a b c:=lV a "_law_ways" b c
def apR:=Eh Y.rs.length
def apS a:=b9 (pre.find? a)
def apT a b:=D9 a "is_border" b
def apU a b:=D9 a "_law_pass" b
def apV:=["_law_joint","_law_ends"]
def aAD:=by rw[sizeLine_eq]
def ō:=e2.trans e3
def ŏ a:=h.J.put rfl a
def ő:=BP "locks"
def ŕ:=BP "green"
def RO:=some none
def RP:=["piece"]
def RQ a:=I.lock a hp
def aN8:=gW κ Value
def RS a:=dQ (Kv a)
def RT a b c:=by rw[fy (dz a b) c]
def apW a b:=zF (BD a b)
def RU a:=wKs Y a W.now j
def CJ:=.Assign
def ŗ a:=Vals a cb
def abz a:=X.env.scope.names.lookup a=Co
def Vl:=afY cg
def CK:=cJ (gA s).1
def CL:=LM kvs
def ř a b c:=wc a b ak c
def tS a b:=abT a (af 0) b
def tT a:=mh a h'
def s5 a:=by rw[az eH (gX a)]
def ś a b c d e f g h i j k l m n o:=by
 intro a hP hw hK hc b pins c σ d e f hf g h
 subst i j k
 obtain⟨l,m,n⟩:=o
def G1 a:=pure (a)
def RV a:=G1 (ForInStep.yield a)
def k6:=afX t
def zK:=λ_=>true
def h9 a:=(a,true)
def CM a:=[none,a]
def ŝ a:=CM (some a)
def RW:=CM u_
def RX a b c d:=ç a b c (ŝ d)
def nE a b:=aDm X a b
def y! a b:=nE (binaryOp .a) b
def RY a b c d e f g:=λpins a b c d e f=>g
def mG a b c d:=KH a b (aty (c) (d))
def aAE a b c d e f:=fu (wpAny_field a b (c:=d) e f)
def qt a b c d:=by
 have a:b:=c
 refine d
def aAF a b c d:=wpAny_execs_nil ⟨a,b,c,d⟩
def ş a b:=by injection a with b _
def aLz a b c:=List.mem_filterMap.mpr ⟨a,b,c⟩
def aAG a:=a=4611686018427387904
def aAH a:=items.toList.drop (a)
def oF a:=a≤100
def qu a b c:=upd a b (c)
def za a b:=afV (a) b
def xN a b c:=za (Ym a b nofun) c
def aLA a:=PySem.F.args_tuple_add_2 _ a
def aLB:=Bool.and_eq_true_iff.mp ho
def aK2 a b:=aGA PySem.F.slot_list_clear PySem.F.type_list_clear a b
def G2 a b:={ B with a:=b}
def lO a:=a false
def aCq:=uP x ("__debug__" : Str)
def aAI a b c:=by
 unfold a at b
 dsimp only at c
def aAJ:=by rw[List.length_append]
def aAK:=Option.some.inj e2
def aAL a:=PySem.W.instObj a dx
def aAM:=X.s₀.heap.get? b
def aAN a b:=s3.heap.push (KB a b)
def aAO a b c d e:=Heap.FlyingW a outer b c d e
def aAP:=PyData.depthAll gu
def aAQ a b c:=lV a "check_pieces" b c
def aAR a b c:=lV a "_law_refusal" b c
def aAS a:=ez "is_number_of" a
def aAT a b:=D9 a "_law_signals" b
def agp a:=by exact wpAny_pure a
def agq a:=ad1 s₁.heap a
def agr:=cx "signals"
def ags a b c d:=by
 rw[eB]
 rw[bI a b c d]
def agt:=dj "points"
def agu a b:=by
 rw[tG]
 rw[az a b]
def agv:=["_law_script","_law_k"]
def Lm:=if_pos h
def Ln:=SA false
def Lo a b c:=yi false a b c
def Lp:=w.map bE
def Lq:=Θ 1000
def Lr a b c d e f g:=by rw[vI a b c d e f (Bq g)]
def agw a:=kR (at0 a)
def Ls a b:=bp (dP a) b sr
def Lu a b:=Qo (ae a) b
def abG a b c:=GX a (Pl b c)
def vn:=.steps
def vo:=some _
def Lv a b:=iT (cf G.hu) a b
def š:=encD Ji B.falls
def vp:=Qu xs
def vq:=xZ xs
def Fc a b c:=aCE a (kk:=b) rfl c
def Iu a b:=aFp a pins σ b
def Vm a:=D_ M' a
def fT a:=a true
def apX a:=kvs.length<a
def Vn a b c d:=by
 rw[xA a b c]
 exact d
def xO a b c:=by
 have a:=b
 exact c
def RZ:=["self","piece"]
def aK3 a:=Builtin.List.listTooLong (a)
def apY a b c d e:=h2.fld (a:=b) (c:=ak) d e
def k7 a:=λρ=>∃y,a
def Fd a b c:=ej G.own G.calm (a) b c
def ţ a b c:=Fd (lY a) b c
def vt a:=i8 (yg (a))
def aAU a b c:=by
 obtain⟨_,a⟩:=b
 rw[g4 c]
def aAV a b:=by rw[a,Int.toNat_natCast]at b
def ť a:=ds.length≤a
def rZ a b c d:=by
 have a:b:=c
 exact d
def aK4:=List.getElem?_set_self fK
def aK5 a:=s.heap.IsTuple a cb.toArray
def aK6:=es.toList.any (·.refKey)
def aK7 a:=List.replicate a cb.toArray
def aK8 a b:=PySem.F.args_dict_pop_3 _ a b
def aK9 a:=PySem.F.args_dict_get_2 _ a
def aLa a b:=PySem.F.args_dict_get_3 _ a b
def aLb:=List.length_pos_iff.mpr h
def aMa:=by rw[List.length_append,List.length_replicate]
def aMb:=by rw[List.length_append,List.length_singleton]
def aKR a b c d:=callWith a b first c d
def apZ a:=W.points.set p a
def ap0 a:=by rw[b! rel.length a]
def ap1 a b:=Q3 ⟨t.tr.steps,a,t.tr.out⟩ b
def ap2 a b c d:=Qx a b "__init__" "__init__" c d
def Iv a:=by rw[BL (a<16000000)]
def Iw a b c d e f g:=by rw[bq a b c d e (λf=>g)]
def Fe:=aN kD
def GU:=t.tr.steps.length≤100
def Ff a:=KB BF a
def Fg:=Eg bH 0
def sX:=aC8 ps ss
def r3 a:=by rw[rJ t a]
def mH a c d e:=tC b a c d e
def mJ a b:=h.fld (ρ:=a) (d:=ak) rfl b
def Vo a b c d:=jg (uQ a b [] c) (d)
def Fi a b c:=Vo a b pos c
def Iz a:=kK o M a M'
def UT a b c d e f g h:=by
 obtain⟨a,b,c,d,e,f⟩:=g
 exact h
def rH a b c d:=a[b]? = Ex c d
def abH a:=a<cLine
def aN3:=abH (aou 64)
def Qf:=e₀::rest
def R0 a b:=EI (a b)
def UU a:=eN d9 (eN d9 (a))
def aAW a b:=sc.names.lookup a == b
def aAX a:=by rw[List.lookup_cons]at a
def aAY a:=s.heap.objs.size≤a
def aAZ a:=wpAny_execs_cons (a)
def ap3 a b:=Res.opt (a) b
def UW a b c:=jo false a b (bR 0) c ak
def aMc a b:=List.map_congr_left (a:=id) b
def aAa a b c d e f:=I.laid (a:=s.toks) (b:=c) d e f
def aY a:=(a:Int)
def agx a b:=ED a (aY b)
def gO:=aY n
def agy:=aY xs.length
def aMd:=h2.get? s.heap.objs.size
def aMe:=h'.get? s.heap.objs.size
def aMf:=List.getElem?_set_self h
def aMg:=by simp only[List.size_toArray]
def aMh a:=Nat.min_le_right a d.depth
def aMi a:=Nat.min_le_left d1.depth a
def aZ4:=W'.green.Sublist W.green
def aAb:=decide_eq_false h
def aAc:=some X.env.locals
def aAd:=Option.some.inj e
def aAe:=aj.str "straight"
def aAf:=aK PyData.eqvAll
def aAg a:=ez "check_piece" a
def agz a b c d e f:=I.aHE (its':=a) b c d e f
def agA a b:=ao.tree (o:=a) b
def agB a b:=PyData.eqv (a) b
def aoB:=xs.map enc
def ŧ:=Ne.symm fg
def ũ:=ns.map η
def ū:=aQ.Se.mp r
def ŭ:=cx "green"
def ů a:=any_keys d a
def ű a:=ka a B.falls
def ă:=dj "held"
def ą:=by
 rw[List.size_toArray]
 omega
def ć a b c d e:=oq (model X.prog X.w) a (call b c) d e
def ĉ a b c:=j7 (call a b) c s
def UX:=if_pos hc
def UY:=if_neg hy
def ċ a b:=g a nofun nofun b
def UZ:=ps.zip us
def U0 a:=valueAt a k
def U1 a:=S.locks p a
def U2:=Tq.map eh
def U3 a:=tok a s.f.I
def Wh a:=cJ (aY a)
def Wi a b c d:=by rw[cV a b (rO c d)]
def Wj a b c:=lU (GV a b c)
def Wk a b:=m6 a hr G.ie (b_ b)
def Wl a b c d:=i8 (vK a b c d)
def Wm a b:=i8 (ba a G.nd (b))
def Wn a:=tE (agW a)
def Wo a b:=G! a (G4 b)
def Z? a b c d:=By (G? a) b c (bG C.cI d)
def Wq a b c d:=yZ (i7 a b) (i7 c d)
def IA a b c:=by
 refine a
 have b:=c
def xP a:=some a.2
def xQ:=Res α
def xR:=iL Ξ
def č a b c:=nL a b c fB
def xS:=EI []
def w_:=Bv AX
def w! a b:=atJ a T.a4N a4w b
def xd:=pre.flatMap (Yu ps ss)
def xe a b c d:=by
 rw[zM a (AA (b:=λc=>d) ?_)]
 simp only[cZ,zD,zE,yE,Nat.zero_add,Nat.reduceAdd,Nat.reduceSub,List.replicate,Dd,wC]
def ap4 a b c d:=wI a b bl "train_in" c d
def nF:=w4 v
def nG:=Sg r W.locks
def r4:=xX 0
def B0 a b c d e f g h i j:=by rw[xr a b c d r e f g h i j]
def nH a:=QA a _
def r5:=v8 cR r
def mK a:=Eg (a) 0
def pY a b c d e f:=vg (ae a b c) (d (e) f)
def B3 a b c d e f:=pY a b c d (η e) f
def vv a:=n9 (a)
def Lw a b:=vv (cD (dq true) a b)
def vz a b c:=vv (cD a b c)
def r6 a:=vv (EH (dq false) (a))
def s6 a b:=vv (kX a b)
def ď a:=vv (VH a)
def Fj a b:=by
 have:a:=b
 omega
def aMj a b:=List.mem_filter.mpr ⟨List.mem_range.mpr a,b⟩
def ap5 a b c d e:=Paired.aHG a λb c d=>e
def ap6 a:=Nat.le_of_lt (a)
def R1 a:=("greens",a)
def fC a b:=jC (a=b)
def aAh a b:=by obtain⟨o,_,_,_,a,_⟩:=b
def aAi a b c:=looks_findIn (a:=b) g_ c
def ap7 a b c d e f g h:=I.write (x:=a) (b:=c) d e f g h
def đ a b:=by
 dsimp only
 rw[a,b]
def afC a b:=∀a<M.length,b
def B4 a:=by by_cases h1:a
def B5 a:=by
 subst a
 simp
def Wr a b c:=aQt (a:= b) c rfl
def kj a:=λi hi=>a
def aAj a:=a≤999999999999999
def aAk a:=scope.names.all (a)
def aAl a:=W.trains.filter (a)
def aMk:=Heap.IsSliceOf.new ..
def aMl:=List.getElem?_set_ne h2
def aMm:=List.mem_of_getElem? hi
def aMn:=List.dropLast_sublist _
def ap8:=(by kernel_rfl)
def ap9:=fs.map (·.1)
def aqa:=co.cells I.ok
def aqb a b:=d.find? (zO a b)
def aqc a:=hp.gt a nofun
def aqd a:=by rw[b! rs.length a]
def apF:=jB ys.length
def apG a b c:=lV a "ways_on" b c
def apH:=Ed "signals"
def apI a b c:=call_meetsIn PySem.F.slot_dict_get dd.typeIs PySem.F.entry_dict_get a b c
def apJ a:=d5 a (dC (Ω "signals"))
def apK a b c:=if a then(xs.length:b) else c
def agC:=Option Bool
def agD:=Option Expr
def agE a b c:=I.base.ox a o b c
def agF:=aVn.trans F!
def agG:=cx "points"
def agH:=cx "pieces"
def agI a b:=by rw[bV a b w2.elim]
def agJ a b:=KA a b "route"
def agc:=U_ "falls"
def agd a b c:=kvs.all λa=>aj.jv b c
def age a b c d:=wI a b bl "where" c d
def R2 a b:=wu false a b
def R3 a b c d e:=su a b c d (ck e)
def R4:=cf Gt.hu
def R5 a b:=by rw[az (a4T a) b]
def R6:=by rw[fZ h.Y_]
def Rg a:=dC (a true)
def Rh:=zQ Bool
def Ri a b:=by
 rw[dJ a b]
 rfl
def Rj a b c d e:=by rw[rM a b c d (Bq e)]
def Rk:=kB h.y0
def Rl a:=bt C.aP a Y.ps Y.ss Y.rs Y.wait
def Rm a b:=abR (gD a) b apE
def Rn a b c d e:=Es a (m7 b c d e)
def Ro a b c:=by rw[gT (fg a b) c]
def Rp a:=i8 (MV T.aOT hr a)
def Rq a b c d:=mG a b (yg c) d
def IB:=some ys
def IC a:=I.pin p a
def ID:=by rename_i hc
def Qa a:=Pl deep a
def IE:=Jh Y.rs
def IF a:=fresh c a
def Ws a:=H.b a rfl
def akg:=cO Int
def IG:=e! "object.__class__"
def ē a:=d5 a (dC Q6)
def aCs:=gJ (apos.endLine == dt.line)
def IH a b c:=ç a b c pS
def abC:=jk X.N x
def II:=ee "tuple"
def zb:=vh.2.2
def zc a b c d e f:=λa b c d e f=>?_
def oG:=cJ j
def oH:=eU 2
def uS a c d:=λb a c=>qB d
def oJ:=dz b hb
def Rr a c d:=Hp a b c d
def uT a:=Va a q
def j5 a b:=λ_ _ _ a=>b
def zd a:=j5 _ (a)
def B6 a:=zd (a4z a)
def jK a:=zd (asD 0 a)
def Qg a:=Option (a)
def K4 a b c:=by rw[b7 a (λb=>c)]
def ze a:=Nat->a
def ek:=ze sO
def Rt a b:=ze (a->b)
def apL a b:=if a then j else b
def apM a b c:=if gJ a then b else c
def apN a b c:=auf.trunc ⟨a,b⟩ c
def Wt a b c d:=if a then b::c else d
def xg a b:=by
 rw[a]
 refine b
def ĕ a b c:=zO a (b∉c)
def pZ a b:=t7 (R8 false) a (b)
def aAm:=! W.green.isEmpty
def aAn:=beq_iff_eq.mpr h
def aAo a:=seqIndex_neg av a
def aAp a b c:=sliceBounds a b none c
def aAq a:=aN (Y.ss.idxOf a)
def aAr a b c:=lV a "_law_there" b c
def aAs a b:=D9 a "_law_enter" b
def aKP a b:=∀a∈W.green,b
def GH a:=a (·.2)
def zf:=by exact this
def zg:=some y
def zh a b:=by refine rO a b
def K5 a:=flat M a
def Ad:=c5 fB
def Ae:=eQ rfl
def aCr:=DS es
def ė a:=kq H' a
def Af a b:=by rw[eF a b ?_]
def Ag:=some .bb
def Ah a:=by obtain⟨h1,h2⟩:=a
def Ai:=jk xs x
def Aj a b c d e f:=by intro pins a σ b xs us c d e f
def XR:=jS kvs vs
def lP:=.seq
def aMo a:=Nat.one_le_two_pow (n:=a)
def aAt a b:=by rw[a,List.nodup_cons]at b
def ę a:=a<1073741824
def ě a:=by simp only[a]at w
def ĝ a:=by rintro⟨M',a⟩
def ğ a b c d e f g h i j k l:=wD.go a b λc d e f g h i j k=>l
def ġ a b c d:=by
 rw[aga a b c]
 exact d
def Ru a:=(a).objs.size
def s7 a:=by
 rw[a]
 omega
def apO a b:=⟨a,(af5 b)⟩
def aMp:=List.range Y.ps.length
def aMq a:=s.heap.Ns X.env.locals a
def aMr:=List.getElem?_set_ne h
def aMs a:=pN (Nat.lt_succ_self a)
def aMt a:=aO (PySem.W.handedIn a)
def K6 a b c d:=cD f_ a b c d
def IJ a:=jg a d
def p0:=b4 B.trains x
def p5 a:=Ef n a
def IK a:=bt c a Y.ps Y.ss Y.rs Y.wait
def p6 a:=by rw[bV a w w.elim]
def Fl:=Jf Y W.trains cg
def p7:=bt C.aP 2 ps ss Cs wait
def atz:=ij n cR
def p8 a b:=bx K ι S a b
def Wu a b c:=by
 show a
 rw[az b c]
def K7 a b c:=by
 rw[a]at b
 refine c
def K8 a b c d e f:=by
 rw[QV (Dn.imp a λσ H Q b=>?_) ι S M ρ ao sl w c]
 refine⟨ι,d,e,ρ,ao,sl,f⟩
def oK a b c:=a[b]? = KR c
def k8 a b:=di a≤b
def uU a b c d e:=pR a (b) (pR c d e)
def Rv a b c d e f:=uU a (ay b c) d e f
def Rx a:=by by_cases h2:a
def aAu a:=by rw[a,List.lookup_cons]
def aAv a:=W.green.filter (a)
def ģ a b c:=by obtain⟨a,h1,b⟩:=c
def ĥ a b c:=show a∈b from c
def gV a:=Bq (a)
def IL a b c d e f g:=gV (Lf a b c d e f g)
def K9 a b c:=gV (č a b c)
def kn a:=aw (a)
def uV a:=kn (gV a)
def xh a b c:=kn (qL a b rfl (eP c))
def agf a b c d:=kn (qL a b c d)
def agg a b c:=by
 refine a
 rw[az b c]
def fU:=ae 5
def ara:=["_law_piece","_law_joint"]
def arb a b c:=by
 unfold a b c
 dsimp only
def Wv a b c d e f:=by
 have a:b:=c
 rw[bC d e f]
def ayV a b c:=if(a).isEmpty then b else c
def Ak a:=(a).flatten
def B7 a b c d:=m6 a hr G.ie (eN b (eN c d))
def Ry a b c:=m6 a hr G.ie (eN b (b_ c))
def ni a b:=rL a ob (b cq)
def Fo a b c:=m7 (bp (n9 (a)) (b) sr) c
def B8 a b c:=Fo a (bZ b) c
def Fp a b c d:=⟨a,rfl,b,c,d⟩
def aMu:=List.mem_append.mp h1
def aMv:=List.mem_append.mp h'
def aMw:=List.mem_append.mp hd
def aMx:=List.mem_append.mp hk
def aMy:=List.mem_append.mp hq
def aLL a:=congrArg Array.toList a
def aLM:=PySem.mem_of_lookup h
def aLN:=t.tr.ahead.map (·.1)
def aLO:=iZ List.append_assoc
def aLP:=by rw[List.replicate_succ,List.replicate_succ,List.flatten_cons,List.flatten_cons]
def aAw:=.FormattedValue
def aAx:=Paired.length r
def aAy a:=PySem.Within mA a
def aAz a:=aXM X.env.scope a
def az1 a b:=Heap.SameBut a b h2
def aKZ a b c:=PassesOwn a b X.env c
def az2 a b:=PySem.W.mroIn K a b
def az3 a b:=qj.md cb.length a b
def az4 a:=s.heap.update p a
def az5 a b c:=lV a "_law_tick" b c
def az6 a b c:=lV a "_law_done" b c
def az7 a:=ez "signal_of" a
def az8 a:=apD a mY.ok.above
def az9 a b:=D9 a "_law_deed" b
def aBy:=B.lying.length=Y.ps.length
def arc a b:=a "isinstance" b
def ard a b:=IsTup s.heap a b
def arf a b:=I.base.qd a xs b
def arh a b:=I.base.qe a ps b
def ari a b:=isTrue a X.env b
def arj:=! kvs.isEmpty
def ark a b:=assign a X.env b
def arl a b c:=bindL kindOf a b c
def arn a b c:=bindC kindOf a b c
def ayW a b c:=Reads s.heap a b c
def aro:=f.map (·.1)
def arp a b:=k! a aa.length b
def arq:=get_set h.y5
def ars:=get_set h.j9
def art:=h.J.same rfl
def aru:=aWu W.trains
def arv a:=Ef M.length a
def aZY a:=w5 a NameKind
def arw a b:=by
 rw[kE a]
 rw[Rx b]
def arx a b:=ik Y a b M.length
def ary a:=d5 a (dC (Ω "routes"))
def arz:=iZ (isEmpty_eq q.length)
def arA a b c:=by rw[eu a (if_neg b) c]
def aqL a b:=Q3 ⟨a::t.tr.steps,b,t.tr.out⟩ M.length
def aqM:=apX sizeLine
def aqN:=["_law_script","_law_base","_law_pieces_here","_law_loose","_law_many","_law_k","_law_number","_law_ends","_law_j","_law_pick","_law_others"]
def ħ:=Sum.inl k
def ĩ:=h'.get? a
def ī a b c d e:=by rintro ρ' a ⟨b,c,d,e⟩
def ĭ a b c d e:=fu (KX a b c d e h'.elim)
def į:=gW Key Value
def ĵ:=dj "red"
def ķ a b c d e f g:=by rw[mq a b c d (Rr e f g)]
def Ö a b c d e f g:=kU (Ê a b c d e f g)
def Ø a b c d:=pR a b (KD c d)
def Ù a b c d:=aF.kept (a:=s1.toks) (uS b c d)
def Ú a b c:=i8 (HO a b c)
def Û a b c:=i8 (ţ a b c)
def Ü:=HJ names
def Ý a b c:=b9 (kZ (yy a b) c)
def Þ a b c d e f:=lN (vK a b c d) e f
def ß a b c d e f g h i j:=by rw[Qq (JQ.imp a (jj b c d e)) f g h i j]
def ā a b c d:=By (KY a) b c (bG C.cI d)
def Ľ a b c d e f g i j:=by rw[Ur a b c d e (h.ix (ρ:=f) (g:=ak) rfl i) (gV j)]
def Ń a b c d e f g:=mG a b (vK c d e f) g
def Ņ a b:=fC (QT a) b
def Ň a:=ze (cO a)
def Ō a b:=LJ a = KR b
def Ŏ a b:=kn (CH a b)
def K_:=by rename_i hl
def K! a:=M.set n a
def Qe a b c d e f g h:=il a b c d base e f g h
def K?:=Yv G.hu
def Mr:=aN aH
def Ms a b c d:=if a then b c d else aE
def Mt:=Θ 101
def Mu a:=EH (sq false) a
def abI a b:=rL cU a b
def Mv a b c:=eV (g a b) c
def Mw:=Hv way
def Mx a b c:=h.ix (ρ:=a) (b:=aG) rfl c
def My:=Ó fe
def abJ a:=yW a aI
def Mz:=gC qC
def MA:=dm.ins C.tr (FE (t0 M.length))
def MB:=Ω "branch"
def MC:=fT pM
def Ww:=.train
def XS a:=by
 intro a
 rfl
def Ő a b c d e f:=h pins a b c d e f
def IM a:=iT a (af 0) (af 1)
def B9 a:=by rw[KN fg a]
def B_ a b:=cP h' a b
def B! a:=j0 aT a
def Wx a b:=ņ a aJ b
def Ŕ:=tB aC7 (af 3)
def Fq a b:=by rw[a,if_pos b]
def agh a b:=by rw[Fq (if_pos a) b]
def IP a b c d e f g h i:=oR (xs:=a) (b:=none) (M':=c) d zK e f g trivial rN h i
def qv a:=Sx a xs
def IQ a b c d:=aOY ps ss a b c d
def MD a b c:=IQ a way b c
def qw:=cJ i
def qx:=List.length_filter_le _ _
def qy a:=ED a k
def Wy a b:=jE a M b
def aN2:=u? W B
def ew a b:=Bx (k+1) a (b)
def aBz a b:=∀a∈scope.names,b
def aqO a b:=by simp only[a,b,dR.enc]
def Rz a:=a<l.length
def aCw a:=typeOf (a)
def Ŗ a:=("near",a)
def agi:=(by simp only[List.size_toArray]<;>omega)
def agj a:=some (aY a)
def agk:=h1.trans z
def ahJ a:=IntsAre vs a
def aoH:=Or.inl rfl
def ahK:=aQ.MT.mp r
def ahL:=aQ.aO7.mp r
def ahM a b c d:=yC a "where" b c d
def ahN a b:=iN W.falls a b
def ahO a:=mem_keys _ a
def ahP a:=l.set a none
def ahQ:=iZ aj.inl
def à:=some ρ1
def Wz:=by simp at this
def WA a b:=I.cell a c b
def WB a:=aIr a s.f.I
def WC:=dj "go"
def WD a:=aO (nV a)
def WE a b c:=bp (wF a b) c sr
def WG a:=Qt t.sj a
def VW a b:=rB (mP a) b
def afz a:=Inv Y.ps.length Y.rs sx a
def Ř a:=b9 (H1 a)
def aLQ:=Ř s1.heap.objs.size
def VX a b:=pX a (adf b)
def aqP a:=xs.map (k? a)
def VY a b c d:=gV (nL a b c d)
def VZ a b c:=Fd (aOW T.aO5 a) b c
def RA a:=afT (a)
def xj a b:=RA (eN a b)
def ko a b c d:=by rw[dX a b c (Bq (d))]
def aLR a:=List.mem_append.mpr (a)
def Ś a b c d:=by
 rw[a]at b
 rw[az c d]
def aBA a b:=X.env.kindOf a == b
def ME a b:=by
 show a
 unfold b
def aLS:=List.range bs.length
def aLT a:=h a List.mem_cons_self
def aLU a:=wpAny_pyIter_list a ?_
def aLV:=keys.all (·.isSome)
def aLW:=of_decide_eq_true h1
def aLX:=of_decide_eq_true hc
def aLY:=of_decide_eq_true hk
def aLZ a:=wpAny_pyIter_enum he a
def aL0 a:=ez "check_not_held" a
def aL1:=ow s.heap.objs.size
def ayS a:=abH (A.units+a)
def aKT a:=starEach a oj
def RB a b c:=a ρ λb aa=>c
def B?:=cJ (gA s).2
def abw:=w4 y
def RC a:=iN B.trains x a
def Al a:=G3 _ a
def r7 a:=Vy t a
def xm a:=mg_of X G a
def r8 a b:=by
 intro pins s σ H a I h
 refine b
def r9:=List.filter_eq_self.mpr (λ_ _=>rfl)
def PX:=dA K ι S kvs cq
def r_:=Ut S H ι' S' H'
def lQ a:=Yn M a
def aqQ a:=by simp[a,PyData.eqv]
def aqR a:=t.tr.steps≠a
def aqS a b c d e f g:=show uc a b c d e f from g
def aqT a:=wpAny_call (a)
def V0 a b c d e f:=⟨Dn.imp a λb c d e=>f⟩
def V1 a b c:=aDF a (b:=c) rfl
def V2 a b c d:=YA a (b:=c) rfl d
def V3 a:=s.toks+a
def aqU a b:=azE a (V3 b)
def Ŝ a b c d:=by obtain⟨s0,a,b⟩:c:=d
def Ca a:=[dm.ai a]
def qz a b c:=a λb M2=>c
def aBB:=.ExceptHandler
def aBC:=! names.isEmpty
def aBD a b:=bindArgs a (rU b)
def aBE a:=seqIndex_of h0 a
def aBF a b c:=compEnvC scope a b c
def aBG:=dm.gF sM.idxOf
def aBH a:=ez "_law_mix" a
def aBI a b:=D9 a "_law_new" b
def V4 a:=HK (a aj.int)
def Fs:=η Y.wait
def Ş a b c d e f:=⟨a,b,c,tC d e f h1 h2⟩
def Ft a:=aO6 X.K a
def Š a b:=nS a aG b
def Fv:=afT sY
def Fw a b c d:=by rw[eo a vs b c (aQ.atN.mp d)]
def atB:=tO eJ
def Fx a b c d e f:=by rw[eo a vs b c (aku d e f)]
def EN a b:=ř bl a b
def aL2 a:=List.mem_append.mp (a)
def aqV a b c d:=sE.aP1 (v:=a) (b:=c) d
def Ţ a:=xs.length=a
def Ť a:=xs.drop (a)
def Ŧ a:=by
 unfold a
 omega
def Ũ a:=a<ss.length
def aL3:=["_law_pieces_here","_law_signals_here"]
def cE a b:=a=some b
def aqW a b:=cE (K.lookup a) b
def gq a b:=AH a (b)
def xo a b:=gq a (bZ b)
def MF a b c:=gq a (KD b c)
def RD a b c d:=gq a (xt b c d)
def Ū a b c d:=gq a (pR b c d)
def Ŭ a b c d e f:=gq a (uU b c d e f)
def lR a:=λp hp=>a
def aL4:=List.mem_cons.mp hx
def aL5:=List.mem_cons.mp hm
def aL6:=! cb.toArray.isEmpty
def aL7:=of_decide_eq_true z
def aL8:=List.getElem_mem fK
def aZ3:=W'.falls.map (·.1)
def aL9:=aDw T.vi.choose_spec
def aLC:=aDw T.a5D.choose_spec
def aLD:=aDw T.a5m.choose_spec
def aLE:=aY cb.toArray.size
def aqX a:=a Y.ps.length
def aqY:=List PyData
def aqZ:=aQ.MT.mp a!
def aq0:=jx.lookup C
def aq1 a:=iM B.trains a
def aq2 a:=iM aeK.falls a
def aq3 a b:=aei a M.length b
def aq4 a:=cm a "steps" ak
def aq5:=Ed "ticks"
def aq6:=Ed "locks"
def aq7:=Ed "lying"
def aq8 a b:=KA a b "piece"
def aq9:=afQ "joint"
def aqB:=aqw t.ahead
def aqC:=by
 rw[aAD]
 decide
def aqD:=ď "throw"
def aqE a b c d e:=T.set (a:=b) (c:=d) e nofun nofun nofun
def aqF a:=xw (UL "piece") "piece" a
def ahR a:=t.tr.ahead=a
def ahS a b c d:=by
 subst a
 rw[bV b c d]
def ahT a:=by rintro⟨h1,a⟩
def ahU a:=f2.trans (a)
def ahV a b:=by
 rw[Ht a]
 subst b
def RE a c:=s.sub b a c
def RG a b:=akZ deep a b
def RH:=G.sg hr
def aN7:=cO ng
def Q! a:=by rw[pO rfl a]
def Q? a:=EH (iu false) a
def aCv:=Q5 100
def Ra:=Q7 vh
def Rb:=af0 fe
def Rc a:=Uw a jH
def Rd a b:=HL a (af 1) b
def Rf:=f1.trans tv
def akk:=gC vF
def OW a:=D5 a iH
def OX a b c d e f g h i j k:=by
 refine a
 rw[e8 b c d (w e f g h i j k)]
def OY a:=KO (pP a) (af 1)
def OZ a b c d:=GV a b (q c d)
def O0 a b:=Lg a b (eP rfl)
def O1 a b c d e f:=jo false a b (bR 0) c d e f
def ahW a:=jE dO a Ξ
def O2 a:=iK 10 a pQ
def O3:=Ω "where"
def O4:=Lw ak aG
def O5:=Rt Int dw
def O6:=È vh.1 zb
def Am a:=ô BF (lP (zu a))
def IS:=ve _ EF
def O7:=eN d9 (pK (eN bW sY))
def O8 a b:=gV (acL C.cI a (aK hc) b)
def O9 a b c d:=X9 false a G.calm b c (j5 _ M1) d
def s8:=by exact cW
def s9 a b c d e:=by
 have a:b:=c
 rw[d]at e
def s_ a:=by refine c5 a
def Bu:=enc a
def tf a b c:=mw a _ b c
def abK a:=kg e a
def tg a b:=h.ix (ρ:=a) (d:=ak) rfl b
def tn:=r∈W.green
def tU:=ow p
def tV a:=G5 a M
def abx:=ake e
def vA:=P! ι a
def MG a:=i? K ι' S' a H'
def V5 a b c d:=pX (uQ a b [] c) d
def PY:=jg a da
def V6 a b c d:=qu a b (c d)
def HZ a b c:=V6 a b ς c
def tW:=jC (0<Y.wait)
def tX:=b::rest
def An a b c d:=by
 have a:b:=c
 exact d
def aBJ a b c:=I.aY0 (a:=s.toks) b c
def aBK a:=loose.filter (a)
def Ů a b c d e f g:=by
 have a:b:=c
 rw[jm d e f g]
def aqG a b:=by obtain⟨a,kvs⟩:=b
def aqH a:=(a).names.lookup
def aqI a b:=∀a<cR.length,b
def Ao a b c:=∃a,cE b c
def Ű:=oj::outer
def Ų a b c:=λι1 aW H1 a e1 s1 b=>c
def ahX a b c:=by obtain⟨a,h2,b⟩:=c
def jL:=ae 7
def PV:=akW Y W B
def V7 a b c:=by
 rw[a]
 rw[b7 b c]
def V8 a:=by
 rw[a]
 simp only[ag]
def aqJ a:=a++t.steps
def V9 a:=by
 simp[a]
 omega
def V_ a b c d e:=⟨λa b c=>d,mS.refl e⟩
def abA a b c:=∀a∈b,iS c
def EO a b:=jC (a≤b)
def ny a b:=λa H2=>b
def MH a b c d:=j7 a (λb c=>d) s
def Ŵ a b c:=j7 a (Iu b c) s
def MI a:=k! o M.length (pU a)
def V! a b c d:=aa.set a (b (zj c d))
def Ŷ a b c d e:=aa.set a (b (zj c (Vq d e)))
def aBL a:=(a,NameKind.free)
def abL a:=ob.data=a
def MJ a:=by
 show a
 omega
def MK a b c:=at1 (f:=a) b c
def ML a b c:=at3 (l:=a) b c
def H6 a b:=mP (ay a b)
def Ź a b c:=mP (fI a b c)
def O_ a b:=H6 a [ak,b]
def xq a:=O_ a aH
def Aq a:=O_ a aG
def Cb a:=O_ a bH
def O! a b:=by
 show a
 refine b
def O? a b c:=nB a (∃b,c)
def aLF:=Option.some.inj e'
def aLG:=List.of_mem_zip hv
def aLH:=Nat.succ_ne_self _
def aZ2:=PyData.depthAll xs
def aLI:=dQ sc.isCoroutine
def aLJ:=dQ sc.isGenerator
def aLK:=Eh B.falls.length
def aM9:=oF W.locks.length
def aBM a:=Value.float a t
def aBN:=wpAny_bind ?_
def aBO:=zi.map (·.2)
def aBP a:=aj.gF l.idxOf a
def aBQ a b:=way.map (zY a b)
def aBR a:=B.lying.set p a
def aBS:=cF aa.length
def aBT:=jB vs.length
def aBU:=ń us.length
def aBV:=ń vs.length
def aBW:=["_law_yard","_law_world","_law_at","_law_signals_here","_law_signal","_law_name"]
def ahY a b c:=λa=>absurd b c
def ahZ:=if_neg h1
def ah0:=["train"]
def ah1 a b:=cm a "near" b
def ah2:=cx "wait"
def ah3:=ds.map eh
def ah4 a:=aN (jF a)
def ah5:=aK s.len
def ah6 a:=by rw[az aj.jv a]
def ah7 a b:=by rw[az a (UE b)]
def ahj a b c:=lU (rC a b c)
def ahk a b c:=kq H (BG a b c)
def ahl a b:=Í a (aN b)
def ahm:=iZ aj.jv
def ahn:=iZ aj.gF
def aho a:=by rw[apv (agw a)]
def ahp a:=af3 (di a)
def ahq a b:=i8 (Ei a b)
def ahr a b:=i8 (U' a b)
def ahs a b:=gn (Ð a b)
def aht a:=f1.trans (tD a)
def ahu a b c d:=oz a b (xC c d)
def ahv a b c d:=oz a b (G6 c d)
def ahw a b c d f:=uR a (eG C Y e o b (afA c d)) f
def ahx a b c:=by rw[gT (a4Q a b) c]
def ahy a:=by rw[rF (gX a)]
def ahz a:=aEm X.env scope.names a
def ahA a b c d e f g:=call_meets a (kA b c) d e f (lM g)
def ahB a b c d e f:=show Li a s.heap b c from I.a_ d e f
def ahC a b c d:=kY a (qz b c d)
def ahD a b c d:=nD a (zA b c d)
def ahE a b c:=Fc a (jX b) c
def ahF a:=eN d9 (eN a sY)
def ahG a b c:=UW (ŝ a) b c
def ahH a:=mK (om a)
def ahI a b:=mK (U9 a b)
def ag9 a b:=kn (rO a b)
def aha a:=kn (Vm a)
def ahb a:=uV (Vm a)
def ahc a b c:=m6 a hr G.ie (eN b (d? c))
def ahd a b c:=B8 (EH (dq false) (a)) b c
def ahe a:=RA (Qp a)
def ahf a b c:=cE ((a).lookup b) c
def ahg a b c:=gq a (rB b c)
def ahh a b c d e f:=gq a (pR b c (xt d e f))
def ahi:=pd false G.calm
def aiJ a b:=afH a (oF (b).tr.steps.length)
def Ć a:=a sJ.idxOf
def Ĉ:=.Compare
def Ċ:=["self"]
def Č a:=eval a env
def afD:=Sem Bool
def Ď:=P.zip vs
def Đ:=sy false
def Ē:=F.mono h
def Ĕ:=cx "now"
def Ė a:=aj.Y! a xs
def Ę a:=aj.Y? a xs
def Ě a:=aj.inl l a
def Ĝ a b c d:=MS a (GV b c d)
def Ğ:=at4 false
def Ġ a:=aN (aU a)
def Ģ a b:=aN (f7 a b)
def Ĥ a:=by rw[az S.alh a]
def Ħ:=Θ 2048
def Ĩ a b:=by rw[UD a (akK b)]
def Ī a b:=by rw[UD a (akL b)]
def Ĭ a b c d:=eV (h1 a b c) d
def Į a b c:=eV (aPi a b) c
def Ĵ:=kB h.y1
def Ķ:=kB h.y2
def Ĺ:=kB h.y3
def Ļ:=kB h.y4
def ų:=pP T.aCG
def ŵ:=pP T.aC5
def ŷ:=pP T.aCH
def ź a b:=aO (Za a b)
def ż:=zS C.cI
def ž:=zS C.he
def Ā:=zS C.rd
def aZU a:=foldedSetIterable iter X.env a
def Ă a:=by
 rw[dJ a List.foldl_append]
 rfl
def Ą a b:=xC (yg a) b
def aaG a b:=afP a (cx b)
def aaH a b c d e f g:=by
 rw[jm a b c d]
 refine aD1 e f g
def aaI a b:=vg (aU a) b
def aaJ:=Hq C.cI
def aaK a:=by
 rw[r3 a]
 rfl
def aKO a b c d:=rH a b c (q2 d)
def aaL a b:=ĕ a b ends
def aaM a b:=DB.aEi (YW a b)
def aaN a b c d e f g h i:=by
 generalize o3 a=b at c⊢
 refine gV (CI d e f g h i)
def aaO a:=Ŗ (jN a)
def aaP a b c d e:=Ş (uT a) b s.nd c d e
def afG:=fs.length<1000
def aaQ a:=λa=>Ξ
def aiK a b c d:=Fp a b c (aaQ d)
def aN6 a:=Jl a X.A
def akf:=Res β
def Ky a:=a41 X.K a
def H7 a:=adq a ak
def aaR a:=R7 a (af 2)
def H8:=aK bE
def H9 a b:=by rw[xW a b hz (I.list hq)]
def H_:=yi true []
def H!:=aN9 true sY
def H? a b:=su a b ?_ (ck cS) (ck cS)
def Ia a:=Binds a fd ps []
def Ib:=IK 11
def Ic:=by rw[aQ]at h⊢
def Ie:=RC t'
def Ig a b c d e f g h:=by rw[B0 a vs b c d e vs f g h]
def aiL a b:=qa ns a fs jG b sG sH sI q1 mT none
def EP a:=atH a hq
def Pa a:=W.locks.set a.1 none
def uW a b:=rL a o b
def uX:=Hu s
def uY a:=kA _ a
def w7:=apo p
def uZ a:=ao.sub _ _ a
def u0 a:=C3 (i:=a) rfl
def ER a b c:=M2.set a (b c)
def vN:=cJ q.1
def vO a b c d e f:=vg (du a b c) (d e f)
def vP:=("wait",η wait)
def vQ:=U? M
def iG:=.set
def j6:=kv.1
def wX:=aue W r
def p9:=C2 Y W w i x
def aqK a:=ns.length≤a
def asa a:=a≤xs.length
def V? a b:=by
 have:=a
 rwa[b]at this
def asb:=["piece","joint"]
def r! a:=λq hq=>a
def Pb:=W.now+Y.wait
def Pc a:=tB yh (a)
def L5 a b c d e f g:=fA (P:=λq=>ly Y M W j q a i x) b c rfl aC rfl (fA (P:=λq=>ly Y M W j q d i x) e f rfl aC rfl (g))
def aiM a b c d e f g:=by obtain⟨a,b,c,d,e,f,g⟩:=F.ex
def asd a b c:=by generalize a=aa at b c
def ase a b c d e f:=aw7 a (b:=c) (d:=ak) e f
def tY a b c d e:=⟨a,b,rfl,c,d,e⟩
def vB a b:=∀a:Nat,b
def cK a b:=λ_ a=>b
def aiN:=["pieces","number","joint"]
def aaS a b:=["yard",a,b]
def aBX a:=(by simpa using a)
def aA9 a:=h.objs.size≤a
def aBa a:=Y.ss.length≤a
def aNa:=decide_eq_false e
def aNb:=decide_eq_true h1
def aNc:=decide_eq_true h3
def aNd:=decide_eq_true h4
def aNe:=Nat.not_lt_zero m
def aNf:=List.append_nil _
def aNg:=aoQ "_law_name" "_law_signal"
def asf a:=a kvs.length
def ash:=if_neg aC
def asi:=xs.map η
def asj:=K.lookup a
def ayX:=Or.inr rfl
def asl:=aQ.akJ.mp r
def asm a b c:=bx.less ha a b c
def asn a:=ok.step a hb
def aso:=ss.drop sh
def asp:=ss.take sh
def asq a:=S.greens s a
def asr a b:=AM a b W.falls
def ass:=aj.str w.s
def asu a b:=KA a b "name"
def asv a:=akj (X.mg a)
def asw:=ď "draw"
def asx a b:=kj (h.hi a b)
def asy:=aaS "name" "signal"
def Wa a:=λa=>none
def Wb:=List av5
def Wc a:=atKey a k
def Wd:=jd true
def We a b:=up.sm a _ b
def Wf:=k? deep
def Wg:=cJ cg
def VO a c:=eV (b a) c
def VP a:=Ec a (af 1)
def VQ a:=env.cells.lookup a=lK
def VR:=tF ak
def VS:=b9 dZ
def VT a:=xC a pH
def VU a:=cm a "steps" aH
def aow a:=aqj vF a
def VV:=EG (EG agM)
def afy a:=nE (compareOp op) a
def Xd a b c:=by
 rw[apl a rfl b]
 exact c
def Xe:=ο aa.length
def â a b:=SN X.prog X.w a b
def Xf:=oF (mO cX)
def Xg a:=fC a gB
def Xh a:=df G.hu (eT 0) (af 1) a
def Xi:=ze Nat
def Xj a b c:=ala (a:=b) c rfl rfl
def Xk:=ve _ Eb
def Xl:=Ω "points"
def Xm a b c d e f g h i j:=yl a b c d e f g ?_ h rfl i j
def Xn a b c d e f g h i j:=yl a b c d e f g ?_ h Ξ i j
def Xo a b:=Ų σ1 a b
def Xp a b c:=qb.res (c7:=LQ) sl a λι1 aW aa H1 b c e1 s1 r1 w1=>?_
def Xq:=Pc Ŕ
def Xr:=ee "slice"
def Xs:=Ω "plain"
def Ih a b c:=⟨T.ot,T.os,T.oa,a,b,c⟩
def Xu a b:=jC (a≠b)
def Pd:=.fall
def Xv a:=k! o M.length (Pd a)
def Cc:=aN (jc (W.green.map (wW Y.rs)))
def Ii a b c:=nD a (cD (lx false) b c)
def L6:=(Fl).isEmpty
def Ij:=[tM]
def L7 a b:=SM xs a b
def aaT a:=L7 none a
def L8 a:=qP a aO2
def x8 a b c:=nL a b ?_ c
def Cd a:=zO q a
def x9:=UB k
def x_ a:=upd H s.heap.objs.size a
def x! a:=mg_none_of X G a
def ya:=xy 0
def zL:=aoW p
def yb a:=wu live a M
def L9 a:=LM (a kvs)
def yc:=oy kvs k
def yd a c:=jj b o a c
def ye a b:=axy X aJ a b
def yf:=vb x aa
def L_ a b:=oq (model X.prog X.w) a b Q E
def Ce a b:=λρ a=>b
def L! a b c d:=Ce a (RB b c d)
def GF a:=M[n]? = nh a
def ES a b c:=d5 a (cD gr (kC v7 (Θ b)) c)
def ET a b:=Yj X (a) b
def Ar a b:=ET (e! a) b
def gh a b:=by
 rw[a]
 exact b
def i_ a:=aY (a:Nat)
def Xw a b c:=i_ (md a b c)
def aBb:=["_law_found","_law_due"]
def asz a b:=by
 rename_i a
 refine b
def Pe a:=t.ahead=a
def Pf a:=trunc (a)
def aBc a:=a "ValueError"
def aBd:=by rw[List.any_map]
def aBe:=env.kindOf x
def aBf:=r1.append r2
def aBg:=get_set h.y4
def aBh a:=keys_eq h.j9 a
def aBi a:=Option.map _ a
def aBj:=Y.ps.map zK
def aBk:=dj "trains"
def aBl:=BP "points"
def aBm a:=ez "unlock" a
def aBn a:=ez "way_of" a
def aBo:=oF w.length
def aBp:=["self","signal"]
def asA:=vs.length=es.size
def aiO a:=a=xs.length
def aBq:=xs.length+ys.length
def aiP a:=t.ahead≠a
def aiQ a:=d.depth≤a
def aiR a:=xs.length<a
def aiS a:=a<cR.length
def aiT a:=a∈t.steps
def L?:=.Tuple
def Ma a b c d e:=λa=>vE b c d e
def Mb a:=v3 (gj 3) a
def Mc:=bh ho
def Md a:=by rw[az a hp]
def Me a b c:=rI a b s2 c
def Mf:=kq H s'
def Mg a:=zO kv a
def Mh a:=dz a hp
def XZ a:=backTo dt (DS a)
def Mi:=zS bj
def Mj:=zS eZ
def Mk:=zS fi
def Ml:=zS g6
def Mm:=KJ mm
def Mn a:=pre.foldl nO (adF a)
def Mp a b c d e f g:=mF (ho pins a σ b c d e) f g
def Qi a:=⟨b3,iter,ifs,a⟩
def Mq a:=R0 a aU
def LX a b c:=vm (t σ a (nB b c))
def aki a:=Rt a aj
def LY a b c:=h2.ix (ρ:=a) (b:=ak) rfl c
def LZ a b:=Ź p! a b
def a3w a:=ag8 a ps (ax st)
def L0 a b c d e:=by rw[nr a h1 h2 b c d e]
def Qh a:=Up ι a ι' S'
def vR a b:=di (a++b)
def tZ a:=cQ C.tr a
def Cf:=tZ (FE (t0 M.length))
def y9 a:=QZ o a apos
def jM:=ae 6
def aNh:=by rw[List.map_append,List.nodup_append]
def Xx a b:=by
 subst a
 have:=b
def Xy a b c d:=∀a∈b,aO (dm.inl c d)
def Xz a b:=aj.tup [a,b]
def XA a b:=pI (∃a,b)
def Pg a b c d e f g:=λa b hb c=>eb d e f g
def aaU:=X.env::X.outer
def aaV a b c:=by
 show a
 rw[az b c]
def aaW a b c d e f:=⟨n7.imp a λb c d e=>f⟩
def aaX a b c d:=w.foldl (λa b=>c) d
def aNi:=some Y.rs.length
def aNj:=e1.trans e2.symm
def aNk:=! W.falls.isEmpty
def aNl:=wpAny_holding ?_
def aNm:=decide_eq_true e
def aNn:=ns.map WData.int
def aNo:=names.map aj.int
def aNp:=af8 "_law_joint"
def aNq:=af8 "_law_world"
def aNr:=["_law_joint","_law_loose"]
def aNs:=azk "_law_route"
def aNt:=["_law_script","_law_k","_law_world"]
def aiU a b c:=by obtain⟨a,b,e⟩:=c
def Ik a:=aq (lS a)
def As:=.free
def Il a:=qR (wKs Y g t j) a
def Ph a b c d e f g:=λa b c d e f g=>?_
def D0 a:=mf ρ a
def L1 a:=aDe false a (hZ bW) aC4
def GK:=KP p
def P0 b:=È a b
def Au a b:=kS u (Value.ref a) b
def Av a:=jk a v
def Aw a b:=show ∃t,a from b
def Ax:=iM B.falls r
def Ay a:=flat M deep a
def zZ a b c d:=ü a b 2 c d
def z0 a:=("until",η a)
def z3 a b c d:=jg (a b c pos) (d)
def BK:=Iz o
def z4 a:=agx a n
def z5:=md items.size 0 lo
def z6 a b:=h1.ix (ρ:=a) (d:=ak) rfl b
def z7 a b:=W.green.filter (zO a (b≠r))
def z8:=wW cR r
def z9 a b c d:=iX (a b) H c d
def z_:=W.now+1
def z!:=("ticks",η 0)
def z? a:=by rw[K8 a h h S M xJ]
def EU a b:=SN P w a b
def PZ:=EU H h
def Aa a b:=f_ (a) (η b) M
def k9:=Az Y s
def fD a:=λe=>a
def Pj a:=fD (h a)
def aiV a b:=za (fD a) b
def aaY a b:=aGC a (fD b)
def aBr:=["_law_name","_law_at","_law_world"]
def asB a:=acc.length+a
def asC a:=a∈B.trains
def arL a:=a%4294967291
def arM a b:=s.TypeIs (a) b
def Ox a b c:=(by simp[a,b,c])
def arN a:=⟨vs,a⟩
def aiW a b c:=rC a (arN b) (Al c)
def h_ a:=by rw[BL (a<1000)]
def aBs a:=pre.length≤a
def aBt a:=show a from hi
def aaZ a:=("falls",a)
def aa0 a b c d e f:=by rw[EB a b c ⟨d,e,f⟩]
def Oz a b:=d5 (a) b
def aa1 a b:=Oz (dI a) b
def Ab a:=aO (Z9 (a))
def aa2 a:=Ab (KP a)
def Im a b:=bp (n9 (a)) b sr
def L3 a b c:=Im (kX a b) c
def qA a b:=ly Y M W j (a) b i x
def aiX:=by exact h.elim
def aiY a:=σ.set i a
def aiZ a:=start a vs
def ai0:=k.map kV
def ai1 a b c d:=bx.alG a b xs c d
def ai2 a b:=aVg a (cK _ b)
def ai3:=rk.val k
def ai4 a b c d e:=Walks a b c d ι e
def ai5 a b:=s1.sub _ a b
def ai6 a b c:=iu false a b c
def ai7 a:=I.lock h a
def ai8 a:=G.g.sg _ a
def aij a:=aN (jN a)
def aik a b:=fP a b none
def ail:=zQ Expr
def aim:=kB h.y5
def ain:=kB h.mU
def aio a:=Î C.fa a
def aip a b c:=Ò (sF a b) c
def aiq a b c d e:=xt (nS a b c) d e
def air a b:=Q3 ⟨a::t.tr.steps,b,t.tr.out⟩ t.sj
def ais a b c:=nD a (ay b c)
def ait:=⟨t.tr.steps,t.tr.ahead,true⟩
def aiu a b:=azy (CZ a b)
def aiv:=agT t.tr aa.length
def aiw a b c:=yG false a none b c
def aix a:=EI (kL a)
def aiy a b c:=ap3 (gR a b) c
def aiz:=K5 deep
def aiA a b:=DB.aEi (km a b)
def aiB a b:=cq.map λa=>kV b
def aiC:=jh none rfl
def aiD:=iX none none none rfl
def aiE:=aaR T.eC
def aiF:=EP I.lB
def aiG:=cK _ true
def aiH a:=fD (fg a)
def aiI a:=fD (NC a)
def vS a:=MU Y a
def aBu a:=⟨o.slots,a⟩
def OA a b c:=⟨a,b,kT,fR,c⟩
def aNu:=Paired.length h
def aNv:=Nat.ne_of_lt NH
def aNw:=Nat.ne_of_gt NH
def aNx:=I.n5.sublist hg
def aNy:=I.Ki.sublist hf
def aMJ:=Y.ps.map dR.enc
def aMK:=af8 "_law_name"
def aML:=af8 "_law_yard"
def aMM:=["_law_script","_law_base"]
def aMN:=["_law_yard","_law_word","_law_number","_law_name"]
def aMO:=azk "_law_yard"
def aMP:=azk "_law_step"
def aMQ:=["_law_pieces_here","_law_signals_here","_law_wait"]
def aMR:=["_law_script","_law_base","_law_pieces_here"]
def aMS:=aoQ "_law_signal" "_law_name"
def aMT:=["_law_pieces_here","_law_signals_here","_law_wait","_law_points","_law_world"]
def aMU:=["_law_world","_law_signal","_law_name","_law_route","_law_falls","_law_way"]
def aBv a:=a Y.rs.length
def aBw:=by exact nomatch e
def aK1 a:=min a d.depth
def aBx:=aQ.MT.mp r2
def aA0:=aQ.MT.mp rx
def aA1:=bs.map V.ah
def aA2 a:=d.any (Cd a)
def aA3 a:=dm.ins C.fa a
def aA4:=JP.trans hk
def aK0:=beyond Y.ps
def aA5:=dj "green"
def aA6:=Ed "found"
def aA7:=d5 aH (dC (Ω "falls"))
def aA8:=cb.toArray.size*k.toNat
def aBY:=OldK s₁.heap s'.heap
def aBZ:=aaS "train" "route"
def aB0:=xs.length*k.toNat
def aB1 a:=xw (UL "route") "route" a
def arO a:=a xs.length
def arP a:=a ys.length
def arQ:=Sum.inl a
def arR:=Sum.inl b
def arS:=by exact ww.elim
def arT:=by exact w2.elim
def arU:=Option α
def arV:=if_pos hl
def arW:=if_neg hj
def arX:=h1.get? b
def arY:=h2.get? b
def arZ:=K.In base
def ar0 a c:=I.ok.bs b a c
def ar1 a:=qX a s.heap
def ar2:=ks.map kV
def ar3:=h2 e.symm
def aKU a b:=Slot a name b
def ar4:=ι.take n
def ar5 a:=L2.less S a
def ar6:=r.less ha
def ar7:=r.view hi
def ar8:=tt.map fE
def ar9:=ne e.symm
def arB:=l.find? p
def arC a:=d? (xK a)
def arD a b:=d? (pZ a b)
def arE a:=jB (di a)
def arF a:=pN (afS a I.ok.above)
def arG a:=dQ (ø a)
def arH a:=dQ (ľ a)
def arI a b:=dQ (fC a b)
def arJ a:=kR (oN a)
def arK a:=aO (Kv a)
def as9 a b:=aO (Xu a b)
def ata:=HJ loose
def atb a:=tE (af1 a)
def atc a:=tE (HA a)
def atd a b:=yW a (cF b)
def ate a b:=Ex a (aqP b)
def atf a b:=BD (aqJ a) (t.ahead.drop b)
def atg a:=j4 (azx a)
def ath a b:=azz a (agW b)
def aZ0 a:=G1 (a "method_descriptor")
def ati a:=vt (jI a)
def atj:=relabel scope X.env
def atk a b:=ĕ a b loose
def atl a b:=gV (D_ a b)
def atm a:=kn (ahW a)
def atn:=y9 "get"
def ato:=y9 "pop"
def atp a b:=⟨xm a,(Ws b)⟩
def ah8 a b:=by
 refine a
 refine b
def ah9 a b c d e f g h:=⟨a5h (apO a b) (apO c d) (apO e f) (apO g h)⟩
def aai a b c d:=Inv a b σ' c d
def afE:=[p.enc]
def aaj a b c:=JQ a b iter c
def aak a:=vw I.a_ a
def aal a b c d e f g h:=ak7 a I.a_ deep b c d e f g h
def aam a b c d:=Zy a b c iter d
def aan a b:=a5P I.a_ a b
def aao a:=h.at a hi
def aap a:=R.nd a hr
def aaq:=qN h.j9
def aar:=YX Y.ps
def aas a:=a5F a K.tl
def aat a b:=a4Z G.hu a b
def aau a:=by rw[az hsz a]
def aav:=EC av
def aaw a:=Eg bH a
def aax:=tE dZ
def aay:=env.scope.kind == HH
def aaz a b:=iK a b š
def afF a b:=backTo a (starEach b oj)
def aaA a b:=rT a aV b
def aaB a b c:=agS a b c Ξ
def aaC a b c:=ç a b c RW
def aaD a:=env.kindOf a == oQ
def aaE a b c:=bt a M.length b c Cs wait
def aaF a b c:=by
 rw[a]at b
 rw[fz c cW]
def Ż a b c:=iK a b (zj c Vl)
def Ž a b:=tQ a (GQ b) rfl
def aaa a b:=ţ a (gj 3) b
def aab a b:=by
 simp[a,b,lim,-List.length_flatMap]
 omega
def aac:=sl.mono (e1.trans e2)
def aad:=lU (x6 rfl)
def aae:=tB (R8 false) (af 1)
def aaf a b:=zd (uL a (af 0) b)
def aag a:=Š xB a
def aah a:=k! o M.length (Ww a)
def aa6 a b:=aa.set a (ς (b))
def aa7 a b c d:=λa b c=>⟨#[],d⟩
def aa8 a b c d e f g h i:=apu a qual b c d e doc f g h i
def agb a:=Ez a t.so QY
def aoE:=D5 t.so QY
def aa9 a b c d e f:=aOV false a b G.calm G.nd c d e f bU
def aba a b c:=aDO a b G.ie (af 0) c
def abb a:=L_ X.A a
def abc a b:=ES a b (Θ 4)
def abd a b c:=auh pre λa b=>c
def abe a b c d e f:=Ph ι2 a b c d e f
def abf a:=Oz a aH
def abg:=vS vh
def abh:=vS (cn t.tr)
def abi a b:=eV (y a aC) b
def abj a b c d e f g h i j:=by
 rw[mC (Bq a) (aDx b c d e f g h i rfl rfl j)]
 refine fB
 rotate_left
def OB a b:=I.M_ x a b
def OC a c:=I.a_ b a c
def Z7 a b c:=aFU a b (hV st) c
def OD:=wm (Θ 1)
def OE a b c:=dq neg a b c
def OF a:=ev rfl a
def OG:=ja Ξ
def OH a:=a5W a av
def OI:=Jh Cs
def OJ a b:=h.avi q a b
def OL:=flip s
def OM:=aK mr
def Z8:=cO aS
def ON:=gX hl
def OO:=cu a3O
def OP a b c:=jj σ a b c
def OQ a:=jk cq a
def OR:=iZ aQ
def OS:=Qu vs
def aZT a:=kg a tb
def OT:=Uv e2
def OU a b:=ad3 false a akr b
def abk a:=w5 aj a
def OV:=md items.size items.size hi
def Ol:=P_ o9
def Om a b c d e:=ha pins a σ b c d e
def Oo a b c:=by rw[kF a b ag c]
def Oq a b:=iK a b (gP AG B.trains)
def afx a:=backToKw a (keywordEach [] X.env)
def Ot a b c:=vm (aoG σ a b c)
def Ou a b:=vt (aLc aOS a b)
def Ov a:=R0 a bE
def aos a b:=akl a scope b fG
def Ow:=ė s'
def Pu:=kn (Bq ?_)
def Pw a b c d e f:=Turn a b c b3 d e it f
def Px a b c d:=aFp a pins σ b c d
def Py a b c:=s.ob a b c h1 h2
def Pz a b c:=h1.fld (ρ:=a) (b:=ak) rfl c
def Z_ a b:=A.deeper (envOfC a (ax st) s.heap.objs.size b fW)
def ayQ:=abK te
def US:=MG M'
def PA a b c d e:=by rw[An fg (a≠b) (λc=>d) e]
def PB a b:=by rw[xW a b hz (I.tuple hq)]
def PC:=Pa s0
def PD:=aue W r'
def Z! a:=aN (cQ a dx fs)
def PE a:=iT a (af 1) d9
def PF a:=UA a σ' H' s'
def PG a b c d:=zC a b s1 c H1 aF r1 aB d
def PI a b c d e:=λa b hb c=>Rr d hb e
def PJ a b:=by
 rw[a,b,aT]
 rw[tG]
def PK a:=by rw[zz hb h! a]
def PL a b:=vt (m6 a hr Gt b)
def PM a b c d:=zc a b c d hb hx
def PN a b c d:=by obtain⟨a,cb,b,c,hl,d⟩:=I.awb hH
def PO:=by simp only[aT,bB,bw,ag]
def PR a:=hb pins s1 σ H1 a aF aB
def Io a b:=Vals (a) b
def L4:=iQ ns k N names nm l w n a cv none
def PS a b c d:=X9 false a G.calm b c d (j5 _ (af 0))
def MM a:=ad3 false a (yv (Θ 1)) akr
def Cg a b c d e:=by
 have a:b:=c
 have d:=e
def Ch:=(h.qg q hq).1
def Ci a:=s1 ρ a
def GL a:=eO ρ a
def MN a:=Kb ps a
def ay4 a b:=k8 (MN a) b
def Cj a:=b4 a k'
def Ck:=cJ 0
def Cm a:=by rw[az e a]
def Cn a b:=by rw[bV a h b]
def BS:=XU V
def BU a:=qE a o
def BV a:=Eg a 1
def BW:=Q7 s
def BX:=K0 h
def PT a:=HF e a
def atA:=gW tu V
def Ip:=("locks",ο rW)
def akd:=kg a ta
def BY:=u5 ι S ρ σ
def D3:=qR kvs k
def BZ:=dz s hs
def CN:=UG aQ h
def XC a b c:=Wy (a b) c
def abl a b:=XC η a b
def CO:=lQ x
def CP:=rh C p9
def CQ:=Jf Y W.trains s
def CR a b:=F5 a H b xs
def Pk a b c:=Aa (a b) c
def CS:=Zj l ι
def CT:=λ_ _=>False
def CU a b:=uR a (zk M' b) (qS j M M')
def CV a b:=uR a (BA M' b) (kK o M o M')
def CW a b c d:=by rw[LH z vs a r h b vs c d]
def Ku a:=sA (lA P w) P w K mg base N a (ax st) f fW A outer s H E
def y_ a:=d7 .own a
def MO a b c:=avj C a b x c
def Bw a b:=MO o a b
def yV:=l8 x
def nI a:=qS j M a
def r? a b:=aA ⟨a,b⟩
def EV a b:=aq ⟨a,b⟩
def cL a b c:=ag8 a b (ax c)
def WS a b c d:=nW a λb c=>d
def aia a b c:=mF a b ⟨c,H1,aF,r1,aB⟩
def aib a b c d e f g:=mF (ha pins a σ b c d e) f ⟨g,H1,aF,r1,aB⟩
def sd a:=dI [a]
def se a b:=by rw[pO (a) b]
def sf a b:=Qt a (b)
def GI a:=a[t.ob]?
def Ac a b:=∀q∈a,b
def MP a b c d e:=⟨λa b c=>d,e⟩
def atq a:=(a).symm.trans
def EW:=FE t
def GJ:=Î C.tr EW
def MQ a b:=kK o M a b
def rR:=JR C Y M B W o j
def aMV:=cb.toArray.size+Ha.toArray.size
def abm a b:=by
 simp[a,b]
 omega
def abn a b c d e f g h i j k:=⟨λa b=>c,λd e f H'=>g,λh i=>∃j,k⟩
def Pn a b:=by
 show a
 exact b
def CX a:=λx hx=>a
def aic a:=a5s (CX a)
def aby a:=M[a]? = gY
def Iq a b:=nE (compareOp .a) (DX b)
def aB2 a:=X.env.frame=a
def aB3 a:=a=Option.none
def aB4 a:=fs.length≤a
def aB5 a:=ι.length≤a
def aB6 a:=cq.length≤a
def aB7 a:=ss.length≤a
def aB8 a:=a<h.objs.size
def aB9 a:=show a from p
def aCa a:=a < ι.length
def aMW:=Array GenState
def aMX:=AllBare s.gens
def aMY:=s'.heap.get? b
def aMZ:=s1.heap.get? b
def aM0:=pre.map (·.1)
def aM1:=W.locks.map aU
def aM2:=aoV I.ok.above
def aM3:=["_law_world","_law_route","_law_way","_law_step","_law_piece"]
def abo a b:=(a).tr.steps.map λs=>aY b
def aid a b:=(a).steps.map λs=>aY b
def EX:=.list
def Po:=dy (k_ ?_)
def EY:=by simp at h
def EZ:=(yj ss k).2
def E0:=uM hb
def E1:=[ak]
def E2 a:=by rw[pO e a]
def E3 a:=Ð a 2
def E4 a b:=Ek a x b
def E5:=D5 a lT
def E6 a b c:=K6 a b c M
def E7 a:=ef K (iq K) E ι S H Q a
def E8 a:=oq mE A a Q E
def E9 a:=MQ o a
def E_ a b:=aIi X aJ a b
def E! a:=by rw[Vz y hρ (iX _ rfl fR a)]
def E? a b:=È a.1 b.2.2
def EJ a b:=Ut S H ι a b
def EK:=by intro pins s σ H x y v u Q I rx a! h
def EL a b c d e:=by
 obtain⟨E,ι,S,M,a,b,ao,c,d,w⟩:=h
 rw[zX e]
def Kr:=Nt X x
def atr a:=W'.trains=a
def aM4:=kvs.length=vs.length
def ats a:=ps.length+a
def att a:=t.steps≠a
def atu a:=a-xs.length
def atv a b:=aYw (enc:=a) b
def GO a c:=∀b∈a,c
def jD a:=(a:gz).Nodup
def c9 a:=λz=>a
def aox:=gW tu (Addr×Value)
def aCb:=(by rw[List.size_toArray]<;>omega)
def aCc:=(by simp only[Int.reducePow])
def aCd:=if_neg av
def aCe:=cx "enter"
def aCf:=bF t.steps
def aCg:=ss.count s
def aCh:=l.filter p
def aCi:=by rw[fZ ok.len]
def aCj:=Θ 999999
def aCk:=["self","name"]
def aCl:=by
 rw[←ao.len]
 simp
def aCm:=["piece","step"]
def aCn:=abk PyData
def WT:=.tuple
def aie a:=by
 have:=a
 subst this
def WU:=some i
def WV a b:=I.a_ a _ b
def WW:=by rename_i e
def WX a b:=aEm env a b
def á a b:=adU a ifs b
def WY a b c:=yz a (iq K) b c
def WZ:=fE (gA s)
def W0:=iL aC
def W2 a:=encD a d
def W3 a b:=alC a b cX
def W4:=a5o av
def W5 a:=a5e a bU
def W6 a:=yk (af 2) a
def W7 a:=d7 a cq
def W8:=bh hi
def W9:=kQ vs
def W_:=gX iy
def W!:=gP AG B.trains
def W? a b c:=mw a vs b c
def aKN:=Y.ps.length≤16
def Xa a b:=aDe false a aC4 b
def Xb a:=zj Ji a
def Xc:=tO α
def WH a b c:=kq a (BG b c t')
def WI:=by rw[bV e2 w1 w1.elim]
def WJ:=by rw[bV aB w1 w1.elim]
def WK:=ŗ xs
def WL a:=Lv a bW
def WM a b c d e f g h i:=by rw[Qq (n7.imp a (jj b σ c d)) e f g h i]
def WN a b c:=agf a b ?_ c
def WO a b c d:=Chain ps ss a b c d
def WQ a:=HO (af 1) d9 a
def WR:=by obtain⟨f0,f1,f2,f3,f4,jb⟩:=hf it Ξ
def XD a b c:=Uz ρ a b aH T.mt c
def XE a b c d e f g h:=aQs (a:=λb=>ly Y M W j c d i x) e rfl rfl f M' g h
def XF a b c d e f g:=by
 obtain⟨a,ι,b,c,xs,ao,d,e⟩:=f
 rw[zX g]
def XG a b:=by
 rw[bx]at a
 subst b
def aoz a:=KT a kvs xs
def XH a b c d e f g h:=by
 rw[eS a b (aQ.FD.mp c)]
 obtain⟨d,eM,e⟩:=ao.addr f
 simp only[g,eM]at h
def XI a b c d e f g:=Zu a b c d e f λB'=>akW Y g B'
def Æ a:=bx a ι' S' xs vs
def XJ a b c d e f g h i:=RY a σ b c d hw (Ő e σ f g h i)
def vU a b c:=λa xs b=>c
def vV a:=λb hb=>a
def vW a b:=λa hy=>b
def vX a:=vf (a)
def oM:=ο t.ob
def nJ a:=Q a H'
def GD:=l8 i
def nK a:=qr w i x a
def atw a:=("trains",a)
def EM a b:=by by_cases e:a=b
def t6 a b:=by rw[EM a.1 b]
def vY a b:=eN a (b)
def Ir a b:=vY a (b_ b)
def Pp a b c:=vY a (vY b c)
def aif a b c:=vY a (Ir b c)
def abp a:=vY a (eN mm sY)
def abq a:=by by_cases e2:a
def abr a:=by by_cases hm:a
def abt a:=by rw[←hl]at a
def aM5:=List.range n2
def aM6:=xs.eraseIdx i
def aM7:=cb.eraseIdx k
def aM8:=pre_splitW g7
def aMz:=aQ.aO7.mpr rfl
def aMA:=e.mono ao.sub
def aMB:=jB ns.length
def aMC:=b9 A.handled
def aMD:=aY ss.length
def aME:=xs.length+zs.length
def aMF:=aoQ "_law_at" "_law_found"
def aMG:=["_law_pieces_here","_law_at","_law_joint"]
def aMH:=["_law_world","_law_signal","_law_joint","_law_at"]
def aMI:=["_law_pieces_here","_law_at","_law_joint","_law_found"]
def aNz:=["_law_world","_law_route","_law_joint","_law_at","_law_names","_law_border"]
def aNA:=["_law_pieces_here","_law_signals_here","_law_way","_law_at","_law_joint"]
def aNB:=["_law_pieces_here","_law_signals_here","_law_way","_law_at","_law_joint","_law_found","_law_out","_law_here","_law_behind"]
def asJ:=.UnaryOp
def asK a:=h.Ns1 a mA
def asL a:=J.stop i a
def asM:=B.get? e
def asN:=B.get? b
def asO:=["self","pieces","signals","wait"]
def asP a:=aj.yx a xs
def asQ a:=Res.ok a M
def asR:=r.cut hb
def asS a:=tmod rfl a
def ay3:=cO Heap
def asT:=pP T.atX
def asU:=pP T.aDa
def asV:=pP T.mM
def asW a:=b9 (S' a)
def asX a:=fP W.locks a none
def asY:=h9 C.cI
def asZ:=h9 C.he
def as1:=h9 C.rd
def as2 a:=za a h.wl
def as3:=Q3 ⟨t.tr.steps.dropLast,t.tr.ahead,t.tr.out⟩ t.sj
def as4:=v₂::rest
def as5:=ď "go"
def as6:=agT t.tr M2.length
def as7 a:=⟨t.steps,a,true⟩
def as8 a:=Pc (af a)
def asE:=y9 name
def asF a:=fD (hn a)
def asG:=by rw[b! S.alh I.Ki]
def asH:=i8 (MV T.aRx hr (i! (yk (af 1) (i! ue))))
def asI a:=UR (xs.map some) a none
def aih:=some st
def aii a:=RelV a w'
def ajI a b c:=Q a (aqU b c)
def ajJ a b c d:=fun a=>azX b c d
def ajK a:=X.tr a S?
def ajL:=aV4 ends
def ajM a b:=l.set a.1 b
def ajN a b c:=R.lt a hr b c
def ajO:=avk Y.ps
def aoJ a:=d7 ee a
def ajP a:=cD f_ a ak
def ajQ a:=afS mj a
def ajR:=Θ 100
def ajS:=Q5 lim
def ajT:=Y.ps.length≤100
def ajU a:=KD a (dj "ok")
def ajV a:=jn r5 a
def ajW a b:=ù a b cG
def ajX a:=Vt BF a
def ajY a:=d5 aG (dC (Ω a))
def ajZ:=gC aLf
def aoK:=tO Int
def aj0:=Δ s2.heap.objs.size
def aj1 a:=nA cX a
def aj2:=cJ (gA cg).1
def aj3 a b c:=aoP a j6 b c
def aj4:=ee "BaseException"
def aj5 a b:=bootBuiltins a = d7 e! b
def aji a b:=bootBuiltins a = d7 ee b
def ajj a:=æ a (af 1)
def ajk:=pK (eN bW sY)
def ajl a b c:=if a then(b:Int) else c
def ajm a b c:=Q1 a True.intro b (λz=>nomatch z) c
def ajn:=j4 (d5 aH (dC (Ω "green")))
def ajo:=j4 (d5 aH (dC (Ω "signals")))
def ajp:=Vk mL
def ajq a:=apW zN a
def ajr a b c:=rH a b c pQ
def ajs a b c:=rH a b c š
def ajt a b:=vz a aH b
def aju:=η Y.ss.length
def ajv:=ē aG
def ajw a b:=xh (Ω "ok") a b
def ajx a b c:=als (a:=False) b c Ξ
def ajy:=lP vs.toArray
def ajz:=i8 (MV T.aDb hr (i! (yk (af 1) (i! ue))))
def ajA a b c:=V5 a b pos c
def ajB a:=fI countP aG a
def ajC a:=aiL a (aN (eh d))
def ajD a b:=ER a b pQ
def ajE a:=Pc (m6 a hr G.ie (zP (eN bW sY)))
def ajF:=cK _ rfl
def ajG a:=LM (ς a)
def ajH a:=df G.hu (af 4) d9 a
def ai9:=⟨av,av⟩
def aja:=ee "object"
def ajb:=eP (lS Ij)
def ajc a b c:=aPj a rfl (r! (kA b c))
def aoI a b c:=if a then bG C.he b else c
def ajd a b:=A.under (e! "type.__call__" ⟨a,b⟩)
def aje a:=ô (ee "range") a
def ajf a:=rC a rfl rfl
def ajg a:=PT (h a)
def ajh a b:=Pk aV a b
def aj6:=⟨aC,aC⟩
def aj7:=η B.ticks
def aj8:=Lw jL BR
def aj9:=vv (kX (kC gr (Θ 8)) (Θ 3))
def aka a b:=eV (y a aC aC) b
def abu a:=Wx LQ a
def aoC a b:=aot a b DU
def XK a b c:=pZ a (t7 (mn false) b c)
def akb:=vz (iu true) ak aG
def Pq:=tm Ű
def akc:=jo false pS (dc aH) (bR 0) j_ r4
def aa3 a b c d:=by
 have a:¬b:=av
 simp[c,d]
def HQ:=(yj ss k).1
def HR:=(List.getElem?_eq_some_iff.mp h).1
def HS a:=hf a hb
def HT a b c:=aFU a aJ b c
def P? a:=sF a M'
def HU a b c:=qL a b ?_ c
def HV:=cJ N
def HW:=aK e
def HX a b:=by rw[bV a w b]
def HY a:=KW a j
def aCu:=x ≠ "__name__"
def I0 a c d:=I.base.free b o a c d
def I1:=ú i
def I2:=aoZ p
def K2:=yy Y B.ticks
def I3:=X0 a
def abE a:=P! a o
def I4:=tE (UN p)
def I5 a b c d:=by intro pins a σ b c I d
def I6:=Sum.inl q.1
def I7:=zF _
def I8 a b c d:=vg a (b c d)
def I9 a b:=dq false a b M
def aa4 a:=h.push (ς a)
def Pr:=("lying",ο (jV 2))
def I_ a:=QW n (a kvs)
def Qd a b:=By (GR i) a b kG
def akh:=IJ e
def K3:=RelV x v
def I! a b:=iu neg a b M
def I? a:=I.tr _ _ a
def abF:=jg o mf
def Ja:=qj.md xs.length 0 lo
def Jb:=KW a o
def Jc a:=by rw[gT (vZ q a) q]
def Jd:=iw K H a xs
def XV a:=am5 X aJ a ds
def XW a:=yw K ι S H a o
def IT:=eG C Y gB o M B
def IU a:=kZ (yy Y t) a
def IV a:=M9 K bl a
def aCt a:=pE Y.ps.length Y.rs (qO Y.ps) a W B
def IW:=Jf Y pre s
def IX a b:=dA K ι S a b
def abD a:=G! b (aEO X pins a b)
def IY a:=by
 rw[zv S M w h]
 refine a
def IZ:=by
 intro X hP hw hK hc i pins s σ H E I hf st hg
 subst hP hw hK
def sZ a:=Jl k a
def MR a b:=ig a (bR 3) b
def aa5:=L8 (bR 3)
def wL{P:Program}{w:World}:=_
def aya{K:eY}{ι:cz}:=_
def bf{n:Nat}:=_
def TU(he:DS (e::es)=abx::aCr:=by rfl)(g8:XO (PU es).any:=by rfl):=_
def Z3(hf:atD x\/abz x:=by first | exact aq rfl | exact aA rfl | assumption):=_
def yQ{σ:St}{H:aM}:=_
def Z4(hN:abA c ([0,101,102,103,104,100,-3,-5,3,999999,7]:eK) c):=_
def dH{xs:dY}:=_
def b6{M:aS}:=_
def aeN(σ:St)(H:aM):=_
def m8{s:Shared}:=_
def kP(s:Shared):=_
def dS(n:Nat):=_
def anx(A:Around)(outer:DR):=_
def bQ(I:iO):=_
def Ba(hd:aCq:=by decide):=_
def aeO(F:qT X.prog X.w X.K X.mg X.base gH k f fd ps sp):=_
def gb{α:Type}:=_
def ayb(NF:GO ch ((b∈X.ex\/abN b)/\DY b/\(∀x c,wZ=lK->c≠b)/\jn (X.fJ++pins) (p.1≠b))):=_
def wM(X:bT)(aJ:St->d_):=_
def dU{k:Nat}:=_
def gc{x:Int}:=_
def gI(Y:dK):=_
def Z5(K:eY)(mg:Str->fO):=_
def gS(x:Int):=_
def cT(M:aS):=_
def DH(P:Program)(w:World):=_
def ayc(he:DS [a,cU x q]=ake a::DS [cU x q]:=by rfl)(g8:XO (PU [cU x q]).any:=by rfl):=_
def Z6(hs:∀x,aZU x=pure x:=by rw[XS _]):=_
def J!{ps:kt}{ss:sW}:=_
def jz aya{S:aM}:=_
def aI3(ht:lJ (uQ (y9 m) (e::es) [] pos)=(do
   let ov ←DU
   aKQ
   let(f,first) ←DW [ov] (getMethod ov m pl)
   aKR pos f (PU (e::es)) (afx pos)):=by rfl):=_
def d!{x:Str}:=_
def fX{r:Nat}:=_
def J?(R:atz)(I:atx):=_
def l9(live:Bool):=_
def fN(G:sU):=_
def fM(r:Nat):=_
def pD dH{vs:cH}:=_
def wN(ps:kt)(ss:sW):=_
def ZE(i:∀σ H Q,t' σ H Q->t σ H Q):=_
def aI4(ht:lJ (uQ (y9 m) [] [] pos)=(do
   let ov ←DU
   aKQ
   let(f,first) ←DW [ov] (getMethod ov m pl)
   aKR pos f (PU []) (afx pos)):=by rfl):=_
def dg(K:eY):=_
def c6(g:D1):=_
def aI5(Qr:gJ ((XZ (e::es)).all (λx=>! x.1)&&(afx dt).all (λx=>Z9 x.1)
   && jC (di (e::es)+mO ([]:XY)+(ayV ([]:XY) 0 1)<30)):=by rfl):=_
def n_(W:b5):=_
def gw(h:DP):=_
def o!{ρ:bu}b6:=_
def iB{a:Addr}:=_
def sP{α β:Type}:=_
def uH{x:aj}{v:V}:=_
def aI6(hu:∀M B w,ru->akk->(aow GK)->uR (fF [ο 0,bF w] M=.ok .bb M') (BA M' (afA B w)) (BK/\w9/\∀i,i≠1->M'[i]? = M[i]?)):=_
def anz{f:Addr}{fd:FuncData}:=_
def anA{S H:aM}b6:=_
def Gl(I:xp Y W)(S:PV):=_
def gx{i:Nat}:=_
def g!(i:Nat):=_
def qo{u:Value}:=_
def N3(hn:aCu :=by decide):=_
def n!(C:gv)gI:=_
def DI(w:fL)(i x:Int):=_
def m9(C:Addr):=_
def aI7(hs:∀pre x post,xs=pre++x::post->∀ρ M,R pre ρ M->∃ρ1,g (enc x) ρ=à/\Body w (R (pre++[x])) Q (s1 ρ1 M)):=_
def DJ wL{K:eY}:=_
def jT{c:Addr}:=_
def N4(Nz:aCq:=by decide):=_
def uI{A:Around}:=_
def qp{neg:Bool}:=_
def rj(a:Addr):=_
def Ka(d:Bs)(k:κ):=_
def Gm(ao:rt)(r:jf):=_
def Gn{w:fL}{i x:Int}:=_
def N5(ha:akd)(hb:aZT b):=_
def pC(j:Int):=_
def ayd(g_:abB)(LT:∀M,Looks M s.heap (aCw (Δ e)) (Δ C)):=_
def iC{i:Int}:=_
def o?{κ:Type}:=_
def fY(X:bT):=_
def Go{xs:cH}{us:cC}:=_
def iU(h:XM):=_
def jU(H:aM):=_
def DK bf{kvs:kc}:=_
def sQ gc{t:o9}:=_
def e7{d:br}:=_
def aye(hs:DS (e::es)=abx::aCr:=by rfl):=_
def aeP(ha:PY)(hb:jg b db):=_
def ZF(Sz:aCs:=by rfl):=_
def aeQ{ι ι':cz}{S S' H H':aM}:=_
def n?(pins:gG)(s:Shared)aeN:=_
def m_(w:iz):=_
def anB(ha:XV (e::es))(hg:Kr:=by rfl):=_
def Kc(hN:X.N.Nodup):=_
def anC(Ju:aot o name DU=DU:=by rfl):=_
def ZG(ha:S a=ni .cw .bA):=_
def aI8(hu:abH (aou 1+aK1 aZ2))(h:Q (pM (yZ (xs.any (yX y y d)) (xs.any (yX y y d)))) s):=_
def ayf(hp:∀a,Qa Bu)(inj:∀a b,Bu=enc b->a=b):=_
def Kd(s':Shared):=_
def aeR fX(hr:lI):=_
def sR(bl:Addr):=_
def j!(ps:kt):=_
def aeS(M':aS)(h:c8=.ok x M'):=_
def gy{x:aj}:=_
def Ke{ι:cz}{S:aM}:=_
def iV{H:aM}:=_
def aI9(hg:Nt (sA (lA P w) P w K mg base N qual scope f cd A outer s H E) x:=by rfl):=_
def aeT{H H':aM}{s s':Shared}:=_
def ql{C:Addr}:=_
def anD(hs:DS [a]=[ake a]:=by rfl):=_
def anE{g0 g1 g2 g3 jq jr jt ju:D1}:=_
def anl(f:Addr)(fW:Value):=_
def DL(o:ek)cT:=_
def anF(k:∀b u,s4=dD->rz=dD):=_
def aeU(hd:c8=.ok (ο n) M):=_
def rm(cR:uO):=_
def ayg(hb:Binds X.K fd ps ds)(hd:Vals Dm ds):=_
def ae6(e:H a=nh .bA):=_
def lG{X:bT}:=_
def Bb{pins:gG}yQ m8:=_
def pe gI n_:=_
def Kf(hx:dZ=fm):=_
def aJa(hf:atD y\/abz y:=by first | exact aq rfl | exact aA rfl | assumption):=_
def aJb{w:q3}(h:∀ι' S' M' H',Qh S->US->P? w->∃vs,iw K H' q vs/\Æ K):=_
def nc(x:Str):=_
def ro{Q:iD}:=_
def TV Z5(base:Heap):=_
def TX(h:All L K)g!:=_
def Gp(h:GF .ai):=_
def aJc(hf:∀v u s2 x y H2,kq H2 s2->K3->abw->R x y H2->j7 (f v u) Q s2):=_
def ae7{b3:Expr}(a it:Addr):=_
def ae8(co:aos X N)(adh:XN):=_
def ae9{ι ι':cz}{S S':aM}:=_
def N6{Q:Unit->Bt}:=_
def afa{scope:Scope}:=_
def ayh(h:j≤k:=by first | omega | decide):=_
def ayi(aeM:aKS X :=by rfl)(aCV:Kr:=by rfl):=_
def sS{h:Heap}:=_
def sT(hu:aN3):=_
def anG(ani:aCw (e! id)=aZ0 ee):=_
def aJd(hn:di (XQ es)=n:=by rfl)(uv:b9 (iE (XQ es).findIdx?):=by rfl):=_
def N7{i j:Int}b6:=_
def Gq{kvs:abv}{cq:DQ}(h:PX):=_
def Bp(a:Nat):=_
def aJe(hsw:ayU (GN elt [Qi 0] scope pos) (abI y py) amQ.line=pure true):=_
def aJf(hs:aKY [b3] e X.env=XT:=by rfl)(hw:aKW [b3] e=pure none:=by rfl):=_
def ZH{ρ:bu}{M M':aS}:=_
def afb(ha:o8 X (e::es) t):=_
def anH(ho:kg o td)(he:abK ty):=_
def aJg(hn:vB p (w7->iP [ο 0,η p] M=aoI (zL||ti p) M (.ok .bb M))):=_
def uJ{p:Addr}:=_
def l_(x:aj):=_
def pg(i:Int):=_
def pn(k:Nat):=_
def pq(I:atx):=_
def pA(h:ru):=_
def ayj(hc:bS [ο 0,η i] M=Qd .ok .bb):=_
def ayk(C6:aw5 (H x))(he:e=x\/H e=y_ x):=_
def Kg(lo hi:eL):=_
def Gr{st:Stmt}:=_
def aJh(uv:DS (e::es)=abx::aCr:=by rfl)(g8:XO (PU es).any:=by rfl):=_
def oh(B:dM):=_
def afc(hd:aKO M n .ai Y):=_
def ayl(x:A? P w outer H s e cls H' s'):=_
def aym(A:avl C g0 g1 g2 g3 jq jr jt ju):=_
def ZI{f:α->aS->akf}:=_
def ZJ(C1:atE k 3 qM):=_
def ZK{b:Addr}{o:Obj}:=_
def aJi(hi:abC:=by rfl)(hx:atF x:=by first | exact aoH | exact ayX):=_
def qm(s:Nat):=_
def afd bQ(g:AR H a y o):=_
def wO{ds:sV}:=_
def j?{K:eY}:=_
def anI(ND:abL (.dict es ep)):=_
def aJj(hs:GH (XQ (e::es)).map=abM e::GH (XQ es).map:=by rfl):=_
def aJk(k:∀b u,b≠e->s4=dD->rz=dD)(akC:∃u,h'.get? e=dD):=_
def anJ fY(pins:gG):=_
def afe(f:yP Y W)(S:PV):=_
def DM{pos:Pos}:=_
def Gs(S:aN2):=_
def ax0(X:abB)(I:ael s.heap x dx C mA):=_
def aJl(hg:∀C fp s0 H0,uB (v! X scope N C fp s0 H0) b3 g)(hi:∀C fp s0 H0,á (v! X scope N C fp s0 H0) tt)(he:∀C fp s0 H0,Dn (v! X scope N C fp s0 H0) elt te):=_
def aJm(hg:∀C fp s0 H0,Zx (v! X scope N C fp s0 H0) b3 g)(hi:∀C fp s0 H0,axz (v! X scope N C fp s0 H0) ifs tc)(he:∀C fp s0 H0,aIh (v! X scope N C fp s0 H0) F? elt d):=_
def anK(ho:abF)(he:jg e dk):=_
def Bc(hc:XN):=_
def yR(ns:eK):=_
def ZL(xs:dY)(vs:cH):=_
def ZM{ρ:bu}{σ:St}:=_
def N8{outer:DR}:=_
def N9{live:Bool}:=_
def ax1{loose ends:eK}{m0 many:Nat}:=_
def lH(d:br):=_
def TY{enc:α->aj}:=_
def aJn(hc:bS [ο 0,η i] M=By (Kv i) .ok .bb (bG C.cI M)):=_
def afg{es:aZV}{ep:Nat}:=_
def N_ m_(l:uN):=_
def N! m_(d:DV):=_
def anL(ha:PY)(ank:akj aZX):=_
def ax2(g0 g1 g2 g3 jq jr jt ju:D1):=_
def qn(k:κ):=_
def aJo(he:aKT Qf=(false,eval e₀ oj)::aKT rest:=by rfl):=_
def anM{kindOf:aZY Str}d!:=_
def TZ J!(hg:sX):=_
def Gu(u:Value):=_
def Bd{t':Nat}:=_
def Be(hi:GD):=_
def Bf(hx:yV):=_
def aJp(E:amN c loose m0 many ends):=_
def ano(q4:iS nm)(ha:l8 a):=_
def afh(e:Int->α->aj):=_
def aIT Ba(PQ:uP x ("__classdict__" : Str):=by decide):=_
def yS aya anA:=_
def N?{N ps:gz}:=_
def T3(aJ:St->d_):=_
def T4{aJ:St->d_}:=_
def oi(s:eJ):=_
def DN(h:Heap):=_
def DO(a!:abw):=_
def anp(r:V->cH->aM->jA):=_
def anq(hi:abC)(hx:atF x):=_
def anr(hg:Kr)(hm:atG x):=_
def ans{f:Addr}{cd:Value}:=_
def wQ(f:Str):=_
def wR{vs:cH}:=_
def wU(s:rt):=_
def wV(p:Nat):=_
def ax3(e:H a=Z! C)(c:AZ X.K C):=_
def Kh{kvs:atA}:=_
def afi(S:a3w N):=_
def Kl{res:ng}:=_
def Km(i x:Int):=_
def aIU(hm:dQ (lastMarks [op,Zz] [b,c]):=by rw[afB]):=_
def aIV(hl:aoF)(h1:afC i (o i≠.Dc->M'[i]? = M[i]?)):=_
def aIW(aHM:ayU (cU n auE) (abI y py) apos.line=XT:=by rfl)(hdx:aCq:=by decide)(hdn:uP n ("__debug__" : Str):=by decide):=_
def ant gw(o4:aKP r lI):=_
def T6{kvs:DQ}{vs:aN8}(r:XR):=_
def pB{Q:aeI}:=_
def aIX(hk:GL M2=.ok k bJ)(hp:cE (Df x k y bJ) M'):=_
def afj(ha:uC X a tA):=_
def afk(g:κ->α->β):=_
def afl(Q:iD)(E:iD):=_
def ax4(h1:GI M = GJ)(h2:aoE):=_
def aIY(h:aoG σ H x (tb σ H1 (ny y (R x y H2)))):=_
def afm iV{a b:Addr}:=_
def afn bQ(hf:abD H):=_
def afo ro(hu:ayS 1):=_
def ZN(rs:gf)n_:=_
def anu{xs:aox}(r:aoz H):=_
def anv(st:Stmt)(ps:gz):=_
def aIZ{g0 g1 g2 g3 jq jr jt ju lu g5:D1}{ia:Addr}:=_
def uK{o:dm}:=_
def anw dH(h:abG y k y):=_
def Gv{b:Bool}:=_
def Gw(c:Addr):=_
def ax5(hr:sZ (A.deeper oj)):=_
def ax6(prog:Program)(w:World):=_
def ax7{prog:Program}{w:World}:=_
def ax8(I:afz W)(S:aCt (Az Y)):=_
def aI0(hr:∀j∈js,0≤j/\j≤999)(hn:js.Nodup):=_
def T7(hr:aN6 k):=_
def T8(wait:Int):=_
def aI1(k:∀ρ' M',R xs ρ' M'->Q (.nx ρ' M')):=_
def aI2(hk:oK ρ k y)(hy:qV M y=aN (ys.map η)):=_
def aJZ(hv:dv ρ M=.ok y aa)(ho:D0 aa=.ok x M2):=_
def afp(Q:Bool->dW):=_
def afq(ho:kg o to):=_
def afr(ht:aE6 C gt):=_
def afs{d:Bs}{k:κ}:=_
def Oa{pins:gG}:=_
def Ob{kvs:qq}:=_
def rq(p:dR):=_
def ax9{ρ:bu}{f:α->aS->Out}:=_
def Bg(us:cC):=_
def Bh{us:cC}:=_
def aJ0(h1:GH (XQ [b3]).map=[abM b3]:=by rfl):=_
def Bj(ρ:bu):=_
def Bk(l:gf):=_
def Bl{ps:kt}:=_
def aJ1(hp:∀p:dR,dG afE M=.ok (.ah (qW p)) M):=_
def aJ2(hp:aKZ (model X.prog X.w) X.A X.qZ)Bc:=_
def aft(kvs:DQ)qn:=_
def aJ3(i:∀v σ H Q,t' v σ H Q->t v σ H Q):=_
def ZO(L:Nat)gI:=_
def ayq(hd:c8=.ok (ο 0) M):=_
def ayr(fg:XX r (cX≠[])):=_
def Kn(ok:PZ):=_
def Ko{e:Expr}:=_
def Kp(ds:sV):=_
def aJ4(aOR:j∈(d8 a).js)(aC9:j∈(d8 b).js):=_
def an1(e:H a=nh .dT):=_
def an2(hx:aDZ gH X aJ):=_
def an3(Sd:aov k 1 C0):=_
def an4(ι:cz)(S H:aM):=_
def an5{ι:cz}{S H:aM}:=_
def aJ5(hc:bS [ο 0,η i] M=Z? i .ok .bb M):=_
def aJ6{r r':V->eL->eL->aM->jA}(h:Ga X r):=_
def aJ7{body:yY}{np py auE apos axw pos:Pos}:=_
def afu{m:Str->fO}:=_
def afv(eZ bl:Addr):=_
def afw(enc:α->aj):=_
def DC{k:Key}:=_
def DE{Q:DT}:=_
def DF{p:Nat}:=_
def an6 gw(K:aIn Y W):=_
def ays(hn:akk)(hl:aow GK):=_
def aeV anz{ps:gz}:=_
def T9{env:Env}:=_
def T_(G:atC X):=_
def T!{a b:Nat}:=_
def ZP{op:CmpOp}:=_
def ZQ(hm:aDo kJ):=_
def ZR(S:aCt C8):=_
def aJ8(hs:aoA e (abI x pos')=XT:=by rfl):=_
def aJ9(hi:GL M=.ok (aoB,w) M')(hc:P? w):=_
def aKa(X:K.In hp)(G:hp.Ns mainGlobals mg):=_
def aKb(Ju:aoC o "values"=DU:=by rfl)ZF:=_
def aKc(g8:XO (afF dt rest).any:=by rfl):=_
def aKd(hs:aKV sl vl vu)(pl:IsPart vl lo):=_
def Oc{ns:eK}:=_
def Od(fG:uN):=_
def Oe(l5:atB):=_
def aKe(Ju:aoC o "items"=DU:=by rfl)ZF:=_
def an7{qual:Str}afa:=_
def ayt(D:dh x st ps)afi:=_
def ayu ae6(a!:w4 (kV k)):=_
def ayv fX(h:r<rs.length):=_
def an8 dU(hk:abJ k):=_
def yU(t:TB):=_
def wK{w:iz}:=_
def Gx{fp:cz}:=_
def Gy{f:Str}:=_
def Gz(xs:dY):=_
def GA{M':aS}:=_
def GB(R:aN5):=_
def Kq DJ{mg:Str->fO}{base:Heap}:=_
def T5 anx kP jU(E:d_):=_
def J7 n_ gS:=_
def aKf(i:∀D σ H,t' D σ H->t D σ H):=_
def aKg(h:c8=bG c M')(q:Q (bG c ρ M')):=_
def aKh aye(Bn:XO (XZ es).any:=by rfl):=_
def ayw(i j:Int)(t u:Tok):=_
def aKi(fo:Bx (k+1) "is_at_border" Jg):=_
def aKj(pa:PlainAttrs T)(slot:aKU T id):=_
def an9(fd:FuncData):=_
def aoa(hs:aH8 C gs):=_
def aob(hw:aIo C gE):=_
def aoc(ι:cz)(S:aM):=_
def aod{eO:n0}{g:qh}:=_
def yT(Q:aeI):=_
def aKk(k:∀b o,b∉fp->kr->rz=b8):=_
def aKl{gt g0 g1 g2 g3 jq jr jt ju:D1}:=_
def aKm{loose:gz}{XP:(Str->fO)->ay3}:=_
def aKn(c:AZ X.K C)(hm:Meth X.K C m f):=_
def aKo{id:String}(slot:aKU "list" id):=_
def l!{v:V}:=_
def aoe{M:Model}uI{E:iD}:=_
def aof(e:Value)Kd:=_
def aog uK(h:XW a):=_
def aoh dH(h:aby a):=_
def aoi gc{s r:Nat}:=_
def ayx(S:ag8 N ps scope):=_
def ayy(hn:cE l.most n):=_
def ayz{w:q3}{R:bu->Z8}:=_
def ayA{g5:D1}(hr:auo g5):=_
def ayB{locks:uN}{t:o9}:=_
def ZS(v:Value):=_
def ZT(kvs:abv):=_
def ZU(D:Due W):=_
def J8(xs:cH):=_
def J9(j:Nat):=_
def J_(M':aS):=_
def J'(h:wX):=_
def aJz(F:wD P w K mg base j C m n g):=_
def aJA(F:sN P w K mg base j x C n g):=_
def aJB{r r':cH->aM->jA}(h:Yj X f r):=_
def aJC(hg:aZ4)(hf:(aZ3).Sublist mL):=_
def ayC dU(h:yW k w6):=_
def Of jU rj:=_
def Og lG Bb:=_
def Oh dH b6:=_
def Oi pC cT:=_
def Oj J? Gs:=_
def T?(e:Expr):=_
def Ua(xs:ry):=_
def Ub{xs:ry}:=_
def Uc(hl:Ks):=_
def Ud(hr:lI):=_
def aJD(a_:â H' h')(hg:AllBare g'):=_
def Bm{E:d_}:=_
def Bo{g:D1}:=_
def aeW(X:amo K C):=_
def aeX(e:aki α):=_
def aJE bQ(k:∀b u,Kw u->rz=dD):=_
def ZV{y:V}qo:=_
def ZW l_(v:V):=_
def ayD(hu:abH (aou 1)):=_
def ayE(ho:afy (DX f)):=_
def ayF(h:ayR 2\/ayR 3):=_
def ayG(v:fL)(hu:v.s=u):=_
def aJF(Sf mB oC Sy sk Nr SP SQ:D1):=_
def aJG{C:Int->aoK}{g:Int->Int->aj}:=_
def aJH(hm:ur X id (Ky f))(ho:abF):=_
def aJI{a b c d:Addr}{x y z u:Bool}:=_
def ayH{x qual:Str}Gr:=_
def aoj(lo:Int)dS:=_
def aok dS(way:iz):=_
def aol m_(f:Bool):=_
def aJJ(hs:aoA e none=XT:=by rfl):=_
def aJK(akT:ez "_law_train_in" acn):=_
def NZ{j:Int}:=_
def N1(t:Int):=_
def N2{s:Nat}:=_
def aJL(D:ad2 K mg x C q st ps)afi:=_
def DG{y:aj}:=_
def aJM dg(c7:cz->aM->α->cO β):=_
def ayI{R:Result->Bt}:=_
def ayJ(M:Tt K mg x C):=_
def ayK(abU:aoy k 3 MX):=_
def ayL(res:ng)(k:o7):=_
def aJN(hdf:d.params.defaults=[]):=_
def aJO(hn:ds.length+1=n:=by rfl):=_
def aJP(akM:ez "check_points" hE):=_
def aJQ(akN:ez "signal_ahead" hG):=_
def aJR{pl:afD}{Q:Value×cC->Bt}:=_
def aJS(rx:ayW x d bs)(NG:aKX xs):=_
def aJT{v₁ v₂:Expr}{rest:dF}:=_
def aJU(hc:avW C bS)(hu:aHJ C fF):=_
def Ue dg m9:=_
def Ug dS c6:=_
def Uh n_ fM:=_
def Ui oh gS:=_
def anm Bp gS:=_
def Uj fN aeR:=_
def aom(zi:XU br):=_
def aon(T:Bw M t):=_
def aoo{y z w:wY}:=_
def aop(MW:aZW CY):=_
def ZX(he:ayQ):=_
def ZY(ao:rt):=_
def ZZ(he:akh):=_
def Z0{x y:aj}:=_
def Z1{bs:GG}:=_
def Z2(hl:aCv):=_
def ZC(zr:aKN):=_
def ZD{iS:akg}:=_
def aJV{bS gs gt bX oV fF gE:D1}:=_
def aJW(kV doc pm:Value)(an:X3):=_
def aJX(ZB:atG x)(hv2:Kx=aoJ T):=_
def aJY{f:w5 eY fO}{v:Qg fO}:=_
def aJq(h2:∀j,ay4 j 2){js:eK}:=_
def aJr(hl:afG)(hf:C9 f y fs=Pm):=_
def aJs(hk:iR x=fc)(hv:D3=fq):=_
def aeY{v:Value}:=_
def aeZ{h':Heap}:=_
def ae0{j k:Nat}:=_
def ae1(h:j≤k):=_
def ae2(h:abE M):=_
def ae3{kvs:kc}:=_
def ae4(h:aby n):=_
def aoq anJ(σ:St):=_
def anN uH(h:jf):=_
def anO pD(h:gg):=_
def aJt aeP(hm:aoD op b:=by rfl):=_
def anP Ka(v:α)(k':κ):=_
def anQ gx{v':dm}:=_
def anR pC(a:dw):=_
def GC(t:o9):=_
def ayM(hr:aN6 (k+1)):=_
def ayN(hc:awy C Y bS):=_
def ayO(ht:aER C Y gt):=_
def ayP{a:α}{as:ry}:=_
def aJu(r:V->eL->eL->aM->jA):=_
def aJv(F:Qe P w K mg j x n g):=_
def aJw{vl vu:Value}{lo hi:eL}:=_
def aJx{j o:Int}(hn:p.js.Nodup):=_
def aJy(h2:L+2∈l)(h3:L+3∈l):=_
def ayn dg(T:String):=_
def aKp(D:SV K C m q st ps)afi:=_
def aKq(I:aem c ps loose m0)aJp:=_
def ayo fN(I:xp Y W):=_
def ayp fN(h:yP Y W):=_
def ae5 n?(x:V):=_
def aKr dU(h:DZ=pre++k::post):=_
def Uk(te:TE):=_
def Ul{gH:Dl}:=_
def Um{P:aN7}:=_
def Un(l:uN):=_
def Uo{gt:D1}:=_
def aKs(F:Gb K x qual st f fd):=_
def aKt(ho:D0 M=.ok (ο n) M):=_
def aKu(T:JE Y.rs aK0 locks t):=_
def aKv(hd:c8=.ok (ς aoB) M):=_
def aKw(akX:ez "pieces_at" acz):=_
def aKx(alm:ez "_law_held" pv):=_
def aKy(aln:ez "_law_near" pw):=_
def aKz(rn:ez "_law_free" pz):=_
def aKA(hg:Kr)(hm:X.mg x=dD):=_
def aKB(hi:P! ι p)(hS:X0 p):=_
def aKC{g:w5 eY fO}{x q:Str}:=_
def anS(ta tb:TE):=_
def anT{xs ys:dY}:=_
def anU(da db:br):=_
def anV{d:PyData}:=_
def anW(neg:Bool):=_
def anY(d:Bv α):=_
def anZ(d:P_ α):=_
def an0{s1 s2:cM}:=_
def aor(hb:∀M anm,bX [pF,η a,η x] M=.ok (aU (P0 x)) M):=_
def aKD(hb:∀anl T5,sZ (Z_ q f)->Good (Ku q) (λ_=>E) →
   Z7 (Ku q) (λ_=>E) d):=_
def aKE(hr:∀M n(k:o7),rH M n bG (rh C k)->k≠.ok->g5 [ο n] M=.ok (Ω (l0 k)) M):=_
def aKF(hs:∀M' fM,M'[0]? = GS K2->lI->gs [ο 0,η r] M'=.ok (η cg) M'):=_
def aKG(hu:∀yU M',GI M' = GJ->agb M'->GU->fF [oM] M'=.ok (jc Qc) M'):=_
def aKH(hb:∀Bp pC,bX [pF,η a,η j] M=.ok (.ah (P0 j).isNone) M):=_
def aKI(hb:∀anl T5,sZ (Z_ q f) →
   Z7 (Ku q) (λ_=>E) d):=_
def aKJ(hs:∀M B fM,ru->lI->gs [ο 0,η r] M=.ok (η cg) M):=_
def aKK(hb:∀Bp pC,bX [pF,η a,η j] M=.ok (aU (P0 j)) M):=_
def aKL(hw:∀M B fM,ru->lI->gE [ο 0,η r] M=.ok l? M):=_
def aKM(hi:∀dS rj,vA->P! ι' a):=_
end
def ZqT:=Std.HashMap Lean.Name (Nat×Array Lean.Name×Array Lean.Syntax)
def ZqH:Lean.Syntax->Option (Lean.Name×Array Lean.Syntax)
|.ident _ _ x _=>some (x,#[])
|.node _ ``Lean.Parser.Term.app as=>match as[0]! with
 |.ident _ _ x _=>some (x,as[1]!.getArgs)
 |_=>none
|_=>none
def ZqW (s:Lean.Syntax):Nat×Lean.Syntax:=
 if s.getKind==``Lean.Parser.Tactic.rwSeq&&s[2][1].getNumArgs==1 then (1,s[2][1][0][1]) else if s.getKind==`Lean.Parser.Tactic.rcasesPat.one then (2,s[0]) else (0,s)
def ZqG (D:ZqT):Nat->List (Lean.Name×Array Lean.Syntax)->Lean.Syntax->Array Lean.Syntax
|0,_,s=>#[s]
|n+1,E,s=>
 let (w,t):=ZqW s
 if s.isOfKind ``Lean.Parser.Term.paren&&(match ZqH s[1] with
  |some (x,as)=>(match Std.HashMap.get? D x with
   |some (0,ps,_)=>as.size==ps.size
   |_=>false)
  |_=>false) then ZqG D n E s[1] else
 let g:=match ZqH t with
  |some (x,as)=>match (if as.isEmpty&&w==0 then E.lookup x else none) with
   |some r=>some r
   |none=>match Std.HashMap.get? D x with
    |some (v,ps,b)=>if !(v==w)||as.size<ps.size then none else
     let a:=as.map (ZqG D n E)
     let b:=b.flatMap (ZqG D n (ps.toList.zip a.toList))
     if as.size==ps.size then some b else some #[.node .none ``Lean.Parser.Term.app #[b[0]!,.node .none Lean.nullKind ((a.extract ps.size).flatMap id)]]
    |_=>none
  |_=>none
 let f:=fun (s:Lean.Syntax)=>if s.isOfKind ``Lean.Parser.Term.app&&s[0].isOfKind ``Lean.Parser.Term.app then s.setArgs #[s[0][0],.node .none Lean.nullKind (s[0][1].getArgs++s[1].getArgs)] else s
 match g with
 |some r=>r.map f
 |none=>match s with
  |.node i k as=>#[f (.node i k (as.flatMap (ZqG D n E)))]
  |_=>#[s]
def ZqC:Nat->Lean.Syntax->Lean.Syntax
|0,s=>s
|n+1,s=>
 if s.isOfKind ``Lean.Parser.Command.universe then .node .none ``Lean.Parser.Command.end #[Lean.mkAtom "end",.node .none Lean.nullKind (if s[1][0].getId==`zE then #[] else #[s[1][0],.node .none Lean.nullKind #[]])]
 else if s.isOfKind ``Lean.Parser.Command.in then s.setArg 2 (ZqC n s[2])
 else if s.isOfKind ``Lean.Parser.Command.declaration&&(s[0].getArgs.extract 2).all (·.getNumArgs==0) then
  let d:=s[1]
  if d.isOfKind ``Lean.Parser.Command.definition then s.setArg 1 (.node .none ``Lean.Parser.Command.theorem #[Lean.mkAtom "theorem",d[1],.node .none ``Lean.Parser.Command.declSig #[d[2][0],d[2][1][0]],d[3]])
  else if d.isOfKind ``Lean.Parser.Command.abbrev then s.setArgs #[s[0].setArg 4 (.node .none Lean.nullKind #[.node .none ``Lean.Parser.Command.noncomputable #[Lean.mkAtom "noncomputable"]]),.node .none ``Lean.Parser.Command.definition #[Lean.mkAtom "def",d[1],d[2],d[3],.node .none Lean.nullKind #[]]]
  else s
 else s
def ZqI (s:String):Lean.Name:=(s.splitOn "\t").foldl Lean.Name.mkStr .anonymous
def ZqP (s:String):Array Lean.Syntax:=
 let f:=fun (x:Lean.Syntax) (S:List (Lean.Name×Array Lean.Syntax))=>match S with
  |(k,a)::S=>(k,a.push x)::S
  |[]=>[]
 let r:=(s.splitOn "\n").foldl (fun (S:List (Lean.Name×Array Lean.Syntax)) t=>
  let u:=(t.drop 1).toString
  match t.front with
  |'('=>
   let v:=(u.drop 1).toString
   ((match u.front with
   |'n'=>Lean.nullKind
   |'t'=>.str `Lean.Parser.Term v
   |'c'=>.str `Lean.Parser.Tactic v
   |_=>ZqI v),#[])::S
  |')'=>match S with
   |(k,a)::S=>f (.node .none k a) S
   |[]=>[]
  |'\''=>f (.atom .none u) S
  |'.'=>f (.ident .none u.toRawSubstring (if u=="" then .anonymous else ZqI u) []) S
  |'?'=>f .missing S
  |_=>S) [(.anonymous,#[])]
 match r with
 |(_,a)::_=>a
 |[]=>#[]
def ZqB (cs:Array Lean.Syntax):ZqT:=cs.foldl (λ D c=>let b:=c[2]
  let p:=c[1].getArgs
  let q:=p.map (·.getId)
  D.insert c[0].getId (if b.isOfKind ``Lean.Parser.Term.byTactic then (1,q,b[1][0][0].getArgs) else if b.isOfKind ``Lean.Parser.Term.hole then (0,#[],p) else (0,q,#[b]))) (Std.HashMap.emptyWithCapacity 4096)
def ZqE (D:ZqT) (cs:Array Lean.Syntax):Array Lean.Syntax:=cs.flatMap λ c=>(ZqG D 100000 [] c).map (ZqC 9)
local macro_rules
|`(mutual $cs* end)=>do
 if !cs[0]!.raw.isOfKind ``Lean.Parser.Command.section then Lean.Macro.throwUnsupported
 return .node .none Lean.nullKind (ZqE (ZqB (ZqP ZqD)) (cs.map (·.raw)))
mutual
section
namespace L2
open PySem PySem.Spec PyProof.Rows
noncomputable abbrev Key:=Sum Int Str
abbrev wa:Key->EG Bool
 |aq k,v=>Value.isInt k v
 |aA x,v=>Value.isStrOf x v
abbrev a2j(w:World):Key->Int
 |aq k=>hashInt k
 |aA x=>hashStr w x
def fw:∀DC aeY,aO (wa k v)->(∃i t,k=Sum.inl i/\v=VJ t)\/(∃x t,k=Sum.inr x/\v=VK x)
 |aq i,v,h=>by
  rw[e8 t e (Value.isInt_shape (k:=i) (v:=v) h) (aq (tQ i t e))]
 |aA x,v,h=>by
  rw[e8 t e (Value.isStrOf_shape (x:=x) (v:=v) h) (aA (tQ x t e))]
def aTp pg(t:Tok):aO (wa (aq i) (η i t)):=fQ wa Value.isInt
def aTl nc(t:Tok):aO (wa (aA x) (Ω x t)):=fQ wa Value.isStrOf
def aYH(a b:Int):fC (arQ:Key) arR=(a == b):=by
 rw[EM a b]
 ·rw[B5 e]
 ·have h:¬(arQ:Key)=arR:=λq=>e (Sum.inl.inj q);rw[gh aAb (beq_eq_false_iff_ne.mpr e).symm]
def aYC(a b:Str):fC (Sum.inr a:Key) (Sum.inr b)=fC a b:=by
 rw[EM a b]
 ·rw[B5 e]
 ·have h:¬(Sum.inr a:Key)=Sum.inr b:=λq=>e (Sum.inr.inj q);rw[aAb,aNa]
def X1(a:Int)(b:Str):arI (arQ:Key) (Sum.inr b):=decide_eq_false (λq=>nomatch q)
def X2(a:Str)(b:Int):arI (Sum.inr a:Key) arR:=decide_eq_false (λq=>nomatch q)
abbrev CZ ax6:PySem.KeyKind prog w Key where
 is:=wa
 hash:=a2j w
 inj:=λv a b ha hb=>by
  rcases fw ha with⟨i,t,rfl,rfl⟩ | ⟨x,t,rfl,rfl⟩
  ·rcases fw hb with⟨j,u,rfl,e⟩ | ⟨y,u,rfl,e⟩
   ·rw[ş e e1];rw[e1]
   ·rw[aBw]
  ·rcases fw hb with⟨j,u,rfl,e⟩ | ⟨y,u,rfl,e⟩
   ·rw[aBw]
   ·rw[ş e e1];rw[e1]
 byValue:=λk v h=>by
  rcases fw h with⟨i,t,rfl,rfl⟩ | ⟨x,t,rfl,rfl⟩<;>rfl
 pyHash:=λhv h=>by
  rcases fw hv with⟨i,t,rfl,rfl⟩ | ⟨x,t,rfl,rfl⟩
  ·exact wpAny_pyHash_int h
  ·exact wpAny_pyHash_str h
 eqBool:=λhu hv h=>by
  rcases fw hu with⟨i,t,rfl,rfl⟩ | ⟨x,t,rfl,rfl⟩
  ·rcases fw hv with⟨j,u,rfl,rfl⟩ | ⟨y,u,rfl,rfl⟩
   ·rw[Cn aYH (wpAny_eqBool_int h)]
   ·rw[Cn X1 (SeqAt.EqAt.int_str i t y u _ _ _ _ h)]
  ·rcases fw hv with⟨j,u,rfl,rfl⟩ | ⟨y,u,rfl,rfl⟩
   ·rw[Cn X2 (SeqAt.EqAt.str_int x t j u _ _ _ _ h)]
   ·rw[Cn aYC (wpAny_eqBool_str h)]
 «strs»:=λk x t v h=>by
  rcases fw h with⟨i,u,rfl,e⟩ | ⟨y,u,rfl,e⟩
  ·rw[aBw]
  ·rw[ş e e1];subst e1;cases v<;>rfl
def aRv ax6 pg(t:Tok):aO ((CZ prog w).is (aq i) (η i t)):=aTp i t
def aRw ax6 nc(t:Tok):aO ((CZ prog w).is (aA x) (Ω x t)):=aTl x t
universe L2
namespace L2
open PySem PySem.Spec PyProof.Rows
inductive V where
 |bb | ah(b:Bool) | int pg | str nc | abS(b:Array UInt8) | Tv(b:UInt64) | ref rj | ty(n:String)
 deriving DecidableEq
abbrev RelV:V->cO Value
 |.bb,u=>u=Value.none
 |.ah b,u=>u=Value.bool b
 |η i,u=>∃t,u=VJ t
 |Ω x,u=>∃t,u=VK x
 |.abS b,u=>∃t,u=Value.bytes b t
 |.Tv b,u=>∃t,u=aBM b
 |Δ a,u=>u=Eo
 |.ty n,u=>u=Value.type n
noncomputable abbrev Vals:cH->cO cC:=Paired RelV
def Vals.length Go(r:vp):Ţ us.length:=aAx
def Vals.get:∀Go gx{x:V},vp->Ai->∃u,jk us u/\w4 x
 |_,_,_,_,cW,e=>K0 e
 |_,_,0,_,bN r _,e=>by rw[Lh e e];exact x6 r
 |_,_,i+1,x,bN _ t,e=>by
  rw[L0 u (Vals.get (i:=i) (x:=x) t (bh e)) u (bh h1) h2]
def Vals.set{x:V}qo(r:w4 x):∀Go g!,vp->Io (xs.set i x) (us.set i u)
 |_,_,_,cW=>cW
 |_,_,0,bN _ t=>bN r t
 |_,_,i+1,bN q t=>bN q (Vals.set r i t)
def Vals.append:∀{xs ys:cH}{us ws:cC},vp->Vals ys ws->Io (xs++ys) (us++ws)
 |_,_,_,_,cW,s=>s
 |_,_,_,_,bN r t,s=>bN r (Vals.append t s)
def Vals.take:∀Go dS,vp->Io (xs.take n) (us.take n)
 |_,_,0,_=>cW
 |_,_,_+1,cW=>cW
 |_,_,n+1,bN r t=>bN r (Vals.take n t)
def Vals.drop:∀Go dS,vp->Io (xs.drop n) (us.drop n)
 |_,_,0,r=>r
 |_,_,_+1,cW=>cW
 |_,_,n+1,bN _ t=>Vals.drop n t
abbrev sE:GY->cO fO
 |fq,dD=>nF
 |none,none=>True
 |_,_=>False
abbrev jS o?:DQ->cO aN8:=Paired fun(p:κ×V) (q:κ×Value)=>p.1=q.1/\RelV p.2 q.2
abbrev kV:Key->V
 |aq i=>η i
 |aA x=>Ω x
inductive je where
 |lst J8
 |tup J8
 |bA(kvs:qq) | dT(kvs:atA)
 |set(S:aoK)dS
 |ins(C dx:Addr)(fs:BS)
 |own(x:Addr)
 |alM(fs:BS)
 |met(f x:Addr)
 |q6(lo hi:Int)
 |cw(o:Obj)(u:je)
 |jx(ps:QM)
 |ext(φ:ay3)
noncomputable abbrev aM:=w5 Addr je
abbrev upd Of(o:je):aM:=Ma b b a b8 (H b)
def h! iV iB{o:je}:upd H a o a=b8:=by rw[dJ upd gK]
def uM afm{o:je}(h:b≠a):upd H a o b=H b:=by rw[dJ upd D!]
def aZ5 afm{o u:je}(h:H a=b8)(h':H b=dD)(d:o≠u):a≠b:=by
 intro e;rw[ahS e h h' (d (Option.some.inj h'))]
def vZ afm{o:je}(h:H a=b8)(h':j3):a≠b:=by
 intro e;rw[zz e h h'];cases h'
section
variable (P:Program) (w:World)
abbrev uc jU DN rj:cO je
 |ς xs=>KL/\∃(cb:cC) (n:Nat),WK/\rD=ajX (lP cb.toArray n)
 |aV xs=>KL/\∃cb:cC,WK/\IsTup h a cb.toArray
 |.bA kvs=>Qz/\Ho a/\∃vs,XR/\h.DictOf (CZ P w) a vs
 |.dT kvs=>Qz/\Ho a/\∃xs:aox,
   Paired (fun(p:tu×V) (q:tu×Addr×Value)=>p.1=q.1/\H q.2.1=xZ (p.1.map kV)/\RelV p.2 q.2.2) kvs xs ∧
   ∃o es ep,rD=b8/\o.ExactDict/\o.data=.dict es ep/\es.toList=xs.map (entryOfKey (aiu P w))/\gC (xs.map (·.1))
 |iG S n=>h.SetOf (intKind P w) a S n
 |cQ C dx fs=>H dx=y_ a/\aB4 1000/\dx≠a/\rD=aN (aAL C) ∧
   ∃mA,asK dx/\(∀f,sE QN (mA f))/\aAy ap9
 |.own _=>∃o,rD=b8
 |.alM fs=>∃mA,asK a/\∀f,sE QN (mA f)
 |.q6 lo hi=>∃t u v,rD=Vt (ee "range") (i0 #[η lo t,η hi u,η 1 v])
 |.cw o u=>rD=b8/\uc H h a u
 |.jx ps=>rD=Vt cG (i0 ps)
 |.met f x=>rD=azd (Δ f) (Δ x)
 |.ext φ=>φ h/\(∃o,rD=b8)/\∀h1 h2:Heap,φ h1->(∀o,h1.get? a=b8->h2.get? a=b8)->φ h2
abbrev SN jU DN:Prop:=∀a o,H a=b8->uc P w H h a o
universe zE
section
variable {P:Program}{w:World}{H H':aM}{h h':Heap}{a:Addr}{o:je}
def uc.lt(x:uc P w H h a o):aB8 a:=by
 cases o with
 |lst xs=>obtain⟨_,_,_,_,e⟩:=x;exact mj
 |tup xs=>rw[aph p x p.lt]
 |bA kvs=>rw[Ñ e x];exact mj
 |dT kvs=>rw[Ñ e x];exact mj
 |set S n=>rw[aAh e x];exact mj
 |ins C dx fs=>obtain⟨_,_,_,e,_⟩:=x;exact mj
 |own y=>obtain⟨_,e⟩:=x;exact mj
 |alM fs=>obtain⟨_,⟨_,_,_,e,_⟩,_⟩:=x;exact mj
 |q6 lo hi=>rw[aph e x mj]
 |cw ob u=>obtain⟨e,_⟩:=x;exact mj
 |jx ps=>exact Heap.lt_size (kS rD vo x)
 |met f y=>exact Heap.lt_size (kS rD vo x)
 |ext φ=>obtain⟨_,⟨_,e⟩,_⟩:=x;exact mj
def Paired.aHG sP{F G:α->cO β}:∀{l₁:ry}{l₂:List β},Paired F l₁ l₂->(∀a b,F a b->G a b)->Paired G l₁ l₂
 |_,_,cW,_=>cW
 |_,_,bN r t,f=>bN (f _ _ r) (Paired.aHG t f)
def uc.wb(x:uc P w H h a o)(k:∀b u,(b=a\/H b=y_ a)->s4=dD->rz=dD)
  (ho:∀b,H b=y_ a->H' b=y_ a)(ht:∀b xs,H b=vq->H' b=vq):uc P w H' h' a o:=by
 induction o with
 |lst xs=>rw[xr z cb n r e x z cb n r (k _ _ (aq rfl) e)]
 |tup xs=>rw[UT z cb r ob e c x ⟨z,cb,r,ob,k _ _ (aq rfl) e,c⟩]
 |bA kvs=>obtain⟨z,y,vs,r,ob,es,ep,e,c⟩:=x;exact⟨z,y,vs,r,ob,es,ep,k _ _ (aq rfl) e,c⟩
 |dT kvs=>
  obtain⟨z,y,xs,r,ob,es,ep,e,c⟩:=x;exact⟨z,y,xs,ap5 r p q z ⟨z.1,ht _ _ z.2.1,z.2.2⟩,ob,es,ep,k _ _ (aq rfl) e,c⟩
 |set S n=>rw[UT ob es ep t e c x ⟨ob,es,ep,t,k _ _ (aq rfl) e,c⟩]
 |ins C dx fs=>
  obtain⟨d,z,ne,e,mA,⟨od,es,ep,e2,c⟩,r⟩:=x;exact⟨ho _ d,z,ne,k _ _ (aq rfl) e,mA,⟨od,es,ep,k _ _ (aA d) e2,c⟩,r⟩
 |own y=>rw[mq ob e x ob (k _ _ (aq rfl) e)]
 |alM fs=>obtain⟨mA,⟨od,es,ep,e,c⟩,r⟩:=x;rw[bC mA ⟨od,es,ep,k _ _ (aq rfl) e,c⟩ r]
 |q6 lo hi=>rw[LH t u v e x t u v (k _ _ (aq rfl) e)]
 |cw ob u ih=>rw[mq e q x (k _ _ (aq rfl) e) (ih q)]
 |jx ps=>
  have e:rD=Vt cG (i0 ps):=x;rw[Pn (ĩ=Vt cG (i0 ps)) (k a _ (aq rfl) e)]
 |met f y=>
  have e:rD=azd (Δ f) (Δ y):=x;rw[Pn (ĩ=azd (Δ f) (Δ y)) (k a _ (aq rfl) e)]
 |ext φ=>obtain⟨p,⟨o,e⟩,st⟩:=x;rw[bC (st _ _ p λo q=>k _ _ (aq rfl) q) ⟨o,k _ _ (aq rfl) e⟩ st]
def SN.lt(x:PZ)(e:H a=b8):aB8 a:=(x a o e).lt
def SN.fresh(x:PZ)(e:aA9 a):ow a:=by
 cases q:H a with
 |none=>rfl
 |some u=>rw[se (afS (x.lt q) e) ý]
def SN.kept(x:PZ)anF:EU H h':=λa o e=>
 (x a o e).wb (λb u _ q=>k b u q) (cK q q) λ_ _ q=>q
def SN.laid(x:PZ)anF(hp:aA9 a)(new:uc P w (BU a) h' a o):EU (BU a) h':=λb u e=>by
 have hn:=x.fresh hp;rw[vj (b=a)]
 ·rw[PK e];cases e;exact new
 ·rw[E0]at e
  exact(x b u e).wb (λc v _ q=>k c v q) (λc q=>by rw[Jc hn]) (vU c q (by rw[Jc hn]))
universe zE
abbrev uD Of(u:je):Prop:=H a=dD\/∃o,H a=uW .cw u
def uD.ok wL iV sS iB{u:je}(r:uD H a u)(x:PZ):uc P w H h a u:=by
 rcases r with r | ⟨o,r⟩
 ·exact x a u r
 ·obtain⟨_,q⟩:=x a _ r;exact q
abbrev aw5:cO (Option je)
 |kQ _=>True
 |d7 .bA _=>True
 |d7 .dT _=>True
 |rL iG _ _=>True
 |aN (cQ _ _ _)=>True
 |d7 .ext _=>True
 |_=>False
section
variable {P:Program}{w:World}{H:aM}{h h':Heap}{x e:Addr}{o':je}
def SN.write Kn ayk aJk
  (new:uc P w (qE x o') h' x o'):EU (qE x o') h':=λb u q=>by
 rw[bq aNC (∀c y,H c=y_ y->c≠x) (λc y r z=>by rw[ahS z r C6 C6]) a2k (∀c xs,H c=vq->c≠x) (λc xs r z=>by rw[ahS z r C6 C6])]
 rw[vj (b=x)]
 ·rw[PK q];cases q;exact new
 ·rw[E0]at q;by_cases JY:b=e
  ·rw[s9 q' (H b=y_ x) (by
    rcases he with z | z
    ·rw[se (JY.trans z) hb]
    ·rw[az JY z]) q q'];cases q';rw[mq v hv akC v (by rw[az JY hv])]
  ·refine(ok b u q).wb (λc v hc r=>k c v ?_ r) (λc r=>by rw[gT (aNC c b r) r]) (vU c r (by rw[gT (a2k c xs r) r]))
   rcases hc with rfl | hc
   ·exact JY
   ·rintro rfl;rcases he with z | z
    ·exact aNC c b hc z
    ·rw[hc]at z;cases z;exact hb rfl
universe zE
structure iA(fs ex:cz)(H H':aM)(h h':Heap):Prop where
 keep:∀b o,s4=b8->j3->b∉fs->b∉ex->rz=b8
 slot:∀b o,s4=b8->j3->b∈fs->b∉ex->Ao sl rz { o with slots:=sl}
 free:∀b o,s4=b8->j3->b∉ex->G4 b
 there:∀b o,s4=b8->b∉ex->Ao o' rz o'
 qd:∀b xs,H b=vq->H' b=vq
 ox:∀b o u,H b=uW .cw u->H' b=uW .cw u
 qe:∀b ps,H b=d7 .jx ps->∃more,H' b=Ex .jx (ps++more)
section
variable {fs Pm ex ex':cz}{H H1 H2:aM}{h h1 h2 h':Heap}{a x e:Addr}{o:je}
def iA.any(u:iA fs ex H H1 h h1){b:Addr}{ob:Obj}(q:cE s4 ob)(n:j3)(hx:b∉ex):Ao sl arX { ob with slots:=sl}:=by
 rw[vj (b∈fs)]
 ·exact u.slot b ob q n hb hx
 ·rw[b7 ob.slots (u.keep b ob q n hb hx)]
def iA.trans(a:iA fs ex H H1 h h1)(b:iA fs ex H1 H2 h1 h2):iA fs ex H H2 h h2 where
 keep:=λc ob q n hc hx=>b.keep c ob (a.keep c ob q n hc hx) (a.free c ob q n hx) hc hx
 slot:=λc ob q n hc hx=>by
  rw[agQ sl e1 (a.slot c ob q n hc hx) A2 e2 (b.slot c _ e1 (a.free c ob q n hx) hc hx) A2 e2]
 free:=λc ob q n hx=>by
  rw[e8 o' e1 (a.there c ob q hx) (b.free c o' e1 (a.free c ob q n hx) hx)]
 there:=λc ob q hx=>by
  rw[e8 o' e1 (a.there c ob q hx) (b.there c o' e1 hx)]
 qd:=vU c q (b.qd c xs (a.qd c xs q))
 ox:=λc ob xs q=>b.ox c ob xs (a.ox c ob xs q)
 qe:=λc ps q=>by
  rw[agQ m1 e1 (a.qe c ps q) m2 e2 (b.qe c _ e1) (m1++m2) (azj e2)]
def iA.kept anF:iA fs ex H H h h':=
 ⟨λb ob q _ _ _=>k b ob q,λb ob q _ _ _=>⟨ob.slots,k b ob q⟩,λ_ _ _ n _=>n,λb ob q _=>⟨ob,k b ob q⟩,λ_ _ q=>q,j5 q q,aa7 _ ps q (by rw[gp q])⟩
def iA.refl:iA fs ex H H h h:=iA.kept λ_ _ q=>q
def iA.laid anF(hp:aA9 a)(hn:ow a):iA fs ex H (BU a) h h' where
 keep:=λb u q _ _ _=>k b u q
 slot:=λb u q _ _ _=>⟨u.slots,k b u q⟩
 free:=λb u q n _=>by rw[gT (pN (apD q hp)) n]
 there:=λb u q _=>⟨u,k b u q⟩
 qd:=vU b q (by rw[Jc hn])
 ox:=λb u xs q=>by rw[Jc hn]
 qe:=aa7 b ps q (by rw[uM (vZ q hn),q];simp)
def iA.write ayk aJk:iA fs ex H (BU x) h h':=by
 rw[gM hx (∀b,j3->b≠x) (λb n z=>by rw[ahS z n C6 C6]) hb (∀b,j3->b≠e) (λb n z=>by
  subst z;rcases he with r | r
  ·exact hx b n r
  ·rw[n]at r;cases r) hm (∀b u,H b=dD->¬aw5 dD->b≠x) (λb u q nm z=>by rw[ahS z q C6 (nm C6)])]
 refine⟨λb u q n _ _=>k b u (hb b n) q,λb u q n _ _=>⟨u.slots,k b u (hb b n) q⟩,λb u q n _=>by rw[gT (hx b n) n],jj b u q _,
  vU b q (by rw[gT (hm b _ q (c9 z)) q]),λb u xs q=>by rw[gT (hm b _ q (c9 z)) q],aa7 b ps q (by rw[uM (hm b _ q (c9 z)),q];simp)⟩
 by_cases JY:b=e
 ·rw[fz JY akC]
 ·rw[b7 u (k b u JY q)]
universe zE
abbrev NM DN jU:cz:=(azf).filter λa=>tE (H a)
abbrev ad1 DN jU:Heap:=PySem.W.hideAll h (NM h H)
def aTm DN jU:Ru (ad1 h H)=h.objs.size:=PySem.W.hideAll_size _ _
def aUT sS iV ZK(e:s4=b8)(n:j3):(ad1 h H).get? b=b8:=
 ao6 e (λhm=>by
  have q:Ab (H b):=azn.2;rw[nt n q q])
def aXe sS iV ZK(e:(ad1 h H).get? b=b8):s4=b8/\j3:=by
 have e':s4=b8:=PySem.W.of_hideAll (NM h H) e;rw[fy e' ?_];cases q:H b with
 |none=>rfl
 |some x=>
  rw[bq hm (b∈NM h H) (aMj (Heap.lt_size e') (aK q)) z (b9 ((ad1 h H).get? b)) (PySem.W.hideAll_none (NM h H) hm)];rw[z]at e;cases e
abbrev aXf(g h:Heap)(L:Addr):gG:=(azf).filterMap λa=>if a=L\/Ab (g.get? a) then none else(rD).map λo=>(a,o)
abbrev rest(g h:Heap)(L d:Addr):gG:=(aXf g h L).filter (oE p p.1 d)
universe L2
namespace L2
open PySem PySem.Spec PyProof.Rows
structure Mod TV:Prop where
 acy:arZ
 glob:api mg
 blt:∃mb,base.Ns builtinsNs mb/\∀x:Str,aCu -> mb x=Kx
 nolimit:base.NoLimit
structure bT where
 prog:Program
 w:World
 K:eY
 mg:Str->fO
 base:Heap
 A:Around
 N:gz
 s₀:Shared
 H₀:aM
 env:Env
 outer:DR
 stack:DR
 ex:cz
 fn:tO Str
 calm:Bool
 fJ:gG
 qZ:iD
abbrev tm(l:DR):cz:=l.filterMap (·.frame)
noncomputable abbrev bT.fs fY:cz:=tm X.outer
abbrev aXM(sc:Scope)nc:Prop:=BO=Co \/ BO=oQ\/BO=Fb
abbrev Loc(sc:Scope)nc:Prop:=BO=Co \/ BO=oQ
abbrev Look(env:Env)DN(m:Str->fO)nc Gu:Prop:=
 (aBe=Co /\ m x=dD)\/((aBe=oQ\/aBe=Fb)/\∃c,VQ x/\h.IsCell c dD)
structure bT.Ok fY:Prop where
 mod:Mod X.K X.mg X.base
 kind:X.env.scope.kind=HH
 glob:X.env.globals=mainGlobals
 blt:X.env.builtins=builtinsNs
 above:abN X.env.locals
 inj:∀x y c,wZ=lK->X.env.cells.lookup y=lK->x=y
 has:∀x,(HM x oQ\/HM x Fb)->∃c,wZ=lK
 akm:∀x c,atD x->wZ=lK->abN c
 hd:XN->b9 X.A.handled
 frames:cE X.A.frames X.stack
 stk:X.stack=X.outer\/(X.stack=aaU/\aB2 aAc)
 aOj:GO X.ex (DY b/\∀x c,wZ=lK->c≠b)
 bs:∀b o,ag6=b8->aAM=b8/\b9 (X.H₀ b)
 Zw:X.base.objs.size≤X.s₀.heap.objs.size
 aen:∀b o,ag6=b8->b∉X.ex
 amY:GO X.ex (b∉X.fs)
 De:aLr X.outer
 Tw:GO X.fs (b9 (X.H₀ b))
structure Inv anJ(σ:zQ V)jU kP:Prop where
 ok:X.Ok
 os:s.os=X.s₀.os
 bare:aMX
 base:iA X.fs X.ex X.H₀ H X.s₀.heap s.heap
 loc:∃m,aMq m/\∀g! nc(v:V),abC->oK σ i v->aAz x->∃u,nF/\Look X.env s.heap m x u
 cell:∀x c,wZ=lK->∃v,s.heap.IsCell c v
 free:ow X.env.locals
 M_:∀x c,wZ=lK->ow c
 pin:jn (X.fJ++pins) (vC p.1 p.2/\ow p.1/\DY p.1/\p.1∉X.fs/\∀v,p.2.data≠.cell v)
 a_:â H s.heap
 len:σ.length=X.N.length
section
variable {X:bT}{pins:gG}{σ:zQ V}{H H':aM}{s:Shared}{h':Heap}
def bT.Ok.a2l(ok:X.Ok)ZK(e:ag6=b8):b∉X.fs:=λhb=>by
 rw[rV (ok.De.mem hb).1 e];cases this
def Inv.bs bQ:∀b o,ag6=b8->kr/\j3:=λb o e=>
 ⟨ag7 o (ar0 o e).1 (ar0 o e).2 (I.ok.a2l e) (I.ok.aen b o e),I0 (ar0 o e).1 (ar0 o e).2 (I.ok.aen b o e)⟩
def Inv.lX bQ:∀b o,ag6=b8->kr:=λb o e=>(I.bs b o e).1
def Inv.mod bQ:Mod X.K X.mg X.base:=I.ok.mod
def Inv.qY bQ:X.K.In s.heap:=I.ok.mod.acy.keeps I.lX
def Inv.fr bQ:∃m,Fr X.base X.env.locals s.heap m:=
 let⟨m,hn,_⟩:=I.loc
 ⟨m,hn,I.lX,aM2⟩
def Inv.lt bQ:Uy X.env.locals:=let⟨_,hn,_⟩:=I.loc;hn.lt
def Inv.sz bQ:abN s.heap.objs.size:=EA I.ok.above (Nat.le_of_lt I.lt)
def Inv.a2m bQ iB(h:aAY a):a∉X.fs:=λhb=>by
 obtain⟨_,o,ho,_⟩:=I.ok.De.mem hb;rw[se (apD ho (Nat.le_trans I.sz h)) ý]
def Inv.JZ bQ:∀x c,wZ=lK->DY c:=λx c e z=>by
 obtain⟨v,o,ho,hd⟩:=WA x e;obtain⟨m,⟨o',es,ep,wH,hd',_⟩,_⟩:=I.loc;rw[z,wH]at ho;cases ho;rw[hd']at hd;cases hd
def Inv.De bQ:azZ X.outer:=by
 rw[rZ all (∀(l:DR),(GO (tm l) (b∈X.fs))->aLr l->azZ l) (by
  intro l
  induction l with
  |nil=>intro _ _;trivial
  |cons env r ih=>
   intro hs hl;obtain⟨hk,⟨L,o,hf,hn,ho,hd⟩,hr⟩:=hl;have hL:L∈X.fs:=hs L (by rw[f5 tm List.filterMap_cons hf];exact List.mem_cons_self);rw[aa0 sl e (agl L ho (I.ok.Tw L hL) hL (c9 (I.ok.amY L z hL))) hk ⟨L,_,hf,hn,e,hd⟩ (ih (vV (hs b (by rw[f5 tm List.filterMap_cons hf];exact oN hb))) hr)]) (all X.outer (cK hb hb) I.ok.De)]
def Inv.stack bQ:azZ X.stack:=by
 rcases I.ok.stk with e | ⟨e,hf⟩
 ·rw[Cm I.De]
 ·rw[e];obtain⟨m,hn,_⟩:=I.loc;rw[tL (bN (by rw[I.ok.kind];decide) hf hn ?_ I.De) (Heap.get?_none_of_le aM2)]
def Inv.al7 bQ:GO LN (b∈X.env.locals::X.fs):=vV (by
 rcases I.ok.stk with e | ⟨e,hf⟩
 ·rw[bV e hb (oN hb)]
 ·rw[e]at hb;unfold tm at hb;rw[List.filterMap_cons,hf]at hb;exact hb)
def Inv.awc bQ:GO LN j3:=vV (by
 rcases List.mem_cons.mp (I.al7 b hb) with e | hb
 ·rw[Cm I.free]
 ·obtain⟨_,o,ho,_⟩:=I.ok.De.mem hb;exact I0 ho (I.ok.Tw b hb) (c9 (I.ok.amY b z hb)))
def Inv.step{g':aMW}Bd{d':Drawn}{ch:cz}bQ
  ayb
  (keep:∀b o,DY b->b∉X.fs->b∉ch->kr->j3->rz=b8)
  (slot:∀b o,DY b->b∈X.fs->b∉ch->kr->j3->Ao sl rz { o with slots:=sl})(free:∀b o,b∉ch->kr->j3->G4 b)
  (there:∀b o,b∉ch->kr->Ao o' rz o')
  (qd:∀b xs,H b=vq->H' b=vq)(ox:∀b o u,H b=uW .cw u->H' b=uW .cw u)(qe:∀b ps,H b=d7 .jx ps->∃more,H' b=Ex .jx (ps++more))
  (ns:∀m,aMq m->h'.Ns X.env.locals m)aJD:
  ė { s with heap:=h',gens:=g',drawn:=d',toks:=t'}:=by
 rw[gM aO0 (∀b o,aAM=b8->DY b) (λb o e=>arF mj) aup (∀b o,aAM=b8->b∉X.ex->b∉ch) (λb o e hx hb=>by
  rcases(NF b hb).1 with z | z
  ·exact hx z
  ·rw[se (ajQ z) ý]) cellK (∀x c,wZ=lK->∀v,s.heap.IsCell c v->h'.IsCell c v) (λx c e v ⟨o,ho,hd⟩=>by
  have ak5:c∉ch:=c9 ((NF c z).2.2.1 x c e rfl)
  by_cases hc:c∈X.fs
  ·rw[aa0 sl q (slot c o (I.JZ x c e) hc ak5 ho (OB c e)) _ q hd]
  ·rw[bC o (keep c o (I.JZ x c e) hc ak5 ho (OB c e)) hd])]
 refine⟨I.ok,I.os,hg,⟨PM b o e n,PM b o e n,mH o e n hx,yd e hx,vU b e (qd b xs (arf b e)),λb o xs e=>ox b o xs (agE b xs e),Va ps e⟩,?_,cP x c e,?_,cP x c e,Mh p,a_,I.len⟩
 ·exact keep b o (aO0 b o e) hb (aup b o e hx) (ag7 o e n hb hx) (I0 e n hx)
 ·rw[agQ sl e1 (agl b e n hb hx) A2 e2 (slot b _ (aO0 b o e) hb (aup b o e hx) e1 (I0 e n hx)) A2 e2]
 ·rw[e8 o' e1 (Ã o e hx) (free b o' (aup b o e hx) e1 (I0 e n hx))]
 ·rw[e8 o' e1 (Ã o e hx) (there b o' (aup b o e hx) e1)]
 ·rw[agQ m1 e1 (arh b e) m2 e2 (qe b _ e1) (m1++m2) (azj e2)]
 ·obtain⟨m,hn,hl⟩:=I.loc
  rw[eF m (ns m hn) (zc i x v e1 e2 e3)];obtain⟨u,r,l⟩:=hl i x v e1 e2 e3
  rw[eF u r ?_];rcases l with l | ⟨k,c,e,z⟩
  ·exact aq l
  ·exact aA ⟨k,c,e,cellK x c e _ z⟩
 ·rw[mq v z (WA x e) v (cellK x c e v z)]
 ·obtain⟨m,⟨o,_,_,ho,_⟩,_⟩:=I.loc;exact free _ o (c9 ((NF _ z).2.1 rfl)) ho I.free
 ·rw[QK v o ho hd (WA x e) (free c o (c9 ((NF c z).2.2.1 x c e rfl)) ho (OB c e))]
 ·obtain⟨e,n,ne,nf,d⟩:=IC hp;rw[An ak5 (p.1∉ch) (λz=>(NF p.1 z).2.2.2 p hp rfl) ⟨keep p.1 p.2 ne nf ak5 e n,free p.1 p.2 ak5 e n,ne,nf,d⟩]
def Inv.un Bd bQ(u:iA X.fs [] H H' s.heap h')(a_:â H' h'):WH H' s h':=by
 obtain⟨m,⟨o,es,ep,ho,r⟩,_⟩:=id I.loc
 rw[e8 sl hL (u.any ho I.free Ξ) (I.step (g':=s.gens) (d':=s.drawn) (ch:=[]) (zW z z) (λb o _ hb _ e n=>u.keep b o e n hb Ξ) (λb o _ hb _ e n=>u.slot b o e n hb Ξ) (λb o _ e n=>u.free b o e n Ξ) (λb o _ e=>u.there b o e Ξ) u.qd u.ox u.qe (λm' hm=>by
  obtain⟨o',es',atL,wH,r'⟩:=hm;rw[ho]at wH;cases wH
  exact⟨_,es',atL,hL,r'⟩) a_ I.bare)]
def Inv.call{g':aMW}Bd{d':Drawn}{ch:cz}bQ(u:iA LN ch H H' s.heap h')aJD
  ayb:
  ė { s with heap:=h',gens:=g',drawn:=d',toks:=t'}:=by
 obtain⟨m,⟨o,es,ep,ho,r⟩,_⟩:=id I.loc
 rw[e8 sl hL (u.any ho I.free (c9 ((NF _ z).2.1 rfl))) (I.step (ch:=ch) NF (λb o hL hb hc e n=>u.keep b o e n (c9 ((List.mem_cons.mp (I.al7 b z)).elim hL hb)) hc) (λb o _ _ hc e n=>u.any e n hc) (λb o hc e n=>u.free b o e n hc) (λb o hc e=>u.there b o e hc) u.qd u.ox u.qe (λm' hm=>by
  obtain⟨o',es',atL,wH,r'⟩:=hm;rw[ho]at wH;cases wH
  exact⟨_,es',atL,hL,r'⟩) a_ hg)]
def Inv.turned Bd{it:Addr}bQ(k:∀b o,b≠it->kr->rz=b8)(hn:ow it)(hL:DY it)
  (h1:it∈X.ex\/abN it)(h2:∀x c,wZ=lK->c≠it)(h3:jn (X.fJ++pins) (p.1≠it)):ahk s h' t':=by
 rw[dX NI (∀b u,H b=dD->b≠it) (λb u e z=>by rw[z,hn]at e;cases e) (I.step (g':=s.gens) (d':=s.drawn) (ch:=[it]) oJ (λb o _ _ hc e _=>k b o (c9 (hc (aK z))) e) (λb o _ _ hc e _=>aBu (k b o (c9 (hc (aK z))) e)) (λ_ _ _ _ n=>n)
  (λb o hc e=>⟨o,k b o (c9 (hc (aK z))) e⟩) (λ_ _ e=>e) (j5 e e) (aa7 b ps e (by rw[gp e])) (dz m hm) (Va u e) I.bare)]
 ·rw[zJ e (b=it) e];exact⟨h1,hL,h2,h3⟩
 ·rw[B0 o es ep ho hm o es ep (k _ o (Ne.symm hL) ho) r]
 ·refine(OC u e).wb (λc v hc q=>k c v ?_ q) (cK q q) λ_ _ q=>q;rcases hc with z | z
  ·rw[az z (NI b u e)]
  ·exact NI c _ z
def Inv.tok bQ(t:Nat):kq H (azE s t):=I.un (h':=s.heap) (t':=t) iA.refl I.a_
def Inv.kept Bd aJE:ahk s h' t':=I.un (iA.kept k) (I.a_.kept k)
def Inv.laid iB{o:je}Bd aJE(hp:aAY a)(new:Li (BU a) h' a o):
  WH (BU a) s h':=I.un (iA.laid k hp (I.a_.fresh hp)) (I.a_.laid k hp new)
def Inv.write{x e:Addr}{o:je}Bd bQ ayk(k:∀b u,b≠e->Kw u->rz=dD)(akC:∃u,h'.get? e=dD)
  (new:Li (BU x) h' x o):WH (BU x) s h':=I.un (iA.write C6 he k akC) (I.a_.write C6 he k akC new)
def Inv.weak{σ':zQ V}bQ(hl:σ'.length=σ.length)(w:∀g! v,oK σ' i v->oK σ i v):UA X σ' H s:=
 ⟨I.ok,I.os,I.bare,I.base,let⟨m,hn,hl'⟩:=I.loc;⟨m,hn,λi x v e1 e2 e3=>hl' i x v e1 (w i v e2) e3⟩,I.cell,I.free,I.M_,I.pin,I.a_,hl.trans I.len⟩
def Inv.aGZ{Ze:gG}bQ(h:jn Ze (vC p.1 p.2/\ow p.1/\DY p.1/\p.1∉X.fs/\∀v,p.2.data≠.cell v)):Inv X Ze σ H s:=
 ⟨I.ok,I.os,I.bare,I.base,I.loc,I.cell,I.free,I.M_,lR ((ao8).elim (c9 (IC (azh z))) (h p)),I.a_,I.len⟩
def avC{N:gz}(hN:N.Nodup){i j:Nat}d!(a:jk N x)(b:fP N j x):i=j:=by
 obtain⟨h1,e1⟩:=List.getElem?_eq_some_iff.mp a;rw[EB h2 e2 (List.getElem?_eq_some_iff.mp b) ((List.getElem_inj hN).mp aNj)]
def aFz aoe gx d! l! qo N6 bQ Kc anq(r:nF)
  (h:∀s',UA X (aiY fq) H s'->(∃a,aoM a s'.heap/\(a=X.env.locals\/cE wZ a))->Q () s')Z3:oq M A (storeName X.env x u) Q E:=by
 obtain⟨m,hn,hl⟩:=id I.loc
 rw[bq a2n (qI (afJ .class||(afJ .module&&X.env.locals != X.env.globals))) (by rw[I.ok.kind];rfl) hiσ (i < σ.length) (by rw[gh I.len (List.getElem?_eq_some_iff.mp hi).1])]
 rw[fS JZ I.JZ tracked (∀iB aeZ,(∃o,vC a o/\ow a)->aoM a h'->â H h') (λ{a h'} ha hs b ob e=>by
  obtain⟨_,_,aIk⟩:=ha;refine(OC ob e).wb (λc w' hc q=>Hp hs c ?_ q) (cK q q) λ_ _ q=>q;rintro rfl;rcases hc with rfl | hc
  ·rw[aIk]at e;cases e
  ·rw[aIk]at hc;cases hc)]
 rcases hx with hk | hk
 ·refine wpAny_storeName_local hk hn (B_ hn' hs) a2n;obtain⟨oL,_,_,a4q,_⟩:=id hn;refine h _ ⟨I.ok,I.os,I.bare,⟨PM b o e n,PM b o e n,I.base.free,yd e hx,I.base.qd,I.base.ox,I.base.qe⟩,⟨_,hn',zc j y v' e1 e2 e3⟩,cP y c e,I.free,I.M_,Mh p,tracked ⟨oL,a4q,I.free⟩ hs,bh I.len⟩ ⟨_,hs,aq rfl⟩
  ·exact Rr hs (arF mj) (ag7 o e n hb hx)
  ·rw[ķ sl e1 (agl b e n hb hx) sl hs (arF mj) e1]
  ·rw[ķ o' e1 (Ã o e hx) o' hs (arF mj) e1]
  ·by_cases hj:j=i
   ·rw[zz hj hi e1];cases e1;rw[Hr hiσ e2];cases e2;rw[bC u r (EV hk Ξ)]
   ·rw[KU (Ne.symm hj) e2];obtain⟨u',r',q⟩:=hl j y v' e1 e2 e3
    rw[eF u' r' ?_];rcases q with⟨k,e⟩ | ⟨k,c,e,z⟩
    ·refine aq (lM k);have:y≠x:=fD (hj (avC hN e1 (e▸hi)));simp[this,e]
    ·exact aA ⟨k,c,e,z.sameBut hs (JZ y c e)⟩
  ·rw[mq w' z (WA y e) w' (z.sameBut hs (JZ y c e))]
  ·rw[xr e n ne nf d (IC hp) (Hp hs p.1 ne e) n ne nf d]
 ·have hfn:atD x:=by
   rcases hf with z | z
   ·exact z
   ·rw[z]at hk;cases hk
  obtain⟨c,hc⟩:=I.ok.has x (aq hk);rw[BB w' z (WA x hc) (wpAny_storeName_cell I.ok.kind hk hc z (B_ mW hs))];rw[BE oc aOI a2o (id z) (h (tT s) ⟨I.ok,I.os,I.bare,⟨PM b o e n,PM b o e n,I.base.free,yd e hx,I.base.qd,I.base.ox,I.base.qe⟩,⟨m,hn.sameBut hs (Ne.symm (JZ x c hc)),zc j y v' e1 e2 e3⟩,cP y c' e,I.free,I.M_,Mh p,tracked ⟨oc,aOI,OB c hc⟩ hs,bh I.len⟩ ⟨c,hs,aA hc⟩)]
  ·exact Rr hs (pN (ajQ (I.ok.akm x c hfn hc))) (ag7 o e n hb hx)
  ·rw[ķ sl e1 (agl b e n hb hx) sl hs (pN (ajQ (I.ok.akm x c hfn hc))) e1]
  ·rw[ķ o' e1 (Ã o e hx) o' hs (pN (ajQ (I.ok.akm x c hfn hc))) e1]
  ·by_cases hj:j=i
   ·rw[zz hj hi e1];cases e1;rw[Hr hiσ e2];cases e2;rw[bC u r (aA ⟨aq hk,c,hc,mW⟩)]
   ·rw[KU (Ne.symm hj) e2];obtain⟨u',r',q⟩:=hl j y v' e1 e2 e3
    rw[eF u' r' ?_];rcases q with q | ⟨k,c',e,z'⟩
    ·exact aq q
    ·refine aA ⟨k,c',e,z'.sameBut hs ?_⟩;rintro rfl;exact hj (avC hN e1 (I.ok.inj _ _ _ e hc▸hi))
  ·by_cases Tz:c'=c
   ·subst Tz;rw[g4 mW]
   ·rw[mq w2 z2 (I.cell y c' e) w2 (z2.sameBut hs Tz)]
  ·obtain⟨e,n,ne,nf,d⟩:=IC hp;refine⟨Hp hs p.1 ?_ e,n,ne,nf,d⟩;intro q;rw[q,aOI]at e;rw[rZ q' (oc=p.2) aAd (d w' (by rw[b! q' a2o]))]
def wd aoe gx d! l! qo N6 bQ Kc anq(r:nF)
  (h:∀s',UA X (aiY fq) H s'->Q () s')Z3:oq M A (storeName X.env x u) Q E:=
 aFz I hN hi hx r (λs' I' _=>h s' I') hf
def Inv.aIl{s':Shared}{ch:cz}bQ(ho:s'.os=s.os)(u:iA LN ch H H' s.heap s'.heap)(a_:â H' s'.heap)(hg:þ)
  ayb:Ow:=by
 obtain⟨h',g',d',t',o'⟩:=s';have e:o'=s.os:=ho;rw[fz e (I.call (g':=g') (t':=t') (d':=d') u a_ hg NF)]
universe zE
noncomputable abbrev d_:=EG (X3->dW)
noncomputable abbrev St:=zQ V
noncomputable abbrev aeI:=V->dW
noncomputable abbrev TE:=St->aM->jA
noncomputable abbrev lF:=St->aM->cO (Bool->dW)
noncomputable abbrev mZ:=St->aM->cO (cH->dW)
structure Ends where
 nx:St->dW
 fk:aeI
 lX:St->dW:=CT
 ct:St->dW:=CT
noncomputable abbrev m5:=Ends->St->dW
abbrev aFp aoq yT Gu Kd:Prop:=∃v H',Ow/\nF/\nJ v
abbrev amV aoq afp(b:Bool)Kd:Prop:=∃H',Ow/\nJ b
abbrev aES aoq(Q:cH->dW)Bg Kd:Prop:=∃vs H',Ow/\OS/\nJ vs
abbrev aeB anJ(D:Ends)(f:Flow)Kd:Prop:=
 match f with
 |.next=>∃σ' H',PF X/\D.nx σ' H'
 |.brk=>∃σ' H',PF X/\D.lX σ' H'
 |.cont=>∃σ' H',PF X/\D.ct σ' H'
 |.ret u=>∃v σ' H',PF X/\nF/\D.fk v H'
abbrev Dn fY T?(t:TE):Prop:=
 ∀n? yT,iO->t σ H Q->Ŵ (lJ e) X Q
abbrev uC fY T?(t:lF):Prop:=
 ∀n? afp,iO->t σ H Q->j7 (ari e (lJ e)) (amV X pins σ Q) s
abbrev PW fY T?(t:lF):Prop:=
 ∀(whole:agM)n? afp,iO->t σ H Q->j7 (ari e whole) (amV X pins σ Q) s
def PW.pt lG Ko{t:lF}(h:PW X e t):uC X e t:=h _
abbrev o8 fY(es:dF)(t:mZ):Prop:=
 ∀(pos:Pos)n?(Q:cH->dW),iO->t σ H Q->j7 (spliced (PU es)) (aES X pins σ Q) s
abbrev n7 fY(st:Stmt)(t:m5):Prop:=
 ∀n?(D:Ends),iO->t D σ H->j7 (exec st X.env) (aeB X pins D) s
abbrev ux fY(st:yY)(t:m5):Prop:=
 ∀n?(D:Ends),iO->t D σ H->j7 (execs st X.env) (aeB X pins D) s
def X! gb{t:Sem α}{Q Q':α->Bt}aoe m8(h:wpAny M A t Q E s)(hQ:∀a s,Q a s->Q' a s):wpAny M A t Q' E s:=KX h hQ _ _ x x
universe L2
namespace L2
open PySem PySem.Spec PyProof.Rows
section
variable {X:bT}
def bin{a b:Expr}{ta tb:TE}N5 Oa m8 yQ{R:V->V->dW}bQ aIY
  gb{Q:α->Bt}{f:EG (EG (Sem α))}
  aJc:
  MH (lJ a) v s₁ (j7 (lJ b) (λu s₂=>j7 (f v u) Q s₂) s₁):=by
 rw[ff (aib s H _ I h v x) (Me (PR _) u ⟨y,H2,bk,r2,aZ⟩)];exact hf v u s2 x y H2 bk r1 r2 aZ
abbrev a2p g!:TE:=vm (∃v,oK σ i v/\Q v H)
abbrev adf(v:V):TE:=λ_ H Q=>Q v H
def aYD gx d! DM(hN:abC)(hv:aAz x)aIT:pX (cU x pos) (a2p i):=by
 rw[I5 s H Q h];rw[Hw v e h h m hn hl I.loc];rw[HP u r l (hl i x v hN e hv) fin (Px X Q u s) ⟨v,H,I,r,h⟩];rcases l with⟨hk,hm⟩ | ⟨hk,c,hc,SZ⟩
 ·exact wpAny_Name (wpAny_loadName_local I.ok.kind hk hn hm fin) hd
 ·rcases hk with hk | hk
  ·exact wpAny_Name (wpAny_loadName_cell I.ok.kind hk hc SZ fin) hd
  ·exact wpAny_Name (wpAny_loadName_free I.ok.kind hk hc SZ fin PQ) hd
def aYE{i j pos}:VX (Cw (η i) j pos) (η i):=λ_ _ _ H _ I h=>wpAny_Constant_int (OA (η i) H h)
def aZ6{b j pos}:VX (Cw (pM b) j pos) (.ah b):=λ_ _ _ H _ I h=>Constant_bool (z9 .ah b I h)
def aYF{j pos}:VX (Cw cG j pos) .bb:=λ_ _ _ H _ I h=>Constant_none (iX .bb H I h)
def aHH{x j pos}:VX (Cw (Ω x) j pos) (Ω x):=λ_ _ _ H _ I h=>Calls.Constant_str (OA (Ω x) H h)
abbrev Nt fY nc:Prop:=HM x (some .globalImplicit)
def alL{E:iD}Oa m8 yQ d! qo DM ro bQ aKA(h:Q u s)
  Ba:abb (lJ (cU x pos)):=
 Calls.Name_function_global I.ok.kind hg (Calls.loadGlobal_global (by rw[az I.ok.glob azs]) hm h) hd
def adz{E:iD}Oa m8 yQ d! qo DM ro bQ anr(hv:Kx=dD)(h:Q u s)
  N3 Ba:abb (lJ (cU x pos)):=by
 rw[QG mb h1 h2 I.mod.blt (Calls.Name_function_global I.ok.kind hg (Calls.loadGlobal_builtin (by rw[az I.ok.glob azs]) hm (by rw[az I.ok.blt (h1.keeps I.lX)]) (eV (h2 x hn) hv) h) hd)]
def aG0 d! l! qo DM aKA(r:nF)Ba:VX (cU x pos) v:=
 λ_ _ _ H _ I h=>alL I hg hm ⟨v,H,I,r,h⟩ hd
def aG1 d! l! qo DM anr(hv:Kx=dD)(r:nF)N3 Ba:VX (cU x pos) v:=
 λ_ _ _ H _ I h=>adz I hg hm hv ⟨v,H,I,r,h⟩ hn hd
variable {a b:Expr}{ta tb:TE}{pos:Pos}
variable {tA auX:lF}{rest:dF}
abbrev a2a(t u:lF):lF:=LX H c (pT c (u σ H1 Q) (Q false H1))
abbrev a5a(t u:lF):lF:=LX H c (pT c (Q true H1) (u σ H1 Q))
abbrev a2b(t:lF):lF:=LX H c (Q (! c) H1)
def aXg afj:PW X (mz .And [a] pos) tA:=by
 intro adu pins s σ H Q I h;refine isTrue_and (mF (ha pins s σ H Q I h) c e);cases c with
 |true=>exact isTrue_and_nil e
 |false=>exact e
def aYG afj:PW X (mz .Or [a] pos) tA:=by
 intro adu pins s σ H Q I h;refine isTrue_or (mF (ha pins s σ H Q I h) c e);cases c with
 |false=>exact isTrue_or_nil e
 |true=>exact e
def aY4 afj(hb:PW X (mz .And tX pos) auX):PW X (mz .And (a::tX) pos) (a2a tA auX):=by
 intro adu pins s σ H Q I h;refine isTrue_and (mF (ha pins s σ H _ I h) c ⟨H1,aF,aB⟩);cases c with
 |true=>exact hb adu pins s1 σ H1 Q aF aB
 |false=>rw[bC H1 aF aB]
def aZ7 afj(hb:PW X (mz .Or tX pos) auX):PW X (mz .Or (a::tX) pos) (a5a tA auX):=by
 intro adu pins s σ H Q I h;refine isTrue_or (mF (ha pins s σ H _ I h) c ⟨H1,aF,aB⟩);cases c with
 |true=>rw[bC H1 aF aB]
 |false=>exact hb adu pins s1 σ H1 Q aF aB
def aY5 afj:uC X (asJ .Not a pos) (a2b tA):=by
 rw[RN s H Q I h (isTrue_not (Om s H (nB c (Q (! c) H1)) I h))]
abbrev a0O anS:TE:=Ot H x (∃c,x=.ah c/\pT c (tb σ H1 Q) (Q (lO .ah) H1))
abbrev a2c anS:TE:=Ot H x (∃c,x=.ah c/\pT c (Q (fT .ah) H1) (tb σ H1 Q))
def aY6{op}{t:TE}(h:kg a t):kg (mz op [a] pos) t:=RY s σ H Q I hw (BoolOp_one (Ő s σ H Q I hw))
def aY7(ha:akd)(hb:kg (mz .And tX pos) tb):pX (mz .And (a::tX) pos) (a0O ta tb):=by
 rw[r8 Q (BoolOp_and (aib s H _ I h v x))];rw[eS c aB aB];cases r1;rw[azA ?_];cases c with
 |true=>exact PR Q
 |false=>exact iX (lO .ah) H1 aF aB
def a0P(ha:akd)(hb:kg (mz .Or tX pos) tb):pX (mz .Or (a::tX) pos) (a2c ta tb):=by
 rw[r8 Q (BoolOp_or (aib s H _ I h v x))];rw[eS c aB aB];cases r1;rw[azA ?_];cases c with
 |false=>exact PR Q
 |true=>exact iX (fT .ah) H1 aF aB
abbrev a48(t:lF)anS:TE:=LX H c (pT c (ta σ H1 Q) (tb σ H1 Q))
def aUU{c:Expr}(hc:uC X c tA)N5:pX (.IfExp c a b pos) (a48 tA ta tb):=by
 rw[r8 Q (wpAny_IfExp (mF (hc pins s σ H _ I h) d ⟨H1,aF,aB⟩))];cases d with
 |true=>exact Om s1 H1 Q aF aB
 |false=>exact PR Q
universe zE
universe L2
namespace L2
open PySem PySem.Spec PyProof.Rows
abbrev iw dg Of J8:Prop:=
 uD H a (ς xs) ∨
  ∃(o:Obj) (cb:QM) (n:Nat),asj=b8/\o.cls=BF /\ b9 o.dict/\o.data=lP cb n/\jB cb.size/\Vals xs cb.toList
abbrev F5 dg Of J8:Prop:=
 uD H a (aV xs) ∨
  ∃(o:Obj) (cb:QM) (n:Nat),asj=b8/\o.cls=II /\ o.data=lP cb n/\jB cb.size/\Vals xs cb.toList
abbrev a2d:EG GY
 |cG=>Ag
 |pM b=>d7 .ah b
 |η i _=>qw
 |Ω x _=>Hy x
 |.bytes b _=>d7 .abS b
 |.float b _=>d7 .Tv b
 |Δ a=>jF a
 |ee n=>d7 .ty n
 |_=>none
def RelV.abs{x:V}qo(r:w4 x):a2d u=gB:=by
 cases x with
 |bb=>cases r;rfl
 |ah _=>cases r;rfl
 |int _=>rw[aaK r]
 |str _=>rw[aaK r]
 |abS _=>rw[aaK r]
 |Tv _=>rw[aaK r]
 |ref _=>cases r;rfl
 |ty _=>cases r;rfl
def RelV.inj{x y:V}qo(r:w4 x)(q:abw):x=y:=Option.some.inj (r.abs.symm.trans q.abs)
def Vals.inj:∀{xs ys:cH}Bh,vp->Qu ys->xs=ys
 |_,_,_,cW,cW=>rfl
 |_,_,_,bN r t,bN r' t'=>j0 (r.inj r') (Vals.inj t t')
section
variable {X:bT}{pins:gG}{σ:St}{H:aM}{s:Shared}{a:Addr}{xs ys:cH}
def iw.of j?(h:H a=gY):Jd:=aq (aq h)
def F5.of j?(h:H a=vq):CR K a:=aq (aq h)
def Inv.list bQ(h:iw X.K H a xs):∃cb:cC,WK/\PlainL s.heap a cb.toArray/\KL:=by
 rcases h with h | ⟨o,cb,n,hk,hc,hd,hs,hz,r⟩
 ·rw[KQ z cb n r e (h.ok I.a_) ⟨cb,r,⟨_,n,e,rfl,rfl,rfl⟩,z⟩]
 ·refine⟨cb.toList,r,⟨o,n,I.qY a o hk,hc,hd,bh hs⟩,?_⟩;have e:=r.length;rw[aLv e];omega
def Inv.tuple bQ(h:CR X.K a):∃cb:cC,WK/\ard a cb.toArray/\KL:=by
 rcases h with h | ⟨o,cb,n,hk,hc,hs,hz,r⟩
 ·rw[LH z cb r p (h.ok I.a_) cb r p z]
 ·refine⟨cb.toList,r,⟨o,I.qY a o hk,hc,n,bh hs⟩,?_⟩;have e:=r.length;rw[aLv e];omega
def Inv.avD bQ(h:iw X.K H a xs)(h':iw X.K H a ys):xs=ys:=by
 obtain⟨cb,r,⟨o,n,e,_,_,d⟩,_⟩:=I.list h;obtain⟨its',r',⟨o',n',e',_,_,d'⟩,_⟩:=I.list h';rw[e]at e';cases e';rw[d]at d';rw[ş d' d1]
 have:cb=its':=bh (aLL d1)
 rw[fz this (r.inj r')]
def Inv.aTn bQ(h:CR X.K a)(h':F5 X.K H a ys):xs=ys:=by
 obtain⟨cb,r,⟨o,e,_,n,d⟩,_⟩:=I.tuple h;obtain⟨its',r',⟨o',e',_,n',d'⟩,_⟩:=I.tuple h';rw[e]at e';cases e';rw[d]at d';rw[ş d' d1]
 have:cb=its':=bh (aLL d1)
 rw[fz this (r.inj r')]
universe zE
section
variable {X:bT}{pins:gG}{σ:St}{H:aM}{s:Shared}{E:iD}
universe zE
section
variable {X:bT}{st:Stmt}{rest:yY}{t u:m5}{e:Expr}{te:TE}{pos:Pos}
abbrev a0Q:m5:=λD σ H=>D.nx σ H
abbrev aNJ(t u:m5):m5:=λD σ H=>t { D with nx:=u D} σ H
def aXh:ux X [] a0Q:=λ_ _ σ H _ I h=>aAF σ H I h
def aUV(h1:n7 X st t)(h2:ux X rest u):ux X (st::rest) (aNJ t u):=by
 rw[r8 D (aAZ (mF (h1 pins s σ H { D with nx:=u D} I h) f q))];cases f with
 |next=>
  rw[QK σ' H' I' q q (h2 pins s1 σ' H' D I' q)]
 |ret v=>exact q
 |brk=>exact q
 |cont=>exact q
def aXi(h1:n7 X st t):ux X [st] t:=by
 rw[r8 D (aAZ (mF (h1 pins s σ H D I h) f q))];cases f with
 |next=>exact wpAny_execs_nil q
 |ret v=>exact q
 |brk=>exact q
 |cont=>exact q
def Inv.quiet Bb bQ:dQ (interactive X.env):=fQ interactive I.ok.kind
abbrev a0R Uk:m5:=λD σ H=>te σ H (nB _ (D.nx σ H1))
def aXj ZX aJJ:n7 X (.Expr e pos) (a0R te):=by
 rw[RN s H D I h (wpAny_Expr_any (PG (zH s σ H _ I h) v x ⟨σ,H1,aF,aB⟩) I.quiet hs)]
abbrev a2e Uk:m5:=λD σ H=>te σ H D.fk
def aY8 ZX:n7 X (.Return (some e) pos) (a2e te):=by
 rw[RN s H D I h (wpAny_Return_some (PG (zH s σ H _ I h) v x ⟨x,σ,H1,aF,r1,aB⟩))]
abbrev a2f(c:lF)(t u:m5):m5:=λD σ H=>c σ H (nB b (pT b (t D σ H1) (u D σ H1)))
def a0S{c:Expr}{a b:yY}{tc:lF}(hc:uC X c tc)(ha:ux X a t)(hb:ux X b u):n7 X (.If c a b pos) (a2f tc t u):=by
 rw[r8 D (wpAny_If (mF (hc pins s σ H _ I h) d ⟨H1,aF,aB⟩))];cases d with
 |true=>exact Om s1 H1 D aF aB
 |false=>exact PR D
universe zE
noncomputable abbrev uG:=V->St->aM->cO (St->dW)
noncomputable abbrev J0:=cH->St->aM->cO (St->dW)
abbrev uB fY(target:Expr)(t:uG):Prop:=
 ∀n?(v:V)Gu(Q:St->dW),iO->nF->t v σ H Q →
  MH (ark target u) _ s' (∃σ' H',PF X/\nJ σ')
abbrev Gd fY(ts:dF)(t:J0):Prop:=
 ∀n?(vs:cH)Bg(Q:St->dW),iO->OS->t vs σ H Q →
  MH (assignInOrder (GH (XQ ts).map) us) _ s' (∃σ' H',PF X/\nJ σ')
noncomputable abbrev am0:=V->V->V->aM->cO dW
abbrev Th fY(t:am0):Prop:=
 ∀n?(o i v:V)(ov iv u:Value)(Q:dW),iO->RelV o ov->RelV i iv->nF->t o i v H Q →
  MH (setItem ov iv u) _ s' (∃H',Ow/\Q H')
section
variable {X:bT}{pos:Pos}
abbrev amx g!:uG:=λv σ H Q=>Q (aiY fq) H
def aXk gx d! Kc anq Z3:uB X (cU x pos) (amx i):=by
 intro pins s σ H v u Q I r h;exact wpAny_assign_Name (wd I hN hi hx r (λs' I'=>⟨_,H,I',h⟩) hf)
abbrev a2g:J0:=λvs σ H Q=>vs=[]/\Q σ H
abbrev a0T(t:uG)(u:J0):J0:=λvs σ H Q=>∃v r,vs=v::r/\t v σ H λσ' H'=>u r σ' H' Q
def aXl:Gd X [] a2g:=by
 intro pins s σ H vs us Q I r h;obtain⟨e,h⟩:=h;subst e;cases r;exact assignInOrder_nil ⟨σ,H,I,h⟩
def aUW Ko{es:dF}{t:uG}{u:J0}(h1:uB X e t)(h2:Gd X es u)
  aJj:Gd X (e::es) (a0T t u):=by
 intro pins s σ H vs us Q I r h;obtain⟨v,vr,e1,h⟩:=h;subst e1;cases r with
 |cons r rr=>
  rw[hs];rw[tL (assignInOrder_cons (mF (h1 pins s σ H _ _ _ I r h) _ ⟨σ1,H1,aF,aB⟩)) (h2 pins s1 σ1 H1 _ _ Q aF rr aB)]
abbrev a2h dg dS(t:J0):uG:=λv σ H Q=>∃a xs,v=Δ a/\CR K a/\Ţ n/\t xs σ H Q
def aY9{es:dF}dU{t:J0}bf Bc(h:Gd X es t)
  aJd:uB X (L? es k pos) (a2h X.K n t):=by
 intro pins s σ H v u Q I r hw;obtain⟨a,xs,e1,hq,hl,hw⟩:=hw;subst e1;cases r;rw[PB rv ht];rw[oA (assign_Tuple_tuple (I.ok.hd hc) ht (by simp[hn,←hl,rv.length]) uv (dz h' hx)) aF (kq H (tT s)) (I.kept (t':=s.toks) λb o e=>hx b o (pN mj) e)];exact h pins _ σ H xs _ Q aF (bh rv) hw
abbrev a2i(to ti:TE)(t:am0):uG:=λv σ H Q=>to σ H (nB o (ti σ H1 (ny i (t o i v H2 λH3=>Q σ H3))))
def aZa{o i:Expr}{to ti:TE}{t:am0}afq(hi:kg i ti)(hs:Th X t)
  (ha:∀v,ark (xu o i pos) v=(do
   let ov ←DW [v] DU
   let iv ←DW [v,ov] (lJ i)
   standAt pos
   DW [v,ov,iv] (setItem ov iv v)
   release [v,ov,iv] []):=by rw[XS _]):uB X (xu o i pos) (a2i to ti t):=by
 intro pins s σ H v u Q I r h;rw[ha];rw[ff (aoO (Mp s H _ I h ov ⟨x,H1,aF,r1,aB⟩)) (aoO (Me (hi pins s1 σ H1 _ aF aB) iv ⟨y,H2,bk,r2,aZ⟩))];rw[tL (aAA (aoO (rI (hs pins s2 σ H2 x y v ov iv u _ bk r1 r2 r aZ) _ s3 ⟨H3,e_,cy⟩))) (wpAny_release ⟨σ,H3,e_,cy⟩)]
abbrev axI Uk(g:uG):m5:=λD σ H=>te σ H (nB x (g x σ H1 D.nx))
def aHI{b3 e:Expr}{te:TE}{g:uG}ZX(hg:uB X b3 g)aJf
  aJ0:n7 X (CJ [b3] e pos) (axI te g):=by
 rw[r8 D (wpAny_Assign_stores (mF (zH s σ H _ I h) v ⟨x,H1,aF,r1,aB⟩) hs hw)];rw[az h1 (El (hg pins s1 σ H1 x v _ aF r1 aB) _ s2 q q)]
def aZb gx d! Ko{te:TE}{pos':Pos}Kc anq ZX aJ8 Z3:
  n7 X (CJ [cU x pos'] e pos) (axI te (amx i)):=by
 rw[r8 D (wpAny_Assign_Name (mF (zH s σ H _ I h) v ⟨y,H1,aF,r1,aB⟩) hs)];exact wd aF hN hi hx r1 (λs2 bk=>⟨_,H1,bk,aB⟩) hf
universe zE
section
variable {X:bT}{pos:Pos}
universe zE
structure It where
 go:ze dW
 avh:Rt aM (V->dW)
 stop:ze dW
abbrev aEO anJ jU(b:Addr):Prop:=
 j3/\DY b/\b∉X.fs/\(b∈X.ex\/abN b)/\(∀x c,wZ=lK->c≠b)/\jn (X.fJ++pins) (p.1≠b)
def Inv.JF lG Oa{σ:St}{H H':aM}m8{b:Addr}bQ(hb:aAY b)(hn:G4 b):aEO X pins H' b:=by
 refine⟨hn,Nat.ne_of_gt (Nat.lt_of_lt_of_le I.lt hb),I.a2m hb,aA (Nat.le_trans I.sz hb),jj x c e z,cP p hp z⟩
 ·rw[e8 v q (WA x e) (absurd (Nat.lt_of_lt_of_le q.lt (by rw[az z hb])) ý)]
 ·rw[se (apD (IC hp).1 (by rw[az z hb])) ý]
structure Turn DH dg(b3:Expr)(J:It)(fp:cz)(it:Addr)(qX:Ň Heap):Prop where
 mem:it∈fp
 obj:∀i h,qX i h->G! b (∃o,s4=b8/\∀v,o.data≠.cell v)
 keep:∀i h h',qX i h->(G! b (∀o,s4=b8->rz=b8))->qX i h'
 item:∀fY,X.prog=P->X.w=w->X.K=K->XN->∀g! n?(E:iD),iO->(abD H)->ar1 i->J.go i H →
  oq (model P w) X.A (pyNext (Δ it)) (λr s1=>∃u,r=dD ∧
   nj (model P w) X.A (letOwnedTupleGo b3 (Δ it) u) (cK s2 (∃x H',ė s2/\w4 x/\J.avh i H x H'/\qX (i+1) s2.heap/\Wo b b)) E s1) E
 done:∀fY,X.prog=P->X.w=w->X.K=K->XN->∀g! n?(E:iD),iO->(abD H)->ar1 i->asL H →
  oq (model P w) X.A (pyNext (Δ it)) (λr s1=>b9 r/\kq H s1) E
 self:∀(A:Around)g! kP afl,ar1 i->Q (Δ it) s->oq (model P w) A (pyIter (Δ it)) Q E
noncomputable abbrev TI:=St->aM->cO (It->dW)
abbrev aHF aoq(b3:Expr)(R:It->dW)(itv:Value)(s2:Shared):Prop:=
 ∃(it:Addr) (fp:cz) (qX:Ň Heap) (J:It) (H':aM),itv=Δ it/\ė s2/\Pw X.prog X.w X.K J fp qX/\qX 0 s2.heap/\(abD H')/\R J H'
abbrev JQ fY(b3 iter:Expr)(wi:TI):Prop:=
 ∀n?(R:It->dW),iO->wi σ H R →
  MH (lJ iter) v s1 (j7 (pyIter v) (aHF X pins σ b3 R) s1)
def Zf aoe m8{b3:Expr}{it:Addr}qo{o:Obj}{n:String}{vs:QM}N6(ho:vC it o)(hc:o.cls=ee n)(hd:o.data=i0 vs)
    (hn:dQ (["enumerate","zip","dict_itemiterator","dict_reverseitemiterator","odict_iterator","itertools.zip_longest","itertools.pairwise"].contains n))(hQ:Q () s):oq M A (letOwnedTupleGo b3 (Δ it) u) Q E:=by
  unfold letOwnedTupleGo
  cases b3<;>first
    |rw[agp hQ]
    | (cases u<;>first
        |rw[agp hQ]
        | (refine fu (wpAny_load ho ?_)
           rw[hc,hd];rw[Wu (oq M A (ag1 (["enumerate","zip","dict_itemiterator","dict_reverseitemiterator","odict_iterator","itertools.zip_longest","itertools.pairwise"].contains n&&vs[0]? == aN (rawInt _)) _ _) Q E) (zR (by intro h;rw[hn,Bool.false_and]at h;cases h)) (wpAny_pure hQ)]))
abbrev awB dg rj:It:=
 abn i H (∃xs x,Jd/\Ai) i H x (H'=H/\∀xs,Jd->Ai) i H xs (Jd/\Q5 i)
abbrev aGv dg rj:It:=
 abn i H (∃xs x,CR K a/\Ai) i H x (H'=H/\∀xs,CR K a->Ai) i H xs (CR K a/\Q5 i)
abbrev amq aoj:It:=⟨λi _=>i<n,λi H x H'=>H'=H/\x=η (lo+i),λi _=>n≤i⟩
def aTo DJ ae7:Pw P w K (awB K a) [it] (λi h=>h.IsListIter it a i) where
 mem:=Ξ
 obj:=λi h st b hb=>by
  rw[zJ e (b=it) e]
  rw[vG o e c d st ⟨o,e,λv z=>by rw[d]at z;cases z⟩]
 keep:=λi h h' st k=>st.at λo e=>k it Ξ o e
 item:=by
  rw[IZ];obtain⟨xs,x,hq,hx⟩:=hg;rw[H9 rv p];obtain⟨u,hu,cB⟩:=rv.get hx;obtain⟨f0,f1,f2,f3,f4,jb⟩:=hf it Ξ;rw[oA (wpAny_pyNext_list_item st p.isList (x:=u) (bh hu) (B_ Ee sb)) aF (kq H (tT s)) (Ê t' (PI b o e sb e) f0 f1 f3 f4 jb)];rw[vG o e c d (id Ee) (jh u (Zf (s:=tT s) e c d aC ⟨x,H,aF,cB,kU (vW ys (by rw[az (I.avD hy hq) hx])),Ee,vV (HS b).1⟩))]
 done:=by
  rw[ś X i s H E I st hg hP hw hK xs hq hx hg];rw[H9 rv p];rw[WR];rw[xO hl rv.length (wpAny_pyNext_list_end (I.ok.hd hc) st p.isList (by rw[fh]) λh' eb=>Ö t' (Pg b o e b o hb e) f0 f1 f3 f4 jb)]
 self:=λ_ _ _ _ _ st h=>wpAny_pyIter_listiter st h
def aSI DJ ae7:Pw P w K (aGv K a) [it] (λi h=>h.IsTupleIter it a i) where
 mem:=Ξ
 obj:=λi h st b hb=>by
  rw[zJ e (b=it) e]
  rw[vG o e c d st ⟨o,e,λv z=>by rw[d]at z;cases z⟩]
 keep:=λi h h' st k=>st.at λo e=>k it Ξ o e
 item:=by
  rw[IZ];obtain⟨xs,x,hq,hx⟩:=hg;rw[PB rv p];obtain⟨u,hu,cB⟩:=rv.get hx
  obtain⟨f0,f1,f2,f3,f4,jb⟩:=hf it Ξ;rw[oA (wpAny_pyNext_tuple_item st (aB9 (aK5 a)) (x:=u) (bh hu) (B_ Ee sb)) aF (kq H (tT s)) (Ê t' (PI b o e sb e) f0 f1 f3 f4 jb)];rw[vG o e c d (id Ee) (jh u (Zf (s:=tT s) e c d aC ⟨x,H,aF,cB,kU (vW ys (by rw[az (I.aTn hy hq) hx])),Ee,vV (HS b).1⟩))]
 done:=by
  rw[ś X i s H E I st hg hP hw hK xs hq hx hg];rw[PB rv p];rw[WR];rw[xO hl rv.length (wpAny_pyNext_tuple_end (I.ok.hd hc) st (aB9 (aK5 a)) (by rw[fh]) λh' eb=>Ö t' (Pg b o e b o hb e) f0 f1 f3 f4 jb)]
 self:=λ_ _ _ _ _ st h=>wpAny_pyIter_tupleiter st h
def aSJ DJ{b3:Expr}(it:Addr)aoj:Pw P w K (amq lo n) [it] (λi h=>IsRangeIter h it (lo+(i:Nat)*1) (gO-(i:Nat)) 1) where
 mem:=Ξ
 obj:=λi h st b hb=>by
  rw[zJ e (b=it) e]
  rw[bC _ st (λv z=>by
   have z':Data.fields _=Data.cell v:=z
   cases z')]
 keep:=λi h h' st k=>k it Ξ _ st
 item:=by
  rw[IZ];rw[WR];rw[cV W (Walks.range (prog:=X.prog) (w:=X.w) (I.ok.hd hc) it lo 1 n) (W.item i s _ _ hg st (zc v h' tk hv Ee kk))];rw[r3 hv];rw[qt aF (ahk s h' tk) (I.turned (λb o hb e=>kk b o Ey e) f0 f1 f3 f4 jb) (x6 (Zf (s:=BG s h' tk) (n:= "range_iterator") Ee rfl rfl aC ⟨η (lo+i),H,aF,lM t,lS rfl,Ee,vV (HS b).1⟩))];rw[Int.mul_one]
 done:=by
  rw[IZ];rw[WR];exact wpAny_pyNext_range_end (I.ok.hd hc) st (by rw[Fj (n≤i) hg]) λh' eb=>Ö t' (Pg b o e b o hb e) f0 f1 f3 f4 jb
 self:=λ_ _ _ _ _ st h=>wpAny_pyIter_rangeiter st h
universe L2
namespace L2
open PySem PySem.Spec PyProof.Rows
section
variable {X:bT}{b3:Expr}
abbrev a0U dg(tl:TE):TI:=λσ H R=>tl σ H (O? x a (x=Δ a/\(∃xs,iw K H1 a xs)/\R (awB K a) H1))
abbrev a2D dg(tl:TE):TI:=λσ H R=>tl σ H (O? x a (x=Δ a/\(∃xs,F5 K H1 a xs)/\R (aGv K a) H1))
def aXm{l:Expr}{tl:TE}(hl:kg l tl):JQ X b3 l (a0U X.K tl):=by
 rw[r8 R (aia (hl pins s σ H _ I h) v x)]
 obtain⟨a,e,⟨xs,hq⟩,q⟩:=aB;subst e;cases r1;rw[xW rv p hz (aF.list hq)];refine aLU p.isList;refine aqu aoL _ _ H1 rfl (Ù t' o e e) (aTo a _) (Ž _ _) oJ q
 have e:b=s1.heap.objs.size:=Ey
 rw[fz e (aF.JF fe Rb)]
def aZc{l:Expr}{tl:TE}(hl:kg l tl):JQ X b3 l (a2D X.K tl):=by
 rw[r8 R (aia (hl pins s σ H _ I h) v x)]
 obtain⟨a,e,⟨xs,hq⟩,q⟩:=aB;subst e;cases r1;rw[xW rv p hz (aF.tuple hq)];refine wpAny_pyIter_tuple (aB9 (s1.heap.IsTuple a cb.toArray)) ?_
 refine aqu aoL _ _ H1 rfl (Ù t' o e e) (aSI a _) (Ž _ _) oJ q
 have e:b=s1.heap.objs.size:=Ey
 rw[fz e (aF.JF fe Rb)]
def aUS Bb{R:It->dW}{E:iD}{lo hi:Int}{t u v:Tok}{tk:Nat}bQ(h1 : -(2 ^ 62)≤lo)(h2:lo<2 ^ 62)(h3 : -(2 ^ 62)≤hi)(h4:hi<2 ^ 62)
  (q:R (amq lo (hi-lo).toNat) H):nj (model X.prog X.w) X.A (pyIter pW) (aHF X pins σ b3 R) E (BG s (aje (i0 #[η lo t,η hi u,η 1 v])) tk):=by
 rw[oA (wpAny_pyIter_range (IsRange.new ..) (small_one h1 h2 h3 h4) ?_) aF (ahk s (aje (i0 #[η lo t,η hi u,η 1 v])) tk) (I.kept (uS o e e))]
 refine⟨Ru (aje (i0 #[η lo t,η hi u,η 1 v])),[Ru (aje (i0 #[η lo t,η hi u,η 1 v]))],_,_,H,rfl,
  aF.kept (t':=tk) (uS o e e),aSJ _ lo (hi-lo).toNat,?_,oJ,q⟩
 ·rw[bq e1 (lo+i_ 0*1=lo) Ξ e2 (i_ (hi-lo).toNat-i_ 0=Builtin.Range.rangeSize lo hi 1) (by rw[rangeSize_one];split<;>omega)]
  show IsRangeIter _ _ (lo+i_ 0*1) (i_ (hi-lo).toNat-i_ 0) 1;rw[eu e1 e2 (GQ _)]
 ·have e:b=Ru (aje (i0 #[η lo t,η hi u,η 1 v])):=Ey
  rw[fz e (aF.JF fe Rb)]
abbrev a0V(ta:mZ):TI:=λσ H R=>aoG σ H vs (∃j:Int,vs=[η j] /\ -(2 ^ 62)≤j/\j<2 ^ 62/\R (amq 0 j.toNat) H1)
def aTR{a:Expr}{ta:mZ}{p pos:Pos}(hg:Nt X "range")(hm:asv "range")(ha:o8 X [a] ta)anD:JQ X b3 (uQ (cU "range" p) [a] [] pos) (a0V ta):=by
 rw[r8 R (Call_ (adz I hg hm boot_range (apx (aia (ha pos pins s σ H _ I h) us vs) hs rfl)))];obtain⟨j,e,aB,aZ,q⟩:=aB;subst e;cases r1 with
 |cons r rr=>
  cases rr;rw[e8 t rfl r (call_range_1 (aUS aF av av aB aZ (bh q)))]
abbrev a2E(wi:TI)(g:uG)(tb:m5):m5:=λD σ H=>wi σ H (nB J (∃W:ze (Rt St dW),(∃m,W 0 m σ H1)/\∀i m σ H,W i m σ H →
 (asL H/\D.nx σ H)\/(J.go i H/\∃N:St->dW,(∀σ' H',N σ' H'->∃m',m'<m/\W (i+1) m' σ' H')/\∀x H',J.avh i H x H'->g x σ H' (ny σ2 (tb { D with nx:=N,ct:=N,lX:=D.nx} σ2 H2)))))
abbrev adS(fp:cz)DN:gG:=fp.filterMap λb=>(s4).map λo=>(b,o)
def auM Gx sS ZK(hb:b∈fp)(e:s4=b8):(b,o)∈adS fp h:=aLz b hb (by rw[e];rfl)
def aTS Gx sS{p:Addr×Obj}(hp:p∈adS fp h):p.1∈fp/\h.get? p.1=xP p:=by
 rw[aiU b hb (List.mem_filterMap.mp hp)];cases q:s4 with
 |none=>rw[q]at e;cases e
 |some o=>
  rw[q]at e;rw[LS e' ((b,o)=p) aAd e'];rw[b7 hb q]
def Inv.pinned Bb Gx afn(ho:G! b (∃o,kr/\∀v,o.data≠.cell v)):Inv X (pins++adS fp s.heap) σ H s:=
 I.aGZ (lR ((ao8).elim (c9 (IC (Hs z))) (c9 (by
  obtain⟨hb,e⟩:=aTS z;obtain⟨f0,f1,f2,_⟩:=HS p.1;obtain⟨o,e',d⟩:=ho p.1 hb;rw[e]at e';cases e';exact⟨e,f0,f1,f2,d⟩))))
def Inv.ave{pins pl:gG}yQ m8(I:Inv X (pins++pl) σ H s):iO:=I.aGZ (lR (IC (Hs (azh hp))))
def aZd{iter:Expr}{body:yY}{wi:TI}{g:uG}{tb:m5}DM aJ2(hi:aaj X b3 wi)(hg:uB X b3 g)(hb:ux X body tb)
  Z6:n7 X (.For b3 iter body [] pos) (a2E wi g tb):=by
 rw[r8 D (wpAny_For (El (hi pins s σ H _ I h) v s1 h1 (Me h1 itv h2)) hs)];obtain⟨it,fp,qX,J,H2,e,bk,T,alq,f2,W,⟨m0,w0⟩,turn⟩:=h2;subst e;rw[dX Ti (∀{H':aM},(Wo b b)->abD H') (λhn b hb=>⟨hn b hb,(f2 b hb).2⟩) (codeAny_forLoop_any (λn s'=>∃i σ' H',PF X/\qX i s'.heap/\(Wo b b)/\W i n σ' H') ?_ m0 ⟨0,σ,H2,bk,alq,vV (f2 b hb).1,w0⟩)];rintro n s3 ⟨i,σ3,H3,e_,alr,akt,w3⟩;rcases turn i n σ3 H3 w3 with⟨stop,YL⟩ | ⟨go,N,hN,step⟩
 ·refine afL (rI (T.done X rfl rfl rfl hc i pins s3 σ3 H3 X.qZ e_ (Ti akt) alr stop) r wo ⟨hr,q9⟩);rw[fz hr (aAF σ3 H3 q9 YL)]
 ·refine afL (rI (T.item X rfl rfl rfl hc i pins s3 σ3 H3 X.qZ e_ (Ti akt) alr go) r wo ⟨u,hr,h4⟩);subst hr
  refine afL (rI h4 _ alo ⟨x,H5,awv,alk,y5,TH,aCF⟩);rw[cV aww (awv.pinned (Ti aCF) (T.obj _ _ TH)) (afL (rI (hg _ alo σ3 H5 x u _ aww alk (step x H5 y5)) _ auS ⟨σ6,awu,awx,aDv⟩))];rw[oA (afL (rI (hb _ auS σ6 awu _ awx aDv) f SO AN)) again (∀{σ7:St}{yF:aM},Inv X (pins++adS fp alo.heap) σ7 yF SO->N σ7 yF->∃m,m<n/\∃i σ' H',UA X σ' H' SO/\qX i SO.heap/\(Wo b b)/\W i m σ' H') (λ{σ7 yF} wG acK=>by
   obtain⟨m',hm,mU⟩:=hN σ7 yF acK;refine⟨m',hm,i+1,σ7,yF,wG.ave,T.keep _ _ _ TH λb hb o e=>(wG.pin (b,o) (Hs (Hs (auM hb e)))).1,oJ,mU⟩;rw[É o e d (T.obj _ _ TH b hb) (wG.pin (b,o) (Hs (Hs (auM hb e)))).2.1])]
  cases f with
  |next=>rw[QK σ7 yF wG acK AN (again wG acK)]
  |cont=>rw[QK σ7 yF wG acK AN (again wG acK)]
  |brk=>rw[LH σ7 yF wG AN AN σ7 yF wG.ave AN]
  |ret v=>rw[UT a5y σ7 yF wG auK AN AN ⟨a5y,σ7,yF,wG.ave,auK,AN⟩]
universe zE
universe L2
namespace L2
open PySem PySem.Spec PyProof.Rows
noncomputable abbrev n8:=V->V->aM->jA
abbrev aDm fY(f:VV)(r:n8):Prop:=
 ∀n?(x y:V)(v u:Value)yT,iO->K3->abw->r x y H Q →
  Ŵ (f v u) X Q
abbrev axx fY(f:EG agM)(r:V->aM->jA):Prop:=
 ∀ae5 ZS yT,iO->K3->r x H Q →
  Ŵ (f v) X Q
abbrev Yj fY(f:Value)(r:cH->aM->jA):Prop:=
 ∀n? J8 Bg yT,iO->vp->r xs H Q →
  ĉ f us (Iu X Q)
abbrev aff fY(r:V->aM->cO (Bool->dW)):Prop:=
 ∀ae5 ZS afp,iO->K3->r x H Q →
  j7 (truthy v) (amV X pins σ Q) s
abbrev alw(r:n8)anS:TE:=Ot H x (tb σ H1 (ny y (r x y H2 Q)))
abbrev a5d(r:V->aM->jA)(ta:TE):TE:=Ot H x (r x H1 Q)
abbrev auN(C:Int->akg)(g:Int->Int->V):n8:=λx y H Q=>∃i j,x=η i/\y=η j/\C i j/\Q (g i j) H
abbrev NJ(g:Int->Int->V):n8:=λx y H Q=>∃i j,x=η i/\y=η j/\Q (g i j) H
abbrev aO8(g:Int->V):V->aM->jA:=λx H Q=>∃i,x=η i/\Q (g i) H
section
variable {X:bT}{a b c:Expr}{ta tb tc:TE}{pos:Pos}
def axJ N5 Oa m8 yQ{R:V->V->dW}bQ
  aIY ro{f:VV}
  aJc:
  MH (lJ a) v s₁ (j7 (lJ b) (λu s₂=>j7 (f v u) Q s₂) s₁):=by
 rw[ff (aib s H _ I h v x) (Me (PR _) u ⟨y,H2,bk,r2,aZ⟩)];exact hf v u s2 x y H2 bk r1 r2 aZ
def a0W{op:Operator}{r:n8}(ho:nE (binaryOp op) r)N5:pX (.BinOp a op b pos) (alw r ta tb):=by
 rw[RN s H Q I h (wpAny_BinOp (axJ ha hb I h λv u s2 x y H2 bk rx a! q=>ho pins s2 σ H2 x y v u Q bk rx a! q))]
def a0X{op:UnaryOp}{r:V->aM->jA}(ho:axx X (unaryOp op) r)(ha:akd):pX (asJ op a pos) (a5d r ta):=by
 rw[RN s H Q I h (UnaryOp_ (PG (Om s H _ I h) v x (ho pins s1 σ H1 x v Q aF r1 aB)))]
def aDn{f:VV}{C:Int->akg}{g:Int->Int->Int}
  (rule:∀ayw kP afl,C i j->ajI (η (g i j) s.toks) s 1->abb (f (η i t) (η j u))):
  nE f (auN C λi j=>η (g i j)):=by
 rw[EK];obtain⟨i,j,rfl,rfl,hc,q⟩:=h;rw[r3 rx];rw[e8 t' rfl a! (rule i j t t' s _ _ hc (OA (η (g i j)) H q))]
def aNK{f:VV}{g:Int->Int->Int}
  (rule:∀ayw kP afl,ajI (η (g i j) s.toks) s 1->abb (f (η i t) (η j u))):
  nE f (NJ λi j=>η (g i j)):=by
 rw[EK];rw[eo i j rfl q h];rw[r3 rx];rw[e8 t' rfl a! (rule i j t t' s _ _ (OA (η (g i j)) H q))]
def am1{f:VV}{g:Int->aoK}
  (rule:∀ayw kP afl,Q (pM (g i j)) s->abb (f (η i t) (η j u))):
  nE f (NJ λi j=>.ah (g i j)):=by
 rw[EK];rw[eo i j rfl q h];rw[r3 rx];rw[e8 t' rfl a! (rule i j t t' s _ _ (z9 .ah (g i j) I q))]
abbrev a2F(i j:Int):Prop:=0<j/\ę j
abbrev axK(i j:Int):Prop:=(-(2 ^ 64)<i/\i<2 ^ 64)\/(-(2 ^ 64)<j/\j<2 ^ 64)
def axK.ok{i j:Int}(h:axK i j):IntMulOk i j:=by
 rcases h with⟨h1,h2⟩ | ⟨h1,h2⟩
 ·exact .of_left (intBits_le_64 h1 h2)
 ·exact .of_right (intBits_le_64 h1 h2)
def aZe:y! Add (NJ λi j=>η (i+j)):=aNK λ_ _ _ _ _ _ _ q=>add_int q
def aZf:y! Sub (NJ λi j=>η (i-j)):=aNK λ_ _ _ _ _ _ _ q=>sub_int q
def aZg:y! Mult (auN axK λi j=>η (i*j)):=aDn λ_ _ _ _ _ _ _ hc q=>mul_int q hc.ok
def aWU:y! FloorDiv (auN a2F λi j=>η (i / j)):=aDn λi j _ _ _ _ _ hc q=>by
 rw[bq h1 (aY 0<j) hc.1 h2 (ę j) hc.2];exact floordiv_int av (by rw[az (Int.fdiv_eq_ediv_of_nonneg i av) q]) (aq (PyProof.noPylong_small av))
def aZh:y! Mod (auN (cK j (0<j)) λi j=>η (i%j)):=aDn λi j _ _ _ _ _ hc q=>by
 rw[rZ h1 (aY 0<j) hc (mod_int' av (by rw[az (Int.fmod_eq_emod_of_nonneg i av) q]))]
def a5i{f:EG agM}{g:Int->Int}
  (rule:∀pg(t:Tok)kP afl,ajI (η (g i) s.toks) s 1->abb (f (η i t))):
  axx X f (aO8 λi=>η (g i)):=by
 intro pins s σ H x v Q I rx h;rw[eS i q h];rw[e8 t rfl rx (rule i t s _ _ (OA (η (g i)) H q))]
def aZi:axx X (unaryOp .USub) (aO8 λi=>η (-i)):=a5i λ_ _ _ _ _ q=>neg_int q
universe zE
section
variable {X:bT}{a b c:Expr}{ta tb tc:TE}{pos:Pos}
def aHN Bb pB{k k':Bool}bQ(q:Q (.ah k) H)(e:k=k'):Px X Q (pM k') s:=by
 subst e;exact z9 .ah k I q
def a0Y:nE (compareOp .Lt) (NJ λi j=>.ah (jC (i<j))):=am1 λ_ _ _ _ _ _ _ q=>lt_int q
def a0Z:nE (compareOp .LtE) (NJ λi j=>.ah (EO i j)):=am1 λ_ _ _ _ _ _ _ q=>le_int q
def a00:nE (compareOp .Gt) (NJ λi j=>.ah (jC (j<i))):=am1 λ_ _ _ _ _ _ _ q=>gt_int q
def a01:nE (compareOp .GtE) (NJ λi j=>.ah (EO j i)):=am1 λ_ _ _ _ _ _ _ q=>ge_int q
def aZj:nE (compareOp .Is) (λx y H Q=>y=.bb/\Q (.ah (fC x .bb)) H):=by
 rw[EK];rw[Qm q h];cases a!;refine is_none_gen (aHN I q ?_)
 cases x<;>first
  | (cases rx;rfl)
  | (rw[aaK rx])
def aWV:nE (compareOp .IsNot) (λx y H Q=>y=.bb/\Q (.ah (!(fC x .bb))) H):=by
 rw[EK];rw[Qm q h];cases a!;refine isnot_none_gen (aHN I q ?_)
 cases x<;>first
  | (cases rx;rfl)
  | (rw[aaK rx])
def aDm.or{f:VV}{r r':n8}(h:nE f r)(h':nE f r'):nE f (λx y H Q=>r x y H Q\/r' x y H Q):=by
 intro pins s σ H x y v u Q I rx a! q;rcases q with q | q
 ·exact h pins s σ H x y v u Q I rx a! q
 ·exact h' pins s σ H x y v u Q I rx a! q
def a6u(b:Expr)ZP(h:op≠.In:=by decide)(h2:op≠.NotIn:=by decide):aoD op b:=by
 rw[bq e1 (uP op CmpOp.In) (by cases op<;>first | rfl | rw[Q! h]) e2 (uP op CmpOp.NotIn) (by cases op<;>first | rfl | rw[Q! h2])]
 cases b<;>simp[behindInMarks,e1,e2]
def aWW ZP{r:n8}(ho:afy r)N5(hm:aoD op b):pX (Ĉ a [op] [b] pos) (alw r ta tb):=by
 rw[RN s H Q I h (wpAny_Compare1 (axJ ha hb I h λv u s2 x y H2 bk rx a! q=>ho pins s2 σ H2 x y v u Q bk rx a! q) hm)]
abbrev aIm(t:TE):lF:=vm (t σ H λx H'=>∃k,x=.ah k/\nJ k)
def aWX ZP{r:n8}(ho:afy r)N5(hm:aoD op b):uC X (Ĉ a [op] [b] pos) (aIm (alw r ta tb)):=by
 intro pins s σ H Q I h
 refine wpAny_isTrue_Compare1 (PG (Om s H _ I h) v x (X! (PR _) λu s2 ⟨y,H2,bk,r2,aZ⟩=>
  rI (ho pins s2 σ H2 x y v u _ bk r1 r2 aZ) c s3 ⟨z,H3,e_,qU,k,e,cy⟩)) hm
 subst e;cases qU;exact wpAny_truthy_bool ⟨H3,e_,cy⟩
abbrev Qb(r r':n8)(ta tb tc:TE):TE:=Ot H x (tb σ H1 (ny y (r x y H2 λz H3=>∃k,z=.ah k ∧
 (pT k (tc σ H3 λw' H4=>r' y w' H4 Q) (Q (lO .ah) H3)))))
def aVo{op Zz:CmpOp}{r r':n8}(ho:afy r)(wH:nE (compareOp Zz) r')N5(hc:kg c tc)
  aIU:pX (Ĉ a [op,Zz] [b,c] pos) (Qb r r' ta tb tc):=by
 intro pins s σ H Q I h
 refine Compare_chain (PG (Om s H _ I h) v x (chain_link (X! (PR _) λu s2 ⟨y,H2,bk,r2,aZ⟩=>
  rI (ho pins s2 σ H2 x y v u _ bk r1 r2 aZ) d s3 ⟨z,H3,e_,qU,k,e,cy⟩))) hm
 subst e;cases qU;rw[azA ?_];cases k with
 |false=>exact ite_ff (iX (lO .ah) H3 e_ cy)
 |true=>exact ite_tt (chain_last (zC (hc pins s3 σ H3 _ e_ cy) w' wo z' H4 q9 alj FN (wH pins wo σ H4 y z' u w' Q q9 r2 alj FN)))
abbrev axL dg(x:V)jU(k:Bool):Prop:=
 match x with
 |.bb=>dQ k
 |.ah b=>k=b
 |η i=>k=(i != 0)
 |Ω y=>jB y.length/\k=(aY y.length != 0)
 |.abS y=>jB y.size/\k=(aY y.size != 0)
 |Δ p=>(∃xs,iw K H p xs/\k=QO)\/(∃xs,CR K p/\k=QO)\/∃kvs,H p=nh .bA/\k=arj
 |_=>False
def aSK o? T6:(! vs.isEmpty)=arj:=by
 cases r<;>rfl
def aEY{xs:cH}{cb:cC}(r:WK):aL6=QO:=by
 cases r<;>simp
def adT:(sizeLine:Nat)<2 ^ 63:=by rw[aqC]
def aZk:aff X (λx H Q=>∃k,axL X.K x H k/\Q k H):=by
 intro pins s σ H x v Q I rx h;obtain⟨k,e,q⟩:=h;rw[fS hl adT hs (sizeLine=16777216) sizeLine_eq];cases x with
 |bb=>
  cases rx;have e':dQ k:=e;rw[fz e' (truthy_none ⟨H,I,q⟩)]
 |ah b=>
  cases rx;have e':k=b:=e;rw[fz e' (wpAny_truthy_bool ⟨H,I,q⟩)]
 |int i=>
  rw[r3 rx];have e':k=(i != 0):=e;rw[fz e' (PySem.P.truthy_int ⟨H,I,q⟩)]
 |str y=>
  rw[r3 rx];obtain⟨hy,e'⟩:jB y.length/\k=(aY y.length != 0):=e;rw[fz e' (PySem.P.truthy_str av ⟨H,kT,q⟩)]
 |abS y=>
  rw[r3 rx];obtain⟨hy,e'⟩:jB y.size/\k=(aY y.size != 0):=e;rw[fz e' (PySem.W.truthy_bytes av ⟨H,kT,q⟩)]
 |ref p=>
  cases rx;have e':(∃xs,iw X.K H p xs/\k=QO)\/(∃xs,CR X.K p/\k=QO)\/∃kvs,H p=nh .bA/\k=arj:=e;rcases e' with⟨xs,hx,e'⟩ | ⟨xs,hx,e'⟩ | ⟨kvs,hx,e'⟩
  ·subst e';rw[xW r pl hz (I.list hx)];rw[xO hlen r.length (wpAny_truthy_list pl.isList (by rw[aMg];omega) ⟨H,kT,by rw[az (aEY r) q]⟩)]
  ·subst e';rw[xW r pl hz (I.tuple hx)];rw[xO hlen r.length (truthy_tuple pl (by rw[aMg];omega) ⟨H,kT,by rw[az (aEY r) q]⟩)]
  ·subst e';obtain⟨hz,hS,vs,r,m⟩:Qz/\Ho p/\∃vs,XR/\s.heap.DictOf rS p vs:=WV p hx;rw[rZ hlen aM4 aAx (wpAny_truthy_dict hS m av ⟨H,kT,by rw[az (aSK r) q]⟩)]
 |_=>exact(Vr e).elim
def aVp(ha:akd)(he:∀whole,ari a whole=(do let v ←whole;standAt a.pos;DW [v] (truthy v))):
  uC X a (vm (ta σ H λx H'=>∃k,axL X.K x H' k/\nJ k)):=by
 rw[RN s H Q I h (isTrue_plain (PG (Om s H _ I h) v x (aZk pins s1 σ H1 x v Q aF r1 aB)) (he _))]
def vals1{x:V}Bh(r:Qu [x]):∃u,us=[u]/\w4 x:=by
 cases r with
 |cons r1 r2=>cases r2;exact x6 r1
def vals2{x y:V}Bh(r:Qu [x,y]):∃u w',us=[u,w']/\w4 x/\aii y:=by
 cases r with
 |cons r1 r2=>
  cases r2 with
  |cons qU alj=>cases alj;exact tf _ r1 qU
def aTT Bc:Ar "max" (λxs H Q=>∃i j,xs=[η i,η j]/\Q (η (apL (j > i) i)) H):=by
 rw[Aj s H Q I r h];obtain⟨i,j,rfl,q⟩:=h
 obtain⟨u,w',rfl,⟨t,rfl⟩,⟨t',rfl⟩⟩:=vals2 r;refine max_two_ints (I.ok.hd hc) λh' tk k=>⟨_,H,I.kept k,?_,q⟩;by_cases hj:j > i
 ·rw[agh hj hj];exact fR
 ·rw[arW,arW];exact fR
def aTU Bc:Ar "min" (λxs H Q=>∃i j,xs=[η i,η j]/\Q (η (apL (j<i) i)) H):=by
 rw[Aj s H Q I r h];obtain⟨i,j,rfl,q⟩:=h
 obtain⟨u,w',rfl,⟨t,rfl⟩,⟨t',rfl⟩⟩:=vals2 r;refine min_two_ints (I.ok.hd hc) λh' tk k=>⟨_,H,I.kept k,?_,q⟩;by_cases hj:j<i
 ·rw[agh hj hj];exact fR
 ·rw[arW,arW];exact fR
def aTV:ET (ee "int") (λxs H Q=>(∃i,xs=[η i]/\Q (η i) H)\/∃k,xs=[.ah k]/\Q (η (ago k 0)) H):=by
 rw[Aj s H Q I r h];rcases h with⟨i,rfl,q⟩ | ⟨k,rfl,q⟩
 ·rw[QK u rfl t rfl (vals1 r) (call_int_int ⟨η i,H,I,fR,q⟩)]
 ·rw[HN u r1 r];cases r1;exact call_int_bool (OA (η (ago k 0)) H q)
universe zE
universe L2
namespace L2
open PySem PySem.Spec PyProof.Rows
structure ael DN(x dx C:Addr)(mA:Str->fO):Prop where
 obj:h.get? x=aN (aAL C)
 ns:asK dx
 ne:dx≠x
def aTW sS{dx:Addr}{mA:Str->fO}(n:asK dx):∃od,cE (h.get? dx) od/\∀name,ay8 od=aN (mA name):=by
 obtain⟨o,es,ep,ho,hd,hk,_,hm⟩:=n;rw[eF o ho (ck name)];have e:=hm name;unfold nsFind findBy at e;rw[←Array.find?_toList]at e;rw[dJ PySem.W.lookIn hd];dsimp only;split
 ·rename_i y q;rw[bV q e (congrArg some e)]
 ·rename_i q;rw[q]at e
  rw[bq a (dQ aK6) (by
   rw[List.any_eq_false];intro y hy;obtain⟨z,t,a2G⟩:=hk y (Array.mem_toList_iff.mp hy);simp[DictEntry.refKey,a2G]) a' (¬(aO aK6)) (by rw[ao4 a])]
  rw[QI a' (congrArg some e)]
def ael.look sS{x dx C:Addr}{mA:Str->fO}(I:ael h x dx C mA):∃od,PySem.W.InstAt h x (aAL C) C (some od)/\∀name,ay8 od=aN (mA name):=
 let⟨od,ho,hl⟩:=aTW I.ns
 ⟨od,rC I.obj rfl ho,hl⟩
section
variable {prog:Program}{w:World}{A:Around}{E:iD}{s:Shared}{K:eY}{x dx C f:Addr}{mA:Str->fO}{name:Str}{v:Value}
def get_map{expr:Bool}ro ax0(hg:ao5 K C name)(hh:aze K C)
  (ha:xV (Δ C) name=RO)(hv:mA name=fq)(hv':aMt v)(h:ajI v s 1):
  E8 (getAttr (Δ x) name expr):=by
 rw[QG od J hl I.look (PySem.W.get_value X J azi.1 (PySem.W.findObj_own hh ha rfl (j0 hl hv)) hv' h)]
def aVq aJR ax0(hg:ao5 K C name)
  (hf:xV (Δ C) name=ah4 f)(ht:aqi K (Δ f))(hv:b9 (mA name))(h:Q (Δ f,[Δ x]) s):
  E8 (getMethod (Δ x) name pl):=by
 rw[QG od J hl I.look (PySem.W.method_fn X J azi.1 azi.2 hf (beq_iff_eq.mp ht) (by show cE ((ay8 od).map (·.isSome)) false;rw[hl,hv];rfl) h)]
def aWY{ns:gz}N6 ax0
  (hs:xV (Δ C) "__setattr__" = aN (azV e!))(hp:aO (PySem.W.plainOver K C))(ht:PySem.W.takerIn K C name=RO)(hh:aze K C)
  (hw:aAy ns)(hsz:aMB)
  (h:∀h',ael h' x dx C (Ma y y name fq (mA y))->aoM dx h'->Q () (BG s h' (V3 2))):
  E8 (setAttr (Δ x) name v):=by
 rw[BE od J hl I.look (PySem.W.set_plain X J hs (PySem.W.osa_open (s:=aqU s 1) (r:=none) X J hp ht (ck b)))];rw[agU cd hc hd' (PySem.W.any_some hh) hx (vC x ⟨Δ C,some dx,.plain,#[]⟩) I.obj (fu (LB (fu (fu (wpAny_loadPart hx (fu (PySem.W.Looks.here (s:=aqU s 1) (PySem.W.looks_clsIn X hc) ?_)))))))];rw[hd'];rw[ff (wpAny_pure (a:=some dx) (fu (LB aBN))) (wpAny_nsSet1 (s:=aqU s 1) I.ns (B_ Ge hs2))];obtain⟨a7h,esD,a6X,a4p,a38,a36⟩:=Ge.count (PySem.Within.cons name v hw);rw[tL (fu (wpAny_lookBehind a4p (by rw[az a38 (pastItsLine_dict (EA a36 (by rw[s7 zE])))]) ?_)) (LB (h _ ⟨Hp hs2 _ (Ne.symm I.ne) I.obj,Ge,I.ne⟩ hs2))]
def aVr ayI{vs:cC}{kw:Lb}(X:abB)(hm:aO (PySem.W.makesIn K C))
  (hi:xV (Δ C) "__init__" = aN (jF f))(hf:PySem.W.typeIn K (Δ f)=aoJ "function")
  (h:codeAny mE (ajd (Δ C::vs) kw) (.call (Δ f) ⟨Δ iF::vs,kw⟩) (PySem.W.InitBack iF R)
   (mh s ((UI).push (afW C)))):
  Ll mE A (.call (Δ C) (arN kw)) R s:=by
 obtain⟨hh,g,d,t,os⟩:=s;exact PySem.W.make_core (PySem.W.makes_of X hm) (PySem.W.looks_findIn X hi) (λself=>PySem.W.bind_fn X self hf) (aq rfl) h
universe zE
abbrev nX wQ(v:V):BS->BS
 |[]=>[(f,v)]
 | (g,x)::r=>Wt (g=f) (g,v) r ((g,x)::nX f v r)
def aPH(f g:Str)(v:V):∀fs:BS,kZ (nX f v fs) g=vE g f fq (fs.lookup g)
 |[]=>by
  show List.lookup g [(f,v)]=_;rw[i9 (g=f)]
  ·have hb:gJ (g == f):=aAn;simp only[List.lookup,hb,Lm]
  ·have hb:uP g f:=azO;simp only[List.lookup,hb,D!]
 | (k,x)::r=>by
  have ih:=aPH f g v r;rw[vg (nX f v ((k,x)::r)) (Wt (k=f) (k,v) r ((k,x)::nX f v r))]
  by_cases hk:k=f
  ·rw[Hg];rw[i9 (g=k)]
   ·have hb:gJ (g == k):=aAn;simp only[List.lookup,hb,kR (h.trans hk)]
   ·have hb:uP g k:=azO;simp only[List.lookup,hb,zR (λe:g=f=>h (e.trans hk.symm))]
  ·rw[kE hk];rw[i9 (g=k)]
   ·have hb:gJ (g == k):=aAn;simp only[List.lookup,hb,zR (λe:g=f=>hk (h.symm.trans e))]
   ·have hb:uP g k:=azO;simp only[List.lookup,hb];exact ih
def xI wQ(v:V):∀fs:BS,f∈iE (nX f v fs).map/\∀g,g∈ap9->g∈iE (nX f v fs).map
 |[]=>⟨aK nX,λg h=>BX⟩
 | (k,x)::r=>by
  obtain⟨i1,i2⟩:=xI f v r;rw[vg (nX f v ((k,x)::r)) (Wt (k=f) (k,v) r ((k,x)::nX f v r))]
  by_cases hk:k=f
  ·rw[Hg];subst hk;rw[b7 Ξ (λg h=>bh h)]
  ·rw[kE hk];rw[Ld ?_ g h]
   ·rw[az cZ (oN i1)]
   ·rw[cZ]at h⊢;rcases Q_ with e | e
    ·exact List.mem_cons.mpr (aq e)
    ·exact oN (i2 g e)
def aPI wQ(v:V):∀fs:BS,k8 (nX f v fs) (fs.length+1)
 |[]=>aK nX
 | (k,x)::r=>by
  have ih:=aPI f v r;rw[vg (nX f v ((k,x)::r)) (Wt (k=f) (k,v) r ((k,x)::nX f v r))]
  by_cases hk:k=f
  ·rw[Hg,zE,zE];omega
  ·rw[if_neg hk,zE,zE];omega
def sE.aP1 l!{o:fO}(r:sE fq o):∃u,o=dD/\nF:=by
 cases o with
 |none=>exact(Vr r).elim
 |some u=>exact jh u r
def sE.none_of{o:fO}(r:sE none o):b9 o:=by
 cases o with
 |none=>rfl
 |some u=>exact(Vr r).elim
def aTX l! qo(r:nF):aMt u:=by
 cases v with
 |bb=>cases(kS u Value.none r);rfl
 |ah b=>cases(kS u (Value.bool b) r);rfl
 |int i=>rw[zo e (Aw (u=VJ t) r)];cases e;rfl
 |str x=>rw[zo e (Aw (u=VK x) r)];cases e;rfl
 |abS b=>rw[zo e (Aw (u=Value.bytes b t) r)];cases e;rfl
 |Tv b=>rw[zo e (Aw (u=aBM b) r)];cases e;rfl
 |ref a=>cases(Au a r);rfl
 |ty n=>cases(kS u (Value.type n) r);rfl
section
variable {P:Program}{w:World}{H H':aM}{h h':Heap}{a C dx:Addr}{fs Pm:BS}
def alW(a_:PZ)(e:H a=Z! C):∃mA,ael h a dx C mA/\(∀f,sE QN (mA f))/\aAy ap9/\aB4 1000/\H dx=y_ a:=by
 obtain⟨d,z,ne,ob,mA,n,r,q⟩:=(aqS P w H h a (cQ C dx fs) (a_ a _ e))
 exact⟨mA,⟨ob,n,ne⟩,r,q,z,d⟩
universe zE
structure AZ Ue:Prop where
 aDu:ao5 K C Str.empty
 hd:aze K C
 po:aO (PySem.W.plainOver K C)
 sa:xV (Δ C) "__setattr__" = aN (azV e!)
def AZ.get j? ql(c:AZ K C)wQ:ao5 K C f:=c.aDu
abbrev Y7 Ue wQ:Prop:=xV (Δ C) f=RO
def Y7.a02 j? ql Gy(n:Y7 K C f):PySem.W.takerIn K C f=RO:=by
 rw[Ri PySem.W.takerIn (kS (xV (Δ C) f) RO n)]
structure a5Z Ue wQ(v:V)Gu:Prop where
 at_:xV (Δ C) f=KR u
 rel:nF
 get:QU (azG K u) none
 cp:dQ (PySem.W.copiedNames.contains f)
structure Meth Ue(m:Str)(f:Addr):Prop where
 at_:xV (Δ C) m=ah4 f
 fn:aqi K (Δ f)
 kp:UO K (Δ f)
section
variable {X:bT}{pins:gG}{σ:St}{H:aM}{s:Shared}{a C dx:Addr}{fs:BS}{f:Str}{v:V}{A:Around}{E:iD}
def aSL Gv ro bQ ax3(n:Y7 X.K C f)(l:QN=fq)
  (h:∀u s',Mf->nF->Q u s'):L_ A (getAttr (Δ a) f b):=by
 obtain⟨mA,O,r,_,_,_⟩:=alW I.a_ e;rw[QG u hu cB (aqV v o (mA f) (by rw[b! l (r f)])) (get_map I.qY O (c.get f) c.hd n hu (aTX cB) (h u _ kT cB))]
def aEZ{m:Str}{g:Addr}aJR bQ ax3(k:Meth X.K C m g)(l:b9 (fs.lookup m))
  (h:Q (Δ g,[Δ a]) s):L_ A (getMethod (Δ a) m pl):=by
 obtain⟨mA,O,r,_,_,_⟩:=alW I.a_ e;rw[rZ hn (b9 (mA m)) (sE.none_of (by rw[b! l (r m)])) (aVq I.qY O (c.get m) k.at_ k.fn hn h)]
def aSg ZV N6 bQ ax3(n:Y7 X.K C f)(hl:afG)DO
  (h:∀s',kq (qE a (cQ C dx (nX f y fs))) s'->Q () s'):L_ A (setAttr (Δ a) f u):=by
 obtain⟨mA,O,r,wi,_,ho⟩:=alW I.a_ e
 rw[dX hz (arE ap9) (by rw[eH,sizeLine_eq];omega) (aWY I.qY O c.sa c.po n.a02 c.hd wi hz λh' O' sb=>h _ ?_)];have hd:∃o,h'.get? dx=b8:=let⟨o,_,_,e',_⟩:=O'.ns;⟨o,e'⟩;rw[ah8 (ap7 a e dx (by rw[Ä e]) (aA ho) (PI b q z sb z) hd ?_) ⟨by rw[KN O.ne ho],?_,O.ne,O'.obj,_,O'.ns,ck g,dz g hg⟩]
 ·rw[fZ (aPI f y fs)]
 ·show sE (kZ (nX f y fs) g) (vE g f dD (mA g));rw[aPH]
  by_cases q:g=f
  ·rw[eu (if_pos q) (if_pos q) a!]
  ·rw[arA (if_neg q) q (r g)]
 ·by_cases q:g=f
  ·rw[gh q (xI f y fs).1]
  ·refine(xI f y fs).2 g (wi g (c9 (hg ?_)));show b9 (vE g f dD (mA g));rw[QI q z]
def Inv.made bQ:Inv X pins σ (qu (x_ (.own iF)) iF (cQ C s.heap.objs.size []))
  (mh s ((UI).push (afW C))):=by
 rw[gM e1 (cE ((UI).get? s.heap.objs.size) PySem.W.emptyDict) (GQ s.heap) e2 (((UI).push (afW C)).get? iF=aN (afW C)) (by
  rw[V? (Heap.get?_push_size UI (o:=afW C) rfl) Heap.size_push]) e3 ((UI).Ns s.heap.objs.size (Wa _)) ⟨PySem.W.emptyDict,#[],_,e1,rfl,(aaB e he he),Cv⟩];rw[cV aF (I.laid (a:=s.heap.objs.size) (o:=.own iF) (h':=UI) (t':=s.toks) (uS u q q) fe ⟨_,e1⟩) (aF.laid (a:=iF) (o:=cQ C s.heap.objs.size []) (t':=s.toks) (uS u q q) (Nat.le_of_eq (Heap.size_push _ _)) ?_)];rw[qt ne (s.heap.objs.size≠iF) (aMs _) ⟨j0 (uM ne) h!,HC,ne,e2,Wa _,(Heap.Ns1.of_empty e3).at λo q=>qB q,λ_=>True.intro,agS y hy rfl hy⟩]
def aWZ ax7 T9 Ko Gy DM m8 ro(hb:attributeBase e f env (Č e)=Č e)
  (h:oq mE A (Č e) (λo s₁=>nj mE A (getAttr o f true) Q E s₁) E):E8 (Č (QZ e f pos)):=
 Attribute_any_ h (j0 arm_eval_Attribute hb)
universe zE
abbrev a2H dg(ta:TE)wQ:TE:=Ot H x (∃a C dx fs v,x=Δ a/\H1 a=Z! C/\AZ K C/\Y7 K C f/\QN=fq/\Q v H1)
abbrev a2I dg(ta Jw:TE)wQ:m5:=λD σ H=>Jw σ H (nB y (ta σ H1 (ny x (∃a C dx fs,x=Δ a/\H2 a=Z! C/\AZ K C/\Y7 K C f/\afG ∧
 D.nx σ (qu H2 a (cQ C dx (nX f y fs)))))))
section
variable {X:bT}{o e value:Expr}{f:Str}{pos pos' F6:Pos}{ta Jw:TE}
def aYJ(he:kg e ta)(hb:aot e f (lJ e)=lJ e):pX (QZ e f pos) (a2H X.K ta f):=by
 intro pins s σ H Q I h;refine aWZ hb (mF (zH s σ H _ I h) u ⟨x,H1,aF,rx,a,C,dx,fs,v,ex,ea,c,n,l,q⟩);subst ex;obtain rfl:u=Eo:=rx;exact aSL aF ea c n l λu' s2 bk cB=>⟨v,H1,bk,cB,q⟩
def aYK(ha:kg o ta)(hv:kg value Jw)(hs:aoA value (aN (QZ o f pos'))=XT):n7 X (CJ [QZ o f pos'] value pos) (a2I X.K ta Jw f):=by
 intro pins s σ H D I h;refine plainObj_wpAny_Assign_Attribute (zC (hv pins s σ H _ I h) u s1 y H1 aF a! q (Me (Om s1 H1 _ aF q) ov ⟨x,H2,bk,rx,a,C,dx,fs,ex,ea,c,n,l,aZ⟩)) hs;subst ex;obtain rfl:ov=Eo:=rx;exact aSg bk ea c n l a! λs3 e_=>⟨σ,_,e_,aZ⟩
universe zE
section
variable {X:bT}{pins:gG}{σ:St}{H:aM}{s:Shared}{A:Around}{E:iD}{Q:iD}{c:Value}{b:Bool}
inductive yD dg jU:V->cO Value where
 |bb:yD K H .bb (ee "NoneType")
 |ah(x:Bool):yD K H (.ah x) (ee "bool")
 |int pg:yD K H (η i) (ee "int")
 |str nc:yD K H (Ω x) (ee "str")
 |Tv(x:UInt64):yD K H (.Tv x) (ee "float")
 |lst iB{xs:cH}(e:H a=gY):yD K H (Δ a) BF
 |cw iB{o:Obj}{xs:cH}(e:H a=uW .cw (ς xs)):yD K H (Δ a) BF
 |tup iB{xs:cH}(e:H a=vq):yD K H (Δ a) II
 |bA iB Ob ae6:yD K H (Δ a) (ee "dict")
 |dT iB Kh an1:yD K H (Δ a) (ee "dict")
 |ins{a C dx:Addr}{fs:BS}(e:H a=Z! C)(cl:AZ K C)(ha:xV (Δ C) "__class__" = aN (ao3 e!))
   (hn:azG K IG = aN (apt e!))(htk:PySem.W.takesIn K IG=u6)
   (hm:az2 C aja=u6):yD K H (Δ a) (Δ C)
def aTY{x:V}{u t:Value}bQ(rx:w4 x)(ty:yD X.K H x t)(e:PySem.W.kitOne X.K t c=mD)(h:∀tk,Q (pM b) (azE s tk)):
  ć A (e! "isinstance") [u,c] Q E:=by
 cases ty with
 |bb=>cases(kS u Value.none rx);exact ajm PySem.W.kitx_none e h
 |ah y=>cases(kS u (Value.bool y) rx);exact ajm PySem.W.kitx_bool e h
 |int i=>rw[zo q (Aw (u=VJ t) rx)];cases q;exact ajm PySem.W.kitx_int e h
 |str y=>rw[zo q (Aw (u=VK y) rx)];cases q;exact ajm PySem.W.kitx_str e h
 |Tv y=>rw[zo q (Aw (u=aBM y) rx)];cases q;exact ajm PySem.W.kitx_float e h
 |@lst a xs ea=>
  cases(Au a rx)
  obtain⟨_,_,n,_,h1⟩:=(ahB H a (ς xs) a _ ea)
  exact Q1 PySem.W.kitx_list (uY h1) e (λz=>nomatch z) h
 |@cw a ob xs ea=>
  cases(Au a rx)
  obtain⟨_,_,_,n,_,h1⟩:=(ahB H a (.cw ob (ς xs)) a _ ea)
  exact Q1 PySem.W.kitx_list (uY h1) e (λz=>nomatch z) h
 |@tup a xs ea=>
  cases(Au a rx)
  obtain⟨_,_,_,p⟩:=(ahB H a (aV xs) a _ ea)
  obtain⟨o,h1,h2,_⟩:=p
  exact Q1 PySem.W.kitx_tuple ⟨o,h1,h2⟩ e (λz=>nomatch z) h
 |@bA a kvs ea=>
  cases(Au a rx)
  obtain⟨_,_,vs,_,p⟩:=(ahB H a (.bA kvs) a _ ea)
  obtain⟨o,es,ep,h1,h2,_⟩:=p;exact Q1 PySem.W.kitx_dict ⟨o,h1,h2.1⟩ e (λz=>nomatch z) h
 |@dT a kvs ea=>
  cases(Au a rx)
  obtain⟨_,_,xs,_,o,es,ep,h1,h2,_⟩:=(ahB H a (.dT kvs) a _ ea)
  exact Q1 PySem.W.kitx_dict ⟨o,h1,h2.1⟩ e (λz=>nomatch z) h
 |@ins a C dx fs ea cl ha hn htk hm=>
  cases(Au a rx)
  obtain⟨mA,O,_⟩:=alW I.a_ ea;obtain⟨od,J,_⟩:=O.look
  exact Q1 (PySem.W.kitx_own (cl.get _) cl.hd ha hn htk hm) J e (λz=>nomatch z) h
universe zE
universe L2
namespace L2
open PySem PySem.Spec PyProof.Rows
structure Jl pn(A:Around):Prop where
 hd:aMC
 dp:A.depth+3*k+5<recursionLimit
 un:abH (A.units+16*k+200)
def Jl.mono ae0 uI(r:sZ A)ae1:Jl j A:=⟨r.hd,by rw[fZ r.dp],by rw[fZ r.un]⟩
def Jl.deeper dU uI(r:Jl (k+1) A)(env:Env):sZ (A.deeper env):=
 ⟨r.hd,by have:=r.dp;rw[MJ (A.depth+1+3*k+5<_)],by have:=r.un;rw[MJ (A.units+3+16*k+200<_)]⟩
def aSh uI ql Bh{kw:Lb}:(ajd (Δ C::us) kw).depth=A.depth+1:=by
 first | rfl | simp[Around.under,Code.weight,Code.isCreation,Code.isGuard,Code.isCaller,Code.frames,Code.isFrame,guardIds]
def aSi uI ql Bh{kw:Lb}:(ajd (Δ C::us) kw).units=A.units+1:=by
 first | rfl | simp[Around.under,Code.cUnits,Code.frames,Code.isFrame]
def Jl.make dU uI(r:Jl (k+1) A)m9 Bg(kw:Lb):sZ (ajd (Δ C::us) kw):=
 ⟨r.hd,by have:=r.dp;rw[s7 aSh],by have:=r.un;rw[s7 aSi]⟩
def Jl.depth dU uI(r:sZ A):A.depth<recursionLimit:=by rw[fZ r.dp]
def Jl.units dU uI(r:sZ A):ayS 64:=by rw[fZ r.un]
abbrev Zs:mZ:=λ_ H Q=>Q [] H
abbrev Bi(ta:TE)(tr:mZ):mZ:=Ot H x (tr σ H1 (ny xs (Q (x::xs) H2)))
section
variable {X:bT}{e:Expr}{es:dF}{te:TE}{t:mZ}{pos:Pos}
def adA:o8 X [] Zs:=λ_ _ _ _ H Q I h=>Calls.spliced_nil ⟨[],H,I,cW,h⟩
def SH(ha:ayQ)(hr:o8 X es t)aye:o8 X (e::es) (Bi te t):=by
 intro pos pins s σ H Q I h;rw[hs];show oq _ _ (spliced (abx::PU es)) _ _;rw[tL (UP (aib s H _ I h u x)) (zC (hr pos pins s1 σ H1 _ aF aB) us s2 xs H2 bk r2 aZ ⟨x::xs,H2,bk,bN r1 r2,aZ⟩)]
abbrev a2J(t:mZ):TE:=LX H xs (KL/\∀p,Ř p->Q (Δ p) (V6 H1 p aV xs))
abbrev a2K(t:mZ):TE:=LX H xs (KL/\∀p,Ř p->Q (Δ p) (HZ H1 p xs))
def aYL{x1}(h:o8 X es t):pX (L? es x1 pos) (a2J t):=by
 intro pins s σ H Q I hq;refine wpAny_Tuple_spliced (El (h pos pins s σ H _ I hq) us s1 ⟨xs,H1,aF,r,z,q⟩ (lM (by rw[b! r.length z])));rw[qt hf aLQ Rb (iX (Δ s1.heap.objs.size) (qu H1 s1.heap.objs.size (aV xs)) (aF.laid (t':=s1.toks) (uS u e e) fe ?_) (q _ hf))];exact⟨z,us,r,mw _ (GQ _) _ rfl⟩
def aYM(h:o8 X es t):pX (.List es pos) (a2K t):=by
 intro pins s σ H Q I hq;refine wpAny_List_spliced (El (h pos pins s σ H _ I hq) us s1 ⟨xs,H1,aF,r,z,q⟩ (lM (by rw[b! r.length z])));rw[qt hf aLQ Rb (iX (Δ s1.heap.objs.size) (qu H1 s1.heap.objs.size (ς xs)) (aF.laid (t':=s1.toks) (uS u e e) fe ?_) (q _ hf))];exact⟨z,us,0,r,GQ _⟩
universe zE
noncomputable abbrev uF:=cH->aM->aeI->cO d_
noncomputable abbrev Dl:=DR->aM->Shared->d_->iD
structure Td DH TV anx kP jU:Prop where
 frames:cE A.frames outer
 mod:Mod K mg base
 bs:∀b o,base.get? b=b8->kr/\j3
 Zw:base.objs.size≤s.heap.objs.size
 De:s.heap.FunFrames base outer
 Tw:GO D? j3
 a_:EU H s.heap
 bare:aMX
abbrev avN(outer:DR)DH jU kP yT Gu Kd:Prop:=
 ∃v H',s'.os=s.os/\þ/\iA D? [] H H' s.heap s'.heap/\EU H' s'.heap/\nF/\nJ v
abbrev aQB(gH:Dl)(outer:DR)DH jU kP yT(E:d_)(r:Result)Kd:Prop:=
 match r with
 |.ok (.ret u)=>avN outer P w H s Q u s'
 |.ok _=>False
 |.error e=>gH outer H s E e s'
structure qT DH TV(gH:Dl)pn(f:Addr)an9(ps:gz)(sp:uF):Prop where
 len:∀vs H Q E,sp vs H Q E->aBV
 run:∀anx kP jU(args:Args)Bg(vs:cH)yT(E:d_),sZ A->Td P w K mg base A outer s H->BindsTo s fd args UZ->OS->sp vs H Q E →
  Ll (model P w) A (.call (Δ f) args) (aQB gH outer P w H s Q E) s
def qT.mono Kq Ul ae0 aeV{sp:uF}(F:qT P w K mg base gH j f fd ps sp)ae1:
  qT P w K mg base gH k f fd ps sp:=⟨F.len,λA outer s H args us vs Q E hr=>F.run A outer s H args us vs Q E (hr.mono h)⟩
def qT.imp Kq Ul dU aeV{sp aPe:uF}(F:qT P w K mg base gH k f fd ps sp)
  (h:∀vs H Q E,aPe vs H Q E->sp vs H Q E):qT P w K mg base gH k f fd ps aPe:=
 ⟨λvs H Q E q=>F.len vs H Q E (h _ _ _ _ q),λA outer s H args us vs Q E hr he hb hv hs=>F.run A outer s H args us vs Q E hr he hb hv (h _ _ _ _ hs)⟩
def Td.make Kq uI N8 m8 iV(e:Td P w K mg base A outer s H)m9 Bg(kw:Lb):
  Td P w K mg base (ajd (Δ C::us) kw) outer s H:=⟨by first | exact e.frames | (simpa[Around.under,Code.envs,Code.isFrame,pushEnvs] using e.frames),e.mod,e.bs,e.Zw,e.De,e.Tw,e.a_,e.bare⟩
section
variable {X:bT}{pins:gG}{σ:St}{H:aM}{s s':Shared}
def Inv.aNL bQ:Td X.prog X.w X.K X.mg X.base X.A X.stack s H:=
 ⟨I.ok.frames,I.ok.mod,I.bs,aoV I.sz,I.stack,I.awc,I.a_,I.bare⟩
def Inv.after pB qo bQ(h:avN X.stack X.prog X.w H s Q u s'):Px X Q u s':=by
 obtain⟨v,H',os,bare,un,a_,r,q⟩:=h;obtain⟨hh,g,d,t,os'⟩:=s';obtain rfl:os'=s.os:=os;exact⟨v,H',I.call (h':=hh) (g':=g) (d':=d) (t':=t) (ch:=[]) un a_ bare (aaB b z z),r,q⟩
universe zE
abbrev Binds dg an9(ps:gz)(ds:cC):Prop:=
 ∀kP Bg,abB->ń (vR us ds)->BindsTo s fd (rU us) (ps.zip (us++ds))
def Binds.all j?{fd:FuncData}{ps:gz}(h:∀us:cC,aBU->aBD fd us=G1 UZ):Ia K:=λs us _ hl=>by
 rw[rQ mV hl (.of_eq (h us hl))]
abbrev Passes(gH:Dl)fY(E:d_):Prop:=∀(pins:gG)aeN kP aof,iO->gH X.stack H s E e s'->X.qZ e s'
section
variable {X:bT}{gH:Dl}{k:Nat}{f C:Addr}{fd:FuncData}{ps:gz}{sp:uF}{Dm:cH}{ds:cC}{E:d_}{x m:Str}{p pos apos:Pos}{e o:Expr}{es:dF}{ta:TE}{t:mZ}
structure aw4 dg(C f:Addr):Prop where
 makes:aO (PySem.W.makesIn K C)
 init:xV (Δ C) "__init__" = aN (jF f)
 fn:aqi K (Δ f)
 kp:UO K (Δ C)
universe zE
section
variable {X:bT}{gH:Dl}{k:Nat}{f C:Addr}{fd:FuncData}{ps ks:gz}{sp:uF}{E:d_}{x m:Str}{p pos apos a6I:Pos}{e o:Expr}{es:dF}{kws:XY}{te ta:TE}{t tk:mZ}{nm:Option Str}
structure a6v dg an9(ps ks:gz)(g:cC->cC->cC)(aOm:cH->cH->cH):Prop where
 to:∀kP(us ws:cC),abB->ń (di (g us ws))->BindsTo s fd ⟨us,ks.zip ws⟩ (ps.zip (g us ws))
 rel:∀wR Bh{zs:cH}{ws:cC},OS->Vals zs ws->Io (aOm vs zs) (g us ws)
variable {g:cC->cC->cC}{aOm:cH->cH->cH}
universe zE
structure ag8(N P:gz)(sc:Scope):Prop where
 kind:sc.kind=HH
 co:aLI
 gen:aLJ
 nd:N.Nodup
 pre:N.take P.length=P
 par:∀x∈P,BO=Co \/ BO=oQ
 aYN:∀y∈sc.names,y.2≠As
def aFA anM:∀{binds:Lb}afu,(∀v,(x,v)∉binds)->arl binds m x=m x
 |[],_,_=>rfl
 | (n,v)::r,m,h=>by
  rw[dJ bindL (aFA λw hw=>h w (oN hw))];split
  ·have:x≠n:=by rintro rfl;exact aLT v
   simp[this]
  ·rfl
def aFB anM:∀{binds:Lb}afu,(∀v,(x,v)∉binds)->arn binds m x=m x
 |[],_,_=>rfl
 | (n,v)::r,m,h=>by
  rw[dJ bindC (aFB λw hw=>h w (oN hw))];split
  ·rfl
  ·have:x≠n:=by rintro rfl;exact aLT v
   simp[this]
def aFC anM aeY:∀{P:gz}{vs:cC}gx afu,P.Nodup->jk P x->Av vs->kindOf x=Co →
  arl Ď m x=fq
 |[],_,_,_,_,h,_,_=>BX
 |_::_,[],_,_,_,_,h,_=>BX
 |p::P,w::vs,0,m,nd,h1,h2,hk=>by
  simp at h1 h2;subst h1;subst h2;show arl ((p,w)::Ď) m p=_;rw[f5 bindL (aFA λv hv=>ao9.1 aLG.1) Hg];simp
 |p::P,w::vs,i+1,m,nd,h1,h2,hk=>by
  rw[ME (arl ((p,w)::Ď) m x=_) bindL];exact aFC (i:=i) ao9.2 (bh h1) (bh h2) hk
def aFD anM aeY:∀{P:gz}{vs:cC}gx afu,P.Nodup->jk P x->Av vs->kindOf x≠Co →
  arn Ď m x=fq
 |[],_,_,_,_,h,_,_=>BX
 |_::_,[],_,_,_,_,h,_=>BX
 |p::P,w::vs,0,m,nd,h1,h2,hk=>by
  simp at h1 h2;subst h1;subst h2;show arn ((p,w)::Ď) m p=_;rw[f5 bindC (aFB λv hv=>ao9.1 aLG.1) (if_neg hk)];simp
 |p::P,w::vs,i+1,m,nd,h1,h2,hk=>by
  rw[ME (arn ((p,w)::Ď) m x=_) bindC];exact aFD (i:=i) ao9.2 (bh h1) (bh h2) hk
abbrev start(N:gz)(vs:cH):St:=UR (vs.map some) (N.length-vs.length) none
abbrev sA(gH:Dl)DH TV(N:gz)(qual:Str)(scope:Scope)(f:Addr)(cd:Value)T5:bT where
 prog:=P
 w:=w
 K:=K
 mg:=mg
 base:=base
 A:=A.deeper oj
 N:=N
 s₀:=s
 H₀:=H
 env:=oj
 outer:=outer
 stack:=Ű
 ex:=[]
 calm:=true
 fn:=zK
 fJ:=[]
 qZ:=λe s'=>nj (model P w) (A.deeper oj) (leaving oj e) (cK s'' (gH outer H s E e s'')) (λe' s''=>gH outer H s E e' s'') s'
def aFQ{sc:Scope}bf d!(h:BO=oQ):∃c,kZ (cellsFrom n sc.names []) x=lK:=by
 rw[xO q (PySem.W.cellsFrom_some sc.names n [] (aq h)) (Option.isSome_iff_exists.mp q)]
def aTZ Ul Kq N? an7 ans uI N8{s s1:Shared}iV Bm Bh wR
  ayx(hd:aMC)(e0:Td P w K mg base A outer s H)(hl:aBV)(r:OS)
  (x:InCallC s s.heap.objs.size (bindL (oj).kindOf UZ (Wa _)) (cellsFrom iF scope.names []) (bindC (oj).kindOf UZ (Wa _)) s1):
  Inv (sA gH P w K mg base N qual scope f cd A outer s H E) [] (aiZ N) H s1:=by
 have g8:Ì N.length:=by rw[rV (ay5 S.pre) List.length_take];omega
 obtain⟨h1,tk,rfl,hk⟩:=x.done;rw[qt ak6 (∀b:Addr,b∉(sA gH P w K mg base N qual scope f cd A outer s H E).ex) (aaB b z (ĥ b ([]:cz) z)) ⟨⟨e0.mod,S.kind,rfl,rfl,fe,tC y z c h1 h2,dz y hy,jj y c _ h,λ_=>hd,Around.frames_deeper e0.frames,aA (lS rfl),agS b z z (ak6 b),e0.bs,e0.Zw,λb _ _=>ak6 b,agS b z z (ak6 b),e0.De,e0.Tw⟩,
  rfl,e0.bare,iA.kept hk,⟨_,x.toInCall.ns,zc i y v h1 h2 h3⟩,λy c h=>⟨_,x.cell y c h⟩,e0.a_.fresh fe,cP y c h,aaB p hp (ĥ p ([]:gG) hp),e0.a_.kept hk,?_⟩]
 ·exact name_of_addr x.apart (PySem.mem_of_lookup h1) (PySem.mem_of_lookup h2)
 ·have hy:õ y oQ\/õ y Fb:=hy;rcases hy with hy | hy
  ·exact aFQ hy
  ·rw[Q! (S.aYN _ (PySem.mem_of_lookup hy))]
 ·exact ap6 (x.above y c aLM)
 ·rw[bq hi (i<vs.length) (by
   unfold start at h2;by_cases hi:i<vs.length
   ·exact hi
   ·rw[apz W8]at h2;rw[List.getElem?_replicate]at h2;split at h2<;>cases h2) ha (Av vs) (by
   unfold start at h2;rw[UK W8,eX]at h2;cases e:vs[i]? with
   |none=>rw[e]at h2;cases h2
   |some a=>rw[e]at h2;cases h2;rfl)]
  obtain⟨u,hu,rv⟩:=r.get ha
  rw[bq hp (jk ps y) (by
   rw[←S.pre,List.getElem?_take_of_lt av];exact h1) aOZ ps.Nodup (by rw[b! S.pre (S.nd.sublist (List.take_sublist _ _))])]
  rw[Af u rv];rcases S.par y (List.mem_of_getElem? hp) with k | k
  ·exact EV k (aFC aOZ hp hu k)
  ·rw[BB c e (aFQ (n:=iF) k) (aA ⟨aq k,c,e,?_⟩)];have q:=x.cell y c e;rw[bV (aFD aOZ hp hu (by show scope.names.lookup y≠_;rw[k];decide)) q q]
 ·exact e0.a_.fresh (ap6 (x.above y c aLM))
 ·unfold start;show _=N.length;rw[List.length_append,eH,List.length_replicate];omega
def a03 Ul Kq dU{f:Addr}{name qual:Str}{params:Arguments}{body:yY}afa{dV kV doc pm fW ct oc:Value}{an od:X3}
  {NK:Array fO}N?{sp:uF}(lk:aqW f ⟨oc,od,.func (aa8 name params body scope dV pm an fW ct),NK⟩)(PQ:apg K fW qual)ayx
  (len:∀vs H Q E,sp vs H Q E->aBV)
  (a0E:∀anx kP jU(vs:cH)yT(E:d_),sZ (A.deeper (envOfC qual scope s.heap.objs.size f fW))->sp vs H Q E →
   ∃t,ux (sA gH P w K mg base N qual scope f fW A outer s H E) body t/\t { nx:=cK H' (nJ .bb),fk:=Q} (aiZ N) H):
  qT P w K mg base gH (k+1) f (aa8 name params body scope dV pm an fW ct) ps sp:=by
 rw[fy len (λA outer s H args us vs Q E hr e0 hb r NL=>?_)];have hl:=len _ _ _ _ NL;rw[gM g_ abB (e0.mod.acy.keeps λb o e=>(e0.bs b o e).1) lim s.heap.NoLimit (e0.mod.nolimit.keeps λb o e=>(e0.bs b o e).1) amy (∀y∈UZ,õ y.1 Co \/ (õ y.1 oQ/\Ab (kZ (cellsFrom iF scope.names []) y.1))) (fun⟨n,v⟩ hy=>by
  rcases S.par n (List.of_mem_zip hy).1 with q | q
  ·exact aq q
  ·exact r? q (PySem.W.cellsFrom_some _ _ _ (aq q)))]
 rw[ff (codeAny_call_function hr.depth (g_ _ _ lk) rfl S.co S.gen rfl (PySem.W.codeRec_of g_ PQ) (hb _ _ _ _ ?_)) (wpAny_newFunctionEnv_cells S.kind amy (jj env he s1 x))];subst he;rw[fy (lim.keeps x.toInCall.keep) (codeAny_func ?_)];rw[agU t ht hq (a0E A outer s H vs Q E (hr.deeper _) NL) I (Inv (sA gH P w K mg base N qual scope f fW A outer s H E) [] (aiZ N) H s1) (aTZ S hr.hd e0 hl r x) (KX (ht [] s1 (aiZ N) H _ I hq) (cP fl s' hs) e s' hs hs)]
 have fin:∀{σ':St}{H':aM}l! qo,aai (sA gH P w K mg base N qual scope f fW A outer s H E) [] H' s'->nF->nJ v->avN outer P w H s Q u s':=
  λ{σ' H' v u} J rv q=>⟨v,H',J.os,J.bare,J.base,J.a_,rv,q⟩
 cases fl with
 |ret u=>
  obtain⟨v,σ',H',J,rv,q⟩:=hs;exact fin J rv q
 |next=>
  rw[QK σ' H' J q hs (fin (v:=V.bb) (u:=Value.none) J rfl q)]
 |brk=>
  obtain⟨_,_,_,q⟩:=hs;rw[BH q]
 |cont=>
  obtain⟨_,_,_,q⟩:=hs;rw[BH q]
universe L2
namespace L2
open PySem PySem.Spec PyProof.Rows
section
variable {X:bT}{x:Str}{p pos:Pos}{e:Expr}{es:dF}{t:mZ}{id T:String}{r:cH->aM->jA}
abbrev aDN(r:cH->aM->jA)(t:mZ):TE:=LX H vs (r vs H1 Q)
def avE(hc:Ar id r)anr(hv:Kx=d7 e! id)afb N3 N4
  TU:ajA (cU x p) (e::es) (aDN r t):=by
 rw[r8 Q (UQ (adz I hg hm hv ?_ hn Nz))];exact PyProof.Rows.callWith_builtin1 (PG (ha pos pins s σ H _ I h) us vs (hc pins s1 σ H1 vs us Q aF r1 aB)) he g8
def aT0(hc:ET (ee T) r)anr(hv:Kx=aoJ T)afb N3 N4
  TU:ajA (cU x p) (e::es) (aDN r t):=by
 rw[r8 Q (UQ (adz I hg hm hv ?_ hn Nz))];exact apx (PG (ha pos pins s σ H _ I h) us vs (hc pins s1 σ H1 vs us Q aF r1 aB)) he g8
universe zE
universe L2
namespace L2
open PySem PySem.Spec PyProof.Rows
section
variable {κ:Type} [BQ]
abbrev oy aft:GY:=GH (kvs.find? (Mg (j6=k))).map
abbrev putK aft(v:V):DQ:=
 ag1 (agm kv (j6=k)) (kvs.map (λkv=>aj3 (j6=k) v kv)) (kvs++[(k,v)])
abbrev Nm aft:DQ:=kvs.filter (oE kv j6 k)
def wq{p:κ×V}{r:DQ}{k:κ}(e:p.1=k):oy (p::r) k=xP p:=Qs oy e
def avf{p:κ×V}{r:DQ}{k:κ}(e:¬p.1=k):oy (p::r) k=oy r k:=Qs oy e
def aFR qn:∀kvs:DQ,(agm kv (j6=k))=tE yc
 |[]=>rfl
 |p::r=>by
  rw[List.any_cons];rw[t6 p k]
  ·simp only[wq e,aNm,Bool.true_or,Option.isSome_some]
  ·rw[avf e,aNa,Bool.false_or];exact aFR k r
def tJ aft(v:V):k8 (zw k v) (kvs.length+1):=by
 unfold putK;split
 ·rw[s7 eH]
 ·rw[List.length_append,zE,yE];omega
def sE.acQ{o:GY}{u:fO}(r:sE o u):o.isSome=u.isSome:=by
 cases o with
 |none=>cases u with
  |none=>rfl
  |some _=>exact(Vr r).elim
 |some _=>cases u with
  |none=>exact(Vr r).elim
  |some _=>rfl
def sE.getD{o:GY}{u:fO}{d:V}{d':Value}(r:sE o u)(rd:RelV d d'):RelV (o.getD d) (u.getD d'):=by
 cases o with
 |none=>cases u with
  |none=>exact rd
  |some _=>exact(Vr r).elim
 |some _=>cases u with
  |none=>exact(Vr r).elim
  |some _=>exact r
def jS.val T6 qn:sE yc (U0 vs):=by
 unfold jS at r
 induction r with
 |nil=>exact True.intro
 |@cons p q ps gu h t ih=>
  rw[Ah h];rw[t6 p k]
  ·rw[bq e' (q.1=k) agR b (U0 (q::gu)=xP q) (Qs valueAt e')]
   rw[eu (wq e) b h2]
  ·rw[bq e' (¬q.1=k) (c9 (e agk)) b (U0 (q::gu)=U0 gu) (Qs valueAt e')]
   rw[eu (avf e) b ih]
def jS.any T6 qn:(agm kv (j6=k))=vs.any (Mg (j6=k)):=by
 unfold jS at r
 induction r with
 |nil=>rfl
 |cons h t ih=>rw[List.any_cons,List.any_cons,ih,h.1]
def jS.axG T6 qn ZV DO:
  jS (Cp kv (aj3 (j6=k) y kv)) (vs.map λkv=>aj3 (j6=k) u kv):=by
 unfold jS at r⊢
 induction r with
 |nil=>rw[s8]
 |@cons p q ps gu h t ih=>
  rw[cZ,cZ];refine bN ?_ ih;rw[Ah h];rw[t6 p k]
  ·rw[xD,kR agR];rw[b7 h1 a!]
  ·rw[u!,HF z (e agk)];rw[b7 h1 h2]
def jS.put T6 qn ZV DO:jS (zw k y) (stored vs k u):=by
 unfold putK stored;rw[r.any k];rw[rA e (vs.any (Mg (j6=k)))]
 ·rw[eu xD xD (r.axG k a!)]
 ·rw[eu u! u! (Paired.snoc r (kU a!))]
def jS.drop T6 qn:jS (Nm kvs k) (without vs k):=by
 unfold jS at r⊢;unfold Nm without
 induction r with
 |nil=>rw[s8]
 |@cons p q ps gu h t ih=>
  rw[Ah h];rw[List.filter_cons,List.filter_cons];rw[t6 p k]
  ·rw[bq a (¬(as9 p.1 k)) HW b (¬(as9 q.1 k)) (aK agR)]
   rw[eu (if_neg a) (if_neg b) ih]
  ·rw[gM e' (¬q.1=k) (c9 (e agk)) a (as9 p.1 k) HW b (as9 q.1 k) (aK e')]
   rw[eu (if_pos a) (if_pos b) (bN ⟨h1,h2⟩ ih)]
def jS.length T6:aM4:=aAx
def aFS aft:k8 (Nm kvs k) kvs.length:=qx
universe zE
def FP wL DC qo(r:w4 (kV k)):aO ((CZ P w).is k u):=by
 cases k with
 |inl i=>rw[zo e (Aw (u=VJ t) r)];rw[fz e (aRv P w i t)]
 |inr x=>rw[zo e (Aw (u=VK x) r)];rw[fz e (aRw P w x t)]
def aFE wL:∀{ks:tu}Bh,Qu ar2->ItemsAre (CZ P w) ks us
 |[],_,r=>by rw[zD]at r;cases r;rw[s8]
 |k::ks,_,r=>by
  rw[cZ]at r;cases r with
  |cons h t=>exact bN (FP h) (aFE t)
noncomputable abbrev KT jU:atA->cO aox:=Paired λp q=>p.1=q.1/\H q.2.1=xZ (p.1.map kV)/\RelV p.2 q.2.2
def KT.val iV Kh anu(k:tu):sE yc (GH (Wc xs).map):=by
 induction r with
 |nil=>exact True.intro
 |@cons p q ps gu h t ih=>
  obtain⟨h1,_,h2⟩:=h;rw[t6 p k]
  ·rw[bq e' (q.1=k) agR b (Wc (q::gu)=xP q) (Qs atKey e')]
   rw[eu (wq e) b h2]
  ·rw[bq e' (¬q.1=k) (c9 (e agk)) b (Wc (q::gu)=Wc gu) (Qs atKey e')]
   rw[eu (avf e) b ih]
def KT.axG iV Kh anu(k:tu)ZV DO:
  KT H (Cp kv (aj3 (j6=k) y kv)) (xs.map (putAt k u)):=by
 induction r with
 |nil=>rw[s8]
 |@cons p q ps gu h t ih=>
  rw[cZ,cZ];refine bN ?_ ih;rw[ahX h1 h3 h];unfold putAt;rw[t6 p k]
  ·rw[xD,kR agR];rw[bC h1 h2 a!]
  ·rw[u!,HF z (e agk)];rw[bC h1 h2 h3]
def KT.put iV Kh anu(k:tu){b:Addr}ZV(hb:H b=xZ ai0)DO:
  KT H (zw k y) (storedH xs k b u):=by
 have e:(agm kv (j6=k))=tE (Wc xs):=by
  rw[aFR,(r.val k).acQ,Option.isSome_map]
 unfold putK storedH;rw[e]
 by_cases q:Ab (Wc xs)
 ·rw[eu (if_pos q) (if_pos q) (r.axG k a!)]
 ·rw[arA (if_neg q) q (Paired.snoc r ⟨rfl,hb,a!⟩)]
def KT.keeps{H H':aM}Kh anu(ht:∀b ys,H b=xZ ys->H' b=xZ ys):aoz H':=
 ap5 r _ _ z ⟨z.1,ht _ _ z.2.1,z.2.2⟩
section
variable {P:Program}{w:World}{H:aM}{h:Heap}{a:Addr}
def aIE{u:je}Kn(e:uD H a u):uc P w H h a u:=e.ok ok
def wx Ob Kn(e:uD H a (.bA kvs)):Qz/\Ho a/\∃vs,XR/\h.DictOf (CZ P w) a vs:=
 aqS P w H h a (.bA kvs) (aIE ok e)
def Nn Ob Kn ae6:Qz/\Ho a/\∃vs,XR/\h.DictOf (CZ P w) a vs:=wx ok (aq e)
def vw{ks:tu}Kn(e:H a=xZ ar2):(aiu P w).is h ks a:=by
 obtain⟨_,cb,r,o,h1,h2,n,h3⟩:=(aqS P w H h a (aV ar2) (ok a _ e))
 exact⟨o,cb.toArray,n,h1,h2,h3,bh (aFE r)⟩
def S0 Kh Kn(e:uD H a (.dT kvs)):Qz/\Ho a ∧
  ∃xs,aoz H/\h.DictOfH (aiu P w) a xs:=by
 obtain⟨z,y,xs,r,o,es,ep,h1,h2,h3,h4,h5⟩:=(aqS P w H h a (.dT kvs) (aIE ok e))
 refine⟨z,y,xs,r,o,es,ep,h1,h2,h3,h4,dz x hx,h5⟩
 rw[rZ all (∀{l:atA}{m:aox},KT H l m->∀x∈m,(aiu P w).is h x.1 x.2.1) (by
  intro l m q
  induction q with
  |nil=>intro x hx;exact nomatch hx
  |@cons p q ps gu hq t ih=>
   intro x hx;rcases aL4 with e | hx
   ·rw[fz e (vw ok (by rw[b! hq.1 hq.2.1]))]
   ·exact ih x hx) (all r x hx)]
def a0F Kh Kn an1:Qz/\Ho a ∧
  ∃xs,aoz H/\h.DictOfH (aiu P w) a xs:=S0 ok (aq e)
universe zE
abbrev AR Of(y:V)(r:GY):Prop:=
 (∃kvs k,uD H a (.bA kvs)/\y=kV k/\r=yc)\/∃kvs k b,uD H a (.dT kvs)/\y=Δ b/\H b=xZ ai0/\r=yc
abbrev JG Of(y v:V)(H':aM):Prop:=
 (∃kvs k,H a=nh .bA/\y=kV k/\aqM/\H'=rT a .bA (zw k v)) ∨
 ∃kvs k b,H a=nh .dT/\y=Δ b/\H b=xZ ai0/\aqM/\H'=rT a .dT (zw k v)
def AR.k iV iB Ob DC ae6:AR H a (kV k) yc:=aq (iX kvs k (aq e) rfl)
def AR.t afm Kh{k:tu}an1(eb:H b=xZ ai0):AR H a (Δ b) yc:=aA ⟨kvs,k,b,aq e,rfl,eb,rfl⟩
def JG.k iV iB Ob DC l! ae6(hl:aqM):JG H a (kV k) v (rT a .bA (zw k v)):=aq ⟨kvs,k,e,rfl,hl,rfl⟩
def JG.t afm Kh{k:tu}l! an1(eb:H b=xZ ai0)(hl:aqM):
  JG H a (Δ b) v (rT a .dT (zw k v)):=aA ⟨kvs,k,b,e,rfl,eb,hl,rfl⟩
section
variable {X:bT}{pins:gG}{σ:St}{H:aM}{s:Shared}{a:Addr}{y v:V}{u r:Value}{o:GY}{A:Around}{E:iD}
def Inv.big bQ:Uy sysModules:=by
 rw[rZ h (Uy mainGlobals) (azs).lt (Nat.lt_trans aC h)]
def aT2 afo bQ(g:AR H a y fq)DO(h:∀w' s',Mf->aii v->Q w' s'):
  L_ A (getItem (Δ a) u):=by
 rcases g with⟨kvs,k,e,ey,l⟩ | ⟨kvs,k,b,e,ey,eb,l⟩
 ·subst ey;obtain⟨z,hd,vs,rel,dd⟩:=wx I.a_ e;rw[QG w' hw mX (aqV v o (U0 vs) (by rw[az l zm])) (wpAny_getItem_of (FP a!) dd.mapOf hw (h w' _ kT mX))]
 ·subst ey;cases(Au b a!)
  obtain⟨z,hd,xs,rel,dd⟩:=S0 I.a_ e;rw[Hw w' hw mX (aqV v o (GH (Wc xs).map) (by rw[az l zm])) p hp o5 (Option.map_eq_some_iff.mp hw)];rw[agg (wpAny_getItem_heap Õ (aak eb) dd hp ?_) o5 (h w' _ kT mX)]
def a2L afo afd DO(h:∀s',Mf->Q (pM o.isSome) s'):
  L_ A (compareOp .In u (Δ a)):=by
 rcases g with⟨kvs,k,e,ey,l⟩ | ⟨kvs,k,b,e,ey,eb,l⟩
 ·subst ey;obtain⟨z,hd,vs,rel,dd⟩:=wx I.a_ e;refine wpAny_in_of (FP a!) hd dd.mapOf ?_;rw[LL (zm).acQ l (h _ kT)]
 ·subst ey;cases(Au b a!)
  obtain⟨z,hd,xs,rel,dd⟩:=S0 I.a_ e
  refine wpAny_in_heap Õ (aak eb) hd dd ?_;rw[jm q (zm).acQ Option.isSome_map q];rw[LL q l (h _ kT)]
def aW0 afo afd DO(h:∀s',Mf->Q (pM (! o.isSome)) s'):
  L_ A (compareOp .NotIn u (Δ a)):=by
 rcases g with⟨kvs,k,e,ey,l⟩ | ⟨kvs,k,b,e,ey,eb,l⟩
 ·subst ey;obtain⟨z,hd,vs,rel,dd⟩:=wx I.a_ e;refine wpAny_notIn_of (FP a!) hd dd.mapOf ?_;rw[LL (zm).acQ l (h _ kT)]
 ·subst ey;cases(Au b a!)
  obtain⟨z,hd,xs,rel,dd⟩:=S0 I.a_ e
  refine wpAny_notIn_heap Õ (aak eb) hd dd ?_;rw[jm q (zm).acQ Option.isSome_map q];rw[LL q l (h _ kT)]
def alF aeZ Bd{ob:je}bQ(C6:aw5 (H a))(hs:aoM a h')(he:Ao q ĩ q)(new:Li (qE a ob) h' a ob):
  WH (qE a ob) s h':=
 ap7 a e a C6 (aq rfl) (PI b q z hs z) he new
def al8 wL{H':aM}aeZ Ob{vs:į}(z:Qz)(hd:Ho a)(rel:XR)(dd:h'.DictOf (CZ P w) a vs):
  uc P w H' h' a (.bA kvs):=⟨z,hd,vs,rel,dd⟩
def aT3{H':aM}N6(hu:ayS 1)bQ(g:JG H a y v H')DO(rv:RelV v r)(h:∀s',Ow->Q () s'):
  L_ A (setItem (Δ a) u r):=by
 rcases g with⟨kvs,k,e,ey,l,aL⟩ | ⟨kvs,k,b,e,ey,eb,l,aL⟩
 ·subst ey aL;obtain⟨z,hd,vs,rel,dd⟩:=Nn I.a_ e
  rw[vI hz aBT (by rw[ap0 z]) hl (arE (zw k v)) (by rw[fZ (tJ kvs k v)]) (wpAny_setItem_pairs (hsz:=hz) (FP a!) dd λh' yJ hs=>h _ ?_)];have he:Ao q ĩ q:=let⟨q,_,_,hq,_⟩:=yJ;⟨q,hq⟩
  exact alF I (by rw[Ä e]) hs he (al8 hl hd (rel.put k rv) yJ)
 ·subst ey aL;cases(Au b a!)
  obtain⟨z,hd,xs,rel,dd⟩:=a0F I.a_ e
  rw[vI hz KL (by rw[b! (Paired.length rel) z]) hl (arE (zw k v)) (by rw[fZ (tJ kvs k v)]) (wpAny_setItem_heap (hsz:=hz) Õ (aak eb) dd λh' yJ hs=>h _ ?_)];obtain⟨q,es,ep,hq,h2,h3,h4,_,h5⟩:=yJ;refine alF I (by rw[Ä e]) hs ⟨q,hq⟩ ⟨hl,hd,_,(rel.put k eb rv).keeps (cP c ys ec),q,es,ep,hq,h2,h3,h4,h5⟩;rw[gT (aZ5 ec e (λz=>nomatch z)) ec]
universe zE
section
variable {X:bT}{pins:gG}{σ:St}{H:aM}{s:Shared}{a:Addr}{kvs:qq}{k:Key}{u:Value}{A:Around}{E:iD}
def a53 N6 bQ ayu(l:Ab yc)(h:∀s',kq (rT a .bA (Nm kvs k)) s'->Q () s'):
  L_ A (delItem (Δ a) u):=by
 obtain⟨z,hd,vs,rel,dd⟩:=Nn I.a_ e
 refine wpAny_delItem_slot dd.typeIs aC PySem.F.slot_dict_delitem
  (call_meetsIn PySem.F.slot_dict_delitem dd.typeIs PySem.F.entry_dict_delitem (PySem.F.args_dict_delitem_2 _ _) (meets_dict_delitem_pairs rS a (FP a!)) ⟨vs,dd,by rw[ap0 z],by rw[b! (zm).acQ l],λh' yJ hs=>h _ ?_⟩)
 have he:Ao q ĩ q:=let⟨q,_,_,hq,_⟩:=yJ;⟨q,hq⟩
 exact alF I (by rw[Ä e]) hs he (al8 (KI (aFS kvs k) z) hd (rel.drop k) yJ)
def aIF l!{more:cC}ro bQ ayu(l:yc=fq)(hm:more=[]\/∃x,more=[x])
  (h:∀w' s',kq (rT a .bA (Nm kvs k)) s'->aii v->Q w' s'):ć A (e! "dict.pop") (Δ a::u::more) Q E:=by
 obtain⟨z,hd,vs,rel,dd⟩:=Nn I.a_ e;obtain⟨w',hw,mX⟩:=aqV v o (U0 vs) (by rw[b! l zm])
 rw[vI hp (Ab (keyPart u)) (by
  cases k with
  |inl i=>rw[zo q (Aw (u=VJ t) a!)];subst q;rfl
  |inr x=>rw[zo q (Aw (u=VK x) a!)];subst q;rfl) ha (argsOk "dict.pop" (rU (Δ a::u::more))) (by
  rcases hm with q | ⟨x,q⟩
  ·rw[fz q (PySem.F.args_dict_pop_2 _ _)]
  ·rw[fz q (aK8 _ _)]) (call_meetsIn PySem.F.slot_dict_pop dd.typeIs PySem.F.entry_dict_pop ha (meets_dict_pop_there rS a (FP a!) more hm hp)
  ⟨vs,w',dd,by rw[ap0 z],hw,λh' yJ hs=>h w' _ ?_ mX⟩)]
 have he:Ao q ĩ q:=let⟨q,_,_,hq,_⟩:=yJ;⟨q,hq⟩
 exact alF I (by rw[Ä e]) hs he (al8 (KI (aFS kvs k) z) hd (rel.drop k) yJ)
def aYO{r:Value}ro bQ ayu(l:b9 yc)(h:∀s',Mf->Q r s'):
  ć A (e! "dict.pop") [Δ a,u,r] Q E:=by
 obtain⟨z,hd,vs,rel,dd⟩:=Nn I.a_ e;rw[bq hn (b9 (U0 vs)) (sE.none_of (by rw[b! l zm])) hp (Ab (keyPart u)) (by
  cases k with
  |inl i=>rw[zo q (Aw (u=VJ t) a!)];subst q;rfl
  |inr x=>rw[zo q (Aw (u=VK x) a!)];subst q;rfl)]
 exact call_meetsIn PySem.F.slot_dict_pop dd.typeIs PySem.F.entry_dict_pop (aK8 _ _) (meets_dict_pop_default rS a (FP a!) hd hp r) ⟨vs,dd,hn,h _ kT⟩
def a0G ro bQ(e:uD H a (.bA kvs))(h:∀t s',Mf->Q (η kvs.length t) s'):ć A (e! "len") [Δ a] Q E:=by
 obtain⟨z,hd,vs,rel,dd⟩:=wx I.a_ e;refine call_len_dict hd dd (by rw[←rel.length];rw[sizeLine_eq]at z;omega) ?_;rw[ap0 (h _ _ kT)]
universe zE
def aRg Og iB{y:V}{o:GY}afd:arM (Δ a) "dict" :=by
 rcases g with⟨kvs,k,e,_,_⟩ | ⟨kvs,k,b,e,_,_,_⟩
 ·obtain⟨_,_,vs,_,dd⟩:=wx I.a_ e;exact dd.typeIs
 ·obtain⟨_,_,xs,_,dd⟩:=S0 I.a_ e;exact dd.typeIs
section
variable {X:bT}{o i e value:Expr}{pos pos' F6:Pos}{td ty Jw:TE}
universe zE
def aFT wL iV DN(hb:aB8 sysModules):uc P w H (h.push (KB (ee "dict") (.dict #[]))) h.objs.size (.bA []):=
 ⟨HC,beq_eq_false_iff_ne.mpr (Ne.symm (Nat.ne_of_lt hb)),[],cW,Heap.DictOf.new h⟩
abbrev aYP:TE:=λ_ H Q=>∀p,tU->Q (Δ p) (rT p .bA [])
section
variable {X:bT}{pos:Pos}
def aVs:kg (.Dict [] [] pos) aYP:=λpins s σ H Q I h=>
 wpAny_Dict_empty (GV pW (I.laid (a:=s.heap.objs.size) (o:=.bA []) (t':=s.toks) (λ_ _ q=>qB q) fe (aFT s.heap I.big)) (h _ My))
universe zE
abbrev al9:gW TE TE->St->aM->cO (gW V V->dW)
 |[],_,H,Q=>Q [] H
 | (tk,Jw)::r,σ,H,Q=>tk σ H (nB x (Jw σ H1 (ny y (al9 r σ H2 λps H3=>Q ((x,y)::ps) H3))))
noncomputable abbrev aIj:gW V V->cO (gW Value Value):=Paired λp q=>RelV p.1 q.1/\RelV p.2 q.2
abbrev aeo fY(pos:Pos)(keys:ail)(values:dF)(JU:gW TE TE):Prop:=
 ∀n?(Q:gW V V->dW),iO->al9 JU σ H Q →
  MH (evalPairs (pairTrees keys values X.env pos)) vs s' (∃ps H',Ow/\aIj ps vs/\nJ ps)
def aW1 lG DM:aeo X pos [] [] []:=RY s σ H Q I h (pairTrees_nil_walk ⟨[],H,I,cW,h⟩)
def aVt lG DM{k v:Expr}{ks:ail}{vs:dF}{tk Jw:TE}{JU:gW TE TE}(hk:kg k tk)(hv:kg v Jw)(hr:aeo X pos ks vs JU):
  aeo X pos (fc::ks) (v::vs) ((tk,Jw)::JU):=λpins s σ H Q I h=>
 pairTrees_cons_walk (zC (hk pins s σ H _ I h) u s1 x H1 aF rx aB (X! (hv pins s1 σ H1 _ aF aB) λw2 s2 ⟨y,H2,bk,a!,aZ⟩=>
  zC (hr pins s2 σ H2 _ bk aZ) ws s3 ps H3 e_ rel cy ⟨(x,y)::ps,H3,e_,bN ⟨rx,a!⟩ rel,cy⟩))
abbrev Na(kvs more:qq):qq:=more.foldl (λacc kv=>putK acc j6 kv.2) kvs
def jS.merge:∀{more:qq}{rs:į}Ob{vs:į},jS more rs->XR->jS (Na kvs more) (merged vs rs):=by
 intro more rs kvs vs r;unfold jS at r
 induction r generalizing kvs vs with
 |nil=>intro q;exact q
 |@cons p q ps gu h t ih=>
  intro r0
  rw[rZ e (jS (zw p.1 p.2) (stored vs q.1 q.2)) (by
   have:=r0.put p.1 h.2;rw[b! h.1 this]) (ih e)]
def aPh:∀(more kvs:qq),k8 (Na kvs more) (kvs.length+more.length)
 |[],kvs=>by rw[MJ (kvs.length≤kvs.length+0)]
 |p::r,kvs=>by
  rw[oD (aPh r (zw p.1 p.2)) (tJ kvs p.1 p.2)];show k8 (Na (zw p.1 p.2) r) _;rw[s7 zE]
def aE0 wL:∀Ob{ws:gW Value Value},aIj (Cp kv (kV j6,kv.2)) ws->∃rs,Carries (CZ P w) ws rs/\jS kvs rs
 |[],_,r=>by rw[zD]at r;cases r;rw[bC [] True.intro cW]
 |p::kvs,_,r=>by
  rw[cZ]at r;cases r with
  |@cons a b as bs h t=>
   obtain⟨rs,c,q⟩:=aE0 (P:=P) (w:=w) t;rw[aa0 b1 b2 b ((p.1,b2)::rs) (jh (FP h.1) c) (bN (kU h.2) q)]
abbrev a0H(JU:gW TE TE):TE:=vm (∀p,tU->al9 JU σ (rT p .bA []) (ny ps (H2 p=d7 .bA []/\∃kvs:qq,ps=kvs.map (λkv=>(kV j6,kv.2))/\kvs.length≤15/\Q (Δ p) (V6 H2 p .bA (Na [] kvs)))))
def aW2 lG DM{keys:ail}{values:dF}{JU:gW TE TE}(h:aeo X pos keys values JU)(aeu:aO aLV)(hl:keys.length=values.length)(h0:keys≠[])
  (aCM:keys.length≤15):pX (.Dict keys values pos) (a0H JU):=by
 rw[I5 s H Q q];rw[rM hn (Ó azF) aF (I.laid (a:=s.heap.objs.size) (o:=.bA []) (h':=ô (ee "dict") (.dict #[])) (t':=s.toks) (λ_ _ q=>qB q) fe (aFT s.heap I.big)) (wpAny_Dict_walk (knd:=rS) aeu hl h0 aCM (Me (Ő _ σ _ _ aF (q _ hn)) ws ⟨ps,H2,bk,rel,e,kvs,ep,lk,aZ⟩))];subst ep;obtain⟨rs,c,rk⟩:=aE0 (P:=X.prog) (w:=X.w) rel;obtain⟨z,hd,a7k,r0,dd⟩:=Nn bk.a_ e;cases r0;refine⟨rs,c,dd,λh' yJ hs=>GV pW ?_ aZ⟩
 have hz:arE (Na [] kvs):=by
  rw[jm h1 (aPh kvs []) yE h1];rw[aAD];omega
 have he:Ao q aMe q:=let⟨q,_,_,hq,_⟩:=yJ;⟨q,hq⟩
 exact alF bk (by rw[Ä e]) hs he (al8 hz hd (rk.merge cW) yJ)
structure aa fY(o:Expr)(m:Str)(apos:Pos)T?(dt:Pos):Prop where
 base:aoC o m=DU
 eg:gJ ((XZ [e]).all (λx=>! x.1)&&(afx dt).all (λx=>Z9 x.1)
  && jC (mO ([e]:dF)+mO ([]:XY)+(ayV ([]:XY) 0 1)<30))
 line:aCs
 trees:XZ [e]=[abx]
structure M2 fY(o:Expr)(m:Str)(apos:Pos)(e f:Expr)(dt:Pos):Prop where
 base:aoC o m=DU
 eg:gJ ((XZ [e,f]).all (λx=>! x.1)&&(afx dt).all (λx=>Z9 x.1)
  && jC (mO ([e,f]:dF)+mO ([]:XY)+(ayV ([]:XY) 0 1)<30))
 line:aCs
 trees:XZ [e,f]=[abx,ake f]
abbrev TG Of:Prop:=(∃kvs,uD H a (.bA kvs))\/∃kvs,uD H a (.dT kvs)
def adB Og iB bQ(d:TG H a):
  arM (Δ a) "dict" /\ (∀b,Eo=Δ b->∃ob,Kw ob/\b9 ob.dict)/\Ho a:=by
 rcases d with⟨kvs,e⟩ | ⟨kvs,e⟩
 ·obtain⟨_,hd,vs,_,dd⟩:=wx I.a_ e;rw[eF dd.typeIs (dz b q) hd];cases q;obtain⟨ob,_,_,h1,h2,_⟩:=dd;rw[bC ob h1 h2.2.1]
 ·obtain⟨_,hd,xs,_,dd⟩:=S0 I.a_ e;rw[eF dd.typeIs (dz b q) hd];cases q;obtain⟨ob,_,_,h1,h2,_⟩:=dd;rw[bC ob h1 h2.2.1]
section
variable {X:bT}{pins:gG}{σ:St}{H:aM}{s:Shared}{a:Addr}{y d:V}{u r:Value}{o:GY}{A:Around}{E:iD}
def aYQ afo afd DO(h:∀w' s',Mf->aii (o.getD .bb)->Q w' s'):
  ć A (e! "dict.get") [Δ a,u] Q E:=by
 rcases g with⟨kvs,k,e,ey,l⟩ | ⟨kvs,k,b,e,ey,eb,l⟩
 ·subst ey;obtain⟨z,hd,vs,rel,dd⟩:=wx I.a_ e;refine apI (aK9 _) (meets_dict_get rS a (FP a!) hd) ⟨_,dd.mapOf,h _ _ kT ?_⟩;rw[gh l ((zm).getD rfl)]
 ·subst ey;cases(Au b a!)
  obtain⟨z,hd,xs,rel,dd⟩:=S0 I.a_ e
  refine apI (aK9 _) (meetsH_dict_get (azy rS) a b hd) ⟨Õ,k,xs,aak eb,dd,h _ _ kT ?_⟩;rw[gh l ((zm).getD rfl)]
def aYR afo afd DO(rd:RelV d r)(h:∀w' s',Mf->aii (o.getD d)->Q w' s'):
  ć A (e! "dict.get") [Δ a,u,r] Q E:=by
 rcases g with⟨kvs,k,e,ey,l⟩ | ⟨kvs,k,b,e,ey,eb,l⟩
 ·subst ey;obtain⟨z,hd,vs,rel,dd⟩:=wx I.a_ e;refine apI (aLa _ _) (meets_dict_get_default rS a (FP a!) hd r) ⟨_,dd.mapOf,h _ _ kT ?_⟩;rw[gh l ((zm).getD rd)]
 ·subst ey;cases(Au b a!)
  obtain⟨z,hd,xs,rel,dd⟩:=S0 I.a_ e
  refine apI (aLa _ _) (meetsH_dict_get_default (azy rS) a b hd r) ⟨Õ,k,xs,aak eb,dd,h _ _ kT ?_⟩;rw[gh l ((zm).getD rd)]
universe zE
abbrev aYS(td ty:TE):TE:=vm (td σ H (O? x a (x=Δ a/\TG H1 a/\ty σ H1 (ny y (∃o,AR H2 a y o/\Q (o.getD .bb) H2)))))
abbrev aYT(td ty tx:TE):TE:=vm (td σ H (O? x a (x=Δ a/\TG H1 a/\ty σ H1 (ny y (tx σ H2 λz H3=>∃o,AR H3 a y o/\Q (o.getD z) H3)))))
abbrev aYU(td ty:TE):TE:=vm (td σ H (O? x a (x=Δ a/\TG H1 a/\ty σ H1 (ny y (∃kvs k v,H2 a=nh .bA/\y=kV k/\yc=fq/\Q v (V6 H2 a .bA (Nm kvs k)))))))
abbrev aYV(td ty tx:TE):TE:=vm (td σ H (O? x a (x=Δ a/\TG H1 a/\ty σ H1 (ny y (tx σ H2 λz H3=>∃kvs k,H3 a=nh .bA/\y=kV k ∧
 (∀v,yc=fq->Q v (V6 H3 a .bA (Nm kvs k)))/\(b9 yc->Q z H3))))))
section
variable {X:bT}{o e f:Expr}{apos dt:Pos}{td ty tx:TE}
def aVu ayD anH(m:aa X o "get" apos e dt):V5 atn [e] dt (aYS td ty):=by
 intro pins s σ H Q I h;refine apm m.base m.eg m.line PySem.F.slot_dict_get PySem.F.type_dict_get (Mp s H _ I h u ⟨x,H1,aF,rx,a,ex,d,aB⟩);subst ex;obtain rfl:u=Eo:=rx;obtain⟨t1,t2,_⟩:=adB aF d;rw[eF t1 t2 ?_];rw[m.trees];rw[tL (afZ rfl (UP (El (zH s1 σ H1 _ aF aB) iv s2 ⟨y,H2,bk,a!,ov,g,aZ⟩ (Calls.spliced_nil ?_)))) (aYQ hu bk g a! λw' s3 e_ mX=>⟨_,H2,e_,mX,aZ⟩)]
def aVv ayD anH(hf:kg f tx)(m:M2 X o "get" apos e f dt):V5 atn [e,f] dt (aYT td ty tx):=by
 intro pins s σ H Q I h
 refine apm m.base m.eg m.line PySem.F.slot_dict_get PySem.F.type_dict_get (Mp s H _ I h u ⟨x,H1,aF,rx,a,ex,d,aB⟩)
 subst ex
 obtain rfl:u=Eo:=rx
 obtain⟨t1,t2,_⟩:=adB aF d
 rw[eF t1 t2 ?_];rw[m.trees]
 rw[tL (afZ rfl (UP (X! (zH s1 σ H1 _ aF aB) λiv s2 ⟨y,H2,bk,a!,aZ⟩=>
  UP (El (hf pins s2 σ H2 _ bk aZ) fv s3 ⟨z,H3,e_,Nf,ov,g,cy⟩ (Calls.spliced_nil ?_))))) (aYR hu e_ g a! Nf λw' wo q9 mX=>⟨_,H3,q9,mX,cy⟩)]
def aVw anH(m:aa X o "pop" apos e dt):V5 ato [e] dt (aYU td ty):=by
 intro pins s σ H Q I h;refine apm m.base m.eg m.line PySem.F.slot_dict_pop PySem.F.type_dict_pop (Mp s H _ I h u ⟨x,H1,aF,rx,a,ex,d,aB⟩);subst ex;obtain rfl:u=Eo:=rx;obtain⟨t1,t2,_⟩:=adB aF d;rw[eF t1 t2 ?_];rw[xg m.trees (afZ rfl (UP (El (zH s1 σ H1 _ aF aB) iv s2 ⟨y,H2,bk,a!,kvs,k,v,ea,ey,l,aZ⟩ (Calls.spliced_nil ?_))))];rw[fz ey (aIF bk ea a! l (aq rfl) λw' s3 e_ mX=>⟨v,_,e_,mX,aZ⟩)]
def aVx anH(hf:kg f tx)(m:M2 X o "pop" apos e f dt):V5 ato [e,f] dt (aYV td ty tx):=by
 intro pins s σ H Q I h
 refine apm m.base m.eg m.line PySem.F.slot_dict_pop PySem.F.type_dict_pop (Mp s H _ I h u ⟨x,H1,aF,rx,a,ex,d,aB⟩)
 subst ex
 obtain rfl:u=Eo:=rx
 obtain⟨t1,t2,_⟩:=adB aF d
 rw[eF t1 t2 ?_];rw[xg m.trees (afZ rfl (UP (X! (zH s1 σ H1 _ aF aB) λiv s2 ⟨y,H2,bk,a!,aZ⟩=>
  UP (El (hf pins s2 σ H2 _ bk aZ) fv s3 ⟨z,H3,e_,Nf,kvs,k,ea,ey,cy,FN⟩ (Calls.spliced_nil ?_)))))]
 subst ey;cases l:yc with
 |some v=>exact aIF e_ ea a! l (aA (lS fv)) λw' wo q9 mX=>⟨v,_,q9,mX,cy v l⟩
 |none=>exact aYO e_ ea a! l λwo q9=>⟨z,H3,q9,Nf,FN l⟩
universe zE
section
variable {X:bT}{pins:gG}{σ:St}{H:aM}{s:Shared}{a:Addr}{kvs:qq}{A:Around}{E:iD}
universe zE
section
variable {X:bT}{pins:gG}{σ:St}{H:aM}{s:Shared}{a:Addr}{y:V}{u:Value}{A:Around}{E:iD}
universe zE
universe L2
namespace qj
open PySem PyProof.Rows
section
open PySem.SeqAt
open PySem.AutoSeq1 (wpAny_loadPart')
open PySem.MeetsSeq PySem.MeetsSeq2 PySem.MeetsSeq3
universe zE
section
variable {prog:Program}{w:World}{A:Around}{E:iD}{s:Shared}
def aW3{t b:Addr}{vs ws:cC}ro(ht:ard t vs.toArray)(hb:ard b ws.toArray)(hv:vs≠[])
  (h1:ws=[]->Q (Δ t) s)(h2:ws≠[]->Q pW (mh s (ô II (lP (zu (vs++ws))))))
  (hsz:jB (vs.length+ws.length)):E8 (binaryOp .Add (Δ t) (Δ b)):=by
 obtain⟨⟨cls,dd,data,sl⟩,ho,hc,n,hd⟩:=id ht;obtain⟨⟨a6J,dd2,data2,sl2⟩,A3,hc2,n2,JV⟩:=id hb;simp only at hc hd hc2 JV;subst hc hd hc2 JV
 have e:vs.toArray++ws.toArray=zu (vs++ws):=Ξ
 by_cases hw:ws=[]
 ·exact concat_meets (uY ho) (uY A3) noFill_tuple_add seq_tuple_add PySem.F.slot_tuple_add PySem.F.entry_tuple_add (aLA _)
   (tuple_addW1 t b vs.toArray ws.toArray n n2 dd dd2 sl sl2 (bh hv) (aK hw)) ⟨ho,A3,h1 hw⟩
 ·rw[agg (concat_meets (uY ho) (uY A3) noFill_tuple_add seq_tuple_add PySem.F.slot_tuple_add PySem.F.entry_tuple_add (aLA _)
   (tuple_addW2 t b vs.toArray ws.toArray n n2 dd dd2 sl sl2 (bh hv) (bh hw) (by rw[azw];exact hsz)) ⟨ho,A3,?_⟩) e (h2 hw)]
abbrev md(n d:Nat):eL->Nat
 |none=>d
 |fq=>if v<0 then(v+gO).toNat else min v.toNat n
def avF(n d:Nat):md n d none=d:=rfl
def aG3(n d k:Nat):md n d (agj k)=min k n:=by
 show(if aY k<0 then(aY k+gO).toNat else min (aY k).toNat n)=min k n;rw[apv aCd]
def aYW(n d:Nat)(hd:d≤n)(o:eL):md n d o≤n:=by
 cases o with
 |none=>exact hd
 |some v=>
  show(if v<0 then(v+gO).toNat else min v.toNat n)≤n;by_cases hv:v<0
  ·rw[s7 (if_pos hv)]
  ·rw[QI hv (Nat.min_le_right _ _)]
def aG4(v:Int)(n d:Nat):(if v<0 then max (v+gO) 0 else min v gO)=Xw n d fq:=by
 show(if v<0 then max (v+gO) 0 else min v gO)=i_ (if v<0 then(v+gO).toNat else min v.toNat n);by_cases hv:v<0
 ·simp only[if_pos hv];omega
 ·simp only[if_neg hv];omega
def aSj Kg dS:aLt hi 1 gO=(Xw n 0 lo,Xw n n hi):=by
 have h1:¬(aY 1<0):=av
 unfold Builtin.Slice.sliceAdjust;simp only[h1,if_false];refine Prod.ext ?_ ?_
 ·cases lo with
  |none=>rfl
  |some v=>exact aG4 v n 0
 ·cases hi with
  |none=>rfl
  |some v=>exact aG4 v n n
def aSk(i j:Nat):azH (aY i) (aY j)=j-i:=by
 unfold Builtin.Slice.slicePlaces
 have h1:aY 1 > 0:=av
 simp only[h1,if_true,Int.ediv_one];split<;>omega
def aE1 aeY{o:eL}{Q:eL->Bt}(p:IsPart v o)(h:Q o s):E8 (Builtin.Slice.slicePartIndex v):=by
 cases p with
 |none=>exact slicePart_none h
 |int i t=>exact slicePart_int h
def a5B{sl:Addr}aJw bf{Q:Int×Int×Nat->Bt}aKd(pu:IsPart vu hi)
  (h:Q (Xw n 0 lo,1,md n n hi-md n 0 lo) s):E8 (Builtin.Slice.sliceApplied (Δ sl) (pure gO)):=by
 obtain⟨os,hos,hcs,hds⟩:=id hs;unfold Builtin.Slice.sliceApplied Builtin.Slice.sliceFields;rw[ff (fu (aAE hos hds x vl rfl (aAE hos hds x vu rfl (aAE hos hds x cG rfl HB)))) (fu (slicePart_none ?_))];show oq _ _ (ag1 (aY 1 == 0) _ _) _ _;rw[kE aC];refine fu (aE1 pl (fu (aE1 pu (fu HB))));show oq _ _ (match aLt hi 1 gO with | (lo,hi)=>pure (lo,aY 1,azH lo hi)) _ _
 rw[aSj lo hi n];rw[Wu (oq _ _ (pure (Xw n 0 lo,aY 1,azH (Xw n 0 lo) (Xw n n hi))) _ _) aSk QH]
def aVy(xs:QM)(i k:Nat):zu ((List.range k).filterMap fun(m:Nat)=>xs[(aY i+aY m*1).toNat]?)=zu ((xs.toList.drop i).take k):=by
 have e:(fun(m:Nat)=>xs[(aY i+aY m*1).toNat]?)=λm=>xs[i+m]?:=by
  funext m
  have:(aY i+aY m*1).toNat=i+m:=av
  rw[this]
 rw[e];rw[rV (pick_run xs i k) List.filterMap_map];rw[s9 e2 (((λx=>xs[x]?)∘λx=>i+x)=λm=>xs[i+m]?) rfl e2 this];rw[this]
def a5r{t sl:Addr}{items:QM}aJw ro(ht:ard t items)aKd(pu:IsPart vu hi)
  (hw:¬(z5=0/\OV=items.size))
  (h:Q pW (mh s (ô II (lP (zu ((aAH z5).take (OV-z5)))))))
  (hsz:jB items.size):E8 (getItem (Δ t) (Δ sl)):=by
 rw[bq aTk (sizeOk (lP (zu ((aAH z5).take (OV-z5))))) (by
  show jB ((aAH z5).take (OV-z5)).toArray.size;rw[List.size_toArray,List.length_take,List.length_drop,Array.length_toList];omega) hj (OV≤items.size) (aYW _ _ fe hi)];obtain⟨os,hos,hcs,hds⟩:=id hs;have a33:arM (Δ sl) "slice" :=⟨os,hos,hcs⟩;unfold getItem
 try with_reducible refine aNl
 first | refine fu HB | skip
 rw[ff (fu (wpAny_sequenceKey ht.typeIs aC ?_)) (fu (wpAny_callSpecial?_slot (name:=Str.ofString "__getitem__") ht.typeIs PyProof.Rows.slot_tuple_getitem
  (wpAny_call_entry PyProof.Rows.slot_tuple_getitem ht.typeIs entry_tuple_getitem ?_ (args_tuple_getitem _ _))))]
 show oq _ _ (Builtin.Tuple.tupleItemsOf (Δ t) >>= _) _ _;rw[ff (fu (tupleItemsOf_ ht ?_)) (fu (wpAny_typeOf a33 ?_))];rw[if_pos aC];rw[oA (fu (a5B hs pl pu ?_)) hno (¬(gJ (i_ z5 == 0&&aY 1 == 1&&(OV-z5) == items.size))) (by
  intro q;rw[Qv Bool.and_eq_true q];rw[bq aB (i_ z5=0) (eq_of_beq q.1.1) aZ (OV-z5=items.size) (eq_of_beq q.2)];exact hw ai9)]
 show oq _ _ (ag1 (i_ z5 == 0&&aY 1 == 1&&(OV-z5) == items.size) _ _) _ _;rw[if_neg hno,aVy]
 first
  |exact apn m _ (ape (aqp QH))
  |exact apn m _ (ape (fu (LB (aqp QH))))
  |exact fu (apn m _ (ape (LB (aqp QH))))
  |exact fu (apn m _ (ape (aqp QH)))
universe zE
universe qj
namespace L2
open PySem PySem.Spec PyProof.Rows
noncomputable abbrev TO:=St->aM->cO (eL->dW)
abbrev Dq fY(e:agD)(t:TO):Prop:=
 ∀n?(Q:eL->dW),iO->t σ H Q →
  MH (evalPart e X.env) u s' (∃o H',Ow/\IsPart u o/\nJ o)
abbrev aW4:TO:=λ_ H Q=>Q none H
abbrev a0I(t:TE):TO:=LX H x (∃i,x=η i/\Q WU H1)
section
variable {X:bT}{e:Expr}{te:TE}{lo hi:agD}{tl th:TO}{pos p2:Pos}
def aW5:Dq X none aW4:=by
 rw[I5 s H Q h];rw[az evalPart_none (wpAny_pure ⟨none,H,I,cG,h⟩)]
def aW6(h:ayQ):Dq X (some e) (a0I te):=by
 rw[I5 s H Q hw];rw[xg evalPart_some (aia (Ő s σ H _ I hw) u x)];rw[eS i q aB];rw[Vz t r1 ⟨WU,H1,aF,η i t,q⟩]
abbrev Ga fY aJu:Prop:=
 ∀ae5(v vl vu:Value)Kg(sl:Addr)yT,iO->K3->aKV sl vl vu->IsPart vl lo->IsPart vu hi->r x lo hi H Q →
  ∃T id,typeLookup (ee T) "__getitem__" = G1 (d7 e! id)/\s.TypeIs v T/\Ŵ (getItem v (Δ sl)) X Q
def Ga.or aJ6(h':Ga X r'):Ga X (λx lo hi H Q=>r x lo hi H Q\/r' x lo hi H Q):=by
 intro pins s σ H x v vl vu lo hi sl Q I rx hs pl pu q;rcases q with q | q
 ·exact h pins s σ H x v vl vu lo hi sl Q I rx hs pl pu q
 ·exact h' pins s σ H x v vl vu lo hi sl Q I rx hs pl pu q
abbrev a5c aJu Uk(tl th:TO):TE:=vm (te σ H (nB x (tl σ H1 (ny l (th σ H2 λu H3=>r x l u H3 Q)))))
def aVz{r:V->eL->eL->aM->jA}(hr:Ga X r)ZX(hl:Dq X lo tl)(hu:Dq X hi th):pX (xu e (.Slice lo hi none p2) pos) (a5c r te tl th):=by
 rw[I5 s H Q h];rw[ff (Subscript_ (mF (zH s σ H _ I h) v ⟨x,H1,aF,r1,aB⟩)) (wpAny_Slice (zC (hl pins s1 σ H1 _ aF aB) vl s2 l H2 bk pl aZ (rI (hu pins s2 σ H2 _ bk aZ) vu s3 ⟨u,H3,e_,pu,cy⟩)))];rw[evalPart_none];rw[oA HB q9 (LW H3 s3 (aAN Xr (i0 #[vl,vu,cG]))) (e_.kept (t':=s3.toks) (uS ob q q))];obtain⟨T,id,hT,ht,hg⟩:=hr pins (mh s3 (aAN Xr (i0 #[vl,vu,cG]))) σ H3 x v vl vu l u s3.heap.objs.size Q q9 r1 aMk pl pu cy;rw[Pn (j7 (subscriptTail e (.Slice lo hi none p2) v (Δ s3.heap.objs.size)) (Iu X Q) (mh s3 (aAN Xr (i0 #[vl,vu,cG])))) (tail_any (ops:=[Δ s3.heap.objs.size,v]) ht hT hg bU)]
abbrev JM J8 Kg:cH:=(Ť Ja).take (Vw hi-Ja)
def aPJ J8 Kg:k8 (JM xs lo hi) xs.length:=by
 rw[f5 JM List.length_take List.length_drop];omega
abbrev a2M dg:V->eL->eL->aM->jA:=λx lo hi H Q=>∃a xs,x=Δ a/\CR K a ∧
 ¬(Ja=0/\aiO (Vw hi))/\∀p,tU->Q (Δ p) (aaA p (JM xs lo hi))
def aYX:Ga X (a2M X.K):=by
 intro pins s σ H x v vl vu lo hi sl Q I rx hs pl pu h;obtain⟨a,xs,rfl,hx,hw,q⟩:=h;cases rx;rw[xW r ht hz (I.tuple hx)]
 rw[qt hlen (aiO cb.toArray.size) (by rw[az List.size_toArray r.length.symm]) ⟨"tuple",_,PyProof.Rows.slot_tuple_getitem.lookup,ht.typeIs,?_⟩];rw[mC (qj.a5r ht hs pl pu (by rw[az hlen hw]) ?_ (by rw[az hlen hz])) hlen];refine OZ pW (aAa t' o (aV (JM xs lo hi)) (uS ob q q) fe ?_) _ My;exact⟨KI (aPJ xs lo hi) hz,_,(r.drop Ja).take (Vw hi-Ja),IsTup.new _ _⟩
abbrev aIG dg:n8:=λx y H Q=>∃a b xs ys,x=Δ a/\y=Δ b/\CR K a/\F5 K H b ys/\xs≠[]/\jB aBq ∧
 (ys=[]->Q (Δ a) H)/\(ys≠[]->∀p,tU->Q (Δ p) (aaA p (xs++ys)))
def Vals.awl Go(r:vp):us=[]↔xs=[]:=by
 cases r with
 |nil=>simp
 |cons _ _=>simp
def aW7:y! Add (aIG X.K):=by
 rw[EK];obtain⟨a,b,xs,ys,rfl,rfl,ha,hb,hx,hz,aB,aZ⟩:=h;cases rx;cases a!;obtain⟨cb,r1,p1,_⟩:=I.tuple ha;obtain⟨Ha,r2,p2,_⟩:=I.tuple hb;rw[ah8 (qj.aW3 p1 p2 (c9 (hx (r1.awl.mp z))) (c9 (z9 Δ a I (aB (r2.awl.mp z)))) (ck z) (by rw[LL r1.length r2.length hz])) (GV pW (aAa t' o (aV (xs++ys)) (uS ob q q) fe ?_) (aZ (λw=>z (r2.awl.mpr w)) _ My))];exact⟨by rw[az List.length_append hz],_,aBf,IsTup.new _ _⟩
universe zE
universe L2
namespace L2
open PySem PySem.Spec PyProof.Rows
abbrev F_ dS pg:dw:=ù (0≤i) (Í (i<n) (some i.toNat)) (Í (-gO≤i) (some (i+n).toNat))
abbrev yK gb Ua pg:arU:=(VB i).bind λj=>xs[j]?
def awm bf iC{j:Nat}(h:cE (F_ n i) j):cE (seqIndex? i n) j/\j<n /\ -gO≤i/\i<n:=by
 rw[nw F_];by_cases h0:0≤i
 ·rw[if_pos h0]at h;rw[B4 (i<n)]
  ·rw[Hf]at h;rw[An e (i.toNat=j) Uu ⟨j0 (aBE h1) e,av,av,h1⟩]
  ·rw[ahZ]at h;cases h
 ·rw[if_neg h0]at h;by_cases h1 : -gO≤i
  ·rw[Hf]at h;rw[An e ((i+n).toNat=j) Uu ⟨j0 (aAo h1) e,av,h1,av⟩]
  ·rw[ahZ]at h;cases h
def aG5 gb Ub iC{v:α}(h:yK xs i=fq):∃j,cE (seqIndex? i xs.length) j/\fP xs j v/\ú j /\ -agy≤i/\I1:=by
 rw[nw yK];cases e:VB i with
 |none=>rw[e]at h;cases h
 |some j=>
  rw[e]at h;rw[vG h1 h2 h3 h4 (awm e) ⟨j,h1,h,h2,h3,h4⟩]
abbrev aG6(b:Expr):Prop:=∀o i,subscripted b false o i=operate [o,i] (getItem o i)
abbrev JW fY(r:n8):Prop:=
 ∀(value slice:Expr)n?(x y:V)(v u:Value)yT,iO->K3->abw->r x y H Q →
  subscripted slice false v u=operate [v,u] (getItem v u)->Ŵ (subscriptTail value slice v u) X Q
abbrev ur fY(id:String)anp:Prop:=
 ∀ae5 J8 ZS Bg yT,iO->K3->vp->r x xs H Q →
  ĉ (e! id) (v::us) (Iu X Q)
section
variable {X:bT}{a b:Expr}{ta tb:TE}{pos:Pos}
def JW.or{r r':n8}(h:JW X r)(h':JW X r'):JW X (λx y H Q=>r x y H Q\/r' x y H Q):=by
 intro value slice pins s σ H x y v u Q I rx a! q hs;rcases q with q | q
 ·exact h value slice pins s σ H x y v u Q I rx a! q hs
 ·exact h' value slice pins s σ H x y v u Q I rx a! q hs
def a0J{r:n8}(hr:JW X r)N5(hs:aG6 b):pX (xu a b pos) (alw r ta tb):=by
 rw[RN s H Q I h (Subscript_ (axJ ha hb I h λv u s2 x y H2 bk rx a! q=>hr a b pins s2 σ H2 x y v u Q bk rx a! q (hs _ _)))]
abbrev a2N dg:n8:=λx y H Q=>∃p xs i v,x=Δ p/\y=η i/\iw K H p xs/\yK xs i=fq/\Q v H
abbrev a2O dg:n8:=λx y H Q=>∃p xs i v,x=Δ p/\y=η i/\CR K p/\yK xs i=fq/\Q v H
def aW8:JW X (a2N X.K):=by
 intro value slice pins s σ H x y v u Q I rx a! h hs;obtain⟨p,xs,i,z,rfl,rfl,hq,he,q⟩:=h;cases rx;rw[r3 a!];rw[H9 r pl];obtain⟨j,h1,h2,h3,h4,h5⟩:=aG5 he
 obtain⟨w,e9,mX⟩:=r.get h2;rw[bI hl r.length hn adT];have fin:Px X Q w s:=⟨z,H,I,mX,q⟩
 by_cases h0:0≤i
 ·rw[rZ hj (i.toNat=j) (by
   rw[bV (aBE h5) h1 Us]) (item_listR pl.isList h0 av (by rw[hj];simpa using e9) fin hs)]
 ·rw[rZ hj ((i+aLE).toNat=j) (by
   rw[aAo h4]at h1;rw[List.size_toArray,←hl];exact Us) (subscriptTail_builtinR (x:=w) pl.isList.typeIs slot_list_getitem.lookup
   (wpAny_getItem_list_neg (Q:=λr s'=>r=w/\Px X Q r s') pl.isList av aCb av (by rw[hj];simpa using e9) (kU fin)) hs)]
def adC:JW X (a2O X.K):=by
 intro value slice pins s σ H x y v u Q I rx a! h hs;obtain⟨p,xs,i,z,rfl,rfl,hq,he,q⟩:=h;cases rx;rw[r3 a!];rw[PB r pl];obtain⟨j,h1,h2,h3,h4,h5⟩:=aG5 he
 obtain⟨w,e9,mX⟩:=r.get h2;rw[bI hl r.length hn adT];rw[rZ fin (Px X Q w s) ⟨z,H,I,mX,q⟩ (subscriptTail_builtinR (x:=w) pl.typeIs slot_tuple_getitem.lookup
  (getItem_tuple (j:=j) (Q:=λr s'=>r=w/\Px X Q r s') pl av av (by rw[List.size_toArray,←hl];exact h1) (bh e9) (kU fin)) hs)]
def aSl(cb:cC)(n j:Nat)Gu:Obj.mapSeq (·.setIfInBounds j u) (Ff (lP cb.toArray n))=Ff (lP (zu (cb.set j u)) n):=by
 simp[Obj.mapSeq]
def Inv.lst Bb uJ{xs:cH}bQ(h:H p=gY):
  ∃(cb:cC) (n:Nat),WK/\vC p (Ff (lP cb.toArray n))/\KL:=by
 rw[xr z cb n r e (WV p h) cb n r e z]
def Inv.aYY Bb uJ{xs ys:cH}{cb its':cC}{n n':Nat}{f:Obj->Obj}bQ(h:H p=gY)
  (ho:vC p (Ff (lP cb.toArray n)))(hf:f (Ff (lP cb.toArray n))=Ff (lP its'.toArray n'))(r:Vals ys its')(hz:apF)(t:Nat):
  kq (pJ p ys) (BG s (az4 f) t):=by
 rw[dX e ((az4 f).get? p=ajX (lP its'.toArray n')) (by
  rw[Heap.get?_update_self f ho (by rw[hf]<;>rfl),hf]) (ap7 p e p (by rw[h];trivial) (aq rfl) (λb u hb q=>eV (Heap.get?_update_other _ _ (Ne.symm hb)) q) ⟨_,e⟩ ?_)];exact⟨hz,its',n',r,e⟩
abbrev aIH:V->V->V->aM->cO dW:=λo i v H Q=>∃p xs k j,o=Δ p/\i=η k/\H p=gY/\cE (VB k) j/\Q (pJ p (xs.set j v))
def set_list:Th X aIH:=by
 intro pins s σ H o i v ov iv u Q I ada ac9 rv h;obtain⟨p,xs,k,j,rfl,rfl,hp,hj,q⟩:=h;cases ada;rw[r3 ac9];obtain⟨cb,n,r,ho,hz⟩:=I.lst hp;obtain⟨h1,h2,h3,h4⟩:=awm hj;rw[bI hl r.length hn adT]
 have I':LW (pJ p (xs.set j v)) s (az4 (Obj.mapSeq (·.setIfInBounds j u))):=
  I.aYY hp ho (aSl cb n j u) (r.set rv j) (by rw[ñ hz]) s.toks
 by_cases h0:0≤k
 ·rw[rZ hk (k.toNat=j) (by
   rw[bV (aBE h4) h1 Us]) (PySem.W.ki_setAt ho h0 av (by rw[List.size_toArray,←hl];exact h4) (by rw[hk];rw[bC _ I' q]))]
 ·rw[rZ hk ((k+aLE).toNat=j) (by
   rw[aAo h3]at h1;rw[List.size_toArray,←hl];exact Us) (PySem.W.ki_setBack ho av (by rw[List.size_toArray,←hl];exact h3) av (by rw[hk];rw[bC _ I' q]))]
def aRc Kg dS:(aAp lo hi n).1=i_ (qj.md n 0 lo)/\(aAp lo hi n).2.1=i_ (qj.md n n hi)/\(aAp lo hi n).2.2=1:=by
 refine kA ?_ ?_
 ·cases lo with
  |none=>simp[sliceBounds,qj.md]
  |some i=>
   simp only[sliceBounds,qj.md,Option.getD_none,show aY 1 > 0 by decide,if_true];rw[i9 (i<0)]
   ·rw[aqv if_true]
   ·rw[aqv if_false]
 ·cases hi with
  |none=>simp[sliceBounds,qj.md]
  |some i=>
   simp only[sliceBounds,qj.md,Option.getD_none,show aY 1 > 0 by decide,if_true];rw[i9 (i<0)]
   ·rw[aqv if_true]
   ·rw[aqv if_false]
def aQ3(cb:cC)Kg:slicePick cb.toArray lo hi none=zu ((cb.drop (az3 0 lo)).take (az3 cb.length hi-az3 0 lo)):=by
 rw[ahX h1 h3 (aRc lo hi cb.toArray.size)];rw[kF slicePick h1 h2 h3];simp only[sliceRange_one,pick_run,List.size_toArray]<;>rfl
abbrev axH dg:V->eL->eL->aM->jA:=λx lo hi H Q=>∃a xs,x=Δ a/\Jd/\∀p,tU->Q (Δ p) (pJ p (JM xs lo hi))
def aW9:Ga X (axH X.K):=by
 intro pins s σ H x v vl vu lo hi sl Q I rx hs pl pu h;rw[eo a xs hx q h];cases rx;rw[xW r ht hz (I.list hx)];have hlen:=r.length;refine⟨"list",_,slot_list_getitem.lookup,ht.isList.typeIs,?_⟩;refine wpAny_getItem_list_slice ht.isList hs pl pu cG Ξ ?_ aCb;rw[aQ3,←hlen];refine OZ pW (aAa t' o (ς (JM xs lo hi)) (uS ob q q) fe ?_) _ My;exact⟨KI (aPJ xs lo hi) hz,_,0,(r.drop Ja).take (Vw hi-Ja),GQ _⟩
def aRd:Ar "len" (λxs H Q=>∃p ys,xs=[Δ p]/\(iw X.K H p ys\/F5 X.K H p ys)/\Q (arP η) H):=by
 rw[Aj s H Q I r h]
 rw[eo p ys hq q h]
 rw[HN u rx r];cases rx;have hn:=adT;rcases hq with hq | hq
 ·rw[H9 r' pl];rw[xO hlen r'.length (Calls.call_len_list pl.isList agi ⟨arP η,H,kT,⟨V3 1,by rw[aoX hlen]⟩,q⟩)]
 ·rw[PB r' pl];rw[xO hlen r'.length (len_tuple pl agi ⟨arP η,H,kT,⟨V3 1,by rw[aoX hlen]⟩,q⟩)]
def Yj.or{f:Value}aJB(h':Yj X f r'):Yj X f (λxs H Q=>r xs H Q\/r' xs H Q):=by
 rw[Aj s H Q I rs q];rcases q with q | q
 ·exact h pins s σ H xs us Q I rs q
 ·exact h' pins s σ H xs us Q I rs q
def aRe:ET BF (λxs H Q=>∃p ys,xs=[Δ p]/\(iw X.K H p ys\/F5 X.K H p ys)/\∀l,ow l->Q (Δ l) (pJ l ys)):=by
 rw[Aj s H Q I r h]
 rw[eo p ys hq q h]
 rw[HN u rx r];cases rx
 have fin:∀(cb:cC),ŗ ys->apF->∀(h':Heap)(c':Nat),(∀b o',Kw o'->cE rz o') →
   cE aMe { cls:=BF,dict:=none,data:=lP cb.toArray c',slots:=#[]}->Px X Q pW (tT s):=λcb r' hz h' c' kp e=>
  OZ pW (I.laid (t':=s.toks) kp fe (show Li _ h' _ (ς ys) from⟨hz,cb,c',r',e⟩)) _ My
 rcases hq with hq | hq
 ·rw[H9 r' pl];have hlen:=r'.length;obtain⟨o,ho,hc,n,hd⟩:=pl.isList;exact call_list_seq p (aq rfl) ho hc hd (λh' c' kp e=>fin cb r' hz h' c' kp e) agi
 ·rw[PB r' pl];have hlen:=r'.length;obtain⟨o,ho,hc,n,hd⟩:=pl;exact call_list_seq p (aA rfl) ho hc hd (λh' c' kp e=>fin cb r' hz h' c' kp e) agi
def aQ4:ET II (λxs H Q=>∃p ys,xs=[Δ p]/\((iw X.K H p ys/\∀l,ow l->Q (Δ l) (aaA l ys))\/(F5 X.K H p ys/\Q (Δ p) H))):=by
 rw[Aj s H Q I r h];obtain⟨p,ys,rfl,h⟩:=h;rw[HN u rx r];cases rx;rcases h with⟨hq,q⟩ | ⟨hq,q⟩
 ·rw[H9 r' pl];rw[cV hlen r'.length (call_tuple_list pl.isList (dz h' kp) agi)];have aF:kq H (tT s):=I.kept (t':=s.toks) kp
  have bk:LW (aaA h'.objs.size ys) s (h'.push (KB II (lP cb.toArray))):=
   aF.laid (t':=s.toks) (uS o e e) fe (show Li _ _ _ (aV ys) from⟨hz,cb,r',IsTup.new _ _⟩)
  exact OZ (Δ h'.objs.size) bk _ Rb
 ·rw[PB r' pl];exact call_tuple_same pl (z9 Δ p I q)
abbrev aDV ayn(x:V)jU:Prop:=match x with
 |Ω _=>T = "str"
 |η _=>T = "int"
 |Δ p=>(T = "list" /\ ∃xs,iw K H p xs)\/(T = "tuple" /\ ∃o,K.lookup p=b8/\o.cls=II /\ b9 o.dict) ∨
   (T = "dict" /\ ((∃kvs,H p=nh .bA)\/∃kvs,H p=nh .dT))\/(T = "set" /\ ∃S n,H p=rL iG S n)
 |_=>False
def aHO Bb{T:String}{x:V}aeY bQ(r:K3)(ty:aDV X.K T x H):
  s.TypeIs v T/\∀a,v=Δ a->∃ob,vC a ob/\b9 ob.dict:=by
 cases x with
 |str z=>
  rw[r3 r];cases(show T = "str" from ty)
  rw[b7 (typeIs_str s z t) (zW e e)]
 |int i=>
  rw[r3 r];cases(show T = "int" from ty)
  rw[b7 (typeIs_int s i t) (zW e e)]
 |ref p=>
  cases r;rcases ty with⟨rfl,xs,hq⟩ | ⟨rfl,o,hk,hc,hd⟩ | ⟨rfl,hk⟩ | ⟨rfl,S,n,hk⟩
  ·obtain⟨cb,_,pl,_⟩:=I.list hq;rw[Ld pl.isList.typeIs a e];cases e;obtain⟨o,n,e,c,hd,_⟩:=pl;rw[bC o e hd]
  ·rw[Ld ⟨o,I.qY p o hk,hc⟩ a e];cases e;rw[bC o (I.qY _ o hk) hd]
  ·have z:∃o,vC p o/\o.ExactDict:=by
    rcases hk with⟨kvs,hk⟩ | ⟨kvs,hk⟩
    ·obtain⟨_,_,_,_,o,_,_,e,ex,_⟩:=WV p hk;rw[bC o e ex]
    ·obtain⟨_,_,_,_,o,_,_,e,ex,_⟩:=WV p hk;rw[bC o e ex]
   rw[KC o e ex z ⟨o,e,ex.1⟩ (dz a e2)];cases e2;rw[bC o e ex.2.1]
  ·obtain⟨o,_,_,_,e,ex,_⟩:=WV p hk;rw[Ld ⟨o,e,ex.1⟩ a e2];cases e2;rw[bC o e ex.2.1]
 |_=>rw[BH ty]
abbrev a2P ayn anp(to:TE):TE:=vm (to σ H (nB x (aDV K T x H1/\r x [] H1 Q)))
abbrev a47 ayn anp(to:TE)(t:mZ):TE:=vm (to σ H (nB x (aDV K T x H1/\t σ H1 (ny xs (r x xs H2 Q)))))
variable {o e:Expr}{es:dF}{to:TE}{t:mZ}{name:Str}{apos dt:Pos}{T id:String}{r:V->cH->aM->jA}
def aYZ aKj anG(hm:ur X id r)afq
  anC ZF:V5 asE [] dt (a2P X.K T r to):=by
 rw[azD s H Q I h Ju Sz (Mp s H _ I h v ⟨x,H1,aF,r1,ty,aB⟩)];rw[EB h1 h2 (aHO aF r1 ty) ⟨T,id,pa,slot,ani,h1,h2,azR rfl (hm pins s1 σ H1 x [] v [] Q aF r1 cW aB)⟩]
def a0K aKj anG(hm:ur X id r)afq afb
  anC
  aI5
  ZF aKh:
  V5 asE (e::es) dt (a47 X.K T r to t):=by
 rw[r8 Q (wpAny_Call_method_late Ju Qr Sz rfl (Mp s H _ I h v ⟨x,H1,aF,r1,ty,aB⟩))];rw[Ah (aHO aF r1 ty)];refine⟨T,id,pa,slot,ani,h1,h2,?_⟩;have hA:=ha dt pins s1 σ H1 _ aF aB;rw[hs]at hA⊢;rw[tL (afZ (by show qI (false||iE (XZ es).any);rw[Bn]<;>rfl) ?_) (zC hA us s2 vs H2 bk r2 aZ (hm pins s2 σ H2 x vs v us Q bk r1 r2 aZ))]
universe zE
universe L2
namespace L2
open PySem PySem.Spec PyProof.Rows
abbrev Zp fY(id:String)anp:Prop:=
 ∀ae5 J8 ZS Bg yT,iO->K3->vp->r x xs H Q →
  ĉ (e! id) (v::us) (Iu X Q)
def Vals.one:∀{x:V}Bh,Qu [x]->∃u,us=[u]/\w4 x
 |_,_,bN r cW=>x6 r
def Vals.zero:∀Bh,Qu []->us=[]
 |_,cW=>rfl
def Vals.dropLast Go(h:vp):Vals xs.dropLast us.dropLast:=by
 induction h with
 |nil=>rw[s8]
 |cons r t ih=>
  cases t with
  |nil=>rw[s8]
  |cons q t'=>exact bN r ih
def Vals.eraseIdx:∀Go g!,vp->Io aM6 (us.eraseIdx i)
 |_,_,_,cW=>cW
 |_,_,0,bN _ t=>t
 |_,_,i+1,bN r t=>bN r (Vals.eraseIdx i t)
def Vals.reverse Go(h:vp):Vals xs.reverse us.reverse:=by
 induction h with
 |nil=>rw[s8]
 |cons r t ih=>rw[eu List.reverse_cons List.reverse_cons (Vals.append ih (bN r cW))]
def Vals.rep Go(h:vp):vB k (Vals (Ak (Qw xs)) (Ak (Qw us)))
 |0=>cW
 |k+1=>by
  rw[aLP];exact Vals.append h (Vals.rep h k)
def aSm gb(l:ry):l.eraseIdx (l.length-1)=l.dropLast:=by
 induction l with
 |nil=>rfl
 |cons a r ih=>
  cases r with
  |nil=>rfl
  |cons b r=>
   have e:di (a::b::r)-1=(di (b::r)-1)+1:=by
    rw[bq h1 (di (a::b::r)=r.length+2) rfl h2 (di (b::r)=r.length+1) rfl];omega
   rw[e,List.eraseIdx_cons_succ,ih]
   all_goals rfl
def aFF gb:∀(l:ry)g!,k8 (l.eraseIdx i) l.length
 |[],_=>fe
 |_::_,0=>HD
 |_::r,i+1=>Nat.succ_le_succ (aFF r i)
def foldl_rep(cb:cC):∀pn(acc:cC),
  List.foldl (λx1 x2=>x1++x2) acc.toArray (Qw cb.toArray)=zu (acc++Ak (Qw cb))
 |0,acc=>Ξ
 |k+1,acc=>by
  rw[bq e (acc.toArray++cb.toArray=zu (acc++cb)) Ξ e2 ((acc++cb)++Ak (Qw cb)=acc++Ak (List.replicate (k+1) cb)) (by
   rw[List.replicate_succ,List.flatten_cons,List.append_assoc])]
  rw[←e2,←foldl_rep cb k (acc++cb),←e,List.replicate_succ,List.foldl_cons]
section
variable {X:bT}{pins:gG}{σ:St}{H:aM}{s:Shared}{l b:Addr}{xs ys zs:cH}
def Inv.aHE{cb its':cC}bf{f:QM->QM}Bd bQ(hH:H l=gY)
  (e:vC l (Ff (lP cb.toArray n)))(hf:f cb.toArray=its'.toArray)(hv:Vals ys its')(hz:apF):
  WH (pJ l ys) s (s.heap.update l (Obj.mapSeq f)):=by
 rw[jm q (PySem.IsL.update e f) hf q];refine ap7 l e l (by rw[az hH trivial]) (aq rfl) (λb' u hb hu=>eV (Heap.get?_update_other s.heap (Obj.mapSeq f) (Ne.symm hb)) hu) ⟨_,q⟩ ?_;exact⟨hz,its',_,hv,q⟩
def Inv.aY0{cb:cC}Bd bQ(hv:ŗ ys)(hz:apF):
  WH (x_ (ς ys)) s (ô BF (lP cb.toArray)):=
 I.laid (λ_ _ q=>qB q) fe ⟨hz,cb,0,hv,GQ _⟩
def Inv.fresh bQ:aL1:=My
def Inv.awb bQ(hH:H l=gY):KL/\∃(cb:cC) (n:Nat),WK/\Ţ cb.length/\vC l (Ff (lP cb.toArray n)):=by
 rw[KQ z cb n r e (WV l hH) ⟨z,cb,n,r,r.length,e⟩]
def Hb bf(h:jB n):dQ (Builtin.List.listTooLong n):=by
 unfold Builtin.List.listTooLong;exact decide_eq_false av
universe zE
section
variable {X:bT}
abbrev aG7:V->cH->aM->jA:=λx vs H Q=>∃l xs y,x=Δ l/\vs=[y]/\H l=gY/\aiR sizeLine/\Q .bb (pJ l (xs++[y]))
def aFG:Zp X "list.append" aG7:=by
 intro pins s σ H x vs v us Q I rx rv h;obtain⟨l,xs,y,rfl,rfl,hH,hz,q⟩:=h;cases rx;rw[eS u cB rv.one];rw[PN z n r e];rw[ah8 (ahA F.slot_list_append _ e F.entry_list_append (F.args_list_append_2 _ _) (PySem.list_append l cb.toArray n u (by rw[ą])) e) (GV .bb (agz (cb++[u]) hH e Ξ (r.append (bN cB cW)) ?_) q)];rw[aMb];omega
abbrev aG8:V->cH->aM->jA:=λx vs H Q=>∃l b xs zs,x=Δ l/\vs=[Δ b]/\H l=gY/\H b=kQ zs/\jB aME/\Q .bb (pJ l (xs++zs))
def Nw:Zp X "list.extend" aG8:=by
 intro pins s σ H x vs v us Q I rx rv h;obtain⟨l,b,xs,zs,rfl,rfl,hH,hB,hz,q⟩:=h;cases rx;rw[eS u cB rv.one];cases cB;rw[PN z n r e];obtain⟨z2,Ha,n2,r2,NQ,e2⟩:=I.awb hB
 rw[vI hsz (jB aMV) (by rw[azw];omega) axe (¬(gJ (aL6&&aK3 aMV))) (by
  rw[eu (Hb hsz) Bool.and_false Bool.false_ne_true]) (call_meets F.slot_list_extend (uY e) F.entry_list_extend (F.args_list_extend_2 _ _)
  (AutoSeq1.list_extend_list_list_0 l cb.toArray n b Ha.toArray n2 axe (by rw[ą]) av) ⟨e,e2,?_⟩)]
 refine GV .bb (agz (cb++Ha) hH e Ξ (r.append r2) ?_) q;rw[aAJ];omega
abbrev aNF:V->cH->aM->jA:=λx vs H Q=>∃l xs y,x=Δ l/\vs=[]/\H l=gY/\fP xs (Lk 1) y/\Q y (pJ l xs.dropLast)
def aY1:Zp X "list.pop" aNF:=by
 intro pins s σ H x vs v us Q I rx rv h
 obtain⟨l,xs,y,rfl,rfl,hH,hy,q⟩:=h;cases rx;have aC1:=rv.zero;subst aC1;rw[PN z n r e];rw[agU u hu cB (r.get hy) hy' (fP cb.toArray (cb.toArray.size-1) u) (by
  show fP cb.toArray (cb.length-1) u;rw[LL Array.getElem?_toList hl hu]) (ahA F.slot_list_pop _ e F.entry_list_pop (F.args_list_pop_1 _) (MeetsSeq.list_pop_last l cb.toArray n u hy' (by rw[ą])) e)];refine⟨y,_,agz cb.dropLast hH e ?_ r.dropLast ?_,cB,q⟩
 ·show aLq (cb.toArray.size-1) cb.dropLast.toArray;rw[List.size_toArray,List.eraseIdxIfInBounds_toArray,aSm]
 ·rw[s7 List.length_dropLast]
abbrev aHP:V->cH->aM->jA:=λx vs H Q=>∃l xs i k y,x=Δ l/\vs=[η i]/\H l=gY /\ -(2 ^ 63)≤i/\i<2 ^ 63/\seqIndex? i xs.length=fc/\fP xs k y/\Q y (pJ l (xs.eraseIdx k))
def aVA:Zp X "list.pop" aHP:=by
 intro pins s σ H x vs v us Q I rx rv h;obtain⟨l,xs,i,k,y,rfl,rfl,hH,h1,h2,hk,hy,q⟩:=h;cases rx;rw[eS u cB rv.one];rw[r3 cB];rw[PN z n r e];rw[BE w hw mX (r.get hy) (call_meets F.slot_list_pop (uY e) F.entry_list_pop (F.args_list_pop_2 _ _)
  (MeetsSeq.list_pop_at l cb.toArray n i t k w (fitsIndex_both h1 h2) (by rw[List.size_toArray,←hl];exact hk) (by rw[b! Array.getElem?_toList hw]) (by rw[ą])) (lM e))]
 refine⟨y,_,agz aM7 hH e ?_ (r.eraseIdx k) ?_,mX,q⟩
 ·show aLq k (zu aM7);rw[List.eraseIdxIfInBounds_toArray]
 ·rw[fZ (aFF xs k)]
abbrev aHQ:V->cH->aM->jA:=λx vs H Q=>∃l xs,x=Δ l/\vs=[]/\H l=gY/\Q .bb (pJ l [])
def aVB:Zp X "list.clear" aHQ:=by
 intro pins s σ H x vs v us Q I rx rv h;obtain⟨l,xs,rfl,rfl,hH,q⟩:=h;cases rx;have aC1:=rv.zero;subst aC1;rw[PN z n r e];refine ahA F.slot_list_clear _ e F.entry_list_clear (F.args_list_clear_1 _) (AutoSeq1.list_clear_list_0 l cb.toArray n (by rw[ą])) e;exact GV .bb (I.aHE (its':=[]) (ys:=[]) hH e rfl cW HC) q
abbrev amX:n8:=λx y H Q=>∃l b xs zs,x=Δ l/\y=Δ b/\H l=gY/\H b=kQ zs/\jB aME/\∀p,tU->Q (Δ p) (pJ p (xs++zs))
def aY2:y! Add amX:=by
 rw[EK];obtain⟨l,b,xs,zs,rfl,rfl,hH,hB,hz,q⟩:=h;cases rx;cases a!;rw[PN z n r e];obtain⟨z2,Ha,n2,r2,NQ,e2⟩:=I.awb hB;rw[oA (PySem.P.add_list e e2 ?_ (by rw[azw];omega)) ea (cb.toArray++Ha.toArray=zu (cb++Ha)) Ξ]
 rw[gh ea (OZ (Δ _) (aBJ t' (r.append r2) (by rw[aAJ];omega)) _ I.fresh)]
abbrev aNG:n8:=λx y H Q=>∃l k xs,x=Δ l/\y=η k/\H l=gY /\ -(2 ^ 63)≤k/\k<2 ^ 63/\jB aB0 ∧
 ∀p,tU->Q (Δ p) (pJ p (Ak (ao2 xs)))
def aXa gb Ua pn:(Qw xs).flatten.length=k*xs.length:=by
 induction k with
 |zero=>simp
 |succ k ih=>rw[List.replicate_succ,List.flatten_cons,List.length_append,ih,Nat.succ_mul,Nat.add_comm]
def aY3:y! Mult aNG:=by
 rw[EK];obtain⟨l,k,xs,rfl,rfl,hH,h1,h2,hz,q⟩:=h;cases rx;rw[r3 a!];rw[PN z n r e]
 rw[eE hlen (jB aA8) (by rw[List.size_toArray,←hl];exact hz) a2u (¬aA8 > (2 ^ 63-1) / 8) (by
  rw[Fj ((sizeLine:Nat)≤(2 ^ 63-1) / 8) aC]) a2v (¬(gJ (! Builtin.List.listFitsIndex k))) (by
  rw[ao4 (fitsIndex_both h1 h2)]) axe (¬(aO (aK3 aA8))) (by
  rw[ao4 (Hb hlen)])]
 rw[dX axA (List.foldl (λx1 x2=>x1++x2) #[] (aK7 (pT cb.toArray.isEmpty 0 k.toNat))=(ao2 cb).flatten.toArray) (by
  have f0:vB m (List.foldl (λx1 x2=>x1++x2) #[] (aK7 m)=(List.replicate m cb).flatten.toArray):=λm=>by
   have:=foldl_rep cb m [];rw[bV wC this this]
  rw[f0];cases cb with
  |nil=>simp
  |cons a r'=>rw[kE Ξ]) (wpAny_binaryOp_repeat_ref (T:= "list") (U:= "int") aC (uY e) (λs'=>typeIs_int s' k t) noFill_list_mul F.fills_int_mul F.slot_int_rmul repeat_list F.slot_int_index.lookup
  (call_meets F.slot_int_rmul (typeIs_int s k t) F.entry_int_rmul (F.args_int_rmul_2 _ _) (int___rmul___int_list k t l cb.toArray n)
   (rC e (uY e) (ahA F.slot_list_mul _ e F.entry_list_mul (F.args_list_mul_2 _ _) (AutoListH.list___mul___list_int_3 l cb.toArray n k t a2v a2u axe) e))))]
 rw[gh axA (OZ (Δ _) (aBJ t' (r.rep k.toNat) (by rw[eu aXa Nat.mul_comm hz])) _ I.fresh)]
universe zE
section
variable {prog:Program}{w:World}{A:Around}{E:iD}{s:Shared}
universe zE
section
variable {X:bT}
universe zE
universe L2
namespace aET
open PySem PySem.W PySem.Calls PyProof.Rows
def a5U{P:Params}sS:∀yR(vs:cC),WellAll P h vs aNn->ahJ ns:=by
 intro ns
 induction ns with
 |nil=>
  intro vs w;rw[zD]at w;cases w;rw[s8]
 |cons n ns ih=>
  intro vs w;rw[cZ]at w;cases w with
  |cons a b=>
   cases a;exact bN _ _ (ih _ b)
def aT4{l:OpenLaw}bf ayy{P:Params}sS{args:List WData}{vals:cC}
  (g7:aO (l.row.toRowW.claim.pre args))(qi:WellAll P h vals args):
  ∃a vs ns,vals=[Eo]/\args=[WData.list aNn]/\rD=ajX ajy/\ahJ ns/\aqK n:=by
 rw[bq hsh (aO (WShape.hasAll [] args [EX η])) aM8.1 hc (aO (l.pre.holds [] { args:=args})) aM8.2];rw[eo d r h1 h2 (hasAllW_cons hsh)];obtain rfl:=hasAllW_nil h2;rw[eS xs h3 (hasW_list h1)];rw[rJ ns (items_int h3)]
 have hlen:aqK n:=by
  unfold OpenLaw.pre at hc
  rw[Ů h4 (aO ((WTm.not (.lt (.lit (η gO)) (.len (.arg 0)))).holds [] { args:=[EX ũ]})) (by
   have h4:=(holds_andW hc).1;rw[bV hn h4 h4]) h5 (condW_of h4 (w_not (w_lt w_lit (w_len_list (w_arg rfl))))) eH h5];rw[oA (Nat.le_of_not_lt (ck q)) q' (gO<i_ ns.length) av]
  first
   | (rw[VD (decide_eq_true q') h5 h5 aC])
   | (simp at h5;omega)
 cases qi with
 |cons w1 w2=>
  cases w2;cases w1 with
  |list ho aeu=>exact⟨_,_,ns,rfl,rfl,ho,a5U ns _ aeu,hlen⟩
def aT5(l:OpenLaw)(args:List WData):aO (l.row.toRowW.claim.post args MC args):=
 postW_of (r:=l.row.toRowW) (X:=(true == true))
  (show aO (WShape.has [] MC pM) by first | rfl | decide | simp[WShape.has,WShape.arms,WShape.armsAll])
  (show(WTm.eq .res (.lit MC)).value [] { args:=args,res:=d7 pM true,after:=args}=Ex pM (true == true) from w_eq_bool (w_res rfl) w_lit) rfl
def Hc{l:OpenLaw}bf{q:Program}aKm{YP:World->ay3}{d:DefRec}
  ayy aJN
  (call:∀(w:World)(s₀ s₁:Shared)(mg mb:Str->fO)(fa:Addr)(o:Obj)(pm cd doc:Value)rj(vs:cC)yR,
   Ground q loose [] XP w s₀ mg mb s₁.heap->YP w s₁.heap →
   ag2 fa b8->o.data=.func (docDef d.name d.params d.body d.scope pm cd doc)->s₁.heap.CodeRec cd d.name->mg d.name=jF fa →
   ag2 a (ajX ajy)->ahJ ns->aqK n->s₁.gens=#[] →
   Ll (model l.prog w) callerA (.call (Δ fa) (rU [Δ a])) (λr s'=>r=.ok (.ret MC)/\aBY/\s'.os=s₁.os/\þ) s₁):
  WalkO q loose XP YP l.row.toRowW d [] (λf vs=>PySem.call f vs):=by
 intro w s₀ s₁ mg mb G Y fa o pm cd doc dV kV ho hd PQ hD Y1 hg args vals as g7 a6K hrd qi hlo;obtain rfl:dV=cG:=Dflts.none hD hdf;obtain rfl:kV=cG:=Dflts.noKw hD;obtain⟨a,vs,ns,rfl,rfl,Y2,hints,hlen⟩:=aT4 hn g7 qi;refine enter_call (aoT (call w s₀ s₁ mg mb fa o pm cd doc a vs ns G Y ho (fd_plain hd) PQ Y1 Y2 hints hlen hg) r s' hq);rw[LH rfl h2 h3 h4 hq (aq ⟨MC,MC,[],rfl,Cv,MC,aT5 l _,λ_=>⟨List.Pairwise.nil,cK hm (nomatch hm)⟩⟩) h2 h3 h4]
section
variable {prog:Program}{w:World}{A:Around}{E:iD}{s:Shared}{K:Frag}
abbrev a6t DN(L d:Addr):gG:=(azf).filterMap λa=>if a=L\/a=d then none else(rD).map λo=>(a,o)
universe zE
universe aET
namespace L2
open PySem PySem.Spec PyProof.Rows
def aFH:∀{vs:cC}Oc,ahJ ns->Io HG vs
 |_,_,cW=>cW
 |_,_,bN n t h=>bN (lS t) (aFH h)
abbrev axB jU:Prop:=∀b,j3\/∃o xs,H b=uW .cw (ς xs)
def aVC DJ{mg mb:Str->fO}Ul dU{fa a:Addr}{fd:FuncData}d!{sp:uF}{s₁:Shared}{vs:cC}Oc
  (g_:K.In s₁.heap)(yL:s₁.heap.Ns mainGlobals mg)(hb:s₁.heap.Ns builtinsNs mb)(JX:∀x:Str,aCu -> mb x=Kx)(a2w:s₁.heap.NoLimit)(hg:s₁.gens=#[])
  (ha:ag2 a (ajX ajy))(hi:ahJ ns)(hl:aMB)(hr:sZ callerA)
  (F:∀base:Heap,arZ->api mg->qT P w K mg base gH k fa fd [x] sp)(a0L:∀kP Gu,BindsTo s fd (rU [u]) [(x,u)])
  (NL:∀H:aM,axB H->iw K H a HG->sp [Δ a] H (λv _=>v=fT .ah) λ_ _ _=>False)
  (aCO:∀H e s',gH [] H s₁ (λ_ _ _=>False) e s'->False):
  Ll (model P w) callerA (.call (Δ fa) (rU [Δ a])) (λr s'=>r=.ok (.ret MC)/\aBY/\s'.os=s₁.os/\þ) s₁:=by
 rw[bI rv (aFH hi) a2x hi.length]
 have core:∀H:aM,axB H->iw K H a HG->EU H s₁.heap->(∀b,H b≠none->b=a)->(H a≠none->b9 asj) →
   Ll (model P w) callerA (.call (Δ fa) (rU [Δ a])) (λr s'=>r=.ok (.ret MC)/\aBY/\s'.os=s₁.os/\þ) s₁:=by
  intro H hO hS a_ hA hK;rw[eE aG9 (∀ZK,ag2 b b8->j3->(agq H).get? b=b8) (λe n=>aUT e n) ak6 (∀ZK afg,ag2 b b8->o.data=.dict es ep->j3) (λ{b o es ep} e d=>by
   cases q:H b with
   |none=>rfl
   |some u=>
    have e':b=a:=hA b (by rw[gp q]);rw[zz e' ha e];cases e;have d':Data.seq vs.toArray _=Data.dict es ep:=d;cases d') auq (∀{b:Addr}afu,s₁.heap.Ns b m->(agq H).Ns b m) (λ{b m} ⟨o,es,ep,e,d,r⟩=>⟨o,es,ep,aG9 e (ak6 e d),d,r⟩) aOv (K.In (agq H)) (λb o e=>aG9 (g_ b o e) (by
   cases q:H b with
   |none=>rfl
   |some u=>
    have e':b=a:=hA b (by rw[gp q]);rw[zz e' (hK (by rw[gp q])) e];cases e))]
  rw[vI hM (Mod K mg (agq H)) ⟨aOv,auq yL,⟨mb,auq hb,JX⟩,let⟨mc,h1,h2⟩:=a2w;⟨mc,auq h1,h2⟩⟩ e0 (Td P w K mg (agq H) callerA [] s₁ H) ⟨rfl,hM,λb o e=>aXe e,Nat.le_of_eq (aTm _ _),trivial,aaB b hb (ĥ b ([]:cz) hb),a_,.of_eq hg⟩ (aoT ((F _ aOv (auq yL)).run callerA [] s₁ H (rU [Δ a]) [Δ a] [Δ a] _ _ hr e0 (a0L s₁ (Δ a)) (bN rfl cW) (NL H hO hS)) r s' h)];cases r with
  |error e=>exact(aCO H e s' h).elim
  |ok fl=>
   cases fl with
   |next=>rw[BH h]
   |brk=>rw[BH h]
   |cont=>rw[BH h]
   |ret u=>
    obtain⟨v,H',os,bare,un,axC,r',q⟩:=h;rw[LS q' (v=fT .ah) q q'];obtain rfl:u=Value.bool true:=r';refine⟨rfl,OldK.of_keep (Va o e),os,bare⟩;cases q:H b with
    |none=>exact un.keep b o e q (by intro z;rw[se (ĥ b ([]:cz) z) Ξ]) Ξ
    |some u=>
     rcases hO b with z | ⟨ob,xs,z⟩
     ·rw[q]at z;cases z
     ·have z2:=un.ox b ob _ z;obtain⟨e1,_⟩:=a_ b _ z;obtain⟨e2,_⟩:=axC b _ z2;rw[e]at e1;cases e1;exact e2
 cases hk:asj with
 |some o=>
  rw[jm e (g_ a o hk) ha e];cases e;refine core (Wa _) (λ_=>aq rfl) (aA ⟨_,vs.toArray,_,hk,rfl,rfl,rfl,by rw[aoX a2x];exact hl,bh rv⟩) (λb u z=>by have z':(none:Option je)=dD:=z;cases z') (agS b z rfl z) (ahY z rfl z)
 |none=>
  refine core (Ma b b a (rL .cw (Ff ajy) (ς HG)) none) (ck b) (aq (r? (Ff ajy) gK)) (Va u z) (dz b z) λ_=>hk
  ·rw[vj (b=a)]
   ·exact aA ⟨_,_,if_pos hb⟩
   ·exact aq (if_neg hb)
  ·rw[vj (b=a)]
   ·have z':=(atq (if_pos hb)) z;cases z';subst hb;exact⟨ha,by rw[qs hl],vs,_,rv,ha⟩
   ·have z':=(atq (if_neg hb)) z;cases z'
  ·rw[vj (b=a)]
   ·exact hb
   ·rw[se (if_neg hb) z]
universe L2
namespace L2
open PySem PySem.Spec PyProof.Rows
universe L2
namespace L2
open PySem PySem.Spec PyProof.Rows
structure Gb dg(x qual:Str)(st:Stmt)(f:Addr)an9:Prop where
 ex:∃(oc:Value) (od:X3) (kV doc pm:Value) (an:X3) (fW ct:Value) (NK:Array fO),
  fd=aa8 x (Js st) (hV st) (ax st) cG pm an fW ct/\aqW f ⟨oc,od,.func fd,NK⟩/\apg K fW qual
 kp:UO K (Δ f)
section
variable {P:Program}{w:World}{K:eY}{mg:Str->fO}{base:Heap}
def Gb.binds ayH aeV aKs
  (h:∀aJW(fW ct:Value)Bg,aBU->aBD (aa8 x (Js st) (hV st) (ax st) cG pm an fW ct) us=G1 UZ):Ia K:=by
 obtain⟨oc,od,kV,doc,pm,an,fW,ct,NK,rfl,lk,PQ⟩:=F.ex;exact .all (h kV doc pm an fW ct)
def vx ayH{f:Addr}{oc:Value}{od an:X3}{NK:Array fO}{kV doc pm fW ct:Value}(l:aqW f ⟨oc,od,.func (aa8 x (Js st) (hV st) (ax st) cG pm an fW ct),NK⟩)
  (c:apg K fW qual)(k:UO K (Δ f)):Gb K x qual st f (aa8 x (Js st) (hV st) (ax st) cG pm an fW ct):=⟨⟨oc,od,kV,doc,pm,an,fW,ct,NK,rfl,l,c⟩,k⟩
universe zE
def aFI bf(h:n≤1000):n<sizeLine:=UE h
section
variable {X:bT}
universe zE
def He{A B:Prop}(h:B):pT false A B:=by
 rw[az xU h]
def Nu{A B:Prop}(h:A):pT true A B:=by
 rw[az gK h]
abbrev mS(H H':aM):Prop:=∀b o,H b=b8->H' b=b8
def mS.refl jU:mS H H:=λ_ _ h=>h
def mS.trans{H H1 H2:aM}(a:mS H H1)(b:mS H1 H2):mS H H2:=λc o h=>b c o (a c o h)
def mS.free{H H':aM}(e:mS H H'){l:Addr}(h:aB3 (H' l)):aB3 (H l):=by
 cases q:H l with
 |none=>rfl
 |some o=>
  rw[e l o q]at h;cases h
universe L2
namespace L2
open PySem PySem.Spec PyProof.Rows
section
variable {X:bT}
def NA:Ar "len" (λxs H Q=>∃a kvs,xs=[V.ref a]/\H a=nh .bA/\Q (asf η) H):=by
 rw[Aj s H Q I r h];rw[eo a kvs ha q h];rw[HN u cB r];cases cB;exact a0G I (aq ha) λt s' I'=>⟨asf η,H,I',lS t,q⟩
universe zE
section
variable {κ:Type} [BQ]
universe zE
universe L2
universe zE
end
mutual
section
namespace L2
open PySem PySem.Spec PyProof.Rows
abbrev aEm(env:Env):ê->Fa->Fa
 |[],acc=>acc
 | (n,k)::r,acc=>WX r (apM x9 ((n,(aoR).getD 0)::acc) acc)
def vy T9:∀(l:ê)(acc:Fa),(jn l (p.2=As->∃c,VQ p.1)) →
  (forIn l acc fun(x:Str×NameKind) (cs:Fa)=>(if gJ (UB x.2) then do let a ←cellOf env x.1;RV ((x.1,a)::cs) else RV cs:Sem (ForInStep Fa)))=G1 (WX l acc)
 |[],acc,_=>rfl
 | (n,k)::r,acc,h=>by
  rw[List.forIn_cons];rw[rA hk x9]
  ·obtain⟨c,hc⟩:=h (n,k) List.mem_cons_self pL;rw[bq mW (VQ n) hc e1 (cellOf env n=pure c) (by rw[dJ cellOf mW])]
   simp only[hk,if_true,e1];show(forIn r ((n,c)::acc) _:Sem _)=_;rw[cV ih (vy (env:=env) r ((n,c)::acc) (lR (h p (oN hp)))) (ih.trans ?_)]
   show _=G1 (WX r (apM x9 ((n,(aoR).getD 0)::acc) acc));rw[Hg,mW];rfl
  ·have hk':qI x9:=pL
   simp only[hk',Bool.false_eq_true,if_false];show(forIn r acc _:Sem _)=_;rw[cV ih (vy (env:=env) r acc (lR (h p (oN hp)))) (ih.trans ?_)]
   show _=G1 (WX r (apM x9 ((n,(aoR).getD 0)::acc) acc));rw[kE hk]
def aE2 T9 afa(h:jn scope.names (p.2=As->∃c,VQ p.1)):closureFor scope env=G1 (aEm env scope.names []):=by
 unfold closureFor;have:=vy (env:=env) scope.names [] h;show((forIn scope.names ([]:Fa) (fun(x:Str×NameKind) (cs:Fa)=>(if gJ (UB x.2) then do let a ←cellOf env x.1;RV ((x.1,a)::cs) else RV cs:Sem (ForInStep Fa))):Sem Fa) >>= λr=>pure r)=_;rw[this];rfl
def aEn T9 d! jT:∀{l:ê}{acc:Fa},(jn l (p.2=As->∃c,VQ p.1))->(∀c,acc.lookup x=lK->VQ x) →
  kZ (WX l acc) x=lK->VQ x
 |[],acc,_,ha,h=>ha c h
 | (n,k)::r,acc,hl,ha,h=>by
  refine aEn (l:=r) (lR (hl p (oN hp))) ?_ h;intro c' mW;rw[rA hk x9]
  ·rw[Hg]at mW;rw[tw c0 hc0 (hl (n,k) List.mem_cons_self pL) hc0 (env.cells.lookup n=some c0) hc0];rw[aAX mW];cases hx:x == n with
   |true=>
    rw[hx]at mW;rw[hc0]at mW
    have e:x=n:=bh hx
    rw[eu e hc0 mW]
   |false=>
    rw[bV hx mW (ha c' mW)]
  ·rw[bV (if_neg hk) mW (ha c' mW)]
def avG T9 d!:∀{l:ê}{acc:Fa},(aBL x∈l\/∃c,acc.lookup x=lK)->∃c,kZ (WX l acc) x=lK
 |[],acc,h=>by
  rcases h with h | h
  ·exact nomatch h
  ·exact h
 | (n,k)::r,acc,h=>by
  rw[O! (∃c,kZ (WX r (apM x9 ((n,(aoR).getD 0)::acc) acc)) x=lK) (avG (l:=r) ?_)];rcases h with h | ⟨c,h⟩
  ·rcases Q_ with e | h
   ·injection e with e1 e2;subst e1 e2;right;rw[aAu (kR (by rfl))];simp
   ·exact aq h
  ·right;rw[rA hk x9]
   ·rw[aAu Hg];cases hx:x == n with
    |true=>exact fR
    |false=>rw[b7 c h]
   ·rw[kE hk];rw[b7 c h]
abbrev v! fY(scope:Scope)(N:gz)m9(fp:cz)kP jU:bT:=
 { X with N:=N,s₀:=s,H₀:=H,env:=aBF (ahz []) C X.env,outer:=X.stack,stack:=X.stack,ex:=fp,fn:=λ_=>false,fJ:=[],qZ:=CT}
abbrev Jx Od(σ:St):St:=fG.map λo=>match o with
 |WU=>(σ[i]?).join
 |none=>none
structure akl fY(scope:Scope)(N:gz)Od:Prop where
 kind:scope.kind=HH
 aHR:aBz y (y.2≠.cell)
 names:aBz y (y.2=.local -> õ y.1 Co)
 free:aBz y (y.2=As->(HM y.1 oQ\/HM y.1 Fb))
 len:fG.length=N.length
 fG:∀J9 nc g!,fP N j x->oK fG j i->abC/\aBL x∈scope.names/\õ x Fb
def aPp T9:∀{names:ê}d!{k:NameKind},names.lookup x=fc →
  kZ (names.map (ajJ (n,k) (x9&&aay&&aaD n) n (n,k))) x=fc\/(k=As ∧
   kZ (names.map (ajJ (n,k) (x9&&aay&&aaD n) n (n,k))) x=oQ)
 |[],_,_,h=>BX
 | (n,k')::r,x,k,h=>by
  have ih:=@aPp env r x k;show List.lookup x ((azX (gJ (UB k'&&aay&&aaD n)) n (n,k'))::_)=_\/_/\List.lookup x ((azX (gJ (UB k'&&aay&&aaD n)) n (n,k'))::_)=_;cases hx:x == n with
  |true=>
   simp only[List.lookup_cons,hx]at h;cases h;rw[rA hc (UB k'&&aay&&aaD n)]
   ·right;rw[UX];rw[azT hc];rw[b7 (bh hc.1.1) (by rw[ao0 hx])]
   ·left;rw[kE hc];rw[ao0 hx]
  |false=>
   simp only[List.lookup_cons,hx]at h;rw[rA hc (UB k'&&aay&&aaD n)]
   ·rw[UX];rw[ao0 hx];exact ih h
   ·rw[kE hc];rw[ao0 hx];exact ih h
def SN.but wL iV{h h':Heap}ql Kn(hn:ow C)(hs:Heap.SameBut C h h'):EU H h':=λb u e=>by
 refine(ok b u e).wb (λc v hc q=>Hp hs c ?_ q) (cK q q) λ_ _ q=>q;rintro rfl;rcases hc with rfl | hc
 ·rw[hn]at e;cases e
 ·rw[hn]at hc;cases hc
abbrev adU fY(ifs:dF)(t:lF):Prop:=
 ∀n? afp,iO->t σ H Q →
  j7 (forIn ifs true λc r=>if aO r then do let ok ←isTrue c X.env (lJ c);RV ok else RV r) (amV X pins σ Q) s
abbrev a0M:lF:=λ_ H Q=>Q true H
def aVa lG:adU X [] a0M:=RY s σ H Q I h (wpAny_tests_nil ⟨H,I,h⟩)
def aVb lG{c:Expr}{t:lF}(h:uC X c t):adU X [c] t:=RY s σ H Q I hw (wpAny_tests_one (Ő s σ H Q I hw))
abbrev aFJ(J:It)(g:uG)(tt:lF)Uk(acc:Addr)(Q:dW)aeN:Prop:=
 ∃W:ze (Rt cH (St->dW)),(∃m,W 0 m [] σ H)/\∀i m ys σ' H',W i m ys σ' H' →
  (asL H'/\Q H') ∨
  (J.go i H'/\∀x H2,J.avh i H' x H2->g x σ' H2 λσ3 H3=>tt σ3 H3 λb H4=>
   if aO b then te σ3 H4 λy H5=>H5 acc=kQ ys/\ys.length<sizeLine/\∃m',m'<m/\W (i+1) m' (ys++[y]) σ3 (HZ H5 acc (ys++[y]))
   else ∃m',m'<m/\W (i+1) m' ys σ3 H4)
abbrev axd Od(wi:TI)(g:uG)(tt:lF)Uk:TE:=λσ H Q=>
 wi σ H (nB J (∀acc,Ř acc->aFJ J g tt te acc (Q (Δ acc)) (Jx fG σ) (HZ H1 acc [])))
def a49 ax7 uI ayI m8{elt target iter:Expr}{ifs:dF}afa DM{it acc:Value}T9(I:ze Bt)
  (turn:∀n s,I n s->oq mE A (pyNext it) (λr s₁=>match r with
   |none=>R (.ok .next) s₁
   |fq=>nj mE A (letOwnedTupleGo target it v) (cK s₁' (nj mE A (assign target env v) (λ_ s₂=>
     nj mE A (forIn ifs true λc r=>if aO r then do let ok ←isTrue c env (Č c);RV ok else RV r) (λok s₃=>
      if aO ok then nj mE A (Č elt) (λx s₄=>
       nj mE A (call (e! "list.append") [acc,x]) (cK s₅ (∃m,m<n/\I m s₅)) CT s₄) CT s₃
      else ∃m,m<n/\I m s₃) CT s₂) CT s₁')) CT s₁) CT)
  dS(h:I n s):
  Ll mE A (.compLoop (GN elt [⟨target,iter,ifs,0⟩] scope pos) 0 it acc env) R s:=by
 refine codeAny_loop rfl I (cP n s hI) n h;show oq _ A ((compTurn (GN elt [⟨target,iter,ifs,0⟩] scope pos) 0 it acc env).onRaise (λx=>do noteFrame x env;theTreesLotGoes x)) _ _;rw[mC (wpAny_noted ?_) compTurn_list];refine aAA (ĭ (turn n s hI) (cP r s₁ h₁) _ _ h');cases r with
 |none=>rw[agp h₁]
 |some v=>
  rw[ff (ĭ h₁ (cP _ s₁' h₁') _ _ h') (ĭ h₁' (λ_ s₂ h₂=>ĭ h₂ (cP ok s₃ h₃) _ _ h') _ _ h')];cases ok with
  |false=>rw[agp (kU h₃)]
  |true=>
   exact fu (ĭ h₃ (λx s₄ h₄=>ĭ h₄ (λ_ s₅ h₅=>LB (wpAny_pure (kU h₅))) _ _ h') _ _ h')
section
variable {X:bT}{scope:Scope}{N:gz}{fG:uN}
def akl.cells(ok:aos X N)(a5C:X.Ok):jn scope.names (p.2=As->∃c,X.env.cells.lookup p.1=lK):=λp hp e=>a5C.has p.1 (ok.free p hp e)
def aSn Bb Gx{h1:Heap}{tk:Nat}(co:aos X N)afn(lC:G! b (Uy b))
  (yL:h1.Ns iF (Wa _))(hk:∀b o,(Am ([]:cC)).get? b=b8->arX=b8):
  Inv (v! X scope N iF fp (mh s (Am ([]:cC))) (x_ (ς []))) [] (Jx fG σ) (x_ (ς []))
   (BG s h1 tk):=by
 have cells:=aqa;rw[eE look (∀x c,kZ (ahz []) x=lK->wZ=lK) (λx c e=>aEn cells (λc h=>BX) e) aF (kq (x_ (ς [])) (BG s (Am ([]:cC)) s.toks)) (aBJ t' cW HC) a6L (∀b o,kr->ö b) (λb o e=>pN mj) a3M (GO LN (b∈X.env.locals::X.fs)) I.al7];rw[qt adV (Ru (Am ([]:cC))=iF) (Heap.size_push ..) ⟨⟨I.ok.mod,co.kind,I.ok.glob,I.ok.blt,?_,?_,?_,λx c h=>(nomatch h),I.ok.hd,I.ok.frames,aq rfl,?_,?_,?_,?_,?_,?_,?_⟩,rfl,I.bare,iA.kept hk,?_,?_,?_,?_,?_,?_,?_⟩]
 ·rw[aaV (Ru (Am ([]:cC))≤iF) adV fe]
 ·intro x y c e1 e2;exact I.ok.inj x y c (look x c e1) (look y c e2)
 ·intro x hx;refine avG (aq ?_)
  rw[bq hx ((aqH atj) x=oQ\/(aqH atj) x=Fb) hx key (∀(l:ê),(∀y∈l,y.2≠.cell)->(kZ (l.map (ajJ (n,k) (x9&&afJ HH&&aBA n oQ) n (n,k))) x=oQ ∨
    kZ (l.map (ajJ (n,k) (x9&&afJ HH&&aBA n oQ) n (n,k))) x=Fb)->aBL x∈l) (by
   intro l
   induction l with
   |nil=>intro _ h;rw[EY]
   |cons p r ih=>
    obtain⟨n,k⟩:=p;intro hn h;rw[bq hn' (∀y∈r,y.2≠.cell) (vW y (hn y (oN hy))) a4h (k≠.cell) (hn (n,k) List.mem_cons_self)];rw[cZ]at h;rw[rA hc (x9&&afJ HH&&aBA n oQ)]
    ·rw[Cq];rw[UX]at h;rw[aAX h];cases hx:x == n with
     |true=>
      have e:x=n:=bh hx
      rw[azT hc]
      have gQ:k=As:=bh hc.1.1
      rw[eu e gQ List.mem_cons_self]
     |false=>
      rw[Cn hx (oN (ih hn' h))]
    ·rw[Cq];rw[if_neg hc]at h;rw[aAX h];cases hx:x == n with
     |true=>
      rw[hx]at h
      have e:x=n:=bh hx
      rcases h with h | h
      ·rw[se Uu a4h]
      ·have gQ:k=As:=Uu;rw[eu e gQ List.mem_cons_self]
     |false=>
      rw[Cn hx (oN (ih hn' h))])]
  exact key scope.names co.aHR hx
 ·intro b hb;obtain⟨f0,f1,f2,f3,f4,jb⟩:=hf b hb;rw[b7 (pN (afK (lC b hb))) (λx c e=>f4 x c (look x c e))]
 ·intro b o e;exact aF.bs b o e
 ·rw[Wu (X.base.objs.size≤Ru (Am ([]:cC))) adV (Nat.le_succ_of_le (aoV I.sz))]
 ·intro b o e hb;obtain⟨f0,f1,f2,f3,f4,jb⟩:=hf b hb;rcases f3 with z | z
  ·exact I.ok.aen b o e z
  ·rw[se (ajQ (aoV z)) ý]
 ·intro b hb hm;obtain⟨f0,f1,f2,f3,f4,jb⟩:=hf b hb;rcases List.mem_cons.mp (a3M b hm) with z | z
  ·exact f1 z
  ·exact f2 z
 ·exact aF.stack
 ·exact aF.awc
 ·rw[eF (Wa _) yL (zc j x v e1 e2 e3)];rw[Ct Jx e2 eX e2];cases ec:fG[j]? with
  |none=>rw[ec]at e2;cases e2
  |some o=>
   rw[ec]at e2;cases o with
   |none=>cases aAK
   |some i=>
    rw[bq atI ((σ[i]?).join=fq) aAK a2y (oK σ i v) (by
     cases q:σ[i]? with
     |none=>rw[q]at atI;cases atI
     |some z=>rw[q]at atI;rw[kS z fq atI])]
    rw[Hw c1 c2 c3 (co.fG j x i e1 ec) m hn hl I.loc];have kx:HM x oQ\/HM x Fb:=co.free (x,As) c2 rfl;obtain⟨u,cB,lk⟩:=hl i x v c1 a2y (aA kx)
    rw[eF u cB ?_];rcases lk with⟨k1,_⟩ | ⟨k1,c,hc,SZ⟩
    ·rcases kx with z | z<;>(rw[k1]at z;cases z)
    ·refine aA ⟨?_,c,?_,?_⟩
     ·rcases aPp (env:=X.env) c3 with z | ⟨_,z⟩
      ·exact aA z
      ·exact aq z
     ·obtain⟨c',mW⟩:=avG (env:=X.env) (x:=x) (l:=scope.names) (acc:=[]) (aq c2);rw[rV (look x c' mW) hc];cases this;exact mW
     ·rw[nr oc ho hd SZ oc (hk _ _ (qB ho)) hd]
 ·intro x c e;rw[LH v oc ho hd (WA x (look x c e)) v oc (hk _ _ (qB ho)) hd]
 ·show b9 (upd H s.heap.objs.size (ς []) iF);rw[gT aLH (Ó HD)]
 ·intro x c e;exact aF.M_ x c (look x c e)
 ·intro p hp;rw[se (ĥ p ([]:gG) hp) Ξ]
 ·exact aF.a_.kept hk
 ·show di (Jx fG σ)=N.length;rw[jW Jx eH co.len]
def comp_back Oa{σ σ':St}aeT Gx{h2:Heap}afn
  (J:aai (v! X scope N iF fp (mh s (Am ([]:cC))) (x_ (ς []))) [] H' s')
  (hs:az1 iF s'.heap):LW H' s' h2:=by
 have u1:iA LN fp H (x_ (ς [])) s.heap (Am ([]:cC)):=
  iA.laid (uS u e e) fe I.fresh
 rw[Cg u2 (iA LN fp (x_ (ς [])) H' (Am ([]:cC)) s'.heap) J.base u3 (u1.trans u2)];rw[vI hn (G4 iF) J.free old (∀b o,kr->arY=aMY) (λb o e=>hs.2 b (pN (afK mj))) (I.aIl (s':=mh s' h2) (ch:=fp) J.os ⟨zc b o e n h1 h2',zc b o e n h1 h2',u3.free,yd e h1,u3.qd,u3.ox,u3.qe⟩ (J.a_.but hn hs) J.bare oJ)]
 ·rw[eu (En ((mh s' h2:Shared).heap.get? b=arY)) (old b o e) (u3.keep b o e n h1 h2')]
 ·rw[mq sl q (u3.slot b o e n h1 h2') sl (by rw[eu (En ((mh s' h2:Shared).heap.get? b=arY)) (old b o e) q])]
 ·rw[mq o' q (u3.there b o e h1) o' (by rw[eu (En ((mh s' h2:Shared).heap.get? b=arY)) (old b o e) q])]
 ·obtain⟨f0,f1,f2,f3,f4,jb⟩:=hf b hb;exact⟨f3,f1,f4,jb⟩
variable {elt iter b3:Expr}{ifs:dF}{wi:TI}{g:uG}{tt:lF}{te:TE}{pos:Pos}
def aF7 Bb{it:Addr}Gx{qX:Ň Heap}{J:It}{Q:V->dW}{RR:EG (Addr->Result->Bt)}
  ae8 bQ(T:Pw X.prog X.w X.K J fp qX)(st:ar1 0)(hf:abD H)
  (hg:∀C s0 H0,uB (v! X scope N C fp s0 H0) b3 g)(hi:∀C s0 H0,á (v! X scope N C fp s0 H0) tt)(he:∀C s0 H0,Dn (v! X scope N C fp s0 H0) elt te)
  (hw:∀acc,ow acc->aFJ J g tt te acc (Q (Δ acc)) (Jx fG σ) (pJ acc []))
  (hR:∀(H':aM)Kd(σ':St),aai (v! X scope N iF fp (mh s (Am ([]:cC))) (x_ (ς []))) [] H' s' →
   nJ pW->RR pW iF (.ok .next) s'):
  MH (newList []) acc s₃ (j7 (newFunctionEnv scope X.env.globals (ahz []) [] X.env.qual none cG (some X.env)) (λaNH s₄=>
   Ll (model X.prog X.w) X.A (.compStart (GN elt [Qi 0] scope pos) 0 (Δ it) acc { aNH with scope:=atj}) (RR acc aNH.locals) s₄) s₃):=by
 rw[dX lC (G! b (Uy b)) (vV (by
  obtain⟨o,e,_⟩:=T.obj _ _ st b hb;exact mj)) (wpAny_newObj_type (wpAny_newFunctionEnv co.aHR (by intro y hy;simp at hy) (cP h₁ axD axE) co.kind))];dsimp only at axD axE⊢;have adV:Ru (Am ([]:cC))=iF:=Heap.size_push ..;rw[adV]at axD axE⊢
 rw[gM hk (∀b o,(Am ([]:cC)).get? b=b8->h₁.get? b=b8) (λb o e=>
  axE.extBut b o (by have:=mj;rw[bV adV this (Nat.ne_of_lt this)]) (qB e)) hk0 (∀b o,kr->h₁.get? b=b8) (λb o e=>hk b o (qB e)) aPf (qX 0 h₁) (T.keep _ _ _ st λb _ o e=>hk0 b o e)];have F9:=aSn (tk:=V3 (mO ([]:Lb))) co I hf lC (h1:=h₁) (bh axD) hk;generalize yH:v! X scope N iF fp (mh s (Am ([]:cC))) (x_ (ς []))=rg at F9 hR
 rw[eE R9 (rg.prog=X.prog) (by rw[←yH];rfl) f7 (rg.w=X.w) (by rw[←yH];rfl) aOe (rg.K=X.K) (by rw[←yH];rfl) eA (rg.A=X.A) (by rw[←yH];rfl)]
 rw[eE ec (aO rg.calm) (by rw[b! yH adh]) akp (rg.env=aBF (ahz []) iF X.env) (by rw[←yH];rfl) ex (rg.qZ=CT) (by rw[←yH];rfl) hg' (uB rg b3 g) (by rw[b! yH (hg _ _ _)])]
 rw[gM hi' (á rg tt) (by rw[b! yH (hi _ _ _)]) he' (Dn rg elt te) (by rw[b! yH (he _ _ _)]) Ti (∀{H':aM},(Wo b b)->G! b (aEO rg [] H' b)) (λ{H'} hn b hb=>by
  obtain⟨f0,f1,f2,f3,f4,jb⟩:=hf b hb;refine⟨hn b hb,?_,?_,aq ?_,?_,?_⟩
  ·rw[az akp (pN (afK (lC b hb)))]
  ·rw[←yH];show b∉LN;intro hm;rcases List.mem_cons.mp (I.al7 b hm) with z | z
   ·exact f1 z
   ·exact f2 z
  ·rw[b! yH hb]
  ·intro x c e;rw[bV akp e (f4 x c (aEn aqa (λc h=>BX) e))]
  ·intro p hp;rw[←yH]at hp;rw[se (ĥ p ([]:gG) hp) Ξ])]
 obtain⟨W,⟨m0,w0⟩,turn⟩:=hw s.heap.objs.size I.fresh
 rw[bq a3N (G! b (b9 (upd H s.heap.objs.size (ς []) b))) (vV (by
  rw[gh (uM (pN (lC b hb))) (HS b).1])) loop (∀aDM:Shared,aDM=BG s h₁ (V3 (mO ([]:Lb))) →
   Ll (model X.prog X.w) X.A (.compLoop (GN elt [Qi 0] scope pos) 0 (Δ it) pW (aBF (ahz []) iF X.env)) (RR pW iF) aDM) (by
  rintro aDM rfl;refine a49 (λn s'=>∃i ys σ' H',aai rg [] H' s'/\qX i s'.heap/\(Wo b b)/\W i n ys σ' H') ?_ m0 ⟨0,[],Jx fG σ,_,F9,aPf,a3N,w0⟩;rintro n s3 ⟨i,ys,σ3,H3,e_,alr,akt,w3⟩;rcases turn i n ys σ3 H3 w3 with⟨stop,YL⟩ | ⟨go,step⟩
  ·rw[rV (T.done rg R9 f7 aOe ec i [] s3 σ3 H3 CT e_ (Ti akt) alr stop) eA];refine rI this r wo ⟨hr,q9⟩;rw[fz hr (hR H3 wo σ3 q9 YL)]
  ·rw[rV (T.item rg R9 f7 aOe ec i [] s3 σ3 H3 CT e_ (Ti akt) alr go) eA];refine rI this r wo ⟨u,hr,h4⟩;subst hr
   refine rI h4 _ alo ⟨x,H5,awv,alk,y5,TH,aCF⟩;rw[bI aww (awv.pinned (Ti aCF) (T.obj _ _ TH)) a1 (hg' _ alo σ3 H5 x u _ aww alk (step x H5 y5))];rw[R9,f7,eA,akp,ex]at a1;rw[IA (rI a1 _ auS ⟨σ6,awu,awx,aDv⟩) a2 (hi' _ auS σ6 awu _ awx aDv)];rw[R9,f7,eA,akp,ex]at a2;rw[oA (rI a2 b SO ⟨yF,wG,AN⟩) again (∀{σ8:St}{Zi:aM}{ade:Shared}{zs:cH},Inv rg ([]++adS fp alo.heap) σ8 Zi ade->(∃m',m'<n/\W (i+1) m' zs σ8 Zi)->∃m,m<n/\∃i ys σ' H',aai rg [] H' ade/\qX i ade.heap/\(Wo b b)/\W i m ys σ' H') (λ{σ8 Zi ade zs} aed ⟨m',hm,w8⟩=>by
    refine⟨m',hm,i+1,zs,σ8,Zi,aed.ave,T.keep _ _ _ TH λb hb o e=>(aed.pin (b,o) (Hs (Hs (auM hb e)))).1,oJ,w8⟩;rw[É o e d (T.obj _ _ TH b hb) (aed.pin (b,o) (Hs (Hs (auM hb e)))).2.1])]
   cases b with
   |false=>
    rw[rQ xU AN (again wG AN)]
   |true=>
    rw[gK]at AN⊢;have a3:=he' _ SO σ6 yF _ wG AN;rw[R9,f7,eA,akp,ex]at a3;rw[IA (rI a3 v ade ⟨y,Zi,aed,a40,aB,aZ,cy⟩) a4 (aFG (X:=rg) _ ade σ6 Zi pW [y] pW [v] (cK H' (∃m',m'<n/\W (i+1) m' (ys++[y]) σ6 H')) aed rfl (bN a40 cW) ⟨_,ys,y,rfl,rfl,aB,aZ,cy⟩)];rw[R9,f7,eA,ex]at a4;exact zC a4 _ a7i _ a51 aRY _ a4Y (again aRY a4Y))]
 exact codeAny_compStart_list (loop _ rfl) (T.self X.A 0 _ _ _ aPf (loop _ rfl))
def aXb ae8(kN:aaj X b3 wi)
  aJl
  Z6:pX (GN elt [Qi 0] scope pos) (axd fG wi g tt te):=by
 rw[I5 s H Q h];rw[eval_ListComp];rw[ff (wpAny_comprehension_free (use:=none) rfl hs (aE2 aqa) co.kind co.names ?_) (El (kN pins s σ H _ I h) v s1 h1 (Me h1 itv h2))];obtain⟨it,fp,qX,J,H2,e,bk,T,alq,f2,w⟩:=h2;subst e;refine aF7 (RR:=λacc C=>compPost (model X.prog X.w) X.A X.qZ none (Iu X Q) acc C) co adh bk T alq f2 (λC=>hg C fp) (λC=>hi C fp) (λC=>he C fp) w (tC H' s' σ' Zk q);obtain⟨m,hn,_⟩:=Zk.loc;rw[bC m hn (λh' tq=>iX (Δ _) H' (comp_back bk f2 Zk tq) q)]
def aSo gx{y:Str}{py amQ:Pos}ae8(kN:aaj X b3 wi)
  aJl
  Kc(hy:jk X.N y)(hx:atF y)aJe
  aJa
  Z6:n7 X (CJ [cU y py] (GN elt [Qi 0] scope pos) amQ) (axI (axd fG wi g tt te) (amx i)):=by
 rw[I5 s H D h];rw[xg (exec_Assign_Name_used _ _ _ _ hsw) (aAA aBN)];show wpAny _ _ (do let _ ←comprehension (GN elt [Qi 0] scope pos) scope X.env _ (newList []) false (lJ iter) (aN (abM (cU y py)))) _ _ s;rw[ff (fu (KX (wpAny_comprehension_free (use:=aN (abM (cU y py))) (Q:=cK s' (aeB X pins D .next s')) rfl hs (aE2 aqa) co.kind co.names ?_) (λ_ s' hq=>LB (wpAny_pure hq)) _ _ e e)) (El (kN pins s σ H _ I h) v s1 h1 (Me h1 itv h2))];obtain⟨it,fp,qX,J,H2,e,bk,T,alq,f2,w⟩:=h2;subst e
 refine aF7 (Q:=nB v (amx i v σ H1 D.nx)) (RR:=λacc C=>compPost (model X.prog X.w) X.A X.qZ (aN (abM (cU y py))) (cK s' (aeB X pins D .next s')) acc C) co adh bk T alq f2 (λC=>hg C fp) (λC=>hi C fp) (λC=>he C fp) w (tC H' s' σ' Zk q)
 obtain⟨m,hn,_⟩:=Zk.loc;have B:=comp_back (h2:=s'.heap) bk f2 Zk (Heap.SameBut.refl ..);show nj _ _ (ark (cU y py) aj0) _ _ _;rw[bq a4n (G4 (agL 1)) Zk.free aOt (DY (agL 1)) (Nat.ne_of_gt (Nat.lt_succ_of_lt bk.lt))]
 rw[dX aOu (∀x c,wZ=lK->c≠agL 1) (λx c e z=>by
  obtain⟨v,q'⟩:=bk.cell x c e;have:=q'.lt;rw[VD z this this (Nat.not_lt.mpr HD)]) (wpAny_assign_Name (aFz (s:=mh s' s'.heap) B hN hy hx (v:=aj0) rfl (cP s3 e_ ⟨a,a4t,ha⟩) hf))]
 have a3Y:agL 1≠a:=by
  rcases ha with z | z
  ·rw[az z aOt]
  ·exact fD (aOu y a z e.symm)
 rw[eF m (hn.sameBut a4t a3Y) (dz h' tq)];refine⟨_,H',e_.turned (t':=s3.toks) (it:=agL 1) (PI b o e tq e) a4n aOt (aA (Nat.le_succ_of_le bk.sz)) aOu (cP p hp z),q⟩;have:=Heap.lt_size (bk.pin p hp).1;rw[VD z this this (Nat.not_lt.mpr HD)]
universe zE
universe L2
universe zE
end
mutual
section
namespace L2
open PySem PySem.Spec PyProof.Rows
structure A? DH(outer:DR)jU kP(e:Addr)(cls:Value)(H':aM)Kd:Prop where
 os:s'.os=s.os
 bare:þ
 aks:∃(B:Heap) (a0:Value),aAO B e cls a0 s'.heap/\EU H' B/\(∀b o,kr->j3->b∉D?->asN=b8) ∧
  ∀b o,kr->b∉D?->Ao o' asN o'
 slot:∀b o,kr->j3->b∈D?->Ao sl aMY { o with slots:=sl}
 free:∀b o,kr->j3->G4 b
 qd:∀b xs,H b=vq->H' b=vq
 ox:∀b o u,H b=uW .cw u->H' b=uW .cw u
 qe:∀b ps,H b=d7 .jx ps->∃more,H' b=Ex .jx (ps++more)
abbrev lA DH:Dl:=λouter H s E ev s'=>∃(e:Addr) (cls:Value) (H':aM),ev=Δ e/\A? P w outer H s e cls H' s'/\E cls none H'
def A?.un wL N8 aeT{e:Addr}{cls:Value}ayl:iA D? [] H H' s.heap s'.heap:=by
 obtain⟨B,a0,f,a_,k1,k2⟩:=x.aks;refine⟨λb o q n hb _=>f.1 b o (k1 b o q n hb),λb o q n hb _=>x.slot b o q n hb,λb o q n _=>x.free b o q n,yd q _,x.qd,x.ox,x.qe⟩;rw[vj (b∈D?)]
 ·obtain⟨_,o',ho,_⟩:=f.2.2.1.mem hb;rw[b7 o' ho]
 ·rw[mq o' ho (k2 b o q hb) o' (f.1 b o' ho)]
def A?.a_ wL N8 aeT{e:Addr}{cls:Value}ayl:EU H' s'.heap:=by
 obtain⟨B,a0,f,a_,k1,k2⟩:=x.aks;exact a_.kept λb o q=>f.1 b o q
def aXc Kq{N:gz}an7 ans uI N8 m8 iV Bm:
  Passes (lA P w) (sA (lA P w) P w K mg base N qual scope f cd A outer s H E) E:=by
 intro pins σ H1 s1 ev s2 I h;obtain⟨e,cls,H2,rfl,x,q⟩:=h;obtain⟨B,a0,fl,a_,k1,k2⟩:=x.aks;have JS:(A.deeper oj).frames=aN Ű:=I.ok.frames;rw[O! (nj (model P w) (A.deeper oj) (leaving oj (Δ e)) _ _ s2) (wpAny_leaves_onW JS rfl fl (B_ a3L up))];rw[gM hL (∀b o,kr->ö b) (λb o q=>afN q) nf (∀b o,kr->b∉D?->b∉Pq) (λb o q hb hm=>by
  rw[Ct tm hm List.filterMap_cons hm];rcases aL5 with z | z
  ·exact hL b o q z
  ·exact hb z) nx (∀b:Addr,b∉([]:cz)) (λb z=>K0 z)]
 refine⟨e,cls,H2,rfl,⟨x.os.trans I.os,x.bare,⟨B,a0,a3L,a_,mH o q n hb,yd q hb⟩,mH o q n hb,yd q n,vU b q (x.qd b xs (arf b q)),λb o u q=>x.ox b o u (agE b u q),uT ps⟩,q⟩
 ·exact k1 b o (ag7 o q n hb (nx b)) (I0 q n (nx b)) (nf b o q hb)
 ·rw[e8 o1 aB (Ã o q (nx b)) (k2 b o1 aB (nf b o q hb))]
 ·rw[tw sl aB (agl b q n hb (nx b)) hm (b∈Pq) (by
   rw[jW tm List.filterMap_cons (oN hb)])]
  obtain⟨sl2,aZ⟩:=x.slot b _ aB (I0 q n (nx b)) hm
  obtain⟨_,aDi,cy,TF⟩:=fl.2.2.1.mem hm
  rw[aZ]at cy;cases cy;rw[mq A4 FN (up b _ aZ TF) A4 FN]
 ·rw[e8 o1 aB (Ã o q (nx b)) (x.free b o1 aB (I0 q n (nx b)))]
 ·rw[agQ m1 e1 (arh b q) m2 e2 (x.qe b _ e1) (m1++m2) (azj e2)]
structure Tt Z5 nc m9:Prop where
 name:mg x=jF C
 exc:PySem.W.excIn K C [aBc ee,ee "Exception",aj4,aja] "ValueError.__new__" = true
def Tt.own j?{mg:Str->fO}d! ql sS(X:Tt K mg x C)(g_:K.In h):OwnCls x C [aBc ee,ee "Exception",aj4,aja] "ValueError.__new__" mg h:=by
 have q:=X.exc;rw[fy X.name ?_];unfold PySem.W.excIn at q;split at q
 ·rename_i dd cd sl ho;split at q
  ·rename_i C' bm k0 k1 k2 k3 n k5 hm hs;simp only[Bool.and_eq_true,beq_iff_eq,Bool.not_eq_true']at q;obtain⟨⟨⟨⟨⟨rfl,rfl⟩,aNI⟩,ht⟩,a_⟩,hni⟩:=q;obtain⟨nm,bs,mro,ns,YL,hd,sn,sub,ab,col,del⟩:=cd;dsimp only at hm aNI a_ hni;subst hm aNI
   rw[LS iy (sl=#[k0,k1,k2,k3,d7 e! "ValueError.__new__",k5]) (by
    obtain⟨l⟩:=sl;simp only at hs;rw[hs]) iy];exact⟨bm,ns,nm,YL,bs,hd,sn,sub,ab,col,dd,k0,k1,k2,k3,k5,_,g_ _ _ ho,.of_isNs (PySem.W.isNs_of_in g_ a_),PySem.W.nsMap_none_of_in g_ a_ hni,PySem.W.tail_of_in g_ ht⟩
  ·cases q
 ·cases q
abbrev aYI m9(E:d_)(ta:mZ):m5:=λD σ H=>aoG σ H vs (aBT/\E (Δ C) none H1)
def aF8 Kq{N:gz}an7 ans uI N8 m8 iV Bm
  d! ql{np dt pos:Pos}{e₀:Expr}{rest:dF}{ta:mZ}ayJ(hh:b9 (A.deeper oj).handled)
  (hg:Nt (sA (lA P w) P w K mg base N qual scope f cd A outer s H E) x)(ha:o8 (sA (lA P w) P w K mg base N qual scope f cd A outer s H E) Qf ta)
  Ba
  aJo
  aKc:
  n7 (sA (lA P w) P w K mg base N qual scope f cd A outer s H E) (.Raise (aN (uQ (cU x np) Qf [] dt)) none pos) (aYI C E ta):=by
 rw[I5 s1 H1 D h];have O:=M.own I.qY;obtain⟨tl,aT1,nm,q,bs,hdct,sn,sub,ab,col,dd,k0,k1,k2,k3,k5,mN,hC,hN,hni,T⟩:=(M.own (I.ok.mod.acy)).obj;rw[D7 FB PySem.F.excBase_ValueError Bn (XO (afF dt Qf).any) (by
  rw[he];show qI (false||iE (afF dt rest).any);rw[g8];rfl) (wpAny_Raise_call_subT (C:=C) (nm:=nm) (q:=q) (N:=aT1) (bs:=bs) (bm:=tl) (hdct:=hdct) (sn:=sn) (sub:=sub) (ab:=ab) (col:=col) (dd:=dd) (k0:=k0) (k1:=k1) (k2:=k2) (k3:=k3) (k5:=k5)
  FB (mN:=mN) (T.hasType FB.hasBase) hh Bn hni (alL I hg M.name (kU ?_) hd))]
 rw[bI hA (ha dt pins s1 σ H1 _ I h) a61 hA];show nj (model P w) (A.deeper oj) (evalArgs (Δ C) true (afF dt Qf) []) _ _ s1;have aOr:nj (model P w) (A.deeper oj) (spliced (afF dt Qf)) (aES (sA (lA P w) P w K mg base N qual scope f cd A outer s H E) pins σ _) _ s1:=hA;rw[he]at aOr⊢;rw[ah8 (Calls.evalArgs_plain (KX aOr (cP us s2 ⟨vs,H2,bk,r2,hlen,aZ⟩) _ _ y y)) ⟨rfl,by rw[b! r2.length hlen],bk.lX _ _ hC,hN.keeps bk.lX,T.keeps bk.lX,B_ e mk⟩];rw[eE Zl (s.heap.objs.size<s2.heap.objs.size) bk.lt JS ((A.deeper oj).frames=aN Ű) bk.ok.frames aFM (s2.heap.FunFrames base Ű) bk.stack lC (∀env∈Ű,∀b,env.frame=mD->b∈Pq) (λenv he b hb=>aLz env he hb)];rw[O! (nj (model P w) (A.deeper oj) (leaving oj (Δ e)) _ _ (tT s2)) (wpAny_leaves_madeW (base:=PySem.W.hideAll s2.heap Pq) JS rfl (λb o q=>PySem.W.of_hideAll _ q) (PySem.W.funFrames_hide aFM lC) mk (zc h2 t x1 x2 x3 x4))]
 rw[eE nx (∀b:Addr,b∉([]:cz)) (λb z=>K0 z) hL (∀b o,kr->ö b) (λb o q=>afN q) nf (∀b o,kr->b∉D?->b∉Pq) (λb o q hb hm=>by
  rw[Ct tm hm List.filterMap_cons hm];rcases aL5 with z | z
  ·exact hL b o q z
  ·exact hb z) axF (∀b o,H2 b=b8->b∉Pq) (λb o q hm=>by
  rw[rV (bk.awc b hm) q];cases this)]
 rw[qt a6M (∀b y,H2 b=y_ y->b∉Pq) (λb y q=>axF b _ q) ⟨e,Δ C,H2,rfl,⟨bk.os,bk.bare,⟨_,Δ t,x1,uT o,mH o q n hb,yd q hb⟩,mH o q n hb,λb o q n=>bk.base.free b o q n (nx b),bk.base.qd,bk.base.ox,bk.base.qe⟩,aZ⟩]
 ·refine(bk.a_ b o q).wb (λc v hc z=>ao6 z ?_) (cK z z) λ_ _ z=>z;rcases hc with rfl | hc
  ·exact axF _ _ q
  ·exact axF _ _ hc
 ·exact ao6 (bk.base.keep b o q n hb (nx b)) (nf b o q hb)
 ·rw[mq o' q' (bk.base.there b o q (nx b)) o' (ao6 q' (nf b o q hb))]
 ·rw[tw sl aB (bk.base.slot b o q n hb (nx b)) hm (b∈Pq) (by
   rw[jW tm List.filterMap_cons (oN hb)])]
  obtain⟨_,aDi,cy,TF⟩:=aFM.mem hm
  rw[aB]at cy;cases cy;rw[mq A4 FN (x4 b _ (mk.keeps _ _ aB) TF) A4 FN]
universe L2
universe zE
section
namespace L2
open PySem PySem.Spec PyProof.Rows
abbrev Nv(e C:Addr):je:=.ext λh=>∃ob vs,cE (h.get? e) ob/\ob.cls=Δ C/\abL (i0 vs)
noncomputable abbrev bT.tr fY(fJ:gG)(E:iD):bT:={ X with fJ:=fJ,qZ:=E}
abbrev aDZ(gH:Dl)wM:Prop:=∀(pins:gG)aeN kP aof,iO->gH X.stack H s (aJ σ) e s'->X.qZ e s'
abbrev aZF(sp:uF)(Dm:cH)T3(t:mZ):TE:=LX H vs (sp (vs++Dm) H1 Q (aJ σ))
abbrev aHK m9(m:Str)(sp:uF)(Dm:cH)T3(ta:TE)(t:mZ):TE:=Ot H x (∃a dx fs,x=Δ a/\H1 a=Z! C/\b9 (fs.lookup m) ∧
 t σ H1 (ny vs (sp (x::(vs++Dm)) H2 Q (aJ σ))))
section
variable {X:bT}{gH:Dl}{k:Nat}{f C:Addr}{fd:FuncData}{ps:gz}{sp:uF}{Dm:cH}{ds:cC}{aJ:St->d_}{x m:Str}{p pos apos:Pos}{e o:Expr}{es:dF}{ta:TE}{t:mZ}
def Fh Bb pB Bh wR aeO T7 ayg an2
  bQ(r:OS)(h:sp (vs++Dm) H Q (aJ σ)):ĉ (Δ f) us (Iu X Q):=by
 rw[vI r2 (Io (vs++Dm) (us++ds)) (r.append hd) hl (ń (vR us ds)) (by rw[b! r2.length (F.len _ _ _ _ h)]) (aqT (aoT (F.run X.A X.stack s H (rU us) (us++ds) (vs++Dm) Q (aJ σ) hr I.aNL (hb s us I.qY hl) r2 h) r s' hq))];cases r with
 |error e=>exact hx pins σ H s e s' I hq
 |ok fl=>
  cases fl with
  |ret u=>exact I.after hq
  |next=>rw[BH hq]
  |brk=>rw[BH hq]
  |cont=>rw[BH hq]
def aVc aeO T7(hg:Kr)(hm:X.mg x=jF f)(hk:UO X.K (Δ f))ayg an2
  afb N4 TU:
  ajA (cU x p) (e::es) (aZF sp Dm aJ t):=by
 rw[I5 s H Q h];rw[ff (UQ (alL I hg hm ?_ Nz)) (PySem.W.callWith_K (h₀:=X.base) I.ok.mod.acy hk (zC (ha pos pins s σ H _ I h) us s1 vs H1 aF r q (lM aF.qY)) he g8)];exact Fh F hr hb hd hx aF r q
def aVd{pl:afD}(he:kg o ta)aKn aeO T7 ayg an2 afb
  aJh
  aI3:
  ajA (y9 m) (e::es) (aHK C m sp Dm aJ ta t):=by
 intro pins s σ H Q I h
 refine PySem.W.methodCall_KW (pl:=pl) (mF (zH s σ H _ I h) u ⟨x,H1,aF,rx,a,dx,fs,ex,ea,l,q⟩) ht
 subst ex
 obtain rfl:u=Eo:=rx;rw[ff (aEZ aF ea c hm l ?_) (PySem.W.callWith_K (first:=[Δ a]) (h₀:=X.base) I.ok.mod.acy hm.kp (zC (ha pos pins s1 σ H1 _ aF q) us s2 vs H2 bk r aZ (lM bk.qY)) uv g8)]
 exact Fh (us:=Δ a::us) (vs:=Δ a::vs) F hr hb hd hx bk (bN rfl r) aZ
universe zE
def A?.next wL N8 aeT{e:Addr}{cls a0:Value}{B h':Heap}ayl
  (f:aAO B e cls a0 s'.heap)(a_:EU H' B)(k1:∀b o,kr->j3->b∉D?->asN=b8)(k2:∀b o,kr->b∉D?->Ao o' asN o')
  (f':aAO B e cls a0 h')(up:s'.heap.UpToSlots h'):A? P w outer H s e cls H' (tT s'):=by
 refine⟨x.os,x.bare,⟨B,a0,f',a_,k1,k2⟩,mH o q n hb,x.free,x.qd,x.ox,x.qe⟩;obtain⟨sl,aB⟩:=x.slot b o q n hb;obtain⟨_,aDi,cy,TF⟩:=f.2.2.1.mem hb;rw[aB]at cy;cases cy;rw[mq A4 FN (up b _ aB TF) A4 FN]
def A?.aHL lG Oa{σ:St}aeT{e C:Addr}bQ(x:A? X.prog X.w X.stack H s e (Δ C) H' s')(uv:X.stack=aaU)(hdct:∃ob vs,cE (s'.heap.get? e) ob/\ob.cls=Δ C/\abL (i0 vs)):
  G4 e/\kq (qu H' e (Nv e C)) s':=by
 obtain⟨B,a0,f,a_,k1,k2⟩:=id x.aks;rw[bq aOs (b9 asM) f.2.1 hen (G4 e) (by
  cases q:H' e with
  |none=>rfl
  |some u=>
   have h1:=a_.lt q
   have:∃o,asM=b8:=by
    have z:=a_ e u q;cases u with
    |lst xs=>obtain⟨_,_,_,_,z⟩:=z;rw[g4 z]
    |tup xs=>obtain⟨_,_,_,o,z,_⟩:=z;rw[g4 z]
    |bA kvs=>rw[Ñ z z];rw[g4 z]
    |dT kvs=>rw[Ñ z z];rw[g4 z]
    |set S n=>rw[aAh z z];rw[g4 z]
    |ins C dx fs=>rw[azW z z z]
    |own y=>rw[aAU z z z]
    |alM fs=>obtain⟨_,⟨_,_,_,z,_⟩,_⟩:=z;rw[g4 z]
    |q6 lo hi=>obtain⟨_,_,_,z⟩:=z;rw[g4 z]
    |cw ob u=>obtain⟨z,_⟩:=z;rw[g4 z]
    |jx ps=>rw[g4 (kS asM vo z)]
    |met f y=>rw[g4 (kS asM vo z)]
    |ext φ=>obtain⟨_,⟨_,z⟩,_⟩:=z;rw[g4 z]
   rw[QF o z this aOs z];cases z)]
 rw[CB ob he hc hd hdct]
 rw[gM hnf (e∉LN) (λhm=>by
  obtain⟨_,aDi,cy,TF⟩:=f.2.2.1.mem hm;rw[he]at cy;cases cy;exact TF vs hd) new (∀b o,kr->b≠e) (λb o q z=>by
  subst z;rw[QF o' q' (k2 b o q hnf) aOs q'];cases q') NM (∀b o,H b=b8->b≠e) (λb o q=>by
  have fK:∃o',Kw o':=by
   have z:=OC o q;cases o with
   |lst xs=>obtain⟨_,_,_,_,z⟩:=z;rw[g4 z]
   |tup xs=>obtain⟨_,_,_,o,z,_⟩:=z;rw[g4 z]
   |bA kvs=>rw[Ñ z z];rw[g4 z]
   |dT kvs=>rw[Ñ z z];rw[g4 z]
   |set S n=>rw[aAh z z];rw[g4 z]
   |ins C dx fs=>rw[azW z z z]
   |own y=>rw[aAU z z z]
   |alM fs=>obtain⟨_,⟨_,_,_,z,_⟩,_⟩:=z;rw[g4 z]
   |q6 lo hi=>obtain⟨_,_,_,z⟩:=z;rw[g4 z]
   |cw ob u=>obtain⟨z,_⟩:=z;rw[g4 z]
   |jx ps=>rw[g4 (show Kw _ from z)]
   |met f y=>rw[g4 (show Kw _ from z)]
   |ext φ=>obtain⟨_,⟨_,z⟩,_⟩:=z;rw[g4 z]
  rw[e8 o' z fK (new b o' z)])]
 have u:=x.un;rw[fy hen (I.aIl (ch:=[]) x.os ⟨u.keep,u.slot,mH o q n z,u.there,uT xs,yd v q,uT ps⟩ (uT o) x.bare (aaB b z z))]
 ·rw[gT (new b o q) (u.free b o q n z)]
 ·rw[gT (NM b _ q) (u.qd b xs q)]
 ·rw[gT (NM b _ q) (u.ox b o v q)]
 ·rw[mq m q' (u.qe b ps q) m (by rw[gT (NM b _ q) q'])]
 ·have axC:=x.a_;rw[vj (b=e)]
  ·rw[PK q];cases q;rw[eF ⟨ob,vs,he,hc,hd⟩ ⟨ob,he⟩ (jj h1 h2 p k)];rw[xr aDj vs' z1 z2 SX p aDj vs' (k _ z1) z2 SX]
  ·rw[E0]at q;refine(axC b o q).wb (j5 z z) (dz c z) (cP c xs z)
   ·rw[gT (λaEQ=>by rw[aEQ,hen]at z;cases z) z]
   ·rw[gT (λaEQ=>by rw[aEQ,hen]at z;cases z) z]
abbrev aII dg(F1:Addr)(yr uf:Nat)(nx:St->dW):St->d_:=λσ cls _ H'=>∃C,cls=Δ C/\PySem.W.exmOne K (Δ C) (Δ F1)=u6 ∧
 ∀e,G4 e->nx ((σ.set yr (jF e)).set uf none) (qu H' e (Nv e C))
section
variable {X:bT}
def aZG{x n y:Str}{F1:Addr}{yr uf:Nat}aJ7{tb:(St->d_)->m5}wL(R9:X.prog=P)(f7:X.w=w)
  (uv:X.stack=aaU)(JS:aB2 aAc)(adh:XN)Kc
  (hx:Kr)(hm:X.mg x=jF F1)(hy:fP X.N yr y)(acI:abz y)(hn:fP X.N uf n)(ln:abz n)
  (hb:∀(fJ:gG)(S?:iD)T3,aDZ (lA P w) (ajK fJ) aJ->ux (ajK fJ) body (tb aJ))
  aIW:
  n7 X (.Try body [aBB (abI x np) (some n) [CJ [cU y py] (cU n auE) apos] axw] [] [] pos) (λD σ H=>tb (aII X.K F1 yr uf D.nx) D σ H):=by
 subst R9 f7;rw[r8 D (wpAny_Try_except ?_)];have amy:=I.ok.kind
 have aRX:Inv (X.tr (X.fJ++pins) (λe s₁=>j7 (noteFrame e X.env) (cK s₂ (j7 (setFlight e none) (cK s₃ (j7 (handleBy e X.env [aBB (abI x np) (some n) [CJ [cU y py] (cU n auE) apos] axw]) (aeB X pins D) s₃)) s₂)) s₁)) [] σ H s:=
  ⟨⟨I.ok.mod,I.ok.kind,I.ok.glob,I.ok.blt,I.ok.above,I.ok.inj,I.ok.has,I.ok.akm,I.ok.hd,I.ok.frames,I.ok.stk,I.ok.aOj,I.ok.bs,I.ok.Zw,I.ok.aen,I.ok.amY,I.ok.De,I.ok.Tw⟩,I.os,I.bare,I.base,I.loc,I.cell,I.free,I.M_,lR (IC (bh hp)),I.a_,I.len⟩
 rw[dX back (∀{Ze:gG}{σ':St}{H':aM}{s':Shared}{S?:iD},aai (ajK (X.fJ++pins)) Ze H' s'->PF X) (λ{Ze σ' H' s' S?} J=>
  ⟨⟨J.ok.mod,J.ok.kind,J.ok.glob,J.ok.blt,J.ok.above,J.ok.inj,J.ok.has,J.ok.akm,J.ok.hd,J.ok.frames,J.ok.stk,J.ok.aOj,J.ok.bs,J.ok.Zw,J.ok.aen,J.ok.amY,J.ok.De,J.ok.Tw⟩,J.os,J.bare,J.base,J.loc,J.cell,J.free,J.M_,lR (J.pin p (azh hp)),J.a_,J.len⟩) (KX (hb (X.fJ++pins) _ (aII X.K F1 yr uf D.nx) ?_ [] s σ H D aRX h) (cP f s1 q) _ _ z z)]
 ·
  intro Ze σ1 H1 s1 ev s2 F9 q;obtain⟨e,cls,H2,rfl,x2,C,rfl,hex,YL⟩:=q;have F9:=back F9;obtain⟨B,a0,fl,a_,k1,k2⟩:=id x2.aks
  have hfs:X.A.frames=aN aaU:=j0 F9.ok.frames uv
  rw[show(X.tr (X.fJ++pins) _).stack=aaU from uv]at fl k1 k2 x2
  show nj (model X.prog X.w) X.A (noteFrame (Δ e) X.env) _ _ s2;rw[ff (wpAny_looks_onW hfs JS fl (cP h3 held a5j)) (wpAny_landsW held (cP h4 atM a5k))];rw[fS x4 (x2.next fl a_ k1 k2 atM (a5j.trans a5k)) a5w (A? X.prog X.w X.stack H1 s1 e (Δ C) H2 (mh s2 h4)) (by rw[az uv x4])]
  obtain⟨oe,vs,he,hc,hd,_⟩:=atM.first
  obtain⟨_,aek⟩:=A?.aHL F9 a5w uv ⟨oe,vs,he,hc,hd⟩;refine wpAny_handleBy_cons (codeAny_handlers_test (Calls.Name_function_global aek.ok.kind hx (Calls.loadGlobal_global (by rw[az aek.ok.glob (aek.mod.glob.keeps aek.lX)]) hm ?_) hdx)) (by intro q;cases q)
  rw[dX LT (PySem.W.Looks (model X.prog X.w) h4 (aCw (Δ e)) (Δ C)) (by
   rw[←hc];exact(PySem.W.Looks.ld he).andThen .now) (PySem.W.Looks.here (PySem.W.exm_one aek.qY LT hex) ?_)];rw[gK]
  rw[ff (codeAny_handlers_suite_as ?_) (lands_againW atM (cP h5 aOk a5l))];rw[fS x5 (x4.next atM a_ k1 k2 aOk a5l) a5x (A? X.prog X.w X.stack H1 s1 e (Δ C) H2 (mh s2 h5)) (by rw[az uv x5])]
  obtain⟨a4R,a5p,a39,hc5,a37,_⟩:=aOk.first
  obtain⟨hen,aSe⟩:=A?.aHL F9 a5x uv ⟨a4R,a5p,a39,hc5,a37⟩;rw[ff (wd aSe hN hn (aq ln) (v:=Δ e) rfl (dz auS aGy) (aA ln)) (aAZ (wpAny_Assign_Name ?_ aHM))];rw[HP a4L a4m a4i aGy.loc hlen (uf < σ1.length) (by rw[gh F9.len (List.getElem?_eq_some_iff.mp hn).1])]
  obtain⟨a7j,a43,a4J⟩:=a4i uf n (Δ e) hn (iZ (List.getElem?_set_self hlen)) (aq ln);cases a43
  have a4l:a4L n=jF e:=by
   rcases a4J with⟨_,z⟩ | ⟨k,_⟩
   ·exact z
   ·have a4K:HM n Co:=ln;rcases k with k | k<;>(rw[a4K]at k;cases k)
  rw[ff (wpAny_Name (wpAny_loadName_local amy ln a4m a4l ?_) hdn) (wd aGy hN hy (aq acI) (v:=Δ e) rfl (dz SO aGz) (aA acI))];refine wpAny_execs_nil ?_;rw[BE a4M aOF a63 (id aGz.loc) (wpAny_nameGoes_keeps ln aOF (by rw[amy];rfl) (jj h8 a5n aOG TS))]
  rw[An aSf (UA X ((σ1.set yr (jF e)).set uf none) (qu H2 e (Nv e C)) (BG SO h8 (SO.toks+1))) (by
   have mY:=aGz.weak (σ':=(σ1.set yr (jF e)).set uf none) Ξ (λi v hv=>by
    by_cases hi:i=uf
    ·subst hi;rw[Hr (bh hlen) hv];cases hv
    ·rw[KU (Ne.symm hi) hv];by_cases Ds:i=yr
     ·subst Ds
      have l2:i < σ1.length:=by rw[gh F9.len (List.getElem?_eq_some_iff.mp hy).1]
      rw[Hr l2 hv];rw[az (af2 (bh l2)) hv]
     ·rw[KU (Ne.symm Ds) hv];rw[eu (af7 (Ne.symm Ds)) (af7 (Ne.symm hi)) hv])
   rw[HP m q4 a4k (id mY.loc) em (m=a4M) (by
    obtain⟨o1,es1,a6V,a4o,hd1,_,f1⟩:=id q4;obtain⟨o2,a60,a6W,A3,JV,_,f2⟩:=id aOF;rw[a4o]at A3;cases A3;rw[hd1]at JV;rw[ş JV JV];subst JV
    funext z
    rw[←f1 z,←f2 z])]
   subst em;rw[qt tracked (â (qu H2 e (Nv e C)) h8) (mY.a_.but mY.free TS) ⟨mY.ok,mY.os,mY.bare,⟨PM b o q n,PM b o q n,mY.base.free,yd q hx,mY.base.qd,mY.base.ox,mY.base.qe⟩,⟨_,aOG,zc j z v e1 e2 e3⟩,cP z c q,mY.free,mY.M_,Mh p,tracked,mY.len⟩]
   ·exact Rr TS (pN (az8 q)) (mY.base.keep b o q n hb hx)
   ·rw[ķ sl aB (mY.base.slot b o q n hb hx) sl TS (pN (az8 q)) aB]
   ·rw[ķ o' aB (mY.base.there b o q hx) o' TS (pN (az8 q)) aB]
   ·obtain⟨u,cB,lk⟩:=a4k j z v e1 e2 e3
    rw[eF u cB ?_];rcases lk with⟨kk,a4O⟩ | ⟨kk,c,mW,SZ⟩
    ·rw[oA (aq (lM kk)) hz (z≠n) (λakq=>by
      rw[Xx akq (avC hN e1 hn)];subst this;rw[Hr (bh hlen) e2];cases e2)]
     show(vE z n a5n (m z))=dD;rw[QI hz a4O]
    ·exact aA ⟨kk,c,mW,SZ.sameBut TS (mY.JZ z c mW)⟩
   ·rw[mq v SZ (mY.cell z c q) v (SZ.sameBut TS (mY.JZ z c q))]
   ·rw[xr aB aZ cy FN q5 (mY.pin p hp) (Hp TS p.1 cy aB) aZ cy FN q5]) ⟨_,_,aSf,YL e hen⟩]
 ·cases f with
  |next=>
   rw[QK σ' H' J YM q (aAF σ' H' (back J) YM)]
  |brk=>rw[LH σ' H' J YM q σ' H' (back J) YM]
  |cont=>rw[LH σ' H' J YM q σ' H' (back J) YM]
  |ret v=>rw[UT v' σ' H' J r YM q ⟨v',σ',H',back J,r,YM⟩]
universe zE
universe L2
universe zE
end
mutual
section
namespace L2
open PySem PySem.Spec PyProof.Rows
inductive aj where
 |bb | ah(b:Bool) | int pg | str nc | lst Gz | tup Gz | obj dS
 |cY yR
mutual
noncomputable def aj.jv dS:tO aj
 |ς xs=>asP n
 |aV xs=>asP n
 |ο m=>jC (m<n)
 |.bb=>true
 |.ah _=>true
 |η _=>true
 |Ω _=>true
 |.cY _=>true
noncomputable def aj.yx dS:tO dY
 |[]=>true
 |x::xs=>aj.jv n x&&asP n
end
inductive dm where
 |gone
 |lst Gz
 |ai(kvs:kc)
 |o6(kvs:gW tu aj)
 |bD(kvs:kc)
 |ins m9(fs:rY)
 |exc m9
noncomputable abbrev aS:=List dm
noncomputable abbrev bu:=zQ aj
noncomputable abbrev lim:Nat:=16000000
def alv bf(h:n≤lim):jB n:=by rw[az sizeLine_eq (gX h)]
def adW bf(h:n<lim):n<sizeLine:=by rw[az sizeLine_eq (Nat.lt_of_lt_of_le h aC)]
section
variable (K:eY) (ι:cz) (S:aM)
mutual
noncomputable def aQ:aj->cO V
 |.bb,v=>v=.bb
 |.ah b,v=>v=.ah b
 |η i,v=>v=η i
 |Ω x,v=>v=Ω x
 |ς xs,v=>∃a vs,v=Δ a/\S a=W9/\bx xs vs
 |aV xs,v=>∃a vs,v=Δ a/\S a=xZ vs/\bx xs vs
 |ο n,v=>∃a,v=Δ a/\vA
 |.cY ns,v=>∃a,v=Δ a/\iw K S a HG
noncomputable def bx:dY->cO cH
 |[],vs=>vs=[]
 |x::xs,vs=>∃v r,vs=v::r/\aQ x v/\bx xs r
end
abbrev dA o? ZT(cq:DQ):Prop:=Paired (fun(p:κ×aj) (q:κ×V)=>p.1=q.1/\zT p.2 q.2) kvs cq
universe zE
structure Up aoc(ι':cz)(S':aM):Prop where
 ix:∀dS rj,vA->P! ι' a
 sm:mS S S'
structure Ext an4(ι':cz)(S' H':aM):Prop extends Qh S where
 pre:ι'.take ι.length=ι
 fr:∀b u,H b=dD->b∉ι->X0 b->H' b=dD/\b∉ι'/\asW b
def Ext.refl an5:EJ S H:=⟨V_ _ _ h h S,List.take_length,λ_ _ h1 h2 h3=>⟨h1,h2,h3⟩⟩
def Ext.trans{ι ι1 ι2:cz}{S aW cN H H1 H2:aM}(a:Ut S H ι1 aW H1)(b:Ext ι1 aW H1 ι2 cN H2):Ut S H ι2 cN H2:=
 ⟨MP n x h (b.ix n x (a.ix n x h)) (a.sm.trans b.sm),by
  rw[oD a.pre b.pre]
  have hl:aB5 ι1.length:=by rw[←h1];rw[fh]
  rw[←h2,List.take_take,Nat.min_eq_left hl]at h1
  exact h1,λc u h1 h2 h3=>by
  rw[QG k1 k2 k3 (a.fr c u h1 h2 h3) (b.fr c u k1 k2 k3)]⟩
def Up.push Ke rj:Up ι S (ι++[a]) S:=by
 rw[fy (cP n x h) (mS.refl S)];have hl:aCa n:=HR;rw[az (List.getElem?_append_left hl) h]
def uD.mono{S S':aM}(h:mS S S')iB{u:je}(r:uD S a u):uD S' a u:=by
 rcases r with r | ⟨o,r⟩
 ·exact aq (h _ _ r)
 ·exact r? o (h _ _ r)
def iw.mono j?{S S':aM}(h:mS S S')iB wR(q:iw K S a vs):iw K S' a vs:=by
 rcases q with q | q
 ·exact aq (q.mono h)
 ·exact aA q
section
variable {K:eY}
mutual
theorem aQ.alG ae9 aKM(hs:mS S S'):∀ZW,jf->aQ K ι' S' x v
 |.bb,v,h=>CN
 |.ah b,v,h=>CN
 |η i,v,h=>CN
 |Ω x,v,h=>CN
 |ς xs,v,h=>by
  rw[Ic];rw[Ig a e q h a e (hs _ _ q) (ai1 hi hs vs r)]
 |aV xs,v,h=>by
  rw[Ic];rw[Ig a e q h a e (hs _ _ q) (ai1 hi hs vs r)]
 |ο n,v,h=>by
  rw[Ic];rw[nr a e q h a e (hi _ _ q)]
 |.cY ns,v,h=>by
  rw[Ic];rw[nr a e q h a e (q.mono hs)]
theorem bx.alG ae9 aKM(hs:mS S S'):∀ZL,gg->Æ K
 |[],vs,h=>UG bx h
 |x::xs,vs,h=>by
  rw[bx]at h⊢;rw[xr v r e h1 h2 h v r e (aQ.alG hi hs x v h1) (ai1 hi hs r h2)]
end
def aQ.up ae9(e:Qh S)anN:aQ K ι' S' x v:=aQ.alG e.ix e.sm x v h
def aQ.mono aeQ(e:r_)anN:aQ K ι' S' x v:=aQ.alG e.ix e.sm x v h
def bx.up ae9(e:Qh S)anO:Æ K:=ai1 e.ix e.sm vs h
def bx.mono aeQ(e:r_)anO:Æ K:=ai1 e.ix e.sm vs h
def dA.up o? ae9(e:Qh S)Gq:dA K ι' S' kvs cq:=
 ap5 h _ _ z ⟨z.1,z.2.up e⟩
def dA.mono o? aeQ(e:r_)Gq:dA K ι' S' kvs cq:=
 ap5 h _ _ z ⟨z.1,z.2.mono e⟩
mutual
theorem aQ.jv Ke:∀ZW,jf->Ef ι.length x
 |.bb,v,h=>rfl
 |.ah b,v,h=>rfl
 |η i,v,h=>rfl
 |Ω x,v,h=>rfl
 |ς xs,v,h=>by
  rw[aQ]at h;rw[CB a e q r h];rw[ah6 (bx.yx xs vs r)]
 |aV xs,v,h=>by
  rw[aQ]at h;rw[CB a e q r h];rw[ah6 (bx.yx xs vs r)]
 |ο n,v,h=>by
  rw[aQ]at h;obtain⟨a,e,q⟩:=h;rw[ah6 (decide_eq_true (List.getElem?_eq_some_iff.mp q).1)]
 |.cY ns,v,h=>rfl
theorem bx.yx Ke:∀ZL,gg->U5 ι.length xs
 |[],vs,h=>rfl
 |x::xs,vs,h=>by
  rw[bx]at h;obtain⟨v,r,e,h1,h2⟩:=h;rw[aj.yx,aQ.jv x v h1,bx.yx xs r h2];rfl
end
mutual
theorem aQ.cut Ke bf:∀ZW,p5 x->jf->aQ K ar4 S x v
 |.bb,v,b,h=>CN
 |.ah _,v,b,h=>CN
 |η i,v,b,h=>CN
 |Ω x,v,b,h=>CN
 |ς xs,v,b,h=>by
  rw[Ic];rw[aj.jv]at b;rw[Ig a e q h a e q (bx.cut xs vs b r)]
 |aV xs,v,b,h=>by
  rw[Ic];rw[aj.jv]at b;rw[Ig a e q h a e q (bx.cut xs vs b r)]
 |ο m,v,b,h=>by
  rw[Ic];rw[aj.jv]at b;rw[nr a e q h a e (by rw[az (List.getElem?_take_of_lt (of_decide_eq_true b)) q])]
 |.cY ns,v,b,h=>by
  rw[rQ aQ h h]
theorem bx.cut Ke bf:∀ZL,U5 n xs->gg->bx K ar4 S xs vs
 |[],vs,b,h=>UG bx h
 |x::xs,vs,b,h=>by
  rw[bx]at h⊢;rw[Qv aj.yx b];rw[xr v r e h1 h2 h v r e (aQ.cut x v b.1 h1) (bx.cut xs r b.2 h2)]
end
variable {ι:cz}{S:aM}
def bx.nil:p8 [] []:=iZ bx
def bx.cons gy dH l! wR(h:jf)(t:gg):p8 (x::xs) (v::vs):=by
 rw[gh bx (W? v h t)]
def bx.wh gy pD(h:bx K ι S (x::xs) vs):∃v r,vs=v::r/\jf/\p8 xs r:=by
 rw[Cn bx h]
def bx.length:∀pD,gg->Ţ vs.length
 |[],vs,h=>by rw[XG h h];rfl
 |x::xs,vs,h=>by
  obtain⟨v,r,rfl,_,h2⟩:=h.wh;simp[bx.length h2]
def bx.get:∀pD gx gy,gg->Ai->∃v,Av vs/\jf
 |[],vs,i,x,h,e=>K0 e
 |y::xs,vs,i,x,h,e=>by
  rw[eo v r h1 h2 h.wh];cases i with
  |zero=>rw[Lh e e];exact jh v h1
  |succ i=>
   rw[nr w aB aZ (bx.get (i:=i) h2 (bh e)) w (bh aB) aZ]
def bx.append:∀anT{vs ws:cH},gg->p8 ys ws->p8 (xs++ys) (vs++ws)
 |[],ys,vs,ws,h,t=>by rw[bx]at h;rw[fz h t]
 |x::xs,ys,vs,ws,h,t=>by
  rw[eo v r h1 h2 h.wh];exact bN h1 (bx.append h2 t)
def bx.one anN:p8 [x] [v]:=bN h cW
def bx.set:∀pD uH g!,jf->gg->p8 (xs.set i x) (vs.set i v)
 |[],vs,x,v,i,h,t=>by rw[aaF bx t t]
 |y::xs,vs,x,v,i,h,t=>by
  rw[eo w r h1 h2 t.wh];cases i with
  |zero=>exact bN h h2
  |succ i=>exact bN h1 (bx.set i h h2)
def bx.drop:∀pD dS,gg->p8 (xs.drop n) (vs.drop n)
 |xs,vs,0,h=>h
 |[],vs,n+1,h=>by rw[aaF bx h h]
 |x::xs,vs,n+1,h=>by
  rw[eo v r h1 h2 h.wh];exact bx.drop n h2
def bx.take:∀pD dS,gg->p8 (xs.take n) (vs.take n)
 |xs,vs,0,h=>by rw[rF cW]
 |[],vs,n+1,h=>by rw[aaF bx h h]
 |x::xs,vs,n+1,h=>by
  rw[eo v r h1 h2 h.wh];exact bN h1 (bx.take n h2)
def bx.reverse:∀pD,gg->p8 xs.reverse vs.reverse
 |[],vs,h=>by rw[aaF bx h h]
 |x::xs,vs,h=>by
  rw[eo v r h1 h2 h.wh];rw[List.reverse_cons,List.reverse_cons];exact(bx.reverse h2).append (.one h1)
def bx.dropLast anO:p8 xs.dropLast vs.dropLast:=by
 rw[List.dropLast_eq_take,List.dropLast_eq_take,h.length];exact h.take _
def bx.eraseIdx:∀pD g!,gg->p8 aM6 (vs.eraseIdx i)
 |[],vs,i,h=>by rw[aaF bx h h]
 |x::xs,vs,i,h=>by
  rw[eo v r h1 h2 h.wh];cases i with
  |zero=>exact h2
  |succ i=>exact bN h1 (bx.eraseIdx i h2)
def bx.rep anO:vB k (p8 (Ak (Qw xs)) (Ak (Qw vs)))
 |0=>cW
 |k+1=>by
  rw[aLP];exact h.append (bx.rep h k)
def dA.length o? Gq:kvs.length=cq.length:=aNu
def aQ.akJ l!:HE .bb↔v=.bb:=OR
def aQ.Se Gv l!:HE (.ah b)↔v=.ah b:=OR
def aQ.MT iC l!:HE (η i)↔v=η i:=OR
def aQ.aO7 d! l!:HE (Ω x)↔v=Ω x:=OR
def aQ.ml dH l!:HE (ς xs)↔∃a vs,v=Δ a/\S a=W9/\gg:=OR
def aQ.atN dH l!:HE (aV xs)↔∃a vs,v=Δ a/\S a=xZ vs/\gg:=OR
def aQ.alH Oc l!:HE (.cY ns)↔∃a,v=Δ a/\iw K S a HG:=OR
def aQ.FD bf l!:HE (ο n)↔∃a,v=Δ a/\vA:=OR
universe zE
def aEo gb:∀{l:ry},l.Nodup->∀{n m:Nat}(h1:Rz n)(h2:Rz m),l[n]=l[m]->n=m
 |[],_,n,m,h1,h2,e=>K0 h1
 |x::l,nd,n,m,h1,h2,e=>by
  rw[List.nodup_cons]at nd;cases n with
  |zero=>
   cases m with
   |zero=>rfl
   |succ m=>
    simp only[List.getElem_cons_zero,List.getElem_cons_succ]at e;rw[pO (e▸aqe) nd.1]
  |succ n=>
   cases m with
   |zero=>
    simp only[List.getElem_cons_zero,List.getElem_cons_succ]at e;rw[pO (e▸aqe) nd.1]
   |succ m=>
    simp only[List.getElem_cons_succ]at e;rw[aEo nd.2 (bh h1) (bh h2) e]
abbrev yw dg an4 rj:cO dm
 |tM=>∃o,H a=b8
 |ς xs=>I3/\∃vs,H a=W9/\gg
 |.ai kvs=>I3/\∃cq,H a=W7 .bA/\PX
 |.o6 kvs=>I3/\∃cq,H a=W7 .dT/\PX
 |.bD kvs=>∃ob cq,S a=ni .cw .bA/\H a=ni .cw .bA/\PX
 |cQ C fs=>I3/\∃dx jO,H a=aN (cQ C dx jO)/\IX fs jO
 |bG C=>I3/\H a=aN (Nv a C)
structure i? dg aoc cT jU:Prop where
 sub:mS S H
 len:af3 ι.length
 nd:ι.Nodup
 ob:∀dS rj(o:dm),vA->abE M->XW a
abbrev Slots dg aoc Bj(σ:St):Prop:=
 ρ.length=σ.length/\∀g! l_,oK ρ i x->∃v,oK σ i v/\jf
section
variable {K:eY}{ι ι':cz}{S S' H H':aM}{M M':aS}{ρ:bu}{σ:St}
def yw.there iB aog:∃u,H a=dD:=by
 cases o with
 |gone=>exact h
 |lst xs=>rw[ay7 vs e h e]
 |ai xs=>rw[ay7 vs e h e]
 |o6 xs=>rw[ay7 vs e h e]
 |bD xs=>rw[azW e h e]
 |ins C fs=>obtain⟨_,dx,vs,e,_⟩:=h;rw[g4 e]
 |exc C=>rw[aAU e h e]
def yw.up iB aog(e:Qh S)(hs:I3->asW a)(hh:H' a=H a):yw K ι' S' H' a o:=by
 cases o with
 |gone=>rw[mq u q h u Vg]
 |lst xs=>rw[CW q (hs z) Vg (r.up e)]
 |ai xs=>rw[CW q (hs z) Vg (r.up e)]
 |o6 xs=>rw[CW q (hs z) Vg (r.up e)]
 |bD xs=>rw[Ig ob z q h ob (e.sm _ _ z) Vg (r.up e)]
 |ins C fs=>rw[B0 z dx vs q h (hs z) dx vs Vg (r.up e)]
 |exc C=>rw[mq z q h (hs z) Vg]
def Slots.mono(s:BY)(e:r_):u5 ι' S' ρ σ:=⟨s.1,λi x h=>by
 rw[L0 v (s.2 i x h) v h1 (h2.mono e)]⟩
def Slots.set(s:BY)anN g!:u5 ι S (D6 i) (aiY fq):=by
 rw[Lc (aK s.1) j y hj];by_cases hij:i=j
 ·subst hij;rw[s9 hl (i<di (D6 i)) (List.getElem?_eq_some_iff.mp hj).1 List.length_set hl];rw[Hr hl hj];cases hj;rw[bC v (iZ (af2 (by rw[b! s.1 hl]))) h]
 ·rw[KU hij hj];rw[L0 w (s.2 j y hj) w (by rw[az (List.getElem?_set_ne hij) h1]) h2]
def i?.addr wU bf iB(h:vA):∃o,abE M/\XW a:=by
 rw[Wv hl (rE n) (by rw[←s.len];exact HR) M[n] Q2 (s.ob n a _ h Q2)]
def i?.at wU bf uK ae2:∃a,vA/\XW a:=by
 rw[Wv hl (aCa n) (by rw[gh s.len HR]) ι[n] Q2 (s.ob n _ o Q2 h)]
def i?.fresh wU uJ(h:tU):p∉ι:=λhm=>by
 rw[aiU n hn (List.getElem_of_mem hm)];obtain⟨o,_,q⟩:=s.addr (List.getElem?_eq_some_iff.mpr ⟨hn,e⟩);rw[QF u z q.there h z];cases z
def i?.Y8 wU uJ(h:tU):X0 p:=s.sub.free h
def i?.tree wU uJ{o:je}(h:tU):zV (upd S p o) M (BU p)/\EJ (upd S p o) (BU p):=by
 rw[zp hS (s.Y8 h) sm (mS S (upd S p o)) (λb u q=>by rw[Jc hS]) up (Up ι S ι (upd S p o)) (MP _ _ h h sm)];rw[fy (aaP u s.len n a u) ⟨up,List.take_length,mH u h1 h2 h3⟩]
 ·rw[vj (b=p)]
  ·subst hb;rw[rQ h! q q]
  ·rw[rQ E0 q (RE u q)]
 ·rw[PA a p z (s.fresh h (KS z h1)) ((Py n a u).up up (c9 (by rw[B9 z])) (uM fg))]
 ·have fg:=vZ h1 h;rw[bC (by rw[B9 h1]) h2 (by rw[B9 h3])]
def i?.side wU uJ{o:je}(h:tU):zV S M (BU p)/\EJ S (BU p):=by
 rw[fy (aaP u s.len n a u) ⟨V_ _ _ h h S,List.take_length,mH u h1 h2 h3⟩]
 ·rw[gT (vZ (RE u q) h) (RE u q)]
 ·rw[PA a p z (s.fresh h (KS z h1)) ((Py n a u).up (V_ _ _ h h S) (c9 z) (uM fg))]
 ·have fg:=vZ h1 h;rw[bC (by rw[B9 h1]) h2 h3]
def i?.enter wU uJ uK(hp:p∉ι)(h:XW p):i? K (ι++[p]) S (M++[o]) H:=by
 refine Ş s.sub ah5 ?_ n a u
 ·rw[List.nodup_append];rw[eF s.nd Ξ (jj a ha b hb)];rw[List.mem_singleton]at hb;rw[fz hb (c9 (hp (z▸ha)))]
 ·by_cases hn:aCa n
  ·rw[aLs]at h1;rw[UK (by rw[b! s.len hn])]at h2;exact(Py n a u).up (.push p) (c9 z) rfl
  ·rw[LS e1 (n=ι.length) (by
    have:=aLm.1;rw[Wz];omega) e1];simp at h1;rw[nt s.len h2 h2];subst h1;rw[fz h2 (h.up (.push _) (c9 z) rfl)]
def i?.new wU uJ{u:je}uK(h:tU)(ho:yw K ι S (qE p u) p o):i? K (ι++[p]) S (M++[o]) (qE p u)/\Ut S H (ι++[p]) S (qE p u):=by
 rw[fy ((s.side h).1.enter (s.fresh h) ho) ⟨.push p,Ξ,mH v h1 h2 h3⟩];have fg:=vZ h1 h;rw[bC (by rw[B9 h1]) (fQ h2 fg) h3]
def i?.inj wU{n m:Nat}iB(h1:vA)(h2:fP ι m a):n=m:=by
 obtain⟨l1,e1⟩:=aLm;rw[e8 l2 e2 ay0 (aEo s.nd l1 l2 aNj)]
def i?.put wU bf iB{u:je}uK(h:vA)(hS:I3)(ho:yw K ι S (qE a u) a o):zV S (K! o) (qE a u)/\EJ S (qE a u):=by
 rw[fy (aaP v ah5 m b v) ⟨V_ _ _ h h S,List.take_length,mH v h1 h2 h3⟩]
 ·rw[gT (vZ q hS) (RE v q)]
 ·rw[abr (n=m)]
  ·rw[zz hm h h1];cases h1
   have hl:rE n:=by
    have:=ay0.1;simpa using this
   rw[Hr hl h2];cases h2;exact ho
  ·rw[KU hm h2];rw[An fg (b≠a) (λz=>hm (s.inj h (z▸h1))) ((Py m b v).up (V_ _ _ h h S) (c9 z) (uM fg))]
 ·rw[Wv fg (b≠a) (c9 (h2 (KS z h))) (by rw[B9 h1]) h2 h3]
def i?.freeze wU bf iB dH(h:vA)(hM:aby n):
  ∃S',zV S' (K! tM) H/\EJ S' H/\aQ K ι S' (ς xs) (Δ a):=by
 obtain⟨hS,vs,hH,hr⟩:=s.ob n a _ h hM
 rw[bq sm (mS S (HZ S a vs)) (λb u q=>by rw[Jc hS]) up (Up ι S ι (HZ S a vs)) (MP _ _ h h sm)]
 refine⟨HZ S a vs,aaP u ah5 m b v,⟨up,List.take_length,mH v h1 h2 h3⟩,aQ.ml.mpr (mw a vs h! (hr.up up))⟩
 ·rw[vj (b=a)]
  ·rw[PK q];cases q;exact hH
  ·rw[bV E0 q (RE u q)]
 ·rw[abr (n=m)]
  ·rw[zz hm h h1];cases h1;have hl:rE n:=ay1.1;rw[Hr hl h2];cases h2;rw[g4 hH]
  ·rw[KU hm h2];rw[An fg (b≠a) (λz=>hm (s.inj h (z▸h1))) ((Py m b v).up up (c9 (by rw[B9 z])) rfl)]
 ·rw[Wv fg (b≠a) (c9 (h2 (KS z h))) h1 h2 (by rw[B9 h3])]
universe zE
inductive Res(α:Type) where
 |ok(a:α)cT
 |exc Gw cT
 |bad
abbrev Res.bind sP:xQ->(α->aS->akf)->akf
 |.ok a M,f=>f a M
 |bG c M,_=>bG c M
 |aE,_=>aE
@[simp] def Res.ag sP{a:α}b6 ZI:(asQ a).bind f=f a M:=rfl
@[simp] def Res.aVe sP jT b6 ZI:(Res.exc c M:xQ).bind f=bG c M:=rfl
@[simp] def Res.a58 sP ZI:(Res.bad:xQ).bind f=aE:=rfl
abbrev Res.opt gb(o:arU)cT:xQ:=match o with
 |some a=>.ok a M
 |none=>aE
@[simp] def Res.avH gb{a:α}b6:ap3 (some a) M=.ok a M:=rfl
@[simp] def Res.aVf gb b6:Res.opt (none:arU) M=aE:=rfl
abbrev ef sP aJM(aJ:d_)an4(Q:β->dW):cO xQ
 |.ok x M'=>∀ι' S' H' v,r_->US->c7 ι' S' x v->nJ v
 |bG c M'=>∀ι' S' H',r_->US->aJ (Δ c) none H'
 |aE=>False
section
variable {α β γ δ:Type}{K:eY}{c7:cz->aM->α->cO β}{aH2:cz->aM->γ->cO δ}{aJ:d_}{ι ι':cz}{S S' H H':aM}{Q Q':β->dW}{P:δ->dW}{r:xQ}
def ef.up(h:ef K c7 aJ ι S H Q r)(e:r_):ef K c7 aJ ι' S' H' Q r:=by
 cases r with
 |ok x M=>exact Ų v r1 (h ι1 aW H1 v Vf s1 r1)
 |exc c M=>exact λι1 aW H1 e1 s1=>h ι1 aW H1 Vf s1
 |bad=>exact h
def ef.bind{f:α->aS->Res γ}(h:ef K aH2 aJ ι S H P (r.bind f))
  (g:∀ι1 aW aa H1 x v,Ut S H ι1 aW H1->i? K ι1 aW aa H1->c7 ι1 aW x v->ef K aH2 aJ ι1 aW H1 P (f x aa)->Q v H1):ef K c7 aJ ι S H Q r:=by
 cases r with
 |ok x M=>exact Ų v r1 (g ι1 aW M H1 x v e1 s1 r1 (ef.up h e1))
 |exc c M=>exact h
 |bad=>exact h
universe zE
abbrev yz sP aJM T3(d:bu->aS->xQ)aeN(Q:β->dW):Prop:=
 ∃ι S M ρ,rt/\BY/\ef K c7 (aJ σ) ι S H Q c8
noncomputable abbrev br:=bu->aS->ng
noncomputable abbrev aFe:=bu->aS->Res dY
noncomputable abbrev g9:=bu->aS->Res Bool
noncomputable abbrev iq dg:cz->aM->aj->cO V:=λι S x v=>jf
noncomputable abbrev axg dg:cz->aM->dY->cO cH:=λι S x v=>p8 x v
noncomputable abbrev A5:cz->aM->Bool->cO Bool:=λ_ _ x v=>v=x
structure aIh wM T? lH:Prop where
 out:abK (abu d)
structure aIi wM T?(d:g9):Prop where
 out:uC X e (Wx A5 d)
structure DB wM T?(d:g9):Prop where
 out:PW X e (Wx A5 d)
structure a52 wM(es:dF)(d:aFe):Prop where
 out:o8 X es (Wx (axg X.K) d)
def Dn.imp lG Ko{t t':TE}(h:abK t)ZE:abK t':=XJ s H Q I s H Q I (i σ H Q hw)
def uC.imp lG Ko{t t':lF}(h:uC X e t)ZE:uC X e t':=XJ s H Q I s H Q I (i σ H Q hw)
def PW.imp lG Ko{t t':lF}(h:PW X e t)ZE:PW X e t':=λw pins s σ H Q I hw=>h w pins s σ H Q I (i σ H Q hw)
def o8.imp lG{es:dF}{t t':mZ}(h:o8 X es t)ZE:o8 X es t':=λpos pins s σ H Q I hw=>h pos pins s σ H Q I (i σ H Q hw)
def DB.aEi lG T4 Ko{d:g9}(h:DB X aJ e d):E_ e d:=⟨PW.pt h.out⟩
universe L2
universe zE
end
mutual
section
namespace L2
open PySem PySem.Spec PyProof.Rows
section
variable {X:bT}{aJ:St->d_}{a b c e:Expr}{es:dF}{da db oU d:br}{ds:sV}{pos:Pos}
abbrev ae g!:br:=Ce M (match ρ[i]? with
 |KR x=>.ok x M
 |_=>aE)
def af g! d!(hN:abC:=by rfl)(hv:aAz x:=by first | exact aoH | exact Or.inr aoH | exact Or.inr ayX)
  aIT:jg (cU x pos) (ae i):=⟨by
 rw[QV (Dn.imp (aYD hN hv hd PQ) λσ H Q h=>?_) ι S M ρ ao sl w h];rw[zX ae];cases q:ρ[i]? with
 |none=>rw[p6 q]
 |some o=>
  cases o with
  |none=>rw[p6 q]
  |some y=>
   rw[q]at w;rw[L0 v (sl.2 i y q) v h1 (ve v h2)]⟩
abbrev dC l_:br:=cK M (.ok x M)
def aVg uH(h:abK (adf v))(r:∀ι S,aQ X.K ι S x v):jg e (dC x):=⟨by
 rw[QV (Dn.imp h λσ H Q hh=>?_) ι S M ρ ao sl w hh]
 exact ve v (r ι S)⟩
def bW iC{j}:z3 Cw (η i) j (Θ i):=ai2 aYE EF
def mm Gv{j}:z3 Cw (pM b) j (dC (.ah b)):=ai2 aZ6 Eb
def dE{j}:z3 Cw cG j (dC .bb):=ai2 aYF Vu
def d9 d!{j}:z3 Cw (Ω x) j (dj x):=ai2 aHH aMz
def aDw d! iC{t:Tok}(hm:X.mg x=rL η i t)(hg:Kr:=by rfl)Ba:jg (cU x pos) (Θ i):=
 ai2 (aG0 hg hm (v:=η i) (lS t) hd) EF
abbrev du:sV->aFe
 |[]=>cK M (.ok [] M)
 |d::ds=>ahC (c8).bind (U? aa).bind xs (.ok (x::xs) M2)
noncomputable abbrev aU5 dg dS:cz->aM->dY->cO cH:=λι S x v=>p8 x v/\x.length=n
structure am5 wM(es:dF)Kp:Prop where
 out:o8 X es (Wx (BI X.K) (du ds))
def sY:am5 X aJ [] []:=⟨by
 rw[QV (o8.imp adA (OP H Q h)) ι S M ρ ao sl w h]
 exact ve [] (lS cW)⟩
def eN(ha:akh)(hr:XV es)aye:am5 X aJ (e::es) (d::ds):=⟨by
 rw[Qq (o8.imp (SH ha.out hr.out hs) (OP H Q h)) S M w h ⟨ι,S,M,ρ,ao,sl,xJ⟩];refine⟨ι1,aW,aa,ρ,s1,gi,ef.bind (c7:=BI X.K) w1 λι2 cN M2 H2 xs vs e2 s2 r2 w2=>?_⟩
 exact w2 ι2 cN H2 (v::vs) nk s2 ⟨bN OT r2.1,aK r2.2⟩⟩
abbrev wu l9 Gz cT:ng:=ù ajS (if aO live then .ok dO (M++[ς xs]) else .ok (ς xs) M) aE
def YC{ι:cz}anA Bm pB N9 pD j? ZY(r:gg)(w:E7 (yb xs)):
  aBT/\∀p,tU->Q (Δ p) (pJ p vs):=by
 rw[zX wu];split at w
 ·rw[K_];rw[Ld (by rw[b! r.length (alv hl)]) p hp];split at w
  ·have hS:=ao.Y8 hp;rw[BB s2 e2 (ao.new (u:=ς vs) (o:=ς xs) hp ⟨hS,vs,h!,r⟩) (w _ _ _ _ e2 s2 (Vp p ?_))];rw[aCl]
  ·rw[e8 s2 e2 (agA (ς vs) hp) (w _ _ _ _ e2 s2 (aQ.ml.mpr (mw p vs h! (r.mono e2))))]
 ·rw[cj]
@[simp] def f6 Oh(h:ajS):R2 xs M=.ok (ς xs) M:=by rw[f5 wu Lm ash]
@[simp] def yq Oh(h:ajS):wu true xs M=.ok dO (M++[ς xs]):=by rw[f5 wu Lm gK]
abbrev cA Kp:br:=Cu (vQ).bind xs (.ok (aV xs) aa)
abbrev yi l9 Kp:br:=Cu (vQ).bind xs (wu live xs aa)
def mR{x1}(h:XV es)(hn:ť 1000:=by exact azP):z3 L? es x1 (cA ds):=⟨by
 rw[K8 (aYL h.out) hh hh S M (ef.bind (c7:=BI X.K) w λι1 aW aa H1 xs vs e1 s1 r1 w1=>?_)];rw[Ld (by rw[←mO r1.1,r1.2];exact ap6 (aFI hn)) p hp];rw[e8 s2 e2 (s1.tree (o:=aV vs) hp) (w1 _ _ _ _ e2 s2 (ÿ p vs h! (r1.1.mono e2)))]⟩
def aN9 l9(h:XV es):jg (.List es pos) (yi live ds):=⟨by
 rw[K8 (aYM h.out) hh hh S M (ef.bind (c7:=BI X.K) w λι1 aW aa H1 xs vs e1 s1 r1 w1=>?_)]
 exact YC s1 r1.1 w1⟩
abbrev Yn cT:abk dY
 |ς xs=>jl
 |ο n=>match M[n]? with
  |gY=>jl
  |_=>none
 |_=>none
@[simp] def AJ b6 dH:lQ (ς xs)=jl:=rfl
@[simp] def a59 b6 dH:b9 (lQ (aV xs)):=rfl
@[simp] def au6 b6 bf:lQ (ο n)=(match M[n]? with | gY=>jl | _=>none):=rfl
def aku yS gy dH l! Gm(h:CO=jl):∃p vs,v=Δ p/\H p=W9/\gg:=by
 cases x with
 |lst ys=>
  cases h;rw[Å p vs e q r];exact W? p (uZ e) q
 |obj n=>
  rw[eS p e (aQ.FD.mp r)];obtain⟨o,e2,q⟩:=ao.addr e;simp only[au6,e2]at h;cases o with
  |lst ys=>
   cases h;rw[aga h1 h2 q];exact W? p h1 h2
  |_=>cases h
 |_=>cases h
abbrev qV cT l_:Qg dY:=match x with
 |aV xs=>jl
 |.cY ns=>aN ũ
 |x=>CO
@[simp] def ac1 b6 dH:qV M (ς xs)=jl:=rfl
@[simp] def aVh b6 dH:qV M (aV xs)=jl:=rfl
@[simp] def a6a b6 Oc:qV M (.cY ns)=aN ũ:=rfl
@[simp] def ac2 b6 bf:qV M (ο n)=(match M[n]? with | gY=>jl | _=>none):=rfl
def bx.ints jz:∀ns:eK,p8 (ns.map aj.int) HG
 |[]=>cW
 |n::ns=>bN EF (bx.ints ns)
def au7 yS gy dH l! Gm(h:qV M x=jl):
  ∃p vs,v=Δ p/\(iw K H p vs\/F5 K H p vs)/\gg:=by
 cases x with
 |tup ys=>
  cases h;rw[Fw p e q r];exact W? p (aA (.of (uZ e))) q
 |cY ns=>
  cases h;rw[eS p e (aQ.alH.mp r)];exact tf p (aq aMA) (.ints ns)
 |lst ys=>
  rw[xr p vs e1 e2 q (aku ao r h) p vs e1 (aq (.of e2)) q]
 |obj n=>
  rw[xr p vs e1 e2 q (aku ao r h) p vs e1 (aq (.of e2)) q]
 |_=>cases h
noncomputable abbrev D2:=aj->aj->aS->ng
abbrev YS dg(f:D2):n8:=λx y H Q=>∃E ι S M p q,rt/\zT p x/\zT q y/\E7 (f p q M)
abbrev cD(f:D2)anU:br:=ahC (da ρ M).bind (db ρ aa).bind y (f x y M2)
def amu{f:D2}j? yQ pB(h:yz K (iq K) aJ (cD f da db) σ H Q):alw (YS K f) (WY K aJ da) (WY K aJ db) σ H Q:=by
 rw[IY ⟨ι,S,M,ρ,ao,sl,ef.bind (c7:=iq K) w λι1 aW aa H1 x v e1 s1 r1 w1=>?_⟩];refine⟨ι1,aW,aa,ρ,s1,gi,ef.bind (c7:=iq K) w1 λι2 cN M2 H2 y u e2 s2 r2 w2=>?_⟩;exact⟨_,ι2,cN,M2,x,y,s2,OT,r2,w2⟩
def t7{op:Operator}{f:D2}(ho:nE (binaryOp op) (DX f))aeP:jg (.BinOp a op b pos) (cD f da db):=V0 (a0W ho ha.out hb.out) _ _ _ h (amu h)
def aDm.imp{f:VV}{r r':n8}(h:nE f r)(i:∀x y H Q,r' x y H Q->r x y H Q):nE f r':=λpins s σ H x y v u Q I rx a! q=>h pins s σ H x y v u Q I rx a! (i x y H Q q)
abbrev nW(C:Int->aoK)(g:Int->Int->aj):D2:=λx y M=>match x,y with
 |η i,η j=>By (aO (C i j)) .ok (g i j) aE
 |_,_=>aE
@[simp] def a6b aJG N7(h:aO (C i j)):nW C g (η i) (η j) M=.ok (g i j) M:=by unfold nW;simp[h]
def YD j? aJG{x y:V}iV pB(h:YS K (nW C g) x y H Q):
  ∃i j,x=η i/\y=η j/\aO (C i j)/\∃ι S M,rt/\∀v,HE (g i j)->Q v H:=by
 obtain⟨E,ι,S,M,p,q,ao,rx,a!,w⟩:=h;cases p with
 |int i=>
  cases q with
  |int j=>
   rw[bI hx aA0 hy aqZ];rw[ě nW];split at w
   ·rw[ID];exact⟨i,j,hx,hy,hc,ι,S,M,ao,λv hv=>ve v hv⟩
   ·rw[cj]
  |_=>rw[cj]
 |_=>rw[cj]
abbrev axU:D2:=WS aiG i j (η (i-j))
abbrev v7:D2:=WS (cK j (jC (0<j/\ę j))) i j (η (i / j))
abbrev gr:D2:=WS (cK j (jC (0<j))) i j (η (i%j))
def aWQ:y! Sub (DX axU):=aZf.imp λx y H Q h=>by
 obtain⟨i,j,rfl,rfl,_,ι,S,M,ao,k⟩:=YD h;exact iX i j rfl (k _ EF)
def aC7:y! FloorDiv (DX v7):=aWU.imp λx y H Q h=>by
 obtain⟨i,j,rfl,rfl,hc,ι,S,M,ao,k⟩:=YD h;exact tY i j rfl (show 0<j/\ę j from aLX) (k _ EF)
def yh:y! Mod (DX gr):=aZh.imp λx y H Q h=>by
 obtain⟨i,j,rfl,rfl,hc,ι,S,M,ao,k⟩:=YD h;exact tY i j rfl aLX (k _ EF)
abbrev small pg:Bool:=jC (-(2 ^ 64)<i/\i<2 ^ 64)
abbrev sq l9:D2:=λx y M=>match x,y with
 |η i,η j=>.ok (η (i+j)) M
 |aV xs,aV ys=>By (dQ xs.isEmpty/\aBq≤lim) .ok (aV (xs++ys)) aE
 |x,y=>match CO,lQ y with
  |jl,IB=>yb (xs++ys)
  |_,_=>aE
@[simp] def avI N9 N7:sq live (η i) (η j) M=.ok (η (i+j)) M:=rfl
@[simp] def Sq N9 anT b6:sq live (ς xs) (ς ys) M=yb (xs++ys):=rfl
def aSp j? N9{x y:V}iV pB(h:YS K (sq live) x y H Q):
  (∃i j,x=η i/\y=η j/\Q (η (i+j)) H)\/aIG K x y H Q\/amX x y H Q:=by
 obtain⟨E,ι,S,M,p,q,ao,rx,a!,w⟩:=h
 rw[Iw lists (∀anT,lQ p=jl->lQ q=IB->E7 (yb (xs++ys))->amX x y H Q) (λ{xs ys} h1 h2 w=>by
  rw[Fx l e1 r1 ao rx h1];rw[eo b us e2 r2 (aku ao a! h2)];rw[EB w1 w2 (YC ao aBf w) ⟨l,b,vs,us,rfl,rfl,e1,e2,bh w1,w2⟩]) other ((sq live p q M=match lQ p,lQ q with | jl,IB=>yb (xs++ys) | _,_=>aE)->amX x y H Q) e (by
  rw[e]at w;cases h1:lQ p with
  |none=>rw[p6 h1]
  |some xs=>
   cases h2:lQ q with
   |none=>rw[h1,h2]at w;rw[cj]
   |some ys=>rw[h1,h2]at w;exact lists h1 h2 w)]
 cases p with
 |int i=>
  cases q with
  |int j=>exact aq ⟨i,j,aA0,aqZ,IS⟩
  |_=>exact aA (aA (other rfl))
 |tup xs=>
  cases q with
  |tup ys=>
   refine aA (aq ?_);rw[ě sq];split at w
   ·rw[ID];rw[Fw l e1 r1 rx];rw[eo b us e2 r2 (aQ.atN.mp a!)];refine⟨l,b,vs,us,rfl,rfl,.of (uZ e1),.of (uZ e2),ck z,?_,ck z,cP _ p hp⟩
    ·rw[Xx z r1.length];cases xs with
     |nil=>cases hc.1
     |cons _ _=>rw[Wz]
    ·rw[LL r1.length r2.length (alv hc.2)]
    ·rw[Xx z r2.length];cases ys with
     |nil=>
      rw[HX mV (ve _ rx)]
     |cons _ _=>rw[Wz]
    ·rw[e8 s2 e2 (agA (aV (vs++us)) hp) (w _ _ _ _ e2 s2 (ÿ p _ h! ((aBf).mono e2)))]
   ·rw[cj]
  |_=>exact aA (aA (other rfl))
 |_=>exact aA (aA (other (by cases q<;>rfl)))
def R8 l9:y! Add (DX (sq live)):=(aZe.or (aW7.or aY2)).imp λx y H Q h=>by
 rcases aSp h with⟨i,j,hx,hy,q⟩ | h | h
 ·exact aq ⟨i,j,hx,hy,q⟩
 ·exact aA (aq h)
 ·exact aA (aA h)
abbrev lx l9:D2:=λx y M=>match x,y with
 |η i,η j=>ag1 (small i||small j) (.ok (η (i*j)) M) aE
 |x,η k=>match CO with
  |jl=>Ò (U6 k/\k<2 ^ 62 /\ -(2 ^ 62)<k/\aB0≤lim) (yb (Ak (ao2 xs)))
  |none=>aE
 |_,_=>aE
@[simp] def aVi N9 N7(h:gJ (small i||small j)):lx live (η i) (η j) M=.ok (η (i*j)) M:=by unfold lx;simp only[Lm]
def mn l9:y! Mult (DX (lx live)):=(aZg.or aY3).imp λx y H Q h=>by
 obtain⟨E,ι,S,M,p,q,ao,rx,a!,w⟩:=h
 have rep:∀{k:Int},q=η k->(lx live p q M=match lQ p with
  |jl=>Ò (U6 k/\k<2 ^ 62 /\ -(2 ^ 62)<k/\aB0≤lim) (yb (Ak (ao2 xs)))
  |none=>aE)->aNG x y H Q:=λ{k} e1 e2=>by
  rw[zz e1 e2 w];cases h1:lQ p with
  |none=>rw[p6 h1]
  |some xs=>
   rw[h1]at w
   rw[Fx l e3 r1 ao rx h1];dsimp only at w;split at w
   ·rw[ID];rw[zU w1 w2 (YC ao (r1.rep k.toNat) w) hy aqZ];subst hy;refine⟨l,k,vs,rfl,rfl,e3,?_,?_,?_,w2⟩
    ·rw[fZ hc.2.2.1]
    ·rw[fZ hc.2.1]
    ·rw[b! r1.length (alv hc.2.2.2)]
   ·rw[cj]
 cases q with
 |int j=>
  cases p with
  |int i=>
   left;rw[ě lx];split at w
   ·rw[ID];refine⟨i,j,aA0,aqZ,?_,IS⟩;rcases Bool.or_eq_true_iff.mp hc with z | z
    ·exact aq aL7
    ·exact aA aL7
   ·rw[cj]
  |_=>exact aA (rep rfl rfl)
 |_=>cases p<;>exact w.elim
universe zE
universe L2
universe zE
section
namespace L2
open PySem PySem.Spec PyProof.Rows
abbrev Sx sP(f:w5 α β):w5 ry (List β)
 |[]=>some []
 |x::xs=>match f x,qv f with
  |zg,IB=>aN (y::ys)
  |_,_=>none
abbrev leaf:aCn
 |.bb=>some cG
 |.ah b=>d7 pM b
 |η i=>qw
 |Ω x=>pT (PyData.canLay0 (Ω x)) (Hy x) none
 |_=>none
abbrev flat cT:ze aCn
 |0,x=>leaf x
 |k+1,x=>match x with
  |ς xs=>(qv (K5 k)).map EX
  |aV xs=>(qv (K5 k)).map WT
  |ο n=>match M[n]? with
   |gY=>(qv (K5 k)).map EX
   |_=>none
  |x=>leaf x
def aGG jz sS uH qo anV(r:jf)(cB:nF)(e:cE (leaf x) d):Reads h u d []/\å/\d.depth=0:=by
 cases x with
 |bb=>
  cases e;cases asl;cases cB;exact jh cG rfl
 |ah b=>
  cases e;cases ū;cases cB;exact jh (pM b) rfl
 |int i=>
  cases e;cases ahK;rw[Vz t cB (jh (η i t) rfl)]
 |str z=>
  simp only[leaf]at e;split at e
  ·rw[ID];cases e;cases ahL;rw[Vz t cB (kA (Ω z t) hc)]
  ·cases e
 |_=>cases e
def ac3 jz sS dU{f:aCn}
  (ih:∀x v u d,jf->nF->cE (f x) d->(∃as,Reads h u d as)/\å/\aiQ k):
  ∀ZL Bg(ds:aqY),gg->OS->cE (qv f) ds->(∃as,ReadsAll h us ds as)/\aKX ds/\PyData.depthAll ds≤k
 |[],vs,us,ds,r,cB,e=>by
  rw[XG r r];cases cB;cases e;exact jh ⟨_,cW⟩ HC
 |x::xs,vs,us,ds,r,cB,e=>by
  rw[eo v r' h1 h2 r.wh];cases cB with
  |cons aB aZ=>
   rw[Sx]at e;cases e1:f x with
   |none=>rw[e1]at e;cases e
   |some y=>
    cases e2:qv f with
    |none=>rw[e1,e2]at e;cases e
    |some ys=>
     rw[e1,e2]at e;cases e;rw[apy as a1 a2 a3 (ih x v _ y h1 aB e1) bs b1 b2 abO (ac3 ih xs r' _ ys h2 aZ e2)];rw[Af ⟨_,bN a1 b1⟩ ?_]
     ·rw[PyData.canLayAll0,a2,b2];rfl
     ·rw[az PyData.depthAll (Nat.max_le.mpr ⟨a3,abO⟩)]
def ak7 wL yS sS ZY(a_:PZ):
  ∀pn ZW Gu(d:PyData),jf->nF->cE (flat M k x) d->(∃as,Reads h u d as)/\å/\aiQ k
 |0,x,v,u,d,r,cB,e=>by
  rw[nr h1 h2 h3 (aGG (h:=h) r cB e) ⟨_,h1⟩ h2 (Nat.le_of_eq h3)]
 |k+1,x,v,u,d,r,cB,e=>by
  rw[fS ih (ak7 ao a_ k) lst (∀iB pD,v=Δ a->H a=W9->gg->cE ((qv (K5 k)).map EX) d->(∃as,Reads h u d as)/\å/\aiQ (k+1)) (λ{a xs vs} ev aL hr e=>by
   subst ev;cases cB;obtain⟨_,cb,n,hv,hg⟩:=a_ a _ aL;cases e2:qv (K5 k) with
   |none=>rw[e2]at e;cases e
   |some ds=>
    rw[e2]at e;cases e;obtain⟨⟨as,a1⟩,a2,a3⟩:=ac3 ih xs vs cb ds hr hv e2;rw[bC ⟨_,EX hg rfl rfl (bh a1)⟩ (by rw[az PyData.canLay0 a2]) (by rw[az PyData.depth (Nat.succ_le_succ a3)])])]
  cases x with
  |lst xs=>
   rw[CB a ev ic hr (aQ.ml.mp r)];exact lst ev (uZ ic) hr e
  |tup xs=>
   rw[Fw a ic hr r];cases cB;obtain⟨_,cb,hv,o,hg,hc,n,hd⟩:=a_ a _ (uZ ic);have e:cE ((qv (K5 k)).map PyData.tuple) d:=e;cases e2:qv (K5 k) with
   |none=>rw[e2]at e;cases e
   |some ds=>
    rw[e2]at e;cases e;obtain⟨⟨as,a1⟩,a2,a3⟩:=ac3 ih xs vs cb ds hr hv e2;rw[bC ⟨_,WT hg hc hd (bh a1)⟩ (by rw[az PyData.canLay0 a2]) (by rw[az PyData.depth (Nat.succ_le_succ a3)])]
  |obj n=>
   rw[Hw a ev ei (aQ.FD.mp r) o eM mo (ao.addr ei)];simp only[flat,eM]at e;cases o with
   |lst xs=>
    rw[ġ aL hr mo (lst ev aL hr e)]
   |_=>cases e
  |_=>
   rw[nr h1 h2 h3 (aGG (h:=h) r cB e) ⟨_,h1⟩ h2 av]
noncomputable abbrev deep:Nat:=10
section
variable {X:bT}{aJ:St->d_}{a b c e:Expr}{es:dF}{da db oU d:br}{ds:sV}{pos:Pos}
abbrev dq anW:D2:=λx y M=>match Ay x,Ay y with
 |some p,some q=>.ok (.ah (yZ (PyData.eqv p q) (PyData.eqv p q))) M
 |_,_=>aE
def aGH j? qp{x y:V}iV pB(h:YS K (dq neg) x y H Q):
  ∃ι S M p q d1 d2,rt/\zT p x/\zT q y/\cE (Ay p) d1/\cE (Ay q) d2/\Q (.ah (yZ (PyData.eqv d1 d2) (PyData.eqv d1 d2))) H:=by
 rw[EL p q rx a! dq];cases e1:Ay p with
 |none=>rw[p6 e1]
 |some d1=>
  cases e2:Ay q with
  |none=>rw[e1,e2]at w;rw[cj]
  |some d2=>
   rw[e1,e2]at w;exact⟨ι,S,M,p,q,d1,d2,ao,rx,a!,e1,e2,Xk⟩
def cf sT:Iq Eq (dq false):=by
 rw[EK];obtain⟨ι,S,M,p,q,d1,d2,ao,px,py,e1,e2,w⟩:=aGH h;rw[apy as a1 a2 a3 (aal ao p x v d1 px rx e1) bs b1 b2 abO (aal ao q y u d2 py a! e2)];exact SeqAt.compareEq_reads a1 b1 a2 b2 (by have:=aMi d2.depth;rw[Fj (d1.depth≤10) a3]) (z9 .ah _ I w)
def Yv sT:Iq NotEq (dq true):=by
 rw[EK];obtain⟨ι,S,M,p,q,d1,d2,ao,px,py,e1,e2,w⟩:=aGH h;rw[apy as a1 a2 a3 (aal ao p x v d1 px rx e1) bs b1 b2 abO (aal ao q y u d2 py a! e2)];exact SeqAt.compareNe_reads a1 b1 a2 b2 (by have:=aMi d2.depth;rw[Fj (d1.depth≤10) a3]) (z9 .ah _ I w)
abbrev iR:abk Key
 |η i=>d7 aq i
 |Ω x=>d7 aA x
 |_=>none
abbrev amv:abk tu
 |aV xs=>qv iR
 |_=>none
abbrev qR o? [BQ] ZT qn:wY:=GH (kvs.find? (Mg (j6=k))).map
abbrev jw o? [BQ] ZT qn(v:aj):abv:=
 if kvs.any (Mg (j6=k)) then kvs.map (λkv=>aj3 (j6=k) v kv) else kvs++[(k,v)]
abbrev va o? [BQ] ZT qn:abv:=kvs.filter (oE kv j6 k)
def Ss jz uH DC(r:jf)(e:iR x=fc):v=kV k:=by
 cases x with
 |int i=>cases e;exact ahK
 |str z=>cases e;exact ahL
 |_=>cases e
def aEp jz:∀pD{ks:tu},gg->cE (qv iR) ks->vs=ar2
 |[],vs,ks,r,e=>by rw[XG r r];cases e;rfl
 |x::xs,vs,ks,r,e=>by
  rw[eo v r' h1 h2 r.wh];rw[Sx]at e;cases e1:iR x with
  |none=>rw[e1]at e;cases e
  |some k=>
   cases e2:qv iR with
   |none=>rw[e1,e2]at e;cases e
   |some ks'=>
    rw[e1,e2]at e;cases e;rw[cZ,←Ss h1 e1,←aEp h2 e2]
def dA.val jz o? [BQ] Gq qn:
  (b9 D3/\b9 (oy cq k))\/∃x v,D3=gB/\oy cq k=fq/\jf:=by
 induction h with
 |nil=>exact Ik rfl
 |@cons p q kvs cq r t ih=>
  obtain⟨r1,r2⟩:=r;rw[t6 p k]
  ·refine aA ⟨p.2,q.2,Qs qR e,iZ (wq (r1▸e)),r2⟩
  ·have e':¬q.1=k:=r1▸e
   have h1:qR (p::kvs) k=D3:=Qs qR e
   rw[eu h1 (avf e') ih]
def dA.any jz o? [BQ] Gq qn:kvs.any (Mg (j6=k))=cq.any (Mg (j6=k)):=by
 induction h with
 |nil=>rfl
 |cons r t ih=>rw[List.any_cons,List.any_cons,r.1,ih]
def dA.put jz o? [BQ] Gq qn uH(r:jf):IX (jw kvs k x) (putK cq k v):=by
 unfold jw putK;rw[h.any k];split
 ·induction h with
  |nil=>rw[s8]
  |@cons p q kvs cq r' t ih=>
   rw[cZ,cZ];refine bN ?_ ?_
   ·rw[t6 p k]
    ·rw[Fq xD (r'.1▸e)];rw[b7 r'.1 r]
    ·rw[arA u! (r'.1▸e) r']
   ·rename_i hq;clear ih hq
    induction t with
    |nil=>rw[s8]
    |@cons p q kvs cq r' t ih=>
     rw[cZ,cZ];refine bN ?_ ih;rw[t6 p k]
     ·rw[Fq xD (r'.1▸e)];rw[b7 r'.1 r]
     ·rw[arA u! (r'.1▸e) r']
 ·induction h with
  |nil=>exact bN (kU r) cW
  |cons r' t ih=>
   rename_i hq;refine bN r' (ih ?_);intro z;exact hq (by rw[List.any_cons,z,Bool.or_true])
def dA.drop jz o? [BQ] Gq qn:IX (va kvs k) (Nm cq k):=by
 unfold va Nm
 induction h with
 |nil=>rw[s8]
 |@cons p q kvs cq r t ih=>
  rw[List.filter_cons,List.filter_cons,←r.1];split
  ·exact bN r ih
  ·exact ih
abbrev getD cT(x k:aj):Qg wY:=match x with
 |ο n=>match M[n]? with
  |nh .ai=>(iR k).map (qR kvs)
  |nh .o6=>(amv k).map (qR kvs)
  |nh .bD=>(iR k).map (qR kvs)
  |_=>none
 |_=>none
def aF9 yS{x k:aj}{v y:V}{o:wY}Gm(a!:zT k y)(h:getD M x k=b8):
  ∃p ov,v=Δ p/\TG H p/\AR H p y ov/\((b9 o/\b9 ov)\/∃z w,cE o z/\cE ov w/\zT z w):=by
 cases x with
 |obj n=>
  rw[XH p ei r mo q ei getD h];cases mo with
  |ai kvs=>
   obtain⟨_,cq,aL,rk⟩:=q;rw[Cq];cases gQ:iR k with
   |none=>rw[gQ]at h;cases h
   |some kk=>
    rw[gQ]at h;cases h;rw[aie (Ss a! gQ)];refine tY p (oy cq kk) (EV cq (aq aL)) (AR.k aL) ?_;rcases rk.val kk with⟨h1,h2⟩ | ⟨z,w,h1,h2,h3⟩
    ·exact EV h1 h2
    ·exact aA ⟨z,w,h1,h2,h3⟩
  |o6 kvs=>
   obtain⟨_,cq,aL,rk⟩:=q;rw[Cq];cases k with
   |tup xs=>
    rw[Fw b ic hr a!];simp only[amv]at h;cases gQ:qv iR with
    |none=>rw[gQ]at h;cases h
    |some kk=>
     rw[gQ]at h;cases h;rw[aie (aEp hr gQ)];refine tY p (oy cq kk) (r? cq (aq aL)) (AR.t aL (uZ ic)) ?_;rcases rk.val kk with⟨h1,h2⟩ | ⟨z,w,h1,h2,h3⟩
     ·exact EV h1 h2
     ·exact aA ⟨z,w,h1,h2,h3⟩
   |_=>cases h
  |bD kvs=>
   obtain⟨ob,cq,_,aL,rk⟩:=q;rw[Cq];cases gQ:iR k with
   |none=>rw[gQ]at h;cases h
   |some kk=>
    rw[gQ]at h;cases h;rw[aie (Ss a! gQ)];refine tY p (oy cq kk) (EV cq (r? ob aL)) (aq (iX cq kk (r? ob aL) rfl)) ?_;rcases rk.val kk with⟨h1,h2⟩ | ⟨z,w,h1,h2,h3⟩
    ·exact EV h1 h2
    ·exact aA ⟨z,w,h1,h2,h3⟩
  |_=>cases h
 |_=>cases h
abbrev iu anW:D2:=λx y M=>match qV M y with
 |IB=>match Ay x,Sx aiz ys with
  |some p,some gu=>.ok (.ah (yZ (gu.any (yX q q p)) (gu.any (yX q q p)))) M
  |_,_=>aE
 |none=>match getD M y x with
  |b8=>.ok (.ah (yZ o.isSome o.isSome)) M
  |none=>aE
def QP anW sT ZP
  (hL:∀m8{c x:Value}{xs:aqY}anV{as bs:cz}ro(rc:ayW c (EX xs) as)aJS(hd:å)
   aI8,j7 (compareOp op x c) Q s)
  (hT:∀m8{c x:Value}{xs:aqY}anV{as bs:cz}ro(rc:ayW c (WT xs) as)aJS(hd:å)
   aI8,j7 (compareOp op x c) Q s)
  (hD:∀Oa m8 yQ uJ ZV{o:GY}ro,iO->AR H p y o->abw->(∀s',Mf->Q (pM (yZ o.isSome o.isSome)) s') →
   j7 (compareOp op u (Δ p)) Q s):afy (DX (iu neg)):=by
 rw[EK];rw[EL p q px py iu];cases e1:qV M q with
 |some ys=>
  rw[qD e1 w w];cases e2:Ay p with
  |none=>rw[p6 e2]
  |some d=>
   cases e3:Sx aiz ys with
   |none=>rw[e2,e3]at w;rw[cj]
   |some gu=>
    rw[e2,e3]at w;have fin:=Xk;obtain⟨⟨as,a1⟩,a2,a3⟩:=aal ao p x v d px rx e2;rw[eo l vs hq rs (au7 ao py e1)];cases a!
    have room:abH (aou 1+aK1 aAP):=by have:=aMh aAP;rw[Fj (aiQ 10) a3]
    rcases hq with hq | hq
    ·rw[H9 rv pl];obtain⟨⟨bs,b1⟩,b2,abO⟩:=ac3 (ak7 ao I.a_ deep) ys vs cb gu rs rv e3;obtain⟨o,n,ho,hc,_,hd⟩:=pl;exact hL (EX ho hc hd (bh b1)) a1 b2 a2 room (z9 .ah _ I fin)
    ·rw[PB rv pl];obtain⟨⟨bs,b1⟩,b2,abO⟩:=ac3 (ak7 ao I.a_ deep) ys vs cb gu rs rv e3;obtain⟨o,ho,hc,n,hd⟩:=pl;exact hT (WT ho hc hd (bh b1)) a1 b2 a2 room (z9 .ah _ I fin)
 |none=>
  rw[qD e1 w w];cases e2:getD M q p with
  |none=>rw[p6 e2]
  |some o=>
   rw[e2]at w;have fin:=Xk;obtain⟨l,ov,rfl,_,g,hh⟩:=aF9 ao py px e2;cases a!
   have f9:o.isSome=ov.isSome:=by
    rcases hh with⟨h1,h2⟩ | ⟨z,w',h1,h2,_⟩
    ·rw[h1,h2];rfl
    ·rw[h1,h2];rfl
   rw[bV f9 fin (hD I g rx λs' I'=>z9 .ah _ I' fin)]
def nT sT:Iq In (iu false):=
 QP false hu (λrc rx NG hd hu h=>SeqAt.in_list_reads rc rx NG hd hu h) (λrc rx NG hd hu h=>SeqAt.in_tuple_reads rc rx NG hd hu h) λI g a! h=>a2L av I g a! h
def YQ sT:Iq NotIn (iu true):=
 QP true hu (λrc rx NG hd hu h=>SeqAt.notIn_list_reads rc rx NG hd hu h) (λrc rx NG hd hu h=>SeqAt.notIn_tuple_reads rc rx NG hd hu h) λI g a! h=>aW0 av I g a! h
abbrev Hk:D2:=WS aiG i j (.ah (jC (i<j)))
abbrev aud:D2:=WS aiG i j (.ah (EO i j))
abbrev l7:D2:=WS aiG i j (.ah (jC (j<i)))
abbrev abX:D2:=WS aiG i j (.ah (EO j i))
def adD:Iq Lt Hk:=a0Y.imp λx y H Q h=>by
 obtain⟨i,j,rfl,rfl,_,ι,S,M,ao,k⟩:=YD h;exact iX i j rfl (k _ Eb)
def QQ:Iq LtE aud:=a0Z.imp λx y H Q h=>by
 obtain⟨i,j,rfl,rfl,_,ι,S,M,ao,k⟩:=YD h;exact iX i j rfl (k _ Eb)
def SR:Iq Gt l7:=a00.imp λx y H Q h=>by
 obtain⟨i,j,rfl,rfl,_,ι,S,M,ao,k⟩:=YD h;exact iX i j rfl (k _ Eb)
def QR:Iq GtE abX:=a01.imp λx y H Q h=>by
 obtain⟨i,j,rfl,rfl,_,ι,S,M,ao,k⟩:=YD h;exact iX i j rfl (k _ Eb)
abbrev C_:tO aj
 |.bb=>true
 |_=>false
def aFK jz uH(r:jf):fC v .bb=C_ x:=by
 cases x with
 |bb=>cases asl;rfl
 |ah b=>cases ū;rfl
 |int i=>cases ahK;rfl
 |str z=>cases ahL;rfl
 |lst xs=>obtain⟨p,vs,rfl,_⟩:=aQ.ml.mp r;rfl
 |tup xs=>obtain⟨p,vs,rfl,_⟩:=aQ.atN.mp r;rfl
 |obj n=>obtain⟨p,rfl,_⟩:=aQ.FD.mp r;rfl
 |cY n=>obtain⟨p,rfl,_⟩:=aQ.alH.mp r;rfl
abbrev jd anW:D2:=λx y M=>match y with
 |.bb=>.ok (.ah (yZ (C_ x) (C_ x))) M
 |_=>aE
def FI:Iq Is (jd false):=aZj.imp λx y H Q h=>by
 obtain⟨E,ι,S,M,p,q,ao,rx,a!,w⟩:=h;cases q with
 |bb=>
  rw[fy (aQ.akJ.mp a!) ?_];rw[az (aFK rx) Xk]
 |_=>rw[cj]
def alI:Iq IsNot Wd:=aWV.imp λx y H Q h=>by
 obtain⟨E,ι,S,M,p,q,ao,rx,a!,w⟩:=h;cases q with
 |bb=>
  rw[fy (aQ.akJ.mp a!) ?_];rw[az (aFK rx) Xk]
 |_=>rw[cj]
def kl ZP{f:D2}ayE aJt:jg (Ĉ a [op] [b] pos) (cD f da db):=V0 (aWW ho ha.out hb.out hm) _ _ _ h (amu h)
abbrev gR cT:abk Bool
 |.bb=>some false
 |.ah b=>mD
 |η i=>aN (i != 0)
 |Ω x=>ahl (x.length≤lim) (aY x.length != 0)
 |ς xs=>some QO
 |aV xs=>some QO
 |.cY ns=>some ! ns.isEmpty
 |ο n=>match M[n]? with
  |gY=>some QO
  |nh .ai=>some arj
  |_=>none
def isEmpty_eq sP Ub{ys:List β}(h:Ţ ys.length):xs.isEmpty=ys.isEmpty:=by cases xs<;>cases ys<;>simp_all
def aVj yS uH{k:Bool}Gm(h:gR M x=fc):axL K v H k:=by
 cases x with
 |bb=>cases asl;cases h;rfl
 |ah b=>cases ū;cases h;rfl
 |int i=>cases ahK;cases h;rfl
 |str z=>
  cases ahL;simp only[gR]at h;split at h
  ·cases h;rw[K_];exact lS (alv hl)
  ·cases h
 |lst xs=>
  rw[Å p vs e q r];cases h;exact aq ⟨vs,.of (uZ e),arz⟩
 |tup xs=>
  rw[Fw p e q r];cases h;exact aA (aq ⟨vs,.of (uZ e),arz⟩)
 |cY ns=>
  rw[eS p e (aQ.alH.mp r)];cases h;exact aq ⟨_,aMA,iZ (isEmpty_eq (Ξ:ns.length=di HG))⟩
 |obj n=>
  rw[XH p e r o q e gR h];cases o with
  |lst xs=>
   cases h;rw[ġ e q q (aq ⟨vs,.of e,arz⟩)]
  |ai xs=>
   cases h;rw[ġ e q q (aA (aA ⟨vs,e,arz⟩))]
  |_=>cases h
abbrev dP lH:g9:=kY (c8).bind (aiy aa x aa)
def gD(ha:PY)(he:∀whole,ari a whole=(do let v ←whole;standAt a.pos;DW [v] (truthy v)):=by rw[XS _]):E_ a (dP da):=⟨by
 rw[Qq (uC.imp (aVp ha.out he) (OP H Q h)) S M w h ⟨ι,S,M,ρ,ao,sl,xJ⟩];cases e:gR aa x with
 |none=>rw[bV e w1 w1.elim]
 |some k=>
  rw[e]at w1
  rw[bC k (aVj s1 r1 e) (G3 k rfl)]⟩
abbrev n9 lH:g9:=kY (c8).bind (match x with
 |.ah k=>.ok k aa
 |_=>aE)
def aZH j? yQ{Q:Bool->dW}{t:TE}(h:yz K A5 aJ (n9 d) σ H Q)(hd:∀Q',yz K (iq K) aJ d σ H Q'->t σ H Q'):aIm t σ H Q:=by
 rw[zv S M w h];rw[ff (hd _ ⟨ι,S,M,ρ,ao,sl,?_⟩) (ef.bind (c7:=iq K) w λι1 aW aa H1 x v e1 s1 r1 w1=>?_)];cases x with
 |ah k=>rw[bC k (aQ.Se.mp r1) (G3 k rfl)]
 |_=>rw[nq]
def iT ZP{f:D2}ayE aJt:
  E_ (Ĉ a [op] [b] pos) (vz f da db):=⟨uC.imp (aWX ho ha.out hb.out hm) λσ H Q h=>aZH h λQ' h'=>amu h'⟩
abbrev amh(f g:D2)(da db oU:br):br:=ahC (da ρ M).bind (db ρ aa).bind y ((f x y M2).bind λz bJ=>match z with
 |fT .ah=>(oU ρ bJ).bind λw lE=>g y w lE
 |lO .ah=>.ok (lO .ah) bJ
 |_=>aE)
def aVk{f g:D2}j? yQ pB(h:yz K (iq K) aJ (amh f g da db oU) σ H Q):Qb (YS K f) (YS K g) (WY K aJ da) (WY K aJ db) (WY K aJ oU) σ H Q:=by
 rw[IY ⟨ι,S,M,ρ,ao,sl,ef.bind (c7:=iq K) w λι1 aW aa H1 x v e1 s1 r1 w1=>?_⟩];refine⟨ι1,aW,aa,ρ,s1,gi,ef.bind (c7:=iq K) w1 λι2 cN M2 H2 y u e2 s2 r2 w2=>?_⟩;refine⟨_,ι2,cN,M2,x,y,s2,OT,r2,ef.bind (c7:=iq K) w2 λι3 uE bJ H3 z t e3 s3 qU w3=>?_⟩;cases z with
 |ah k=>
  rw[Af k (aQ.Se.mp qU)];cases k with
  |false=>exact He (w3 ι3 uE H3 _ nk s3 Eb)
  |true=>
   refine Nu ⟨ι3,uE,bJ,ρ,s3,(gi).mono ō,ef.bind (c7:=iq K) w3 λι4 wJ lE H4 c t4 e4 wo alj a5q=>?_⟩;exact⟨_,ι4,wJ,lE,y,c,wo,aQ.mono (e3.trans e4) r2,alj,a5q⟩
 |_=>exact w3.elim
def aVl{op Zz:CmpOp}{f g:D2}ayE(wH:nE (compareOp Zz) (DX g))aeP(hc:jg c oU)
  aIU:jg (Ĉ a [op,Zz] [b,c] pos) (amh f g da db oU):=V0 (aVo ho wH ha.out hb.out hc.out hm) _ _ _ h (aVk h)
variable {ta tb tc:g9}{rest:dF}
abbrev wj(ta tb:g9):g9:=Cu (ta ρ M).bind k (pT k (tb ρ aa) (.ok false aa))
abbrev wF(ta tb:g9):g9:=Cu (ta ρ M).bind k (if aO k then .ok true aa else tb ρ aa)
abbrev M?(ta:g9):g9:=Cu (ta ρ M).bind k (.ok (! k) aa)
def yt(h:E_ a ta):DB X aJ (mz .And [a] pos) ta:=⟨aXg h.out⟩
def C7(h:E_ a ta):DB X aJ (mz .Or [a] pos) ta:=⟨aYG h.out⟩
def km(ha:E_ a ta)(hb:DB X aJ (mz .And tX pos) tb):DB X aJ (mz .And (a::tX) pos) (wj ta tb):=⟨by
 rw[Qq (PW.imp (aY4 ha.out hb.out) (OP H Q h)) S M w h ⟨ι,S,M,ρ,ao,sl,ef.bind (c7:=A5) w λι1 aW aa H1 x v e1 s1 r1 w1=>?_⟩];cases r1;cases x with
 |false=>exact He (G3 false rfl)
 |true=>exact Nu ⟨ι1,aW,aa,ρ,s1,gi,w1⟩⟩
def YW(ha:E_ a ta)(hb:DB X aJ (mz .Or tX pos) tb):DB X aJ (mz .Or (a::tX) pos) (wF ta tb):=⟨by
 rw[Qq (PW.imp (aZ7 ha.out hb.out) (OP H Q h)) S M w h ⟨ι,S,M,ρ,ao,sl,ef.bind (c7:=A5) w λι1 aW aa H1 x v e1 s1 r1 w1=>?_⟩];cases r1;cases x with
 |true=>exact Nu (G3 true rfl)
 |false=>exact He ⟨ι1,aW,aa,ρ,s1,gi,w1⟩⟩
def aco(ha:E_ a ta):E_ (asJ .Not a pos) (M? ta):=⟨by
 rw[Qq (uC.imp (aY5 ha.out) (OP H Q h)) S M w h ⟨ι,S,M,ρ,ao,sl,ef.bind (c7:=A5) w λι1 aW aa H1 x v e1 s1 r1 w1=>?_⟩];cases r1
 exact Al rfl⟩
abbrev Zg anU:br:=kY (da ρ M).bind (match x with
 |fT .ah=>db ρ aa
 |lO .ah=>.ok (lO .ah) aa
 |_=>aE)
abbrev aer anU:br:=kY (da ρ M).bind (match x with
 |lO .ah=>db ρ aa
 |fT .ah=>.ok (fT .ah) aa
 |_=>aE)
def adX{op}(h:PY):jg (mz op [a] pos) da:=⟨aY6 h.out⟩
def awE(ha:PY)(hb:jg (mz .And tX pos) db):z3 mz .And (a::tX) (Zg da db):=⟨by
 rw[z? (aY7 ha.out hb.out)];cases x with
 |ah k=>
  rw[Af k (aQ.Se.mp r1)];cases k with
  |false=>exact He (Al Eb)
  |true=>exact Nu ⟨ι1,aW,aa,ρ,s1,gi,w1⟩
 |_=>rw[nq]⟩
def aIJ(ha:PY)(hb:jg (mz .Or tX pos) db):z3 mz .Or (a::tX) (aer da db):=⟨by
 rw[z? (a0P ha.out hb.out)];cases x with
 |ah k=>
  rw[Af k (aQ.Se.mp r1)];cases k with
  |true=>exact Nu (Al Eb)
  |false=>exact He ⟨ι1,aW,aa,ρ,s1,gi,w1⟩
 |_=>rw[nq]⟩
abbrev uw(tc:g9)anU:br:=Cu (tc ρ M).bind k (pT k (da ρ aa) (db ρ aa))
def Nj(hc:E_ c tc)aeP:jg (.IfExp c a b pos) (uw tc da db):=⟨by
 rw[K8 (aUU hc.out ha.out hb.out) h h S M (ef.bind (c7:=A5) w λι1 aW aa H1 x v e1 s1 r1 w1=>?_)];cases r1;cases x with
 |true=>exact Nu ⟨ι1,aW,aa,ρ,s1,gi,w1⟩
 |false=>exact He ⟨ι1,aW,aa,ρ,s1,gi,w1⟩⟩
universe zE
universe L2
universe zE
end
mutual
section
namespace L2
open PySem PySem.Spec PyProof.Rows
section
variable {X:bT}{aJ:St->d_}{a b c e o:Expr}{es:dF}{da db oU d mf:br}{ds:sV}{pos apos dt:Pos}
def aWR sT:JW X (λx y H Q=>∃p v,x=Δ p/\AR H p y fq/\Q v H):=by
 intro value slice pins s σ H x y v u Q I rx a! h hs;rw[eo p z g q h];cases rx;exact tail_any (aRg I g) PySem.F.slot_dict_getitem.lookup (aT2 av I g a! λw' s3 e_ mX=>⟨z,H,e_,mX,q⟩) hs
abbrev f_:D2:=λx y M=>match qV M x with
 |jl=>match y with
  |η i=>ap3 (yK xs i) M
  |_=>aE
 |none=>match getD M x y with
  |KR z=>.ok z M
  |_=>aE
def aVm jz pD iC gy(r:gg)(h:yK xs i=gB):∃v,yK vs i=fq/\jf:=by
 unfold yK at h⊢;rw[←r.length];cases e:VB i with
 |none=>rw[e]at h;cases h
 |some j=>
  rw[Cn e (r.get h)]
def a2z sT:JW X (DX f_):=by
 have base:=(aW8 (X:=X)).or (adC.or (aWR hu));intro value slice pins s σ H x y v u Q I rx a! h hs;refine base value slice pins s σ H x y v u Q I rx a! ?_ hs;rw[EL p q px py f_];cases e1:qV M p with
 |some xs=>
  rw[qD e1 w w];cases q with
  |int i=>
   dsimp only at w;cases e2:yK xs i with
   |none=>rw[p6 e2]
   |some z=>
    rw[e2]at w;rw[eo l vs hq rs (au7 ao px e1)];rw[ģ z' h2 (aVm rs e2)];have fin:=ve z' h2;rcases hq with hq | hq
    ·exact aq ⟨l,vs,i,z',rfl,aQ.MT.mp py,hq,h1,fin⟩
    ·exact aA (aq ⟨l,vs,i,z',rfl,aQ.MT.mp py,hq,h1,fin⟩)
  |_=>rw[cj]
 |none=>
  rw[qD e1 w w];cases e2:getD M p q with
  |none=>rw[p6 e2]
  |some oo=>
   cases oo with
   |none=>rw[p6 e2]
   |some z=>
    rw[e2]at w;obtain⟨l,ov,rfl,_,g,hh⟩:=aF9 ao px py e2;rcases hh with⟨h1,_⟩ | ⟨z',w',h1,h2,h3⟩
    ·cases h1
    ·cases h1;rw[fz h2 (aA (aA (mw l w' g (ve w' h3))))]
def uL sT aeP(hs:aG6 b:=by intro _ _;rfl):z3 xu a b (cD f_ da db):=V0 (a0J (a2z hu) ha.out hb.out hs) _ _ _ h (amu h)
noncomputable abbrev Nq:=bu->aS->Res eL
noncomputable abbrev amS:cz->aM->eL->cO eL:=λ_ _ x v=>v=x
structure aeJ wM(e:agD)(d:Nq):Prop where
 out:Dq X e (Wx amS d)
def Dq.imp{e:agD}{t t':TO}(h:Dq X e t)ZE:Dq X e t':=XJ s H Q I s H Q I (i σ H Q hw)
abbrev akr:Nq:=cK M (.ok none M)
abbrev yv lH:Nq:=kY (c8).bind (match x with
 |η i=>.ok WU aa
 |_=>aE)
def aC4:aeJ X aJ none akr:=⟨by
 rw[QV (Dq.imp aW5 (OP H Q h)) ι S M ρ ao sl w h]
 exact ve none rfl⟩
def hZ(h:akh):aeJ X aJ (some e) (yv d):=⟨by
 rw[Qq (Dq.imp (aW6 h.out) (OP H Q h)) S M w h ⟨ι,S,M,ρ,ao,sl,xJ⟩];cases x with
 |int i=>rw[bC i Qj (Al rfl)]
 |_=>rw[nq]⟩
abbrev SM Gz Kg:dY:=(Ť Ja).take (Vw hi-Ja)
def bx.SM jz pD(r:gg)Kg:p8 (L7 lo hi) (JM vs lo hi):=by
 unfold L2.SM JM;rw[gh r.length ((r.drop _).take _)]
abbrev yG l9 l_ Kg cT:ng:=match x with
 |aV xs=>if Ja=0/\aiO (Vw hi) then aE else .ok (aV (L7 lo hi)) M
 |x=>match CO with
  |jl=>yb (L7 lo hi)
  |none=>aE
abbrev a2A dg l9:V->eL->eL->aM->jA:=λx lo hi H Q=>∃E ι S M p,rt/\zT p x/\E7 (yG live p lo hi M)
def Ga.imp aJ6(i:∀x lo hi H Q,r' x lo hi H Q->r x lo hi H Q):Ga X r':=λpins s σ H x v vl vu lo hi sl Q I rx hs pl pu q=>h pins s σ H x v vl vu lo hi sl Q I rx hs pl pu (i _ _ _ _ _ q)
def a2B l9:Ga X (a2A X.K live):=(aW9.or aYX).imp λx lo hi H Q h=>by
 obtain⟨E,ι,S,M,p,ao,px,w⟩:=h
 rw[Iw lists (∀dH,lQ p=jl->ef X.K LQ E ι S H Q (yb (L7 lo hi))->axH X.K x lo hi H Q) (λ{xs} h1 w=>by
  rw[Fx l e1 r1 ao px h1];rw[EB w1 w2 (YC ao (r1.SM lo hi) w) (W? l (.of e1) w2)]) other ((yG live p lo hi M=match lQ p with | jl=>yb (L7 lo hi) | none=>aE)->axH X.K x lo hi H Q) e (by
  rw[e]at w;cases h1:lQ p with
  |none=>rw[p6 h1]
  |some xs=>rw[HX h1 (lists h1 w)])]
 cases p with
 |tup xs=>
  right;rw[ě yG];split at w
  ·rw[cj]
  ·rw[ID];rw[Fw l e1 r1 px];rw[OX (tY l vs (.of (uZ e1)) (by rw[b! r1.length hc]) (Mh p)) s2 e2 (agA (aV (JM vs lo hi)) hp) _ _ _ _ e2 s2 (ÿ p _ h! ((r1.SM lo hi).mono e2))]
 |_=>exact aq (other rfl)
abbrev ad3 l9(da:br)(dl X5:Nq):br:=ahC (da ρ M).bind (dl ρ aa).bind lo ((X5 ρ M2).bind λhi bJ=>yG live x lo hi bJ)
def aDe l9{lo hi:agD}{dl X5:Nq}{p2:Pos}ZZ(hl:aeJ X aJ lo dl)(hh:aeJ X aJ hi X5):z3 xu e (.Slice lo hi none p2) (ad3 live d dl X5):=⟨by
 rw[z? (aVz (a2B live) he.out hl.out hh.out)];refine⟨ι1,aW,aa,ρ,s1,gi,ef.bind (c7:=amS) w1 λι2 cN M2 H2 l l' e2 s2 r2 w2=>?_⟩;cases r2;refine⟨ι2,cN,M2,ρ,s2,aac,ef.bind (c7:=amS) w2 λι3 uE bJ H3 h h' e3 s3 qU w3=>?_⟩;cases qU
 exact⟨_,ι3,uE,bJ,x,s3,Uv ō,w3⟩⟩
abbrev Di l_ cT:ng:=match x with
 |ο n=>match M[n]? with
  |gY=>.ok (ς xs) (K! tM)
  |_=>.ok x M
 |x=>.ok x M
abbrev Fm lH:br:=kY (c8).bind (Di x aa)
def adE(h:akh):jg e (Fm d):=⟨by
 rw[K8 h.out hh hh S M xJ];have keep:ef X.K LQ (aJ σ) ι1 aW H1 Q (.ok x aa)->Q v H1:=λw=>w ι1 aW H1 v nk s1 r1;cases x with
 |obj n=>
  simp only[Di]at w1;cases eM:aa[n]? with
  |none=>rw[bV eM w1 (keep w1)]
  |some o=>
   rw[eM]at w1;cases o with
   |lst xs=>
    rw[eS p ei (aQ.FD.mp r1)];rw[QK S' s2 e2 r2 (s1.freeze ei eM) (w1 _ _ _ _ e2 s2 r2)]
   |_=>exact keep w1
 |_=>exact keep w1⟩
noncomputable abbrev D1:=dY->aS->ng
abbrev aO6 dg(f:D1):cH->aM->jA:=λvs H Q=>∃E ι S M xs,rt/\gg/\E7 (f xs M)
def Yj.imp{f:Value}aJB(i:∀xs H Q,r' xs H Q->r xs H Q):Yj X f r':=λpins s σ H xs us Q I rs q=>h pins s σ H xs us Q I rs (i _ _ _ q)
abbrev ay(f:D1)Kp:br:=Cu (vQ).bind xs (f xs aa)
def aGI{f:D1}j? yQ pB(h:yz K (iq K) aJ (ay f ds) σ H Q):aDN (aO6 K f) (yz K (BI K) aJ (du ds)) σ H Q:=by
 rw[IY ⟨ι,S,M,ρ,ao,sl,ef.bind (c7:=BI K) w λι1 aW aa H1 x v e1 s1 r1 w1=>?_⟩];exact⟨_,ι1,aW,aa,x,s1,r1.1,w1⟩
def abP{f:D1}d!{id:String}{p:Pos}(hc:Ar id (Ft f))(hm:atG x)(hv:Kx=d7 e! id)anB N3 N4
  TU:Fi (cU x p) (e::es) (ay f ds):=V0 (avE hc hg hm hv ha.out hn Nz he g8) _ _ _ h (aGI h)
def atJ{f:D1}d!{T:String}{p:Pos}(hc:ET (ee T) (Ft f))(hm:atG x)(hv:Kx=aoJ T)anB N3 N4
  TU:Fi (cU x p) (e::es) (ay f ds):=V0 (aT0 hc hg hm hv ha.out hn Nz he g8) _ _ _ h (aGI h)
def bx.we jz gy wR(h:bx K ι S [x] vs):∃v,vs=[v]/\jf:=by
 rw[eo v r h1 h2 h.wh];rw[XG h2 h2];exact jh v h1
def bx.awn jz Z0 wR(h:bx K ι S [x,y] vs):∃v w,vs=[v,w]/\jf/\zT y w:=by
 rw[eo v r h1 h2 h.wh];rw[eS w h3 h2.we];exact mw v w h1 h3
abbrev eW:D1:=λxs M=>match xs with
 |[x]=>match qV M x with
  |IB=>.ok (arP η) M
  |none=>match x with
   |ο n=>match M[n]? with
    |nh .ai=>.ok (asf η) M
    |_=>aE
   |_=>aE
 |_=>aE
def a3y:Ar "len" (Ft eW):=(aRd.or NA).imp λvs H Q h=>by
 rw[XF E S M r w h eW]
 match xs,r,w with
 |[],r,w=>rw[cj]
 |x::y::z,r,w=>rw[cj]
 |[x],r,w=>
  rw[eS v r1 r.we];dsimp only at w;cases e1:qV M x with
  |some ys=>
   rw[e1]at w;rw[eo p vs hq rs (au7 ao r1 e1)];refine aq (W? p hq ?_);rw[aqd IS]
  |none=>
   rw[qD e1 w w];cases x with
   |obj n=>
    rw[eS p ei (aQ.FD.mp r1)];obtain⟨o,eM,q⟩:=ao.addr ei;simp only[eM]at w;cases o with
    |ai kvs=>
     obtain⟨_,cq,aL,rk⟩:=q;refine aA (mw p cq aL ?_);rw[b! rk.length IS]
    |_=>rw[cj]
   |_=>rw[cj]
abbrev sy l9:D1:=λxs M=>match xs with
 |[x]=>match qV M x with
  |IB=>yb ys
  |none=>aE
 |_=>aE
def at4 l9:ET BF (Ft (sy live)):=aRe.imp λvs H Q h=>by
 rw[XF E S M r w h sy]
 match xs,r,w with
 |[],r,w=>rw[cj]
 |x::y::z,r,w=>rw[cj]
 |[x],r,w=>
  rw[eS v r1 r.we];dsimp only at w;cases e1:qV M x with
  |none=>rw[p6 e1]
  |some ys=>
   rw[e1]at w;rw[eo p vs hq rs (au7 ao r1 e1)];exact W? p hq (YC ao rs w).2
abbrev ami:D1:=λxs M=>match xs with
 |[x]=>match CO with
  |IB=>.ok (aV ys) M
  |none=>match x with
   |aV ys=>.ok (aV ys) M
   |_=>aE
 |_=>aE
def Hm:ET II (Ft ami):=aQ4.imp λvs H Q h=>by
 rw[XF E S M r w h ami]
 match xs,r,w with
 |[],r,w=>rw[cj]
 |x::y::z,r,w=>rw[cj]
 |[x],r,w=>
  rw[eS v r1 r.we];dsimp only at w;cases e1:CO with
  |some ys=>
   rw[e1]at w;rw[Fx p aL rs ao r1 e1];rw[OX (tQ p vs (EV (.of aL) (dz l hl))) s2 e2 (agA (aV vs) hl) _ _ _ _ e2 s2 (ÿ l _ h! (rs.mono e2))]
  |none=>
   rw[qD e1 w w];cases x with
   |tup ys=>
    rw[Fw p e q r1];exact tQ p vs (r? (.of (uZ e)) (ve _ r1))
   |_=>rw[cj]
abbrev Nk:D1:=λxs M=>match xs with
 |[η i]=>.ok (η i) M
 |[.ah b]=>.ok (η (ago b 0)) M
 |_=>aE
def Bz:ET (ee "int") (Ft Nk):=aTV.imp λvs H Q h=>by
 rw[XF E S M r w h Nk];split at w
 ·rw[eS v r1 r.we];cases Qj;exact aq (x6 IS)
 ·rw[eS v r1 r.we];cases aQ.Se.mp r1;exact aA (x6 IS)
 ·rw[cj]
abbrev amW:D1:=λxs M=>match xs with
 |[η i,η j]=>.ok (η (apL (j > i) i)) M
 |_=>aE
abbrev Te:D1:=λxs M=>match xs with
 |[η i,η j]=>.ok (η (apL (j<i) i)) M
 |_=>aE
def aTv Bc:Ar "max" (Ft amW):=(aTT hc).imp λvs H Q h=>by
 rw[XF E S M r w h amW];split at w
 ·rw[eo v u r1 r2 r.awn];cases Qj;cases aBx;exact tQ _ _ IS
 ·rw[cj]
def aFL Bc:Ar "min" (Ft Te):=(aTU hc).imp λvs H Q h=>by
 rw[XF E S M r w h Te];split at w
 ·rw[eo v u r1 r2 r.awn];cases Qj;cases aBx;exact tQ _ _ IS
 ·rw[cj]
noncomputable abbrev sL:=aj->dY->aS->ng
abbrev a41 dg(f:sL):V->cH->aM->jA:=λv vs H Q=>∃E ι S M x xs,rt/\jf/\gg/\E7 (f x xs M)
def ur.imp{id:String}{r r':V->cH->aM->jA}(h:ur X id r)(i:∀x xs H Q,r' x xs H Q->r x xs H Q):ur X id r':=λpins s σ H x xs v us Q I rx rs q=>h pins s σ H x xs v us Q I rx rs (i _ _ _ _ q)
abbrev fI(f:sL)(mf:br)Kp:br:=kY (D0 M).bind (match Yn aa x with
 |vo=>qz (U? aa).bind xs (f x xs M2)
 |none=>aE)
def acJ{f:sL}{name:Str}aKo anG aJH(ha:XV (e::es))
  anC
  aI5
  ZF aKh:
  Vo asE (e::es) dt (fI f mf ds):=⟨by
 rw[z? (a0K PySem.F.plainAttrs_list slot ani hm ho.out ha.out Ju Qr Sz hs Bn)];cases e2:Yn aa x with
 |none=>rw[WI]
 |some ys=>
  rw[e2]at w1
  rw[Fx p aL rs s1 r1 e2];refine⟨aq ⟨rfl,vs,.of aL⟩,ι1,aW,aa,ρ,s1,gi,ef.bind (c7:=BI X.K) w1 λι2 cN M2 H2 xs us e3 s2 r2 w2=>?_⟩
  exact⟨_,ι2,cN,M2,x,xs,s2,Uv e3,r2.1,w2⟩⟩
def aGA{f:sL}{name:Str}aKo anG aJH
  anC ZF:Vo asE [] dt (fI f mf []):=⟨by
 rw[z? (aYZ PySem.F.plainAttrs_list slot ani hm ho.out Ju Sz)];cases e2:Yn aa x with
 |none=>rw[WI]
 |some ys=>
  rw[e2]at w1
  rw[Fx p aL rs s1 r1 e2]
  rw[b7 (aq ⟨rfl,vs,.of aL⟩) ⟨_,ι1,aW,aa,x,[],s1,r1,cW,w1⟩]⟩
abbrev jP l_ cT(k:Rt dY ng):ng:=match x with
 |ο n=>match M[n]? with
  |gY=>k n xs
  |_=>aE
 |_=>aE
def adl j? Bm{ι:cz}anA uH pB{k:Rt dY ng}Gm(w:E7 (jP x M k)):
  ∃n p xs vs,v=Δ p/\P! ι p/\aby n/\H p=W9/\X0 p/\gg/\E7 (k n xs):=by
 cases x with
 |obj n=>
  rw[XH p ei r o q ei jP w];cases o with
  |lst xs=>
   rw[vG hS vs aL rs q ⟨n,p,xs,vs,rfl,ei,eM,aL,hS,rs,w⟩]
  |_=>rw[cj]
 |_=>rw[cj]
def YR yS bf uJ{ys:dY}{us:cH}ZY aKB(r:p8 ys us):zV S (Qt n ys) (pJ p us)/\EJ S (pJ p us):=
 ao.put hi hS ⟨hS,us,h!,r⟩
abbrev p!:sL:=λx as M=>match as with
 |[y]=>jP x M λn xs=>Ms (aiR lim) .ok .bb (sf n (xs++[y]))
 |_=>aE
def aOS:ur X "list.append" (Ky p!):=è r aG7 aFG v vs H Q h (by
 rw[EL x xs r rs p!];split at w
 ·rw[eS u r1 rs.we];obtain⟨n,p,ys,us,rfl,hi,eM,aL,hS,rr,w⟩:=adl ao r w;split at w
  ·rw[K_];rw[OX ⟨p,us,u,rfl,rfl,aL,by rw[b! rr.length (adW hl)],?_⟩ sp ep (YR ao hi hS (rr.append (.one r1))) ι S _ _ ep sp Vu]
  ·rw[cj]
 ·rw[cj])
abbrev alJ:sL:=λx as M=>match as with
 |[y]=>jP x M λn xs=>match lQ y with
  |IB=>Ms (aBq≤lim) .ok .bb (sf n (xs++ys))
  |none=>aE
 |_=>aE
def aSq:ur X "list.extend" (Ky alJ):=è r aG8 Nw v vs H Q h (by
 rw[EL x xs r rs alJ];split at w
 ·rw[eS u r1 rs.we];obtain⟨n,p,ys,us,rfl,hi,eM,aL,hS,rr,w⟩:=adl ao r w;split at w
  ·rename_i zs hz;rw[eo b ws eb rb (aku ao r1 hz)];split at w
   ·rw[K_];rw[OX ⟨p,b,us,ws,rfl,rfl,aL,eb,by rw[LL rr.length rb.length (alv hl)],?_⟩ sp ep (YR ao hi hS (rr.append rb)) ι S _ _ ep sp Vu]
   ·rw[cj]
  ·rw[cj]
 ·rw[cj])
abbrev aes:sL:=λx as M=>match as with
 |[]=>jP x M λn xs=>match xs[(Lk 1)]? with
  |zg=>.ok y (Qt n xs.dropLast)
  |none=>aE
 |_=>aE
def aWS:ur X "list.pop" (Ky aes):=è r aNF aY1 v vs H Q h (by
 rw[EL x xs r rs aes];split at w
 ·rw[XG rs rs];obtain⟨n,p,ys,us,rfl,hi,eM,aL,hS,rr,w⟩:=adl ao r w;split at w
  ·rename_i y hy;rw[ģ z h2 (rr.get hy)];rw[rr.length]at h1;rw[OX ⟨p,us,z,rfl,rfl,aL,h1,?_⟩ sp ep (YR ao hi hS rr.dropLast) ι S _ _ ep sp h2]
  ·rw[cj]
 ·rw[cj])
universe zE
universe L2
universe zE
section
namespace L2
open PySem PySem.Spec PyProof.Rows
inductive Out where
 |nx Bj cT
 |fk l_ cT
 |lX Bj cT
 |ct Bj cT
 |exc Gw Bj cT
 |bad
noncomputable abbrev cM:=bu->aS->Out
abbrev qb dg T3 an4(D:Ends):DT
 |.nx ρ M=>∀ι' S' H' σ',r_->MG M->u5 ι' S' ρ σ'->D.nx σ' H'
 |.lX ρ M=>∀ι' S' H' σ',r_->MG M->u5 ι' S' ρ σ'->D.lX σ' H'
 |.ct ρ M=>∀ι' S' H' σ',r_->MG M->u5 ι' S' ρ σ'->D.ct σ' H'
 |bG c ρ M=>∀ι' S' H' σ',r_->MG M->u5 ι' S' ρ σ'->aJ σ' (Δ c) none H'
 |.fk x M=>∀ι' S' H' v,r_->MG M->aQ K ι' S' x v->D.fk v H'
 |aE=>False
def qb.up j? T4{ι ι':cz}{S H S' H':aM}{D:Ends}{o:Out}(h:qb K aJ ι S H D o)(e:r_):qb K aJ ι' S' H' D o:=by
 cases o with
 |nx ρ M=>exact Xo l1 (h ι1 aW H1 σ1 Vf s1 l1)
 |lX ρ M=>exact Xo l1 (h ι1 aW H1 σ1 Vf s1 l1)
 |ct ρ M=>exact Xo l1 (h ι1 aW H1 σ1 Vf s1 l1)
 |exc c ρ M=>exact Xo l1 (h ι1 aW H1 σ1 Vf s1 l1)
 |fk x M=>exact Ų v l1 (h ι1 aW H1 v Vf s1 l1)
 |bad=>exact h
abbrev adg dg T3(d:cM):m5:=λD σ H=>∃ι S M ρ,rt/\BY/\qb K aJ ι S H D c8
structure axy wM(st:Stmt)(d:cM):Prop where
 out:n7 X st (adg X.K aJ d)
structure aFU wM(st:yY)(d:cM):Prop where
 out:ux X st (adg X.K aJ d)
def n7.imp lG Gr{t t':m5}(h:n7 X st t)aKf:n7 X st t':=XJ s H D I s H D I (i D σ H hw)
def ux.imp lG{st:yY}{t t':m5}(h:ux X st t)aKf:ux X st t':=XJ s H D I s H D I (i D σ H hw)
abbrev Res.out gb(r:xQ)Bj(f:α->aS->Out):Out:=match r with
 |.ok x M=>f x M
 |bG c M=>bG c ρ M
 |aE=>aE
@[simp] def Res.oS gb{x:α}b6 ax9:(asQ x).out ρ f=f x M:=rfl
@[simp] def Res.aWT gb jT b6 ax9:(Res.exc c M:xQ).out ρ f=bG c ρ M:=rfl
@[simp] def Res.a6i gb ax9:(Res.bad:xQ).out ρ f=aE:=rfl
def qb.res sP j?{c7:cz->aM->α->cO β}T4 an5{D:Ends}ZM{r:xQ}{f:α->aS->Out}{Q:β->dW}(sl:BY)(h:qb K aJ ι S H D (r.out ρ f))
  (g:∀ι1 aW aa H1 x v,Ut S H ι1 aW H1->i? K ι1 aW aa H1->c7 ι1 aW x v->qb K aJ ι1 aW H1 D (f x aa)->Q v H1):ef K c7 (aJ σ) ι S H Q r:=by
 cases r with
 |ok x M=>exact Ų v r1 (g ι1 aW M H1 x v e1 s1 r1 (qb.up h e1))
 |exc c M=>exact λι1 aW H1 e1 s1=>h ι1 aW H1 σ e1 s1 gi
 |bad=>exact h
section
variable {X:bT}{aJ:St->d_}{a b c e o:Expr}{es:dF}{da db oU d mf:br}{ds:sV}{pos pos' apos dt:Pos}{st:Stmt}{rest:yY}{s1 s2:cM}{tc:g9}
abbrev sr:cM:=Ce M (.nx ρ M)
abbrev m7(s1 s2:cM):cM:=Ce M (match Ci M with
 |.nx ρ' M'=>s2 ρ' M'
 |o=>o)
def apE:HT X [] sr:=⟨ux.imp aXh λD σ H h=>by
 rw[zv S M w h]
 exact ve σ sl⟩
def aZI j?{D:Ends}yQ(h:adg K aJ (m7 s1 s2) D σ H):aNJ (adg K aJ s1) (adg K aJ s2) D σ H:=by
 rw[IY ⟨ι,S,M,ρ,ao,sl,?_⟩];rw[zX m7];cases q:Ci M with
 |nx ρ' M'=>
  rw[HX q (Xo l1 ⟨ι1,aW,M',ρ',s1,l1,qb.up w e1⟩)]
 |_=>rw[HX q w]
def aty(h1:ye st s1)(h2:HT X rest s2):HT X (st::rest) (m7 s1 s2):=⟨ux.imp (aUV h1.out h2.out) (j5 h (aZI h))⟩
def a3v(h1:ye st s1):HT X [st] s1:=⟨aXi h1.out⟩
abbrev mP lH:cM:=L! M (c8).out _ (.nx ρ aa)
def yg ZZ aJJ:ye (.Expr e pos) (mP d):=aaW (aXj he.out hs) D σ H h (by
 rw[IY ⟨ι,S,M,ρ,ao,sl,Xp w x v⟩]
 exact G3 σ gi)
abbrev bZ lH:cM:=L! M (c8).out x (.fk x aa)
def aZZ ZZ:ye (.Return (some e) pos) (bZ d):=aaW (aY8 he.out) D σ H h (by
 rw[IY ⟨ι,S,M,ρ,ao,sl,Xp w x v⟩]
 exact G3 v r1)
abbrev a0N:cM:=cK M (.fk .bb M)
abbrev bp(tc:g9)(s1 s2:cM):cM:=L! M (tc ρ M).out k (pT k (Ci aa) (s2 ρ aa))
def abR{xs ys:yY}(hc:E_ c tc)(h1:HT X xs s1)(h2:HT X ys s2):ye (.If c xs ys pos) (bp tc s1 s2):=aaW (a0S hc.out h1.out h2.out) D σ H h (by
 rw[IY ⟨ι,S,M,ρ,ao,sl,qb.res (c7:=A5) sl w λι1 aW aa H1 x v e1 s1 r1 w1=>?_⟩];cases r1;cases x with
 |true=>exact Nu ⟨ι1,aW,aa,ρ,s1,gi,w1⟩
 |false=>exact He ⟨ι1,aW,aa,ρ,s1,gi,w1⟩)
noncomputable abbrev qh:=aj->w5 bu bu
abbrev auY dg(g:qh):uG:=λv σ H Q=>∃ι S M ρ x ρ',rt/\BY/\jf/\cE (g x ρ) ρ'/\∀ι' S' H' σ',r_->MG M->u5 ι' S' ρ' σ'->nJ σ'
structure Zx fY(b3:Expr)(g:qh):Prop where
 out:uB X b3 (auY X.K g)
def uB.imp{b3:Expr}{t t':uG}(h:uB X b3 t)aJ3:uB X b3 t':=λpins s σ H v u Q I r hw=>h pins s σ H v u Q I r (i v σ H Q hw)
abbrev bR g!:qh:=λx ρ=>aN (D6 i)
def asD g! d! Kc aJi
  Z3:Zx X (cU x pos) (bR i):=⟨uB.imp (aXk hN hi hx hf) λv σ H Q h=>by
 obtain⟨ι,S,M,ρ,x,ρ',ao,sl,r,e,k⟩:=h;cases e
 exact k ι S H _ nk ao (sl.set r i)⟩
noncomputable abbrev NR:=dY->w5 bu bu
abbrev a2C dg(g:NR):J0:=λvs σ H Q=>∃ι S M ρ xs ρ',rt/\BY/\gg/\cE (g xs ρ) ρ'/\∀ι' S' H' σ',r_->MG M->u5 ι' S' ρ' σ'->nJ σ'
structure am4 fY(ts:dF)(g:NR):Prop where
 out:Gd X ts (a2C X.K g)
def Gd.imp{ts:dF}{t t':J0}(h:Gd X ts t)aJ3:Gd X ts t':=λpins s σ H v u Q I r hw=>h pins s σ H v u Q I r (i v σ H Q hw)
abbrev aO2:NR:=λxs ρ=>match xs with
 |[]=>some ρ
 |_=>none
abbrev qP(g:qh)(gs:NR):NR:=λxs ρ=>match xs with
 |x::r=>(g x ρ).bind (gs r)
 |[]=>none
def FH:am4 X [] aO2:=⟨Gd.imp aXl λvs σ H Q h=>by
 obtain⟨ι,S,M,ρ,xs,ρ',ao,sl,r,e,k⟩:=h;cases xs with
 |nil=>
  rw[bx]at r;cases e;rw[b7 r (k ι S H _ nk ao sl)]
 |cons x xs=>cases e⟩
def v3{g:qh}{gs:NR}(h1:Zx X e g)(h2:am4 X es gs)aJj:am4 X (e::es) (qP g gs):=⟨Gd.imp (aUW h1.out h2.out hs) λvs σ H Q h=>by
  obtain⟨ι,S,M,ρ,xs,ρ',ao,sl,r,e,k⟩:=h;cases xs with
  |nil=>cases e
  |cons x xs=>
   rw[eo v vr r1 r2 r.wh];have e:cE ((g x ρ).bind (gs xs)) ρ':=e;cases e1:g x ρ with
   |none=>rw[e1]at e;cases e
   |some ρ1=>
    rw[e1]at e;refine⟨v,vr,rfl,ι,S,M,ρ,x,ρ1,ao,sl,r1,e1,λι1 aW H1 σ1 aOh s1 l1=>?_⟩
    exact⟨ι1,aW,M,ρ1,xs,ρ',s1,l1,r2.mono aOh,e,λι2 cN H2 σ2 TT s2 l2=>k ι2 cN H2 σ2 (aOh.trans TT) s2 l2⟩⟩
abbrev ud dS(gs:NR):qh:=λx ρ=>match x with
 |aV xs=>vE xs.length n (gs xs ρ) none
 |_=>none
def aO3 dU{gs:NR}bf Bc(h:am4 X es gs)aJd:Zx X (L? es k pos) (ud n gs):=⟨uB.imp (aY9 hc h.out hn uv) λv σ H Q h=>by
  obtain⟨ι,S,M,ρ,x,ρ',ao,sl,r,e,k⟩:=h;cases x with
  |tup xs=>
   simp only[ud]at e;split at e
   ·rw[K_];rw[Fw p ic rs r];exact⟨p,vs,rfl,.of (uZ ic),by rw[aqd hl],ι,S,M,ρ,xs,ρ',ao,sl,rs,e,k⟩
   ·cases e
  |_=>cases e⟩
abbrev lW g! lH:cM:=L! M (c8).out x (.nx (D6 i) aa)
def ba g! d! Kc ZZ aJi aJ8
  Z3:ye (CJ [cU x pos'] e pos) (lW i d):=aaW (aZb hN hi hx he.out hs hf) D σ H h (by
 rw[IY ⟨ι,S,M,ρ,ao,sl,Xp w x v⟩]
 exact Al ((gi).set r1 i))
abbrev JN lH(g:qh):cM:=L! M (c8).out x (match g x ρ with
 |some ρ'=>.nx ρ' aa
 |none=>aE)
def adR{b3:Expr}{g:qh}ZZ(hg:Zx X b3 g)aJf
  aJ0:ye (CJ [b3] e pos) (JN d g):=aaW (aHI he.out hg.out hs hw h1) D σ H h (by
 rw[IY ⟨ι,S,M,ρ,ao,sl,Xp w x v⟩];cases e2:g x ρ with
 |none=>rw[WI]
 |some ρ'=>
  rw[e2]at w1
  exact⟨ι1,aW,aa,ρ,x,ρ',s1,gi,r1,e2,w1⟩)
universe zE
universe L2
universe zE
end
mutual
section
namespace L2
open PySem PySem.Spec PyProof.Rows
noncomputable abbrev q3:=Qg (Nat×dm)
abbrev sF(w:q3)cT:Prop:=match w with
 |none=>True
 |LM o=>abE M
@[simp] def a6c b6:sF none M:=trivial
@[simp] def a6d bf uK b6:sF (LM o) M↔abE M:=Iff.rfl
abbrev Walks dg(J:It)Gz(w:q3)aoc:Prop:=
 ∀g! ι' S' M' H',Qh S->US->P? w →
  (∀x,Ai->J.go i H'/\∀v H2,J.avh i H' v H2->∃ι2 cN,Ext ι' S' H' ι2 cN H2/\i? K ι2 cN M' H2/\aQ K ι2 cN x v)/\(Q5 i->asL H')
noncomputable abbrev n0:=bu->aS->Res (dY×q3)
noncomputable abbrev amR dg:cz->aM->(dY×q3)->cO It:=λι S r J=>ai4 K J r.1 r.2 S
structure Zy wM(b3 iter:Expr)(d:n0):Prop where
 out:aaj X b3 (Wx (amR X.K) d)
def JQ.imp lG{b3 iter:Expr}{t t':TI}(h:aaj X b3 t)(i:∀σ H R,t' σ H R->t σ H R):aaj X b3 t':=XJ s H R I s H R I (i σ H R hw)
section
variable {X:bT}{aJ:St->d_}{a b c e o:Expr}{es:dF}{da db oU d mf:br}{ds:sV}{pos pos' apos dt:Pos}{st:Stmt}{rest:yY}{s1 s2:cM}{tc:g9}{b3 iter:Expr}{eO:n0}{g:qh}
abbrev dc lH:n0:=kY (c8).bind (match x with
 |ς xs=>.ok (xs,none) aa
 |ο n=>match aa[n]? with
  |gY=>.ok (xs,ajG xs) aa
  |_=>aE
 |_=>aE)
def aEV jz uJ dH{w:q3}(h:∀ι' S' M' H',Qh S->US->P? w->∃vs,iw K H' p vs/\Æ K):ai4 K (awB K p) xs w S:=by
 intro i ι' S' M' H' up ao hc;rw[KC vs hq rs (h ι' S' M' H' up ao hc) (dz x hx) (λhl=>⟨vs,hq,by rw[aqd hl]⟩)];rw[KC v hv r (rs.get hx) ⟨vs,v,hq,hv⟩ (cP u H2 y)];rw[Qm y y];rw[rV (y vs hq) hv];cases this;exact⟨ι',S',nk,ao,r⟩
def lY(h:IJ iter):aam X aJ b3 (dc d):=⟨by
 rw[ß (aXm h.out) σ H R hh S M w hh ⟨ι,S,M,ρ,ao,sl,xJ⟩];cases x with
 |lst xs=>
  rw[Å p vs ic rs r1];refine aiW p (.of (ai5 _ ic)) (aEV (abe cN M2 H2 up s2 _));rw[bC vs (.of (s2.sub _ _ (We _ ic))) (rs.up up)]
 |obj n=>
  rw[eS p ei (aQ.FD.mp r1)];obtain⟨o,eM,q⟩:=s1.addr ei;simp only[eM]at w1;cases o with
  |lst xs=>
   rw[aga aL rs q];refine aiW p (.of aL) (aEV (abe cN M2 H2 up s2 hc));obtain⟨_,alD,Hn,NS⟩:=s2.ob n p _ (up.ix _ _ ei) hc;rw[bC alD (.of Hn) NS]
  |_=>rw[nq]
 |_=>rw[nq]⟩
abbrev Yi lH:n0:=kY (c8).bind (match x with
 |aV xs=>.ok (xs,none) aa
 |_=>aE)
def awF(h:IJ iter):aam X aJ b3 (Yi d):=⟨by
 rw[ß (aZc h.out) σ H R hh S M w hh ⟨ι,S,M,ρ,ao,sl,xJ⟩];cases x with
 |tup xs=>
  rw[Fw p ic rs r1];refine aiW p (.of (ai5 _ ic)) (λi ι2 cN M2 H2 up s2 _=>?_);rw[Cg hq (F5 X.K H2 p vs) (.of (s2.sub _ _ (We _ ic))) NS (rs.up up)];rw[RT x hx (λhl=>⟨vs,hq,by rw[b! NS.length hl]⟩)];rw[KC v hv r (NS.get hx) ⟨vs,v,hq,hv⟩ (cP u H3 y)];rw[Qm y y];rw[rV (y vs hq) hv];cases this;exact⟨ι2,cN,nk,s2,r⟩
 |_=>rw[nq]⟩
abbrev q6 aoj:dY:=(DZ).map fun(k:Nat)=>η (lo+aY k)
def aTw jz aoj:ai4 K (amq lo n) (q6 lo n) none S:=by
 intro i ι' S' M' H' up ao _;rw[RT x hx (λhl=>by(have hl:n≤i:=UG q6 hl);exact hl)];rw[Ct q6 hx eX hx];by_cases hi:i<n
 ·rw[List.getElem?_range hi]at hx;cases hx;rw[Lc hi v H2 y];rw[Vz rfl y ⟨ι',S',nk,ao,EF⟩]
 ·rw[EC W8]at hx;cases hx
abbrev o3 Kp:n0:=Cu (vQ).bind xs (match xs with
 |[η j]=>Ms (-(2 ^ 62)≤j/\j<2 ^ 62) .ok (q6 0 j.toNat,none) aa
 |_=>aE)
def aOW{p:Pos}(hm:asv "range")(ha:XV [a])(hg:Nt X "range" :=by rfl)anD:Zy X aJ b3 (uQ (cU "range" p) [a] [] pos) (o3 ds):=⟨by
 rw[ß (aTR hg hm ha.out hs) σ H R hh S M w hh ⟨ι,S,M,ρ,ao,sl,ef.bind (c7:=BI X.K) w λι1 aW aa H1 xs vs e1 s1 r1 w1=>?_⟩];split at w1
 ·rename_i j;rw[eS v r2 r1.1.we];cases aBx;split at w1
  ·rename_i hb;exact Fp j hb.1 hb.2 (Al (aTw 0 _))
  ·rw[nq]
 ·rw[nq]⟩
open Classical in
noncomputable def ug(w:q3)(g:qh)(s1:cM):dY->bu->aS->Out
 |[],ρ,M=>.nx ρ M
 |x::xs,ρ,M=>match g x ρ with
  |none=>aE
  |à=>match s1 ρ1 M with
   |.nx ρ' M'=>aip w M' (ug w g s1 xs ρ' M')
   |.ct ρ' M'=>aip w M' (ug w g s1 xs ρ' M')
   |.lX ρ' M'=>.nx ρ' M'
   |.fk x M'=>.fk x M'
   |bG c ρ' M'=>bG c ρ' M'
   |aE=>aE
abbrev ig(eO:n0)(g:qh)(s1:cM):cM:=Ce M ((GL M).out ρ λr aa=>open Classical in aip r.2 aa (ug r.2 g s1 r.1 ρ aa))
def ej{body:yY}aJ2(hi:aam X aJ b3 eO)(hg:Zx X b3 g)(hb:HT X body s1)Z6:
  ye (.For b3 iter body [] pos) (ig eO g s1):=⟨by
 rw[WM (aZd hp hc hi.out hg.out hb.out hs) D H h S M w h ⟨ι,S,M,ρ,ao,sl,qb.res (c7:=amR X.K) sl w λι1 aW aa H1 r J e1 aet SW w1=>?_⟩];rw[apb xs wt r SW w1];split at w1
 ·rw[asz hc1 ⟨λi m σ' H'=>m=Lk i/\asa i/\∃ι' S' M' ρ',Ext ι1 aW H1 ι' S' H'/\i? X.K ι' S' M' H'/\Slots X.K ι' S' ρ' σ'/\P? wt/\qb X.K aJ ι1 aW H1 D (ug wt g s1 (xs.drop i) ρ' M'),
   ⟨xs.length,Ξ,HC,ι1,aW,aa,ρ,nk,aet,gi,hc1,bh w1⟩,?_⟩]
  rintro i m σ' H' ⟨rfl,hi',ι',S',M',ρ',ex,nY,A2,hck,ww⟩;obtain⟨aEj,aEk⟩:=SW i ι' S' M' H' ex.toUp nY hck
  by_cases fK:I1
  ·right;obtain⟨go,wB⟩:=aEj xs[i] azI;rw[aLu,ug]at ww;refine⟨go,ny σ2 (∃ι' S' M' ρ',Ext ι1 aW H1 ι' S' H2/\i? X.K ι' S' M' H2/\Slots X.K ι' S' ρ' σ2/\P? wt/\qb X.K aJ ι1 aW H1 D (ug wt g s1 (Ť (i+1)) ρ' M')),λσ2 H2 q=>mw (Lk (i+1)) av fK q,cP v H2 y⟩;obtain⟨ι2,cN,TT,axV,r2⟩:=wB v H2 y;cases Fz:g xs[i] ρ' with
   |none=>rw[bV Fz ww ww.elim]
   |some ρ1=>
    rw[Fz]at ww;refine⟨ι2,cN,M',ρ',xs[i],ρ1,axV,A2.mono TT,r2,Fz,Ph ι3 uE H3 σ3 aCD axW A4⟩;refine⟨ι3,uE,M',ρ1,axW,A4,?_⟩;have aVn:=ex.trans (TT.trans aCD);dsimp only at ww;cases eb:s1 ρ1 M' with
    |nx ρ4 lE=>
     rw[qD eb ww ww];split at ww
     ·rename_i hc4;exact λι4 wJ H4 σ4 F! AU JT=>⟨ι4,wJ,lE,ρ4,agF,AU,JT,hc4,ww⟩
     ·rw[arS]
    |ct ρ4 lE=>
     rw[qD eb ww ww];split at ww
     ·rename_i hc4;exact λι4 wJ H4 σ4 F! AU JT=>⟨ι4,wJ,lE,ρ4,agF,AU,JT,hc4,ww⟩
     ·rw[arS]
    |lX ρ4 lE=>
     rw[bV eb ww (λι4 wJ H4 σ4 F! AU JT=>ww ι4 wJ H4 σ4 agF AU JT)]
    |fk x lE=>
     rw[bV eb ww (λι4 wJ H4 σ4 F! AU JT=>ww ι4 wJ H4 σ4 agF AU JT)]
    |exc c ρ4 lE=>
     rw[bV eb ww (λι4 wJ H4 σ4 F! AU JT=>ww ι4 wJ H4 σ4 agF AU JT)]
    |bad=>rw[bV eb ww ww.elim]
  ·left
   rw[LS e (aiO i) av e];rw[List.drop_length,ug]at ww;rw[b7 (aEk fe) (ww ι' S' H' σ' ex nY A2)]
 ·rw[nq]⟩
abbrev Res.S1 sP:xQ->(α->aS->akf)->akf
 |.ok a M,f=>f a M
 |bG _ _,_=>aE
 |aE,_=>aE
@[simp] def Res.aGa sP{a:α}b6 ZI:(asQ a).S1 f=f a M:=rfl
noncomputable abbrev F?:St->d_:=j5 _ False
abbrev F7 Od Bj:bu:=fG.map λo=>match o with
 |WU=>(ρ[i]?).join
 |none=>none
def Slots.fG jz ZM(sl:BY)Od:u5 ι S (F7 fG ρ) (Jx fG σ):=by
 rw[Lc (fQ F7 Jx) i x h];rw[nw F7];unfold Jx;rw[eX]at h⊢;cases ec:fG[i]? with
 |none=>rw[ec]at h;cases h
 |some o=>
  rw[ec]at h;cases o with
  |none=>cases h
  |some j=>
   have h':(ρ[j]?).join=gB:=Uu;cases q:ρ[j]? with
   |none=>rw[q]at h';cases h'
   |some z=>
    rw[q]at h';rw[LS h'' (z=gB) h' h''];rw[L0 v (sl.2 j x q) v (aK h1) h2]
open Classical in
noncomputable def C!(w:q3)(g:qh)(tc:g9)lH:dY->bu->aS->dY->Res dY
 |[],_,M,acc=>.ok acc M
 |x::xs,ρ,M,acc=>match g x ρ with
  |none=>aE
  |à=>Ek (tc ρ1 M).S1 k (if aO k then qz (d ρ1 aa).S1 y (Ò (sF w M2/\acc.length<lim) (C! w g tc d xs ρ1 M2 (acc++[y])))
   else aip w aa (C! w g tc d xs ρ1 aa acc))
open Classical in
noncomputable def jo l9 Od(eO:n0)(g:qh)(tc:g9)lH:br:=Cu (GL M).bind r (if sF r.2 aa then qz (C! r.2 g tc d r.1 (F7 fG ρ) aa []).S1 ys (wu live ys M2) else aE)
structure axz fY(ifs:dF)(t:g9):Prop where
 out:á X (ņ A5 F? t)
abbrev j_:g9:=cK M (.ok true M)
def adU.imp{ifs:dF}{t t':lF}(h:á X t)ZE:á X t':=XJ s H Q I s H Q I (i σ H Q hw)
def M1:axz X [] j_:=⟨adU.imp aVa λσ H Q h=>by
 rw[zv S M w h]
 exact ve true rfl⟩
def a4z(h:aIi X F? c tc):axz X [c] tc:=⟨aVb h.out⟩
def aTx aeQ b6 Bm pB N9 pD j? uJ(h0:tU)(ex:r_)(ao:MG M)(hp:H' p=W9)(hi:p∉ι')(hS:asW p)(r:Æ K)
  (w:E7 (yb xs)):nJ (Δ p):=by
 have ne:∀b u,H b=dD->b≠p:=λb u q=>vZ q h0;rw[zX wu];split at w
 ·split at w
  ·refine w (ι'++[p]) S' H' _ ⟨MP n a h ((Up.push (S:=S') p).ix n a (ex.ix n a h)) ex.sm,?_,mH u aB aZ cy⟩ (ao.enter hi ⟨hS,vs,hp,r⟩) (Vp p (by rw[aCl]))
   ·rw[fS h1 ex.pre hl (aB5 ι'.length) (by rw[←h1];rw[fh])]
    rw[aLj hl h1]
   ·rw[nr k1 k2 k3 (ex.fr b u aB aZ cy) k1 (fQ k2 (ne b u aB)) k3]
  ·rw[vI sm (mS S' (HZ S' p vs)) (λb u q=>by rw[Jc hS]) up (Up ι' S' ι' (HZ S' p vs)) (MP _ _ h h sm) (w ι' (HZ S' p vs) H' _ ⟨⟨ex.ix,ex.sm.trans sm⟩,ex.pre,mH u aB aZ cy⟩ (Ş (uT u) ao.len ao.nd n a u) (aQ.ml.mpr (mw p vs h! (r.up up))))]
   ·rw[nr k1 k2 k3 (ex.fr b u aB aZ cy) k1 k2 (by rw[gT (ne b u aB) k3])]
   ·rw[vj (b=p)]
    ·rw[PK q];cases q;exact hp
    ·rw[bV E0 q (ao.sub b u q)]
   ·rw[PA a p z (hi (KS z h1)) ((ao.ob n a u h1 h2).up up (c9 (by rw[B9 z])) rfl)]
 ·rw[cj]
variable {scope:Scope}{N:gz}{fG:uN}{elt:Expr}{ifs:dF}
def aGJ j? N9 yQ pB(h:yz K (iq K) aJ (jo live fG eO g tc d) σ H Q):
  axd fG (yz K (amR K) aJ eO) (auY K g) (yz K A5 F? tc) (WY K F? d) σ H Q:=by
 rw[IY ⟨ι,S,M,ρ,ao,sl,ef.bind (c7:=amR K) w λι1 aW aa H1 r J e1 aet SW w1=>?_⟩];rw[apb xs wt r SW w1];split at w1
 ·rename_i hc1;intro acc aep;rw[bI a31 (aet.Y8 aep) a4d (aet.fresh aep)];rw[VA a0B a2q (aet.side (o:=ς []) aep) ⟨λi m ys σ' H'=>m=Lk i/\asa i/\∃ι' S' M' ρ' Gf,Ext ι1 aW H1 ι' S' H'/\US/\u5 ι' S' ρ' σ'/\H' acc=kQ ys/\acc∉ι'/\asW acc/\bx K ι' S' Gf ys/\P? wt ∧
    ef K (iq K) (aJ σ) ι1 aW H1 Q (qz (C! wt g tc d (xs.drop i) ρ' M' Gf).S1 ys (wu live ys M2)),
   ⟨xs.length,Ξ,HC,ι1,aW,aa,F7 fG ρ,[],a2q,a0B,(gi).fG fG,h!,a4d,a31,cW,hc1,bh w1⟩,?_⟩]
  rintro i m ys σ' H' ⟨rfl,hi',ι',S',M',ρ',Gf,ex,nY,A2,hl1,NQ,hl3,rs,hck,ww⟩;obtain⟨aEj,aEk⟩:=SW i ι' S' M' H' ex.toUp nY hck
  by_cases fK:I1
  ·right;obtain⟨go,wB⟩:=aEj xs[i] azI;rw[aLu,C!]at ww;rw[Lc go v H2 y];obtain⟨ι2,cN,TT,axV,r2⟩:=wB v H2 y;cases Fz:g xs[i] ρ' with
   |none=>rw[bV Fz ww ww.elim]
   |some ρ1=>
    rw[Fz]at ww;refine⟨ι2,cN,M',ρ',xs[i],ρ1,axV,A2.mono TT,r2,Fz,Ph ι3 uE H3 σ3 aCD axW A4⟩;have a2r:=TT.trans aCD;refine⟨ι3,uE,M',ρ1,axW,A4,?_⟩;dsimp only at ww;cases et:tc ρ1 M' with
    |exc c lE=>rw[bV et ww ww.elim]
    |bad=>rw[bV et ww ww.elim]
    |ok k lE=>
     rw[et]at ww;intro ι4 wJ H4 k' F! AU rk;cases rk;rw[bI am8 (a2r.trans F!) a2s (ex.trans am8)];rw[HP f1 f2 f3 (am8.fr acc _ hl1 NQ hl3) ww (ef K (iq K) (aJ σ) ι1 aW H1 Q (qz (if aO k then(d ρ1 lE).S1 λy M2=>open Classical in Ò (sF wt M2/\Gf.length<lim) (C! wt g tc d (Ť (i+1)) ρ1 M2 (Gf++[y])) else open Classical in aip wt lE (C! wt g tc d (Ť (i+1)) ρ1 lE Gf)).S1 ys (wu live ys M2))) ww];cases k with
     |false=>
      rw[K7 xU ww (He ⟨Lk (i+1),av,rfl,fK,ι4,wJ,lE,ρ1,Gf,a2s,AU,A4.mono F!,f1,f2,f3,rs.mono am8,?_⟩)];split at ww
      ·rename_i hc4;rw[b7 hc4 ww]
      ·rw[arS]
     |true=>
      rw[K7 gK ww (Nu ⟨ι4,wJ,lE,ρ1,AU,A4.mono F!,?_⟩)];cases ed:d ρ1 lE with
      |exc c Tp=>rw[bV ed ww ww.elim]
      |bad=>rw[bV ed ww ww.elim]
      |ok aPw Tp=>
       rw[ed]at ww;intro ι5 aV6 H5 u aOi am9 alk;rw[bI axX (am8.trans aOi) axY (ex.trans axX)];rw[HP f1 f2 f3 (axX.fr acc _ hl1 NQ hl3) ww (ef K (iq K) (aJ σ) ι1 aW H1 Q (qz (open Classical in Ò (sF wt Tp/\Gf.length<lim) (C! wt g tc d (Ť (i+1)) ρ1 Tp (Gf++[aPw]))).S1 ys (wu live ys M2))) ww];split at ww
       ·rw[asz hc5 ⟨f1,by rw[aqd (adW hc5.2)],Lk (i+1),av,rfl,fK,ι5,aV6,Tp,ρ1,Gf++[aPw],?_,?_,A4.mono (F!.trans aOi),h!,f2,f3,(rs.mono axX).append (.one alk),hc5.1,ww⟩]
        ·rw[eF axY.toUp axY.pre (mH u aB aZ cy)];rw[nr k1 k2 k3 (axY.fr b u aB aZ cy) (by rw[gT (vZ aB aep) k1]) k2 k3]
        ·refine Ş (λb v q=>by rw[gT (vZ q f3) (am9.sub b v q)]) am9.len am9.nd n a v;rw[PA a acc z (f2 (KS z h1)) ((am9.ob n a v h1 h2).up (V_ _ _ h h _) (c9 z) (uM fg))]
       ·rw[arS]
  ·left
   rw[LS e (aiO i) av e];rw[List.drop_length,C!]at ww;rw[b7 (aEk fe) (aTx aep ex nY hl1 NQ hl3 rs ww)]
 ·rw[nq]
def X9 l9 ae8(kN:aam X aJ b3 eO)
  aJm
  Z6:jg (GN elt [Qi 0] scope pos) (jo live fG eO g tc d):=V0 (aXb (g:=auY X.K g) (tt:=ņ A5 F? tc) (te:=ņ LQ F? d) co adh kN.out (λC fp s0 H0=>(hg C fp s0 H0).out) (λC fp s0 H0=>(hi C fp s0 H0).out) (λC fp s0 H0=>(he C fp s0 H0).out) hs) _ _ _ h (aGJ h)
def aOV l9 g!{y:Str}{py amQ:Pos}ae8 Kc(kN:aam X aJ b3 eO)
  aJm
  aJe
  (hy:jk X.N y:=by rfl)(hx:atF y:=by first | exact aoH | exact ayX)
  aJa
  Z6:ye (CJ [cU y py] (GN elt [Qi 0] scope pos) amQ) (lW i (jo live fG eO g tc d)):=aaW (aSo (g:=auY X.K g) (tt:=ņ A5 F? tc) (te:=ņ LQ F? d) co adh kN.out (λC fp s0 H0=>(hg C fp s0 H0).out) (λC fp s0 H0=>(hi C fp s0 H0).out) (λC fp s0 H0=>(he C fp s0 H0).out) hN hy hx hsw hf hs) D σ H h (by
  rw[zv S M w h];rw[tL (aGJ ⟨ι,S,M,ρ,ao,sl,Xp w x v⟩) (Al ((gi).set r1 i))])
universe zE
universe L2
universe zE
section
namespace L2
open PySem PySem.Spec PyProof.Rows
abbrev Ps dg Ug:uF:=λvs H Q E=>vs.length=n/\∃ι S M xs,rt/\gg/\E7 (g xs M)
abbrev Out.res:Out->ng
 |.nx _ M=>.ok .bb M
 |.fk x M=>.ok x M
 |bG c _ M=>bG c M
 |_=>aE
@[simp] def Out.aZJ o!:(Out.nx ρ M).res=.ok .bb M:=rfl
@[simp] def Out.aZK gy b6:(Out.fk x M).res=.ok x M:=rfl
@[simp] def Out.aXG jT o!:(Out.exc c ρ M).res=bG c M:=rfl
abbrev AH dS(d:cM):D1:=λxs M=>(d (asI (atu n)) M).res
section
variable {P:Program}{w:World}{K:eY}{mg:Str->fO}{base:Heap}
def aRT Ke pD{N:gz}(r:gg):u5 ι S (asI (atu N.length)) (aiZ N):=by
 unfold start;have hl:=r.length;rw[Lc (aK hl) i x h];by_cases hi:I1
 ·rw[UK W8,eX]at h;rw[UK (by simpa[←hl] using hi),eX];cases e:xs[i]? with
  |none=>rw[e]at h;cases h
  |some y=>
   rw[e]at h;cases h;rw[L0 v (r.get e) v (by rw[h1];rfl) h2]
 ·rw[apz W8]at h;rw[List.getElem?_replicate]at h;split at h<;>cases h
def amj ayH anz N? dU{d:cM}aKs afi
  (hb:∀(fW:Value)T5,sZ (Z_ qual f) →
   Z7 (Ku qual) (λ_=>E) d):
  qT P w K mg base (lA P w) (k+1) f fd ps (Ps K ps.length (LC d)):=by
 obtain⟨oc,od,kV,doc,pm,an,fW,ct,NK,rfl,lk,PQ⟩:=F.ex;refine a03 lk PQ S (λvs H Q E h=>h.1) λA outer s H vs Q E hr NL=>⟨_,(hb fW A outer s H E hr).out,?_⟩;obtain⟨hl,ι,S',M,xs,ao,r,w'⟩:=NL;refine⟨ι,S',M,_,ao,aRT r,?_⟩;unfold AH at w';cases q:d (asI (atu N.length)) M with
 |nx ρ M'=>rw[bV q w' (Xo _ (w' ι1 aW H1 .bb e1 s1 Vu))]
 |fk y M'=>rw[bV q w' (Ų v r1 (w' ι1 aW H1 v e1 s1 r1))]
 |exc c ρ M'=>rw[bV q w' (Xo _ (w' ι1 aW H1 e1 s1))]
 |lX ρ M'=>rw[bV q w' w'.elim]
 |ct ρ M'=>rw[bV q w' w'.elim]
 |bad=>rw[bV q w' w'.elim]
abbrev dm.jv dS:tO dm
 |tM=>true
 |ς xs=>asP n
 |.ai kvs=>agd kv n kv.2
 |.o6 kvs=>agd kv n kv.2
 |.bD kvs=>agd kv n kv.2
 |cQ _ fs=>fs.all λkv=>aj.jv n kv.2
 |bG _=>true
def dA.jv o? Ke Gq:gJ (agd kv ι.length kv.2):=by
 induction h with
 |nil=>rfl
 |cons r t ih=>rw[List.all_cons,ih,aQ.jv _ _ r.2];rfl
def dA.cut o? Ke bf Gq(hb:gJ (agd kv n kv.2)):dA K ar4 S kvs cq:=by
 induction h with
 |nil=>rw[s8]
 |cons r t ih=>
  rw[Qv List.all_cons hb];exact bN ⟨r.1,aQ.cut _ _ hb.1 r.2⟩ (ih hb.2)
def yw.jv an5 iB aog:aO (o.jv ι.length):=by
 cases o with
 |gone=>rfl
 |lst xs=>obtain⟨_,vs,_,r⟩:=h;exact bx.yx _ _ r
 |ai kvs=>obtain⟨_,vs,_,r⟩:=h;exact r.jv
 |o6 kvs=>obtain⟨_,vs,_,r⟩:=h;exact r.jv
 |bD kvs=>obtain⟨_,_,_,_,r⟩:=h;exact r.jv
 |ins C fs=>obtain⟨_,dx,vs,_,r⟩:=h;exact r.jv
 |exc C=>rfl
def yw.cut an5 iB uK bf(h:XW a)(hb:aO (o.jv n)):yw K ar4 S H a o:=by
 cases o with
 |gone=>exact h
 |lst xs=>rw[CW e z e (bx.cut _ _ hb r)]
 |ai kvs=>rw[CW e z e asR]
 |o6 kvs=>rw[CW e z e asR]
 |bD kvs=>rw[Ig ob z e h ob z e asR]
 |ins C fs=>rw[B0 z dx vs e h z dx vs e asR]
 |exc C=>exact h
open Classical in
noncomputable def F8 cT:ng->ng
 |.ok x M'=>By (agN=M/\arv x) .ok x aE
 |bG c M'=>By (agN=M) bG c aE
 |aE=>aE
abbrev trunc c6:D1:=λxs M=>F8 M (g xs M)
def aGK{M M':aS}gy(h:agN=M)(hb:arv x):F8 M (.ok x M')=.ok x M:=by rw[rP F8 (if_pos ⟨h,hb⟩)]
def aU6{M M':aS}jT(h:agN=M):F8 M (bG c M')=bG c M:=by rw[rP F8 Lm]
@[simp] def a54 b6 gy(hb:arv x):F8 M (.ok x M)=.ok x M:=aGK List.take_length hb
@[simp] def a56 b6 jT:F8 M (bG c M)=bG c M:=aU6 List.take_length
@[simp] def a57 b6:F8 M aE=aE:=rfl
def aGL aeQ{M M':aS}ZY(nY:US)(ex:r_)(h:agN=M):zV S' M H'/\EJ S' H':=by
 rw[fy (Ş nY.sub ao.len ao.nd n a o) ⟨MP _ _ h h ex.sm,List.take_length,mH u aB aZ cy⟩]
 ·rw[bq hn (rE n) ay0.1 h2' (abE M') (by rw[←h,List.getElem?_take_of_lt hn]at h2;exact h2)]
  rw[bI m1 (nY.ob n a o (ex.ix n a h1) h2') m2 (ao.ob n a o h1 h2).jv];have:=m1.cut m2
  rw[bV ex.pre this this]
 ·rw[nr k1 k2 k3 (ex.fr b u aB aZ cy) k1 aZ k3]
def aTy bf Bo wR iV pB Bm(h:Ps K n (trunc g) vs H Q E):Ps K n g vs H Q E:=by
 obtain⟨hl,ι,S,M,xs,ao,r,w'⟩:=h;refine⟨hl,ι,S,M,xs,ao,r,?_⟩;unfold trunc at w';cases q:g xs M with
 |bad=>rw[bV q w' w']
 |ok x M'=>
  rw[q]at w';simp only[F8]at w';split at w'
  ·rw[ID];intro ι1 aW H1 v e1 s1 r1;rw[BB s2 e2 (aGL ao s1 e1 hc.1) (w' ι aW H1 v e2 s2 ?_)];have:=aQ.cut (n:=M.length) x v hc.2 r1;rw[←ao.len,e1.pre]at this;rw[zf]
  ·exact w'.elim
 |exc c M'=>
  rw[q]at w';simp only[F8]at w';split at w'
  ·rw[ID];intro ι1 aW H1 e1 s1;rw[e8 s2 e2 (aGL ao s1 e1 hc) (w' ι aW H1 e2 s2)]
  ·exact w'.elim
universe zE
structure il DH TV pn nc Ug:Prop where
 ex:∃f fd ps,qT P w K mg base (lA P w) k f fd ps (Ps K n g)/\mg x=jF f/\UO K (Δ f)/\Ia K
section
variable {P:Program}{w:World}{K:eY}{mg:Str->fO}{base:Heap}
def il.mono ae0 d! bf Bo aJv ae1:Qe P w K mg k x n g:=by
 rw[B0 f fd ps F F.ex f fd ps Ē r]
def il.trunc dU d! bf Bo(F:Qe P w K mg k x n g):Qe P w K mg k x n (trunc g):=by
 rw[B0 f fd ps F F.ex f fd ps (F.imp λ_ _ _ _ h=>aTy h) r]
structure a3z Z5 nc anv:Prop where
 ex:∃f fd,Gb K x x st f fd/\mg x=jF f/\Ia K
def il.of d! Gr N? dU{d:cM}ayt
  (hb:∀anl T5,sZ (Z_ x f) →
   Z7 (Ku x) (λ_=>E) d):Qe P w K mg (k+1) x ps.length (LC d):=by
 rw[KQ f fd F hm hB D.ex ⟨f,fd,ps,amj F S (hb f),hm,F.kp,hB⟩]
universe zE
structure Good0 wM:Prop where
 hu:aN3
 calm:XN
 ps:aDZ (lA X.prog X.w) X aJ
 nd:X.N.Nodup
structure Good wM:Prop extends atC X where
 own:aKZ (model X.prog X.w) X.A X.qZ
def Good.ie lG T4(G:Good X aJ):atC X:=G.toGood0
def alX Kq N? an7 ans uI N8 m8 iV Bm dU ayx
  ax5:Good (sA (lA P w) P w K mg base N qual scope f cd A outer s H E) (λ_=>E):=
 ⟨rC hr.units (λpins σ H s e s' I h=>aXc pins σ H s e s' I h) S.nd,PassesOwn.leaving⟩
def ayT lG T4 T_ afa{N:gz}ql Gx m8 iV(nd:N.Nodup):Good (v! X scope N C fp s H) F?:=
 ⟨⟨G.hu,G.calm,λpins σ H s e s' I h=>by obtain⟨_,_,_,_,_,z⟩:=h;exact z.elim,nd⟩,PassesOwn.never⟩
section
variable {X:bT}{aJ:St->d_}{a b c e o:Expr}{es:dF}{da db oU d mf:br}{ds:sV}{pos pos' apos dt:Pos}{k n:Nat}{x m:Str}{g:D1}
def m6{p:Pos}(F:il X.prog X.w X.K X.mg X.base k x n g)T7 T_ anB(hn:ds.length=n:=by rfl)N4
  TU:Fi (cU x p) (e::es) (ay g ds):=⟨by
 rw[aiM f fd ps F hm hk hb];rw[K8 (aVc F hr hg hm hk hb cW G.ps ha.out Nz he g8) h h S M (ef.bind (c7:=BI X.K) w λι1 aW aa H1 xs vs e1 s1 r1 w1=>?_)];rw[gh mV ⟨by rw[←mO r1.1,r1.2,hn],ι1,aW,aa,xs,s1,r1.1,w1⟩]⟩
universe zE
noncomputable abbrev amT:cz->aM->Unit->cO Unit:=j5 _ True
abbrev nN:zQ br->bu->aS->Res Unit
 |[],_,M=>.ok () M
 |none::r,ρ,M=>nN r ρ M
 |some d::r,ρ,M=>E4 (c8).bind (match x with
  |η i=>pT (small i) (nN r ρ aa) aE
  |_=>aE)
structure Tu wM(es:dF)(ps:zQ br):Prop where
 out:∀n?(Q:Unit->dW)(acc:Str)dS,iO->yz X.K amT aJ (nN ps) σ H Q →
 asB (ps.length*2000)≤n->n≤1000000->Joins (model X.prog X.w) X.A X.qZ (agX es) acc (λout s₁=>out.length≤n/\∃H',ė s₁/\nJ ()) s
section
variable {X:bT}{aJ:St->d_}{a b c e:Expr}{es:dF}{d:br}{ds:sV}{ps:zQ br}{pos pos' dt:Pos}
def ue:Tu X aJ [] []:=⟨λpins s σ H Q acc n I h hl hn=>by
 rw[zv S M w h]
 exact⟨bh hl,H,I,ve () trivial⟩⟩
def i! d!{j}(h:Tu X aJ es ps)(hx:x.length≤2000:=by decide)(he:agX (Cw (Ω x) j pos::es)=lJ (Cw (Ω x) j pos)::agX es:=by rfl):Tu X aJ (Cw (Ω x) j pos::es) (none::ps):=⟨λpins s σ H Q acc n I hw hl hn=>by
 rw[he];rw[zE]at hl;rw[dX e1 (vR acc x=asB x.length) (strLen_append _ _) (Calls.Constant_str (tf x ?_ ?_))]
 ·rw[e1,sizeLine_eq];omega
 ·exact h.out pins _ σ H Q (acc++x) n kT hw (by rw[s7 e1]) hn⟩
def aTz iC(h:U6 i):i.natAbs.log2<1920:=by
 rw[Hx h h]
 have hn:i.natAbs<2 ^ 64:=av
 by_cases h0:i.natAbs=0
 ·rw[h0];decide
 ·exact afS ((Nat.log2_lt h0).mpr hn) aC
def yk{v:Expr}(hv:IJ v)(h:Tu X aJ es ps)(he:agX (aAw v (-1) none pos::es)=lJ (aAw v (-1) none pos)::agX es:=by rfl):Tu X aJ (aAw v (-1) none pos::es) (some d::ps):=⟨λpins s σ H Q acc n I hw hl hn=>by
 rw[he];rw[zE]at hl;rw[QV (FormattedValue_plain ?_) ι S M ρ ao sl w hw];refine mF (hv.out pins s σ H (O? x i (x=η i/\U6 i/\yz X.K amT aJ (nN ps) σ H1 Q)) I ⟨ι,S,M,ρ,ao,sl,xJ⟩) u ⟨x,H1,aF,rx,i,ex,hs,q⟩
 ·cases x with
  |int i=>
   dsimp only at w1;split at w1
   ·rename_i hs;exact⟨i,Qj,hs,ι1,aW,aa,ρ,s1,gi,w1⟩
   ·rw[nq]
  |_=>rw[nq]
 ·subst ex;rw[r3 rx];have aND:=aTz hs
  rw[vI hlen (k8 (ag4 i) 1921) (by rw[az PySem.ofString_length (int_text_length_le aC aND)]) e1 (vR acc (ag4 i)=asB (di (ag4 i))) (strLen_append _ _) (formatField_int_small aND (tf (ag4 i) ?_ ?_))]
  ·rw[e1,sizeLine_eq];omega
  ·exact h.out pins _ σ H1 Q (acc++ag4 i) n (aF.tok _) q (by rw[s7 e1]) hn⟩
def aXH aJT(h:Tu X aJ (v₁::as4) ps)(hp:Ks:=by decide):pX (.JoinedStr (v₁::as4) pos) (vm (yz X.K amT aJ (nN ps) σ H (cK H' (∀z,nJ (Ω z))))):=by
 intro pins s σ H Q I hw
 refine wpAny_JoinedStr ?_;have:=h.out pins s σ H _ Str.empty 1000000 I hw (by rw[Fj (Str.empty.length=0) rfl]) fe
 rw[dX mono (∀(parts:QS agM)(acc:Str)kP(amO amP:Str->Bt),(∀o s,amO o s->amP o s)->Joins (model X.prog X.w) X.A X.qZ parts acc amO s->Joins (model X.prog X.w) X.A X.qZ parts acc amP s) (by
  intro parts
  induction parts with
  |nil=>intro acc s amO amP hq h;exact hq _ _ h
  |cons p r ih=>
   intro acc s amO amP hq h;exact zC h v s1 y t e1 e2 e3 ⟨y,t,e1,e2,ih _ _ _ _ hq e3⟩) (mono _ _ _ _ _ (cP o s1 ⟨h1,H',aF,q⟩) this)];refine⟨by rw[aAD];omega,Ω o,H',aF.tok _,fR,q o⟩
universe zE
abbrev fV m9(ps:zQ br):cM:=L! M (nN ps ρ M).out _ (bG C ρ aa)
abbrev awG m9 Kp:cM:=L! M (vQ).out _ (bG C ρ aa)
section
variable {P:Program}{w:World}{K:eY}{mg:Str->fO}{base:Heap}{N:gz}{qual:Str}{scope:Scope}{f:Addr}{cd:Value}{A:Around}{outer:DR}{s:Shared}{H:aM}{E:d_}{x:Str}{C:Addr}{np dt pos a2t:Pos}{k:Nat}
def MV aJT{ps:zQ br}ayJ ax5(h:Tu (sA (lA P w) P w K mg base N qual scope f cd A outer s H E) (λ_=>E) (v₁::as4) ps)
  aI9(hp:Ks:=by decide)Ba:
  axy (sA (lA P w) P w K mg base N qual scope f cd A outer s H E) (λ_=>E) (.Raise (aN (uQ (cU x np) [.JoinedStr (v₁::as4) a2t] [] dt)) none pos) (fV C ps):=⟨by
 rw[WM (aF8 M hr.hd hg (SH (aXH h hp) adA) hd) D H h S M w' h ⟨ι,S,M,ρ,ao,sl,qb.res (c7:=amT) sl w' λι1 aW aa H1 x v e1 s1 r1 w1=>?_⟩];intro z
 rw[b7 (by show jB 1;rw[aqC]) (G3 σ gi)]⟩
def aU7{e₀:Expr}{rest:dF}wO ayJ ax5(h:am5 (sA (lA P w) P w K mg base N qual scope f cd A outer s H E) (λ_=>E) Qf ds)
  aI9(hn:ť 1000:=by decide)Ba
  aJo
  aKc:
  axy (sA (lA P w) P w K mg base N qual scope f cd A outer s H E) (λ_=>E) (.Raise (aN (uQ (cU x np) Qf [] dt)) none pos) (awG C ds):=⟨by
 rw[WM (aF8 M hr.hd hg h.out hd he g8) D H h S M w' h ⟨ι,S,M,ρ,ao,sl,qb.res (c7:=BI K) sl w' λι1 aW aa H1 x v e1 s1 r1 w1=>?_⟩]
 rw[b7 (by rw[←mO r1.1,r1.2];exact ap6 (aFI hn)) (G3 σ gi)]⟩
universe zE
universe L2
universe zE
end
mutual
section
namespace L2
open PySem PySem.Spec PyProof.Rows
def Inv.aGM Og aeZ Bd Gx wR afn
  aKk(kf:G! b (∃o,rz=b8))(new:Li (x_ (aV vs)) h' s.heap.objs.size (aV vs)):
  WH (x_ (aV vs)) s h':=by
 rw[bq hp aL1 My NI (∀b u,H b=dD->b∉fp) (λb u e z=>by rw[(hf b z).1]at e;cases e)]
 rw[dX np (∀b o,kr->ö b) (λb o e=>pN mj) (I.step (g':=s.gens) (d':=s.drawn) (ch:=fp) oJ (λb o _ _ hc e _=>k b o hc e) (λb o _ _ hc e _=>aBu (k b o hc e)) (λb o hc e n=>by rw[gT (np b o e) n])
  (λb o hc e=>⟨o,k b o hc e⟩) (vU b e (by rw[gT (vZ e hp) e])) (λb o u e=>by rw[gT (vZ e hp) e]) (aa7 b ps e (by rw[uM (vZ e hp),e];simp)) (dz m hm) (Va u e) I.bare)]
 ·obtain⟨f0,f1,f2,f3,f4,jb⟩:=hf b hb;exact⟨f3,f1,f4,jb⟩
 ·rw[B0 o es ep ho hm o es ep (k _ o (c9 ((hf _ z).2.1 rfl)) ho) r]
 ·rw[vj (b=s.heap.objs.size)]
  ·rw[PK e];cases e;exact new
  ·rw[E0]at e
   refine(OC u e).wb (λc v hc q=>k c v ?_ q) (λc q=>by rw[Jc hp]) (vU c q (by rw[Jc hp]))
   rcases hc with z | z
   ·rw[az z (NI b u e)]
   ·exact NI c _ z
def Inv.aGN Og aeZ Bd Gx afn
  aKk:ahk s h' t':=by
 rw[dX NI (∀b u,H b=dD->b∉fp) (λb u e z=>by rw[(hf b z).1]at e;cases e) (I.step (g':=s.gens) (d':=s.drawn) (ch:=fp) oJ (λb o _ _ hc e _=>k b o hc e) (λb o _ _ hc e _=>aBu (k b o hc e)) (λb o hc e n=>n)
  (λb o hc e=>⟨o,k b o hc e⟩) (vU b e e) (λb o u e=>e) (aa7 b ps e (by rw[gp e])) (dz m hm) (Va u e) I.bare)]
 ·obtain⟨f0,f1,f2,f3,f4,jb⟩:=hf b hb;exact⟨f3,f1,f4,jb⟩
 ·rw[B0 o es ep ho hm o es ep (k _ o (c9 ((hf _ z).2.1 rfl)) ho) r]
 ·refine(OC u e).wb (λc v hc q=>k c v ?_ q) (λc q=>q) (vU c q q);rcases hc with z | z
  ·rw[az z (NI b u e)]
  ·exact NI c _ z
abbrev awA dg rj:It:=
 abn i H (∃xs x,Jd/\Ai) i H v (∃p,tU/\v=Δ p/\∀xs,Jd->∃x,Ai/\H'=aaA p [η i,x]) i H xs (Jd/\Q5 i)
def aTA DJ{elts:dF}{x1}{F6:Pos}(a e it:Addr)(fg:e≠it):
  Turn P w K (L? elts x1 F6) (awA K a) [e,it] e (λi h=>∃old,IsEnum h e it (i:Nat) old/\h.IsListIter it a i) where
 mem:=Ξ
 obj:=λi h ⟨old,he,kN⟩ b hb=>by
  rcases apj with rfl | hb
  ·rw[bC _ he (λv z=>by cases z)]
  ·rw[zJ eb (b=it) eb]
   rw[vG o e c d kN ⟨o,e,λv z=>by rw[d]at z;cases z⟩]
 keep:=λi h h' ⟨old,he,kN⟩ k=>⟨old,k e Ξ _ he,kN.at λo q=>k it Ξ o q⟩
 item:=by
  rw[ś X i s H E I st hg hP hw hK old he kN st];obtain⟨xs,x,hq,hx⟩:=hg
  rw[H9 rv p];rw[BE u hu cB (rv.get hx) (wpAny_pyNext_enum_item he kN p.isList (x:=u) (bh hu) fg λh1 aCU aNE ht1 Pt k1=>x6 (wpAny_letOwnedTupleGo_enum aCU (cP h2 ab0 aDL)))];rw[eE NH (Uy e) (Heap.lt_size he) Tf (az1 e h1) aDL aC0 (aMd=Vt II (lP #[η i s.toks,u])) (Hp Tf _ aNw ht1) aF (kq (x_ (aV [η i,x])) (BG s h2 (V3 1))) (by
   refine I.aGM (fp:=[e,it]) hf (yd hb q) oJ ?_
   ·rw[Iw n1 (b≠e) (c9 (hb (aK z))) n2 (b≠it) z (hb (aK z))];exact Rr Tf n1 (k1 b o n1 n2 q)
   ·rcases apj with rfl | hb
    ·rw[g4 ab0]
    ·rw[zJ eb (b=it) eb];obtain⟨o,q,_⟩:=aNE;rw[b7 o (Rr Tf ŧ q)]
   ·exact⟨by show jB 2;rw[aqC],[η i s.toks,u],bN fR (bN cB cW),mw _ aC0 _ rfl⟩)]
  have hp:=Ó azF;refine⟨pW,_,aF,rfl,tQ s.heap.objs.size hp (vW ys (kA x (by rw[az (I.avD hy hq) hx]))),⟨u,?_,?_⟩,oJ⟩
  ·have:i_ (i+1)=aY i+1:=by push_cast;rfl
   rw[az this ab0]
  ·exact aNE.at λo q=>Hp Tf it ŧ q
  ·have:ö b:=by
    rcases apj with rfl | hb
    ·exact aNv
    ·rw[zJ eb (b=it) eb];obtain⟨o,q,_⟩:=kN
     exact afN q
   rw[gh (uM this) (HS b).1]
 done:=by
  rw[IZ];rw[Hw old he kN st xs hq hx hg];rw[H9 rv p];rw[cV hl rv.length (wpAny_pyNext_enum_end (I.ok.hd hc) he kN p.isList (by rw[fh]) λh' eb=>kU ?_)];exact I.aGN (t':=s.toks) (fp:=[e,it]) hf (Pg b o q b o (c9 (hb (aK z))) q)
 self:=λ_ _ _ _ _ ⟨old,he,kN⟩ h=>aLZ h
section
variable {X:bT}{aJ:St->d_}{a:Expr}{d:br}{pos p F6:Pos}{elts:dF}{x1:Nat}
abbrev FQ Gz:dY:=(xs.zipIdx).map λq=>aV [η q.2,q.1]
def aTB dH gx DG(h:jk (FQ xs) y):∃x,Ai/\y=aV [η i,x]:=by
 rw[nw FQ];rw[eX,List.getElem?_zipIdx]at h;cases e:xs[i]? with
 |none=>rw[e]at h;cases h
 |some x=>rw[e]at h;cases h;exact jh x Ξ
abbrev Ye lH:n0:=kY (c8).bind (match x with
 |ς xs=>.ok (FQ xs,none) aa
 |ο n=>match aa[n]? with
  |gY=>.ok (FQ xs,ajG xs) aa
  |_=>aE
 |_=>aE)
def aEW jz{q:Addr}dH aJb:ai4 K (awA K q) (FQ xs) w S:=by
 intro i ι' S' M' H' up ao hc;rw[KC vs hq rs (h ι' S' M' H' up ao hc) (dz y hy) (λhl=>⟨vs,hq,by rw[←rs.length];simpa[FQ] using hl⟩)];rw[Hw x hx rfl (aTB hy) v hv r (rs.get hx)];rw[Lc ⟨vs,v,hq,hv⟩ u H2 y];obtain⟨p,hp,rfl,y⟩:=y;obtain⟨z,hz,rfl⟩:=y vs hq;rw[hv]at hz;cases hz;rw[EB s2 e2 (agA (aV [η i,v]) hp) ⟨ι',_,e2,s2,ÿ p _ h! (bN EF (.one (r.mono e2)))⟩]
def aGO(h:IJ a)(hm:asv "enumerate")(hg:Nt X "enumerate" :=by rfl)anD:Zy X aJ (L? elts x1 F6) (uQ (cU "enumerate" p) [a] [] pos) (Ye d):=⟨by
 intro pins s σ H R I hw
 rw[zv S M w hw];have kM:o8 X [a] (Bi (abu d) Zs):=SH h.out adA (by rw[hs];rfl)
 rw[ff (UQ (adz I hg hm (u:=ee "enumerate") (by first | rfl | decide) ?_ aC aC)) (apx (mF (kM pos pins s σ H (O? vs q (vs=[Δ q]/\(∃xs,iw X.K H1 q xs)/\R (awA X.K q) H1)) I ?_) us ⟨vs,H1,aF,r1,q,ev,⟨xs,hq⟩,k⟩) (by rw[hs];rfl) rfl)]
 ·refine⟨ι,S,M,ρ,ao,sl,xJ⟩;cases x with
  |lst xs=>
   rw[Å q vs ic rs r1];refine aiW q (.of (ai5 _ ic)) (aEW (abe cN M2 H2 up s2 _));rw[bC vs (.of (s2.sub _ _ (We _ ic))) (rs.up up)]
  |obj n=>
   rw[eS q ei (aQ.FD.mp r1)];obtain⟨o,eM,mo⟩:=s1.addr ei;simp only[eM]at w1;cases o with
   |lst xs=>
    rw[aga aL rs mo];refine aiW q (.of aL) (aEW (abe cN M2 H2 up s2 hc));obtain⟨_,alD,Hn,NS⟩:=s2.ob n q _ (up.ix _ _ ei) hc;rw[bC alD (.of Hn) NS]
   |_=>rw[nq]
  |_=>rw[nq]
 ·subst ev;rw[HN u cB r1];cases cB;rw[xW rv pl hz (aF.list hq)];rw[ff (call_enumerate_list pl.isList (tC h' he kN hsz kp)) (aLZ ?_)];rw[bI hp (af0 (Nat.le_refl s1.heap.objs.size)) hp1 (af0 (Nat.le_succ s1.heap.objs.size))]
  refine⟨aqo 1,[aqo 1,s1.heap.objs.size],_,_,H1,rfl,aF.kept (t':=s1.toks) kp,aTA q _ _ aLH,⟨cG,he,kN⟩,oJ,k⟩;rcases apj with rfl | hb
  ·exact aF.JF HD hp1
  ·have eb:b=s1.heap.objs.size:=Ey
   rw[fz eb (aF.JF fe hp)]⟩
universe zE
universe L2
universe zE
section
namespace L2
open PySem PySem.Spec PyProof.Rows
abbrev aGP(scope sc:Scope)(anh N:gz)Od:Bool:=
 fC scope.kind HH&&aAk (λy=>!(y.2 == .cell))&&aAk (λy=>!(y.2 == .local)||(scope.names.lookup y.1 == Co)) &&
 aAk (λy=>!(y.2 == As)||(aAW y.1 oQ)||(aAW y.1 Fb))&&fC fG.length N.length &&
 (List.range N.length).all λj=>match N[j]?,fG[j]? with
  |gB,KR i=>(anh[i]? == gB)&&scope.names.any (λy=>y.1 == x&&y.2 == As)&&(scope.names.lookup x == Fb)
  |_,_=>true
def akl.of lG{scope sc:Scope}(anh N:gz)Od(hX:X.N=anh)(hk:∀x,HM x BO)(h:aO (aGP scope sc anh N fG)):aos X N:=by
 subst hX;rw[nw aGP];rw[azT h];obtain⟨⟨⟨⟨⟨h1,h2⟩,h3⟩,h4⟩,h5⟩,h6⟩:=h;refine⟨aLW,cP y hy e,cP y hy e,cP y hy e,of_decide_eq_true h5,tC j x i e1 e2⟩
 ·rw[ao7 h2 y hy];rw[nt e this this]
 ·rw[ao7 h3 y hy];rw[e]at this;simpa using this
 ·rw[ao7 h4 y hy];rw[e]at this;rw[hk];simpa[or_comm] using this
 ·have hj:j<N.length:=(List.getElem?_eq_some_iff.mp e1).1;rw[ao7 h6 j (List.mem_range.mpr hj)];rw[e1,e2]at this;simp only[Bool.and_eq_true,beq_iff_eq,List.any_eq_true]at this;obtain⟨⟨a1,⟨y,a2,a3⟩⟩,a4⟩:=this;rw[bC a1 (by rw[LL a3.1 a3.2 a2]) a4]
abbrev awH(scope sc:Scope):Scope:={ scope with names:=scope.names.map (ajJ (n,k) (x9&&aAW n oQ) n (n,k))}
def aTC lG{scope sc:Scope}{N:gz}ql Gx m8 iV(hk:∀x,HM x BO)(hf:X.env.scope.kind=HH)nc:
  (v! X scope N C fp s H).env.kindOf x=(aqH (awH scope sc)) x:=by
 show(aqH atj) x=_;unfold relabel awH;simp only[hk,hf];simp only[En (gJ (ScopeKind.function == ScopeKind.function)),Bool.and_true]
section
variable {X:bT}{aJ:St->d_}{a b c e o:Expr}{es:dF}{da db oU d mf:br}{ds:sV}{pos pos' apos dt:Pos}
abbrev wm lH:br:=kY (c8).bind (match x with
 |η i=>.ok (η (-i)) aa
 |_=>aE)
def YY(ha:PY):z3 asJ .USub a (wm da):=⟨by
 rw[z? (a0X aZi ha.out)];cases x with
 |int i=>rw[bC i Qj (Al EF)]
 |_=>rw[nq]⟩
def aGb Og Ke b6{ys:dY}wR{cb:cC}uH qo anV{gu:aqY}sT bQ(ao:i? X.K ι S M H)
  (rs:bx X.K ι S ys vs)(rv:ŗ vs)(px:aQ X.K ι S x v)(rx:nF)(e1:cE (Ay x) d)(e2:cE (Sx aiz ys) gu):
  (∀y,y∈cb.toArray->SeqAt.EqAt X.A.in1 s y u (agB (ð y) d))/\cb.map (λy=>ð y)=gu:=by
 rw[apy as a1 a2 a3 (aal ao x v u d px rx e1) bs b1 b2 abO (ac3 (ak7 ao I.a_ deep) ys vs cb gu rs rv e2)]
 have a3x:ReadsAll s.heap cb.toArray.toList gu bs:=bh b1
 rw[fy (SeqAt.items_eqAt a3x a1 b2 a2 (by have:=aMh aAP;rw[Fj (aiQ 10) a3])) ?_];exact SeqAt.readsAll_map gu cb bs b2 b1
abbrev countP:sL:=λx as M=>match as with
 |[y]=>match CO,Ay y with
  |jl,some d=>match qv aiz with
   |some gu=>.ok (η (gu.countP (yX q q d))) M
   |none=>aE
  |_,_=>aE
 |_=>aE
def aEq sT:ur X "list.count" (Ky countP):=by
 intro pins s σ H x xs v us Q I rx rs h;rw[EL p ps r rr countP];split at w
 ·rw[eS z r1 rr.we];rw[HN u cB rs];split at w
  ·rename_i ys d h1 h2;split at w
   ·rename_i gu h3;rw[Fx l aL rl ao r h1];cases rx;rw[xW rv pl hz (I.list (.of aL))];obtain⟨aB,aZ⟩:=aGb hu I ao rl rv r1 cB h2 h3
    obtain⟨⟨cls,dd,data,sl⟩,n,ho,hc,aCS,hd⟩:=id pl;simp only at hc hd aCS;subst hc hd;rw[oA (call_meets PySem.F.slot_list_count pl.isList.typeIs PySem.F.entry_list_count (PySem.F.args_list_count_2 _ _) (SeqAt.list_countAt l _ n dd sl u _) ⟨ho,aB,?_⟩) e ((List.countP (yX y (ð y) d) cb.toArray.toList:Nat)=gu.countP (yX q q d)) (by
     rw[←aZ,List.countP_map];rfl)]
    rw[gh e (OA (η _) H IS)]
   ·rw[cj]
  ·rw[cj]
 ·rw[cj]
abbrev Jv:sL:=λx as M=>match as with
 |[y]=>match CO,Ay y with
  |jl,some d=>match qv aiz with
   |some gu=>match gu.findIdx? (yX q q d) with
    |some j=>.ok (η j) M
    |none=>aE
   |none=>aE
  |_,_=>aE
 |_=>aE
def aEr sT:ur X "list.index" (Ky Jv):=by
 intro pins s σ H x xs v us Q I rx rs h;rw[EL p ps r rr Jv];split at w
 ·rw[eS z r1 rr.we];rw[HN u cB rs];split at w
  ·rename_i ys d h1 h2;split at w
   ·rename_i gu h3;split at w
    ·rename_i j h4;rw[Fx l aL rl ao r h1];cases rx;rw[xW rv pl hz (I.list (.of aL))];obtain⟨aB,aZ⟩:=aGb hu I ao rl rv r1 cB h2 h3
     obtain⟨⟨cls,dd,data,sl⟩,n,ho,hc,aCS,hd⟩:=id pl;simp only at hc hd aCS;subst hc hd;rw[HP hj ht hno (List.findIdx?_eq_some_iff_getElem.mp h4) hlen (cb.length=gu.length) (by rw[←aZ];simp)]
     rw[D7 A6 rv.length at' (∀(m:Nat)(h:m<cb.length),agB (ð cb[m]) d=agB (gu[m]' av) d) (λm h=>by
      have:qJ gu m (ð cb[m]):=by rw[←aZ,eX,List.getElem?_eq_getElem h];rfl
      rw[azN av this];rw[Option.some.inj this]) (call_meets PySem.F.slot_list_index pl.isList.typeIs PySem.F.entry_list_index (PySem.F.args_list_index_2 _ _) (SeqAt.list_indexAt l _ n dd sl u (yX y (ð y) d) j (UG hlen hj) ?_ ?_ ?_) ⟨ho,aB,?_⟩)]
     ·rw[fZ sizeLine_eq]
     ·simp only[List.getElem_toArray];rw[az (at' j av) ht]
     ·intro m hm fK;rw[rP List.getElem_toArray (at' m (bh hm))];simpa using hno m fK
     ·exact OA (η _) H IS
    ·rw[cj]
   ·rw[cj]
  ·rw[cj]
 ·rw[cj]
universe zE
def a3B:aj5 "len" "len":=dN
def aXI:aj5 "max" "max":=dN
def aGQ:aj5 "min" "min":=dN
def aXJ:aj5 "all" "all":=dN
def aXK:aj5 "any" "any":=dN
def a4w:aji "list" "list":=dN
def aTD:aji "tuple" "tuple":=dN
def aGR:aji "int" "int":=dN
universe L2
universe zE
section
namespace L2
open PySem PySem.Spec PyProof.Rows
structure M9 Ue wQ:Prop where
 cl:AZ K C
 no:Y7 K C f
abbrev C9 wQ(v:aj):rY->rY
 |[]=>[(f,v)]
 | (g,x)::r=>Wt (g=f) (g,v) r ((g,x)::C9 f v r)
def dA.lookup jz{fs:rY}{jO:BS}(h:IX fs jO)wQ:
  (b9 QN/\b9 (jO.lookup f))\/∃x v,QN=gB/\jO.lookup f=fq/\jf:=by
 induction h with
 |nil=>exact Ik rfl
 |@cons p q fs jO r t ih=>
  rw[apB r1 r2 r p1 p2 p];rw[apb aB aZ q r1 r2];subst r1;rw[aAu List.lookup_cons];cases e:f == p1 with
  |true=>exact aA (iX p2 aZ rfl r2)
  |false=>exact ih
def dA.nX jz{fs:rY}{jO:BS}(h:IX fs jO)wQ uH(r:jf):IX (C9 f x fs) (nX f v jO):=by
 induction h with
 |nil=>exact bN (kU r) cW
 |@cons p q fs jO r' t ih=>
  rw[apB p1 p2 p aB aZ q];rw[apb r1 r2 r' r1 r2];subst r1;show IX (Wt (p1=f) (p1,x) fs ((p1,p2)::C9 f x fs)) (Wt (p1=f) (p1,v) jO ((p1,aZ)::L2.nX f v jO));rw[EM p1 f]
  ·rw[eu xD xD (bN (kU r) t)]
  ·rw[eu u! u! (bN (kU r2) ih)]
abbrev Dr m9 l_ cT:Qg (Nat×rY):=match x with
 |ο n=>match M[n]? with
  |Î C' fs=>vE C' C (LM fs) none
  |_=>none
 |_=>none
def Jt ql bf b6{fs:rY}(h:M[n]? = Î C fs):Dr C (ο n) M=LM fs:=fQ Dr h
def alY yS uH ql bf{fs:rY}Gm(h:Dr C x M=LM fs):
  ∃a dx jO,v=Δ a/\vA/\H a=aN (cQ C dx jO)/\I3/\IX fs jO:=by
 cases x with
 |obj m=>
  rw[XH p ei r o q ei Dr h];cases o with
  |ins C' gs=>
   rw[Cq];split at h
   ·rename_i ec;cases h;subst ec;rw[KQ hS dx jO aL rr q ⟨p,dx,jO,rfl,ei,aL,hS,rr⟩]
   ·cases h
  |_=>cases h
 |_=>cases h
section
variable {X:bT}{aJ:St->d_}{a b c e o value:Expr}{es:dF}{da db oU d dv mf:br}{ds:sV}{pos pos' apos dt:Pos}{C:Addr}{f:Str}
abbrev cm m9 wQ lH:br:=kY (c8).bind (match Dr C x aa with
 |nu _ fs=>ap3 QN aa
 |none=>aE)
def R7(h:M9 X.K C f)(ha:PY)(hb:aot a f (lJ a)=lJ a:=by rfl):z3 QZ a f (cm C f da):=⟨by
 rw[K8 (aYJ ha.out hb) hh hh S M xJ];cases e2:Dr C x aa with
 |none=>rw[WI]
 |some p=>
  obtain⟨n,fs⟩:=p
  rw[qD e2 w1 w1]
  obtain⟨p,dx,jO,rfl,ei,aL,hS,rr⟩:=alY s1 r1 e2;rcases rr.lookup f with⟨k1,_⟩ | ⟨y,u,k1,k2,k3⟩
  ·rw[bV k1 w1 w1.elim]
  ·rw[k1]at w1
   exact⟨p,C,dx,jO,u,rfl,aL,h.cl,h.no,k2,G3 u k3⟩⟩
abbrev wc m9 wQ(mf dv:br):cM:=L! M (dv ρ M).out y ((D0 aa).out ρ λx M2=>match Dr C x M2 with
 |LM fs=>Ms afG .nx ρ (M2.set n (cQ C (C9 f y fs)))
 |none=>aE)
def abT(h:M9 X.K C f)(ho:abF)(hv:jg value dv)(hs:aoA value (aN (QZ o f pos'))=XT:=by rfl):ye (CJ [QZ o f pos'] value pos) (wc C f mf dv):=⟨by
 rw[WM (aYK ho.out hv.out hs) D H hh S M w hh ⟨ι,S,M,ρ,ao,sl,Xp w y u⟩];refine⟨ι1,aW,aa,ρ,s1,gi,qb.res (c7:=LQ) gi w1 λι2 cN M2 H2 x v e2 s2 r2 w2=>?_⟩;cases e3:Dr C x M2 with
 |none=>rw[agI e3 w2]
 |some p=>
  obtain⟨n,fs⟩:=p
  rw[qD e3 w2 w2];split at w2
  ·rw[K_];obtain⟨p,dx,jO,rfl,ei,aL,hS,rr⟩:=alY s2 r2 e3;refine⟨p,C,dx,jO,rfl,aL,h.cl,h.no,by rw[b! rr.length hl],?_⟩;rw[e8 s3 e4 (s2.put (u:=cQ C dx (nX f u jO)) (o:=cQ C (C9 f y fs)) ei hS ⟨hS,dx,_,h!,rr.nX f OT⟩) (w2 _ _ _ σ e4 s3 ((aac).mono e4))]
  ·rw[arT]⟩
universe zE
structure wD DH TV pn m9(m:Str)Ug:Prop where
 ex:∃f fd ps,qT P w K mg base (lA P w) k f fd ps (Ps K n g)/\Meth K C m f/\AZ K C/\Ia K
structure sN DH TV pn nc m9 Ug:Prop where
 ex:∃f fd ps,qT P w K mg base (lA P w) k f fd ps (Ps K n g)/\aw4 K C f/\mg x=jF C/\Ia K
section
variable {P:Program}{w:World}{K:eY}{mg:Str->fO}{base:Heap}{C:Addr}{m x:Str}{n:Nat}{g g':D1}
def wD.mono ae0 aJz ae1:wD P w K mg base k C m n g:=by
 rw[B0 f fd ps F F.ex f fd ps Ē r]
def sN.mono ae0 aJA ae1:sN P w K mg base k x C n g:=by
 rw[B0 f fd ps F F.ex f fd ps Ē r]
structure SV Ue(m q:Str)anv:Prop where
 ex:∃f fd,Gb K m q st f fd/\Meth K C m f/\AZ K C/\Ia K
structure ad2 Z5 nc m9(q:Str)anv:Prop where
 ex:∃f fd,Gb K "__init__" q st f fd/\aw4 K C f/\mg x=jF C/\Ia K
def wD.of{q:Str}Gr N? dU{d:cM}aKp
  aKI:wD P w K mg base (k+1) C m ps.length (LC d):=by
 rw[UT f fd F hm hc hB D.ex ⟨f,fd,ps,amj F S (hb f),hm,hc,hB⟩]
def sN.of{q:Str}Gr N? dU{d:cM}aJL
  aKI:sN P w K mg base (k+1) x C ps.length (LC d):=by
 rw[UT f fd F hm hc hB D.ex ⟨f,fd,ps,amj F S (hb f),hm,hc,hB⟩]
universe zE
section
variable {X:bT}{aJ:St->d_}{a b c e o:Expr}{es:dF}{da d mf:br}{ds:sV}{pos apos p:Pos}{C:Addr}{m x:Str}{n k:Nat}{g:D1}
abbrev yC m9(m:Str)c6(mf:br)Kp:br:=kY (D0 M).bind (match Dr C x aa with
 |nu _ fs=>match fs.lookup m with
  |vo=>aE
  |none=>qz (U? aa).bind xs (g (x::xs) M2)
 |none=>aE)
def aDO{pl:afD}(F:wD X.prog X.w X.K X.mg X.base k C m n g)T7 T_(ho:abF)(ha:XV (e::es))aJO
  aJh
  aI3:
  Fi (y9 m) (e::es) (yC C m g mf ds):=⟨by
 rw[aiM f fd ps F hm hc hb];rw[z? (aVd ho.out hc hm F hr hb cW G.ps ha.out uv g8 ht)];cases e2:Dr C x aa with
 |none=>rw[WI]
 |some q=>
  obtain⟨j,fs⟩:=q
  rw[qD e2 w1 w1]
  obtain⟨q,dx,jO,rfl,ei,aL,hS,rr⟩:=alY s1 r1 e2;rcases rr.lookup m with⟨k1,k2⟩ | ⟨y,u,k1,k2,k3⟩
  ·rw[k1]at w1;refine⟨q,dx,jO,rfl,aL,k2,ι1,aW,aa,ρ,s1,gi,ef.bind (c7:=BI X.K) w1 λι2 cN M2 H2 xs vs e3 s2 r2 w2=>?_⟩;rw[gh mV ⟨by rw[zE,←mO r2.1,r2.2,hn],ι2,cN,M2,_,s2,bN (Uv e3) r2.1,w2⟩]
  ·rw[bV k1 w1 w1.elim]⟩
def aTE Ul aeV{sp:uF}T4{ta:TE}{pl:afD}(he:kg o ta)aKn aeO T7(hb:Ia X.K)an2
  aI4:
  ajA (y9 m) [] (aHK C m sp [] aJ ta Zs):=by
 intro pins s σ H Q I h;refine PySem.W.methodCall_KW (pl:=pl) (mF (zH s σ H _ I h) u ⟨x,H1,aF,rx,a,dx,fs,ex,ea,l,q⟩) ht;subst ex;obtain rfl:u=Eo:=rx;rw[tL (aEZ aF ea c hm l ?_) (PySem.W.callWith_K0 (first:=[Δ a]) aF.qY hm.kp (Fh (us:=[Δ a]) (vs:=[Δ a]) F hr hb cW hx aF (bN rfl cW) q))]
def aXL{pl:afD}(F:wD X.prog X.w X.K X.mg X.base k C m 1 g)T7 T_(ho:abF)
  aI4:
  Fi (y9 m) [] (yC C m g mf []):=⟨by
 rw[aiM f fd ps F hm hc hb];rw[z? (aTE ho.out hc hm F hr hb G.ps ht)];cases e2:Dr C x aa with
 |none=>rw[WI]
 |some q=>
  obtain⟨j,fs⟩:=q
  rw[qD e2 w1 w1]
  obtain⟨q,dx,jO,rfl,ei,aL,hS,rr⟩:=alY s1 r1 e2;rcases rr.lookup m with⟨k1,k2⟩ | ⟨y,u,k1,k2,k3⟩
  ·rw[k1]at w1;exact⟨q,dx,jO,rfl,aL,k2,rfl,ι1,aW,aa,_,s1,.one r1,w1⟩
  ·rw[bV k1 w1 w1.elim]⟩
abbrev C? m9 c6 Kp:br:=Cu (vQ).bind xs (qz (g (Xe::xs) (aa++[cQ C []])).bind r (match r with
 |.bb=>.ok Xe M2
 |_=>aE))
def aFg Ul aeV{sp:uF}Bm Bb pB Bh wR(M:aw4 X.K C f)aeO ayM(hb:Ia X.K)
  (hx:∀(pins:gG)jU kP aof,iO->gH X.stack H s E e s'->X.qZ e s')bQ(r:OS)
  (h:∀x dx,ow x->ow dx->dx≠x->sp (Δ x::vs) (qu (rT dx .own x) x (cQ C dx [])) (ny v (v=.bb/\Q (Δ x) H2)) E):
  ĉ (Δ C) us (Iu X Q):=by
 rw[bI hq (h iF s.heap.objs.size (Ó HD) My (aMs _)) bk (Inv.made (C:=C) I)];rw[bq r2 (Io (V.ref iF::vs) (ag5::us)) (bN rfl r) hl (ń (vR (ag5::us) [])) (by
  rw[jm e r2.length (F.len _ _ _ _ hq) e];rw[az mV e.symm])]
 rw[jm JX (hb _ (ag5::us) bk.qY hl) mV JX]
 refine aqT (aVr (f:=f) I.qY M.makes M.init (beq_iff_eq.mp M.fn) (aoT (F.run _ X.stack _ _ (rU (ag5::us)) (ag5::us) _ _ E (hr.make C us [])
  (bk.aNL.make C us []) JX r2 hq) r s' jQ))
 cases r with
 |error e=>exact hx pins _ _ e s' bk jQ
 |ok fl=>
  cases fl with
  |ret u=>
   obtain⟨v,H',e_,rv,ev,cy⟩:=bk.after jQ;subst ev;rw[b7 rv (iX (V.ref iF) H' e_ cy)]
  |next=>rw[BH jQ]
  |brk=>rw[BH jQ]
  |cont=>rw[BH jQ]
def aFh yS Bm pB pD ZY(r:gg)(hn:vs.length+1=n)
  (w:E7 (qz (g (dO::xs) (M++[cQ C []])).bind r (match r with | .bb=>.ok dO M2 | _=>aE))):
  ∀x dx,ow x->ow dx->dx≠x->Ps K n g (Δ x::vs) (qu (rT dx .own x) x (cQ C dx [])) (ny v (v=.bb/\Q (Δ x) H2)) E:=by
 intro x dx hx hdx fg;rw[tw s1 e1 (ao.side (o:=.own x) hdx) atV (b9 (upd H dx (.own x) x)) (by rw[gT ŧ hx])]
 have hS:=s1.Y8 atV;rw[zU s2 e2 (s1.new (u:=cQ C dx []) (o:=cQ C []) atV ⟨hS,dx,[],h!,cW⟩) aOb (e1.trans e2)]
 rw[qt hi (fP (ι++[x]) M.length x) (by rw[aCl]) ⟨j0 zE hn,ι++[x],S,_,_,s2,bN (Vp x hi) (r.mono aOb),ef.bind (c7:=iq K) (w.up aOb) λι1 aW aa H1 y v ex sm rp SW=>?_⟩];cases y with
 |bb=>rw[b7 (aQ.akJ.mp rp) (SW ι1 aW H1 _ nk sm (Vp x (ex.ix _ _ hi)))]
 |_=>exact SW.elim
def awo(F:sN X.prog X.w X.K X.mg X.base k x C n g)ayM T_ anB aJO N4
  TU:Fi (cU x p) (e::es) (C? C g ds):=⟨by
 rw[aiM f fd ps F M hm hb];intro pins s σ H Q I h
 rw[zv S M' w h];rw[ff (UQ (alL I hg hm ?_ Nz)) (PySem.W.callWith_K (h₀:=X.base) I.ok.mod.acy M.kp (zC (ha.out pos pins s σ H (nB vs (∀x dx,Ř x->Ř dx->dx≠x->Ps X.K n g (Δ x::vs) (qu (V6 H1 dx .own x) x (cQ C dx [])) (ny v (v=.bb/\Q (Δ x) H2)) (aJ σ))) I ?_) us s1 vs H1 aF r q (lM aF.qY)) he g8)]
 ·refine⟨ι,S,M',ρ,ao,sl,ef.bind (c7:=BI X.K) w λι1 aW aa H1 xs vs e1 s1 r1 w1=>?_⟩;exact aFh s1 r1.1 (by rw[←mO r1.1,r1.2,hn]) w1
 ·exact aFg M F hr hb (RY H s e s' I h (G.ps pins σ H s e s' I h)) aF r q⟩
def aU8(F:sN X.prog X.w X.K X.mg X.base k x C 1 g)ayM T_(hg:Kr:=by rfl)N4:Fi (cU x p) [] (C? C g []):=⟨by
 rw[aiM f fd ps F M hm hb];intro pins s σ H Q I h
 rw[zv S M' w h];rw[tL (UQ (alL I hg hm ?_ Nz)) (PySem.W.callWith_K0 I.qY M.kp (aFg (us:=[]) M F hr hb (RY H s e s' I h (G.ps pins σ H s e s' I h)) I cW (aFh ao cW rfl w)))]⟩
universe zE
section
variable {X:bT}{aJ:St->d_}{a b c e o i value:Expr}{es:dF}{da db oU d dv eO mf:br}{ds:sV}{pos pos' apos dt:Pos}
def set_dict ayD:Th X (λo i v H Q=>∃a H',o=Δ a/\JG H a i v H'/\Q H'):=by
 intro pins s σ H o i v ov iv u Q I ada ac9 rv h;rw[eo p H' g q h];cases ada;exact aT3 hu I g ac9 rv λs' I'=>⟨H',I',q⟩
abbrev Df(x k y:aj)cT:Option aS:=match x with
 |ο n=>match M[n]? with
  |gY=>match k with
   |η j=>(VB j).map λm=>sf n (xs.set m y)
   |_=>none
  |nh .ai=>match iR k with
   |some kk=>ahl (apX lim) (iK n .ai (jw kvs kk y))
   |none=>none
  |nh .o6=>match amv k with
   |some kk=>ahl (apX lim) (iK n .o6 (jw kvs kk y))
   |none=>none
  |_=>none
 |_=>none
def aU9 aya{S H:aM}{M M':aS}{x k y:aj}{v kv u:V}{Q:dW}Gm(rk:zT k kv)(a!:zT y u)(h:cE (Df x k y M) M')
  (hQ:∀H',zV S M' H'->EJ S H'->Q H'):aIH v kv u H Q\/∃a H',v=Δ a/\JG H a kv u H'/\Q H':=by
 cases x with
 |obj n=>
  rw[XH p ei r o q ei Df h];cases o with
  |lst xs=>
   rw[Cq];cases k with
   |int j=>
    rw[Cq];obtain⟨hS,vs,aL,rr⟩:=q;cases e:VB j with
    |none=>rw[e]at h;cases h
    |some m=>
     rw[e]at h;cases h;rw[e8 s2 e2 (YR ao ei hS (rr.set m a!)) (aq ⟨p,vs,j,m,rfl,aQ.MT.mp rk,aL,by rw[b! rr.length e],hQ _ s2 e2⟩)]
   |_=>cases h
  |ai kvs=>
   rw[Cq];obtain⟨hS,cq,aL,rr⟩:=q;cases e:iR k with
   |none=>rw[e]at h;cases h
   |some kk=>
    rw[qD e h h];split at h
    ·rw[K_];cases h;rw[aie (Ss rk e)];rw[e8 s2 e2 (ao.put (u:=.bA (putK cq kk u)) (o:=.ai (jw kvs kk y)) ei hS ⟨hS,_,h!,rr.put kk a!⟩) (aA (tf p (JG.k aL (by rw[b! rr.length (adW hl)])) (hQ _ s2 e2)))]
    ·cases h
  |o6 kvs=>
   rw[Cq];obtain⟨hS,cq,aL,rr⟩:=q;cases k with
   |tup ks=>
    rw[Fw b ic rs rk];simp only[amv]at h;cases e:Sx iR ks with
    |none=>rw[e]at h;cases h
    |some kk=>
     rw[qD e h h];split at h
     ·rw[K_];cases h;rw[aie (aEp rs e)];rw[e8 s2 e2 (ao.put (u:=.dT (putK cq kk u)) (o:=.o6 (jw kvs kk y)) ei hS ⟨hS,_,h!,rr.put kk a!⟩) (aA (tf p (JG.t aL (uZ ic) (by rw[b! rr.length (adW hl)])) (hQ _ s2 e2)))]
     ·cases h
   |_=>cases h
  |_=>cases h
 |_=>cases h
abbrev nS(mf eO dv:br):cM:=L! M (dv ρ M).out y ((D0 aa).out ρ λx M2=>(GL M2).out ρ λk bJ=>match Df x k y bJ with
 |some lE=>.nx ρ lE
 |none=>aE)
def Th.or{t t':am0}(h:Th X t)(h':Th X t'):Th X (λo i v H Q=>t o i v H Q\/t' o i v H Q):=by
 intro pins s σ H o i v ov iv u Q I ada ac9 rv q;rcases q with q | q
 ·exact h pins s σ H o i v ov iv u Q I ada ac9 rv q
 ·exact h' pins s σ H o i v ov iv u Q I ada ac9 rv q
def df sT(ho:abF)(hi:jg i eO)(hv:jg value dv)
  (ha:∀v,ark (xu o i pos') v=(do
   let ov ←DW [v] DU
   let iv ←DW [v,ov] (lJ i)
   standAt pos'
   DW [v,ov,iv] (setItem ov iv v)
   release [v,ov,iv] []):=by rw[XS _])
  (hs:aKY [xu o i pos'] value X.env=XT:=by rfl)(hw:aKW [xu o i pos'] value=pure none:=by rfl)
  (h1:GH (XQ [xu o i pos']).map=[abM (xu o i pos')]:=by rfl):ye (CJ [xu o i pos'] value pos) (nS mf eO dv):=⟨by
 rw[WM (aHI hv.out (aZa ho.out hi.out (set_list.or (set_dict av)) ha) hs hw h1) D H hh S M w hh ⟨ι,S,M,ρ,ao,sl,Xp w y u⟩];refine⟨ι1,aW,aa,ρ,s1,gi,qb.res (c7:=LQ) gi w1 λι2 cN M2 H2 x v e2 s2 r2 w2=>?_⟩;refine⟨ι2,cN,M2,ρ,s2,aac,qb.res (c7:=LQ) aac w2 λι3 uE bJ H3 k kv e3 s3 qU w3=>?_⟩;cases e4:Df x k y bJ with
 |none=>rw[bV e4 w3 w3.elim]
 |some lE=>
  rw[bV e4 w3 (aU9 s3 (aQ.mono e3 r2) qU (Uv ō) e4 λH' s' e'=>w3 _ _ _ σ e' s' ((sl.mono (e1.trans ō)).mono e'))]⟩
universe zE
universe L2
universe zE
end
mutual
section
namespace L2
open PySem PySem.Spec PyProof.Rows
abbrev bools:w5 dY GG
 |[]=>some []
 |.ah b::r=>(bools r).map (b::·)
 |_::_=>none
def aEs jz:∀pD Z1,gg->cE (bools xs) bs->vs=aA1
 |[],vs,bs,r,e=>by rw[XG r r];cases e;rfl
 |x::xs,vs,bs,r,e=>by
  rw[eo v r' h1 h2 r.wh];cases x with
  |ah b=>
   rw[bools]at e;cases e2:bools xs with
   |none=>rw[e2]at e;cases e
   |some cs=>
    rw[e2]at e;cases e;rw[cZ,aEs h2 e2,aQ.Se.mp h1]
  |_=>cases e
def au0 gb(f:Xc)Ua:bools (xs.map λx=>.ah (f x))=aN (xs.map f):=by
 induction xs with
 |nil=>rfl
 |cons x xs ih=>rw[cZ,bools,ih];rfl
section
variable {X:bT}{aJ:St->d_}{a b c e o:Expr}{es:dF}{da db oU d mf:br}{ds:sV}{pos pos' apos dt:Pos}
abbrev aeq:D1:=λxs M=>match xs with
 |[x]=>match (CO).bind bools with
  |some bs=>.ok (.ah (bs.all id)) M
  |none=>aE
 |_=>aE
abbrev ana:D1:=λxs M=>match xs with
 |[x]=>match (CO).bind bools with
  |some bs=>.ok (.ah (bs.any id)) M
  |none=>aE
 |_=>aE
def aVX Z1{cb:cC}(rv:ŗ aA1)g! ZS(h:Av cb.toArray):v=pM (agn i):=by
 rw[Ů h' (Av cb) (bh h) hl rv.length eH hl]
 have hi:i<bs.length:=by rw[gh hl (List.getElem?_eq_some_iff.mp h').1]
 rw[ģ u h2 (rv.get (i:=i) (x:=.ah bs[i]) (by rw[QX eX hi];rfl))];rw[h']at h1;cases h1;rw[Q0 hi];exact h2
def aTF Z1:(aLS).all (λi=>agn i)=bs.all id:=by
 induction bs with
 |nil=>rfl
 |cons b bs ih=>
  rw[zE,List.range_succ_eq_map,List.all_cons,List.all_map,List.all_cons,←ih];rfl
def aTG Z1:(aLS).any (λi=>agn i)=bs.any id:=by
 induction bs with
 |nil=>rfl
 |cons b bs ih=>
  rw[zE,List.range_succ_eq_map,List.any_cons,List.any_map,List.any_cons,←ih];rfl
def aHZ Og{l:Addr}Z1 bQ Bc(aL:H l=HK aA1){f:String}{k:Bool}pB
  (call:∀ro,nj (model X.prog X.w) X.A.in1 (pyIter (Δ l)) (λit s₂=>∃I fp wr n P St tr,it=Δ I/\PySem.Walks X.prog X.w X.A.in1 I fp wr n P St/\St 0 s₂.heap/\TruthOf X.prog X.w X.A.in1 P tr ∧
   n=bs.length/\tr=(λi=>agn i)/\∀h' tk,(∀b o,b∉wr->s₂.heap.get? b=b8->rz=b8)->Q (pM k) (BG s₂ h' tk)) X.qZ s →
   ĉ (e! f) [Δ l] Q)(q:Q (.ah k) H):Ŵ (PySem.call (e! f) [Δ l]) X Q:=by
 rw[xW rv pl hz (I.list (.of aL))];refine call (aLU pl.isList)
 rw[bq fg (ö l) (by
  obtain⟨o,n,ho,_⟩:=pl;exact afN ho) hlen (cb.toArray.size=bs.length) (by have:=rv.length;rw[Wz];simp[this])]
 refine⟨s.heap.objs.size,_,_,_,_,_,λi=>agn i,rfl,PySem.Walks.list (A:=X.A.in1) (I.ok.hd hc) s.heap.objs.size l fg cb.toArray,⟨Ž _ _,pl.isList.at λo e=>qB e⟩,?_,hlen,rfl,B_ tk hk⟩
 ·intro i v s2 Q' E' hP hQ;have:=aVX rv i v hP;rw[fz this (wpAny_truthy_bool hQ)]
 ·refine z9 .ah k ?_ q;refine I.kept (t':=tk) λb o e=>hk b o ?_ (qB e);intro hb
  have:b=s.heap.objs.size:=Ey
  exact Nat.ne_of_lt mj this
def aTH Bc:Ar "all" (Ft aeq):=by
 rw[Aj s H Q I rs h];obtain⟨E,ι,S,M,ys,ao,r,w⟩:=h
 rw[zX aeq];split at w
 ·split at w
  ·rename_i x bs hb;rw[eS v r1 r.we];rw[eS u cB (vals1 rs)];obtain⟨zs,h1,h2⟩:=Option.bind_eq_some_iff.mp hb;rw[Fx l aL rr ao r1 h1];cases cB;rw[K7 (aEs rr h2) aL (aHZ I hc aL (λ{Q} h=>call_all_walk (KX h (λit s2 ⟨aF,fp,wr,n,P,St,tr,e1,e2,e3,e4,e5,e6,lZ⟩=>⟨aF,fp,wr,n,P,St,tr,e1,e2,e3,e4,B_ tk hk⟩) _ _ z z)) Xk)];subst e5 e6;rw[az aTF (lZ h' tk hk)]
  ·rw[cj]
 ·rw[cj]
def aTI Bc:Ar "any" (Ft ana):=by
 rw[Aj s H Q I rs h];obtain⟨E,ι,S,M,ys,ao,r,w⟩:=h
 rw[zX ana];split at w
 ·split at w
  ·rename_i x bs hb;rw[eS v r1 r.we];rw[eS u cB (vals1 rs)];obtain⟨zs,h1,h2⟩:=Option.bind_eq_some_iff.mp hb;rw[Fx l aL rr ao r1 h1];cases cB;rw[K7 (aEs rr h2) aL (aHZ I hc aL (λ{Q} h=>call_any_walk (KX h (λit s2 ⟨aF,fp,wr,n,P,St,tr,e1,e2,e3,e4,e5,e6,lZ⟩=>⟨aF,fp,wr,n,P,St,tr,e1,e2,e3,e4,B_ tk hk⟩) _ _ z z)) Xk)];subst e5 e6;rw[az aTG (lZ h' tk hk)]
  ·rw[cj]
 ·rw[cj]
abbrev tyP cT:abk String
 |.bb=>some "NoneType"
 |.ah _=>some "bool"
 |η _=>some "int"
 |Ω _=>some "str"
 |ς _=>some "list"
 |aV _=>some "tuple"
 |.cY _=>none
 |ο n=>match M[n]? with
  |kQ _=>some "list"
  |d7 .ai _=>some "dict"
  |d7 .o6 _=>some "dict"
  |_=>none
def aXN yS uH{t:String}Gm(h:tyP M x=fm):yD K H v (ee t):=by
 cases x with
 |bb=>cases asl;cases h;exact .bb
 |ah b=>cases ū;cases h;exact .ah b
 |int i=>cases ahK;cases h;exact η i
 |str z=>cases ahL;cases h;exact Ω z
 |lst xs=>rw[Å p vs e q r];cases h;exact ς (uZ e)
 |tup xs=>rw[Fw p e q r];cases h;exact aV (uZ e)
 |cY xs=>cases h
 |obj n=>
  rw[XH p e r o q e tyP h];cases o with
  |lst xs=>cases h;rw[ġ e q q (ς e)]
  |ai xs=>cases h;rw[ġ e q q (.bA e)]
  |o6 xs=>cases h;rw[ġ e q q (.dT e)]
  |_=>cases h
abbrev aex(t c:String):agC:=
 if["NoneType","bool","int","str","list","tuple","dict"].contains t&&["bool","int","list","tuple"].contains c then aN (t == c||(t == "bool" && c == "int")) else none
abbrev Tg(c:String)lH:br:=kY (c8).bind (match (tyP aa x).bind (aex · c) with
 |fc=>.ok (.ah k) aa
 |none=>aE)
def a0C j?{t c:String}{k:Bool}(h:aex t c=fc):PySem.W.kitOne K (ee t) (ee c)=fc:=by
 rw[nw aex];split at h
 ·rw[ID];simp only[Bool.and_eq_true,List.contains_iff_mem,List.mem_cons,List.not_mem_nil,or_false]at hc;rw[Ah hc];rcases h1 with rfl | rfl | rfl | rfl | rfl | rfl | rfl<;>rcases h2 with rfl | rfl | rfl | rfl<;>(cases h;rw[afB])
 ·cases h
def aH0(T:String)d!{p q:Pos}anL aJX ayi
  N3 Ba
  ayc:
  Fi (arc cU p) [a,cU x q] (Tg T da):=⟨by
 rw[bq kM (o8 X [a,cU x q] (Bi (abu da) (Bi (adf (.ty T)) Zs))) (SH ha.out (SH (aG1 aCV ZB hv2 (v:=.ty T) rfl hn hd) adA) he) hc (Ar "isinstance" (λvs H Q=>∃v t k,vs=[v,.ty T]/\yD X.K H v (ee t)/\aex t T=fc/\Q (.ah k) H)) (by
  rw[Aj s H Q I r h];obtain⟨v,t,k,rfl,ty,gQ,q⟩:=h;rw[eo u w' r1 r2 (vals2 r)];cases r2;exact aTY I r1 ty (a0C gQ) λtk=>z9 .ah k kT q)]
 rw[K8 (avE hc aeM ank dN kM aC aC he g8) h h S M (KZ c7 w ι1 aW aa H1 y v e1 s1 r1 w1 ?_)];cases e2:(tyP aa y).bind (aex · T) with
 |none=>rw[WI]
 |some k=>
  rw[e2]at w1;rw[É t h1 h2 (Option.bind_eq_some_iff.mp e2) ⟨v,t,k,rfl,aXN s1 r1 h1,h2,Al Eb⟩]⟩
universe zE
universe L2
universe zE
section
namespace L2
open PySem PySem.Spec PyProof.Rows
abbrev a0D:w5 dY eK
 |[]=>some []
 |η i::r=>(a0D r).map (i::·)
 |_::_=>none
section
variable {X:bT}{aJ:St->d_}{a:Expr}{da:br}{pos:Pos}
def aGc:aji "bool" "bool":=dN
abbrev mr:br:=cK M (.ok dO (M++[.ai []]))
def adm:jg (.Dict [] [] pos) mr:=⟨Dn.imp aVs λσ H Q h p hp=>by
 rw[zv S M w h];rw[e8 s1 x1 (ao.new (u:=.bA []) (o:=.ai []) hp ⟨ao.Y8 hp,[],gK,cW⟩) (w _ _ _ _ x1 s1 (Vp p (by rw[←ao.len,apz fe];simp)))]⟩
universe zE
universe L2
universe zE
section
namespace L2
open PySem PySem.Spec PyProof.Rows
abbrev vb l_ cT:Qg (Nat×kc):=match x with
 |ο n=>match M[n]? with
  |nh .ai=>CL
  |_=>none
 |_=>none
def oW bf b6 ae3 Gp:vb (ο n) M=CL:=fQ vb h
def M! yS uH DK Gm(h:vb x M=CL):
  ∃a cq,v=Δ a/\vA/\H a=W7 .bA/\I3/\PX/\x=ο n:=by
 cases x with
 |obj m=>
  rw[XH p ei r o q ei vb h];cases o with
  |ai xs=>
   cases h;rw[vG hS cq aL rk q ⟨p,cq,rfl,ei,aL,hS,rk,rfl⟩]
  |_=>cases h
 |_=>cases h
section
variable {X:bT}{aJ:St->d_}{a b c e f o:Expr}{es:dF}{da db oU d mf dk dx:br}{ds:sV}{pos pos' apos dt:Pos}
abbrev adI(mf dk:br):br:=kY (D0 M).bind (match yf with
 |vo=>qz (dk ρ aa).bind y (match vb x M2,iR y with
  |nu _ kvs,fc=>.ok ((D3).getD .bb) M2
  |_,_=>aE)
 |none=>aE)
abbrev Nb(mf dk dx:br):br:=kY (D0 M).bind (match yf with
 |vo=>qz (dk ρ aa).bind y ((dx ρ M2).bind λz bJ=>match vb x bJ,iR y with
  |nu _ kvs,fc=>.ok ((D3).getD z) bJ
  |_,_=>aE)
 |none=>aE)
abbrev Nc(mf dk:br):br:=kY (D0 M).bind (match yf with
 |vo=>qz (dk ρ aa).bind y (match vb x M2,iR y with
  |CL,fc=>match D3 with
   |fq=>.ok v (ER n .ai (va kvs k))
   |none=>aE
  |_,_=>aE)
 |none=>aE)
abbrev adJ(mf dk dx:br):br:=kY (D0 M).bind (match yf with
 |vo=>qz (dk ρ aa).bind y ((dx ρ M2).bind λz bJ=>match vb x bJ,iR y with
  |CL,fc=>match D3 with
   |fq=>.ok v (bJ.set n (.ai (va kvs k)))
   |none=>.ok z bJ
  |_,_=>aE)
 |none=>aE)
def Fu yS uH{q:Nat×kc}Gm(h:cE (vb x M) q):∃p,v=Δ p/\TG H p:=by
 obtain⟨p,cq,rfl,_,aL,_⟩:=M! ao r h;exact jh p (EV cq (aq aL))
def aGS yS bf uJ{ys:kc}{us:qq}ZY aKB(r:IX ys us):zV S (QW n (.ai ys)) (rT p .bA us)/\EJ S (rT p .bA us):=
 ao.put hi hS ⟨hS,us,h!,r⟩
def aGd sT anK(m:aa X o "get" apos e dt:=by exact ajf rfl):Vo atn [e] dt (adI mf dk):=⟨by
 rw[z? (aVu av ho.out he.out m)];cases aB:yf with
 |none=>rw[WJ]
 |some q=>
  rw[aB]at w1;rw[eS p hd (Fu s1 r1 aB)];refine⟨p,rfl,hd,ι1,aW,aa,ρ,s1,gi,KZ c7 w1 ι2 cN M2 H2 y u e2 s2 r2 w2 ?_⟩;cases aZ:vb x M2 with
  |none=>rw[agI aZ w2]
  |some sD=>
   rw[aqG n sD];cases cy:iR y with
   |none=>rw[aZ,cy]at w2;rw[arT]
   |some k=>
    rw[aZ,cy]at w2
    obtain⟨p',cq,ep,ei,aL,hS,rk,_⟩:=M! s2 OT aZ;cases ep;have gQ:=Ss r2 cy;subst gQ;rw[Af _ (.k aL)]
    dsimp only at w2;rcases ai3 with⟨z1,z2⟩ | ⟨x',v',z1,z2,rr⟩
    ·rw[Ś z1 w2 z2 (w2 ι2 cN H2 _ nk s2 Vu)]
    ·rw[Ś z1 w2 z2 (w2 ι2 cN H2 _ nk s2 rr)]⟩
def avq sT anK(hf:jg f dx)(m:M2 X o "get" apos e f dt:=by exact ajf rfl):Vo atn [e,f] dt (Nb mf dk dx):=⟨by
 rw[z? (aVv av ho.out he.out hf.out m)];cases aB:yf with
 |none=>rw[WJ]
 |some q=>
  rw[aB]at w1;rw[eS p hd (Fu s1 r1 aB)];refine⟨p,rfl,hd,ι1,aW,aa,ρ,s1,gi,KZ c7 w1 ι2 cN M2 H2 y u e2 s2 r2 w2 ?_⟩;refine⟨ι2,cN,M2,ρ,s2,aac,KZ c7 w2 ι3 uE bJ H3 z t e3 s3 qU w3 ?_⟩;cases aZ:vb x bJ with
  |none=>rw[bV aZ w3 w3.elim]
  |some sD=>
   rw[aqG n sD];cases cy:iR y with
   |none=>rw[aZ,cy]at w3;exact w3.elim
   |some k=>
    rw[aZ,cy]at w3
    obtain⟨p',cq,ep,ei,aL,hS,rk,_⟩:=M! s3 (Uv ō) aZ;cases ep;have gQ:=Ss r2 cy;subst gQ;rw[Af _ (.k aL)]
    dsimp only at w3;rcases ai3 with⟨z1,z2⟩ | ⟨x',v',z1,z2,rr⟩
    ·rw[Ś z1 w3 z2 (w3 ι3 uE H3 _ nk s3 qU)]
    ·rw[Ś z1 w3 z2 (w3 ι3 uE H3 _ nk s3 rr)]⟩
def a4Z sT anK(m:aa X o "pop" apos e dt:=by exact ajf rfl):Vo ato [e] dt (Nc mf dk):=⟨by
 rw[z? (aVw ho.out he.out m)];cases aB:yf with
 |none=>rw[WJ]
 |some q=>
  rw[aB]at w1;rw[eS p hd (Fu s1 r1 aB)];refine⟨p,rfl,hd,ι1,aW,aa,ρ,s1,gi,KZ c7 w1 ι2 cN M2 H2 y u e2 s2 r2 w2 ?_⟩;cases aZ:vb x M2 with
  |none=>rw[agI aZ w2]
  |some sD=>
   rw[aqG n sD];cases cy:iR y with
   |none=>rw[aZ,cy]at w2;rw[arT]
   |some k=>
    rw[aZ,cy]at w2
    obtain⟨p',cq,ep,ei,aL,hS,rk,_⟩:=M! s2 OT aZ;cases ep;have gQ:=Ss r2 cy;subst gQ
    dsimp only at w2;rcases ai3 with⟨z1,z2⟩ | ⟨x',v',z1,z2,rr⟩
    ·rw[agI z1 w2]
    ·rw[z1]at w2;refine⟨cq,k,v',aL,rfl,z2,?_⟩
     rw[e8 wo x4 (aGS s2 ei hS (rk.drop k)) (w2 ι2 cN _ _ x4 wo rr)]⟩
def avr sT anK(hf:jg f dx)(m:M2 X o "pop" apos e f dt:=by exact ajf rfl):Vo ato [e,f] dt (adJ mf dk dx):=⟨by
 rw[z? (aVx ho.out he.out hf.out m)];cases aB:yf with
 |none=>rw[WJ]
 |some q=>
  rw[aB]at w1;rw[eS p hd (Fu s1 r1 aB)];refine⟨p,rfl,hd,ι1,aW,aa,ρ,s1,gi,KZ c7 w1 ι2 cN M2 H2 y u e2 s2 r2 w2 ?_⟩;refine⟨ι2,cN,M2,ρ,s2,aac,KZ c7 w2 ι3 uE bJ H3 z t e3 s3 qU w3 ?_⟩;cases aZ:vb x bJ with
  |none=>rw[bV aZ w3 w3.elim]
  |some sD=>
   rw[aqG n sD];cases cy:iR y with
   |none=>rw[aZ,cy]at w3;exact w3.elim
   |some k=>
    rw[aZ,cy]at w3
    obtain⟨p',cq,ep,ei,aL,hS,rk,_⟩:=M! s3 (Uv ō) aZ;cases ep;have gQ:=Ss r2 cy;subst gQ
    dsimp only at w3;refine⟨cq,k,aL,rfl,dz v' hv,ck hv⟩
    ·rcases ai3 with⟨z1,z2⟩ | ⟨x',v'',z1,z2,rr⟩
     ·rw[z2]at hv;cases hv
     ·rw[z2]at hv;cases hv;rw[z1]at w3;rw[e8 wo x4 (aGS s3 ei hS (rk.drop k)) (w3 ι3 uE _ _ x4 wo rr)]
    ·rcases ai3 with⟨z1,z2⟩ | ⟨x',v'',z1,z2,rr⟩
     ·rw[bV z1 w3 (w3 ι3 uE H3 _ nk s3 qU)]
     ·rw[z2]at hv;cases hv⟩
universe zE
universe L2
universe zE
section
namespace L2
open PySem PySem.Spec PyProof.Rows
def i?.aZL yS uJ{u:je}wU(hp:p∉ι)(hS:X0 p):zV S M (qE p u):=by
 refine aaP o s.len n a o
 ·rw[gT (vZ q hS) (RE o q)]
 ·rw[PA a p z (hp (KS z h1)) ((Py n a o).up (V_ _ _ h h S) (c9 z) (uM fg))]
def aPq:∀(more kvs:qq),gC (kvs.map (·.1)++more.map (·.1))->Na kvs more=kvs++more
 |[],kvs,_=>aK Na
 |p::r,kvs,h=>by
  rw[bq h1 (¬(gJ (agm kv (j6=p.1)))) (by
   rw[List.any_eq_true];rintro⟨q,hq,e⟩;rw[Cn List.nodup_append (h.2.2 q.1 (List.mem_map_of_mem hq) p.1 Ξ (of_decide_eq_true e))]) h2 (Na kvs (p::r)=Na (zw p.1 p.2) r) rfl];rw[h2,putK,ahZ,aPq r _ (bh h)];simp
section
variable {X:bT}{aJ:St->d_}{v:Expr}{d:br}{pos p kp:Pos}{keys:ail}{values:dF}{zi:XU br}
noncomputable abbrev cx nc:Key:=Sum.inr x
abbrev Dh aom:br:=Cu (U! aBO M).bind xs (.ok Xe (aa++[.ai ((aaG q q.1).zip xs)]))
structure am6 wM(pos:Pos)(keys:ail)(values:dF)aom:Prop where
 out:aeo X pos keys values (afP q (adf (Ω q.1),abu q.2))
def amk:am6 X aJ pos [] [] []:=⟨aW1⟩
def yu{k:Str}{j}(hv:IJ v)(hr:am6 X aJ pos keys values zi):am6 X aJ pos (aN (Cw (Ω k) j kp)::keys) (v::values) ((k,d)::zi):=⟨aVt aHH hv.out hr.out⟩
def aGT j? ZM:∀aom{ι:cz}anA{Q:gW V V->dW},rt->BY →
  ef K (axg K) (aJ σ) ι S H (λvs H'=>nJ ((afP q (V.str q.1)).zip vs)) (U! aBO M)->al9 (afP q (adf (Ω q.1),WY K aJ q.2)) σ H Q
 |[],ι,S,H,M,Q,ao,sl,w=>ve [] cW
 | (k,d)::r,ι,S,H,M,Q,ao,sl,w=>by
  refine⟨ι,S,M,ρ,ao,sl,ef.bind (c7:=iq K) w λι1 aW aa H1 x v e1 s1 r1 w1=>?_⟩;rw[tL (aGT r s1 gi (ef.bind (c7:=axg K) w1 λι2 cN M2 H2 xs vs e2 s2 r2 w2=>?_)) (w2 ι2 cN H2 (v::vs) nk s2 (bN OT r2))]
def aGU jz:∀{ks:tu}pD,gg->IX (ks.zip xs) (ks.zip vs)
 |[],xs,vs,_=>cW
 |k::ks,[],vs,h=>by rw[aaF bx h h]
 |k::ks,x::xs,vs,h=>by
  rw[eo v r h1 h2 h.wh];exact bN (kU h1) (aGU h2)
def aml(h:am6 X aJ pos keys values zi)(aeu:aO aLV:=by rfl)(hl:keys.length=values.length:=by rfl)(h0:keys≠[]:=by exact List.cons_ne_nil _ _)(aCM:keys.length≤15:=by exact azP)(hk:zi.length≤15:=by exact azP)
  (hn:gC (aaG q q.1):=by rw[Ç]):z3 .Dict keys values (Dh zi):=⟨by
 rw[QV (Dn.imp (aW2 h.out aeu hl h0 aCM) (zc σ H Q hh a ha)) ι S M ρ ao sl w hh];obtain⟨s0,x0⟩:=ao.side (o:=.bA []) ha;rw[rM hai (ao.fresh ha) a34 (ao.Y8 ha) (aGT zi s0 sl ?_)];rw[zX Dh];cases ed:U! aBO M with
 |bad=>rw[p6 ed]
 |exc c M2=>rw[HX ed (λι2 cN H2 e2 s2=>w ι2 cN H2 (x0.trans e2) s2)]
 |ok xs M2=>
  rw[ed]at w;intro ι2 cN H2 vs e2 s2 r2;obtain⟨f1,f2,f3⟩:=e2.fr a _ h! hai a34
  rw[bq hlen (∀aom(vs:cH),(afP q (V.str q.1)).zip vs=((aaG q q.1).zip vs).map λkv=>(kV j6,kv.2)) (by
   intro zi
   induction zi with
   |nil=>rw[XS vs]
   |cons q r ih=>
    intro vs;cases vs with
    |nil=>rfl
    |cons v vs=>simp only[cZ,List.zip_cons_cons,ih vs];rfl) a23 (∀(ks:tu)(vs:cH),(iE (ks.zip vs).map).Sublist ks) (by
   intro ks
   induction ks with
   |nil=>intro vs;exact List.Sublist.slnil
   |cons k r ih=>
    intro vs;cases vs with
    |nil=>exact List.nil_sublist _
    |cons v vs=>exact(ih vs).cons₂ k)]
  refine⟨f1,(aaG q q.1).zip vs,hlen zi vs,?_,?_⟩
  ·rw[List.length_zip,eH];omega
  ·have kO:Cz ((aaG q q.1).zip vs).map:=hn.sublist (a23 _ _);rw[aPq _ _ (bh kO),wC];have s3:i? X.K ι2 cN M2 (V6 H2 a .bA ((aaG q q.1).zip vs)):=s2.aZL f2 f3;rw[D7 e3 (x0.trans e2) NQ (aB5 ι2.length) (by have:=e3.pre;rw[←this];rw[fh]) (w (ι2++[a]) cN _ _ ⟨MP n b hb ((Up.push (S:=cN) a).ix n b (e3.ix n b hb)) e3.sm,?_,mH u aB aZ cy⟩ (s3.enter f2 ⟨f3,_,h!,aGU r2⟩) (Vp a (by rw[←s2.len];simp)))]
   ·rw[aLj NQ e3.pre]
   ·rw[HP k1 k2 k3 (e3.fr b u aB aZ cy) hb (b≠a) (c9 (by rw[z,ha]at aB;cases aB))]
    rw[bC (by rw[KN hb k1]) (fQ k2 hb) k3]⟩
universe zE
universe L2
universe zE
end
mutual
section
namespace L2
open PySem PySem.Spec PySem.Calls PyProof.Rows PySem.W Builtin Builtin.ObjectAttr Builtin.Getset_descriptor
def aRU:QU (entryFor table "BaseException.__getattribute__") Builtin.«object.__getattribute__» :=
 entryFor_alias (id':= "object.__getattribute__") ap8 (by first | rfl | rw[Ç]) dN ap8
def aRV:plainId "BaseException.__getattribute__" = true:=dN
def aRW:QU (splitId "BaseException.__getattribute__") ("BaseException","__getattribute__"):=dN
def aEX:QU (builtinKind "BaseException.__getattribute__") .slot:=dN
def aSr(self:Value):bindSpecial (aLl e!) self=pure (aLl e!,[self]):=by
 rw[bq h1 (akj (aLg "#opaque")) dN h2 (akj (aLg "#data")) dN]
 simp only[bindSpecial,typeOf,builtinType,h1,h2,aEX];rfl
structure amo Ue:Prop where
 ga:xV (Δ C) "__getattribute__" = aN (aLi e!)
 gt:QU (xV (Δ C) "__getattr__") none
 cl:xV (Δ C) "__class__" = aN (ao3 e!)
 iP:azG K IG = aN (apt e!)
 tk:PySem.W.takesIn K IG=u6
 mo:az2 C aja=u6
 mb:az2 C aj4=u6
 ci:Ab (PySem.W.clsIn K C)
section
variable {K:eY}{C e:Addr}{prog:Program}{w:World}{A:Around}{E:iD}{s:Shared}
def aQP aeW{M:Model}sS(g_:K.In h):Looks M h (ObjectAttr.find (Δ e) (Δ C) "__class__") (.bind (apA e!) IG):=by
 rw[oO Zm (aAi M M X.cl) L2 (looks_specialIn (M:=M) g_ X.iP) awX (looks_takesIn (M:=M) g_ X.tk)];exact Zm.andThen (L2.andThen ((show Looks M h (dataDescriptor? (ao3 e!) (apt e!)) (nu (apA e!) IG) from awX.andThen .now).andThen (Looks.tag .now)))
def aSs aeW ayd{tp:Value}ayI(h:R (.ok (.ret (Δ C))) s):
  Ll mE A (.call (apA e!) (rU [IG,Δ e,tp])) R s:=by
 obtain⟨hh,g,dr,t,os⟩:=s;rw[rM Zl (LT mE) Zm (looks_mroIn (M:=mE) g_ X.mo) (codeAny_call_builtin KF.slot_gs.plain KF.entry_gs (KF.slot_gs.check _ _ _ _ _ _ _ _ KF.type_class (KF.args_gs _ _ _) ?_))];unfold Builtin.«getset_descriptor.__get__» descrGet;rw[xg dga_obj (fu HB)];unfold descrGetter descrCheckInstance descrNameAndClass isInstance;simp only[KF.owner_class]
 repeat lk
 rw[fy (Code.quiet_builtin _ dN) (codeAny_builtin KF.entry_class ?_)];unfold Builtin.«object.__class__» shownTypeOf
 repeat lk
 exact h
def aTJ(a b:Value):argsOk "BaseException.__getattribute__" (rU [a,b]):=by
 unfold argsOk
 kernel_rfl
def aTK aeW ayd{b:Value}N6(h:Q () s):
  E8 (checkBuiltinCall "BaseException.__getattribute__" (rU [Δ e,b])):=by
 obtain⟨hh,g,dr,t,os⟩:=s;rw[bI Zl (LT mE) Zm (looks_mroIn (M:=mE) g_ X.mb)];have aTc:Looks mE hh (isInstance (Δ e) aj4) true:=Zl.andThen Zm;simp only[checkBuiltinCall,aEX,aRW];refine fu (aTc.at ?_);simp only[Bool.not_true,Bool.false_eq_true,if_false];have ha:=aTJ (Δ e) b;cases a24:Manifest.signature? "BaseException.__getattribute__" with
 |none=>exact QH
 |some sig=>
  simp only[argsOk,a24]at ha;have h2:aLh sig (rU [Δ e,b])=pure ():=ha;rw[Wu (nj _ _ (aLh sig (rU [Δ e,b])) Q E _) h2 QH]
def aTL aeW ayd{Q:fO->Bt}(h:ajI (jF C) s 1):
  E8 (getAttr? (Δ e) "__class__"):=by
 obtain⟨hh,g,dr,t,os⟩:=s;rw[vH Zl (LT mE) Zm (aAi M mE X.ga) L2 (aAi M mE X.gt) awX (aQP (e:=e) X (M:=mE) g_)];unfold getAttr? getAttrBy? getAttrBy;refine fu (wpAny_mkText (fu (wpAny_attempt (wpAny_holding (fu (Zl.at (fu (Zm.at ?_))))))));rw[ku (zR (by
  have:uP (Value.builtin "BaseException.__getattribute__") (Value.builtin "object.__getattribute__"):=aC
  rw[eu this Bool.and_false Bool.false_ne_true]))]
 unfold getAttrByItsOwn hookBefore;rw[mC aBN (kR (show aO (onTheHeap (Δ C)) from rfl))]
 rw[ff (L2.at ?_) (fu (wpAny_attempt aNl))];unfold callGetattribute boundAndCalled;rw[ash,aSr];refine fu HB
 dsimp only;refine aqT (codeAny_call_builtin aRV aRU (aTK (s:=⟨hh,g,dr,t+1,os⟩) X g_ LT ?_));rw[zM Builtin.«object.__getattribute__» (wpAny_bind (m:=slotArgs "__getattribute__" 1 _) HB)];dsimp only;rw[ff (wpAny_bind (m:=attrName _) HB) (fu (Zl.at ?_))];refine fu (awX.at ?_)
 dsimp only;show nj _ _ (DW [Value.builtin "object.__class__"] (call (apA e!) [IG,Δ e,Δ C]) >>= ret) _ _ _;rw[ff (aoO (aqT (aSs (s:=⟨hh,g,dr,t+1,os⟩) X g_ LT ?_))) HB];rw[Pn (nj _ _ (handedOut (Δ C)) _ _ _) (LB QH)]
def aVY aeW:KitX K (Δ e) (Δ C) (λh=>∃ob vs,cE (h.get? e) ob/\ob.cls=Δ C/\abL (i0 vs)) where
 ty:=λ_ _ _ ⟨ob,vs,h1,h2,_⟩=>h2▸(Looks.ld h1).andThen .now
 it:=λ_ _ g_ _=>by
  have hc:=X.ci;unfold clsIn at hc;split at hc
  ·rename_i c' d' a3C A2 ho;intro A' Q' E' s' k q;unfold isType loadHead;exact fu (wpAny_loadPart (k _ _ (g_ _ _ ho)) (wpAny_pure q))
  ·cases hc
 ne:=λh tp dd cb n sl g_ htp=>by
  rw[cV hc X.ci (Bool.eq_false_iff.mpr (ck q))];rw[LS e (C=tp) (Value.ref.inj (beq_iff_eq.mp q)) e];unfold clsIn at hc;split at hc
  ·rename_i c' d' a3C A2 ho;have z:=(atq (g_ _ _ ho)) htp;cases z
  ·cases hc
 ca:=λg_ ⟨ob,vs,h1,h2,_⟩ k=>aTL X g_ (λ_=>h2▸(Looks.ld h1).andThen .now) k
universe zE
universe L2
universe zE
section
namespace L2
open PySem PySem.Spec PyProof.Rows
section
variable {X:bT}{aJ:St->d_}{a:Expr}{da:br}{pos:Pos}
abbrev adq(jx:tH)lH:br:=kY (c8).bind (match x with
 |ο n=>match aa[n]? with
  |d7 bG C=>match aq0 with
   |fc=>.ok (.ah k) aa
   |none=>aE
  |_=>aE
 |_=>aE)
def aZM Og{p C:Addr}bQ(h:H p=aN (Nv p C)):∃ob vs,vC p ob/\ob.cls=Δ C/\abL (i0 vs):=
 (show(∃ob vs,vC p ob/\ob.cls=Δ C/\abL (i0 vs))/\_ from WV p h).1
structure Nx dg(T:Value)(jx:tH):Prop where
 all:∀C k,aq0=fc->amo K C/\PySem.W.kitOne K (Δ C) T=fc
def aPK{T:V}d!{p q:Pos}qo{jx:tH}(ht:w4 T)(hT:Nx X.K u jx)(hu:∀u',RelV T u'->u'=u)(h2:VX (cU x q) T)anL(aeM:aKS X)
  (he:DS [a,cU x q]=ake a::DS [cU x q])(g8:XO (PU [cU x q]).any):
  Fi (arc cU p) [a,cU x q] (adq jx da):=⟨by
 rw[bq kM (o8 X [a,cU x q] (Bi (abu da) (Bi (adf T) Zs))) (SH ha.out (SH h2 adA) he) hc (Ar "isinstance" (λvs H Q=>∃e C k,vs=[Δ e,T]/\H e=aN (Nv e C)/\aq0=fc/\Q (.ah k) H)) (by
  rw[Aj s H Q I r h];obtain⟨e,C,k,rfl,aL,gQ,q⟩:=h;rw[eo u1 w' r1 r2 (vals2 r)];cases r1;rw[hu _ r2];rw[e8 h1 h2 (hT.all C k gQ) (Q1 (aVY h1) (aZM I aL) h2 (λz=>nomatch z) (λtk=>z9 .ah k kT q))])]
 rw[K8 (avE hc aeM ank dN kM aC aC he g8) h h S M (KZ c7 w ι1 aW aa H1 y v e1 s1 r1 w1 ?_)];cases y with
 |obj n=>
  rw[eS p ei (aQ.FD.mp r1)];obtain⟨o,eM,q⟩:=s1.addr ei;simp only[eM]at w1;cases o with
  |exc C=>
   dsimp only at w1;split at w1
   ·rename_i k hk;exact⟨p,C,k,rfl,q.2,hk,Al Eb⟩
   ·rw[nq]
  |_=>rw[nq]
 |_=>rw[nq]⟩
def amm d!{D:Addr}{p q:Pos}(jx:tH)(hT:Nx X.K (Δ D) jx)anL(ZB:X.mg x=jF D)ayi Ba
  ayc:
  Fi (arc cU p) [a,cU x q] (adq jx da):=
 aPK (T:=Δ D) rfl hT (cK h h) (aG0 aCV ZB rfl hd) ha ank aeM he g8
def aXO d!{T:String}{p q:Pos}(jx:tH)(hT:Nx X.K (ee T) jx)anL aJX ayi
  N3 Ba
  ayc:
  Fi (arc cU p) [a,cU x q] (adq jx da):=
 aPK (T:=.ty T) rfl hT (cK h h) (aG1 aCV ZB hv2 (v:=.ty T) rfl hn hd) ha ank aeM he g8
structure a6F dg(aQ2:cz)(jx:tH):Prop where
 all:∀C k,aq0=fc->amo K C/\PySem.W.kitAny K (Δ C) (aQ2.map Value.ref)=fc
universe zE
universe L2
universe zE
section
namespace L2
open PySem PySem.Spec PyProof.Rows
section
variable {X:bT}{aJ:St->d_}
def aQl:aji "ValueError" "ValueError":=dN
abbrev uh(cs:cz)(yr uf:Nat)(s1:cM):cM:=Ce M (match Ci M with
 |bG c ρ' M'=>Ms (aO (cs.contains c)) .nx ((ρ'.set yr (cF M'.length)).set uf none) (M'++[bG c])
 |o=>o)
def Slots.unset jz ZM(s:BY)g!:u5 ι S (ρ.set i none) (aiY none):=by
 rw[Lc (aK s.1) j x h];rw[EM i j]
 ·rw[zz e List.getElem?_set_self' h];cases q:ρ[i]? with
  |none=>rw[q]at h;cases h
  |some z=>rw[q]at h;cases h
 ·rw[rQ af6 h (s.2 j x h)]
structure Catch Z5 nc(F1:Addr)(cs:cz):Prop where
 name:mg x=jF F1
 all:∀c∈cs,PySem.W.exmOne K (Δ c) (Δ F1)=u6
def aZN{x n y:Str}{F1:Addr}{cs:cz}(yr uf:Nat)aJ7{s1:cM}T_(hC:Catch X.K X.mg x F1 cs)
  (hb:∀(fJ:gG)(S?:iD)T3,atC (ajK fJ)->HT (ajK fJ) body s1)
  (uv:X.stack=aaU:=by rfl)(JS:aB2 aAc:=by rfl)(hx:Kr:=by rfl)(hy:fP X.N yr y:=by rfl)(acI:abz y:=by rfl)(hn:fP X.N uf n:=by rfl)(ln:abz n:=by rfl)
  aIW:
  ye (.Try body [aBB (abI x np) (some n) [CJ [cU y py] (cU n auE) apos] axw] [] [] pos) (uh cs yr uf s1):=⟨by
 rw[WM (aZG (P:=X.prog) (w:=X.w) (tb:=λaJ=>adg X.K aJ s1) rfl rfl uv JS G.calm G.nd hx hC.name hy acI hn ln (λfJ S? aQ6 hp=>(hb fJ S? aQ6 ⟨G.hu,G.calm,hp,G.nd⟩).out) aHM hdx hdn) D H h S M w h ⟨ι,S,M,ρ,ao,sl,?_⟩];rw[zX uh];cases e:Ci M with
 |exc c ρ' M'=>
  rw[qD e w w];split at w
  ·rw[ID];intro ι1 aW H1 σ1 e1 s1' alp;refine rC c (hC.all c (bh hc)) (dz a ha);rw[BB s2 x2 (s1'.new (u:=Nv a c) (o:=bG c) ha ⟨s1'.Y8 ha,h!⟩) (w _ _ _ _ (e1.trans x2) s2 (Slots.unset (Slots.set (alp.mono x2) (Vp a (by rw[←s1'.len];simp)) yr) uf))]
  ·rw[cj]
 |nx ρ' M'=>rw[HX e w]
 |fk y M'=>rw[HX e w]
 |lX ρ' M'=>rw[HX e w]
 |ct ρ' M'=>rw[HX e w]
 |bad=>rw[HX e w]⟩
universe zE
universe L2
universe zE
section
namespace L2
open PySem PySem.Spec PyProof.Rows
abbrev less(S:aM)rj:aM:=Ma b b a none (S b)
def a4T{S:aM}{a b:Addr}(h:b≠a):less S a b=S b:=D!
def aFi{S:aM}iB:b9 (less S a a):=gK
def aVZ{S:aM}{a b:Addr}{u:je}(h:less S a b=dD):S b=dD:=by
 rw[nw less];split at h
 ·cases h
 ·exact h
section
variable {K:eY}{ι:cz}{S:aM}{a:Addr}{ob:Obj}{cq:qq}
def iw.less uJ wR ZG(q:iw K S p vs):iw K (less S a) p vs:=by
 rcases q with(q | ⟨o,q⟩) | q
 ·rw[rZ fg (p≠a) (c9 (by rw[z,ha]at q;cases q)) (aq (aq (by rw[R5 fg q])))]
 ·rw[rZ fg (p≠a) (c9 (by rw[z,ha]at q;cases q)) (aq (r? o (by rw[R5 fg q])))]
 ·exact aA q
mutual
theorem aQ.less ZG:∀ZW,jf->aQ K ι (less S a) x v
 |.bb,v,h=>CN
 |.ah b,v,h=>CN
 |η i,v,h=>CN
 |Ω x,v,h=>CN
 |ς xs,v,h=>by
  rw[Ic];rw[CB p e q r h]
  rw[PA p a z (by rw[z,ha]at q;cases q) ⟨p,vs,e,by rw[R5 fg q],asm xs vs r⟩]
 |aV xs,v,h=>by
  rw[Ic];rw[CB p e q r h]
  rw[PA p a z (by rw[z,ha]at q;cases q) ⟨p,vs,e,by rw[R5 fg q],asm xs vs r⟩]
 |ο n,v,h=>by
  rw[rQ aQ h h]
 |.cY ns,v,h=>by
  rw[Ic];rw[nr p e q h p e (q.less ha)]
theorem bx.less ZG:∀ZL,gg->bx K ι (less S a) xs vs
 |[],vs,h=>UG bx h
 |x::xs,vs,h=>by
  rw[bx]at h⊢;rw[xr v r e h1 h2 h v r e (aQ.less ha x v h1) (asm xs r h2)]
end
def dA.less o?{kvs:abv}{aOU:DQ}ZG(h:dA K ι S kvs aOU):dA K ι (less S a) kvs aOU:=by
 induction h with
 |nil=>rw[s8]
 |cons r t ih=>exact bN ⟨r.1,aQ.less ha _ _ r.2⟩ ih
def yw.F2 iV{b:Addr}uK ZG(hb:b≠a)(h:XW b):yw K ι (ar5 a) (rT a .bA cq) b o:=by
 rw[bq hn (X0 b->b9 (L2.less S a b)) (c9 (by rw[R5 hb z])) hu (upd H a (.bA cq) b=H b) E0];cases o with
 |gone=>rw[mq u q h u Vh]
 |lst xs=>rw[CW q (hn z) Vh (asm _ _ r)]
 |ai xs=>rw[CW q (hn z) Vh ar6]
 |o6 xs=>rw[CW q (hn z) Vh ar6]
 |bD xs=>rw[Ig aDj z q h aDj (by rw[R5 hb z]) Vh ar6]
 |ins C fs=>rw[B0 z dx vs q h (hn z) dx vs Vh ar6]
 |exc C=>rw[mq z q h (hn z) Vh]
def i?.F2 b6 iV DK wU(hi:vA)(hM:GF .bD):
  ∃ob cq,S a=ni .cw .bA/\H a=ni .cw .bA/\zV (ar5 a) (I_ .ai) (rT a .bA cq):=by
 obtain⟨ob,cq,hS,hH,r⟩:=s.ob n a _ hi hM;refine⟨ob,cq,hS,hH,uT u,ah5,s.nd,tC m b o h1 h2⟩
 ·have hb:b≠a:=c9 (by rw[z,aFi]at q;cases q)
  rw[KN hb (RE u (aVZ q))]
 ·rw[abr (n=m)]
  ·rw[zz hm hi h1];cases h1;have hl:rE n:=ay1.1;rw[Hr hl h2];cases h2;exact⟨aFi,cq,h!,r.less hS⟩
  ·rw[KU hm h2];rw[An fg (b≠a) (λz=>hm (s.inj hi (z▸h1))) ((Py m b o).F2 hS fg)]
def Slots.less ZM ZG(s:BY):u5 ι (ar5 a) ρ σ:=⟨s.1,λi x h=>by
 rw[L0 v (s.2 i x h) v h1 (aQ.less ha _ _ h2)]⟩
def Ext.F2{ι0:cz}{axi H0 H:aM}bf(e:Ext ι0 axi H0 ι S H)(hi:P! ι0 a)(h0:b9 (axi a)):Ext ι0 axi H0 ι (ar5 a) (rT a .bA cq):=by
 rw[eF ⟨e.ix,uT u⟩ e.pre (mH u aB aZ cy)]
 ·rw[R5 (vZ q h0) (e.sm b u q)]
 ·rw[HP k1 k2 k3 (e.fr b u aB aZ cy) hb (b≠a) (c9 (aZ (KS z hi)))];rw[bC (by rw[KN hb k1]) k2 (by rw[R5 hb k3])]
def i?.S5 b6 iV DK wU(hi:vA)(hM:GF .ai)(ob:Obj):
  ∃cq,I3/\H a=W7 .bA/\PX/\zV (qu S a (.cw ob (.bA cq))) (I_ .bD) (qE a (.cw ob (.bA cq)))/\EJ (qu S a (.cw ob (.bA cq))) (qE a (.cw ob (.bA cq))):=by
 obtain⟨hS,cq,hH,r⟩:=s.ob n a _ hi hM
 rw[bq sm (mS S (qu S a (.cw ob (.bA cq)))) (λb u q=>by rw[Jc hS]) up (Up ι S ι (qu S a (.cw ob (.bA cq)))) (MP _ _ h h sm)]
 refine⟨cq,hS,hH,r,aaP u ah5 m b o,up,List.take_length,mH u aB aZ cy⟩
 ·rw[vj (b=a)]
  ·subst hb;rw[rQ h! q q]
  ·rw[rQ E0 q (RE u q)]
 ·rw[abr (n=m)]
  ·rw[zz hm hi h1];cases h1;have hl:rE n:=ay1.1;rw[Hr hl h2];cases h2;exact⟨ob,cq,h!,h!,r.up up⟩
  ·rw[KU hm h2];rw[An fg (b≠a) (λz=>hm (s.inj hi (z▸h1))) ((Py m b o).up up (c9 (by rw[B9 z])) (uM fg))]
 ·rw[Wv fg (b≠a) (c9 (aZ (KS z hi))) (by rw[B9 aB]) aZ (by rw[B9 cy])]
universe zE
section
variable {X:bT}{pins:gG}{σ:St}{H:aM}{s:Shared}{a:Addr}{ob:Obj}{u:je}
def Inv.F2 bQ(h:H a=rL .cw ob u)(hm:∀o v,X.H₀ a≠uW .cw v):kq (qE a u) s:=by
 rw[qt fg (∀b,j3->b≠a) (λb q z=>by rw[z,h]at q;cases q) ⟨I.ok,I.os,I.bare,⟨I.base.keep,I.base.slot,mH o q n hx,I.base.there,uT xs,yd v q,uT ps⟩,I.loc,I.cell,?_,cP x c q,Mh p,uT o,I.len⟩]
 ·have:=I0 q n hx;rw[Ro b this this]
 ·have:=arf b q
  have hb:b≠a:=c9 (by rw[z,h]at this;cases this)
  rw[KN hb this]
 ·have hb:b≠a:=c9 (by rw[bV z q (hm o v q)])
  rw[KN hb (agE b v q)]
 ·rw[tw m e (arh b q) hb (b≠a) (c9 (by rw[z,h]at e;cases e))]
  rw[b7 m (by rw[KN hb e])]
 ·rw[Ro _ I.free I.free]
 ·rw[Ro _ (OB c q) (OB c q)]
 ·rw[nr e n r (IC hp) e (by rw[Ro _ n n]) r]
 ·rw[bq ho (∀c x,H c=y_ x->upd H a u c=y_ x) (λc x z=>by rw[gT (λy=>by rw[y,h]at z;cases z) z]) ht (∀c xs,H c=vq->upd H a u c=vq) (vU c z (by rw[gT (λy=>by rw[y,h]at z;cases z) z]))]
  rw[vj (b=a)]
  ·rw[PK q];cases q;exact(show Kw ob/\Li H s.heap b u from I.a_ b _ h).2.wb (j5 z z) (λc z=>ho c _ z) ht
  ·rw[E0]at q;exact(OC o q).wb (j5 z z) (λc z=>ho c _ z) ht
def Inv.S5{o:Obj}bQ(h:H a=dD)(ho:vC a o)(h1:∀xs,u≠aV xs)(h2:∀x,u≠.own x)(h3:∀ps,u≠.jx ps)(h4:∀o' v,u≠.cw o' v):kq (qE a (.cw o u)) s:=by
 rw[bq fg (∀b,j3->b≠a) (λb q z=>by rw[z,h]at q;cases q) a4Q (∀{b v},H b=fq->v≠u->b≠a) (λ{b v} q n z=>by rw[z,h]at q;cases q;exact n rfl)]
 refine⟨I.ok,I.os,I.bare,⟨I.base.keep,I.base.slot,mH o q n hx,I.base.there,uT xs,yd v q,uT ps⟩,I.loc,I.cell,?_,cP x c q,Mh p,uT o',I.len⟩
 ·have:=I0 q n hx;rw[Ro b this this]
 ·have:=arf b q;rw[ahx this (c9 (h1 xs z.symm)) this]
 ·have:=agE b v q;rw[ahx this (c9 (h4 o v z.symm)) this]
 ·rw[mq m e (arh b q) m (by rw[ahx e (c9 (h3 _ z.symm)) e])]
 ·rw[Ro _ I.free I.free]
 ·rw[Ro _ (OB c q) (OB c q)]
 ·rw[nr e n r (IC hp) e (by rw[Ro _ n n]) r]
 ·rw[bq wH (∀c x,H c=y_ x->upd H a (.cw o u) c=y_ x) (λc x z=>by rw[ahx z (λy=>h2 x y.symm) z]) ht (∀c xs,H c=vq->upd H a (.cw o u) c=vq) (vU c z (by rw[ahx z (λy=>h1 xs y.symm) z]))]
  rw[vj (b=a)]
  ·rw[PK q];cases q;rw[b7 ho ((OC _ h).wb (j5 z z) (λc z=>wH c _ z) ht)]
  ·rw[E0]at q;exact(OC o' q).wb (j5 z z) (λc z=>wH c _ z) ht
universe zE
universe L2
universe zE
section
namespace L2
open PySem PySem.Spec PyProof.Rows
abbrev aGu rj(ob:Obj):It:=
 abn i H (∃cq k v,H a=ni .cw .bA/\OQ (k,v)) i H x (H'=H/\∀cq k v,H a=ni .cw .bA->OQ (k,v)->x=kV k) i H cq (H a=ni .cw .bA/\aB6 i)
def jS.get{cq:qq}{vs:į}(h:jS cq vs)gx DC l!(e:OQ (k,v)):∃u,jk vs (k,u)/\nF:=by
 induction h generalizing i with
 |nil=>simp at e
 |cons r t ih=>
  rename_i p q xs ys;cases i with
  |zero=>
   rw[azS bw e];subst e;obtain⟨aB,aZ⟩:=q;rw[EB rfl r2 r (jh aZ r2)]
  |succ i=>
   simp only[bB]at e⊢;exact ih e
def jS.len{cq:qq}{vs:į}(h:jS cq vs):cq.length=vs.length:=aNu
def a5P wL iV sS iB{ob:Obj}{cq:qq}afg Kn(e:H a=ni .cw .bA)anI:
  Ho a/\∃vs,jS cq vs/\h.DictAt (CZ P w) a vs ep/\asA:=by
 obtain⟨h1,_,hs,vs,kv,o,es',atL,ho,hx,hd,hr⟩:=(show cE rD ob/\uc P w H h a (.bA cq) from ok a _ e)
 rw[h1]at ho;cases ho;rw[ND]at hd;cases hd;refine⟨hs,vs,kv,⟨ob,es,h1,hx,ND,hr⟩,?_⟩;have:=mO hr.2.1
 simpa using this.symm
def aTM DJ ae7{ob:Obj}afg anI:Pw P w K (aGu a ob) [it] (λi h=>h.IsKeyIter it a i es.size ep) where
 mem:=Ξ
 obj:=λi h st b hb=>by
  rw[zJ e (b=it) e]
  rw[vG o e c d st ⟨o,e,λv z=>by rw[d]at z;cases z⟩]
 keep:=λi h h' st k=>by
  rw[nr o e r st o (k it Ξ o e) r]
 item:=by
  rw[IZ];obtain⟨cq,k,v,aL,hx⟩:=hg
  rw[CB hs kv da hl (aan aL ND)];obtain⟨u,hu,cB⟩:=kv.get hx
  obtain⟨f0,f1,f2,f3,f4,jb⟩:=hf it Ξ;rw[abt st];rw[oA (wpAny_pyNext_dict_item st da hu (tC key h' hk Ee sb)) aF (kq H (tT s)) (Ê t' (PI b o e sb e) f0 f1 f3 f4 jb)]
  obtain⟨o,e,c,d⟩:=id Ee
  rw[s9 rk (RelV (kV k) key) (by
   rcases fw (kS (wa k key) true hk) with⟨i,t,rfl,rfl⟩ | ⟨x,t,rfl,rfl⟩<;>exact lS t) hl Ee];exact jh key (Zf (s:=tT s) e c d aC ⟨kV k,H,aF,rk,kU (λaey k' v' e1 e2=>by rw[aL]at e1;cases e1;rw[hx]at e2;cases e2;rfl),Ee,vV (HS b).1⟩)
 done:=by
  rw[ś X i s H E I st hg hP hw hK cq aL hx hg];rw[CB hs kv da hl (aan aL ND)];rw[WR];rw[abt st];exact wpAny_pyNext_dict_end (I.ok.hd hc) st da (EC (by rw[b! kv.len hx])) λh' eb=>Ö t' (Pg b o e b o hb e) f0 f1 f3 f4 jb
 self:=λ_ _ _ _ _ st h=>wpAny_pyIter_keyiter st h
section
variable {X:bT}{aJ:St->d_}{b3 l iter e:Expr}{tl:TE}{d:br}{st:Stmt}{s:cM}{eO:n0}
abbrev aZO(tl:TE):TI:=λσ H R=>tl σ H (nB x (∃a cq,x=Δ a/\H1 a=W7 .bA/\∀ob,R (aGu a ob) (qu H1 a (.cw ob (.bA cq)))))
def aXP(hl:kg l tl):JQ X b3 l (aZO tl):=by
 rw[r8 R (aia (hl pins s σ H _ I h) v x)];rw[eo a cq aL q aB];cases r1;obtain⟨hz,hs,vs,kv,o,es,ep,ho,hx,hd,hr⟩:=Nn aF.a_ aL;rw[dX da (s1.heap.DictAt rS a vs ep) ⟨o,es,ho,hx,hd,hr⟩ (wpAny_pyIter_dict hs da ?_)];rw[bq fg (a≠s1.heap.objs.size) (afN ho) bk (LW H1 s1 (afM (ee "dict_keyiterator") (i0 #[Δ a,η 0 0,η vs.length 0,η ep 0]))) (Ù t' o e e)];rw[fS e_ (bk.S5 (o:=o) aL (qB ho) (zW z z) (zW z z) (zW z z) (λ_ _ z=>nomatch z)) hl asA (by have:=mO hr.2.1;simpa using this.symm)]
 refine aqu aoL _ _ _ rfl e_ (aTM a _ hd) (tQ _ (GQ _) (by rw[hl];rfl)) oJ (q o)
 have e:b=s1.heap.objs.size:=Ey
 rw[fz e (aF.JF fe (by rw[gT ŧ Rb]))]
abbrev AS:Key->aj
 |aq i=>η i
 |aA x=>Ω x
def avs jz(k:Key):zT (AS k) (kV k):=by
 cases k with
 |inl i=>exact EF
 |inr x=>exact aMz
abbrev AO lH:n0:=kY (c8).bind (match yf with
 |CL=>.ok (Cp q (AS q.1),L9 .bD) (aa.set n (.bD kvs))
 |none=>aE)
def dA.get jz ae3{cq:qq}(h:PX)gx DC gy(e:jk kvs (k,x)):∃v,OQ (k,v)/\jf:=by
 induction h generalizing i with
 |nil=>simp at e
 |cons r t ih=>
  rename_i p q xs ys;cases i with
  |zero=>
   rw[azS bw e];subst e;obtain⟨aB,aZ⟩:=q;rw[EB rfl r2 r (jh aZ r2)]
  |succ i=>
   simp only[bB]at e⊢;exact ih e
def alZ(h:IJ iter):aam X aJ b3 (AO d):=⟨by
 rw[ß (aXP h.out) σ H R hh S M w hh ⟨ι,S,M,ρ,ao,sl,xJ⟩];cases aB:yf with
 |none=>rw[WJ]
 |some sD=>
  rw[QF n kvs sD aB w1]
  obtain⟨a,cq,rfl,ei,aL,hS,rk,rfl⟩:=M! s1 r1 aB
  refine mw a cq aL (ck ob)
  have eM:aa[n]? = nh .ai:=by
   rw[aAI vb aB aB];split at aB
   ·rename_i z;cases aB;exact z
   ·cases aB
  obtain⟨aey,hS',NT,aO9,s2,x2⟩:=s1.S5 ei eM ob
  rw[aL]at NT;cases NT;refine w1 ι1 _ _ _ x2 s2 λi ι' S' M' H' up nY _=>?_
  rw[bq ic (S' a=ni .cw .bA) (We a h!) Hn (H' a=ni .cw .bA) (nY.sub a _ ic)]
  rw[RT y hy (λhl=>⟨cq,Hn,by rw[←rk.length];simpa using hl⟩)];rw[eX]at hy;rw[ayZ k z hk rfl hy];obtain⟨v,hv,_⟩:=rk.get hk;rw[Lc ⟨cq,k,v,Hn,hv⟩ u H2 wB];rw[Qm wB wB];rw[gh (wB cq k v Hn hv) ⟨ι',S',nk,nY,avs k⟩]⟩
universe zE
abbrev a1n jU(D:Ends):Ends where
 nx:=λσ' H'=>∃a ob u,H' a=rL .cw ob u/\(∀o v,H a≠uW .cw v)/\D.nx σ' (upd H' a u)
 fk:=λv H'=>∃a ob u,H' a=rL .cw ob u/\(∀o v,H a≠uW .cw v)/\D.fk v (upd H' a u)
def aH1 Og iB bQ(h:∀o v,H a≠uW .cw v):∀o v,X.H₀ a≠uW .cw v:=λo v z=>h o v (agE a v z)
def aXQ lG Gr{t:m5}(h:n7 X st t):n7 X st (λD σ H=>t (a1n H D) σ H):=by
 intro pins s σ H D I q;refine KX (Ő s σ H _ I q) (cP f s1 z) _ _ y y;cases f with
 |next=>
  obtain⟨σ',H',I',a,ob,u,e,nf,z⟩:=z;exact⟨σ',_,I'.F2 e (aH1 I nf),z⟩
 |brk=>rw[aph z z z.elim]
 |cont=>rw[aph z z z.elim]
 |ret v=>
  obtain⟨v',σ',H',I',r,a,ob,u,e,nf,z⟩:=z;exact⟨v',σ',_,I'.F2 e (aH1 I nf),r,z⟩
abbrev alQ(eO:n0)Bj cT:Qg (Nat×kc):=match GL M with
 |.ok r _=>match r.2 with
  |L9 .bD=>match M[n]? with
   |d7 .ai _=>CL
   |_=>none
  |_=>none
 |_=>none
open Classical in
noncomputable def ad5 dS(kvs:kc):Out->Out
 |.nx ρ M=>Ms (GF .bD) .nx ρ (I_ .ai)
 |.fk x M=>Ms (GF .bD) .fk x (I_ .ai)
 |_=>aE
abbrev pb(eO:n0)(s:cM):cM:=Ce M (match alQ eO ρ M with
 |CL=>ad5 n kvs (s ρ M)
 |none=>aE)
def aXR{eO:n0}o! DK(h:alQ eO ρ M=CL):∃a25,M[n]? = d7 .ai a25:=by
 rw[nw alQ];split at h
 ·split at h
  ·split at h
   ·rename_i q;cases h;rw[g4 q]
   ·cases h
  ·cases h
 ·cases h
def SI lG T4 Gr{s:cM}{eO:n0}(h:ye st s):ye st (pb eO s):=⟨by
 rw[WM (aXQ h.out) D H q S M w q ⟨ι,S,M,ρ,ao,sl,?_⟩];rw[zX pb];cases akq:alQ eO ρ M with
 |none=>rw[p6 akq]
 |some sD=>
  obtain⟨n,kvs⟩:=sD
  rw[qD akq w w];obtain⟨a6G,e0⟩:=aXR akq;obtain⟨a,hi,aOx,a6H,a3Z,_⟩:=ao.at e0
  have nf:∀o v,H a≠uW .cw v:=λo v z=>by rw[a3Z]at z;cases z
  cases es:s ρ M with
  |nx ρ' M'=>
   rw[es]at w;rw[ě ad5];split at w
   ·rename_i hM;intro ι' S' H' σ' ex nY A2;rw[KQ ob cq ic aL s2 (nY.F2 (ex.ix n a hi) hM) ⟨a,ob,_,aL,nf,w ι' _ _ σ' (ex.F2 hi aOx) s2 (A2.less ic)⟩]
   ·rw[cj]
  |fk x M'=>
   rw[es]at w;rw[ě ad5];split at w
   ·rename_i hM;intro ι' S' H' v ex nY r';rw[KQ ob cq ic aL s2 (nY.F2 (ex.ix n a hi) hM) ⟨a,ob,_,aL,nf,w ι' _ _ v (ex.F2 hi aOx) s2 (aQ.less ic _ _ r')⟩]
   ·rw[cj]
  |lX ρ' M'=>rw[p6 es]
  |ct ρ' M'=>rw[p6 es]
  |exc c ρ' M'=>rw[p6 es]
  |bad=>rw[p6 es]⟩
universe L2
universe zE
end
mutual
section
namespace L2
open PySem PySem.Spec PyProof.Rows
def a5g:QU (entryFor table "dict_itemiterator.__iter__") Builtin.«dict_keyiterator.__iter__» :=
 entryFor_alias (id':= "dict_keyiterator.__iter__") ap8 rfl dN ap8
def a46 ax7 uI{E:iD}m8{it d:Addr}{i n ep:Nat}{ok ov:Value}ro(kN:IsItemIter s.heap it d i n ep ok ov)(h:Q (Δ it) s):E8 (pyIter (Δ it)):=by
 have hT:arM (Δ it) "dict_itemiterator" :=uY kN;refine wpAny_pyIter_slot hT PySem.F.slot_dict_itemiterator_iter (wpAny_call_entry PySem.F.slot_dict_itemiterator_iter hT a5g ?_ (PySem.F.args_dict_itemiterator_iter_1 _));show oq _ _ (ret (Δ it)) _ _;rw[agp ⟨_,rfl,"dict_itemiterator",_,hT,PySem.F.slot_dict_itemiterator_next.lookup,h⟩]
abbrev aGt rj(ob:Obj):It:=
 abn i H (∃cq k v,H a=ni .cw .bA/\OQ (k,v)) i H x (∃p,tU/\x=Δ p/\∀cq k v,H a=ni .cw .bA->OQ (k,v)->H'=aaA p [kV k,v]) i H cq (H a=ni .cw .bA/\aB6 i)
abbrev aGw rj(ob:Obj):It:=
 abn i H (∃cq k v,H a=ni .cw .bA/\OQ (k,v)) i H x (H'=H/\∀cq k v,H a=ni .cw .bA->OQ (k,v)->x=v) i H cq (H a=ni .cw .bA/\aB6 i)
def aSt DJ{elts:dF}{x1}{F6:Pos}(a it:Addr){ob:Obj}afg anI:
  Turn P w K (L? elts x1 F6) (aGt a ob) [it] it (λi h=>∃ok ov,IsItemIter h it a i es.size ep ok ov) where
 mem:=Ξ
 obj:=λi h ⟨ok,ov,st⟩ b hb=>by
  rw[zJ e (b=it) e];rw[bC _ st (λv z=>by cases z)]
 keep:=λi h h' ⟨ok,ov,st⟩ k=>⟨ok,ov,k it Ξ _ st⟩
 item:=by
  rw[ś X i s H E I st hg hP hw hK ok ov st st];obtain⟨cq,k,v,aL,hx⟩:=hg
  rw[CB hs kv da hl (aan aL ND)];obtain⟨u,hu,cB⟩:=kv.get hx;rw[abt st];rw[dX NH (Uy it) (Heap.lt_size st) (wpAny_pyNext_items_item st da hu λkey h1 hk aCU ht1 Pt k1=>x6 (wpAny_letOwnedTupleGo_items aCU (cP h2 ab0 aDL)))];rw[eE Tf (az1 it h1) aDL aC0 (aMd=Vt II (lP #[key,u])) (Hp Tf _ aNw ht1) rk (RelV (kV k) key) (by
   rcases fw (kS (wa k key) true hk) with⟨i,t,rfl,rfl⟩ | ⟨x,t,rfl,rfl⟩<;>exact lS t) aF (LW (x_ (aV [kV k,v])) s h2) (by
   refine I.aGM (t':=s.toks) (fp:=[it]) hf (yd hb q) oJ ?_
   ·rw[An n1 (b≠it) (λz=>hb (aK z)) (Rr Tf n1 (k1 b o n1 q))]
   ·rw[zJ eb (b=it) eb];rw[g4 ab0]
   ·exact⟨by show jB 2;rw[aqC],[key,u],bN rk (bN cB cW),mw _ aC0 _ rfl⟩)]
  rw[jm hp (Ó azF) hl ab0];refine⟨pW,_,aF,rfl,tQ s.heap.objs.size hp (λaey k' v' e1 e2=>by rw[aL]at e1;cases e1;rw[hx]at e2;cases e2;rfl),⟨key,u,ab0⟩,oJ⟩
  rw[zJ eb (b=it) eb];rw[gh (uM aNv) (HS b).1]
 done:=by
  rw[IZ];rw[Hw ok ov st st cq aL hx hg];rw[CB hs kv da hl (aan aL ND)];rw[abt st];exact wpAny_pyNext_items_end (I.ok.hd hc) st da (EC (by rw[b! kv.len hx])) λh' eb=>kU (I.aGN (t':=s.toks) (fp:=[it]) hf (Pg b o q b o (c9 (hb (aK z))) q))
 self:=λ_ _ _ _ _ ⟨ok,ov,st⟩ h=>a46 st h
def aTN DJ ae7{ob:Obj}afg anI:Pw P w K (aGw a ob) [it] (λi h=>h.IsValIter it a i es.size ep) where
 mem:=Ξ
 obj:=λi h st b hb=>by
  rw[zJ e (b=it) e]
  rw[vG o e c d st ⟨o,e,λv z=>by rw[d]at z;cases z⟩]
 keep:=λi h h' st k=>by
  rw[nr o e r st o (k it Ξ o e) r]
 item:=by
  rw[IZ];obtain⟨cq,k,v,aL,hx⟩:=hg;rw[CB hs kv da hl (aan aL ND)];obtain⟨u,hu,cB⟩:=kv.get hx;obtain⟨f0,f1,f2,f3,f4,jb⟩:=hf it Ξ;rw[abt st];rw[oA (wpAny_pyNext_values_item st da hu (B_ Ee sb)) aF (kq H (tT s)) (Ê t' (PI b o e sb e) f0 f1 f3 f4 jb)];obtain⟨o,e,c,d⟩:=id Ee;rw[hl]at Ee;exact jh u (Zf (s:=tT s) e c d aC ⟨v,H,aF,cB,kU (λaey k' v' e1 e2=>by rw[aL]at e1;cases e1;rw[hx]at e2;cases e2;rfl),Ee,vV (HS b).1⟩)
 done:=by
  rw[ś X i s H E I st hg hP hw hK cq aL hx hg];rw[CB hs kv da hl (aan aL ND)];rw[WR];rw[abt st];exact wpAny_pyNext_values_end (I.ok.hd hc) st da (EC (by rw[b! kv.len hx])) λh' eb=>Ö t' (Pg b o e b o hb e) f0 f1 f3 f4 jb
 self:=λ_ _ _ _ _ st h=>wpAny_pyIter_valiter st h
section
variable {X:bT}{aJ:St->d_}{b3 o:Expr}{to:TE}{d:br}{apos dt F6:Pos}{elts:dF}{x1:Nat}
abbrev aGV(J:Addr->Obj->It)(tl:TE):TI:=λσ H R=>tl σ H (nB x (∃a cq,x=Δ a/\H1 a=W7 .bA/\∀ob,R (J a ob) (qu H1 a (.cw ob (.bA cq)))))
def aV0 afq aKe:JQ X (L? elts x1 F6) (uQ (y9 "items") [] [] dt) (aGV aGt to):=by
 rw[azD s H R I h Ju Sz (Mp s H _ I h v ⟨x,H1,aF,r1,a,cq,ex,aL,q⟩)];subst ex;cases r1;obtain⟨hz,hs,vs,kv,o,es,ep,ho,hx,hd,hr⟩:=Nn aF.a_ aL;have dd:s1.heap.DictOf rS a vs:=⟨o,es,ep,ho,hx,hd,hr⟩;obtain⟨t1,t2,_⟩:=adB aF (EV cq (aq aL))
 refine⟨"dict","dict.items",PySem.F.plainAttrs_dict,PySem.F.slot_dict_items,PySem.F.type_dict_items,t1,t2,azR rfl ?_⟩;refine call_meetsIn PySem.F.slot_dict_items t1 PySem.F.entry_dict_items (PySem.F.args_dict_items_1 _) (meets_dict_items rS a hs) (lM (arN dd))
 rw[dX da ((afM (ee "dict_items") (i0 #[Δ a])).DictAt rS a vs ep) ⟨o,es,qB ho,hx,hd,hr⟩ (wpAny_pyIter_items (v:=s1.heap.objs.size) (Ž _ _) da ?_)];generalize akD:afM (ee "dict_items") (i0 #[Δ a])=h1
 rw[gM hsz (h1.objs.size=aqo 1) (by rw[←akD,Heap.size_push]) k1 (∀b u,aMZ=dD->arX=dD) (λb u e=>by rw[b! akD (qB e)]) bk (LW H1 s1 (h1.push (KB (ee "dict_itemiterator") (i0 #[cG,lO pM,Δ a,η 0 0,η vs.length 0,η ep 0,cG,cG])))) (Ù t' o e (k1 b o e))];rw[zp e_ (bk.S5 (o:=o) aL (qB (k1 a o ho)) (zW z z) (zW z z) (zW z z) (λ_ _ z=>nomatch z)) hl asA (by have:=mO hr.2.1;simpa using this.symm) fg (a≠h1.objs.size) (pN (by rw[aau (afK (Heap.lt_size ho))]))];refine⟨h1.objs.size,[h1.objs.size],_,_,_,rfl,e_,aSt a _ hd,⟨cG,cG,by rw[b! hl (GQ _)]⟩,oJ,q o⟩
 have e:b=h1.objs.size:=Ey
 rw[fz e (aF.JF (by rw[aau HD]) (by rw[gT ŧ (af0 (by rw[aau HD]))]))]
def aXS afq aKb:JQ X b3 (uQ (y9 "values") [] [] dt) (aGV aGw to):=by
 rw[azD s H R I h Ju Sz (Mp s H _ I h v ⟨x,H1,aF,r1,a,cq,ex,aL,q⟩)];subst ex;cases r1;obtain⟨hz,hs,vs,kv,o,es,ep,ho,hx,hd,hr⟩:=Nn aF.a_ aL;have dd:s1.heap.DictOf rS a vs:=⟨o,es,ep,ho,hx,hd,hr⟩;obtain⟨t1,t2,_⟩:=adB aF (EV cq (aq aL))
 refine⟨"dict","dict.values",PySem.F.plainAttrs_dict,PySem.F.slot_dict_values,PySem.F.type_dict_values,t1,t2,azR rfl ?_⟩;refine call_meetsIn PySem.F.slot_dict_values t1 PySem.F.entry_dict_values (PySem.F.args_dict_values_1 _) (meets_dict_values rS a hs) (lM (arN dd))
 rw[dX da ((afM (ee "dict_values") (i0 #[Δ a])).DictAt rS a vs ep) ⟨o,es,qB ho,hx,hd,hr⟩ (wpAny_pyIter_values (v:=s1.heap.objs.size) (Ž _ _) da ?_)];generalize akD:afM (ee "dict_values") (i0 #[Δ a])=h1
 rw[gM hsz (h1.objs.size=aqo 1) (by rw[←akD,Heap.size_push]) k1 (∀b u,aMZ=dD->arX=dD) (λb u e=>by rw[b! akD (qB e)]) bk (LW H1 s1 (h1.push (KB (ee "dict_valueiterator") (i0 #[Δ a,η 0 0,η vs.length 0,η ep 0])))) (Ù t' o e (k1 b o e))];rw[zp e_ (bk.S5 (o:=o) aL (qB (k1 a o ho)) (zW z z) (zW z z) (zW z z) (λ_ _ z=>nomatch z)) hl asA (by have:=mO hr.2.1;simpa using this.symm) fg (a≠h1.objs.size) (pN (by rw[aau (afK (Heap.lt_size ho))]))];refine⟨h1.objs.size,[h1.objs.size],_,_,_,rfl,e_,aTN a _ hd,tQ _ (GQ _) (by rw[hl];rfl),oJ,q o⟩
 have e:b=h1.objs.size:=Ey
 rw[fz e (aF.JF (by rw[aau HD]) (by rw[gT ŧ (af0 (by rw[aau HD]))]))]
abbrev Nd lH:n0:=kY (c8).bind (match yf with
 |CL=>.ok (Cp q (aV [AS q.1,q.2]),L9 .bD) (aa.set n (.bD kvs))
 |none=>aE)
abbrev S6 lH:n0:=kY (c8).bind (match yf with
 |CL=>.ok (Cp q q.2,L9 .bD) (aa.set n (.bD kvs))
 |none=>aE)
def aGW{n m:Nat}b6 ae3(h:vb (ο m) M=CL):GF .ai:=by
 rw[nw vb];rw[Cq];split at h
 ·rename_i z;cases h;exact z
 ·cases h
def avt(h:IJ o)aKe:Zy X aJ (L? elts x1 F6) (uQ (y9 "items") [] [] dt) (Nd d):=⟨by
 rw[ß (aV0 h.out Ju Sz) σ H R hh S M w hh ⟨ι,S,M,ρ,ao,sl,xJ⟩];cases aB:yf with
 |none=>rw[WJ]
 |some sD=>
  rw[QF n kvs sD aB w1]
  obtain⟨a,cq,rfl,ei,aL,hS,rk,rfl⟩:=M! s1 r1 aB
  refine mw a cq aL (ck ob);obtain⟨aey,hS',NT,aO9,s2,x2⟩:=s1.S5 ei (aGW aB) ob
  rw[aL]at NT;cases NT;refine w1 ι1 _ _ _ x2 s2 λi ι' S' M' H' up nY _=>?_
  rw[bq ic (S' a=ni .cw .bA) (We a h!) Hn (H' a=ni .cw .bA) (nY.sub a _ ic)]
  rw[RT y hy (λhl=>⟨cq,Hn,by rw[←rk.length];simpa using hl⟩)];rw[eX]at hy;rw[ayZ k z hk rfl hy];rw[KC v hv Nf ((rk.mono x2).get hk) ⟨cq,k,v,Hn,hv⟩ (cP u H2 wB)];obtain⟨p,hp,rfl,wB⟩:=wB;rw[wB cq k v Hn hv];rw[EB s3 x3 (nY.tree (o:=aV [kV k,v]) hp) ⟨ι',_,x3,s3,ÿ p _ h! (bN (avs k) (.one ((aQ.up up Nf).mono x3)))⟩]⟩
def aXT(h:IJ o)aKb:Zy X aJ b3 (uQ (y9 "values") [] [] dt) (S6 d):=⟨by
 rw[ß (aXS h.out Ju Sz) σ H R hh S M w hh ⟨ι,S,M,ρ,ao,sl,xJ⟩];cases aB:yf with
 |none=>rw[WJ]
 |some sD=>
  rw[QF n kvs sD aB w1]
  obtain⟨a,cq,rfl,ei,aL,hS,rk,rfl⟩:=M! s1 r1 aB
  refine mw a cq aL (ck ob);obtain⟨aey,hS',NT,aO9,s2,x2⟩:=s1.S5 ei (aGW aB) ob
  rw[aL]at NT;cases NT;refine w1 ι1 _ _ _ x2 s2 λi ι' S' M' H' up nY _=>?_
  rw[bq ic (S' a=ni .cw .bA) (We a h!) Hn (H' a=ni .cw .bA) (nY.sub a _ ic)]
  rw[RT y hy (λhl=>⟨cq,Hn,by rw[←rk.length];simpa using hl⟩)];rw[eX]at hy;rw[ayZ k z hk rfl hy];rw[KC v hv Nf ((rk.mono x2).get hk) ⟨cq,k,v,Hn,hv⟩ (cP u H2 wB)]
  rw[Qm wB wB];rw[gh (wB cq k v Hn hv) ⟨ι',S',nk,nY,aQ.up up Nf⟩]⟩
universe zE
universe L2
universe zE
section
namespace L2
open PySem PySem.Spec PyProof.Rows
section
variable {X:bT}{aJ:St->d_}
def DD Bc:ET BF (λxs H Q=>∃a cq,xs=[V.ref a]/\H a=W7 .bA/\∀l,ow l->Q (Δ l) (pJ l (aiB q q.1))):=by
 rw[Aj s H Q I r h]
 rw[eo a cq aL q h]
 rw[HN u cB r];cases cB;obtain⟨hz,hs,vs,kv,dd⟩:=Nn I.a_ aL;obtain⟨ep,da⟩:=dd.dictAt;rw[cV hl kv.len (PySem.W.kdl_call (PySem.W.kdl_dict (knd:=rS) (kvs:=vs) (ep:=ep) hs) (I.ok.hd hc) da (by rw[b! hl hz]) (Ph h' tk acc c' kp e kN))]
 rw[bq hv (∀(cq:qq)(vs:į),jS cq vs->∀cb:cC,cb.length=vs.length->(∀g! ZS,Av cb->∃(k:Key) (x:Value),jk vs (k,x)/\aO (wa k v))->ŗ (aiB q q.1)) (by
  intro cq vs kv
  induction kv with
  |nil=>intro cb hl _;cases cb with
   |nil=>rw[s8]
   |cons _ _=>cases hl
  |cons r t ih=>
   rename_i p q xs ys;intro cb hl hi;cases cb with
   |nil=>cases hl
   |cons z cb=>
    obtain⟨k,x,e1,e2⟩:=hi 0 z rfl;rw[azS bw e1];subst e1;obtain⟨r1,_⟩:=r;refine bN ?_ (ih cb (bh hl) λi v h=>bh (hi (i+1) v (bh h)));rw[ku r1];rcases fw e2 with⟨i,t,rfl,rfl⟩ | ⟨x',t,rfl,rfl⟩<;>exact lS t) a1o (Io (aiB q q.1) acc.toList) (hv cq vs kv acc.toList (by rw[az Array.length_toList kN.1]) λi v h=>kN.2 i v (by rw[b! Array.getElem?_toList h]))]
 refine OZ pW (I.laid (t':=tk) kp fe (show Li _ h' _ (ς (aiB q q.1)) from⟨by rw[qs hz],acc.toList,c',a1o,by rw[az Array.toArray_toList e]⟩)) _ My
abbrev SA l9:D1:=λxs M=>match xs with
 |[x]=>match vb x M with
  |nu _ kvs=>yb (Cp q (AS q.1))
  |none=>aE
 |_=>aE
def aTO jz:∀ae3{cq:qq},PX->p8 (Cp q (AS q.1)) (aiB q q.1):=by
 intro kvs cq h
 induction h with
 |nil=>rw[s8]
 |cons r t ih=>exact bN (by dsimp only;rw[b! r.1 (avs _)]) ih
def pd l9 Bc:ET BF (Ft (SA live)):=(DD hc).imp λvs H Q h=>by
 rw[XF E S M r w h SA]
 match xs,r,w with
 |[],r,w=>rw[cj]
 |x::y::z,r,w=>rw[cj]
 |[x],r,w=>
  rw[eS v r1 r.we];dsimp only at w;cases aB:vb x M with
  |none=>rw[p6 aB]
  |some sD=>
   rw[QF n kvs sD aB w];obtain⟨a,cq,rfl,ei,aL,hS,rk,_⟩:=M! ao r1 aB;exact mw a cq aL (YC ao (aTO rk) w).2
abbrev BM:sL:=λx as M=>match as with
 |[η i]=>jP x M λn xs=>match VB i with
  |some j=>match xs[j]? with
   |zg=>Ms (-(aY 9223372036854775808)≤i/\i<9223372036854775808) .ok y (sf n (xs.eraseIdx j))
   |none=>aE
  |none=>aE
 |_=>aE
def aTP:ur X "list.pop" (Ky BM):=è r aHP aVA v vs H Q h (by
 rw[EL x xs r rs BM];split at w
 ·rename_i i;rw[eS u r1 rs.we];cases Qj;obtain⟨n,p,ys,us,rfl,hi,eM,aL,hS,rr,w⟩:=adl ao r w;split at w
  ·rename_i j hj;split at w
   ·rename_i y hy;split at w
    ·rename_i hb;obtain⟨z,hz,Nf⟩:=rr.get hy;rw[jm hj' (awm hj).1 rr.length hj'];rw[OX ⟨p,us,i,j,z,rfl,rfl,aL,hb.1,hb.2,hj',hz,?_⟩ sp ep (YR ao hi hS (rr.eraseIdx j)) ι S _ _ ep sp Nf]
    ·rw[cj]
   ·rw[cj]
  ·rw[cj]
 ·rw[cj])
abbrev aFV:V->cH->aM->jA:=λx vs H Q=>∃l xs y,x=Δ l/\vs=[η 0,y]/\H l=gY/\aiR sizeLine/\Q .bb (pJ l (y::xs))
def aSu:Zp X "list.insert" aFV:=by
 intro pins s σ H x vs v us Q I rx rv h;obtain⟨l,xs,y,rfl,rfl,hH,hz,q⟩:=h;cases rx;rw[eo u u2 cB a42 (vals2 rv)];rw[r3 cB];rw[PN z n r e];rw[ah8 (ahA PySem.F.slot_list_insert _ e PySem.F.entry_list_insert (PySem.F.args_list_insert_3 _ _ _) (AutoListH.list_insert_list_int_val_1 l cb.toArray n 0 t u2 aC (by rw[ą])) e) (GV .bb (agz (u2::cb) hH e Ξ (bN a42 r) ?_) q)];rw[s7 zE]
abbrev alK:sL:=λx as M=>match as with
 |[η 0,y]=>jP x M λn xs=>Ms (aiR lim) .ok .bb (sf n (y::xs))
 |_=>aE
def aSd:ur X "list.insert" (Ky alK):=è r aFV aSu v vs H Q h (by
 rw[EL x xs r rs alK];split at w
 ·rw[eo u u2 r1 r2 rs.awn];cases Qj;obtain⟨n,p,ys,us,rfl,hi,eM,aL,hS,rr,w⟩:=adl ao r w;split at w
  ·rw[K_];rw[OX ⟨p,us,u2,rfl,rfl,aL,by rw[b! rr.length (adW hl)],?_⟩ sp ep (YR ao hi hS (bN r2 rr)) ι S _ _ ep sp Vu]
  ·rw[cj]
 ·rw[cj])
universe zE
universe L2
universe zE
section
namespace L2
open PySem PySem.Spec PyProof.Rows
abbrev awz dg rj dS:It:=
 ⟨λi H=>i<n/\∃xs x,Jd/\fP xs (n-1-i) x,λi H x H'=>H'=H/\∀xs,Jd->fP xs (n-1-i) x,λi _=>n≤i⟩
def aV1 DJ ae7 dS:Pw P w K (awz K a n) [it] (λi h=>i≤n/\h.IsRevIter it a (gO-1-i)) where
 mem:=Ξ
 obj:=λi h st b hb=>by
  rw[zJ e (b=it) e];obtain⟨_,o,e,c,d⟩:=st;rw[bC o e (λv z=>by rw[d]at z;cases z)]
 keep:=λi h h' st k=>⟨st.1,st.2.at λo e=>k it Ξ o e⟩
 item:=by
  rw[IZ];obtain⟨lC,st⟩:=st;obtain⟨hi,xs,x,hq,hx⟩:=hg;rw[H9 rv p];obtain⟨u,hu,cB⟩:=rv.get hx
  obtain⟨f0,f1,f2,f3,f4,jb⟩:=hf it Ξ
  rw[s9 e0 (gO-1-i=i_ (n-1-i)) av e0 st];rw[oA (wpAny_pyNext_rev_item st p.isList (x:=u) (bh hu) (B_ Ee sb)) aF (kq H (tT s)) (Ê t' (PI b o e sb e) f0 f1 f3 f4 jb)]
  obtain⟨o,e,c,d⟩:=id Ee
  rw[s9 e2 (i_ (n-1-i)-1=gO-1-i_ (i+1)) av e2 Ee];exact jh u (Zf (s:=tT s) e c d aC ⟨x,H,aF,cB,kU (vW ys (by rw[az (I.avD hy hq) hx])),⟨hi,Ee⟩,vV (HS b).1⟩)
 done:=by
  rw[IZ];rw[tw lC st st hg (n≤i) hg];rw[WR]
  have e0:gO-1-i = -1:=av
  rw[bV e0 st (wpAny_pyNext_rev_end (I.ok.hd hc) st λh' eb=>Ö t' (Pg b o e b o hb e) f0 f1 f3 f4 jb)]
 self:=λ_ _ _ _ _ st h=>wpAny_pyIter_revIter st.2 h
section
variable {X:bT}{aJ:St->d_}{a e b3:Expr}{d:br}{pos p p2:Pos}
abbrev aez lH:n0:=kY (c8).bind (match x with
 |ς xs=>.ok (xs.reverse,none) aa
 |ο n=>match aa[n]? with
  |gY=>.ok (xs.reverse,ajG xs) aa
  |_=>aE
 |_=>aE)
def aFj jz{q:Addr}dH aJb:ai4 K (awz K q xs.length) xs.reverse w S:=by
 intro i ι' S' M' H' up ao hc
 rw[KC vs hq rs (h ι' S' M' H' up ao hc) (dz x hx) (λhl=>by show Q5 i;simpa using hl)]
 rw[s9 hi I1 (aBX aLn.1) (List.getElem?_reverse hi) hx];rw[KC v hv r (rs.get hx) ⟨hi,vs,v,hq,hv⟩ (cP u H2 y)]
 rw[Qm y y]
 rw[rV (y vs hq) hv];cases this;exact⟨ι',S',nk,ao,r⟩
def aZP(h:IJ a)(hm:asv "reversed")(hg:Nt X "reversed" :=by rfl)anD:Zy X aJ b3 (uQ (cU "reversed" p) [a] [] pos) (aez d):=⟨by
 intro pins s σ H R I hw
 rw[zv S M w hw];have kM:o8 X [a] (Bi (abu d) Zs):=SH h.out adA (by rw[hs];rfl)
 rw[ff (UQ (adz I hg hm (u:=ee "reversed") (by first | rfl | decide) ?_ aC aC)) (apx (mF (kM pos pins s σ H (nB vs (∃q n,vs=[Δ q]/\(∃xs,iw X.K H1 q xs/\Ţ n)/\R (awz X.K q n) H1)) I ?_) us ⟨vs,H1,aF,r1,q,n,ev,⟨xs,hq,hn⟩,k⟩) (by rw[hs];rfl) rfl)]
 ·refine⟨ι,S,M,ρ,ao,sl,xJ⟩;cases x with
  |lst xs=>
   rw[Å q vs ic rs r1];refine mw q xs.length ⟨vs,.of (ai5 _ ic),rs.length.symm⟩ (Al (aFj (abe cN M2 H2 up s2 _)));rw[bC vs (.of (s2.sub _ _ (We _ ic))) (rs.up up)]
  |obj n=>
   rw[eS q ei (aQ.FD.mp r1)];obtain⟨o,eM,mo⟩:=s1.addr ei;simp only[eM]at w1;cases o with
   |lst xs=>
    rw[aga aL rs mo];refine mw q xs.length ⟨vs,.of aL,rs.length.symm⟩ (Al (aFj (abe cN M2 H2 up s2 hc)));obtain⟨_,alD,Hn,NS⟩:=s2.ob n q _ (up.ix _ _ ei) hc;rw[bC alD (.of Hn) NS]
   |_=>rw[nq]
  |_=>rw[nq]
 ·subst ev;rw[HN u cB r1];cases cB;rw[xW rv pl hz (aF.list hq)];rw[cV hl rv.length (call_reversed_list pl.isList ?_)]
  have e0:i_ cb.toArray.size-1=gO-1-i_ 0:=by rw[fh]
  rw[e0];rw[dX hR ((s1.heap.push (revObj q (gO-1-i_ 0))).IsRevIter s1.heap.objs.size q (gO-1-i_ 0)) (Ž _ _) (wpAny_pyIter_revIter (s:=mh s1 (s1.heap.push (revObj q (gO-1-i_ 0)))) hR ?_)];refine aqu aoL _ _ H1 rfl (Ù t' o e e) (aV1 q _ n) ⟨HC,hR⟩ oJ k
  have eb:b=s1.heap.objs.size:=Ey
  rw[fz eb (aF.JF fe Rb)]⟩
abbrev a5b dg Uk(ts:TO):TE:=vm (te σ H (nB x (ts σ H1 (ny k (k=aN (-1)/\∃a xs,x=Δ a/\iw K H2 a xs/\∀p,b9 (H2 p)->Q (Δ p) (HZ H2 p xs.reverse))))))
def aXU{st:Expr}{te:TE}{ts:TO}ZX(hs:Dq X aih ts):pX (xu e (.Slice none none aih p2) pos) (a5b X.K te ts):=by
 rw[I5 s H Q h];rw[ff (Subscript_ (mF (zH s σ H _ I h) v ⟨x,H1,aF,r1,aB⟩)) (wpAny_Slice ?_)];rw[evalPart_none]
 rw[ff HB (LB (Me (hs pins s1 σ H1 _ aF aB) vk ⟨k,H2,bk,pk,gQ,aZ⟩))];subst gQ;rw[eo l xs hx q aZ];cases r1;have q9:LW H2 s2 (aqf Xr (i0 #[cG,cG,vk])):=bk.kept (t':=s2.toks) (uS ob q q);rw[xW r ht hz (q9.list hx)];rw[fS hlen r.length hg (j7 (getItem (Δ l) aj0) (Iu X Q) (mh s2 (aqf Xr (i0 #[cG,cG,vk])))) (by
  rw[mC (wpAny_getItem_list_slice ht.isList aMk cG cG pk Ξ ?_ aCb) PySem.W.krv_pick];refine OZ (Δ _) (q9.laid (t':=s2.toks) (o:=ς xs.reverse) (uS ob q q) fe ?_) _ (q9.a_.fresh fe);refine⟨by rw[az List.length_reverse hz],cb.reverse,0,Vals.reverse r,?_⟩;have:=Heap.get?_push_size (aqf Xr (i0 #[cG,cG,vk])) (o:=Ff (lP cb.toArray.toList.reverse.toArray)) rfl;rw[zf])]
 rw[Pn (j7 (subscriptTail e (.Slice none none aih p2) (Δ l) aj0) (Iu X Q) (mh s2 (aqf Xr (i0 #[cG,cG,vk])))) (tail_any (ops:=[Δ l,aj0]) ht.isList.typeIs slot_list_getitem.lookup hg bU)]
abbrev axZ l9 l_(k:eL)cT:ng:=ù (k=aN (-1)) (match CO with
  |jl=>yb xs.reverse
  |none=>aE) aE
abbrev amw l9(da:br)(dk:Nq):br:=ahC (da ρ M).bind (dk ρ aa).bind k (axZ live x k M2)
def aXV l9{st:Expr}{dk:Nq}ZZ(hk:aeJ X aJ aih dk):z3 xu e (.Slice none none aih p2) (amw live d dk):=⟨by
 rw[z? (aXU he.out hk.out)];refine⟨ι1,aW,aa,ρ,s1,gi,ef.bind (c7:=amS) w1 λι2 cN M2 H2 l l' e2 s2 r2 w2=>?_⟩;cases r2;unfold axZ at w2;split at w2
 ·rename_i gQ;cases h1:Yn M2 x with
  |none=>rw[agI h1 w2]
  |some xs=>
   rw[h1]at w2;rw[Fx p aL rr s2 OT h1];obtain⟨_,w3⟩:=YC s2 rr.reverse w2;exact⟨gQ,p,vs,rfl,.of aL,w3⟩
 ·rw[arT]⟩
universe zE
universe L2
universe zE
end
mutual
section
namespace L2
open PySem PySem.Spec PyProof.Rows
section
variable {X:bT}{aJ:St->d_}
abbrev amn:sL:=λx as M=>match as with
 |[]=>jP x M λn _=>.ok .bb (Qt n [])
 |_=>aE
def aFk:ur X "list.clear" (Ky amn):=è r aHQ aVB v vs H Q h (by
 rw[EL x xs r rs amn];split at w
 ·rw[XG rs rs];obtain⟨n,p,ys,us,rfl,hi,eM,aL,hS,rr,w⟩:=adl ao r w;rw[OX (tY p us rfl aL ?_) sp ep (YR (ys:=[]) ao hi hS cW) ι S _ _ ep sp Vu]
 ·rw[cj])
universe zE
universe L2
universe zE
section
namespace L2
open PySem PySem.Spec PyProof.Rows
mutual
noncomputable def aj.gF(f:Xi):aj->aj
 |ς xs=>ς (Ė f)
 |aV xs=>aV (Ė f)
 |ο m=>ο (f m)
 |.bb=>.bb
 |.ah b=>.ah b
 |η i=>η i
 |Ω x=>Ω x
 |.cY ns=>.cY ns
noncomputable def aj.Y!(f:Xi):dY->dY
 |[]=>[]
 |x::xs=>aj.gF f x::Ė f
end
mutual
noncomputable def aj.inl Bk:tO aj
 |ς xs=>Ę l
 |aV xs=>Ę l
 |ο m=>i7 m l
 |.bb=>true
 |.ah _=>true
 |η _=>true
 |Ω _=>true
 |.cY _=>true
noncomputable def aj.Y? Bk:tO dY
 |[]=>true
 |x::xs=>Ě x&&Ę l
end
abbrev Tc o?(f:Xi)ZT:abv:=Cp q (q.1,aj.gF f q.2)
abbrev NU o? Bk ZT:Bool:=kvs.all λq=>Ě q.2
abbrev dm.gF(f:Xi):dm->dm
 |ς xs=>ς (Ė f)
 |.ai kvs=>.ai (Tc f kvs)
 |.o6 kvs=>.o6 (Tc f kvs)
 |.bD kvs=>.bD (Tc f kvs)
 |cQ C fs=>cQ C (Tc f fs)
 |bG C=>bG C
 |tM=>tM
abbrev dm.inl Bk:tO dm
 |ς xs=>Ę l
 |.ai kvs=>NU l kvs
 |.o6 kvs=>NU l kvs
 |.bD kvs=>NU l kvs
 |cQ _ fs=>NU l fs
 |bG _=>true
 |tM=>true
abbrev q7 Bk Bj:bu:=ρ.map λo=>o.bind λx=>ahl (Ě x) (aBP x)
abbrev yI Bk cT:aS:=l.map λi=>(G8 i).gF l.idxOf
abbrev Za Bk cT:Bool:=decide l.Nodup&&l.all λi=>jC (rE i)&&(G8 i).inl l
abbrev amd Bk lH:br:=Ce M (ù (Za l M) (match d (q7 l ρ) (yI l M) with
 |.ok (.ah b) _=>.ok (.ah b) (M.map λ_=>tM)
 |_=>aE) aE)
abbrev ad6 Bk(d:cM):cM:=Ce M (ù (Za l M) (match d (q7 l ρ) (yI l M) with
 |.fk (.ah b) _=>.fk (.ah b) (M.map λ_=>tM)
 |_=>aE) aE)
section
variable {K:eY}{ι:cz}{S H:aM}{M:aS}{l:gf}
abbrev Zj Bk(ι:cz):cz:=l.map λi=>ι.getD i 0
def aXW bf iB(hn:n∈l)(h:vA):fP CS (l.idxOf n) a:=by
 rw[kF Zj eX (List.getElem?_eq_getElem (List.idxOf_lt_length_iff.mpr hn)) List.getElem_idxOf];simp[List.getD_eq_getElem?_getD,h]
mutual
theorem aQ.view:∀ZW,jf->aO (Ě x)->aQ K CS S (aBP x) v
 |.bb,v,h,_=>by rw[aj.gF];simpa[aQ] using h
 |.ah b,v,h,_=>by rw[aj.gF];simpa[aQ] using h
 |η i,v,h,_=>by rw[aj.gF];simpa[aQ] using h
 |Ω x,v,h,_=>by rw[aj.gF];simpa[aQ] using h
 |ς xs,v,h,hi=>by
  rw[aj.gF,aQ];rw[aQ]at h;rw[aj.inl]at hi;rw[Ig a e q h a e q (bx.view xs vs r hi)]
 |aV xs,v,h,hi=>by
  rw[aj.gF,aQ];rw[aQ]at h;rw[aj.inl]at hi;rw[Ig a e q h a e q (bx.view xs vs r hi)]
 |ο n,v,h,hi=>by
  rw[aj.gF,aQ];rw[aQ]at h;rw[aj.inl]at hi;rw[nr a e q h a e (aXW (of_decide_eq_true hi) q)]
 |.cY ns,v,h,_=>by
  rw[aj.gF,aQ];rw[Cn aQ h]
theorem bx.view:∀ZL,gg->aO (Ę l)->bx K CS S (Ė l.idxOf) vs
 |[],vs,h,_=>by rw[aj.Y!];simpa[bx] using h
 |x::xs,vs,h,hi=>by
  rw[aj.Y!,bx];rw[bx]at h;rw[Qv aj.Y? hi];rw[xr v r e h1 h2 h v r e (aQ.view x v h1 hi.1) (bx.view xs r h2 hi.2)]
end
def dA.view o? Gq(hi:aO (NU l kvs)):dA K CS S (Tc l.idxOf kvs) cq:=by
 rw[nw dA]
 induction h with
 |nil=>rw[s8]
 |cons r t ih=>
  unfold NU at hi ih;rw[Qv List.all_cons hi];exact bN ⟨r.1,aQ.view _ _ r.2 hi.1⟩ (ih hi.2)
def yw.view iB aog(hi:aO (o.inl l)):yw K CS S H a (o.gF l.idxOf):=by
 cases o with
 |gone=>exact h
 |lst xs=>rw[CW q z q (r.view _ _ hi)]
 |ai xs=>rw[CW q z q ar7]
 |o6 xs=>rw[CW q z q ar7]
 |bD xs=>rw[Ig ob z q h ob z q ar7]
 |ins C fs=>rw[B0 z dx vs q h z dx vs q ar7]
 |exc C=>exact h
def aIK(h:ź l M):l.Nodup/\∀i∈l,rE i/\aO ((G8 i).inl l):=by
 rw[nw Za];rw[Bool.and_eq_true,List.all_eq_true]at h;rw[Ld (aza h) i hi];rw[rV (h.2 i hi) Bool.and_eq_true];rw[b7 (aza this) this.2]
def i?.view(h:rt)(hv:ź l M):i? K CS S (yI l M) H:=by
 rw[VA hn hl (aIK hv) (Ş h.sub (by unfold Zj yI;simp) ?_ n a o)]
 ·rw[zM Zj (List.pairwise_map.mpr (aLy hn))];intro i k hi hk fg e;apply fg;rw[bI a1 (hl i hi).1 a2 (hl k hk).1];rw[←h.len]at a1 a2;rw[List.getD_eq_getElem?_getD,List.getD_eq_getElem?_getD,aLx,List.getElem?_eq_getElem a2]at e;exact aEo h.nd a1 a2 e
 ·unfold Zj at h1;unfold yI at h2;rw[eX]at h1 h2;cases e:l[n]? with
  |none=>rw[e]at h1;cases h1
  |some i=>
   rw[e]at h1 h2;rw[bI hi (hl i (List.mem_of_getElem? e)) a1 hi.1];rw[←h.len]at a1;cases h1;cases h2;refine yw.view (h.ob i _ _ ?_ ?_) hi.2
   ·show qJ ι i (ι.getD i 0);rw[Q0 a1];rfl
   ·rw[Q0 hi.1];rfl
def Slots.view ZM(h:BY):u5 CS S (q7 l ρ) σ:=by
 rw[Lc (by rw[jW q7 eH h.1]) i x hx];rw[Ct q7 hx eX hx];cases e:ρ[i]? with
 |none=>rw[e]at hx;cases hx
 |some o=>
  rw[e]at hx;cases o with
  |none=>cases hx
  |some y=>
   simp only[Option.map_some,Option.bind_some,Option.some.injEq]at hx;split at hx
   ·rename_i hi;cases hx;rw[L0 v (h.2 i y e) v h1 (aQ.view y v h2 hi)]
   ·cases hx
def i?.back{ι1:cz}{aW H1:aM}{aa:aS}(h:rt)(hv:ź l M)(e:Ext CS S H ι1 aW H1)(s1:i? K ι1 aW aa H1):EJ aW H1/\zV aW (M.map λ_=>tM) H1:=by
 rw[tw hn hl (aIK hv) lC (∀{b},b∉ι->b∉CS) (λ{b} hb hm=>by
  unfold Zj at hm;rw[xA i hi hm];have a1:=(hl i hi).1;rw[←h.len]at a1;rw[List.getD_eq_getElem?_getD,aLx]at hb;exact hb (List.getElem_mem a1))]
 refine⟨⟨MP _ _ h h e.sm,List.take_length,mH u h1 h2 h3⟩,s1.sub,by rw[qs h.len],h.nd,tC n a o h1 h2⟩
 ·rw[nr k1 k2 k3 (e.fr b u h1 (lC h2) h3) k1 h2 k3]
 ·rw[eX]at h2;cases e2:M[n]? with
  |none=>rw[e2]at h2;cases h2
  |some v=>
   rw[e2]at h2;cases h2;show ∃o,H1 a=b8;rw[abr (a∈CS)]
   ·rw[zU k hk (List.getElem?_of_mem hm) hk1 (e.ix k a hk)]
    rw[An fK (k<aa.length) (by rw[←s1.len];exact(List.getElem?_eq_some_iff.mp hk1).1) (s1.ob k a _ hk1 azI).there]
   ·obtain⟨u,hu⟩:=(h.ob n a v h1 e2).there;cases hS:S a with
    |none=>rw[b7 u (e.fr a u hu hm hS).1]
    |some w=>rw[b7 w (ai5 _ (e.sm _ _ hS))]
universe zE
section
variable {X:bT}{aJ:St->d_}
def aXX Bk Ko e7(h:akh):jg e (amd l d):=⟨h.out.imp λσ H Q w=>by
 rw[zv S M w w];rw[zX amd];split at w
 ·rw[asz hv ⟨CS,S,yI l M,q7 l ρ,ao.view hv,sl.view,?_⟩];split at w
  ·rename_i b aa hd;rw[hd];intro ι1 aW H1 v e1 s1 r1;rw[BB a1 a2 (ao.back hv e1 s1) (w ι aW H1 v a1 a2 ?_)];rw[iq,aQ]at r1⊢;exact r1
  ·rw[cj]
 ·rw[cj]⟩
def aV2 Bk{st:yY}{d:cM}(h:HT X st d):HT X st (ad6 l d):=⟨h.out.imp λD σ H w=>by
 rw[zv S M w w];rw[zX ad6];split at w
 ·rw[asz hv ⟨CS,S,yI l M,q7 l ρ,ao.view hv,sl.view,?_⟩];split at w
  ·rename_i b aa hd;rw[hd];intro ι1 aW H1 v e1 s1 r1;rw[BB a1 a2 (ao.back hv e1 s1) (w ι aW H1 v a1 a2 ?_)];rw[rQ aQ r1 r1]
  ·rw[cj]
 ·rw[cj]⟩
universe zE
universe L2
universe zE
section
noncomputable section
namespace Sb
open PySem L2
abbrev mQ:D1:=xo 1 (ay Đ [(MM ak)])
abbrev AE(C0:D1):D1:=xo 2 (jo false [none,none,u_] (Ye ak) (ud 2 (qP (bR 0) (L8 (bR 1)))) (ajt (iu false) (ay C0 [aG])) ak)
abbrev R_(acz:D1):D1:=MF 4 (MR (dc (ay acz [ak,aH])) (Im (kC (dq true) aG) (bZ bH))) (dC .bb)
abbrev aur(MX:D1):D1:=xo 3 (cD (jd false) (ay MX [ak,aG,aH]) (dC .bb))
abbrev ab9(C0:D1):D1:=gq 2 (B8 (kX r4 Ql) (UW RW (dc (ay C0 E1)) O4) (ahd (xX 1) (dI [(xX 2),(xX 3)]) (bZ (sd (xX 1)))))
abbrev aus:D1:=xo 1 (kX r4 agt)
abbrev auC(Yp:D1):D1:=MF 2 (CF (dP (ay Yp E1)) (vz (iu false) (xX 3) (MM aG)) (bZ ë)) (dC gm)
abbrev acd(aDt aDf:D1):D1:=gq 2 (VW (ay aDt E1) (Aq aDf))
abbrev X6(bj:Addr)(pf C0:D1):D1:=gq 2 (Fo (kX VR (Θ 0)) (awG bj [(dj "a yard has at least one piece")]) (zG l7 VR (Θ 16) (fV bj [none,aN (Θ 16),none]) (ig (dc ak) (bR 1) (O_ pf (ay C0 [aG])))))
abbrev X7(bj:Addr)(acz:D1):D1:=gq 3 (ig (dc aG) (bR 2) (rB (WE (ajt Hk (Θ 0)) (ajt l7 (Θ 999)) (fV bj [none,Mr,none,aN (Θ 999)])) (zG l7 (ajB [aH]) (Θ 1) (fV bj [none,Mr,none]) (Im (cD l7 (j4 (ay acz [ak,aH])) (Θ 2)) (fV bj (CM Mr))))))
abbrev X_(bj:Addr)(C0:D1):D1:=gq 4 (zG l7 (tF aG) (Θ 16) (fV bj [none,aN (Θ 16),none]) (ig (dc aG) (ud 2 (qP (bR 2) aa5)) (zG l7 (ajB [(cA [aH,bH])]) (Θ 1) (fV bj [none,Mr,none,aN bH]) (rB (WE (vv (kC Hk (Θ 0))) (vv (kC abX VR)) (fV bj [none,aN bH,none])) (Im (cD (iu true) aH (ay C0 [(d5 ak bH)])) (fV bj [none,aN bH,none,Mr]))))))
abbrev auj(c!:Addr):D1:=RD 1 (ř c! "steps" H_) (ř c! "ahead" H_) (ř c! "is_out" (u9 .ah))
abbrev at6(c!:Addr):D1:=xo 1 (jo false pS (dc (aq4 c!)) (bR 0) j_ r4)
abbrev auO:D1:=xo 1 (cA [r4,(xX 2),(xX 1)])
abbrev ph(aDz Yy:D1):D1:=gq 6 (Hj (Aq aDz) 2 H_ (KD (ig (Ye aG) (ud 2 (qP (bR 3) (L8 (bR 4)))) (ig (dc (ay Yy [ak,aG,(dI []),(Eg bY 0),(BV bY)])) (bR 5) (LZ aH [(cA [bH,fU])]))) (Fm aH)))
abbrev aDP(aDA MX Yy:D1):D1:=gq 9 (zG (iu false) bY akc (bZ (dI [])) (Ø 5 H_ (ig (dc (ay aDA [(d5 ak bY),bH])) (bR 6) (uU 7 (nD aH (sd (cA [bY,bH,jM]))) 8 (ay MX [ak,bY,jM]) (bp (wF (vz (jd false) (ae 8) (dC .bb)) (vz (iu false) (cA [jM,(ae 8)]) aG)) (LZ fU [jL]) (Ź alJ fU [(ay Yy [ak,aG,jL,jM,(ae 8)])])))) (Fm fU)))
abbrev akO sR(avv:D1):D1:=RD 4 (EN "found" (ay avv [aG,aH])) (EN "pieces" (ay Đ [aG])) (xt (EN "signals" (ay Đ [aH])) (EN "wait" bH) (xt (EN "ticks" (Θ 0)) (EN "locks" mr) (xt (EN "lying" (jo true pS (dc aG) (bR 0) j_ (dC gm))) (EN "greens" mr) (rB (EN "falls" mr) (EN "trains" mr)))))
abbrev at7 sR(FA:D1):D1:=MF 2 (Aq FA) (adI aq6 aG)
abbrev akI sR(FA Yc:D1):D1:=RD 4 (Aq FA) (pb (Nd Ly) (ig (Nd Ly) (ud 2 (qP (bR 2) aa5)) (Im (Q? (ay Yc [bH])) (bZ aH)))) (bZ (dC .bb))
abbrev Sa(Yc CY:D1):D1:=xo 2 (ay Yc [(ay CY [ak,aG])])
abbrev nz(j8:Addr):D1:=ahg 3 (ř j8 "until" aG) (ř j8 "near" aH)
abbrev ach sR(Yg v9 X8 aEE v5:D1):D1:=gq 4 (Hj (Aq Yg) 2 (ay v9 [ak,aG]) (xt (MR (dc aH) (O_ X8 Fg)) (MR (dc aH) (rB (nS aq6 Fg aG) (nS aq7 Fg (ay aEE [(Oz ĺ Fg),bH])))) (nS VE (ay v5 [ak,aG]) aG)))
abbrev Yr(j8 eZ bl:Addr)(Yg v5 aDB Jg aDQ v_ v9:D1):D1:=gq 4 (Hj (Aq Yg) 2 (ay v5 [ak,aG]) (Fo (cD (dq true) (adI VE aH) aG) (fV eZ (CM nv)) (Hj (mP (Nc VE aH)) 3 (ay aDB [ak,aH]) (bp (wj (vz l7 (Ed "wait") (Θ 0)) (wF (vv (kC Wd (dC .bb))) (dP (ay Jg [ak,aH])))) (Š LG (C? j8 aDQ [(nD aq5 (Ed "wait")),bH])) (O_ v_ (ay v9 [ak,aG]))))))
abbrev au8(j8 bl:Addr)(v_ v9:D1):D1:=ahg 2 (EN "ticks" (ì aq5 (Θ 1))) (ig (dc (ay Ln [LG])) (bR 1) (L3 (cm j8 "until" (om LG)) aq5 (VW (Nc LG aG) (O_ v_ (ay v9 [ak,aG])))))
abbrev acR sR(hE X8:D1):D1:=RD 2 (Aq hE) (Aq X8) (Š aq7 (uw (s6 (om aq7) (dC gm)) ë (dC gm)))
abbrev Ys sR:D1:=gq 3 (ig (dc aG) (bR 2) (mP (Nc aq6 ya)))
abbrev la sR:D1:=xo 2 (ahH aA6)
abbrev pj sR:D1:=xo 2 (BV (om aA6))
abbrev akG sR(Yq:D1):D1:=Ū 3 2 (om apH) (bZ (ay Yq [ĺ,(xy 1),ya]))
abbrev at8(c! bl:Addr)(MX:D1):D1:=Ŭ 4 2 (mK (cm c! "steps" aG)) 3 (cA [(xy 2),(ay MX [ĺ,ya,(xy 2)])]) (B8 (kC (iu false) apH) (fI Jv apH [bH]) (bZ (dC .bb)))
abbrev mx sR(hG:D1):D1:=MF 4 (pb (Nd Ly) (ig (Nd Ly) (ud 2 (qP (bR 2) aa5)) (L3 (ay hG [ak,bH]) aG (bZ aH)))) (dC .bb)
abbrev akH afv:D1:=gq 2 (Fo (EH (iu true) Ly) (fV eZ [none,nv,none]) (bZ (om Ly)))
abbrev aDg afv(Fy:D1):D1:=gq 2 (CG (dP (ay Fy [aA6,aG])) (fV eZ [none,nv,none]))
abbrev aDh afv(Fy:D1):D1:=gq 2 (CG (dP (ay Fy [ĺ,aG])) (fV eZ [none,nv,none]))
abbrev at9 afv(FA Yp:D1):D1:=gq 2 (VW (ay FA [ak,aG]) (CG (dP (ay Yp [(om ĺ)])) (fV eZ [none,nv,none])))
abbrev m3 afv(Fy:D1):D1:=gq 2 (CG (dP (ay Fy [apH,aG])) (fV eZ [none,nv,none]))
abbrev dn:D1:=xo 2 (Zg (EH abX (Θ 0)) (EH Hk VR))
abbrev at5(fi bl:Addr)(Yd:D1):D1:=gq 2 (Fo (Q? aq6) (fV fi [none,nv,none]) (Im (cD Wd (yC bl "train_in" Yd ak [aG]) (dC .bb)) (fV fi [none,nv,none])))
abbrev au1(fi eZ c! bl:Addr)(hJ Jg Yo aDC Yh:D1):D1:=RD 5 (xq hJ) (CG (dP (ay Jg [ak,aH])) (fV eZ [none,Mr,none])) (Fo (Q? Ly) (fV fi [none,nv,none]) (Rv 3 Yo [ak,aG,aH] 4 (C? c! aDC []) (VW (ay Yh [ak,bY,bH]) (Š Ly bY))))
abbrev FC(g6 c! bl:Addr)(CY m4 Yq Yh Yo hG:D1):D1:=gq 4 (Rv 2 CY [ak,aG] 3 (mK (VU c!)) (rB (Ls (cm c! "is_out" aH) (fV g6 [none,nv,none])) (bp (dP (cm c! "ahead" aH)) (xq m4) (bp (dP (ay Yq [ĺ,Fg,(aaw 2)])) (wc c! "is_out" aH (Rg .ah)) (H6 Yh [ak,aH,(ay Yo [ak,aG,(ay hG [ak,aH])])])))))
abbrev au9(fi c! bl:Addr)(CY:D1):D1:=ahh 3 2 (ay CY [ak,aG]) (CF (s6 (j4 (VU c!)) (Θ 1)) (M? (dP (cm c! "is_out" aH))) (fV fi [none,nv,none])) (Ź aes (VU c!) []) (L3 (j4 (VU c!)) (Θ 0) (mP (Nc Ly aG)))
abbrev ava(j8 g6 c! bl:Addr)(CY v_ avw:D1):D1:=ahh 4 2 (ay CY [ak,aG]) (Ls (cm c! "is_out" aH) (fV g6 [none,nv,none])) (O_ v_ (cm c! "ahead" aH)) (xt (wc c! "ahead" aH H_) (wc c! "steps" aH (jo true pS (aez (VU c!)) (bR 0) j_ (ay avw E1))) (pb (S6 LG) (MR (S6 LG) (L3 (ah1 j8 bH) aG (wc j8 "near" bH (dC .bb))))))
abbrev ab2(j8 g6 bl:Addr)(Jg v5:D1):D1:=gq 5 (zG (jd false) aH (dC .bb) (fV g6 (CM nv)) (zG (iu false) aH VE (bZ (abf VE)) (rB (pb (Nd LG) (ig (Nd LG) (ud 2 (qP (bR 3) (L8 (bR 4)))) (CF (s6 (ay v5 [ak,bH]) aH) (wF (s6 (ah1 j8 bY) aG) (dP (ay Jg [ak,aH]))) (bZ bH)))) (fV g6 [none,nv,none,Mr]))))
abbrev lp(c! bl:Addr)(v5 v9 m4:D1):D1:=RD 3 (mP (adJ VE (ay v5 [ak,aH]) (dC .bb))) (mP (adJ LG aH (dC .bb))) (rB (wc c! "ahead" aG (ay (sy true) [(ay v9 [ak,aH])])) (Aq m4))
abbrev auD(c!:Addr)(v_:D1):D1:=Ū 3 2 (fI BM (cm c! "ahead" aG) [(Θ 0)]) (VW (ay v_ [ak,(sd aH)]) (Ź alK (cm c! "steps" aG) [(Θ 0),aH]))
abbrev auP:D1:=MF 2 (Ls ak (bZ (d5 ak (EH gr VR)))) (Θ 0)
abbrev au2(avx:D1):D1:=Ŭ 3 2 (Qo (Ii (ay avx [ak,aG]) (Θ 104729) (Mu (Θ 1))) (Θ 4294967291)) 2 (Qo (cD (lx false) aH (Θ 48271)) (Θ 4294967279)) (bZ (Qo (ì (cD (lx false) (cD v7 aH (Θ 64)) (Θ 69621)) aH) (Θ 4294967231)))
abbrev aut:D1:=Ū 4 3 (UW [none,u_,some 2,some 0] (o3 [VR]) (wj O4 (ajt (iu false) (MM (ajP bH))))) (bZ (uw (dP bH) Fg (dC .bb)))
abbrev auu(lg:D1):D1:=Ŭ 11 2 H_ 3 (dI []) (Ø 4 (Θ 0) (ig (o3 [(ahD (Θ 1) lg [ak,aG] (Θ 8))]) (bR 5) (Rv 6 lg [ak,(nD (Mu (Θ 1)) fU)] 7 H_ (Hj (ig (o3 [(ais (Θ 2) Nk [(cD Hk (Lu 6 (Θ 5)) (Θ 3))])]) (bR 8) (Rv 9 lg [ak,(nD (Ii (Mu (Θ 10)) (Θ 3) fU) (ae 8))] 10 (ahG 7 (dc bH) akb) (bp (wj (dP (ae 10)) (vz Hk (Lu 9 (Θ 8)) (U9 (dI [(Θ 7),(Θ 2),(Θ 2)]) 8))) (LZ jL [(d5 (ae 10) (cD gr (cD v7 (ae 9) (Θ 8)) (ay Te [(Θ 4),(j4 (ae 10))])))]) (VW (fI p! jL [(Qo (Ii (ay lg [ak,(Mu (Θ 9))]) (Θ 37) bY) Lq)]) (lW 4 (ì bY (Θ 1))))))) 3 (nD (ahG 3 (dc jL) akb) (ahG 7 (dc bH) akb)) (LZ aH [(ais (cA [(aa1 [Ql,agt] (cD axU (j4 jL) (Θ 2)))]) ami [jL])])))) (Fm aH))
abbrev auk(lg qM:D1):D1:=Ū 9 3 H_ (Hj (ig (o3 [(tF aH)]) (bR 4) (ig (Yi (MM (d5 aH bY))) (bR 5) (Rv 6 lg [ak,(nD (Mu (cD (lx false) (Θ 3) bY)) (tF bH))] 7 (cD (jd false) (ay qM [aH,bY,fU]) (dC .bb)) (WE (s6 (Lu 6 (Θ 3)) (Θ 0)) (wj (dP jL) (s6 (Lu 6 (Θ 3)) (Θ 1))) (LZ bH [(cA [fU,bY])]))))) 8 (zA lg [ak,(Mu (Θ 30))] (nD (Θ 1) (tF bH))) (bZ (OU (nD (ad3 false bH (yv (ae 8)) akr) (OU bH (yv (ae 8)))) (yv (Θ 16)))))
abbrev auQ:D1:=gq 2 (B8 (kX r4 Ql) (UW RW (Yi (MM ak)) O4) (bZ (uw (r6 (xX 1)) (dI [(xX 2),(xX 3)]) (sd (xX 1)))))
abbrev aD3(avy qM YK:D1):D1:=Ū 9 5 H_ (B8 (kC (iu false) akc) (Fm fU) (KD (ig (dc (ay avy [(d5 ak bH),bY])) (bR 6) (uU 7 (nD aH (sd (cA [bH,bY,jM]))) 8 (ay qM [ak,bH,jM]) (bp (wF (vz (jd false) (ae 8) (dC .bb)) (vz (iu false) (cA [jM,(ae 8)]) aG)) (LZ fU [jL]) (lW 5 (cD (sq true) fU (ay YK [ak,aG,jL,(ae 8),jM])))))) (Fm fU)))
abbrev aDD(YK:D1):D1:=gq 4 (Ø 2 (dI []) (MR (o3 [(tF aG)]) (lW 2 (nD aH (jo false (ŝ 3) (dc (ay YK [ak,aG,(dI []),(BV (d5 aG bH)),(mK (d5 aG bH))])) (bR 0) j_ (cA [aG,ak]))))) aH)
abbrev acS(aD4:D1):D1:=Ŭ 5 3 (jo true pS (dc ak) (bR 0) j_ (uw (s6 r4 agt) (dC gm) (dC .bb))) 4 (Dh [("pieces",ak),ayY aG,("wait",aH),("points",bH),("green",(dI [])),("now",(Θ 0))]) (aiq bY (dj "routes") (ay aD4 [ak,aG]) (nS bY (dj "locks") (cD (lx true) (sd (dC .bb)) VR)) (aiq bY (dj "falls") mr (nS bY aBk mr) (bZ bY)))
abbrev my:D1:=MF 3 (pb (AO xB) (lW 2 (UW [none,u_,some 0] (AO xB) (vv (Q? (jo false pS (dc (mK (ajP (d5 aH (dC Q6))))) (bR 0) j_ r4)))))) (uw (dP aH) ya (dC .bb))
abbrev auR(acn:D1):D1:=xo 2 (aer (cD Wd (om ő) (dC .bb)) (cD Wd (ay acn [ak,aG]) (dC .bb)))
abbrev auJ:D1:=gq 2 (nS ak (dj "locks") (jo true RW (dc ő) (bR 0) j_ (uw (vv (cD (dq false) ak aG)) (dC .bb) ak)))
abbrev ald(pv:D1):D1:=ahh 5 2 (BV (om Lz)) (Ls (ay ana [(jo false (ŝ 0) (dc aH) (bR 0) j_ (ay pv [aG,r4]))]) (bZ ă)) (MR (dc aH) (Hj (nS ő Fg aG) 4 (Oz VF Fg) (L3 (Eg bY 0) agt (nS aBl Fg (aa1 [ë,(dC gm)] (ay Nk [(cD (iu false) (Eg bY 2) (MM bH))])))))) (ajU (nS ak aA5 (nD ŕ (sd aG))))
abbrev auL:D1:=gq 8 (Hj (JN (om QE) (ud 2 (qP (bR 2) aa5))) 4 H_ (KD (pb (AO xB) (ig (AO xB) (bR 5) (uU 6 (U9 xB 5) 7 (mK (mK jM)) (CF (s6 (BV jM) (dI [])) (wj (M? (dP (Eg jM 2))) (wj (s6 (Eg jL 2) aH) (Lw (mK jL) bH))) (LZ bY [fU]))))) (Fm bY)))
abbrev acv(pw qM pz:D1):D1:=gq 6 (B8 (EH (iu true) ŕ) Vj (aiq ak aA5 (UW RW (dc ŕ) O4) (JN (Oz QE (ahH Lz)) (ud 2 (qP (bR 2) aa5))) (Rv 4 pw [ak,(ahH Lz)] 5 (cD (jd false) (ay qM [VF,bH,aH]) (dC .bb)) (ajU (bp (wj (vz l7 (BP "wait") (Θ 0)) (wF (dP bY) (dP fU))) (Š xY (cA [(nD (BP "now") (BP "wait")),bY,fU])) (Aq pz))))))
abbrev auU(pz:D1):D1:=RD 2 (nS ak (dj "now") (ì (BP "now") (Θ 1))) (ig (dc (ay Ln [xY])) (bR 1) (Im (cD aud (ahH xY) (BP "now")) (VW (Nc xY aG) (Aq pz)))) (bZ (dj "ok"))
abbrev acF(pv:D1):D1:=gq 2 (B8 (kX (ahH VF) Ql) Vj (xt (Ls (ay pv [ak,aG]) (bZ ă)) (Š aBl (Oz (Dh [("straight",ë),("branch",(dC gm))]) (om aBl))) (bZ (dj "ok"))))
abbrev ak8:D1:=MF 6 (MR (dc (ais ŕ Ln [xY])) (L3 (mK (Oz Lz bH)) aG (pR 4 (Nb xY bH (cA [(Θ 0),(sd aH),(u9 .ah)])) (WE (dP (Eg bY 2)) (ajt (iu false) (BV bY)) (aiq ak aA5 (ahG 3 (dc ŕ) O4) (mP (adJ xY bH (dC .bb))) (Ø 5 (ay Đ [(BV (Oz Lz bH))]) (nS ő (mK (mK fU)) (dC .bb)) fU)))))) (dC .bb)
abbrev auy(qM YH:D1):D1:=ahg 6 (JN (abf QE) (ud 2 (qP (bR 3) (L8 (bR 4))))) (zG Wd (ay qM [VF,bY,bH]) (dC .bb) (bZ Vj) (B8 (Q? xB) ă (pR 5 (ay YH [ak,aH,aG]) (zG (jd false) fU (dC .bb) (bZ ĵ) (ajU (aag (dI [(OU fU (yv (Θ 1))),(MM fU),(u9 .ah)])))))))
abbrev avb(qM YH:D1):D1:=Ŭ 6 2 (om xB) 3 (mK ya) (rB (Ls (xy 2) (bZ ĵ)) (Fo (cD (dq true) (xy 1) (dI [])) (aiq ő (mK (mK (xy 1))) (dC .bb) (aag (dI [(nD (OU (xy 1) (yv (Θ 1))) ya),(MM (xy 1)),(u9 .ah)])) (bZ (dj "ok"))) (pR 4 (ay qM [VF,Fg,(aaw 2)]) (zG (jd false) bY (dC .bb) (ajU (aag (dI [ya,(dI []),(Rg .ah)]))) (pR 5 (dC .bb) (zG (iu false) (cA [(aaw 2),bY]) QE (lW 5 (ay YH [ak,(fI Jv QE [(cA [(aaw 2),bY])]),aG])) (zG (jd false) fU (dC .bb) (bZ ĵ) (ajU (aag (dI [(nD (OU fU (yv (Θ 1))) ya),(MM fU),(u9 .ah)]))))))))))
abbrev auV:D1:=ahh 3 2 (om xB) (CF (s6 (j4 ya) (Θ 1)) (M? (dP (xy 2))) (bZ ă)) (aag (dI [(OU ya (yv OD)),(xy 1),(xy 2)])) (Fo (kX (j4 ya) (Θ 1)) (mP (Nc xB aG)) (bZ (dj "ok")))
abbrev si:D1:=ahh 7 2 (om xB) (Ls (xy 2) (bZ ĵ)) (MR (dc (xy 1)) (nS ő Fg (dC .bb))) (pR 4 (jo false pS (dc (amw false ya (yv OD))) (bR 0) j_ (cA [r4,(xX 2),(xX 1)])) (xt (aag (dI [bY,(dI []),(u9 .ah)])) (ig (dc (ay Ln [xY])) (bR 5) (pR 6 (U9 xY 5) (nS xY fU (cA [(mK jM),(UW RW (dc (BV jM)) O4),(Eg jM 2)])))) (bZ (dj "ok"))))
abbrev aDR:D1:=Ū 5 4 (Dh [("set",(j4 Lz)),("cancel",(j4 Lz)),("throw",(j4 VF))]) (rB (nS bY BR (j4 QE)) (B8 (Q? bY) (amh aud Hk (Θ 0) aH (om bY)) (bZ (aer (EH (dq false) G_) (kC (iu false) xB)))))
abbrev auW(aEF awf aD5 aEG aEH avz awC avA avB:D1):D1:=ahg 4 (CG (dP (ay aEF [ak,aG,aH,bH])) (bZ Vj)) (ahd D4 (ay awf [ak,aH]) (ahd vJ (ay aD5 [ak,aH]) (B8 (VH "throw") (ay aEG [ak,aH]) (ahd BR (ay aEH [ak,bH,aH]) (ahd G_ (ay avz E1) (B8 (VH "go") (ay awC [ak,bH]) (B8 (VH "draw") (ay avA [ak,bH]) (bZ (ay avB [ak,bH])))))))))
abbrev aul(bj fi eZ g6:Addr):D1:=Ŭ 2 1 (dI [(H7 [h9 bj,Mj,Mk,Ml]),(H7 [Mi,h9 eZ,Mk,Ml])]) 1 (Mu (dI [(H7 [Mi,Mj,h9 fi,Ml]),(H7 [Mi,Mj,Mk,h9 g6])])) (KD (WE (M? (dP (H7 [h9 bj,h9 eZ,h9 fi,h9 g6]))) (Lw (ajB [(Rg .ah)]) (Θ 1)) (bZ (dj "wrong"))) (aa1 [(dj "bad"),Vj,ă,ĵ] (fI Jv aG [(Rg .ah)])))
abbrev aua(qM pw:D1):D1:=ahg 4 (JN (om QE) (ud 2 (qP (bR 2) aa5))) (zG (jd false) (ay qM [VF,bH,aH]) (dC .bb) (bZ (sd (cA [BR,aG,(aa1 [(Θ 0),Mt,(Θ 102),(Θ 103),(Θ 104)] (ay Te [(Θ 4),(j4 xB)]))]))) (bZ (jo false pS (dc (ay pw [ak,aG])) (bR 0) j_ (cA [WC,(Θ 0),ak]))))
abbrev ak9(lg akV:D1):D1:=gq 12 (Rv 3 lg [ak,aG] 4 (ay Ln [(d5 aH (dC Q6))]) (uU 5 (uw (dP bY) (ES bY 16 (tF bY)) (Θ 7)) 6 (dI [D4,D4,WC,WC,WC,(dj "draw"),(dj "draw"),BR,vJ,G_,(dj "throw"),(dj "turn")]) (uU 7 (d5 jM (cD gr (kC v7 (Θ 4)) (Θ 12))) 8 (Dh [("set",(j4 ļ)),("cancel",(j4 ļ)),("throw",(j4 (d5 aH (dC (Ω "pieces")))))]) (pR 9 (zA lg [ak,(Mu (Θ 1))] (ay amW [(Θ 1),(Nb (ae 8) jL ajo)])) (xt (CF (vv (kX (kC gr (Θ 4)) (Θ 0))) (dP (d5 aH (dC (Ω "green")))) (uU 10 (ES (d5 aH (dC (Ω "green"))) 64 ajn) 11 (Ii (ay akV [aH,(ahI ļ 10)]) (sd (cA [vJ,(ae 10),(Θ 0)])) (zB (Θ 256) (Θ 2))) (Ls (ae 11) (bZ (ES (ae 11) 1024 (j4 (ae 11))))))) (CF (dP aA7) (wj (dP bY) (vv (kX (kC gr (Θ 4)) (Θ 2)))) (bZ (cA [(abc (dI [(dj "turn"),WC,(dj "turn"),G_]) 64),(Θ 0),(ES bY 256 (tF bY))]))) (rB (CF (s6 jL vJ) (dP (d5 aH (dC (Ω "green")))) (lW 9 (ES (d5 aH (dC (Ω "green"))) 64 ajn))) (Fo (kX (kC gr (Θ 32)) (Θ 1)) (pR 9 (d5 (dI [OD,(Nb (ae 8) jL ajo),(nD Lq (zB (Θ 32) Lq))]) (cD gr (kC v7 Ħ) (Θ 3))) (lW 5 (d5 (dI [(wm (Θ 5)),(Θ 3),aCj]) (cD gr (kC v7 Ħ) (Θ 3))))) (bZ (cA [jL,(ae 9),(uw (wF aj8 aj9) fU (abc (dI [(Θ 0),ajR,Mt,(wm (Θ 3))]) 512))])))))))))
abbrev aum sR(hE:D1):D1:=MF 2 (Aq hE) (om aq7)
abbrev atY sR(hJ:D1):D1:=MF 2 (Aq hJ) (Q? VE)
abbrev aDy sR:D1:=xo 1 aq5
universe Sb
universe zE
universe zE
end
mutual
section
noncomputable section
namespace Sb
open PySem L2
abbrev aPL(bj fi eZ g6:Addr)aJF:D1:=gq 6 (Ø 4 (dC .bb) (uh [bj,eZ,fi,g6] 4 5 (bp (r6 D4) (xq Sf) (bp (r6 vJ) (xq mB) (bp aqD (xq oC) (bp (r6 BR) (H6 Sy [ak,bH,aH]) (bp (r6 G_) (H6 sk E1) (bp as5 (Cb Nr) (bp asw (Cb SP) (Cb SQ))))))))) (cD (jd false) bY (dC .bb)))
universe Sb
universe zE
universe zE
section
noncomputable section
namespace Sb
open PySem L2
abbrev sM:gf:=[2,3,4,5,6,7,14,15,16,17,18,8,9,10,11,12,13]
abbrev sJ:gf:=[11,12,13,14,15,16]
abbrev R!(c!:Addr):D1:=xo 1 (jo true pS (dc (aq4 c!)) (bR 0) j_ r4)
abbrev ak0(bj fi eZ g6 bl:Addr)(Sf mB oC Sy sk Nr SP AD SQ aDS:D1):D1:=gq 6 (Ø 4 (dC .bb) (uh [bj,eZ,fi,g6] 4 5 (bp (r6 D4) (xq Sf) (bp (r6 vJ) (xq mB) (bp aqD (xq oC) (bp (r6 BR) (H6 Sy [ak,bH,aH]) (bp (r6 G_) (H6 sk E1) (bp as5 (Cb Nr) (bp asw (Cb SP) (bp (ď "where") (mP (ahM bl AD ak [bH])) (Cb SQ)))))))))) (uw (vz (jd false) bY (dC .bb)) (dj "ok") (ay aDS [bY])))
abbrev B1:D1:=xo 2 (Zg (kX (Tg "bool" ak) (Tg "bool" aG)) (cD (dq false) ak aG))
abbrev aD6 sR(adK aDT aDp acn Yd aDU aDc AD:D1):D1:=RD 6 (CG (dP (ay adK [(yC bl "time" aDT ak []),(ajY "now")])) (bZ (u9 .ah))) (ig (o3 [(atg aG)]) (bR 2) (xt (CG (dP (ay adK [(yC bl "lock_of" aDp ak [aH]),(abf (ajY "locks"))])) (bZ (u9 .ah))) (CG (dP (ay adK [(yC bl "train_in" Yd ak [aH]),(ay acn [aG,aH])])) (bZ (u9 .ah))) (CF (s6 (mK (abf (azx aG))) agt) (Lw (yC bl "lies" aDU ak [aH]) (abf (ajY "points"))) (bZ (u9 .ah))))) (pR 3 (jo false RW (dc (ajY "green")) (bR 0) j_ (mK (ajP (ary aG)))) (xt (ig (o3 [(j4 (apJ aG))]) (bR 4) (CG (dP (ay adK [(yC bl "is_green" aDc ak [bY]),(cD (iu false) bY bH)])) (bZ (u9 .ah)))) (pb (AO ajv) (ig (AO ajv) (bR 5) (Im (cD (dq true) (ahM bl AD ak [fU]) (jo false pS (dc (ahI ajv 5)) (bR 0) j_ r4)) (bZ (u9 .ah))))) (bZ (Rg .ah))))
abbrev aD0 sR(aD7 ub lg auz al0 B2 avn alz aEI AD aD8:D1):D1:=gq 17 (Rv 1 aD7 [ak,(Θ 0)] 2 (ay ub [ak,(Θ 40),aG]) (uU 3 (zA lg [ak,(Θ 39)] (Θ 4)) 4 (dI []) (Fo (kX (zA lg [ak,(Θ 37)] (Θ 4)) (Θ 0)) (uU 1 (dI [(cA [Ql,(Θ 1),(Θ 2)]),(cA [Ql,(Θ 2),(Θ 3)])]) 2 (dI [(cA [(Θ 1),(Θ 0)]),(cA [(Θ 2),(Θ 1)])]) (pR 4 (dI [(cA [D4,(Θ 0),(Θ 0)]),(cA [BR,(Θ 0),(Θ 0)]),(cA [D4,(Θ 1),(Θ 0)]),(cA [vJ,(Θ 1),(Θ 0)]),(cA [(dj "turn"),(Θ 0),(Θ 0)])]) (lW 4 (Ii (OU bY (yv (ahD (Θ 3) lg [ak,(Θ 36)] (Θ 3)))) (sd (cA [(dj "turn"),(Θ 0),(Θ 0)])) (zA lg [ak,(Θ 35)] (Θ 2)))))) (uU 5 (dI [(ay (sy true) [aG]),(ay (sy true) [aH])]) 6 (C? bl auz [(mK fU),(BV fU),bH]) (xt (Ź amn (mK fU) []) (Ź amn (BV fU) []) (uU 7 (C? bl auz [(ay Đ [aG]),(ay Đ [aH]),bH]) 8 (ay al0 [aG,aH,bH]) (ad6 sM (Hj (ig (o3 [(zA lg [ak,(Θ 38)] (Θ 31))]) (bR 9) (pR 10 (ay B2 [ak,(Ii (Θ 60) (Θ 2) (ae 9)),(ae 8)]) (Hj (JN (U9 (Ii bY (sd (ae 10)) (Θ 40)) 9) (ud 3 (qP (bR 11) (qP (bR 12) (L8 (bR 13)))))) 14 (ay avn [(ae 8),(ae 11),(ae 12),(ae 13)]) (rB (WE (Lw (ay aEI [jM,(ae 11),(ae 12),(ae 13)]) (ae 14)) (M? (dP (ay alz [jM,(ae 8)]))) (bZ (u9 .ah))) (pb (AO (ē (ae 8))) (ig (AO (ē (ae 8))) (bR 15) (LZ (ahM bl AD jM [(ae 15)]) [OD]))))))) 16 (ahG 8 (Yi (cA [(Θ 0),Mt,(wm (Θ 5)),(Θ 5000)])) (vz (iu true) ak ajv)) (KD (CG (dP (ay aeq [(jo false (ŝ 6) (dc (ae 16)) (bR 0) j_ (kX (ay aD8 [aG,(dj "where"),(Θ 0),ak]) Vj))])) (bZ (u9 .ah))) (Zg (ay alz [jM,(ae 8)]) (amd sJ (ay alz [jL,(ay al0 [aG,aH,bH])]))))))))))))
universe Sb
universe zE
universe zE
section
namespace L2
open PySem
section
variable {ρ:bu}{M:aS}
@[simp] def aT gx:ae i ρ M=(match ρ[i]? with | KR x=>.ok x M | _=>aE):=rfl
@[simp] def bg gy:dC x ρ M=.ok x M:=rfl
@[simp] def bM:U! [] M=.ok [] M:=rfl
@[simp] def aR e7 wO:U! (d::ds) M=E4 (c8).bind (qz (U? aa).bind xs (.ok (x::xs) M2)):=rfl
@[simp] def FF wO:cA ds ρ M=Ek (vQ).bind xs (.ok (aV xs) aa):=rfl
@[simp] def eD{l:Bool}wO:yi l ds ρ M=Ek (vQ).bind xs (wu l xs aa):=rfl
@[simp] def au{f:D2}{a b:br}:cD f a b ρ M=E4 (a ρ M).bind (qz (b ρ aa).bind y (f x y M2)):=rfl
@[simp] def bP{f:D1}wO:ay f ds ρ M=Ek (vQ).bind xs (f xs aa):=rfl
@[simp] def kI e7:dP d ρ M=E4 (c8).bind (aiy aa x aa):=rfl
@[simp] def c_ e7:n9 d ρ M=E4 (c8).bind (match x with | .ah b=>.ok b aa | _=>aE):=rfl
@[simp] def Jo{a b:g9}:wj a b ρ M=Ek (a ρ M).bind k (pT k (b ρ aa) (.ok false aa)):=rfl
@[simp] def yn{a b:g9}:wF a b ρ M=Ek (a ρ M).bind k (if aO k then .ok true aa else b ρ aa):=rfl
@[simp] def Jp{a:g9}:M? a ρ M=Ek (a ρ M).bind k (.ok (! k) aa):=rfl
@[simp] def YZ{t:g9}{a b:br}:uw t a b ρ M=Ek (t ρ M).bind k (pT k (a ρ aa) (b ρ aa)):=rfl
@[simp] def Y0{l:Bool}e7{dl X5:Nq}:ad3 l d dl X5 ρ M=E4 (c8).bind (qz (dl ρ aa).bind lo ((X5 ρ M2).bind λhi bJ=>yG l x lo hi bJ)):=rfl
@[simp] def Yt:akr ρ M=.ok none M:=rfl
@[simp] def Su e7:yv d ρ M=E4 (c8).bind (match x with | η i=>.ok WU aa | _=>aE):=rfl
@[simp] def a6j e7:Fm d ρ M=E4 (c8).bind (Di x aa):=rfl
@[simp] def aFW{f:sL}e7 wO:fI f d ds ρ M=E4 (c8).bind (match Yn aa x with | vo=>qz (U? aa).bind xs (f x xs M2) | none=>aE):=rfl
@[simp] def a6w:sr ρ M=.nx ρ M:=rfl
@[simp] def aGX{a b:cM}:m7 a b ρ M=(match a ρ M with | .nx ρ' M'=>b ρ' M' | o=>o):=rfl
@[simp] def a6e e7:mP d ρ M=RB (c8).out _ (.nx ρ aa):=rfl
@[simp] def a6k e7:bZ d ρ M=RB (c8).out x (.fk x aa):=rfl
@[simp] def a6f:a0N ρ M=.fk .bb M:=rfl
@[simp] def a6l{t:g9}{a b:cM}:bp t a b ρ M=RB (t ρ M).out k (pT k (a ρ aa) (b ρ aa)):=rfl
@[simp] def aXY gx e7:lW i d ρ M=RB (c8).out x (.nx (D6 i) aa):=rfl
@[simp] def a6m e7{g:qh}:JN d g ρ M=RB (c8).out x (match g x ρ with | some ρ'=>.nx ρ' aa | none=>aE):=rfl
@[simp] def a6z gx gy:bR i x ρ=aN (D6 i):=rfl
@[simp] def a6x:j_ ρ M=.ok true M:=rfl
@[simp] def a55 ql wO:awG C ds ρ M=RB (vQ).out _ (bG C ρ aa):=rfl
@[simp] def ag sP{x:α}ZI:(asQ x).bind f=f x M:=rfl
@[simp] def avH gb{x:α}:Res.opt gB M=.ok x M:=rfl
@[simp] def aVf gb:(Res.opt none M:xQ)=aE:=rfl
@[simp] def aZK gy:(Out.fk x M).res=.ok x M:=rfl
@[simp] def aZJ:(Out.nx ρ M).res=.ok .bb M:=rfl
@[simp] def aXG jT:(Out.exc c ρ M).res=bG c M:=rfl
universe zE
abbrev Pl:Ň aj
 |0,x=>match x with
  |.bb=>True
  |η _=>True
  |Ω x=>af9 (Ω x)
  |_=>False
 |k+1,x=>match x with
  |.bb=>True
  |η _=>True
  |Ω x=>af9 (Ω x)
  |ς xs=>abG y k y
  |aV xs=>abG y k y
  |_=>False
def Sv sP{f:w5 α β}{g:α->β}:∀Ub,(GX x (f x=aN (g x)))->qv f=aN (xs.map g)
 |[],_=>rfl
 |x::xs,h=>by
  rw[f5 Sx (h x Ξ) (Sv (vW y (h y (oN hy))))];rfl
abbrev k? pn l_:PyData:=(flat [] k x).getD cG
def akZ b6:∀pn l_,Pl k x->flat M k x=aN (k? k x)
 |0,x,h=>by
  cases x<;>simp_all [Pl,k?,flat,leaf]
 |k+1,x,h=>by
  cases x with
  |lst xs=>
   rw[Iw h' (abG y k y) h e (∀N:aS,flat N (k+1) (ς xs)=ate EX k) N (by
    rw[rP flat (Sv (vW y (akZ k y (h' y hy))))];rfl)]
   rw[e,k?,e];rfl
  |tup xs=>
   rw[Iw h' (abG y k y) h e (∀N:aS,flat N (k+1) (aV xs)=ate WT k) N (by
    rw[rP flat (Sv (vW y (akZ k y (h' y hy))))];rfl)]
   rw[e,k?,e];rfl
  |_=>simp_all [Pl,k?,flat,leaf]
def akK dU anw:k? (k+1) (ς xs)=EX (aqP k):=by
 have e:flat [] (k+1) (ς xs)=ate EX k:=by
  rw[rP flat (Sv (vW y (akZ k y (h y hy))))];rfl
 rw[k?,e];rfl
def akL dU anw:k? (k+1) (aV xs)=WT (aqP k):=by
 have e:flat [] (k+1) (aV xs)=ate WT k:=by
  rw[rP flat (Sv (vW y (akZ k y (h y hy))))];rfl
 rw[k?,e];rfl
def aEJ dU(ih:∀x y,Pl k x->Pl k y->(aO (agB (k? k x) (k? k y))↔x=y)):∀xs ys:dY,(abG y k y)->(∀y∈ys,Pl k y)->(aO (PyData.eqvAll (aqP k) (ys.map (k? k)))↔xs=ys)
 |[],[],_,_=>aAf
 |[],y::ys,_,_=>aAf
 |x::xs,[],_,_=>aAf
 |x::xs,y::ys,hx,hy=>by
  rw[cZ,cZ,PyData.eqvAll,Bool.and_eq_true,ih x y (hx x Ξ) (hy y Ξ),aEJ ih xs ys (λz hz=>hx z (aK hz)) (λz hz=>hy z (aK hz))];simp
def ym dU:k? k .bb=cG:=by cases k<;>rfl
def yo dU iC:k? k (η i)=η i:=by cases k<;>rfl
def ft dU d!(h:af9 (Ω x)):k? k (Ω x)=Ω x:=by cases k<;>simp[k?,flat,leaf,h]
inductive Zv:Ň aj
 |bb dU:Zv k .bb
 |int dU pg:Zv k (η i)
 |str dU d!(h:af9 (Ω x)):Zv k (Ω x)
 |lst dU anw:Zv (k+1) (ς xs)
 |tup dU anw:Zv (k+1) (aV xs)
def Pl.pk dU gy(h:Pl k x):Zv k x:=by
 cases k with
 |zero=>
  cases x with
  |bb=>exact .bb
  |int i=>exact η i
  |str x=>exact Ω h
  |_=>rw[aiX]
 |succ k=>
  cases x with
  |bb=>exact .bb
  |int i=>exact η i
  |str x=>exact Ω h
  |lst xs=>exact ς h
  |tup xs=>exact aV h
  |_=>rw[aiX]
def adQ pn:∀(x y:aj),Pl k x->Pl k y->(aO (agB (k? k x) (k? k y))↔x=y):=by
 induction k with
 |zero=>
  intro x y hx hy;cases hx.pk with
  |bb=>cases hy.pk with
   |bb=>rw[aqQ ym]
   |int j=>rw[UD ym yo]
   |str h=>rw[CE ym h]
  |int i=>cases hy.pk with
   |bb=>rw[UD ym yo]
   |int j=>rw[aqQ yo]
   |str h=>rw[CE yo h]
  |str h=>cases hy.pk with
   |bb=>rw[CE ym h]
   |int j=>rw[CE yo h]
   |str h'=>rw[CE (ft h) h']
 |succ k ih=>
  intro x y hx hy;cases hx.pk with
  |bb=>cases hy.pk with
   |bb=>rw[aqQ ym]
   |int j=>rw[UD ym yo]
   |str h=>rw[CE ym h]
   |lst h=>rw[Ĩ ym h]
   |tup h=>rw[Ī ym h]
  |int i=>cases hy.pk with
   |bb=>rw[UD ym yo]
   |int j=>rw[aqQ yo]
   |str h=>rw[CE yo h]
   |lst h=>rw[Ĩ yo h]
   |tup h=>rw[Ī yo h]
  |str h=>cases hy.pk with
   |bb=>rw[CE ym h]
   |int j=>rw[CE yo h]
   |str h'=>rw[CE (ft h) h']
   |lst h'=>rw[Ĩ (ft h) h']
   |tup h'=>rw[Ī (ft h) h']
  |lst h=>cases hy.pk with
   |bb=>rw[Ĩ ym h]
   |int j=>rw[Ĩ yo h]
   |str h'=>rw[CE (akK h) h']
   |lst h'=>rw[akK h,akK h',PyData.eqv,aEJ ih _ _ h h'];simp
   |tup h'=>rw[Ī (akK h) h']
  |tup h=>cases hy.pk with
   |bb=>rw[Ī ym h]
   |int j=>rw[Ī yo h]
   |str h'=>rw[CE (akL h) h']
   |lst h'=>rw[Ĩ (akL h) h']
   |tup h'=>rw[akL h,akL h',PyData.eqv,aEJ ih _ _ h h'];simp
def aPM Gv{p:Prop} [Decidable p] (h:aO b↔p):b=decide p:=by
 cases b<;>simp_all
def als qp Z0 b6{p:Prop} [Decidable p] (hx:Qa x)(hy:Qa y)(h:x=y↔p):OE x y M=.ok (.ah (yZ (decide p) (decide p))) M:=by
 rw[f5 dq (RG x hx) (RG y hy)];rw[ku (aPM (eV (adQ deep x y hx hy) h))]
def SD qp gb TY ayf ayP [Decidable (a∈as)] DG b6(hy:qV M y=aN RJ):
  I! Bu y=.ok (.ah (Wq a as a as)) M:=by
 rw[dJ iu hy];rw[đ (RG _ (hp a)) (Sv (g:=Wf) λz hz=>by
  rw[Xd b hz (RG _ (hp b))])]
 dsimp only
 have:((RJ).map Wf).any (yX q q (k? deep Bu))=i7 a as:=by
  rw[mC (aPM ?_) List.any_eq_true];constructor
  ·rintro⟨q,hq,he⟩;rw[xA z hz hq];rw[xA b hb hz];have:=inj _ _ ((adQ deep _ _ (hp b) (hp a)).mp he);rw[fz this hb]
  ·intro hm;rw[bC _ (qK _ (qK a hm)) ((adQ deep _ _ (hp a) (hp a)).mpr rfl)]
 rw[this]
def qc dU pg:Pl k (η i):=by cases k<;>trivial
def adL dU:Pl k .bb:=by cases k<;>trivial
@[simp] def t_ qp N7:OE (η i) (η j) M=.ok (.ah (yZ (fC i j) (fC i j))) M:=als (qc i) (qc j) Ξ
@[simp] def avc qp iC Oc b6:I! (η i) (ς ũ)=.ok (.ah (Wq i ns i ns)) M:=SD (enc:=aj.int) (λa=>qc a) (λa b e=>by cases e;rfl) rfl
@[simp] def aFX qp iC Oc b6:I! (η i) (aV ũ)=.ok (.ah (Wq i ns i ns)) M:=SD (enc:=aj.int) (λa=>qc a) (λa b e=>by cases e;rfl) rfl
def aD9 gb{w:q3}{g:qh}{tc:g9}e7 b6 afw(P:Xc)(f:α->aj)(R:cO bu)(hc:sF w M):
  ∀Ua Bj(acc:dY),R ρ->(GX x (∀ρ,R ρ->∃ρ1,g (enc x) ρ=à/\R ρ1/\tc ρ1 M=.ok (P x) M/\(aO (P x)->d ρ1 M=.ok (f x) M)))->asB xs.length≤lim →
   C! w g tc d aoB ρ M acc=.ok (acc++(xs.filter P).map f) M
 |[],ρ,acc,_,_,_=>aK C!
 |x::xs,ρ,acc,hR,h,hl=>by
  obtain⟨ρ1,h1,h2,h3,h4⟩:=h x Ξ ρ hR;simp only[zE]at hl;rw[cZ,C!,h1];rw[đ h3 Res.aGa];cases hp:P x with
  |true=>
   rw[gK,h4 hp,Res.aGa,if_pos ⟨hc,av⟩,aD9 enc P f R hc xs ρ1 _ h2 (vW y (h y (aK hy))) (by rw[fh]),List.filter_cons_of_pos hp];simp
  |false=>
   rw[ash,UX,aD9 enc P f R hc xs ρ1 _ h2 (vW y (h y (aK hy))) av,List.filter_cons_of_neg (aK hp)]
def oR gb N9{fG:uN}aod{tc:g9}e7 ZH{w:q3}Ub afw(P:Xc)(f:α->aj)(R:cO bu)
  aJ9(hR:R (F7 fG ρ))(h:GX x (∀ρ,R ρ->∃ρ1,g (enc x) ρ=à/\R ρ1/\tc ρ1 M'=.ok (P x) M'/\(aO (P x)->d ρ1 M'=.ok (f x) M')))(hl:ajS):
  jo live fG eO g tc d ρ M=wu live ((xs.filter P).map f) M':=by
 unfold jo;rw[hi,ag,UX,aD9 enc P f R hc xs _ _ hR h (bh hl)];rfl
def aGD aod{s1:cM}ZH dH{w:q3}(hi:GL M=.ok (xs,w) M')(hc:P? w):ig eO g s1 ρ M=ug w g s1 xs ρ M':=by
 rw[kF ig hi Res.oS UX]
@[simp] def ja e7 ZH dH(h:c8=.ok (ς xs) M'):dc d ρ M=.ok (xs,none) M':=by rw[Ri dc h]
def SS e7 ZH bf dH(h:c8=.ok (ο n) M')(hn:M'[n]? = gY):dc d ρ M=.ok (xs,ajG xs) M':=by rw[f5 dc h ag];rw[ku hn]
def aH3 e7 ZH dH(h:c8=.ok (aV xs) M'):Yi d ρ M=.ok (xs,none) M':=by rw[Ri Yi h]
abbrev auf c6 Gz cT l_:Prop:=∃G,g xs M=.ok x (M++G)
def auf.trunc Bo Oh gy(h:auf g xs M x)(hb:arv x):trunc g xs M=.ok x M:=by
 obtain⟨G,e⟩:=h;rw[f5 L2.trunc e (aGK Ξ hb)]
universe L2
universe zE
section
namespace L2
open PySem
section
variable {Q:DT}{ρ:bu}{M:aS}{s1 s2:cM}{d:br}{t:g9}
abbrev F3(Q:DT)(s2:cM):DT
 |.nx ρ M=>Q (s2 ρ M)
 |o=>Q o
def Bq(h:F3 Q s2 (Ci M)):Q (m7 s1 s2 ρ M):=by
 unfold m7;cases e:Ci M<;>rw[e]at h<;>exact h
def Nl gx l_ aeS(q:Q (.nx (D6 i) M')):Q (lW i d ρ M):=by
 rw[jW lW h q]
def aZ1 gx l_ aeS(q:Q (s2 (D6 i) M')):Q (m7 (lW i d) s2 ρ M):=gV (Nl x M' h q)
def su(k:Bool)J_(h:t ρ M=.ok k M')(aB:aO k->Q (Ci M'))(aZ:dQ k->Q (s2 ρ M')):Q (bp t s1 s2 ρ M):=by
 rw[vM bp h];cases k with
 |true=>exact aB rfl
 |false=>exact aZ rfl
def JJ J_(h:t ρ M=.ok true M')(aB:Q (Ci M')):Q (bp t s1 s2 ρ M):=su true M' h (λ_=>aB) nofun
def acp J_(h:t ρ M=.ok false M')(aZ:Q (s2 ρ M')):Q (bp t s1 s2 ρ M):=su false M' h nofun (λ_=>aZ)
def qL l_ aeS(q:Q (.fk x M')):Q (bZ d ρ M):=by
 rw[jW bZ h q]
def nL l_ aeS(q:Q (.nx ρ M')):Q (mP d ρ M):=by
 rw[jW mP h q]
def ad7{g:qh}l_(ρ':bu)aeS(hg:cE (g x ρ) ρ')(q:Q (.nx ρ' M')):Q (JN d g ρ M):=by
 rw[kF JN h Res.oS hg];exact q
def c5(q:Q (.nx ρ M)):Q (sr ρ M):=q
abbrev Body(w:q3)(R:bu->Z8)(Q:DT):DT
 |.nx ρ M=>sF w M/\R ρ M
 |.ct ρ M=>sF w M/\R ρ M
 |.lX ρ M=>Q (.nx ρ M)
 |o=>Q o
def awD gb{w:q3}{g:qh}afw(R:ry->bu->Z8)Ua aI1
  aI7:
  ∀(post pre:ry)Bj cT,xs=pre++post->R pre ρ M->Q (ug w g s1 (post.map enc) ρ M)
 |[],pre,ρ,M,e,h=>by rw[mV]at e;rw[fz e (k ρ M h)]
 |x::post,pre,ρ,M,e,h=>by
  rw[ģ ρ1 h2 (hs pre x post e ρ M h)];rw[cZ,ug,h1];dsimp only;cases e2:s1 ρ1 M with
  |nx ρ' M'=>
   rw[e2]at h2;rw[aqz (if_pos h2.1) (awD enc R xs k hs post (pre++[x]) ρ' M' (by rw[gp e]) h2.2)]
  |ct ρ' M'=>
   rw[e2]at h2;rw[aqz (if_pos h2.1) (awD enc R xs k hs post (pre++[x]) ρ' M' (by rw[gp e]) h2.2)]
  |lX ρ' M'=>rw[bV e2 h2 h2]
  |fk x M'=>rw[bV e2 h2 h2]
  |exc c ρ' M'=>rw[bV e2 h2 h2]
  |bad=>rw[bV e2 h2 h2]
def nQ gb aod afw(R:ry->bu->Z8)Ua(w:q3)(aa:aS)(hi:GL M=.ok (aoB,w) aa)(hc:sF w aa)(h0:R [] ρ aa)
  aI7 aI1:Q (ig eO g s1 ρ M):=by
 rw[kF ig hi Res.oS UX];exact awD enc R xs k hs xs [] ρ aa rfl h0
abbrev Fin(P:aN7)(o:Out):Prop:=P o.res
def AA bf dH{d:cM}Um(h:Fin P (d (asI (atu n)) M)):P (AH n d xs M):=h
def eP Um gy(h:P (.ok x M)):Fin P (.fk x M):=h
def eQ Um(h:P (.ok .bb M)):Fin P (.nx ρ M):=h
def k_ Um jT(h:P (bG c M)):Fin P (bG c ρ M):=h
def aw(h:Q (s2 ρ M)):F3 Q s2 (.nx ρ M):=h
def t8 gy(h:Q (.fk x M)):F3 Q s2 (.fk x M):=h
def dy jT(h:Q (bG c ρ M)):F3 Q s2 (bG c ρ M):=h
def MS ayz(hc:sF w M)(h:R ρ M):Body w R Q (.nx ρ M):=⟨hc,h⟩
def al1 ayz gy(h:Q (.fk x M)):Body w R Q (.fk x M):=h
def aV3 ayz jT(h:Q (bG c ρ M)):Body w R Q (bG c ρ M):=h
universe zE
@[simp] def HI b6 uK:fP (M++[o]) M.length o:=Ξ
@[simp] def avo b6{o o':dm}:(M++[o]).set M.length o'=M++[o']:=Ξ
def al2 bf:∀dH,(GX x (p5 x))->U5 n xs
 |[],_=>iZ aj.yx
 |x::xs,h=>by rw[aj.yx,h x Ξ,al2 (vW y (h y (aK hy)))];rfl
def aGE bf dH(h:GX x (p5 x)):p5 (ς xs):=by rw[ah6 (al2 h)]
def a5s bf dH(h:GX x (p5 x)):p5 (aV xs):=by rw[ah6 (al2 h)]
@[simp] def a6n bf iC:p5 (η i):=ahm
@[simp] def a6o bf:p5 .bb:=ahm
@[simp] def a6p bf d!:p5 (Ω x):=ahm
@[simp] def a6y bf Gv:p5 (.ah b):=ahm
universe L2
universe zE
end
mutual
section
namespace L2
open PySem PySem.Spec PyProof.Rows
abbrev ad8 dg:uF:=λvs H Q E=>∃(a:Addr) (ns:eK),vs=[V.ref a]/\iw K H a HG/\∀H',nJ (fT .ah)
def a6g j? Bo(hg:∀ns M,Ew (g [.cY ns] M=.ok (fT .ah) M'))wR iV pB Bm(h:ad8 K vs H Q E):Ps K 1 g vs H Q E:=by
 rw[eo a ns hS q h];rw[VA M' e (hg ns []) ⟨rfl,[],H,[],[.cY ns],rC (mS.refl H) List.nodup_nil (λn a o h=>nomatch h),.one (aQ.alH.mpr (jh a hS)),?_⟩];rw[e];intro ι' S' H' v _ _ r;rw[az ū (q H')]
def aTQ j? Bo(hg:∀ns,Ew (g [.cY ns] []=.ok (fT .ah) M'))wR iV pB Bm(h:ad8 K vs H Q E):Ps K 1 g vs H Q E:=by
 rw[eo a ns hS q h];rw[VA M' e (hg ns) ⟨rfl,[],H,[],[.cY ns],rC (mS.refl H) List.nodup_nil (λn a o h=>nomatch h),.one (aQ.alH.mpr (jh a hS)),?_⟩];rw[e];intro ι' S' H' v _ _ r;rw[az ū (q H')]
def a26{p:cO Addr}{a b c d:Addr}(ha:p a)(hb:p b)(hc:p c)(hd:p d):∀x∈[a,b,c,d],p x:=by
 rw[RI x hx hx];rcases hx with rfl | rfl | rfl | rfl
 ·exact ha
 ·exact hb
 ·exact hc
 ·exact hd
def a5h{p:Addr->cO Bool}aJI(ha:p a x)(hb:p b y)(hc:p c z)(hd:p d u):∀C k,([(a,x),(b,y),(c,z),(d,u)]:tH).lookup C=fc->p C k:=by
 intro C k h;simp only[List.lookup]at h;split at h
 ·rw[WW];cases h;rw[aoU e ha]
 split at h
 ·rw[WW];cases h;rw[aoU e hb]
 split at h
 ·rw[WW];cases h;rw[aoU e hc]
 split at h
 ·rw[WW];cases h;rw[aoU e hd]
 cases h
def il.bad Kq d! Gr N? dU ayt:Qe P w K mg (k+1) x ps.length (LC (cK _ aE)):=
 il.of D S λf fW A outer s H E hr=>⟨RY s1 σ H1 D I h (by
  obtain⟨_,_,_,_,_,_,h⟩:=h
  rw[aiX])⟩
universe L2
universe zE
section
namespace L2
open PySem PySem.Spec PyProof.Rows PySem.W
section
variable {K:eY}{hp:Heap}{mg:Str->fO}{x m q:Str}{st:Stmt}{ps:gz}{C:Addr}
inductive FnAt dg(v:Qg fO)(x q:Str)(st:Stmt):Prop
 |mk{f:Addr}{oc kV oU pm cd ct:Value}{od an:X3}{sl:Array fO}(a:v=ah4 f)
  (l:aqW f ⟨oc,od,.func (apu x q (Js st) (hV st) (ax st) cG oU pm an cd ct),sl⟩)(c:apg K cd q)(k:UO K (Δ f))(j:aqi K (Δ f)):FnAt K v x q st
abbrev avu(x q:Str)anv:Prop:=∀aJW(fW ct:Value)Bg,aBU->aBD (apu x q (Js st) (hV st) (ax st) cG doc pm an fW ct) us=G1 UZ
abbrev aN4:Ň (cO cC)
 |0,P=>P []
 |n+1,P=>∀a,aN4 n λus=>P (a::us)
def ar:∀bf{P:cO cC},aN4 n P->∀us:cC,us.length=n->P us
 |0,_,h,[],_=>h
 |n+1,P,h,a::us,e=>ar (n:=n) (P:=λus=>P (a::us)) (h a) us (Nat.succ.inj e)
def FnAt.de(h:bO x x x st)aKa(b:avu x x st ps:=by intro _ _ _ _ _ _;refine ar ?_;(repeat intro _);rfl):dh x st ps:=by
 rw[xr a l c k j h _ _ (vx l c k) (xm a) ((vx l c k).binds b)]
def FnAt.me(h:Qx K (Δ C) m m q st)(c:AZ K C)(b:avu m q st ps:=by intro _ _ _ _ _ _;refine ar ?_;(repeat intro _);rfl):SV K C m q st ps:=by
 rw[KQ a l c' k j h ⟨_,_,vx l c' k,⟨a,j,k⟩,c,(vx l c' k).binds b⟩]
def FnAt.aC6(h:ap2 K (Δ C) q st)(mk:aO (makesIn K C))(a4D:aO (keepIn K (Δ C)))(nm:mg x=jF C)(b:avu "__init__" q st ps:=by intro _ _ _ _ _ _;refine ar ?_;(repeat intro _);rfl):ad2 K mg x C q st ps:=by
 rw[KQ a l c k j h ⟨_,_,vx l c k,⟨mk,a,j,a4D⟩,nm,(vx l c k).binds b⟩]
def FnAt.a4I{fa:Addr}(h:bO "law" "law" "law" st)aKa(e:mg "law" = jF fa):∃kV oU pm an cd ct,Gb K "law" "law" st fa (apu "law" "law" (Js st) (hV st) (ax st) cG oU pm an cd ct):=by
 obtain⟨a,l,c,k,j⟩:=h;cases e.symm.trans (xm a);exact⟨_,_,_,_,_,_,vx l c k⟩
structure anb dg nc m9:Prop where
 a:nsIn K mainGlobals x=ah4 C
 e1:findIn K (Δ C) "__getattribute__" = aN (aLi e!)
 e2:QU (findIn K (Δ C) "__getattr__") none
 e3:findIn K (Δ C) "__class__" = aN (ao3 e!)
 e4:mroIn K C aja=u6
 e5:mroIn K C aj4=u6
 e6:aO (isClsIn K C)
 Fz:specialIn K IG "__get__" = aN (apt e!)
 et:takesIn K IG=u6
def anb.xc(h:anb K x C):amo K C:=⟨h.e1,h.e2,h.e3,h.Fz,h.et,h.e4,h.e5,h.e6⟩
structure N0 dg nc m9:Prop where
 a:nsIn K mainGlobals x=ah4 C
 aDu:aO (plainGet K C Str.empty)
 hd:aO (hasDictIn K C)
 po:aO (plainOver K C)
 sa:findIn K (Δ C) "__setattr__" = aN (azV e!)
def N0.cl(h:N0 K x C):AZ K C:=⟨h.aDu,h.hd,h.po,h.sa⟩
def N0.fd(h:N0 K x C)Gy(n:findIn K (Δ C) f=RO):M9 K C f:=⟨h.cl,n⟩
universe zE
structure anj where
 P:Program
 w:World
 K:eY
 mg:Str->fO
 base:Heap
noncomputable abbrev Fn(z:anj):=il z.P z.w z.K z.mg z.base
noncomputable abbrev wI(z:anj):=wD z.P z.w z.K z.mg z.base
noncomputable abbrev In(z:anj):=sN z.P z.w z.K z.mg z.base
section
variable {P:Program}{w:World}{K:eY}{mg:Str->fO}{base:Heap}{x m q:Str}{st:Stmt}{N ps:gz}{k j n:Nat}{d:cM}{C:Addr}{g:D1}
def bK{sc:Scope}(a:sc.kind=HH:=by rfl)(b:aLI:=by rfl)(c:aLJ:=by rfl)(d:N.Nodup:=by rw[Ç])(e:N.take ps.length=ps:=by rfl)
  (f:∀x∈ps,BO=Co \/ BO=oQ:=by rw[Ç])(g:∀y∈sc.names,y.2≠As:=by rw[Ç]):ag8 N ps sc:=⟨a,b,c,d,e,f,g⟩
def il.go ayt
  (hb:∀anl T5,sZ (Z_ x f)->Good (Ku x) (λ_=>E) →
   Z7 (Ku x) (λ_=>E) d):Qe P w K mg (k+1) x ps.length (LC d):=il.of D S λf fW A outer s H E hr=>hb f fW A outer s H E hr (alX S hr)
def wD.go aKp
  aKD:wD P w K mg base (k+1) C m ps.length (LC d):=wD.of D S λf fW A outer s H E hr=>hb f fW A outer s H E hr (alX S hr)
def sN.go aJL
  aKD:sN P w K mg base (k+1) x C ps.length (LC d):=sN.of D S λf fW A outer s H E hr=>hb f fW A outer s H E hr (alX S hr)
def a1p anz(F:Gb K x q st f fd)afi
  (hb:∀(fW:Value)T5,sZ (Z_ q f)->Good (Ku q) (λ_=>E) →
   Z7 (Ku q) (λ_=>E) d):qT P w K mg base (lA P w) (k+1) f fd ps (Ps K ps.length (LC d)):=amj F S λfW A outer s H E hr=>hb fW A outer s H E hr (alX S hr)
def il.up aJv ayh:Qe P w K mg k x n g:=Ē
def wD.up aJz ayh:wD P w K mg base k C m n g:=Ē
def sN.up aJA ayh:sN P w K mg base k x C n g:=Ē
universe zE
universe L2
universe zE
section
namespace Hd
open PySem PySem.Spec PyProof.Rows PySem.W L2
section
variable {K:eY}{l:List uu}{e:uu}
def Sat.at(h:Sat K l)g!(hi:jk l e):e.1 K=e.2:=h _ aMm
def ad9{f:tO eY}(h:(eb f).1 K=(eb f).2):aO (f K):=by
 have h':Dp.b (aN (f K))=Dp.b u6:=h;injection h' with h1;injection h1
def amr{f:w5 eY Bool}{v:agC}(h:(f9 f v).1 K=(f9 f v).2):f K=v:=by
 have h':Dp.b (f K)=Dp.b v:=h;injection h'
def S2 aJY(h:(ev f v).1 K=(ev f v).2):f K=v:=by
 have h':Dp.v (f K)=Dp.v v:=h;injection h'
def a1q aKC Gr(h:(bz g x q st).1 K=(bz g x q st).2):FnAt K (g K) x q st:=by
 have h':Dp.f (aw8 K (g K) q)=Dp.f (nu (PySem.W.fnOf x q (Js st) (hV st) (ax st) cG cG cG cG none cG cG) true):=h
 injection h' with h1;unfold aw8 at h1;split at h1
 ·rename_i f hf;split at h1
  ·rename_i a1 a2 fd a4 hl;injection h1 with h2;injection h2 with h3 h4;rw[Qv Bool.and_eq_true h4];obtain⟨⟨h5,h6⟩,akA⟩:=h4;obtain⟨n1,n2,n3,n4,a7d,a7e,acK,a7f,a7g,a67,a68,a69,a7a,a7b,a7c⟩:=fd;simp only[PySem.W.fnOf,FuncData.mk.injEq]at h3;obtain⟨rfl,rfl,rfl,rfl,rfl,rfl,rfl,rfl,_,_,_,_,_,_,rfl⟩:=h3;exact .mk hf hl h5 h6 akA
  ·cases h1
 ·cases h1
def a1r d! ql(h:Sat K (TA x C)):anb K x C:=
 ⟨S2 (xE 0),S2 (xE 1),S2 (xE 2),S2 (xE 3),amr (xE 4),amr (xE 5),ad9 (xE 6),S2 (xE 7),amr (xE 8)⟩
def a1s d! ql(h:Sat K (akn x C)):N0 K x C:=
 ⟨S2 (xE 0),ad9 (xE 1),ad9 (xE 2),ad9 (xE 3),S2 (xE 4)⟩
variable {L:QS (List uu)}{g:List uu}
def All.at TX(hi:jk L g):Sat K g:=h _ aMm
def All.b TX{f:tO eY}(hi:jk L [eb f]):aO (f K):=ad9 ((aao i).at 0 rfl)
def All.o TX{f:w5 eY Bool}{v:agC}(hi:jk L [f9 f v]):f K=v:=amr ((aao i).at 0 rfl)
def All.v TX aJY(hi:jk L [ev f v]):f K=v:=S2 ((aao i).at 0 rfl)
def All.f TX aKC Gr(hi:jk L [bz g x q st]):FnAt K (g K) x q st:=a1q ((aao i).at 0 rfl)
def All.x TX d! ql(hi:qJ L i (TA x C)):anb K x C:=a1r (aao i)
def All.c TX d! ql(hi:qJ L i (akn x C)):N0 K x C:=a1s (aao i)
universe zE
def aZQ{l:PySem.W.OpenLaw}{n k:Nat}{q:Program}aKm{d:DefRec}{gH:World->Dl}{sp:eY->uF}d!{as:cz}{L:QS (List uu)}
  ayy(Ge:jB n)aJN(hr:sZ callerA)
  (F:∀(w:World)(mg:Str->fO)(fa:Addr)DN dg,K.In h->All L K->h.Ns mainGlobals mg->mg d.name=jF fa →
   ∃fd:FuncData,(∀kP Gu,BindsTo s fd (rU [u]) [(x,u)]) ∧
    ∀base:Heap,arZ->api mg->qT l.prog w K mg base (gH w) k fa fd [x] (sp K))
  (NL:∀dg Of yR,aqK n->axB H->iw K H a HG->sp K [Δ a] H (λv _=>v=fT .ah) λ_ _ _=>False)
  (aCO:∀(w:World)jU kP aof,gH w [] H s (λ_ _ _=>False) e s'->False):
  PySem.W.WalkO q loose XP (hook as L).says l.row.toRowW d [] (λf vs=>PySem.call f vs):=by
 refine aET.Hc hn hdf λw s₀ s₁ mg mb fa o pm cd doc a vs ns G Y ho hd PQ Y1 Y2 hints hlen hg=>?_;rw[Hw K g_ hK Y fd hb hF (F w mg fa _ K g_ hK G.T.g Y1)];exact aVC g_ G.T.g G.T.b G.T.builtins G.T.nolimit hg Y2 hints (Nat.le_trans hlen Ge) hr hF hb (λH hO hS=>NL K H a ns hlen hO hS) λH e s'=>aCO w H s₁ e s'
universe Hd
universe zE
section
namespace Sb
open PySem L2
inductive dR where
 |pl(j k:Int)
 |pt(t s b:Int)
abbrev dR.js:dR->eK
 |.pl j k=>[j,k]
 |.pt t s b=>[t,s,b]
abbrev dR.enc:dR->aj
 |.pl j k=>aV [Xs,η j,η k]
 |.pt t s b=>aV [Xl,η t,η s,η b]
noncomputable abbrev kt:=List dR
noncomputable abbrev aCx j!:aj:=ς lT
noncomputable abbrev Tr:=Int×Nat
abbrev fE(s:Tr):aj:=aV [η s.1,η s.2]
noncomputable abbrev cc(ss:sW):aj:=ς iH
noncomputable abbrev eJ:=Nat×Int×Int
abbrev bE oi:aj:=aV [η s.1,η s.2.1,η s.2.2]
noncomputable abbrev bF m_:aj:=ς Lp
noncomputable abbrev aeA:=Nat×iz
abbrev oX(r:aeA):aj:=aV [η r.1,bF r.2]
noncomputable abbrev Jh(rs:uO):aj:=ς (rs.map oX)
abbrev aU:dw->aj
 |none=>.bb
 |some n=>η n
noncomputable abbrev gL yR:aj:=ς ũ
noncomputable abbrev jc(ns:gf):aj:=ς (ns.map (z4 (n:Nat)))
abbrev dR.at j! dS:dR:=ps.getD n (.pl 0 0)
abbrev beyond j! Bp pC:dw:=(BN).find? λk=>Xu k a&&i7 j (d8 k).js
abbrev wz rq pC:eK:=match p with
 |.pl a b=>[a,b].filter (oE o o j)
 |.pt t s b=>if j=t then[s,b] else[t]
def Zb(s:Tr):Qa (fE s):=by
 rw[RI y hy hy];rcases hy with rfl | rfl<;>exact qc _
def adM(a b:Tr)(h:fE a=fE b):a=b:=by
 rw[apB a1 a2 a b1 b2 b];simp[fE]at h;rw[Ah h];subst h1
 have:a2=b2:=av
 subst this;rfl
@[simp] def aXZ qp NZ bf{ss:sW}b6:I! (aV [η j,η n]) kD=.ok (.ah (Wq (j,n) ss (j,n) ss)) M:=by
 rw[Pn (I! (fE (j,n)) _=_) (SD (enc:=fE) Zb adM (a:=(j,n)) ac1)]
@[simp] def kb rq cT:mQ afE M=.ok (gL p.js) M:=by cases p<;>rfl
@[simp] def a6A b6:I9 Xs Xs=.ok (fT .ah) M:=bU
@[simp] def a6B b6:I9 Xl Xs=.ok (lO .ah) M:=bU
@[simp] def a6C b6:I9 Xs Xl=.ok (lO .ah) M:=bU
@[simp] def a6D b6:I9 Xl Xl=.ok (fT .ah) M:=bU
def adC dH gx gy b6(h:Ai):ajh xs i=.ok x M:=by
 have hl:I1:=HR;simp only[f_,aVh,yK,F_];rw[Eu,Eu];simp[h]
def C3 dH gx gy b6(h:Ai):Pk ς xs i=.ok x M:=by
 have hl:I1:=HR;simp only[f_,ac1,yK,F_];rw[Eu,Eu];simp[h]
@[simp] def S3 gy Oh:ajh (x::xs) 0=.ok x M:=adC (i:=0) rfl
@[simp] def a6E Z0 Oh:ajh (x::y::xs) 1=.ok y M:=adC (i:=1) rfl
@[simp] def aea{x y z:aj}Oh:ajh (x::y::z::xs) 2=.ok z M:=adC (i:=2) rfl
@[simp] def a1t{x y z u:aj}Oh:ajh (x::y::z::u::xs) 3=.ok u M:=adC (i:=3) rfl
@[simp] def iL Oh(h:aCv):R2 xs M=.ok (ς xs) M:=f6 (gX h)
def Sh rq Oi:ab9 mQ [p.enc,η j] M=.ok (gL (wz p j)) M:=by
 cases p with
 |pl a b=>
  have e:=kb (.pl a b) M;simp only[dR.enc]at e;rw[aqO ab9 AH];simp;rw[oR (xs:=[a,b]) (w:=none) (M':=M) aj.int (oE o o j) aj.int (k7 (ρ=[y,oG])) (by simp[e];rfl) trivial rN (nH x) (gX (show 2≤3 by decide))]
  ·rw[iL (by rw[rF (EA qx (show oF 2 by decide))])];rfl
  ·rw[Vz y hρ (aiK _ fR Ξ _)]
 |pt t s b=>
  rw[aqO ab9 AH];simp;by_cases h:j=t<;>simp[h,wz]
def adn Bl bf(h:oP n):qJ ps n (d8 n):=by
 unfold dR.at;rw[Q0 h];rfl
def awQ Bl bf(h:oP n):d8 n∈ps:=azl (adn h)
def FT Bl bf b6(h:oP n):Aa gk n=.ok (d8 n).enc M:=C3 (by rw[eX,adn h];rfl)
abbrev Kb j! pC:gf:=(BN).filter (zO k (j∈(d8 k).js))
def aFY j!:FQ lT=(BN).map λk=>aV [η k,(d8 k).enc]:=by
 refine aoY i;unfold FQ;rw[eX,List.getElem?_zipIdx,eX,eX];rw[i9 (oP i)]
 ·rw[adn h,azt];simp
 ·rw[aav,EC (by rw[fh])];rfl
def aEK bf(h:oF n):k8 DZ lim:=by
 rw[az List.length_range (gX h)]
def Sj j! Oi Uc:AE mQ [gk,η j] M=.ok (jc (MN j)) M:=by
 simp only[AE,AH];simp;rw[oR (xs:=BN) (w:=none) (M':=M) (λk=>aV [η k,(d8 k).enc]) (zO k (j∈(d8 k).js)) (fun(k:Nat)=>η k) (λρ=>∃y z,ρ=[y,z,oG]) ?_ trivial (kA none none) (nH x) (aEK hl)]
 ·rw[iL (by rw[rF (EA qx (by rw[azv hl]))])];rfl
 ·unfold Ye;simp[aFY]
 ·rw[É y z rfl hρ (aiK _ (uY _) Ξ _)]
def X? j! dS Oi Uc:R_ (AE mQ) [gk,η n,η j] M=.ok (aU (HY n)) M:=by
 have loop:∀(xs:gf)(y:wY),m7 (ug none (bR 3) (Im (kC (dq true) aG) (bZ bH)) (xs.map (z4 (n:Nat)))) (bZ (dC .bb)) [pV,cJ n,oG,y] M=.fk (aU (xs.find? (oE k k n))) M:=by
  intro xs
  induction xs with
  |nil=>rw[XS y]
  |cons x xs ih=>
   intro y;rw[i9 (x=n)]
   ·rw[Xx h (ih aX)];simp[ug]at this⊢;rw[zf]
   ·have h':¬aY x=n:=av
    simp[ug,h,h',aU]
 simp only[R_,AH];have:=loop (MN j) none;simp only[aGX]at this⊢
 rw[gp (aGD (w:=none) (M':=M) (ja (by rw[rF (Sj ps j M hl)])) trivial)];rw[Wz];rw[this];simp[Kb,beyond,Bool.and_comm]
universe Sb
universe zE
section
namespace Sb
open PySem L2
def aZR bf oi:p5 (bE s):=aic (by
 rw[Ht hx];rcases hx with rfl | rfl | rfl<;>simp)
def ams bf m_:p5 (bF w):=aGE (CX (by
 rw[Xd s hx (aZR s)]))
def aeb bf(r:aeA):p5 (oX r):=aic (by
 rw[Ht hx];rcases hx with rfl | rfl
 ·simp
 ·exact ams _)
def FG bf gb TY(h:∀a,p5 Bu)(as:ry):p5 (ς RJ):=aGE (CX (by
 rw[Xd a hx (h a)]))
abbrev aOY wN:Rt iz (Int->ze (QS iz))
 |0,_,_,_=>[]
 |n+1,way,j,a=>if a∈KG then[] else(wz (d8 a) j).flatMap λo=>match Jb with
  |none=>[way++[(a,j,o)]]
  |mD=>if(o,b)∈ss then[way++[(a,j,o)]] else IQ n (way++[(a,j,o)]) o b
def avd rq pC:k8 (wz p j) 2:=by
 cases p with
 |pl a b=>exact qx
 |pt t s b=>rw[Ej wz];split<;>simp
def acT Bl T! NZ(h:KW a j=mD):oP b/\b≠a/\j∈(d8 b).js:=by
 rw[nw beyond];rw[oD (List.mem_of_find?_eq_some h) (List.find?_some h)];simp at h1 h2;rw[bC h1 h2.1 h2.2]
def auh sP{f:α->List β}dU:∀Ua,(GX x (k8 (f x) k))->k8 (xs.flatMap f) (xs.length*k)
 |[],_=>Ξ
 |x::xs,h=>by
  rw[oD (h x Ξ) (auh xs λy hy=>h y (aK hy))];rw[List.flatMap_cons,List.length_append,zE,Nat.succ_mul];omega
abbrev ua wN aok pC Bp(o:Int):QS iz:=match Jb with
  |none=>[way++[(a,j,o)]]
  |mD=>if(o,b)∈ss then[way++[(a,j,o)]] else IQ n (way++[(a,j,o)]) o b
def Sm wN aok pC Bp:MD (n+1) j a=if a∈KG then[] else(wz (d8 a) j).flatMap (ua ps ss n way j a):=rfl
def Yw wN:∀aok pC Bp,k8 (MD n j a) (2 ^ n)
 |0,way,j,a=>HC
 |n+1,way,j,a=>by
  rw[Sm];split
  ·simp
  ·have h:∀o∈wz (d8 a) j,k8 (ua ps ss n way j a o) (2 ^ n):=λo _=>by
    have:=aMo n;unfold ua;split
    ·rw[zf]
    ·split
     ·rw[zf]
     ·exact Yw ps ss n _ _ _
   rw[oD (auh _ h) (Nat.mul_le_mul_right (2 ^ n) (avd (d8 a) j))];rw[s7 Nat.pow_succ]
def ac4 wN aok pC Bp(o:Int):k8 (ua ps ss n way j a o) (2 ^ n):=by
 have:=aMo n;unfold ua;split
 ·rw[zf]
 ·split
  ·rw[zf]
  ·exact Yw ps ss n _ _ _
def awg bf(h:n≤20):2 ^ n≤1048576:=Nat.pow_le_pow_right aC h
structure Jy j!(way:iz)Bp:Prop where
 eg:Ì 16
 lt:oP a
 nd:gC KG
 all:nA way (oP s.1)
def Jy.step Bl{way:iz}T!{j o:Int}(h:Jy ps way a)(ha:a∉KG)(hb:Jb=mD):Jy ps (way++[(a,j,o)]) b:=by
 refine⟨h.eg,(acT hb).1,?_,BZ⟩
 ·rw[aNh];rw[eF h.nd Ξ (jj x hx y hy)];rw[Lh hy hy];rintro rfl;exact ha hx
 ·rcases azr with hs | hs
  ·exact h.all s hs
  ·rw[ň hs hs h.lt]
def Yx:∀bf{xs:gf},xs.Nodup->(GX x (x<n))->Q5 n
 |0,xs,_,hl=>by
  cases xs with
  |nil=>simp
  |cons x xs=>rw[se (hl x Ξ) av]
 |n+1,xs,h,hl=>by
  rw[bq h1 (gC (xs.erase n)) (h.erase n) h2 (∀x∈xs.erase n,x<n) (CX (by
   rw[fS h3 (hl x (List.mem_of_mem_erase hx)) h4 (x≠n) (fD (by subst e;exact(h.not_mem_erase) hx))]
   omega))]
  rw[bI h3 (Yx h1 h2) h4 (List.length_erase_le (a:=n) (l:=xs))];rw[abr (n∈xs)]
  ·rw[List.length_erase_of_mem hm]at h3;omega
  ·rw[List.erase_of_not_mem hm]at h3;omega
def Jy.len Bl{way:iz}{a:Nat}(h:Jy ps way a):Vc way.length:=by
 have:=Yx h.nd (CX (by
  rw[Vn s hs hx (h.all s hs)]))
 simpa using this
abbrev amt Ug:Prop:=∀ps ss way j a M,Jy ps way a->ats 1≤way.length+n->n≤20->g [gk,kD,bF way,η j,η a] M=.ok (ς ((MD n j a).map bF)) M
def awR{way:iz}{a:Nat}b6:ai6 (η a) (ς (aBQ s s.1)) M=.ok (.ah (i7 a KG)) M:=by
 have e:(aBQ s s.1)=(way.map λs=>aY (s.1:Nat)).map aj.int:=Ξ
 rw[e,avc]
 have:(aY a∈way.map λs=>aY (s.1:Nat))↔a∈KG:=by
  simp only[List.mem_map];constructor
  ·rintro⟨s,hs,h⟩;rw[bC s hs av]
  ·rintro⟨s,hs,h⟩;rw[bC s hs av]
 simp only[this];rfl
def awS o!{way:iz}g!(h:yW i Mw)(hl:oF way.length):O1 pS (dc (ae i)) j_ r4 ρ M=.ok (ς (aBQ s s.1)) M:=by
 rw[IP way w M bE (zY s s.1) (k7 (ρ=[y])) (ja (B! h)) (nH x) ON]
 ·rw[r9,iL (by rw[qs hl])]
 ·rw[E! (λ_=>H8)]
def aZS bf Bo(h:amt n g):amt (n+1) (Pf (aDP (ab9 mQ) (R_ (AE mQ)) g)):=by
 intro ps ss way j a M ok hn Ge;rw[bI hl ok.len hf ok.eg];rw[ff (VN (FG ams _)) (AA (P:=λr=>∃G,r=.ok _ (M++G)) ?_)];simp only[cZ,zD,zE,yE,Nat.zero_add,Nat.reduceAdd,Nat.reduceSub,List.replicate,Dd,wC]
 rw[ko lC (n9 (cD (iu false) bY akc) [pV,Fe,Mw,oG,cJ a,none,none,none,none] M=.ok (i7 a KG) M) (by
  simp only[c_,au,aT,bB,bw,ag];rw[awS (way:=way) 2 rfl av];rw[qG awR]) (R3 _ _ lC (ck ha) ha)]
 ·rw[Ï uy ha (qL (ς []) M Ξ (t8 (eP (lM []))))];rw[Fq Sm uy];simp
 ·rw[cV uy (of_decide_eq_false ha) (c5 (atm (M++[ς []])))];rw[tK (nQ aj.int (pI (∃y6 y7 y8,ρ=[pV,Fe,Mw,oG,cJ a,g?,y6,y7,y8]/\M'=M++[ς ((gN).map bF)])) (wz (d8 a) j) none _
   (ja (fQ (FT ok.lt) Sh)) trivial aiD ?_ ?_)]
  ·rintro pre o post hx ρ M' ⟨y6,y7,y8,rfl,rfl⟩
   have g7:k8 gN (2*2 ^ n):=by
    rw[fS h1 (abd o _ (ac4 ps ss n way j a o)) h2 (aBs 2) (by
     have:=avd (d8 a) j;rw[nt hx this this];omega)]
    exact azM h1 _ h2
   rw[bI F4 (ac4 ps ss n way j a o) o5 (awg (n:=n) av)]
   refine qH;rw[ji (jE (bF (way++[(a,j,o)])) (M++[ς ((gN).map bF)]) (by simp[bE];rw[iL (by rw[fh])];simp[bE]))]
   rw[ji (jE (aU Jb) (M++[ς ((gN).map bF)]) (aK (X? _ _ _ _ (show Ks by omega))))]
   rw[eB]
   rw[agK mV];cases hb:Jb with
   |none=>
    refine JJ (M++[ς ((gN).map bF)]) (Ox aU jd C_) (nL .bb (M++[ς ((gN++[way++[(a,j,o)]]).map bF)]) (by rw[aab p! jP]) (Wj _ _ ?_));simp[ua,hb]
   |some b=>
    refine R3 (i7 (o,b) ss) (M++[ς ((gN).map bF)]) (Ox aU jd C_) (ck hs) hs
    ·rw[Ï tq hs (nL .bb (M++[ς ((gN++[way++[(a,j,o)]]).map bF)]) (by rw[aab p! jP]) (Wj _ _ ?_))];simp[ua,hb,tq]
    ·rw[bI tq (of_decide_eq_false hs) hg (h ps ss (way++[(a,j,o)]) o b (M++[ς ((gN).map bF)]) (asn uy) (by rw[fh]) av)];simp only[ua,hb,if_neg tq]at F4⊢;refine x8 .bb (M++[ς ((gN++IQ n (way++[(a,j,o)]) o b).map bF)]) (Wj _ _ rfl);simp[aU,alJ,jP]at hg⊢;rw[hg];simp[lim,-List.length_flatMap];omega
  ·rw[GW M' y6 y7 y8 rfl rfl];refine WN (ς ((MD (n+1) j a).map bF)) (M++Ij) ajb;rw[Sm,if_neg uy];simp[Di]
universe Sb
universe zE
end
mutual
section
namespace Sb
open PySem L2
def a27 dS:q6 0 n=(DZ).map (qy (k:Nat)):=by
 rw[zM q6 (EE k _)];simp
def a5W e7 o! bf(h:c8=.ok (η n) M)(hn:n≤100000):o3 [d] ρ M=.ok ((DZ).map (qy (k:Nat)),none) M:=by
 have e:U! [d] M=.ok [η n] M:=by rw[aR,h];rfl
 rw[Á o3 e ag]
 have a3X:aAG (aY 2 ^ 62):=aCc
 rw[a3X,if_pos ai9,Int.toNat_natCast,a27]
def alp rq cT:yG false p.enc u_ none M=.ok (aV (p.js.map η)) M:=by cases p<;>rfl
def YE rq Oi:auQ [p.enc,η j] M=.ok (gL (wz p j)) M:=by
 cases p with
 |pl a b=>
  rw[aqO auQ AH];simp;rw[oR (xs:=[a,b]) (w:=none) (M':=M) aj.int (oE o o j) aj.int (k7 (ρ=[y,oG])) (aH3 (alp (.pl a b) M)) trivial rN (nH x) (gX (show 2≤3 by decide))]
  ·rw[iL (by rw[rF (EA qx (show oF 2 by decide))])];rfl
  ·rw[Vz y hρ (aiK _ fR Ξ _)]
 |pt t s b=>
  rw[aqO auQ AH];simp;by_cases h:j=t<;>simp[h,wz]
def Sk j! dS Oi Uc:aut [gk,η n,η j] M=.ok (aU (HY n)) M:=by
 rw[xe aut P r (r=.ok (aU (HY n)) M)];rw[zh (jc ((BN).filter λk=>Xu k n&&i7 j (d8 k).js)) M]
 ·rw[oR (xs:=BN) (w:=none) (M':=M) (qy (k:Nat)) (λk=>Xu k n&&i7 j (d8 k).js) (qy (k:Nat)) (k7 (ρ=[y,cJ n,oG,pV]))
   (OH (aK eW)) trivial rN (QA x hx) (aEK hl)]
  ·rw[iL (by rw[qs (EA qx (by rw[azv hl]))])]
  ·rw[rJ y hρ];rw[qt hx' (oP x) (List.mem_range.mp hx) (aiK _ fR ?_ _)];rw[EM x n]
   ·simp[e]
   ·have e':¬aY x=n:=av
    simp[e,e',FT hx',alp]
 ·rw[ji (CH (aU (HY n)) M)]
  have hb:HY n=((BN).filter λk=>Xu k n&&i7 j (d8 k).js).head?:=by
   rw[dJ beyond List.head?_filter]
  cases e:((BN).filter λk=>Xu k n&&i7 j (d8 k).js) with
  |nil=>rw[hb,e];simp[gR,aU]
  |cons x xs=>
   rw[hb,e];simp[gR,aU];exact u0 0
abbrev amH Ug:Prop:=∀ps ss way j a M,Jy ps way a->ats 1≤way.length+n->n≤20->g [gk,kD,bF way,η a,η j] M=.ok (ς ((MD n j a).map bF)) M
abbrev aX0 c6:Prop:=∀rq Oi,g [dR.enc p,η j] M=.ok (gL (wz p j)) M
abbrev alE c6:Prop:=∀j! dS Oi,Ks->g [gk,η n,η j] M=.ok (aU (HY n)) M
def aZr bf{go bX g:D1}(ho:aX0 go)(JY:alE bX)(h:amH n g):amH (n+1) (Pf (aD3 go bX g)):=by
 intro ps ss way j a M ok hn Ge;rw[rM hl ok.len hf ok.eg (VN (FG ams _))];rw[xe aD3 P r (∃G,r=.ok _ (M++G))];rw[Vd (ahW (M++[ς []]))]
 rw[ko lC (n9 (kC (iu false) akc) [pV,Fe,Mw,cJ a,oG,g?,none,none,none] (M++[ς []])=.ok (i7 a KG) (M++[ς []])) (by
  simp only[c_,au,aT,bB,bw,ag];rw[awS (way:=way) 2 rfl av];rw[qG awR]) (R3 _ _ lC (ck ha) ha)]
 ·rw[Ï uy ha (qL (ς []) (M++Ij) (aK Di) (t8 (eP (lM Ij))))];rw[Fq Sm uy];simp
 ·rw[cV uy (of_decide_eq_false ha) (c5 (uV (nQ aj.int (pI (∃y6 y7 y8 G,ρ=[pV,Fe,Mw,cJ a,oG,cF (vR M G),y6,y7,y8]/\M'=(M++G)++[ς ((gN).map bF)])) (wz (d8 a) j) none (M++[ς []])
   (ja (fQ (FT ok.lt) (ho (d8 a) j))) trivial ⟨none,none,none,[],Ξ,Ξ⟩ ?_ ?_)))]
  ·rintro pre o post hx ρ M' ⟨y6,y7,y8,G,rfl,rfl⟩
   have g7:k8 gN (2*2 ^ n):=by
    rw[fS h1 (abd o _ (ac4 ps ss n way j a o)) h2 (aBs 2) (by
     have:=avd (d8 a) j;rw[nt hx this this];omega)]
    exact azM h1 _ h2
   rw[bI F4 (ac4 ps ss n way j a o) o5 (awg (n:=n) av)]
   refine qH;generalize A7:M++G=aa;rw[ji (jE (bF (way++[(a,j,o)])) (aa++[ς ((gN).map bF)]) (by simp[bE];rw[iL (by rw[fh])];simp[bE]))]
   rw[ji (jE (aU Jb) (aa++[ς ((gN).map bF)]) (aK (JY ps a o _ av)))]
   rw[eB]
   rw[agK mV];cases hb:Jb with
   |none=>
    refine JJ (aa++[ς ((gN).map bF)]) (Ox aU jd C_) (nL .bb (aa++[ς ((gN++[way++[(a,j,o)]]).map bF)]) (by rw[aab p! jP]) (lU ⟨_,_,_,G,iZ A7,?_⟩));simp[ua,hb,A7]
   |some b=>
    refine R3 (i7 (o,b) ss) (aa++[ς ((gN).map bF)]) (Ox aU jd C_) (ck hs) hs
    ·rw[Ï tq hs (nL .bb (aa++[ς ((gN++[way++[(a,j,o)]]).map bF)]) (by rw[aab p! jP]) (lU ⟨_,_,_,G,iZ A7,?_⟩))];simp[ua,hb,tq,A7]
    ·rw[bI tq (of_decide_eq_false hs) hg (h ps ss (way++[(a,j,o)]) o b (aa++[ς ((gN).map bF)]) (asn uy) (by rw[fh]) av)]
     simp only[ua,hb,if_neg tq]at F4⊢
     refine Nl (ο (aa.length+1)) ((aa++[ς ((gN).map bF)])++[ς ((gN++IQ n (way++[(a,j,o)]) o b).map bF)]) ?_ (lU ⟨cJ o,Hv (way++[(a,j,o)]),Ġ mD,G++[ς ((gN).map bF)],?_,?_⟩)
     ·simp[aU]at hg⊢;rw[hg];simp[sq];rw[gp (yq (by simp[lim,-List.length_flatMap];omega))]
     ·rw[←List.append_assoc,A7];simp
     ·rw[←List.append_assoc,A7]
  ·rintro ρ' M' ⟨y6,y7,y8,G,rfl,rfl⟩;refine WN (ς ((MD (n+1) j a).map bF)) (M++G++Ij) (eP ⟨G++Ij,aLO⟩);rw[Sm,if_neg uy];generalize M++G=aa;simp[Di]
universe Sb
universe zE
section
namespace L2
open PySem
def sv gb [BEq α] [LawfulBEq α] TY ayf ayP b6:countP (ς RJ) [Bu] M=.ok (η (as.count a)) M:=by
 rw[Ej countP];rw[RG _ (hp a),AJ];rw[afU (Sv (g:=Wf) λz hz=>by
  rw[Xd b hz (RG _ (hp b))])]
 have:((RJ).map Wf).countP (yX q q (k? deep Bu))=as.count a:=by
  rw[List.countP_map,List.countP_map];rw[zM List.count (List.countP_congr (dz b _))];rw[rP Function.comp (adQ deep _ _ (hp b) (hp a))];simp only[beq_iff_eq];rw[K4 (fD (inj _ _ e)) e (iZ e)]
 rw[this]
def aOl{i j:Nat}Z0{ρ:bu}:ud 2 (qP (bR i) (L8 (bR j))) (aV [x,y]) ρ=rL (D6 i).set j zg:=rfl
universe L2
namespace Sb
open PySem L2
structure aC8 wN:Prop where
 amI:Vc 1
 eg:Ì 16
 q6:jn ps (∀j∈p.js,0≤j/\j≤999)
 once:ag0 ps
 two:∀j,ay4 j 2
 um:aB7 16
 nd:ss.Nodup
 sg:nA ss (oP s.2/\s.1∈(d8 s.2).js)
abbrev aX1 c6:Prop:=∀j! Oi,Ks->g [gk,η j] M=.ok (jc (MN j)) M
abbrev awh c6:Prop:=∀rq cT,g afE M=.ok (gL p.js) M
abbrev Ni c6 Gz:Prop:=∀M,g xs M=.ok .bb M
def ab4 jT{dG:D1}(hp:aX1 dG)Bl Uc aJq aI0:Ni (X7 c dG) [gk,gL js]:=by
 intro M;rw[xe X7 P r (r=.ok .bb M)]
 refine CI aj.int (XA y2 (ρ=[pV,HJ js,y2]/\M'=M)) js M (ja rfl) aiC
 ·rintro pre j post hx ρ M' ⟨y2,rfl,rfl⟩
  have hj:j∈js:=by rw[oB]
  rw[tw r1 r2 (hr j hj) hc (js.count j≤1) (List.nodup_iff_count.mp hn j)];refine qH;rw[tK (Vm (c5 (ahb (c5 (aha (c5 aad))))))]
  ·simp[Hk,l7];rw[kE av];simp[r2]
  ·rw[abm l7 (sv (enc:=aj.int) (λa=>qc a) (λa b e=>by cases e;rfl))]
  ·simp[hp ps j _ hl,eW,l7];rw[fZ (h2 j)]
 ·rintro ρ' M' ⟨y2,rfl,rfl⟩;exact Ae
def ab3 jT{bS akw:D1}TZ(hc:jn ps (Ni bS [gk,gL p.js]))(hj:awh akw):Ni (X6 c bS akw) [gk]:=by
 intro M;rw[xe X6 P r (r=.ok .bb M)];rw[Rj h1 hg.amI h2 hg.eg (D_ M (c5 (uV (D_ M Ad))))]
 ·simp[eW];intro h;rw[nt h h1 h1]
 ·rw[abm eW l7]
 refine CI dR.enc (XA y2 (ρ=[pV,y2]/\M'=M)) ps M (ja rfl) aiC
 ·rintro pre p post hx ρ M' ⟨y2,rfl,rfl⟩;refine qH;rw[ji (x8 .bb M' aad)];simp[hj p,hc p (by rw[oB]) M']
 ·rintro ρ' M' ⟨y2,rfl,rfl⟩;exact Ae
def ip jT{akw:D1}TZ(hj:awh akw):Ni (X_ c akw) [gk,kD]:=by
 intro M;rw[xe X_ P r (r=.ok .bb M)]
 rw[CC h1 hg.um (D_ M Ad)]
 ·rw[abm eW l7]
 refine CI fE (pI (∃y2 y3,ρ=[pV,Fe,y2,y3]/\M'=M)) ss M (ja rfl) (tQ none none rfl)
 ·rintro pre s post hx ρ M' ⟨y2,y3,rfl,rfl⟩
  have hs:s∈ss:=by rw[oB]
  rw[tw r1 r2 (hg.sg s hs) hc (aCg≤1) (List.nodup_iff_count.mp hg.nd s)];have Tz:=sv (enc:=fE) Zb adM (a:=s) (as:=ss) (M:=M');rw[VA j n s qH];rw[tK (Vm (c5 (ahb (c5 (aha (c5 (lU (tQ _ _ rfl))))))))]
  ·simp[fE]at Tz⊢;rw[Tz];rw[V9 l7]
  ·dsimp only at r1;simp[Hk,abX,eW];rw[kE av];rw[fh]
  ·simp[FT r1,hj (d8 n)];exact r2
 ·rw[ī M' y2 y3 rfl rfl];exact Ae
def acq{dG gs:D1}Z0(hp:Ni dG [x])(hs:Ni gs [x,y]):Ni (acd dG gs) [x,y]:=by
 intro M;rw[ki acd r (r=.ok .bb M)];exact VY .bb M (aK (hp M)) (kn (nL .bb M (aK (hs M)) Ae))
universe Sb
universe zE
section
namespace Sb
open PySem L2
abbrev yj(ss:sW)pn:Tr:=ss.getD k (0,0)
def xa{ss:sW}bf(h:Ũ n):qJ ss n (yj ss n):=by
 unfold yj;rw[Q0 h];rfl
def Y3{ss:sW}bf(h:Ũ n):yj ss n∈ss:=azl (xa h)
def S4{ss:sW}bf b6(h:Ũ n):Aa kD n=.ok (fE (yj ss n)) M:=C3 (by rw[eX,xa h];rfl)
abbrev fuel:Nat:=17
abbrev Yu wN pn:uO:=(IQ fuel [] HQ EZ).map λw=>(k,w)
abbrev abQ wN:uO:=(í).flatMap (Yu ps ss)
def aHp(ss:sW):FQ iH=(í).map λk=>aV [η k,fE (yj ss k)]:=by
 refine aoY i;unfold FQ;rw[eX,List.getElem?_zipIdx,eX,eX];rw[i9 (Ũ i)]
 ·rw[xa h,azt];simp
 ·rw[aav,EC (by rw[fh])];rfl
def ale wN pn:k8 (Yu ps ss k) 131072:=by
 rw[jW Yu eH (Yw ps ss fuel _ _ _)]
def am3 TZ dU(hk:Ũ k):Jy ps [] EZ:=⟨hg.eg,(hg.sg _ (Y3 hk)).1,Ξ,Ξ⟩
abbrev auo c6:Prop:=∀ps ss M,sX->g [gk,kD] M=.ok OI M
def aH4 bf(rs:uO):p5 (Jh rs):=FG aeb rs
def Jm bf{pre post:gf}aKr:k<n/\pre.length<n:=by
 rw[Cg h1 (k∈DZ) (by rw[gp h]) h2 (ay5 h)];simp at h1 h2;omega
def ac6{bS gE:D1}(hc:∀ps ss,sX->Ni bS [gk,kD])(hw:amt fuel gE):auo (Pf (ph bS gE)):=by
 intro ps ss M hg;refine VN (aH4 _);rw[xe ph P r (∃G,r=.ok OI (M++G))]
 rw[CC hfs hg.um (nL .bb M (aK (hc ps ss hg M)) (atm (M++[ς []])))];rw[tK (nQ (fun(k:Nat)=>Xz (η k) (fE (yj ss k))) (pI (∃y3 y4 y5,ρ=[pV,Fe,g?,y3,y4,y5]/\M'=M++[ς ((xd).map oX)])) í none (M++[ς []])
  (by unfold Ye;simp[aHp]) trivial aiD ?_ ?_)]
 ·rintro pre k post hx ρ M' ⟨y3,y4,y5,rfl,rfl⟩;rw[tw hk g8 (Jm hx) g7 (Eh (di xd)) (by
   have h1:=abd k _ (ale ps ss k);omega)]
  rw[Af _ aOl];rw[eB];rw[cV NV (hw ps ss [] HQ EZ (M++[ς ((xd).map oX)]) (am3 hg hk) (by simp;have:=hg.eg;rw[Ŧ fuel]) aC) (nQ bF (λqf ρ M'=>∃y5,ρ=[pV,Fe,g?,jG,aN (fE (yj ss k)),y5]/\M'=M++[ς ((xd++qf.map λw=>(k,w)).map oX)])
   (IQ fuel [] HQ EZ) none (M++[ς ((xd).map oX)]) (ja (by simp[fE]at NV⊢;exact NV)) trivial (x6 Ξ) ?_ ?_)]
  ·rintro qf w axh A8 ρ M' ⟨y5,rfl,rfl⟩
   rw[qt o5 (qf.length≤131072) (by
    rw[jm h1 (Yw ps ss fuel [] HQ EZ) A8 h1];simp[fuel]at h1;omega) qH];rw[ji (x8 .bb (M++[ς ((xd++(qf++[w]).map λw=>(k,w)).map oX)]) aad)];simp[p!,jP,oX,lim,-List.length_flatMap];omega
  ·rintro ρ' M' ⟨y5,rfl,rfl⟩;refine Wj _ _ ?_;rw[agK mV];rfl
 ·rw[GW M' y3 y4 y5 rfl rfl];exact agf OI (M++Ij) (fQ Di abQ) ajb
def Sl{gE:D1}(hw:amH fuel gE):auo (aDD gE):=by
 intro ps ss M hg;rw[xe aDD P r (r=.ok OI M)];rw[cV hfs hg.um (XC ς [] Ξ)];rw[eB]
 have hi:o3 [(tF aG)] [pV,Fe,kQ [],none] M=.ok ((í).map (qy (k:Nat)),none) M:=OH (aK eW);generalize o3 [(tF aG)]=eO at hi⊢
 refine gV (nQ (qy (k:Nat)) (XA y3 (ρ=[pV,Fe,aN (Jh xd),y3]/\M'=M)) í none M
  hi trivial aiC ?_ ?_)
 ·rintro pre k post hx ρ M' ⟨y3,rfl,rfl⟩;rw[tw hk g8 (Jm hx) g7 (Eh (di xd)) (by
   have h1:=abd k _ (ale ps ss k);omega)]
  have F4:=ale ps ss k;rw[vd];rw[cV NV (hw ps ss [] HQ EZ M' (am3 hg hk) (by simp;have:=hg.eg;rw[Ŧ fuel]) aC) (Nl (Jh ((pre++[k]).flatMap (Yu ps ss))) M' ?_ aad)];rw[au];rw[PO]
  rw[oR (xs:=IQ fuel [] HQ EZ) (w:=none) (M':=M') bF zK (λw=>oX (k,w)) (k7 (ρ=[y,jG])) (ja (by simp[S4 hk,fE]at NV⊢;exact NV)) trivial rN (QA x hx)
   (gX (Yw ps ss fuel _ _ _))]
  ·rw[r9,f6 (by rw[s5 (Yw ps ss fuel _ _ _)]),ag,Sq,f6 (by simp[Yu,lim,-List.length_flatMap]at F4⊢;omega)];simp[Yu]
  ·rw[E! (λ_=>aK oX)]
 ·rintro ρ' M' ⟨y3,rfl,rfl⟩;exact kn (Et OI M' (aK abQ))
universe Sb
universe zE
section
namespace L2
open PySem
def aHq{M G:aS}uK:fP (M++o::G) M.length o:=Ξ
def awi{M G:aS}{o o':dm}:(M++o::G).set M.length o'=M++o'::G:=Ξ
universe L2
namespace Sb
open PySem L2
abbrev xb yR(k:Int):Int:=ns.getD (k%ns.length).toNat 0
abbrev aOX yR(k:Int):Int:=
 (arL (xb ns k+104729*(k+1))*48271%4294967279 / 64*69621+arL (xb ns k+104729*(k+1))*48271%4294967279)%4294967231
abbrev aFZ c6:Prop:=∀ns k M,g [.cY ns,η k] M=.ok (η (xb ns k)) M
abbrev aDo c6:Prop:=∀ns k M,g [.cY ns,η k] M=.ok (η (vf k)) M
def acU:aFZ auP:=by
 intro ns k M;rw[ki auP r (r=.ok (η (xb ns k)) M)];rw[i9 (ns=[])]
 ·subst h;refine gV (acp M (aK gR) (c5 (xh (η 0) M ?_)));simp[xb]
 ·rw[ko hl (0<ns.length) aLb (JJ M (fQ gR h) (HU (η (xb ns k)) M (t8 (eP rfl))))];rw[oD (apa k b ns.length) (Int.emod_lt_of_pos k (b:=ns.length) av)];simp[eW,gr,nW,hl,f_,yK,F_];rw[Fq Hf h2]
  have h3:(k%aY ns.length).toNat<ns.length:=av
  simp[h3,xb]
def adk Bo(h:aFZ g):aDo (au2 g):=by
 intro ns k M;rw[ki au2 r (r=.ok (η (vf k)) M)];rw[zh (η (arL (xb ns k+104729*(k+1)))) M]
 ·simp[h ns k M,gr,nW,lx,small]
 rw[zh (η (arL (xb ns k+104729*(k+1))*48271%4294967279)) M]
 ·simp[gr,nW,lx,small]
 refine CH (η (vf k)) M;simp[gr,v7,nW,lx,small,aOX]
def aEa yR(k:Int):0≤vf k:=Int.emod_nonneg _ aC
universe Sb
universe zE
section
namespace Sb
open PySem L2
abbrev cnt j! pC:Nat:=di (ps.filter (zO p (j∈p.js)))
def aXw j! pC:di (MN j)=cnt ps j:=by
 unfold Kb cnt
 have:ps=(BN).map (dR.at ps):=by
  rw[mC (aoY i) eX];rw[i9 (oP i)]
  ·rw[adn h,azt];rfl
  ·rw[aav,EC (by rw[fh])];rfl
 conv=>rhs;rw[this]
 rw[List.filter_map,eH];rfl
def aF0 j! rq pC:cnt (ps++[p]) j=cnt ps j+BJ j p.js 1 0:=by
 rw[f5 cnt List.filter_append List.length_append]
 congr 1
 by_cases h:j∈p.js<;>simp[h]
abbrev fresh(c:Int)g!:Int:=(c+37*i)%1000
def aTq(c:Int)g!:0≤IF i/\IF i≤999:=by
 rw[Ŧ fresh]
def aEL(c:Int){i k:Nat}(hi:i<27)(hk:k<27)(h:IF i=IF k):i=k:=by
 rw[nw fresh];omega
structure aem(c:Int)j!(loose:eK)(many:Nat):Prop where
 eg:many≤3*ps.length
 old:jn ps (∀j∈p.js,∃i,i<many/\j=IF i)
 once:ag0 ps
 two:∀j,cnt ps j≤2
 lo:∀j∈loose,cnt ps j≤1/\∃i,i<many/\j=IF i
structure amN(c:Int)(loose:eK)(m0 many:Nat)(ends:eK):Prop where
 nd:ends.Nodup
 le:m0≤many
 src:∀j∈ends,j∈loose\/∃i,m0≤i/\i<many/\j=IF i
abbrev aV4:eK->dR
 |[j,k]=>.pl j k
 |[t,s,b]=>.pt t s b
 |_=>.pl 0 0
def aXx{ends:eK}ayF:(ajL).js=ends:=by
 rcases ends with _ | ⟨a,_ | ⟨b,_ | ⟨d,_ | ⟨e,r⟩⟩⟩⟩
 ·rw[EY]
 ·rw[EY]
 ·rfl
 ·rfl
 ·rw[EY]
def aV5 Bl NZ(h:jn ps (j∉p.js)):cnt ps j=0:=by
 rw[f5 cnt List.length_eq_zero_iff List.filter_eq_nil_iff];intro p hp;simp[h p hp]
def aVK{c:Int}Bl ax1 aKq(hm:many≤3*(ats 1))(a3T:many≤24)ayF:
  aem c (ps++[ajL]) (ends.filter (atk j j)++aBK (aaL j j)) many:=by
 rw[fS hj (aXx h) cw (∀i,m0≤i->i<many->cnt ps (IF i)=0) (λi h1 h2=>aV5 λp hp hm=>by
  obtain⟨i',h3,h4⟩:=I.old p hp _ hm;rw[fZ (aEL c av av h4)])]
 refine⟨by rw[az List.length_append hm],jj p hp j hm,Mh p,ck j,dz j hm⟩
 ·rcases ao8 with hp | hp
  ·rw[L0 i (I.old p hp j hm) i (azY h1) h2]
  ·rw[Ht hp];rw[zz hp hj hm];rcases E.src j hm with h1 | ⟨i,_,h1,h2⟩
   ·obtain⟨_,i,h2,h3⟩:=I.lo j h1;rw[bC i (azY h2) h3]
   ·rw[bC i h1 h2]
 ·rcases ao8 with hp | hp
  ·exact I.once p hp
  ·rw[ahV hp hp];rw[az hj E.nd]
 ·rw[aF0,hj];have:=I.two j;split
  ·rename_i hm;rcases E.src j hm with h1 | ⟨i,h0,h1,rfl⟩
   ·rw[fZ (I.lo j h1).1]
   ·rw[s7 (cw i h0 h1)]
  ·omega
 ·rw[aF0,hj];rcases azq with hm | hm
  ·rw[Ah azn];rw[Hx h2 h2];rcases E.src j h1 with h3 | ⟨i,h0,h3,rfl⟩
   ·rw[pO h3 h2]
   ·rw[cw i h0 h3,Hf];exact⟨av,i,h3,rfl⟩
  ·rw[Ah azn];rw[Hx h2 h2];rw[kE h2];rw[LH h3 i h4 h5 (I.lo j h1) h3 i (azY h4) h5]
def aVL{c:Int}ax1 aJp NZ(h1:j∈loose)(h2:j∉ends):amN c loose m0 many (ends++[j]):=by
 rw[eF ?_ E.le (dz k hk)]
 ·rw[List.nodup_append];rw[eF E.nd Ξ (jj a ha b hb)];rw[Lh hb hb];rintro rfl;exact h2 ha
 ·rcases aMx with hk | hk
  ·exact E.src k hk
  ·rw[ň hk hk (aq h1)]
def aVM{c:Int}Bl ax1 aKq(a3T:many<24):amN c loose m0 (many+1) (ends++[IF many]):=by
 have hn:IF many∉ends:=λh=>by
  rcases E.src _ h with h1 | ⟨i,h0,h1,h2⟩
  ·obtain⟨_,i,h2,h3⟩:=I.lo _ h1;have:=aEL c av (by rw[fZ E.le]) h3;rw[fZ E.le]
  ·rw[fZ (aEL c av av h2)]
 rw[eF ?_ (Nat.le_succ_of_le E.le) (dz k hk)]
 ·rw[List.nodup_append];rw[eF E.nd Ξ (jj a ha b hb)];rw[Lh hb hb];rintro rfl;exact hn ha
 ·rcases aMx with hk | hk
  ·rcases E.src k hk with h1 | ⟨i,h0,h1,h2⟩
   ·exact aq h1
   ·exact aA ⟨i,h0,av,h2⟩
  ·rw[ň hk hk (aA ⟨many,E.le,av,rfl⟩)]
structure aec j!:Prop where
 amI:Vc 1
 eg:Ì 8
 q6:jn ps (∀j∈p.js,0≤j/\j≤999)
 once:ag0 ps
 two:∀j,ay4 j 2
def aem.good{c:Int}Bl{loose:eK}{many:Nat}(I:aem c ps loose many)(h1:Vc 1)(h8:Ì 8):aec ps:=
 ⟨h1,h8,λp hp j hj=>by obtain⟨i,_,rfl⟩:=I.old p hp j hj;exact aTq c i,I.once,λj=>by rw[az aXw (I.two j)]⟩
universe Sb
universe zE
end
mutual
section
namespace Sb
open PySem L2
def aHT o!{xs ys:eK}{i k:Nat}DG(hi:yW i (HJ xs))aI2 Z2:
  O1 (CM fc) (dc (ae i)) akb ak ρ M=.ok (gL (xs.filter (ĕ j j ys))) M:=by
 rw[oR (xs:=xs) (w:=none) (M':=M) aj.int (ĕ j j ys) aj.int (λρ=>∃z,ρ=[z,zg]) (ja (B! hi)) trivial ⟨none,fQ F7 hk⟩ (nH x) ON]
 ·rw[iL (by rw[qs (KI qx hl)])]
 ·rw[rJ z hρ];refine Fp _ fR ?_ (aaQ _);simp[SD (neg:=true) (enc:=aj.int) (λa=>qc a) (λa b e=>by cases e;rfl) hy]
def aXy o!{xs ys:eK}{i k n:Nat}DG(hi:atd i n)(hn:D5 n asi)aI2 Z2:
  O1 (CM fc) (dc (ae i)) akb ak ρ M=.ok (gL (xs.filter (ĕ j j ys))) M:=by
 rw[oR (xs:=xs) (w:=ajG asi) (M':=M) aj.int (ĕ j j ys) aj.int (λρ=>∃z,ρ=[z,zg]) (SS (B! hi) hn) hn ⟨none,fQ F7 hk⟩ (nH x) ON]
 ·rw[iL (by rw[qs (KI qx hl)])]
 ·rw[rJ z hρ];refine Fp _ fR ?_ (aaQ _);simp[SD (neg:=true) (enc:=aj.int) (λa=>qc a) (λa b e=>by cases e;rfl) hy]
def aXz{xs:eK}{n:Int}b6(h:xs≠[])(hn:0≤n):∃j∈xs,Aa (gL xs) (n%(apK (agy<4) Int 4))=.ok (η j) M:=by
 rw[gM hl (ú 0) aLb hd (aY 0<(apK (agy<4) Int 4)) (by split<;>omega) hle (asa (apK (agy<4) Int 4)) (by split<;>omega)]
 generalize (apK (agy<4) Int 4)=d at hd hle;rw[oD (apa n b d) (Int.emod_lt_of_pos n hd)];rw[ay2 i hi h1];rw[hi]
 rw[Wv h3 I1 av xs[i] (List.getElem_mem h3) (C3 (by rw[QX eX h3];rfl))]
def aXA{ends:eK}b6 ayF:∃z,Pk ς [Xs,Xl] (aY ends.length-2)=.ok z M/\(ajL).enc=aV (z::Em):=by
 rcases ends with _ | ⟨a,_ | ⟨b,_ | ⟨d,_ | ⟨e,r⟩⟩⟩⟩
 ·rw[EY]
 ·rw[EY]
 ·exact kA Xs (u0 0)
 ·exact kA Xl (u0 1)
 ·rw[EY]
abbrev aHr c6:Prop:=∀ns(b:Int) M,∃ps,aec ps/\g [.cY ns,η b] M=.ok gk M
def aHU bf{xs:eK}{z:Str}:p5 (aV (Ω z::asi)):=aic (by
 rcases aL4 with rfl | hx
 ·simp
 ·rw[apl i rfl hx];simp)
def Y4 bf rq:p5 p.enc:=by
 cases p with
 |pl j k=>exact aHU (xs:=[j,k])
 |pt t s b=>exact aHU (xs:=[t,s,b])
def M3{kJ:D1}ZQ:aHr (Pf (auu kJ)):=by
 intro ns b M
 suffices h:∃ps G,aec ps/\auu kJ [.cY ns,η b] M=.ok gk (M++G) by
  rw[vG ps G hg e h ⟨ps,hg,apN G e (FG Y4 _)⟩]
 rw[xe auu P r (∃ps G,aec ps/\r=.ok gk (M++G))]
 refine ahW (M++[ς []]);rw[ji (jE (ς []) (M++[ς []]) Ξ)]
 rw[ji (jE (η 0) (M++[ς []]) Ξ)]
 rw[eB];rw[ay2 n hn (show 0≤1+vf b%8 by rw[fZ (aEa ns b)])]
 rw[bq aOG (1≤n/\n≤8) (by rw[fZ (aEa ns b)]) hi (o3 [(ahD (Θ 1) kJ [ak,aG] (Θ 8))] [rX .cY,cJ b,g?,kQ [],Ck,none,none,none,none,none,none] (M++[ς []])
   = .ok ((DZ).map (qy (k:Nat)),none) (M++[ς []])) (OH (by simp[hm ns b,gr,nW,hn]))]
 rw[aaN [(ahD (Θ 1) kJ [ak,aG] (Θ 8))] eO hi (qy (k:Nat)) (pI (∃y5 y6 y7 y8 l6 jR G ps loose many,ρ=[rX .cY,cJ b,g?,ata,Wh (many:Nat),y5,y6,y7,y8,l6,jR] ∧
   M'=M++ς lT::G/\ps.length=pre.length/\loose.length≤3*pre.length/\aem (vX (b+9)) ps loose many)) DZ (M++[ς []]) hi ?_]
 ·exact⟨none,none,none,none,none,none,[],[],[],0,rfl,rfl,rfl,Ξ,⟨Ξ,Ξ,Ξ,aK cnt,Ξ⟩⟩
 ·rintro pre k post hx ρ M' ⟨y5,y6,y7,y8,l6,jR,G,ps,loose,many,rfl,rfl,g8,a4j,I⟩;rw[VA hk a6R (Jm hx) qH];generalize A7:M++ς lT::G=aa;rw[ji (jE (η (vX (b+1+k))) aa (aK (hm ns)))]
  rw[ji (jE Xe (aa++[ς []]) Ξ)]
  rw[eB]
  obtain⟨n2,Ge,a6S⟩:∃n2:Nat,aY 2+(ago (vX (b+1+k)%5<3) 0)=n2/\(n2=2\/n2=3):=by
   split
   ·exact jh 3 (aA rfl)
   ·exact jh 2 (aq rfl)
  have Ds:o3 [(ais (Θ 2) Nk [(cD Hk (Lu 6 (Θ 5)) (Θ 3))])] [rX .cY,cJ b,g?,ata,cJ many,jG,cJ (vX (b+1+k)),aBS,y8,l6,jR] (aa++[ς []])
    = .ok ((aM5).map (qy (k:Nat)),none) (aa++[ς []]):=OH (by
   simp[gr,Hk,nW,Nk]
   rw[←Ge])
  rw[aaN [(ais (Θ 2) Nk [(cD Hk (Lu 6 (Θ 5)) (Θ 3))])] a3D Ds (qy (k:Nat)) (λqf ρ M'=>∃y8 l6 jR ends AP,ρ=[rX .cY,cJ b,g?,ata,Wh (AP:Nat),jG,cJ (vX (b+1+k)),aBS,y8,l6,jR] ∧
   M'=aa++[ς Em]/\ayR qf.length/\AP≤many+qf.length/\amN (vX (b+9)) loose many AP ends) aM5 (aa++[ς []]) Ds ?_]
  ·exact⟨y8,l6,jR,[],many,rfl,rfl,rfl,fe,⟨Ξ,fe,Ξ⟩⟩
  ·rintro qf j axh A8 ρ M' ⟨a5S,a5T,A9,ends,AP,rfl,rfl,NH,aOD,E⟩;rw[zU hj a6T (Jm A8) Qr I.eg];rw[vd]
   generalize aIL:vX (b+10+3*k+j)=pick
   rw[dX aOJ (0≤pick) (by rw[b! aIL (aEa _ _)]) (jE (η pick) (aa++[ς Em]) (by simp[hm ns,lx,small,aIL]))];rw[ji (jE (gL (loose.filter (aaL j j))) (aa++[ς Em]) (aHT (ys:=ends) rfl rfl Ξ av))];obtain⟨L,aOw⟩:∃L,aBK (aaL j j)=L:=fR;rw[aOw];rw[eB]
   have hif:∃t,wj (dP (ae 10)) (vz Hk (Lu 9 (Θ 8)) (U9 (dI [(Θ 7),(Θ 2),(Θ 2)]) 8)) [rX .cY,cJ b,g?,ata,cJ AP,jG,cJ (vX (b+1+k)),aBS,oG,cJ pick,HJ L] (aa++[ς Em])
     = .ok t (aa++[ς Em])/\(aO t->L≠[]):=by
    have a4e:j=0\/j=1\/j=2:=av
    obtain⟨v,hv⟩:∃v:Int,∀M,Pk ς [η 7,η 2,η 2] j=.ok (η v) M:=by
     rcases a4e with rfl | rfl | rfl
     ·rw[K4 7 M (u0 0)]
     ·rw[K4 2 M (u0 1)]
     ·rw[K4 2 M (u0 2)]
    cases L with
    |nil=>rw[bC false (aK gR) (nofun)]
    |cons x xs=>rw[bC (jC (pick%8<v)) (by simp[gR,gr,nW,Hk,hv]) (aaQ _)]
   rw[BE t ht fg hif (R3 t _ ht (ck ht) _)]
   ·obtain⟨x,hx,hix⟩:=aXz (M:=aa++[ς Em]) (fg ht) (n:=pick / 8) av;rw[BB atV A8 (List.mem_filter.mp (aOw▸hx)) (x8 .bb (aa++[ς ((ends++[x]).map η)]) (lU ⟨_,_,_,ends++[x],AP,rfl,rfl,aK NH,by rw[fh],aVL E atV (of_decide_eq_true A8)⟩))]
    have hd:aY 0<(ajl (aY L.length<4) L.length 4):=by
     have:=aLe (fg ht);split<;>omega
    simp[eW,Te,v7,gr,nW];rw[if_pos hd,ag,hix];simp[p!,jP,lim];omega
   ·refine VY .bb (aa++[ς ((ends++[fresh (vX (b+9)) AP]).map η)]) ?_ (kn (Nl (η (i_ (AP+1))) (aa++[ς ((ends++[fresh (vX (b+9)) AP]).map η)]) Ξ (lU ⟨_,_,_,ends++[fresh (vX (b+9)) AP],AP+1,rfl,rfl,aK NH,by rw[fh],aVM I E av⟩)));simp[hm ns,lx,small,gr,nW,p!,jP,fresh,lim];omega
  ·rintro ρ' M' ⟨a5S,a5T,A9,ends,AP,rfl,rfl,NH,aOD,E⟩;rw[List.length_range]at NH aOD;rw[cV Qr I.eg (ag9 (gL (ends.filter (atk j j)++aBK (aaL j j))) (aa++[ς Em]))]
   ·rw[au,aXy (xs:=ends) (ys:=loose) (n:=aa.length) rfl Ξ rfl rfl av,ag,aHT (xs:=loose) (ys:=ends) rfl rfl Ξ av,ag,Sq,←List.map_append,iL];rw[eH,List.length_append];rw[oD (ao1 (atk j j) ends) (ao1 (aaL j j) loose)];omega
   ·rw[eB];rw[BE z aON hz2 (aXA (M:=aa++[ς Em]) (ends:=ends) av) (x8 .bb (M++ς ((ps++[ajL]).map dR.enc)::(G++[ς Em])) (lU ⟨_,_,_,_,_,_,G++[ς Em],ps++[ajL],_,AP,rfl,rfl,aK g8,?_,aVK I E av av av⟩))]
    ·simp[eW,axU,nW]at aON⊢;rw[aON,hz2];subst A7;simp[ami,sq,p!,jP,lim];rw[Eu];rw[fh]
    ·rw[aAJ];rw[oD (ao1 (atk j j) ends) (ao1 (aaL j j) loose)]
     have h3:vR pre [k]=pre.length+1:=Ξ
     omega
 ·rintro ρ' M' ⟨y5,y6,y7,y8,l6,jR,G,ps,loose,many,rfl,rfl,g8,a4j,I⟩;refine WN gk (M++tM::G) (eP ⟨ps,tM::G,I.good ?_ ?_,rfl⟩)
  ·simp[Di]
  ·rw[g8];rw[fh]
  ·rw[g8];rw[fh]
universe Sb
universe zE
section
namespace Sb
open PySem L2
def RF bf{pre post:gf}aKr:k=pre.length:=by
 rw[Ů h1 (fP DZ pre.length k) (by rw[gp h]) h2 (Jm h).2 (List.getElem?_range h2) h1];exact(Us).symm
def aTr rq:p.js.length≤3:=by cases p<;>simp[dR.js]
def Y5 bf(s:Tr):p5 (fE s):=aic (by
 rw[Ht hx];rcases hx with rfl | rfl<;>simp)
abbrev aHs c6:Prop:=∀ns(b:Int) ps M,aec ps->∃ss,sX/\g [.cY ns,η b,gk] M=.ok kD M
def aHV dH dU(h:asa k):L7 fc none=xs.drop k:=by
 rw[kF SM qj.aG3 qj.avF (Nat.min_eq_left h)];exact List.take_of_length_le Ξ
def FK dH dU:aaT fc=xs.take k:=by
 rw[f5 SM qj.aG3 qj.avF];simp
def acD{kJ bX:D1}ZQ(hb:alE bX):aHs (Pf (auk kJ bX)):=by
 intro ns b ps M hg;have a66:=hg.eg
 suffices h:∃ss G,sX/\auk kJ bX [.cY ns,η b,gk] M=.ok kD (M++G) by
  rw[vG ss G hg e h ⟨ss,hg,apN G e (FG Y5 _)⟩]
 rw[xe auk P r (∃ss G,sX/\r=.ok kD (M++G))];rw[Vd (ahW (M++[ς []]))];have hi:o3 [(tF aH)] [rX .cY,cJ b,pV,g?,none,none,none,none,none] (M++[ς []])=.ok ((BN).map (qy (k:Nat)),none) (M++[ς []]):=OH (aK eW);rw[aaN [(tF aH)] eO hi (qy (k:Nat)) (pI (∃y4 y5 y6 y7 ss,ρ=[rX .cY,cJ b,pV,g?,y4,y5,y6,y7,none]/\M'=M++[ς iH]/\aB7 (3*pre.length)/\ss.Nodup ∧
  nA ss (s.2<pre.length/\s.1∈(d8 s.2).js))) BN (M++[ς []]) hi ⟨none,none,none,none,[],rfl,rfl,Ξ,Ξ,Ξ⟩]
 ·rintro pre k post hx ρ M' ⟨y4,y5,y6,y7,ss,rfl,rfl,hl,kO,hs⟩;obtain⟨hk,g8⟩:=Jm hx;rw[bI hkp (RF hx) hjl (aTr (d8 k))]
  refine qH;rw[ji (CI aj.int (λqf ρ M'=>∃y5 y6 y7 ss,ρ=[rX .cY,cJ b,pV,g?,jG,y5,y6,y7,none]/\M'=M++[ς iH]/\aB7 (3*pre.length+qf.length)/\ss.Nodup ∧
   nA ss ((s.2<pre.length/\s.1∈(d8 s.2).js)\/(s.2=k/\s.1∈qf))) (d8 k).js (M++[ς iH]) (aH3 (fQ (FT hk) alp)) ⟨y5,y6,y7,ss,rfl,rfl,by rw[rF hl],kO,λs h=>aq (hs s h)⟩)]
  ·rintro qf j axh A8 ρ M' ⟨alP,a5R,adO,tt,rfl,rfl,Dt,atU,akE⟩;rw[gM aOH (d8 k).js.Nodup (hg.once _ (awQ hk)) hjn (j∉qf) (by
    rw[A8,List.nodup_append]at aOH;exact λh=>aOH.2.2 j h j Ξ rfl) a6U (qf.length<3) (by
    have:=ay5 A8;rw[Wz];omega)]
   rw[vd]
   generalize a28:vX (b+3*k+tt.length)=num;refine jE (η num) (M++[ς ar8]) (by simp[hm ns,eW,lx,small,a28]);rw[ji (jE (.ah (C_ (aU (HY k)))) (M++[ς ar8]) (fQ (hb ps k j _ av) jd))]
   rw[eB]
   rw[bq axA (gC (tt++[(j,k)])) (by
    rw[List.nodup_append]
    rw[eF atU Ξ (jj s Pt s2 hs2)];rw[ahV hs2 hs2];rintro rfl;rcases akE _ Pt with h | h
    ·omega
    ·exact hjn h.2) hif (∃t,wF (s6 (Lu 6 (Θ 3)) (Θ 0)) (wj (dP jL) (s6 (Lu 6 (Θ 3)) (Θ 1))) [rX .cY,cJ b,pV,g?,jG,oG,cJ num,Ex .ah (C_ (aU (HY k))),none] (M++[ς ar8])=.ok t (M++[ς ar8])) (by
    rw[B4 (num%3=0)]
    ·rw[b7 true (Ox gr nW h1)]
    ·rw[rA h2 (C_ (aU (HY k)))]
     ·rw[b7 (fC (num%3) 1) (by simp[gr,nW,gR,h1,h2])]
     ·rw[b7 false (by simp[gr,nW,gR,h1,h2])])]
   rw[BB t ht hif (R3 t _ ht (ck _) _)]
   ·refine x8 .bb (M++[ς ((tt++[(j,k)]).map fE)]) (lU ⟨_,_,_,tt++[(j,k)],rfl,rfl,by rw[fh],axA,BZ⟩)
    ·simp[p!,jP,lim,fE];omega
    ·rcases azr with h | h
     ·rcases akE s h with h | h
      ·exact aq h
      ·exact r? h.1 (aK h.2)
     ·rw[Ht h];rw[fz h (aA (kU Ξ))]
   ·rw[s_ (lU ⟨_,_,_,tt,rfl,rfl,by rw[fh],atU,BZ⟩)];rcases akE s hs with h | h
    ·exact aq h
    ·exact r? h.1 (aK h.2)
  ·rintro ρ' M' ⟨alP,a5R,adO,tt,rfl,rfl,Dt,atU,akE⟩;refine lU ⟨_,_,_,_,tt,rfl,rfl,by rw[fh],atU,BZ⟩;rw[aMb];rcases akE s hs with h | h
   ·rw[b7 av h.2]
   ·rw[V7 h.1 av h.2]
 ·rintro ρ' M' ⟨y4,y5,y6,y7,ss,rfl,rfl,hl,kO,hs⟩;rw[List.length_range]at hl hs;rw[ay2 sh hsh (apa (vX (b+30)) b (1+aMD))]
  rw[dX iy (sh≤ss.length) (by rw[fZ (Int.emod_lt_of_pos (vX (b+30)) (b:=1+aMD) av)]) (ag9 (η sh) (M++[ς iH]))]
  ·simp[hm ns,eW,gr,nW];rw[Eu,hsh]
  ·rw[eB]
   rw[dX aIM ((aso++asp).Perm ss) (by
    rw[V? (List.perm_append_comm (l₁:=aso) (l₂:=asp)) List.take_append_drop]) (HU (cc ((aso++asp).take 16)) (M++[ς iH]) (eP ⟨_,[ς iH],⟨hg.amI,av,hg.q6,hg.once,hg.two,?_,?_,dz s h⟩,rfl⟩))]
   ·rw[gM e1 (∀M:aS,yG false dO (agj sh) none (M++[ς iH])=.ok (cc aso) (M++[ς iH])) (λM=>by
     simp only[yG,au6,HI];rw[aHV (by rw[rF iy]),←List.map_drop,iL (by rw[fh])]) e2 (∀M:aS,aiw dO (agj sh) (M++[ς iH])=.ok (cc asp) (M++[ς iH])) (λM=>by
     simp only[yG,au6,HI];rw[FK,←List.map_take,iL (by rw[fh])]) e3 (∀cT(xs:sW),aCv->aiw (cc xs) (some 16) M=.ok (cc (xs.take 16)) M) (vU M hx (by
     simp only[yG,AJ];rw[En ((agj 16)=agj (16:Nat)),FK,←List.map_take,iL (by rw[fh])]))]
    simp only[Y0,au,aT,Su,Yt,bg,ag,bB,bw,e1,e2,Sq];rw[←List.map_append,iL (by rw[fh]),ag,e3 _ _ (by rw[fh])]
   ·rw[s7 List.length_take]
   ·exact((aIM.nodup_iff).mpr kO).sublist (List.take_sublist _ _)
   ·exact hs s (aIM.mem_iff.mp (List.mem_of_mem_take h))
universe Sb
universe zE
section
namespace Sb
open PySem L2 PyProof.Rows
structure amJ rq(j o:Int):Prop where
 ne:o≠j
 mem:o∈p.js
 aPg:p.js.length=3->p.js.headD 0=j\/p.js.headD 0=o
def aXB{p:dR}aJx(h:o∈wz p j):amJ p j o:=by
 cases p with
 |pl a b=>
  rw[aa0 h1 h2 apc î h1 (aK dR.js)]
 |pt t s b=>
  simp only[dR.js,List.nodup_cons,List.mem_cons,List.not_mem_nil,or_false,not_or]at hn;rw[nw wz];rw[Cq];split at h
  ·rw[WW];subst e;rw[Ht h];rw[eF ?_ (by rcases h with rfl | rfl<;>simp[dR.js]) (λ_=>aq rfl)]
   rcases h with rfl | rfl
   ·exact fD (hn.1.1 e.symm)
   ·exact fD (hn.1.2 e.symm)
  ·rw[WW];rw[ahV h h];rw[bC (c9 (e z.symm)) (aK dR.js) (λ_=>aA rfl)]
abbrev Chain wN:Bool->Int->dw->cO iz
 |_,j,a,[]=>∀b,a=mD->(j,b)∈ss
 |f,j,a,(a',j',o)::r=>cE a a'/\j'=j/\(dQ f->(j,a')∉ss)/\oP a'/\amJ (d8 a') j o/\WO false o (KW a' o) r
def aEU J!(hn:ag0 ps):∀dS(way w:iz)pC Bp(f:Bool),Jy ps way a->(dQ f->(j,a)∉ss)->w∈MD n j a →
  ∃r,w=way++r/\r≠[]/\WO f j (some a) r/\akk/\Vc w.length
 |0,way,w,j,a,f,ok,hf,h=>by simp[aOY]at h
 |n+1,way,w,j,a,f,ok,hf,h=>by
  rw[Sm]at h;split at h
  ·rw[EY]
  rename_i ha;obtain⟨o,ho,hw⟩:=List.mem_flatMap.mp h;rw[zp aCY (aXB (hn _ (awQ ok.lt)) ho) kO (Cz (way++[(a,j,o)]).map) (by
   rw[aNh];rw[eF ok.nd Ξ (jj x hx y hy)];rw[Lh hy hy];rintro rfl;exact ha hx) hlen (Vc (vR way [(a,j,o)])) (by
   have:=Yx (n:=ps.length) kO (CX (by
    rw[xA s hs hx];rcases azr with hs | hs
    ·exact ok.all s hs
    ·rw[ň hs hs ok.lt]))
   simpa using this)]
  unfold ua at hw;cases hb:Jb with
  |none=>
   rw[hb]at hw;rw[ahV hw hw];exact⟨[(a,j,o)],rfl,Ξ,⟨rfl,rfl,hf,ok.lt,aCY,by rw[az hb (nofun)]⟩,kO,hlen⟩
  |some b=>
   rw[qD hb hw hw];split at hw
   ·rename_i hs;rw[ahV hw hw];exact⟨[(a,j,o)],rfl,Ξ,⟨rfl,rfl,hf,ok.lt,aCY,by rw[hb];intro b' e;cases e;exact hs⟩,kO,hlen⟩
   ·rename_i hs;rw[UT r e hr hc h1 h2 (aEU hn n (way++[(a,j,o)]) w o b false (asn ha) (λ_=>hs) hw) ⟨(a,j,o)::r,by rw[gp e],Ξ,⟨rfl,rfl,hf,ok.lt,aCY,by rw[az hb hc]⟩,h1,h2⟩]
structure aHt wN(r:aeA):Prop where
 lt:Ũ r.1
 ne:r.2≠[]
 chain:WO true (yj ss r.1).1 (xP (yj ss r.1)) r.2
 nd:Cz r.2.map
 len:Vc (mO r.2)
def aVN TZ{r:aeA}(h:r∈Cs):aHt ps ss r:=by
 obtain⟨k,hk,h⟩:=List.mem_flatMap.mp h;have hk:=List.mem_range.mp hk;rw[xA w hw h];obtain⟨r,e,h1,h2,h3,h4⟩:=aEU hg.once fuel [] w HQ EZ true (am3 hg hk) nofun hw;rw[wC]at e;subst e;exact⟨hk,h1,h2,h3,h4⟩
universe Sb
universe zE
section
namespace L2
open PySem
def adN DE ql Gy{mf dv:br}o!(y:aj)(aa:aS)dS(fs Pm:rY)(h:dv ρ M=.ok y aa)(ho:D0 aa=.ok (ο n) aa)(hn:aa[n]? = Î C fs)aJr
  (q:Q (.nx ρ (aa.set n (cQ C Pm)))):Q (wc C f mf dv ρ M):=by
 unfold wc;rw[h,Res.oS,ho,Res.oS,Jt hn];dsimp only;rw[eu (if_pos hl) hf q]
def hU DE jT Gy{dv:br}{ρ:bu}{M G G':aS}{fs:rY}{s2:cM}(y:aj)(Pm:rY)(h0:yW 0 g?)(h:dv ρ (M++cQ c fs::G)=.ok y (M++cQ c fs::G'))aJr
  (q:Q (.nx ρ (M++cQ c Pm::G'))):Q (wc c f ak dv ρ (M++cQ c fs::G)):=by
 rw[agg (adN y _ M.length fs Pm h (B! h0) Ξ hl hf ?_) awi q]
universe L2
namespace Sb
open PySem L2
abbrev awT(L:Nat)wN(rs:uO)T8:rY:=
 [nC,pG,rG,vP,z!,("locks",ο (L+1)),("lying",ο (L+2)),R1 (ο (L+3)),aaZ (ο (L+4)),atw (ο (L+5))]
abbrev bt Gw(L:Nat)wN(rs:uO)T8:aS:=
 [cQ c (awT L ps ss rs wait),.ai [],ς (x7 _ gm),.ai [],.ai [],.ai []]
def ke jT ayA TZ T8 cT:akO c g5 [dO,gk,kD,η wait] (M++[cQ c []])=.ok .bb (M++aaE c ps ss):=by
 rw[bI zr hg.eg NW hg.um]
 rw[mu akO P r (r=.ok .bb (M++aaE c ps ss))]
 generalize TL:Cs=rs
 have TM:∀N:aS,jo true pS (dc aG) (bR 0) j_ (dC gm) [g?,pV,Fe,cJ wait] N=.ok (ο N.length) (N++[ς (x7 _ gm)]):=λN=>by
  rw[IP ps w N dR.enc (λ_=>gm) (k7 (ρ=[y])) OG (λx _ ρ hρ=>by
   rw[E! Cv]) (gX zr),r9,yq (by rw[s5 zr])]
 rw[CD (Lf M M [] (Jh rs) [nC] (fQ (hr ps ss _ hg) TL) (by rw[h_ 0])) (IL M M [] gk [nC,pG] (by simp[sy];exact iL (by rw[fh])) (by rw[h_ 1]))]
 rw[CD (Lf M M [] kD [nC,pG,rG] (by simp[sy];exact iL (by rw[fh])) (by rw[h_ 2])) (IL M M [] (η wait) [nC,pG,rG,vP] (rfl) (by rw[h_ 3]))];rw[CD (Lf M M [] (η 0) [nC,pG,rG,vP,z!] (rfl) (by rw[h_ 4])) (IL M M [.ai []] (ο rW) [nC,pG,rG,vP,z!,Ip] OM (by rw[h_ 5]))]
 rw[CD (Lf M M [.ai [],ς (x7 _ gm)] (ο (jV 2)) [nC,pG,rG,vP,z!,Ip,Pr] (by rw[gp TM]) (by rw[h_ 6])) (IL M M [.ai [],ς (x7 _ gm),.ai []] (ο (jV 3)) [nC,pG,rG,vP,z!,Ip,Pr,R1 (ο (jV 3))] OM (by rw[h_ 7]))];rw[tL (IL M M [.ai [],ς (x7 _ gm),.ai [],.ai []] (ο (jV 4)) [nC,pG,rG,vP,z!,Ip,Pr,R1 (ο (jV 3)),aaZ (ο (jV 4))] OM (by rw[h_ 8])) (hU (M:=M) (G':=[.ai [],ς (x7 _ gm),.ai [],.ai [],.ai []]) (s2:=sr) (ο (jV 5)) [nC,pG,rG,vP,z!,Ip,Pr,R1 (ο (jV 3)),aaZ (ο (jV 4)),atw (ο (jV 5))] rfl OM (by rw[h_ 9]) bU Ae)]
universe Sb
universe zE
end
mutual
section
namespace Sb
open PySem L2
section
variable {M:aS}{a b:Nat}{ps:kt}{ss:sW}{ρ:bu}
def lq{G:aS}uK(h:fP M a o):fP (M++G) a o:=eV (List.getElem?_append_left HR) h
def ame aoh:qV M (ο a)=jl:=j0 ac2 h
def awU aoh:lQ (ο a)=jl:=j0 au6 h
def aHW bf(h:E5)(hn:oP n):Pk ο a n=.ok (d8 n).enc M:=by
 have:=FT (M:=M) hn;unfold f_ at this⊢;rw[az (ame h) this]
def axf aoh:eW [ο a] M=.ok (arO η) M:=by
 unfold eW;rw[ku (ame h)]
def aHX aoh Z2:sy false [ο a] M=.ok (ς xs) M:=by
 rw[Ej sy];rw[az (ame h) (iL hl)]
def a29 qp NZ bf(h:OW b):I! (aV [η j,η n]) (ο b)=.ok (.ah (Wq (j,n) ss (j,n) ss)) M:=by
 rw[Pn (I! (fE (j,n)) _=_) (SD (enc:=fE) Zb adM (a:=(j,n)) (ame h))]
def aXC{s:Tr}(h:OW b):countP (ο b) [fE s] M=.ok (η aCg) M:=by
 have:=sv (enc:=fE) Zb adM (a:=s) (as:=ss) (M:=M);unfold countP at this⊢;dsimp only at this⊢;rw[az (awU h) this]
def aNU e7 dH(hd:c8=.ok (ο a) M)(h:aby a):Ye d ρ M=.ok (FQ xs,nu a (ς xs)) M:=by
 rw[f5 Ye hd Res.ag];rw[ku h]
def xf pC(h:E5)Uc:AE mQ [ο a,η j] M=.ok (jc (MN j)) M:=by
 simp only[AE,AH];simp;rw[oR (xs:=BN) (w:=nu a (ς lT)) (M':=M) (λk=>aV [η k,(d8 k).enc]) (zO k (j∈(d8 k).js)) (fun(k:Nat)=>η k) (λρ=>∃y z,ρ=[y,z,oG]) ?_ h (kA none none) (nH x) (aEK hl)]
 ·rw[iL (by rw[rF (EA qx (by rw[azv hl]))])];rfl
 ·rw[b! aFY (aNU rfl h)]
 ·rw[É y z rfl hρ (aiK _ (uY _) Ξ _)]
def aP2 dS pC(h:E5)Uc:R_ (AE mQ) [ο a,η n,η j] M=.ok (aU (HY n)) M:=by
 have loop:∀(xs:gf)(y:wY),m7 (ug none (bR 3) (Im (kC (dq true) aG) (bZ bH)) (xs.map (z4 (n:Nat)))) (bZ (dC .bb)) [cF a,cJ n,oG,y] M=.fk (aU (xs.find? (oE k k n))) M:=by
  intro xs
  induction xs with
  |nil=>rw[XS y]
  |cons x xs ih=>
   intro y;rw[i9 (x=n)]
   ·rw[Xx h (ih aX)];simp[ug]at this⊢;rw[zf]
   ·have h':¬aY x=n:=av
    simp[ug,h,h',aU]
 simp only[R_,AH];have:=loop (MN j) none;simp only[aGX]at this⊢
 rw[gp (aGD (w:=none) (M':=M) (ja (by rw[rF (xf j h hl)])) trivial)];rw[Wz];rw[this];simp[Kb,beyond,Bool.and_comm]
abbrev amf Ug:Prop:=∀ps ss a b way j p M,E5->OW b->Jy ps way p->ats 1≤way.length+n->n≤20->g [ο a,ο b,bF way,η j,η p] M=.ok (ς ((MD n j p).map bF)) M
def aXD bf Bo(h:amf n g):amf (n+1) (Pf (aDP (ab9 mQ) (R_ (AE mQ)) g)):=by
 intro ps ss u v way j a M hA hB ok hn Ge;rw[bI hl ok.len hf ok.eg];rw[ff (VN (FG ams _)) (AA (P:=λr=>∃G,r=.ok _ (M++G)) ?_)];simp only[cZ,zD,zE,yE,Nat.zero_add,Nat.reduceAdd,Nat.reduceSub,List.replicate,Dd,wC]
 rw[ko lC (n9 (cD (iu false) bY akc) [cF u,cF v,Mw,oG,cJ a,none,none,none,none] M=.ok (i7 a KG) M) (by
  simp only[c_,au,aT,bB,bw,ag];rw[awS (way:=way) 2 rfl av];rw[qG awR]) (R3 _ _ lC (ck ha) ha)]
 ·rw[Ï uy ha (qL (ς []) M Ξ (t8 (eP (lM []))))];rw[Fq Sm uy];simp
 ·rw[cV uy (of_decide_eq_false ha) (c5 (atm (M++[ς []])))];rw[tK (nQ aj.int (pI (∃y6 y7 y8,ρ=[cF u,cF v,Mw,oG,cJ a,g?,y6,y7,y8]/\M'=M++[ς ((gN).map bF)])) (wz (d8 a) j) none _
   (ja (by
    rw[bP,aR,au,pY 0 [cF u,cF v,Mw,oG,cJ a,g?,none,none,none] (M++xS) .ok (ο u) (M++xS),ag,B3 4 [cF u,cF v,Mw,oG,cJ a,g?,none,none,none] (M++xS) .ok a (M++xS),ag,aHW (lq hA) ok.lt]
    simp[Sh])) trivial aiD ?_ ?_)]
  ·rintro pre o post hx ρ M' ⟨y6,y7,y8,rfl,rfl⟩
   have g7:k8 gN (2*2 ^ n):=by
    rw[fS h1 (abd o _ (ac4 ps ss n way j a o)) h2 (aBs 2) (by
     have:=avd (d8 a) j;rw[nt hx this this];omega)]
    exact azM h1 _ h2
   rw[bI F4 (ac4 ps ss n way j a o) o5 (awg (n:=n) av)]
   refine qH;rw[ji (jE (bF (way++[(a,j,o)])) (M++[ς ((gN).map bF)]) (by simp[bE];rw[iL (by rw[fh])];simp[bE]))]
   rw[ji (jE (aU Jb) (M++[ς ((gN).map bF)]) (aK (aP2 _ _ (lq hA) (show Ks by omega))))]
   rw[eB]
   rw[agK mV];cases hb:Jb with
   |none=>
    refine JJ (M++[ς ((gN).map bF)]) (Ox aU jd C_) (nL .bb (M++[ς ((gN++[way++[(a,j,o)]]).map bF)]) (by rw[aab p! jP]) (Wj _ _ ?_));simp[ua,hb]
   |some b=>
    rw[cV am7 (a29 (neg:=false) (j:=o) (n:=b) (lq (G:=[ς ((gN).map bF)]) hB)) (R3 (i7 (o,b) ss) (M++[ς ((gN).map bF)]) (by simp[aU,jd,C_];simp at am7;rw[gp am7]) (ck hs) hs)]
    ·rw[Ï tq hs (nL .bb (M++[ς ((gN++[way++[(a,j,o)]]).map bF)]) (by rw[aab p! jP]) (Wj _ _ ?_))];simp[ua,hb,tq]
    ·rw[bI tq (of_decide_eq_false hs) hg (h ps ss u v (way++[(a,j,o)]) o b (M++[ς ((gN).map bF)]) (lq hA) (lq hB) (asn uy) (by rw[fh]) av)];simp only[ua,hb,if_neg tq]at F4⊢;refine x8 .bb (M++[ς ((gN++IQ n (way++[(a,j,o)]) o b).map bF)]) (Wj _ _ rfl);simp[aU,alJ,jP]at hg⊢;rw[hg];simp[lim,-List.length_flatMap];omega
  ·rw[GW M' y6 y7 y8 rfl rfl];refine WN (ς ((MD (n+1) j a).map bF)) (M++Ij) ajb;rw[Sm,if_neg uy];simp[Di]
universe zE
universe Sb
universe zE
section
namespace Sb
open PySem L2
section
variable {M:aS}{a b:Nat}{ps:kt}{ss:sW}{ρ:bu}
def aZs{f:sL}e7 wO{us xs:dY}(hd:c8=.ok (ο b) M)(h:aby b)(ha:vQ=.ok us M):fI f d ds ρ M=f (ο b) us M:=by
 rw[aFW,hd,ag,awU h];rw[đ ha ag]
def aP3 jT(hA:E5)Uc aJq aI0:X7 c (AE mQ) [ο a,gL js] M=.ok .bb M:=by
 rw[xe X7 P r (r=.ok .bb M)]
 refine CI aj.int (XA y2 (ρ=[cF a,HJ js,y2]/\M'=M)) js M (ja rfl) aiC
 ·rintro pre j post hx ρ M' ⟨y2,rfl,rfl⟩
  have hj:j∈js:=by rw[oB]
  rw[tw r1 r2 (hr j hj) hc (js.count j≤1) (List.nodup_iff_count.mp hn j)];refine qH;rw[tK (Vm (c5 (ahb (c5 (aha (c5 aad))))))]
  ·simp[Hk,l7];rw[kE av];simp[r2]
  ·rw[abm l7 (sv (enc:=aj.int) (λa=>qc a) (λa b e=>by cases e;rfl))]
  ·simp[xf j hA hl,eW,l7];rw[fZ (h2 j)]
 ·rintro ρ' M' ⟨y2,rfl,rfl⟩;exact Ae
def aP4 jT{bS:D1}(hA:E5)(hg:sX)(hc:jn ps (bS [ο a,gL p.js] M=.ok .bb M)):X6 c bS mQ [ο a] M=.ok .bb M:=by
 rw[xe X6 P r (r=.ok .bb M)];rw[oD hg.amI hg.eg]
 rw[ko hlen (∀ρ:bu,atd 0 a->ay eW E1 ρ M=.ok (η ps.length) M) (Ce h (by
  rw[bP,aR,aT,h];rw[qG bM];rw[axf hA,eH])) (D_ M (c5 (uV (D_ M Ad))))]
 ·rw[c_,au,hlen _ rfl];simp;intro h;rw[nt h h1 h1]
 ·rw[c_,au,hlen _ rfl];rw[V9 l7]
 refine nQ dR.enc (XA y2 (ρ=[cF a,y2]/\M'=M)) ps (nu a (ς lT)) M (SS rfl hA) hA aiC ?_ ?_
 ·rintro pre p post hx ρ M' ⟨y2,rfl,rfl⟩;refine qH;rw[ji (x8 .bb M' (MS hA (x6 rfl)))];simp[hc p (by rw[oB])]
 ·rintro ρ' M' ⟨y2,rfl,rfl⟩;exact Ae
def a5Q jT(hA:E5)(hB:OW b)(hg:sX):X_ c mQ [ο a,ο b] M=.ok .bb M:=by
 rw[xe X_ P r (r=.ok .bb M)];rw[oO h1 hg.um aOB (axf hA) aOC (axf hB)];rw[eH]at aOB aOC;refine atl M Ad
 ·rw[abm l7 aOC]
 refine nQ fE (pI (∃y2 y3,ρ=[cF a,cF b,y2,y3]/\M'=M)) ss (nu b (ς iH)) M (SS rfl hB) hB (tQ none none rfl) ?_ ?_
 ·rintro pre s post hx ρ M' ⟨y2,y3,rfl,rfl⟩
  have hs:s∈ss:=by rw[oB]
  rw[tw r1 r2 (hg.sg s hs) hc (aCg≤1) (List.nodup_iff_count.mp hg.nd s)];have Tz:=aXC (s:=s) hB;rw[VA j n s qH];rw[tK (Vm (c5 (ahb (c5 (aha (c5 (MS hB (tQ _ _ rfl))))))))]
  ·rw[c_,au,aZs (d:=aG) (us:=[fE (j,n)]) rfl hB rfl,Tz];rw[V9 l7]
  ·dsimp only at r1;simp[Hk,abX,aOB];rw[kE av];rw[fh]
  ·have hix:=aHW hA r1;simp[hix];exact r2
 ·rw[ī M' y2 y3 rfl rfl];exact Ae
abbrev aFc c6:Prop:=∀ps ss a b M,sX->E5->OW b->g [ο a,ο b] M=.ok .bb M
def aQQ jT:aFc (acd (X6 c (X7 c (AE mQ)) mQ) (X_ c mQ)):=λps ss a b M hg hA hB=>by
 rw[oO hf hg.eg e1 (aP4 (c:=c) hA hg (lR (aP3 (c:=c) hA av hg.two (hg.q6 p hp) (hg.once p hp)))) e2 (a5Q (c:=c) hA hB hg)];rw[ki acd r (r=.ok .bb M)];exact VY .bb M (aK e1) (kn (nL .bb M (aK e2) Ae))
abbrev aHu c6:Prop:=∀ps ss a b M,sX->E5->OW b->g [ο a,ο b] M=.ok OI M
def aTs{bS gE:D1}(hc:aFc bS)(hw:amf fuel gE):aHu (Pf (ph bS gE)):=by
 intro ps ss a b M hg hA hB
 refine VN (aH4 _);rw[xe ph P r (∃G,r=.ok OI (M++G))]
 rw[CC hfs hg.um (nL .bb M (aK (hc ps ss a b M hg hA hB)) (atm (M++[ς []])))];rw[eB];rw[ko a62 (rE b) (List.getElem?_eq_some_iff.mp hB).1 (nQ (fun(k:Nat)=>Xz (η k) (fE (yj ss k))) (pI (∃y3 y4 y5,ρ=[cF a,cF b,g?,y3,y4,y5]/\M'=M++[ς ((xd).map oX)])) í (nu b (ς iH)) (M++[ς []])
  (by rw[b! aHp (aNU rfl (lq hB))]) (lq hB) aiD ?_ ?_)]
 ·rintro pre k post hx ρ M' ⟨y3,y4,y5,rfl,rfl⟩;rw[tw hk g8 (Jm hx) g7 (Eh (di xd)) (by
   have h1:=abd k _ (ale ps ss k);omega)]
  rw[Af _ aOl];rw[eB];rw[cV NV (hw ps ss a b [] HQ EZ (M++[ς ((xd).map oX)]) (lq hA) (lq hB) (am3 hg hk) (by simp;have:=hg.eg;rw[Ŧ fuel]) aC) (nQ bF (λqf ρ M'=>∃y5,ρ=[cF a,cF b,g?,jG,aN (fE (yj ss k)),y5]/\M'=M++[ς ((xd++qf.map λw=>(k,w)).map oX)])
   (IQ fuel [] HQ EZ) none (M++[ς ((xd).map oX)]) (ja (by simp[fE]at NV⊢;exact NV)) trivial (x6 Ξ) ?_ ?_)]
  ·rintro qf w axh A8 ρ M' ⟨y5,rfl,rfl⟩
   rw[qt o5 (qf.length≤131072) (by
    rw[jm h1 (Yw ps ss fuel [] HQ EZ) A8 h1];simp[fuel]at h1;omega) qH];rw[ji (x8 .bb (M++[ς ((xd++(qf++[w]).map λw=>(k,w)).map oX)]) aad)];simp[p!,jP,oX,lim,-List.length_flatMap];omega
  ·rintro ρ' M' ⟨y5,rfl,rfl⟩;refine Ĝ (lq hB) _ _ ?_;rw[agK mV];rfl
 ·rw[GW M' y3 y4 y5 rfl rfl];exact agf OI (M++Ij) (fQ Di abQ) ajb
universe zE
universe Sb
universe zE
section
namespace Sb
open PySem L2
def aQ9 jT{g5:D1}(hr:aHu g5)J! T!(hg:sX)T8 cT(hA:E5)(hB:OW b):akO c g5 [dO,ο a,ο b,η wait] (M++[cQ c []])=.ok .bb (M++aaE c ps ss):=by
 rw[bI zr hg.eg NW hg.um]
 rw[mu akO P r (r=.ok .bb (M++aaE c ps ss))]
 generalize TL:Cs=rs
 have TM:∀N:aS,Ez N a lT->jo true pS (dc aG) (bR 0) j_ (dC gm) [g?,cF a,cF b,cJ wait] N=.ok (ο N.length) (N++[ς (x7 _ gm)]):=λN hN=>by
  rw[oR (xs:=ps) (w:=nu a (ς lT)) (M':=N) dR.enc zK (λ_=>gm) (k7 (ρ=[y])) (SS rfl hN) hN rN (λx _ ρ hρ=>by
   rw[E! Cv]) (gX zr),r9,yq (by rw[s5 zr])]
 rw[CD (Lf M M [] (Jh rs) [nC] (fQ (hr ps ss a b _ hg (lq hA) (lq hB)) TL) (by rw[h_ 0])) (IL M M [] gk [nC,pG] (by rw[rF (aHX (lq hA) (by rw[fh]))]) (by rw[h_ 1]))]
 rw[CD (Lf M M [] kD [nC,pG,rG] (by rw[rF (aHX (lq hB) (by rw[fh]))]) (by rw[h_ 2])) (IL M M [] (η wait) [nC,pG,rG,vP] (rfl) (by rw[h_ 3]))];rw[CD (Lf M M [] (η 0) [nC,pG,rG,vP,z!] (rfl) (by rw[h_ 4])) (IL M M [.ai []] (ο rW) [nC,pG,rG,vP,z!,Ip] OM (by rw[h_ 5]))]
 rw[CD (Lf M M [.ai [],ς (x7 _ gm)] (ο (jV 2)) [nC,pG,rG,vP,z!,Ip,Pr] (by rw[gp (TM _ (lq hA))]) (by rw[h_ 6])) (IL M M [.ai [],ς (x7 _ gm),.ai []] (ο (jV 3)) [nC,pG,rG,vP,z!,Ip,Pr,R1 (ο (jV 3))] OM (by rw[h_ 7]))];rw[tL (IL M M [.ai [],ς (x7 _ gm),.ai [],.ai []] (ο (jV 4)) [nC,pG,rG,vP,z!,Ip,Pr,R1 (ο (jV 3)),aaZ (ο (jV 4))] OM (by rw[h_ 8])) (hU (M:=M) (G':=[.ai [],ς (x7 _ gm),.ai [],.ai [],.ai []]) (s2:=sr) (ο (jV 5)) [nC,pG,rG,vP,z!,Ip,Pr,R1 (ο (jV 3)),aaZ (ο (jV 4)),atw (ο (jV 5))] rfl OM (by rw[h_ 9]) bU Ae)]
universe Sb
universe zE
section
namespace Sb
open PySem L2
section
variable {κ:Type} [BQ] {α:Type}
abbrev b4 Ka:arU:=GH (aqb q (q.1=k)).map
abbrev iN Ka(v:α):Bs:=
 if d.any (Cd (q.1=k)) then d.map (λq=>aoP (q.1=k) q.1 v q) else d++[(k,v)]
abbrev iM Ka:Bs:=d.filter (oE q q.1 k)
def M6 qn:b9 (b4 ([]:Bs) k):=rfl
def t9(q:κ×α)Ka:b4 (q::d) k=vE q.1 k (xP q) (b4 d k):=by
 rw[dJ b4 List.find?_cons];rw[xx h q.1 k h]
def aRS anP:Cj (d++[(k,v)])=(Cj d).or (vE k k' fq none):=by
 induction d with
 |nil=>rw[wC,t9,M6];rfl
 |cons q d ih=>
  rw[Dd,t9,t9,ih];rw[xx h q.1 k' h]
def aVO anP:Cj (LR q (aoP (q.1=k) q.1 v q))=if k'=k then(Cj d).map (λ_=>v) else Cj d:=by
 induction d with
 |nil=>simp[M6]
 |cons q d ih=>
  rw[cZ,t9,t9,ih];rw[i9 (q.1=k)]
  ·rw[Rx (k=k')]
   ·simp[h,h2]
   ·have h3:¬k'=k:=fD ar3;simp[h,h2,h3]
  ·rw[Rx (q.1=k')]
   ·subst h2;simp[h]
   ·simp[h,h2]
def mem_keys Ka:k∈qC↔Ab (b4 d k):=by
 induction d with
 |nil=>simp[M6]
 |cons q d ih=>
  rw[cZ,List.mem_cons,ih,t9];rw[i9 (q.1=k)]
  ·simp[h]
  ·rw[kE h];rw[b7 (λo=>o.elim (ahY e e.symm h) id) aA]
def any_keys Ka:aO (d.any (Cd (q.1=k)))↔k∈qC:=by
 rw[List.any_eq_true];constructor
 ·rintro⟨q,hq,h⟩;exact afR q hq ay9
 ·intro h;rw[KM q hq e h];rw[bC q hq aNm]
def yp anP:Cj (iN d k v)=vE k' k fq (Cj d):=by
 rw[Vb iN h (d.any (Cd (q.1=k)))]
 ·rw[Lm,aVO];rw[Rx (k'=k)]
  ·rw[Xx h2 ((mem_keys d k').mp ((ů k').mp h))];rw[gK,gK];cases e:Cj d with
   |none=>rw[nt e this this]
   |some x=>rfl
  ·rw[LU,LU]
 ·rw[D!,aRS];rw[Rx (k'=k)]
  ·subst h2;have h3:¬(Ab (Cj d)):=Pj ((ů k').mpr ((mem_keys d k').mpr e));rw[gK,gK];cases e:Cj d with
   |none=>rfl
   |some x=>rw[nt e h3 h3]
  ·rw[LU,PT ar3];simp
def M4(d:Bs)(k k':κ):Cj (iM d k)=vE k' k none (Cj d):=by
 unfold iM
 induction d with
 |nil=>simp[M6]
 |cons q d ih=>
  rw[List.filter_cons];rw[i9 (q.1=k)]
  ·rw[zR (aK h),ih,t9];rw[Rx (k'=k)]
   ·rw[agh h2 h2]
   ·rw[LU,LU,PT (h2 (e.symm.trans h))]
  ·rw[kR (aK h),t9,ih,t9];rw[Rx (k'=k)]
   ·rw[if_pos h2,if_pos h2,ajg (e.trans h2)]
   ·rw[LU,LU]
def aTt Ka(v:α):iE (iN d k v).map=BJ k qC qC (qC++[k]):=by
 rw[Vb iN h (d.any (Cd (q.1=k)))]
 ·rw[Lm,kR ((ů k).mp h),List.map_map];refine EE q _;rw[xx h2 q.1 k h2]
 ·rw[D!,ajg ((ů k).mpr e),List.map_append];rfl
def aVP anP:k'∈iE (iN d k v).map↔k'=k\/k'∈qC:=by
 rw[mem_keys,yp,mem_keys];rw[xx h k' k h]
def alA Ka(k':κ):k'∈iE (iM d k).map↔k'≠k/\k'∈qC:=by
 rw[mem_keys,M4,mem_keys];rw[xx h k' k h]
def ado afs{v:α}(h:Mz):Cz (iN d k v).map:=by
 rw[aTt];split
 ·exact h
 ·rename_i hk;rw[List.nodup_append];rw[eF h Ξ (jj a ha b hb)];rw[Lh hb hb];rintro rfl;exact hk ha
def SE afs(h:Mz):Cz (iM d k).map:=by
 unfold iM;have:(iE (d.filter (oE q q.1 k)).map).Sublist qC:=azQ;exact h.sublist this
def aF1 afs{v:α}(h:k∉qC):iN d k v=d++[(k,v)]:=by
 rw[dJ iN (ajg ((ů k).mp e))]
def AK afs{v:α}(h:b4 d k=fq):(k,v)∈d:=by
 rw[nw b4];rw[aps q hq e h];rw[oD (List.mem_of_find?_eq_some hq) (List.find?_some hq)];have h3:q.1=k:=î;obtain⟨a,b⟩:=q;cases h3;cases e;exact h1
def atH{d:Bs}(hn:Mz){q:κ×α}(h:q∈d):b4 d q.1=xP q:=by
 induction d with
 |nil=>rw[EY]
 |cons q' d ih=>
  rw[t9];rw[aAt cZ hn];rcases Q_ with rfl | h
  ·simp
  ·rw[PT (hn.1 (by rw[Cm (qK q h)])),ih hn.2 h]
universe zE
universe Sb
universe zE
section
namespace Sb
open PySem L2
abbrev bo rm fM:iz:=(cR.getD r (0,[])).2
abbrev wW rm fM:Nat:=(cR.getD r (0,[])).1
abbrev v8 rm fM:gf:=iE (jH).map
structure o9 where
 steps:iz
 ahead:iz
 out:Bool
structure AX where
 u:Int
 ns:eK
 bd:Bool
structure b5 where
 locks:uN
 points:Rh
 green:gf
 falls:w_
 now:Int
 trains:Ol
structure TB where
 tr:o9
 ob:Nat
 so:Nat
 sj:Nat
structure FB where
 u:Int
 fH:eL
 ob:Nat
structure dM where
 locks:DV
 lying:GG
 greens:DV
 falls:Bv FB
 ticks:Int
 trains:P_ TB
structure ij dS rm:Prop where
 nd:aqI r (gC r5)
 lt:aqI r (ajV (p<n))
 hd:aqI r (aqI r' (z8=wW cR r'->∃p,p∈r5/\p∈v8 cR r'))
abbrev cn GC:eJ:=t.steps.headD (0,0,0)
structure JE rm(sx:O5)(locks:uN)GC:Prop where
 ne:att []
 nd:gC aqg
 st:U7 (aik locks s.1)
 Br:aiP []->∃r k,aiS r/\vh::t.ahead=(jH).drop k/\U8 (oK locks s.1 r)
 ot:aO t.out->Pe []/\b9 (sx vh.1 zb)
abbrev S!(t t':o9):Prop:=(U7 (∀s'∈t'.steps,s.1≠s'.1))/\U8 (∀s'∈t'.ahead,s.1≠s'.1)
abbrev aue Uh:Prop:=tn\/r∈mL
structure Inv dS rm(sx:O5)n_:Prop where
 ln:azB n
 own:∀r,wX->aiS r/\ajV (Ō p r/\∀x t,dZ=fm->U8 (s.1≠p))
 lk:∀p r,Ō p r->p∈r5
 n5:W.green.Nodup
 Ki:gC mL
 A_:aKP r (r∉mL)
 lB:gC Q8
 tr:∀x t,dZ=fm->JE cR sx W.locks t
 AF:∀x y t t',dZ=fm->cE (GP y) t'->x≠y->S! t t'
abbrev JK rm(C8:tP)fM(q:FB):AX:=⟨q.u,q.fH.toList,C8 z8⟩
abbrev AV(_:Int)yU:o9:=t.tr
section
variable {κ:Type} [BQ] {α β:Type}
abbrev ka afk(d:Bs):gW κ β:=LR q (q.1,g q.1 q.2)
def alf afk(d:Bs):iE (ka g d).map=qC:=by rw[zy ka]
def Sn afk qn:∀d:Bs,b4 (ka g d) k=(b4 d k).map (g k)
 |[]=>rfl
 |q::d=>by
  have ih:=Sn g k d;unfold ka at ih⊢;rw[cZ,t9,t9,ih];rw[i9 (q.1=k)]
  ·rw[B5 h]
  ·simp[h]
def alg afk qn(v:α)(d:Bs):ka g (iN d k v)=iN (ka g d) k (g k v):=by
 unfold ka iN
 have:(LR q (q.1,g q.1 q.2)).any (Cd (q.1=k))=aA2 (q.1=k):=by rw[aBd];rfl
 rw[this];split
 ·rw[List.map_map,List.map_map]
  refine EE q _
  rw[i9 (q.1=k)]
  ·rw[B5 h]
  ·simp[h]
 ·simp
def aEM afk qn(d:Bs):ka g (iM d k)=iM (ka g d) k:=by
 unfold ka iM;rw[aqx];rfl
universe zE
structure pE dS rm(nV:tP)(C8:tP)n_ oh:Prop where
 locks:∀p<n,qJ W.locks p GK
 Du:gC aqh
 Dv:jn aqh (p<n)
 q8:B.lying.length=n
 fJ:W.points.length=n
 lies:∀p<n,WD p->fP W.points p B.lying[p]?
 greens:∀s r,HA s=jZ↔tn/\z8=s
 n5:gC aoN
 falls:W.falls=ű (JK cR C8)
 ticks:B.ticks=W.now
 trains:W.trains=ka AV B.trains
section
variable {n:Nat}{cR:uO}{nV:tP}{C8:tP}{sx:O5}{W:b5}{B:dM}
def Inv.NX pq fX(h:tn):aiS r:=(ou (aq h)).1
def Inv.lock pq{r p:Nat}J'(hp:p∈r5):Ō p r:=((ou h).2 p hp).1
def Inv.one pq(R:atz){r r':Nat}J'(h':PD)(e:z8=wW cR r'):r=r':=by
 rw[ģ p h2 (R.hd r (ou h).1 r' (G0 h').1 e)];rw[jm e1 (ai7 h1) (I.lock h' h2) e1];cases e1;rfl
def pE.alh Gs:mL=rK:=by
 rw[S.falls,alf]
abbrev ky fM N_:uN:=aaX l s (ajM s jZ) l
abbrev M5 fM N!:DV:=aaX d s (iN d s.1 r) d
abbrev Sg fM Un:uN:=l.map (Ma o o jZ none o)
abbrev MZ N!:DV:=aaX d s (iM d s.1) d
abbrev og(nV:tP)Oe m_(l:Rh):Rh:=aaX l s (if nV s.1 then l.set s.1 (aN (l5 s)) else l) l
abbrev Dg Oe m_(l:GG):GG:=aaX l s (ajM s (l5 s)) l
def au3 fM:∀N_,di (ky r w l)=l.length
 |[],l=>rfl
 |s::w,l=>by show di (ky r w (ajM s jZ))=_;rw[gp (au3 r w)]
def yA(r p:Nat):∀N_,Rz p->(ky r w l)[p]? = BJ p vF (KR r) l[p]?
 |[],l,h=>aK ky
 |s::w,l,h=>by
  show(ky r w (ajM s jZ))[p]? = _;rw[yA r p w _ (bh h),cZ];rw[B4 (p∈vF)]
  ·rw[Hf,arJ h1]
  ·rw[arw h1 (s.1=p)]
   ·subst h2;rw[if_pos Ξ,aMf]
   ·rw[PT ((aoS).elim (fD ar3) h1),aMl]
def yB(r p:Nat):∀N!,b4 (M5 r w d) p=BJ p vF jZ (b4 d p)
 |[],d=>aK M5
 |s::w,d=>by
  show b4 (M5 r w (iN d s.1 r)) p=_;rw[yB r p w,cZ,yp];rw[B4 (p∈vF)]
  ·rw[Hf,arJ h1]
  ·rw[arw h1 (p=s.1)]
   ·subst h2;rw[Fq gK Ξ]
   ·rw[LU,PT ((aoS).elim h2 h1)]
def ak4 wV:∀N!,b4 (MZ w d) p=BJ p vF none (b4 d p)
 |[],d=>aK MZ
 |s::w,d=>by
  show b4 (MZ w (iM d s.1)) p=_;rw[ak4 p w,cZ,M4];rw[B4 (p∈vF)]
  ·rw[Hf,arJ h1]
  ·rw[arw h1 (p=s.1)]
   ·subst h2;rw[Fq gK Ξ]
   ·rw[LU,PT ((aoS).elim h2 h1)]
def avp fM:∀N!,Mz->Cz (M5 r w d).map
 |[],d,h=>h
 |s::w,d,h=>avp r w _ (ado h)
def aEb:∀N!,Mz->Cz (MZ w d).map
 |[],d,h=>h
 |s::w,d,h=>aEb w _ (SE h)
def aF2 bf fM N!(hw:jn vF (p<n))(h:jn qC (p<n)):jn (iE (M5 r w d).map) (p<n):=by
 intro p hp;rw[mem_keys,yB]at hp;rw[B4 (p∈vF)]
 ·exact hw p h1
 ·rw[ahZ,←mem_keys]at hp;exact h p hp
def aE5 bf N!(h:jn qC (p<n)):jn (iE (MZ w d).map) (p<n):=by
 intro p hp;rw[mem_keys,ak4]at hp;rw[B4 (p∈vF)]
 ·rw[nt Hf hp hp]
 ·rw[ahZ,←mem_keys]at hp;exact h p hp
def q0(r p:Nat)Un:(Sg r l)[p]? = l[p]?.map (Ma o o jZ none o):=by
 rw[dJ Sg eX]
def aEc Oe:∀m_(l:Rh),di (og nV l5 w l)=l.length
 |[],l=>rfl
 |s::w,l=>by
  show di (og nV l5 w (if nV s.1 then l.set s.1 (aN (l5 s)) else l))=_;rw[aEc l5 w];split<;>simp
def avR Oe:∀m_(l:GG),di (Dg l5 w l)=l.length
 |[],l=>rfl
 |s::w,l=>by
  show di (Dg l5 w (ajM s (l5 s)))=_;rw[gp (avR l5 w)]
def aFl{lw lb:atB}:∀m_(l:Rh)(b:GG),(nA w (WD s.1->lw s=lb s))->l.length=b.length->(∀p<l.length,WD p->fP l p b[p]?) →
  ∀p<l.length,WD p->fP (og nV lw w l) p (Dg lb w b)[p]?
 |[],l,b,_,_,h=>h
 |s::w,l,b,hw,hl,h=>by
  show ∀p<l.length,WD p->fP (og nV lw w (if nV s.1 then l.set s.1 (aN (lw s)) else l)) p (Dg lb w (b.set s.1 (lb s)))[p]?
  have ih:=aFl (lw:=lw) (lb:=lb) w (if nV s.1 then l.set s.1 (aN (lw s)) else l) (b.set s.1 (lb s)) (λs hs=>hw s (aK hs)) (by split<;>simp[hl]) (by
   intro p hp Kj
   have J1:Rz p:=by split at hp<;>simpa using hp
   rw[t6 s p]
   ·subst e;rw[if_pos Kj,List.getElem?_set_self J1,List.getElem?_set_self av,hw s Ξ Kj]
   ·rw[af6];split
    ·rw[az af6 (h p J1 Kj)]
    ·exact h p J1 Kj)
  intro p hp;exact ih p (by split<;>simpa using hp)
def JE.of{locks Kk:uN}{t:o9}(h:JE cR sx locks t)(h1:U7 (aik Kk s.1))(h2:U8 (Kk[s.1]? = locks[s.1]?)):JE cR sx Kk t:=
 ⟨h.ne,h.nd,h1,fD (by rw[xr r k a b c (h.Br e) r k a b (λs hs=>by rw[az (h2 s hs) (c s hs)])]),h.ot⟩
def JE.al ayB(h:JE cR sx locks t){s:eJ}(hs:s∈t.ahead):∃r,oK locks s.1 r:=by
 obtain⟨r,_,_,_,c⟩:=h.Br (List.ne_nil_of_mem hs);rw[b7 r (c s hs)]
def S!.symm{t u:o9}(h:S! t u):S! u t:=⟨λs hs s' tq e=>h.1 s' tq s hs e.symm,λs hs s' tq e=>h.2 s' tq s hs e.symm⟩
def avS{W W':b5}aJC fX(h:aue W' r):wX:=h.imp (λh=>hg.subset h) λh=>hf.subset h
def Inv.put pq{W':b5}sQ(ht:atr (zF t))(hl:W'.locks.length=W.locks.length)
  aJC(hk:vB p (W'.locks[p]? = LJ p \/ aik W'.locks p))
  (hv:∀r,aue W' r->ajV (W'.locks[p]? = LJ p /\ U8 (s.1≠p)))
  (hy:∀y u,y≠x->GP y=dD->(nA u.ahead (W'.locks[s.1]? = LJ s.1))/\S! t u)(hx:JE cR sx W'.locks t):qF W':=by
 rw[qt get (∀y u,b4 W'.trains y=dD->(y=x/\u=t)\/(y≠x/\GP y=dD)) (λy u h=>by
  rw[ht,yp]at h;rw[EM y x]
  ·rw[xD]at h;cases h;exact Ik e
  ·rw[Cn u! (r? e h)]) ⟨by rw[az hl I.ln],xH r h (ou (avS hg hf h)).1 (xH p hp (by rw[az (hv r h p hp).1 (RQ (avS hg hf h))]) (cP y u hu)),cP p r h,aNx,aNy,
  λr h h'=>I.A_ r (hg.subset h) (hf.subset h'),by rw[az ht (ado I.lB)],cP y u hu,Ph y z u u' hu aOL ne⟩]
 ·rcases get y u hu with⟨_,rfl⟩ | ⟨_,h'⟩
  ·exact(hv r h p hp).2
  ·exact((ou (avS hg hf h)).2 p hp).2 y u h'
 ·rcases hk p with e | e
  ·rw[Cn e (I.lk p r h)]
  ·rw[e]at h;cases h
 ·rcases get y u hu with⟨_,rfl⟩ | ⟨e,h'⟩
  ·exact hx
  ·refine(I.tr y u h').of BZ (hy y u e h').1;rcases hk s.1 with e' | e'
   ·rw[gh e' ((I.tr y u h').st s hs)]
   ·exact e'
 ·rcases get y u hu with⟨rfl,rfl⟩ | ⟨e,h1⟩
  ·rcases get z u' aOL with⟨rfl,_⟩ | ⟨e',h2⟩
   ·rw[Q! ne]
   ·exact(hy z u' e' h2).2
  ·rcases get z u' aOL with⟨rfl,rfl⟩ | ⟨e',h2⟩
   ·exact(hy y u e h1).2.symm
   ·exact I.AF y z u u' h1 h2 ne
def Inv.del pq gS:qF (Lx W (Qk x)):=by
 rw[An get (∀y u,b4 (Qk x) y=dD->GP y=dD) (λy u h=>by
  rw[M4]at h;split at h
  ·cases h
  ·exact h) ⟨I.ln,xH r h (ou h).1 (xH p hp ((ou h).2 p hp).1 (λy u hu=>((ou h).2 p hp).2 y u (get y u hu))),I.lk,I.n5,I.Ki,I.A_,SE I.lB,λy u hu=>I.tr y u (get y u hu),λy z u u' h h'=>I.AF y z u u' (get y u h) (get z u' h')⟩]
abbrev Zq rm(nV:tP)Oe Uh:b5:=
 { W with locks:=Rc r,points:=og nV l5 jH W.points,green:=Vk [r]}
abbrev setB rm Oe oh fM:dM:=
 { B with locks:=Vq r jH,lying:=Dg l5 jH B.lying,greens:=iN B.greens z8 r}
def set_inv{l5:atB}J? fX(hr:aiS r)(fg:jH≠[])(hf:ajV (asX p))
  (ht:∀x t,dZ=fm->U7 (s.1∉r5)):qF (Zq cR nV l5 W r):=by
 rw[eE hp0 (∃p,p∈r5) (by
  unfold v8;cases e:jH with
  |nil=>rw[E2 fg]
  |cons s w=>rw[b7 s.1 Ξ]) hold (∀r',PD->jn (v8 cR r') (p∉r5)) (λr' h' p hp J1=>by
  rw[jm e1 (RQ h') (hf p J1) e1];cases e1) aNV (∀r',PD->r'≠r) (λr' h' e=>by
  subst e;rw[e8 p hp hp0 (hold _ h' p hp hp)]) aOy (∀x t,dZ=fm->U8 (s.1∉r5)) (λx t h s hs hp=>by
  rw[QF r' e ((r7 h).al hs) (hf _ hp) e];cases e)]
 have get:∀p<n,(Rc r)[p]? = BJ p r5 (KR r) (LJ p):= lR (yA r p _ _ (by rw[Md I.ln]))
 rw[bq lt (∀p(o:dw),fP (Rc r) p o->p<n) (λp o h=>by
  have:=HR;rwa[au3,I.ln]at this) lt' (∀p(o:dw),fP W.locks p o->p<n) (λp o h=>by
  rw[V? HR I.ln])]
 refine⟨by rw[aaV (di (ky _ _ _)=_) au3 I.ln],?_,?_,?_,I.Ki,?_,I.lB,?_,I.AF⟩
 ·intro r' h'
  have h':PD\/r'=r:=by
   rcases h' with h' | h'
   ·rcases aMv with h' | h'
    ·exact aq (aq h')
    ·exact aA (bh h')
   ·exact aq (aA h')
  rcases h' with h' | rfl
  ·rw[fy (G0 h').1 (xH p hp ?_ ((G0 h').2 p hp).2)];show(Rc r)[p]? = _;rw[eu (get p (R.lt r' (G0 h').1 p hp)) (zR (hold r' h' p hp)) (RQ h')]
  ·rw[b7 hr (xH p hp (by show(Uw _ _)[p]? = _;rw[Fq (get p (ajN _ p hp)) hp]) (λx t h s hs e=>aOy x t h s hs (e▸hp)))]
 ·intro p r' h;rw[s9 h (oK (Rc r) p r') h (get p (lt p _ h)) h];split at h
  ·rename_i hp;cases h;exact hp
  ·exact I.lk p r' h
 ·show gC (Vk [r]);rw[List.nodup_append];rw[eF I.n5 Ξ (jj a ha b hb)];rw[ň hb hb (aNV a (aq ha))]
 ·intro r' h' h2;have h':r'∈Vk [r]:=h';rcases aMv with h' | h'
  ·exact I.A_ r' h' h2
  ·simp at h';exact aNV r' (aA h2) h'
 ·intro x t h;refine(r7 h).of BZ BZ
  ·have e:=(r7 h).st s hs;show(Rc r)[s.1]? = _;rw[eu (get s.1 (lt' _ _ e)) (zR (ht x t h s hs)) e]
  ·obtain⟨r',e⟩:=(r7 h).al hs;show(Rc r)[s.1]? = _;rw[get s.1 (lt' _ _ e),zR (aOy x t h s hs)]
def aXE{lw lb:atB}Oj fX(hr:aiS r)(hf:ajV (asX p))(hl:nA jH (WD s.1->lw s=lb s)):
  u? (Zq cR nV lw W r) (setB cR lb B r):=by
 refine⟨?_,avp r _ _ S.Du,aF2 r _ _ (R.lt r hr) S.Dv,by rw[aaV (di (Dg _ _ _)=_) avR S.q8],by rw[aaV (di (og _ _ _ _)=_) aEc S.fJ],?_,?_,ado S.n5,S.falls,S.ticks,S.trains⟩
 ·intro p hp;show qJ (Rc r) p (b4 (Vq r jH) p);rw[yA _ _ _ _ (by rw[Md I.ln]),yB,U1 hp];split<;>rfl
 ·intro p hp;exact aFl jH W.points B.lying hl (j0 S.fJ S.q8) (lR (S.lies p (by rw[bV S.fJ hp hp]))) p (by rw[Md S.fJ])
 ·intro s r';show cE (b4 (iN B.greens z8 r) s) r'↔r'∈Vk [r]/\wW cR r'=s;rw[yp];rw[i9 (s=z8)]
  ·subst h;rw[gK];constructor
   ·intro e;cases e;simp
   ·rw[ahT h2];rcases aMu with h1 | h1
    ·obtain⟨p,hp,J1⟩:=R.hd r' (I.NX h1) r hr h2;rw[rV (RQ (aq h1)) (hf p J1)];cases this
    ·simp at h1;rw[h1]
  ·rw[D!,S.greens];constructor
   ·rw[ahT h2];rw[b7 (aK h1) h2]
   ·rw[ahT h2];rcases aMu with h1 | h1
    ·rw[b7 h1 h2]
    ·rw[Lh h1 h1];rw[pO h2.symm h]
def aEu{s r' r:Nat}Oj J':cE (b4 (afY z8) s) r'↔r'∈(z7 x x)/\wW cR r'=s:=by
 rw[M4,List.mem_filter];rw[EM s z8]
 ·rw[xD];constructor
  ·intro h;cases h
  ·rintro⟨⟨h1,h2⟩,h3⟩;rw[se (I.one R (aq h1) h (h3.trans e)) î]
 ·rw[u!,S.greens];constructor
  ·rw[ahT h2];rw[b7 ⟨h1,decide_eq_true λe'=>e (by rw[←h2,e'])⟩ h2]
  ·rintro⟨⟨h1,_⟩,h2⟩;rw[b7 h1 h2]
def aVQ pq{r p:Nat}J'(hp:p<n):nG[p]? = BJ p r5 RO (LJ p):=by
 rw[q0];rw[B4 (p∈r5)]
 ·rw[ai7 h1,Hf];simp
 ·rw[kE h1];cases e:LJ p with
  |none=>rfl
  |some o=>
   rw[Option.map_some];split
   ·rename_i e2;subst e2;rw[se (I.lk p r e) h1]
   ·rfl
def aF3 J? fX J'{g:gf}{f:w_}{t:Int}(hg:g.Sublist W.green)(hf:(aro).Sublist mL)(hgr:r∉g)(JS:r∉aro):
  qF { W with locks:=nG,green:=g,falls:=f,now:=t}:=by
 rw[qt old (∀r',r'∈g\/r'∈aro->PD/\r'≠r) (λr' h'=>by
  rcases h' with h' | h'
  ·rw[K4 (aq (hg.subset h')) e (hgr (e▸h'))]
  ·rw[K4 (aA (hf.subset h')) e (JS (e▸h'))]) ⟨fQ Sg I.ln,?_,?_,aNx,aNy,λr' h1 h2=>I.A_ r' (hg.subset h1) (hf.subset h2),I.lB,?_,I.AF⟩]
 ·intro r' h';rw[Ah (old r' h')];rw[fy (G0 h1).1 (xH p hp ?_ ((G0 h1).2 p hp).2)];show nG[p]? = _;rw[q0,RQ h1];simp[h2]
 ·intro p r' h';rw[s9 h' (oK nG p r') h' q0 h'];rw[aps o ho e h'];split at e
  ·cases e
  ·rw[fz e (I.lk p r' ho)]
 ·intro x u hu;refine(Vy u hu).of BZ BZ
  ·show nG[s.1]? = _;rw[q0,(Vy u hu).st s hs];simp
  ·show nG[s.1]? = _;obtain⟨r',e⟩:=(Vy u hu).al hs;rw[q0,e,Option.map_some];rw[abq ((some r':dw)=jZ)]
   ·have e3:r'=r:=aAK;rw[VD e3 e rfl (((ou h).2 s.1 (I.lk _ _ e)).2 x u hu s hs)]
   ·rw[kE e2]
def aF4 Oj fX J'{g:gf}{gs:DV}{f:w_}{fb:Bv FB}{t:Int}(hg:∀s r,b4 gs s=jZ↔r∈g/\z8=s)(aCW:gC (gs.map (·.1)))(a4b:f=ka (JK cR C8) fb):
  u? { W with locks:=nG,green:=g,falls:=f,now:=t} { B with locks:=Uq jH,greens:=gs,falls:=fb,ticks:=t}:=by
 refine⟨?_,aEb _ _ S.Du,aE5 _ _ S.Dv,S.q8,S.fJ,S.lies,hg,aCW,a4b,rfl,S.trains⟩;intro p hp;show qJ nG p (b4 (Uq jH) p);rw[aVQ I h hp,ak4,U1 hp];show(BJ p r5 _ _)=aN (BJ p r5 _ _);split<;>rfl
abbrev YT Uh:b5:=QL W nG green (z7 x x)
abbrev alN rm oh fM:dM:=QL B (Uq jH) greens (afY z8)
def aF5{g:gf}fX:r∉g.filter (oE x x r):=λh=>of_decide_eq_true apc.2 rfl
def aS5 J? fX(h:tn):qF (YT W r):=
 aF3 (t:=W.now) R I (aq h) List.filter_sublist Q9 aF5 (I.A_ r h)
def aS6 Oj fX(h:tn):u? (YT W r) (alN cR B r):=by
 have:=aF4 (fb:=B.falls) (t:=W.now) R I S (aq h) (λs r'=>aEu (s:=s) (r':=r') R I S (aq h)) (SE S.n5) S.falls;have e2:=S.ticks;unfold YT alN;rw[←e2]at this;rw[b! e2 this]
abbrev S9 Uh(u:AX):b5:={ W with green:=aAv (oE x x r),falls:=ahN r u}
abbrev amK rm oh fM(u:FB):dM:={ B with greens:=afY z8,falls:=Vi r u}
def aVR pq fX{u:AX}(h:tn):qF (S9 W r u):=by
 rw[qt hm (∀r',r'∈iE (ahN r u).map↔r'=r\/r'∈mL) (aVP _ _ _) ⟨I.ln,?_,I.lk,I.n5.sublist List.filter_sublist,ado I.Ki,?_,I.lB,I.tr,I.AF⟩]
 ·intro r' h';refine G0 ?_;rcases h' with h' | h'
  ·exact aq azm.1
  ·rcases(hm r').mp h' with rfl | h'
   ·exact aq h
   ·exact aA h'
 ·intro r' h1 h2;rcases(hm r').mp h2 with rfl | h2
  ·exact aF5 h1
  ·exact I.A_ r' (List.mem_filter.mp h1).1 h2
def aVS Oj fX{u:FB}(h:tn):u? (S9 W r (JK cR C8 r u)) (amK cR B r u):=
 ⟨S.locks,S.Du,S.Dv,S.q8,S.fJ,S.lies,λs r'=>aEu R I S (aq h),SE S.n5,by show ahN r _=ka _ (Vi r u);rw[S.falls,alg],S.ticks,S.trains⟩
abbrev zt(f:w_)N1 fM:Bool:=match b4 f r with
 |dD=>EO u.u t
 |none=>false
abbrev Zr(f:Bv FB)N1 fM:Bool:=match b4 f r with
 |dD=>EO u.u t
 |none=>false
def aGl Gs N1 fM:zt W.falls t r=Zr B.falls t r:=by
 unfold zt Zr;rw[S.falls,Sn];cases b4 B.falls r<;>rfl
abbrev nO Uh:b5:=if zt W.falls W.now r then QL W nG falls (RL r) else W
abbrev nU rm oh fM:dM:=if Zr B.falls B.ticks r then QL B (Uq jH) falls Ax else B
def aEv{f:w_}{t:Int}fX(h:aO (zt f t r)):r∈aro:=by
 rw[nw zt];rw[mem_keys];cases e:b4 f r with
 |none=>rw[e]at h;cases h
 |some u=>rfl
def aFm J? fX:qF (nO W r):=by
 unfold nO;split
 ·rename_i h;refine aF3 (t:=W.now) R I (aA (aEv h)) Q9 azQ (λh'=>I.A_ r h' (aEv h)) (λh'=>((alA _ _ _).mp h').1 rfl)
 ·exact I
def aTu Oj fX:u? (nO W r) (nU cR B r):=by
 unfold nO nU;rw[aGl S,S.ticks];split
 ·rename_i h;rw[←aGl S]at h;have:=aF4 (f:=RL r) (fb:=Ax) (t:=W.now) R I S (aA (aEv h)) (λs r'=>asq r') S.n5 (j0 S.falls aEM);have e2:=S.ticks;rw[←e2]at this;rw[S.falls]at this⊢;rw[b! e2 this]
 ·exact S
def aFn fX:(nO W r).now=W.now:=by unfold nO;split<;>rfl
abbrev adF n_:b5:={ W with now:=z_}
abbrev xi oh:dM:=G2 ticks (LI 1)
def al3 pq:qF (adF W):=⟨I.ln,I.own,I.lk,I.n5,I.Ki,I.A_,I.lB,I.tr,I.AF⟩
def Mo Gs:u? (adF W) (xi B):=⟨S.locks,S.Du,S.Dv,S.q8,S.fJ,S.lies,S.greens,S.n5,S.falls,by show LI 1=z_;rw[S.ticks],S.trains⟩
abbrev Due n_:Prop:=Ac W.falls (W.now<q.2.u)
abbrev FU n_:b5:=(mL).foldl nO (adF W)
abbrev aef rm oh:dM:=(rK).foldl (nU cR) (xi B)
def aEw(R:atz):∀ZN,atx->qF (U4 W)
 |[],W,I=>I
 |r::rs,W,I=>aEw R rs _ (aFm R I)
def aEx(R:atz):∀ZN oh,atx->aN2->u? (U4 W) (rs.foldl (nU cR) B)
 |[],W,B,I,S=>S
 |r::rs,W,B,I,S=>aEx R rs _ _ (aFm R I) (aTu R I S)
def aVT J?:qF (FU W):=aEw R _ _ (al3 I)
def aVU Oj:u? (FU W) (aef cR B):=by
 unfold FU aef;rw[Ĥ (aEx R _ _ _ (al3 I) (Mo S))]
def aE7:∀ZN,gC mL->(U4 W).now=W.now/\Ac (U4 W).falls (q∈W.falls/\(q.1∈rs->W.now<q.2.u))
 |[],W,_=>kU (xH q hq hq Ξ)
 |r::rs,W,hn=>by
  rw[List.foldl_cons]
  have a3a:Cz (nO W r).falls.map:=by
   unfold nO;split
   ·exact SE hn
   ·exact hn
  rw[Ah (aE7 rs (nO W r) a3a)];rw[aFn]at h1 h2;rw[Ld h1 q hq];obtain⟨h3,h4⟩:=h2 q hq;unfold nO at h3;split at h3
  ·have h5:=List.mem_filter.mp h3;rw[K4 h5.1 h ((Q_).elim (ahY e e (azb h5)) h4)]
  ·rename_i hd;rw[fy h3 (λh=>(Q_).elim (ck e) h4)];subst e;unfold zt at hd;rw[nt (atH hn h3) hd hd];omega
def aVV pq:Due (FU W):=by
 rw[Ah (aE7 mL (adF W) I.Ki)];intro q hq;have h3:=h2 q hq;rw[jW FU h1 (h3.2 (qK q h3.1))]
def aVW ZU fX{u:AX}(hw:W.now<u.u)(hr:r∉mL):Due (S9 W r u):=by
 intro q hq;have hq:q∈ahN r u:=hq;show W.now<q.2.u;rw[aF1 hr]at hq;rcases aMy with hq | hq
 ·exact D q hq
 ·rw[ň hq hq hw]
abbrev Ng n_ wV:b5:={ W with points:=apZ ((W.points.getD p none).map (!·))}
abbrev adZ oh wV:dM:=G2 lying (aBR (!(K1 p)))
def aUF pq DF:qF (Ng W p):=⟨I.ln,I.own,I.lk,I.n5,I.Ki,I.A_,I.lB,I.tr,I.AF⟩
def aUG Gs DF(hp:p<n)(Kj:WD p):u? (Ng W p) (adZ B p):=by
 refine⟨S.locks,S.Du,S.Dv,fQ adZ S.q8,fQ Ng S.fJ,?_,S.greens,S.n5,S.falls,S.ticks,S.trains⟩;intro q hq a4r;show fP (apZ ((W.points.getD p none).map (!·))) q (aBR (!(K1 p)))[q]?;rw[oD (S.lies p hp Kj) (S.lies q hq a4r)]
 have yM:ag3 p:=by rw[Md S.q8]
 rw[EM p q]
 ·subst e;rw[af2 (by rw[Md S.fJ]),List.getElem?_set_self yM,List.getD_eq_getElem?_getD,h1,List.getD_eq_getElem?_getD,List.getElem?_eq_getElem yM];rfl
 ·rw[eu af6 af6 h2]
def aUH ZU DF:Due (Ng W p):=D
def avg Un(p q:Nat):(ahP p)[q]? = l[q]? \/ aik (ahP p) q:=by
 rw[i9 (p=q)]
 ·subst h;by_cases hl:Rz p
  ·exact aA (List.getElem?_set_self hl)
  ·left;rw[EC (by rw[fh]),aav]
 ·exact aq aMr
def aHv Gs(hl:azB n){p q:Nat}(hq:q<n):qJ (W.locks.set p none) q (b4 (LP p) q):=by
 rw[M4];rw[i9 (q=p)]
 ·subst h;rw[gK,af2 (by rw[az hl hq])]
 ·rw[D!,af7 (Pj e.symm),S.locks q hq]
def aHY{d:DV}DF(h:Ac qC (q<n)):Ac (iE (iM d p).map) (q<n):=r! (h q ((alA _ _ _).mp hq).2)
abbrev Zc rm Uh gS(old:iz):b5:=
 { W with green:=aAv (oE y y r),falls:=RL r,locks:=Pa ((jH).headD (0,0,0)),trains:=apW ((jH).take 1++old) ((jH).drop 1)}
abbrev aeg rm oh fM gS yU:dM:=
 { B with greens:=afY z8,falls:=Ax,locks:=LP ((jH).headD (0,0,0)).1,trains:=RC t}
def aGm J? fX gc{old:iz}J'(fg:jH≠[])(ho:∀t,dZ=fm->t.steps=old)(hn:VS->old=[]):qF (Zc cR W r x old):=by
 rw[Ŝ w e9 (∃s w,jH=s::w) (by
  cases e:jH with
  |nil=>rw[E2 fg]
  |cons s w=>exact kA s w)]
 rw[Cg q? (r5=s0.1::vF) (by rw[Ri v8 e9]) kO (R.nd r (ou h).1)];rw[aAt q? kO];rw[gM ZA (Ō s0.1 r) (ai7 (by rw[gp q?])) hw (nA w (s.1∈r5)) (λs hs=>by rw[az q? (oN (qK s hs))]) fK (BC s0.1) aLo.1];have aGC:vB q (q≠s0.1->PC[q]? = LJ q):= r! (af7 (fD (hq e.symm)))
 rw[bq hold (nA old (asX s.1)) (λs hs=>by
  cases e:dZ with
  |none=>rw[nt (hn e) hs hs]
  |some t=>exact(r7 e).st s (by rw[az (ho t e) hs])) aew (Cz ((s0::w).take 1++old).map) (by
  show gC (s0.1::old.map (·.1));rw[List.nodup_cons];rw[fy (ck h) ?_]
  ·rw[KM s hs e h];have:=hold s hs;rw[e,ZA]at this;cases this
  ·cases e:dZ with
   |none=>rw[gp (hn e)]
   |some t=>rw[←ho t e];exact(r7 e).nd)]
 rw[dJ Zc e9]
 refine I.put (x:=x) rfl Ξ List.filter_sublist azQ (λp=>avg _ _ _) (jj r' h' p hp) (jj y u ne hu) ⟨Ξ,aew,?_,?_,Ξ⟩
 ·rw[Iw h'' (PD/\r'≠r) (by
   rcases h' with h' | h'
   ·rw[b7 (aq azm.1) (azb azm)]
   ·rw[b7 (aA ((alA _ _ _).mp h').2) ((alA _ _ _).mp h').1]) hd (p∉r5) J1 (by
   rw[jm e1 (RQ h''.1) (ai7 J1) e1];cases e1;exact h''.2 rfl)]
  rw[b7 (aaY p (hd (by rw[e,q?];simp))) (λs hs e=>hd (e▸hw s hs))]
 ·rw[eF (λs hs=>aaY _ (((ou h).2 s0.1 (by rw[gp q?])).2 y u hu s hs e)) (tC s hs s' tq e) (λs hs s' tq e=>((ou h).2 s.1 (hw s hs)).2 y u hu s' tq e.symm)];rw[fS e0 ((I.tr y u hu).st s' tq) hs (s=s0\/s∈old) (bh hs)]
  rcases hs with rfl | hs
  ·rw[←e,ZA]at e0;cases e0
  ·cases e1:dZ with
   |none=>rw[nt (hn e1) hs hs]
   |some t=>exact(I.AF x y t u e1 hu (fD ar9)).1 s (by rw[az (ho t e1) hs]) s' tq e
 ·intro s hs
  have hs:s=s0\/s∈old:=bh hs
  show PC[s.1]? = _;rcases hs with rfl | hs
  ·exact aK4
  ·rcases avg W.locks s0.1 s.1 with e | e
   ·rw[Cm (hold s hs)]
   ·exact e
 ·intro _;refine⟨r,0,(ou h).1,by rw[e9];rfl,BZ⟩;have hs:s∈w:=hs;rw[aaV (PC[s.1]? = _) (aaY _ (kO.1 (e▸qK s hs))) (ai7 (hw s hs))]
def aGn Oj fX gc{old:iz}{t:TB}J'(ht:t.tr=BD ((jH).take 1++old) ((jH).drop 1)):u? (Zc cR W r x old) (aeg cR B r x t):=
 ⟨lR (aHv S I.ln hp),SE S.Du,aHY S.Dv,S.q8,S.fJ,S.lies,λs r'=>aEu R I S h,SE S.n5,by show RL r=ka _ Ax;rw[S.falls,aEM],S.ticks,by show I7=ka AV (RC t);rw[alg,S.trains,AV,ht]⟩
abbrev amL J7 GC:b5:=
 QL W (Pa (QB 0 0 0)) trains (zF (atf agY 1))
abbrev aIN Ui wV yU:dM:=QL B (LP p) trains (RC t)
def aVD J? sQ Kf(fg:aiP []):qF (amL W x t):=by
 rw[Ŝ w e9 (∃s w,Pe (s::w)) (by
  cases e:t.ahead with
  |nil=>rw[E2 fg]
  |cons s w=>exact kA s w)]
 have T:=r7 hx;obtain⟨r,k,hr,hk,uz⟩:=T.Br fg;rw[e9]at hk uz
 have kO:Cz (s0::w).map:=by
  have h1:((jH).drop k |>.map (·.1)).Nodup:=by
   rw[gh List.map_drop ((aap r).sublist (azc _))]
  rw[←hk,cZ,List.nodup_cons]at h1;exact h1.2
 rw[aAt cZ kO];rw[fS ZA (uz s0 Ξ) fK (BC s0.1) aLo.1];have aGC:vB q (q≠s0.1->PC[q]? = LJ q):= r! (af7 (fD (hq e.symm)))
 have aew:Cz (aqJ ((s0::w).take 1)).map:=by
  show gC (s0.1::aqg);rw[List.nodup_cons];rw[fy (ck h) T.nd];rw[KM s hs e h];have:=T.st s hs;rw[e,ZA]at this;cases this
 rw[dJ amL e9]
 refine I.put (x:=x) rfl Ξ Q9 Q9 (λp=>avg _ _ _) (jj r' h' p hp) (jj y u ne hu) ⟨Ξ,aew,?_,?_,Ξ⟩
 ·rw[jm h1 (((G0 h').2 p hp).2 x t hx) e9 h1];rw[b7 (aaY p (h1 s0 Ξ e.symm)) (λs hs=>h1 s (oN hs))]
 ·have hd:=I.AF x y t u hx hu (fD ar9);rw[S!,e9]at hd;rw[eF (λs hs=>aaY _ (hd.2 s0 Ξ s hs e.symm)) (tC s hs s' tq e) (λs hs=>hd.2 s (oN hs))]
  have hs:s=s0\/aiT s:=bh hs
  rcases hs with rfl | hs
  ·have e0:=(I.tr y u hu).st s' tq;rw[←e,ZA]at e0;cases e0
  ·exact hd.1 s hs s' tq e
 ·intro s hs
  have hs:s=s0\/aiT s:=bh hs
  show PC[s.1]? = _;rcases hs with rfl | hs
  ·exact aK4
  ·rcases avg W.locks s0.1 s.1 with e | e
   ·rw[Cm (T.st s hs)]
   ·exact e
 ·intro _;refine⟨r,k+1,hr,?_,BZ⟩
  ·rw[←List.drop_drop,←hk];rfl
  ·have hs:s∈w:=hs;rw[aaV (PC[s.1]? = _) (aaY _ (kO.1 (e▸qK s hs))) (uz s (oN hs))]
def aVE pq Gs sQ{t':TB}(ht:t'.tr=atf agY 1):u? (amL W x t) (aIN B x (QB 0 0 0).1 t'):=
 ⟨lR (aHv S I.ln hp),SE S.Du,aHY S.Dv,S.q8,S.fJ,S.lies,S.greens,S.n5,S.falls,S.ticks,by show I7=ka AV Ie;rw[alg,S.trains,AV,ht]⟩
abbrev Tn J7 GC:b5:=Lx W (zF t)
abbrev axP Ui yU:dM:=Lx B (RC t)
def aHw Gs gc{t:TB}:u? (Tn W x t.tr) (axP B x t):=
 ⟨S.locks,S.Du,S.Dv,S.q8,S.fJ,S.lies,S.greens,S.n5,S.falls,S.ticks,by show I7=ka AV (RC t);rw[alg,S.trains,AV]⟩
def aHx pq gc{t t':o9}Kf(ha:t'.ahead=t.ahead)(hs:nA t'.steps (aiT s))(hT:JE cR sx W.locks t'):qF (Tn W x t'):=by
 rw[IA (I.put (W':=Tn W x t') (x:=x) rfl rfl Q9 Q9 (λp=>aq rfl) (λr' h' p hp=>kU (by rw[gh ha (((G0 h').2 p hp).2 x t hx)])) (λy u ne hu=>lM ajF) hT) hd (I.AF x y t u hx hu (fD ar9))];rw[b7 (λs h=>hd.1 s (hs s h)) (by rw[az ha hd.2])]
def aXF pq sQ Kf(ha:Pe [])(hb:b9 (sx vh.1 zb)):qF (Tn W x (as7 [])):=
 aHx I hx ha.symm (λs h=>h) ⟨(r7 hx).ne,(r7 hx).nd,(r7 hx).st,ahY h rfl h,λ_=>kU hb⟩
def aSb{t:o9}(h:t.steps.length≠1)(fg:att []):t.steps.dropLast≠[]/\t.steps.dropLast.headD (0,0,0)=vh:=by
 unfold cn;cases e:t.steps with
 |nil=>rw[E2 fg]
 |cons s w=>
  cases w with
  |nil=>rw[nt e h h]
  |cons s' w=>simp
def aVF pq sQ Kf(h1:t.steps.length≠1):qF (Tn W x Le):=by
 have T:=r7 hx;obtain⟨h2,h3⟩:=aSb h1 T.ne;rw[bq hm (nA t.steps.dropLast (aiT s)) (λs h=>(aMn).subset h) e (cn Le=vh) h3];exact aHx I hx rfl hm ⟨h2,T.nd.sublist ((aMn).map _),λs h=>T.st s (hm s h),λh=>by rw[Cm (T.Br h)],λh=>by rw[Cm (T.ot h)]⟩
abbrev aNW J7:b5:=Lx W (Qk x)
abbrev aNX Ui:dM:=Lx B (aq1 x)
def aXn Gs gc:u? (aNW W x) (aNX B x):=
 ⟨S.locks,S.Du,S.Dv,S.q8,S.fJ,S.lies,S.greens,S.n5,S.falls,S.ticks,by show Qk x=ka AV (aq1 x);rw[aEM,S.trains]⟩
abbrev flip oi:eJ:=(s.1,s.2.2,s.2.1)
abbrev AY N_:uN:=aaX l s (ahP s.1) l
def xk:∀N_,di (AY w l)=l.length
 |[],l=>rfl
 |s::w,l=>by show di (AY w (ahP s.1))=_;rw[gp (xk w)]
def alR wV:∀N_,Rz p->(AY w l)[p]? = BJ p vF RO l[p]?
 |[],l,h=>aK AY
 |s::w,l,h=>by
  show(AY w (ahP s.1))[p]? = _;rw[alR p w _ (bh h),cZ];rw[B4 (p∈vF)]
  ·rw[Hf,arJ h1]
  ·rw[arw h1 (s.1=p)]
   ·subst h2;rw[if_pos Ξ,aMf]
   ·rw[PT ((aoS).elim (fD ar3) h1),aMl]
def aHS N_ wV:(AY w l)[p]? = l[p]? \/ aik (AY w l) p:=by
 rw[i9 (Rz p)]
 ·rw[alR p w l h];split
  ·exact aA rfl
  ·exact aq rfl
 ·left;rw[EC (by rw[s7 xk]),aav]
def aHy N_ wV(hp:p∉vF):(AY w l)[p]? = l[p]?:=by
 rw[i9 (Rz p)]
 ·rw[alR p w l h,if_neg hp]
 ·rw[EC (by rw[s7 xk]),aav]
abbrev Jz gS(_:Nat)(u:AX):AX:=⟨u.u,u.ns.filter (oE y y x),u.bd⟩
abbrev JA gS(_:Nat)(u:FB):FB:={ u with fH:=vE u.fH gB none u.fH}
abbrev aeh J7 GC:b5:=
 { W with locks:=aqB,falls:=ka (Jz x) W.falls,trains:=ajq []}
abbrev aIO Ui(Br:iz)yU:dM:={ B with locks:=Uq Br,falls:=ű (JA x),trains:=RC t}
def aVG pq sQ Kf:qF (aeh W x t):=by
 rw[zp T (r7 hx) hm (∀s∈zN,∃s'∈t.steps,s.1=s'.1) (λs h=>by
  rw[xA s' h' h];exact kA s' (List.mem_reverse.mp h')) aew (Cz (zN).map) (by
  rw[List.map_map,En (((·.1)∘flip:eJ->Nat)=(·.1)),List.map_reverse]
  exact(List.reverse_perm _).nodup_iff.mpr T.nd)]
 rw[zM aeh (I.put (x:=x) rfl (xk _ _) Q9 (by rw[az alf Q9]) (λp=>aHS _ _ _) (jj r' h' p hp) (jj y u ne hu) ⟨?_,aew,?_,ahY h rfl h,λh=>by cases h⟩)]
 ·have h'':PD:=by
   rcases h' with h' | h'
   ·exact aq h'
   ·right;have h':r'∈iE (ka (Jz x) W.falls).map:=h';rwa[alf]at h'
  rw[fy (aHy _ _ _ (ck h)) (λs hs=>K0 hs)]
  rw[KM s hs e h];exact((G0 h'').2 p hp).2 x t hx s hs e
 ·have hd:=I.AF x y t u hx hu (fD ar9);rw[eF (λs hs=>aHy _ _ _ (ck h)) (tC s hs s' tq e) (λs hs=>K0 hs)]
  ·rw[KM s' tq e h];exact hd.2 s' tq s hs e
  ·rw[QG s2 h2 e2 (hm s hs) (hd.1 s2 h2 s' tq (e2.symm.trans e))]
 ·have:=T.ne;intro h;apply this;rw[rZ h2 (t.steps.reverse=[]) (List.map_eq_nil_iff.mp h) (List.reverse_eq_nil_iff.mp h2)]
 ·intro s hs;rw[ahX s2 e2 (hm s hs)];show aqB[s.1]? = _;rw[e2];rcases aHS t.ahead W.locks s2.1 with e | e
  ·rw[Cm (T.st s2 h2)]
  ·exact e
def aVH pq Gs sQ{t':TB}(ht:t'.tr=BD zN []):u? (aeh W x t) (aIO B x t.ahead t'):=by
 refine⟨Mh p,aEb _ _ S.Du,aE5 _ _ S.Dv,S.q8,S.fJ,S.lies,S.greens,S.n5,?_,S.ticks,by show I7=ka AV Ie;rw[alg,S.trains,AV,ht]⟩
 ·show qJ aqB p (b4 (Uq t.ahead) p);rw[alR _ _ _ (by rw[Md I.ln]),ak4,U1 hp];split<;>rfl
 ·show ka (Jz x) W.falls=ka _ (ű (JA x));rw[S.falls];rw[aqt ka];refine EE q _;obtain⟨r,u,o,ob⟩:=q;simp only[Function.comp,Jz,JA,JK];cases o with
  |none=>simp
  |some y=>rw[xx e y x e]
def aPj{W':b5}ZU(hn:W'.now=W.now)(hf:∀q∈W'.falls,∃q'∈W.falls,q'.2.u=q.2.u):Due W':=r! (by
 rw[aiU q' h (hf q hq)];rw[hn,←e];exact D q' h)
def aGo ZU fX gc{old:iz}:Due (Zc cR W r x old):=ajc D q azo.1
def aVI ZU sQ:Due (aeh W x t):=aPj D rfl (r! (by
 rw[xA q' h hq];exact kA q' h))
def Inv.lt pq DF{v:dw}(h:fP W.locks p v):p<n:=by
 rw[V? HR I.ln]
def Inv.aev pq sQ(h:dZ=fm):t.steps.length≤n:=by
 have:=Yx (n:=n) (r7 h).nd (lR (by
  rw[Vn s hs hp (I.lt ((r7 h).st s hs))]))
 simpa using this
def Inv.a3b J? sQ(h:dZ=fm):t.ahead.length≤n:=by
 by_cases e:Pe []
 ·rw[gp e]
 ·obtain⟨r,k,hr,hk,_⟩:=(r7 h).Br e;rw[fS h1 (Yx (n:=n) (aap r) (R.lt r hr)) h2 (k8 (vh::t.ahead) (di jH)) (by rw[gh hk (azc _).length_le])]
  rw[Ct v8 h1 eH h1];rw[zE]at h2;omega
def ui{t:o9}(h:att []):aiT vh:=by
 unfold cn;cases e:t.steps with
 |nil=>rw[E2 h]
 |cons s w=>simp
def aGp:∀(d:Ol),Mz->(Ac d (q.2.steps≠[]))->(Ac d (∀q'∈d,q.1≠q'.1->S! q.2 q'.2))->gC (LR q (cn q.2).1)
 |[],_,_,_=>Ξ
 |q::d,hn,hs,hd=>by
  rw[cZ,List.nodup_cons]at hn⊢;rw[fy (ck h) (aGp d hn.2 (λq' h=>hs q' (aK h)) λa ha b hb=>hd a (aK ha) b (aK hb))];rw[KM q' jQ e h];rw[PA q'.1 q.1 e' (hn.1 (e'▸qK q' jQ)) ((hd q' (aK jQ) q Ξ fg).1 _ (ui (hs q' (aK jQ))) _ (ui (hs q Ξ)) e)]
def Inv.axQ pq:Ux n:=by
 rw[Cg hm (QJ q (GP q.1=xP q)) (r! aiF) h1 (aGp W.trains I.lB (r! (I? (hm q hq)).ne) λq hq q' jQ fg=>I.AF _ _ _ _ (hm q hq) (hm q' jQ) fg)]
 have:=Yx (n:=n) h1 (lR (by
  rw[Vn q hq hp (I.lt ((I? (hm q hq)).st _ (ui (I? (hm q hq)).ne)))]))
 simpa using this
universe zE
universe Sb
universe zE
end
mutual
section
namespace Sb
open PySem L2
section
variable {α:Type}
abbrev encD aeX anY:kc:=LR q ((jX q.1:Key),e q.1 q.2)
def amg T!:((jX a:Key)=jX b)↔a=b:=by
 rw[s7 Sum.inl.injEq]
def t! aeX pn:∀d:Bv α,qR (W2 e) (jX k)=(b4 d k).map (e k)
 |[]=>rfl
 |q::d=>by
  have ih:=t! e k d;unfold qR encD at ih⊢
  rw[cZ,List.find?_cons,t9];rw[i9 (q.1=k)]
  ·rw[B5 h]
  ·rw[kE h];have h':arI (jX q.1:Key) (jX k):=decide_eq_false λe=>h (amg.mp e);rw[aqz h' ih]
def uj aeX pn(v:α)anY:jw (W2 e) (jX k) (e k v)=zj e (iN d k v):=by
 unfold jw iN encD
 have ha:(LR q ((jX q.1:Key),e q.1 q.2)).any (Mg (j6=jX k))=aA2 (q.1=k):=by
  rw[aBd]
  congr 1
  funext q
  exact decide_eq_decide.mpr amg
 rw[ha];split
 ·rw[List.map_map,List.map_map]
  refine EE q _
  rw[i9 (q.1=k)]
  ·rw[B5 h]
  ·have h':¬((jX q.1:Key)=jX k):=Pj (amg.mp e);rw[afI D! (if_neg h')]
 ·simp
def alb aeX pn anY:va (W2 e) (jX k)=zj e (iM d k):=by
 unfold va iM encD;rw[aqx]
 congr 1
 rw[tL (az0 q _) (decide_eq_decide.mpr (not_congr amg))]
abbrev gP afh anZ:kc:=LR q ((I6:Key),e q.1 q.2)
def alS{a b:Int}:((arQ:Key)=arR)↔a=b:=iZ Sum.inl.injEq
def AL afh(k:Int):∀d:P_ α,qR (gP e d) ħ=(b4 d k).map (e k)
 |[]=>rfl
 |q::d=>by
  have ih:=AL e k d;unfold qR gP at ih⊢
  rw[cZ,List.find?_cons,t9];rw[i9 (q.1=k)]
  ·rw[B5 h]
  ·rw[kE h];have h':arI (I6:Key) ħ:=decide_eq_false λe=>h (alS.mp e);rw[aqz h' ih]
def aGq afh(k:Int)(v:α)anZ:jw (gP e d) ħ (e k v)=gP e (iN d k v):=by
 unfold jw iN gP
 have ha:(LR q ((I6:Key),e q.1 q.2)).any (Mg (j6=ħ))=aA2 (q.1=k):=by
  rw[aBd]
  congr 1
  funext q
  exact decide_eq_decide.mpr alS
 rw[ha];split
 ·rw[List.map_map,List.map_map]
  refine EE q _
  rw[i9 (q.1=k)]
  ·rw[B5 h]
  ·have h':¬((I6:Key)=ħ):=Pj (alS.mp e);rw[afI D! (if_neg h')]
 ·simp
def aFo afh(k:Int)anZ:va (gP e d) ħ=gP e (iM d k):=by
 unfold va iM gP;rw[aqx]
 congr 1
 rw[tL (az0 q _) (decide_eq_decide.mpr (not_congr alS))]
def avT afh anZ:di (gP e d)=d.length:=aK gP
def aUI{e:Int->α->aj}gc{t t':α}{d:P_ α}(hn:Mz)(h:b4 d x=fm)(he:e x t'=e x t):gP e (iN d x t')=gP e d:=by
 unfold iN gP;rw[kR ((ů x).mpr ((mem_keys d x).mpr (by rw[h];rfl))),List.map_map];refine EE q hq;rw[apd];by_cases e1:q.1=x
 ·have:=EP hn;rw[e1,h]at this;cases this;rw[if_pos e1,e1,he]
 ·rw[kE e1]
def uk aeX anY:di (W2 e)=d.length:=aK encD
universe zE
section
variable {M:aS}{n:Nat}{kvs:kc}
def aDF qp gy DC Gp(hk:iR x=fc):I! x (ο n)=.ok (.ah (if neg then !(tE D3) else tE D3)) M:=by
 rw[Á iu ac2 h];simp only[L2.getD,h,hk,Option.map_some]
def YA{x v:aj}DC Gp aJs:f_ (ο n) x M=.ok v M:=by
 rw[Á f_ ac2 h];simp only[L2.getD,h,hk,Option.map_some,hv]
def SG dH gx gy ae4(hx:Ai):Pk ο n i=.ok x M:=by
 have hl:I1:=aLn.1;simp only[f_,ac2,h,yK,F_];rw[Eu,Eu];simp[hx]
def aCE{k v:aj}{kk:Key}Gp(hk:cE (iR k) kk)(hl:apX lim):Df (ο n) k v M=aN (iK n .ai (jw kvs kk v)):=by
 simp only[Df,h,hk,arV]
def Sw dH gx{v:aj}ae4(hi:I1):Df (ο n) (η i) v M=aN (sf n (xs.set i v)):=by
 simp only[Df,h,F_];rw[Eu,Eu];simp
def qN uK ae2:rE n:=HR
def get_set{o o':dm}ae2:P! (K! o') o':=af2 (qN h)
def p_{m:Nat}{o':dm}(h:n≠m):(K! o')[m]? = M[m]?:=aMr
universe zE
def yl DE{mf eO dv:br}o!(y:aj)(aa:aS)l_(M2:aS)(k:aj)(bJ M':aS)aJZ aIX(q:Q (.nx ρ M')):Q (nS mf eO dv ρ M):=by
 unfold nS;rw[hv,Res.oS,ho,Res.oS,hk,Res.oS,hp];exact q
def avU DE ql{ps:zQ br}o!(h:nN ps ρ M=.ok () M)(q:Q (bG C ρ M)):Q (fV C ps ρ M):=by
 rw[jW fV h q]
def acL DE e7 o! Gw J_ aKg:Q (mP d ρ M):=by
 rw[jW mP h q]
def amM DE gx e7 o! Gw J_ aKg:Q (lW i d ρ M):=by
 rw[jW lW h q]
@[simp] def aVe sP jT b6 ZI:(Res.exc c M:xQ).bind f=bG c M:=rfl
@[simp] def aGr{a b:br}o!:Zg a b ρ M=E4 (a ρ M).bind (match x with | .ah k=>pT k (b ρ aa) (.ok (lO .ah) aa) | _=>aE):=by
 unfold Zg
 congr 1
 funext x aa
 cases x<;>try rfl
 rename_i k;cases k<;>rfl
@[simp] def aHz{a b:br}o!:aer a b ρ M=E4 (a ρ M).bind (match x with | .ah k=>if aO k then .ok (fT .ah) aa else b ρ aa | _=>aE):=by
 unfold aer
 congr 1
 funext x aa
 cases x<;>try rfl
 rename_i k;cases k<;>rfl
@[simp] def a6q qp iC b6:jd neg (η i) .bb M=.ok (.ah neg) M:=by cases neg<;>rfl
@[simp] def a6r qp b6:jd neg .bb .bb M=.ok (.ah ! neg) M:=by cases neg<;>rfl
@[simp] def a6s qp bf b6:jd neg (ο n) .bb M=.ok (.ah neg) M:=by cases neg<;>rfl
@[simp] def aVJ N7:Hk (η i) (η j) M=.ok (.ah (jC (i<j))) M:=rfl
@[simp] def aGs N7:aud (η i) (η j) M=.ok (.ah (EO i j)) M:=rfl
@[simp] def aWk N7:l7 (η i) (η j) M=.ok (.ah (jC (j<i))) M:=rfl
@[simp] def a6h N7:abX (η i) (η j) M=.ok (.ah (EO j i)) M:=rfl
universe Sb
universe zE
section
namespace Sb
open PySem L2
structure gv where
 aP:Addr
 fa:Addr
 cI:Addr
 he:Addr
 tr:Addr
 rd:Addr
structure dK where
 ps:kt
 ss:sW
 rs:uO
 wait:Int
inductive sO where
 |yard
 |fall fM
 |train gS
 |steps gS
 |ahead gS
 |Dc
abbrev yy gI N1:rY:=
 [("found",Jh Y.rs),("pieces",pF),ayY zI,("wait",Fs),("ticks",η t),("locks",ο 1),("lying",ο 2),R1 (ο 3),aaZ (ο 4),atw (ο 5)]
abbrev ir(b:Bool):aj:=Ω (if b then "straight" else "branch")
abbrev jN:eL->aj
 |WU=>η i
 |none=>.bb
abbrev uA(u:FB):rY:=[z0 u.u,aaO u.fH]
abbrev FE yU:rY:=[("steps",ο t.so),("ahead",ο t.sj),("is_out",.ah t.tr.out)]
abbrev eI:ze (ze aj):=cK r (η r)
abbrev Ji:aki FB:=cK u (ο u.ob)
abbrev AG:Int->TB->aj:=cK t oM
structure avj(C:gv)DL gS yU:Prop where
 ot:o t.ob=Ww x
 os:o t.so=vn x
 oa:o t.sj=pU x
 mt:GI M = GJ
 ms:aoE
 ma:D5 t.sj (t.tr.ahead.map bE)
structure eG n!(e:eL)DL oh:Prop where
 y0:M[0]? = GS K2
 y1:M[1]? = RM .ai eI B.locks
 y2:D5 2 (B.lying.map ir)
 y3:M[3]? = RM .ai eI B.greens
 y4:ajs M 4 .ai
 y5:rH M 5 .ai W!
 lo:∀i≤5,o i=.yard
 hi:∀i,ã i->o i=.Dc
 qg:Qn q (o q.2.ob=Pd q.1/\M[q.2.ob]? = aio (uA q.2))
 avi:afH q (e≠some q.1->avj C o M q.1 q.2)
structure kK DL(o':ek)J_:Prop where
 len:aoF
 tag:afC i (o' i=o i)
 out:afC i (o i=.Dc->M'[i]? = M[i]?)
def kK.refl{o:ek}b6:E9 M:=⟨fe,ajF,λ_ _ _=>rfl⟩
def kK.trans{o o1 o2:ek}{M aa M2:aS}(a:MQ o1 aa)(b:kK o1 aa o2 M2):MQ o2 M2:=
 ⟨Nat.le_trans a.len b.len,λi h=>eV (b.tag i (azU h)) (a.tag i h),λi h1 h2=>eV (b.out i (azU h1) (eV (a.tag i h1) h2)) (a.out i h1 h2)⟩
def kK.set{o:ek}b6 bf{v:dm}(h:o n≠.Dc):E9 (K! v):=⟨Ξ,ajF,λi _ hi=>p_ (Pj (e▸hi))⟩
abbrev k!(o:ek)dS(g:sO):ek:=Ma i i n g (o i)
def Jk{o:ek}bf{g:sO}:k! o n g n=g:=gK
def mI{o:ek}{n i:Nat}{g:sO}(h:i≠n):k! o n g i=o i:=D!
def kK.push{o:ek}b6{v:dm}{g:sO}:MQ (k! o M.length g) (M++[v]):=⟨Ξ,λi h=>mI av,λi h _=>aLw⟩
def Ym{o:ek}{i j:Nat}{a b:sO}(h1:o i=a)(h2:o j=b)(h:a≠b):i≠j:=Pj (by rw[←h1,←h2,e])
section
variable {C:gv}{Y:dK}{e:eL}{o:ek}{M:aS}{B:dM}{ρ:bu}
def eG.gt iU gx{g:sO}(hi:o i=g)(hg:g≠.yard):5<i:=by
 by_cases h5:i≤5
 ·rw[pO ((atq (h.lo i h5)) hi).symm hg]
 ·omega
def eG.mv iU GA{B':dM}(hl:w9)(h0:M'[0]? = GS (yy Y B'.ticks))(h1:M'[1]? = RM .ai eI B'.locks)(h2:Ez M' 2 (B'.lying.map ir))
  (h3:M'[3]? = RM .ai eI B'.greens)(h4:M'[4]? = RM .ai Ji B'.falls)(h5:rH M' 5 .ai (gP AG B'.trains))(hf:Ac B'.falls (q∈B.falls))(ht:Ac B'.trains (asC q))(hm:∀i,5<i->M'[i]? = M[i]?):eG C Y e o M' B':=
 ⟨h0,h1,h2,h3,h4,h5,h.lo,asx i (by rw[b! hl hi]),xH q hq (h.qg q (hf q hq)).1 (eV (hm _ (KV (h.qg q (hf q hq)).1)) (h.qg q (hf q hq)).2),λq hq he=>by
  have T:=OJ (ht q hq) he
  exact Ih (eV (hm _ (KV T.ot)) T.mt) (eV (hm _ (KV T.os)) T.ms) (eV (hm _ (KV T.oa)) T.ma)⟩
def eG.a3c iU N1:eG C Y e o (QW 0 (cQ C.aP (yy Y t))) (G2 ticks t):=
 h.mv Ξ (get_set h.y0) Ĵ Ķ Ĺ Ļ aim (cK h h) (cK h h) (kj (p_ av))
def eG.acx iU(l:DV):eG C Y e o (iK 1 .ai (encD eI l)) (Q4 B l):=
 h.mv Ξ Rk (get_set h.y1) Ķ Ĺ Ļ aim (cK h h) (cK h h) (kj (p_ av))
def eG.put2 iU(l:GG):eG C Y e o (sf 2 (l.map ir)) (G2 lying l):=
 h.mv Ξ Rk Ĵ (get_set h.y2) Ĺ Ļ aim (cK h h) (cK h h) (kj (p_ av))
def eG.put3 iU(l:DV):eG C Y e o (iK 3 .ai (encD eI l)) (G2 greens l):=
 h.mv Ξ Rk Ĵ Ķ (get_set h.y3) Ļ aim (cK h h) (cK h h) (kj (p_ av))
def eG.aIP iU fM:eG C Y e o (iK 4 .ai (zj Ji Ax)) (G2 falls Ax):=
 h.mv Ξ Rk Ĵ Ķ Ĺ aBg aim (cK h apc.1) (cK h h) (kj (p_ av))
def eG.a1u iU gS:eG C Y e o (iK 5 .ai (gP AG (aq1 x))) (Lx B (aq1 x)):=
 h.mv Ξ Rk Ĵ Ķ Ĺ Ļ arq (cK h h) (cK h apc.1) (kj (p_ av))
def eG.push iU(v:dm)(g:sO):eG C Y e (k! o M.length g) (M++[v]) B:=by
 rw[Iw a (∀anQ,jk M v'->jk (M++[v]) v') (fD (eV (UK (qN e)) e)) b (∀anQ,jk M v'->k! o M.length g i=o i) e (mI (by rw[fZ (qN e)]))]
 exact⟨a h.y0,a h.y1,a h.y2,a h.y3,a h.y4,a h.y5,kj (eV (mI (by rw[fZ (qN h.y5)])) (h.lo i hi)),kj (by
   rw[List.length_append,List.length_singleton]at hi;exact eV (mI av) (h.hi i av)),
  xH q hq (VO (h.qg q hq).2 Ch) (a (h.qg q hq).2),λq hq he=>by
   have T:=OJ hq he
   exact⟨VO T.mt T.ot,VO T.ms T.os,VO T.ma T.oa,a T.mt,a T.ms,a T.ma⟩⟩
def avj.push gc{t:TB}aon(v:dm)(g:sO):MO (k! o M.length g) (M++[v]) t:=by
 rw[Iw a (∀anQ,jk M v'->jk (M++[v]) v') (fD (eV (UK (qN e)) e)) b (∀anQ,jk M v'->k! o M.length g i=o i) e (mI (by rw[fZ (qN e)]))];exact⟨VO T.mt T.ot,VO T.ms T.os,VO T.ma T.oa,a T.mt,a T.ms,a T.ma⟩
def avj.set gc{t:TB}aon gx{v:dm}{g:sO}(hi:o i=g)(h1:g≠Ww x)(h2:g≠vn x)(h3:g≠pU x):Bw (M.set i v) t:=
 Ih (za (Ym hi T.ot h1) T.mt) (za (Ym hi T.os h2) T.ms) (za (Ym hi T.oa h3) T.ma)
def eG.own(h:IT)gx{v:dm}(hi:o i=Ww x\/o i=vn x\/o i=pU x):eG C Y gB o (M.set i v) B:=by
 have g:∀{j:Nat}{g:sO},o j=g->g≠Ww x->g≠vn x->g≠pU x->(M.set i v)[j]? = M[j]?:= λhj h1 h2 h3=>p_ (by
  rcases hi with hi | hi | hi
  ·exact Ym hi hj (Ne.symm h1)
  ·exact Ym hi hj (Ne.symm h2)
  ·exact Ym hi hj (Ne.symm h3))
 have y:∀j≤5,(M.set i v)[j]? = M[j]?:= λj hj=>ċ (h.lo j hj) (nofun)
 refine⟨abi 0 h.y0,abi 1 h.y1,abi 2 h.y2,abi 3 h.y3,abi 4 h.y4,abi 5 h.y5,h.lo,λj hj=>h.hi j (bh hj),
  xH q hq Ch (eV (ċ Ch (nofun)) (h.qg q hq).2),cP q hq he⟩
 rw[fS T (OJ hq he) hn (q.1≠x) (fD (he (iZ e)))];exact Ih (eV (g T.ot (asF (sO.train.inj e)) nofun nofun) T.mt) (eV (g T.os nofun (asF (sO.steps.inj e)) nofun) T.ms) (eV (ċ T.oa (asF (sO.ahead.inj e))) T.ma)
def eG.but pA gS:IT:=⟨h.y0,h.y1,h.y2,h.y3,h.y4,h.y5,h.lo,h.hi,h.qg,λq hq _=>VC q hq⟩
def eG.seen gc{t t':TB}(h:IT)(hn:ajZ)(hx:p0=fm)(T:Bw M t')(ho:t'.ob=t.ob):BA M (Lx B Ie):=by
 refine⟨h.y0,h.y1,h.y2,h.y3,h.y4,?_,h.lo,h.hi,h.qg,cP q hq _⟩
 ·rw[Wu (rH M 5 .ai (gP AG Ie)) (aUI hn hx (by show aj.obj t'.ob=aj.obj t.ob;rw[ho])) h.y5]
 ·rw[Ů hq (q∈Ie) hq Dx (EP (ado hn)) yp Dx];rw[t6 q x]
  ·rw[xD]at Dx;cases Dx;rw[Cm T]
  ·rw[bV u! Dx (OJ (AK Dx) (λe'=>e (aLF).symm))]
def eG.a3d gc{t':TB}(h:IT)(hn:ajZ)(T:Bw M t'):BA (iK 5 .ai (gP AG Ie)) (Lx B Ie):=by
 have T':=aqE i 5 v (.ai (gP AG Ie)) (Qy 5);have g:∀i,5<i->(iK 5 .ai (gP AG Ie))[i]? = M[i]?:= kj (p_ av)
 refine⟨Rk,Ĵ,Ķ,Ĺ,Ļ,arq,h.lo,asx i W8,
  xH q hq Ch (Mv _ (KV Ch) (h.qg q hq).2),cP q hq _⟩
 rw[Ů hq (q∈Ie) hq Dx (EP (ado hn)) yp Dx];rw[t6 q x]
 ·rw[xD]at Dx;cases Dx;rw[Cm T']
 ·rw[u!]at Dx;have T2:=OJ (AK Dx) (λe'=>e (aLF).symm);exact⟨T2.ot,T2.os,T2.oa,Mv _ (KV T2.ot) T2.mt,Mv _ (KV T2.os) T2.ms,Mv _ (KV T2.oa) T2.ma⟩
def eG.keep iU GA aIV:eG C Y e o M' B:=by
 rw[bq g (∀gx{v:dm},Av M->o i≠.Dc->Av M') (λe hn=>Ĭ _ (qN e) hn e) y (∀gx{v:dm},Av M->i≤5->Av M') (λe hi=>g e (by rw[tR (h.lo _ hi)]))]
 exact⟨y h.y0 aC,y h.y1 aC,y h.y2 aC,y h.y3 aC,y h.y4 aC,y h.y5 aC,h.lo,asx i (Nat.le_trans hl hi),xH q hq Ch (g (h.qg q hq).2 (by rw[tR Ch])),λq hq he=>by
  have T:=OJ hq he
  exact Ih (g T.mt (by rw[tR T.ot])) (g T.ms (by rw[tR T.os])) (g T.ma (by rw[tR T.oa]))⟩
def eG.fld iU Gy gy e7 ayq(hf:kZ K2 f=gB):cm C.aP f d ρ M=.ok x M:=by
 rw[kF cm hd ag (Jt h.y0)];rw[ku hf];rfl
variable {t:Int}
def xl:IU (Str.ofString "found")=aN IE:=bU
def YI:IU (Str.ofString "pieces")=aN pF:=bU
def au4:IU (Str.ofString "signals")=aN zI:=bU
def aZt:IU (Str.ofString "wait")=cJ Y.wait:=bU
def alT:IU (Str.ofString "ticks")=cJ t:=bU
def alU:IU (Str.ofString "locks")=cF 1:=bU
def FR:IU (Str.ofString "lying")=cF 2:=bU
def alB:IU (Str.ofString "greens")=cF 3:=bU
def adp:IU (Str.ofString "falls")=cF 4:=bU
def ra:IU (Str.ofString "trains")=cF 5:=bU
def aE8:Ý Y t (Str.ofString "train_in"):=bU
def aUJ:Ý Y t (Str.ofString "lock_of"):=bU
def aZu:Ý Y t (Str.ofString "lies"):=bU
def aS7:Ý Y t (Str.ofString "is_green"):=bU
def aZv:Ý Y t (Str.ofString "time"):=bU
def eG.met iU{m:Str}Bo e7 wO dH ayq(hf:b9 (kZ K2 m))(ha:vQ=.ok xs M):yC C.aP m g d ds ρ M=g (ο 0::xs) M:=by
 rw[Oo yC hd (Jt h.y0)];rw[afU hf];rw[ha,ag]
abbrev AB pg dS:Bool:=EO 0 i&&jC (i<n)
def aSc dH iC:dn [ς xs,η i] M=.ok (.ah (é i)) M:=by
 rw[ki dn r (r=.ok (.ah (é i)) M)];refine CH (.ah (é i)) M;by_cases h:0≤i<;>simp[eW,h,AB]
def kz iC(h : -1000≤i)(h2:aAj i):U6 i:=by
 rw[zM small (decide_eq_true (lM ?_))]
 ·rw[Fj (aY (-(2 ^ 64)) = -18446744073709551616) aC]
 ·rw[Fj (aY (2 ^ 64)=18446744073709551616) aC]
abbrev l8 pg:Prop:= -1000≤i/\aAj i
def aeE iC DG Be:nN [none,nv,none] [zg,qw] M=.ok () M:=by
 have h:=kz hi.1 hi.2;simp only[nN,aT,bB,bw,ag,h,if_true]
def awj dH{cI aP:Addr}Gy iC iU Be(hf:kZ K2 f=gY):
  AH 2 (CG (dP (ay dn [(U_ f),aG])) (fV cI [none,nv,none])) [ο 0,η i] M=By (é i) .ok .bb (bG cI M):=by
 refine AA (P:=λr=>r=By (é i) .ok .bb (bG cI M)) ?_;rw[cV e (mJ [aD,qw] hf) (tV (!(é i)))]
 ·simp[e,aSc,gR]
 ·rw[mC (avU (aeE hi) (k_ ?_)) (zR pL)]
 ·rw[mC (c5 (eQ ?_)) (kR pL)]
def ace iC iU Be:aDg C.cI C.aP dn [ο 0,η i] M=By (Kv i) .ok .bb (bG C.cI M):=by
 have:=awj (cI:=C.cI) (aP:=C.aP) h hi xl;rw[bV eH this this]
def acf iC iU Be:aDh C.cI C.aP dn [ο 0,η i] M=Qd .ok .bb:=by
 have:=awj (cI:=C.cI) (aP:=C.aP) h hi YI;rw[bV eH this this]
def ab8 iC iU Be:m3 C.cI C.aP dn [ο 0,η i] M=ā i .ok .bb M:=by
 have:=awj (cI:=C.cI) (aP:=C.aP) h hi au4;rw[bV eH this this]
abbrev qW:tO dR
 |.pl _ _=>false
 |.pt _ _ _=>true
def acA rq:aus afE M=.ok (.ah (qW p)) M:=by
 rw[ki aus r (r=.ok (.ah (qW p)) M)];refine CH (.ah (qW p)) M;cases p<;>simp[dR.enc,qW]
def a3P iC bf(h:aO (AB i n)):∃k:Nat,i=k/\k<n:=by
 rw[nw AB];rw[EY];rw[bC i.toNat av av]
def at0{k n:Nat}(h:k<n):aO (AB (aY k) n):=by
 unfold AB;rw[rF h]
abbrev qO j! wV:Bool:=qW (d8 p)
abbrev lh pg j!:Bool:=AB i ps.length&&qO ps i.toNat
def ab7 iC{bS dG:D1}iU Be ayj aJ1:
  at9 C.cI C.aP bS dG [ο 0,η i] M=Z? i .ok .bb M:=by
 rw[ki at9 r (r=Z? i .ok .bb M)];rw[Vb lh ho (GR i)]
 ·rw[if_pos ho]at hc;rw[zx k hk ho];rw[IA (K9 .bb M (aK hc)) e (mJ [aD,jG] YI)];rw[xg ho (tV (!(ø k)))]
  ·simp[e,FT hk,hp,gR,qO]
  ·rw[oA (avU (aeE hi) (k_ ?_)) hk (arG k) pL]
   rw[Int.toNat_natCast,hk];rfl
  ·rw[oA (c5 (eQ ?_)) hk (aoZ k) pL]
   rw[Int.toNat_natCast,hk];rfl
 ·have ho:dQ (GR i):=Mc
  rw[ho]at hc⊢;refine O8 M Po;rfl
def aHA{rs:uO}ayv:fP rs r (wW rs r,bo rs r):=by
 unfold wW bo;rw[Q0 h];rfl
def JB{rs:uO}ayv:Aa (Jh rs) r=.ok (aV [η (wW rs r),bF (bo rs r)]) M:=C3 (by rw[eX,aHA h];rfl)
def ak3 fX iU Ud:la C.aP [ο 0,η r] M=.ok (η cg) M:=by
 rw[ki la q (q=.ok (η cg) M)];rw[xO e (mJ [aD,cv] xl) (Et (η cg) M (fQ e (JB hr)))]
def alu fX iU Ud:pj C.aP [ο 0,η r] M=.ok l? M:=by
 rw[ki pj q (q=.ok l? M)];rw[xO e (mJ [aD,cv] xl) (Et l? M (fQ e (JB hr)))]
def lL{bX:D1}aKK Bp pC:aur bX [pF,η a,η j] M=.ok (.ah (P0 j).isNone) M:=by
 rw[ki aur q (q=.ok (.ah (P0 j).isNone) M)];refine CH (.ah (P0 j).isNone) M;cases e:P0 j<;>simp[hb,e,aU]
abbrev Az gI qm:Bool:=(È (gA s).2 (gA s).1).isNone
def akU{bX:D1}N2 iU(hs:uX)aKH:akG C.aP bX [ο 0,η s] M=.ok (.ah k9) M:=by
 rw[ki akG q (q=.ok (.ah k9) M)];rw[rM e1 (mJ [aD,er,none] au4) e2 (mJ [aD,er,aN WZ] YI) (Wy WZ (fQ e1 (S4 hs)))];exact Et (.ah k9) M (by simp[e2,fE,hb,Az]at e2⊢)
def aZw iU:aDy C.aP [ο 0] M=.ok aj7 M:=by
 rw[ki aDy q (q=.ok aj7 M)];exact Et aj7 M (h.fld rfl alT)
def aUK iC{bS:D1}iU ayj:
  at7 C.aP bS [ο 0,η i] M=Qd .ok (aU (KP i.toNat)):=by
 rw[ki at7 q (q=Qd .ok (aU (KP i.toNat)))]
 rw[rA ho (GR i)]
 ·rw[ho]at hc⊢
  rw[zx k hk ho];rw[IA (VY .bb M (aK hc) (Ŏ (aU (KP k)) M)) e (mJ [aD,jG] alU)];unfold adI;rw[En ((UR ([aj.obj 0,aj.int ↑k].map some) (2 - mO [aj.obj 0,aj.int ↑k]) none:bu)=[aD,jG]),e,ag,oW h.y1]
  rw[PO];rw[oW h.y1];rw[rP iR t!];cases KP k<;>rfl
 ·have ho:dQ (GR i):=Mc
  rw[rQ ho hc (O8 M (dy (k_ rfl)))]
def aZx iC{bS:D1}iU(hl:aBy)aJ5:
  aum C.aP bS [ο 0,η i] M=Z? i .ok (ir (K1 i.toNat)) M:=by
 rw[ki aum q (q=Z? i .ok (ir (K1 i.toNat)) M)]
 rw[rA ho (G? i)]
 ·rw[ho]at hc⊢
  rw[zx k hk aLB.1];refine VY .bb M (aK hc) (Ŏ (ir (K1 k)) M);rw[fS e (mJ [aD,jG] FR) cS (ag3 k) (by rw[az hl hk])]
  simp only[cZ,zD,zE,yE,Nat.zero_add,Nat.reduceAdd,Nat.reduceSub,List.replicate,Dd,wC,mV,au,e,ag,aT,bB,bw];exact SG h.y2 (by rw[azC eX cS];rfl)
 ·have ho:dQ (G? i):=Mc
  rw[rQ ho hc (O8 M (dy (k_ rfl)))]
def aS8 iC{bS:D1}iU(hc:bS [ο 0,η i] M=ā i .ok .bb M):
  atY C.aP bS [ο 0,η i] M=ā i .ok (.ah (atc i.toNat)) M:=by
 rw[ki atY q (q=ā i .ok (.ah (atc i.toNat)) M)]
 rw[rA ho (KY i)]
 ·rw[ho]at hc⊢;rw[zx k hk ho];rw[IA (VY .bb M (aK hc) (Ŏ (.ah (atc k)) M)) e (mJ [aD,jG] alB)];simp only[cZ,zD,zE,yE,Nat.zero_add,Nat.reduceAdd,Nat.reduceSub,List.replicate,Dd,wC,mV,au,e,ag,aT,bB,bw];rw[V1 h.y3 k (jX k),t!];simp
 ·have ho:dQ (KY i):=Mc
  rw[rQ ho hc (O8 M (dy (k_ rfl)))]
universe zE
universe Sb
universe zE
end
mutual
section
namespace Sb
open PySem L2
def avV b6 bf uK ae2:K! o=M:=by
 refine aoY i;rw[EM n i]
 ·subst e;rw[get_set h,h]
 ·rw[p_ e]
def M7 b6 bf{o o':dm}ae2:(K! o').set n o=M:=by
 rw[List.set_set,avV h]
abbrev aWD dS(kvs:kc)(Q:DT):DT
 |.nx ρ M=>GF .bD/\Q (.nx ρ (I_ .ai))
 |.fk x M=>GF .bD/\Q (.fk x (I_ .ai))
 |_=>False
def aD1 DE{eO:n0}{s:cM}ZH DK dH Gp(hi:GL M=.ok (xs,L9 .bD) M')(hs:aWD n kvs Q (s ρ M)):Q (pb eO s ρ M):=by
 unfold pb alQ;rw[hi];rw[afU h];revert hs;cases s ρ M with
 |nx ρ M=>rintro⟨a,b⟩;rw[Ej ad5];rw[az (if_pos a) b]
 |fk x M=>rintro⟨a,b⟩;rw[Ej ad5];rw[az (if_pos a) b]
 |_=>exact False.elim
def av0 e7 o! DK Gp aeU:Nd d ρ M=.ok (Cp q (aV [AS q.1,q.2]),L9 .bD) (I_ .bD):=by
 rw[Oo Nd hd (oW h)]
def aXo e7 o! DK Gp aeU:S6 d ρ M=.ok (Cp q q.2,L9 .bD) (I_ .bD):=by
 rw[Oo S6 hd (oW h)]
def keys_eq e7 o! DK Gp aeU:AO d ρ M=.ok (Cp q (AS q.1),L9 .bD) (I_ .bD):=by
 rw[Oo AO hd (oW h)]
abbrev aCB(q:Int×TB):aj:=aV [η q.1,ο q.2.ob]
abbrev aOc(q:Nat×FB):aj:=aV [η q.1,ο q.2.ob]
def aHB(d:P_ TB):((gP AG d).map λq=>Xz (AS q.1) q.2)=d.map aCB:=by rw[zy gP]
def aXp(d:Bv FB):((W2 Ji).map λq=>Xz (AS q.1) q.2)=d.map aOc:=by rw[zy encD]
section
variable {C:gv}{Y:dK}{e:eL}{o:ek}{M:aS}{B:dM}{ρ:bu}{t:TB}
def aPr Gy gy e7(h:GI M = GJ)(hd:c8=.ok oM M)(hf:kZ EW f=gB):cm C.tr f d ρ M=.ok x M:=by
 rw[kF cm hd ag (Jt h)];rw[ku hf];rfl
def SJ:kZ EW (Str.ofString "steps")=cF t.so:=bU
def awk:kZ EW (Str.ofString "ahead")=cF t.sj:=bU
def axp:kZ EW (Str.ofString "is_out")=d7 .ah t.tr.out:=bU
def aw7{tk:Int}Gy gy e7(h:M[0]? = GS (yy Y tk))ayq(hf:kZ (yy Y tk) f=gB):cm C.aP f d ρ M=.ok x M:=by
 rw[kF cm hd ag (Jt h)];rw[ku hf];rfl
def R? ax4(hl:GU):at6 C.tr [oM] M=.ok (jc Qc) M:=by
 rw[ki at6 q (q=.ok (jc Qc) M)];rw[cV e (Uz ρ [iY] d ak h1 SJ) (CH (jc Qc) M)]
 show O1 pS (dc (aq4 C.tr)) j_ r4 [iY] M=_;rw[oR (xs:=t.tr.steps) (w:=nu t.so (ς QY)) (M':=M) bE zK (zY s s.1) (k7 (ρ=[y])) (SS e h2) h2 rN (nH x) ON]
 ·rw[r9];rw[f5 wu (kR (by rw[s5 hl])) xU];rw[zy jc]
 ·rw[E! H8]
abbrev auT(d:P_ TB)(p:Int):eL:=iE (aqb q (p∈abo q.2 s.1)).map
def Kt iC{bS fF:D1}pA ayj
  aKG(hl:aiJ q q.2):
  akI C.aP bS fF [ο 0,η i] M=Qd .ok (jN (UN i)):=by
 rw[ki akI q (q=Qd .ok (jN (UN i)))]
 rw[rA ho (GR i)]
 ·rw[ho]at hc⊢;simp only[cZ,zD,zE,yE,Nat.zero_add,Nat.reduceAdd,Nat.reduceSub,List.replicate,Dd,wC,mV];refine VY .bb M (aK hc) Pu;rw[aaH hi (av0 h.y5 (mJ [aD,qw,none,none] ra)) aHB hi h.y5 hi ?_];rw[dX hz (rH (Oq 5 .bD) 5 .bD W!) arq (nQ aCB (pI (∃y z,ρ=[aD,qw,y,z]/\M'=Oq 5 .bD/\apS (Cd (i∈abo q.2 s.1)))) B.trains _ _ hi hz (iX none none rfl rfl) ?_ ?_)]
  ·rintro pre q post hx ρ M' ⟨y,z,rfl,rfl,g7⟩;refine qH
   have hq:asC q:=by rw[oB]
   rw[bI T (VC q hq) T' (aqE i 5 v (.bD W!) (Qy 5))]
   rw[cV e1 (hu q.2 _ T'.mt T'.ms (hl q hq)) (G5 (i7 i (abo q.2 s.1)) (Oq 5 .bD))]
   ·rw[c_,au,aT];dsimp only[List.set_cons_succ,List.set_cons_zero,bB,bw];rw[ag,bP,aR,aT];rw[tG];rw[ag,bM,ag,ag,e1,ag];rw[kS (jc (iE q.2.tr.steps.map)) (ς ((abo q.2 s.1).map η)) (aK jc),avc]
    rfl
   ·refine qL (η q.1) (Oq 5 .bD) rfl (al1 ⟨hz,t8 (eP ?_)⟩);rw[Fq (M7 h.y5) trivial];unfold auT;rw[hx,List.find?_append,g7,List.find?_cons,hk];rfl
   ·rw[s_ (Ĝ hz _ rfl ?_)];rw[List.find?_append,g7,List.find?_cons,hk];rfl
  ·rw[GW M' y z rfl rfl g7];rw[fy hz (agf .bb M (by rw[M7 h.y5];rfl) (eP ?_))];rw[f5 auT g7 (if_pos trivial)];rfl
 ·have ho:dQ (GR i):=Mc
  rw[rQ ho hc (O8 M (dy (k_ rfl)))]
abbrev aZy c6 dS cT(ti:tP):Prop:=vB p (p<n->∃x,g [ο 0,η p] M=.ok x M/\jd true x .bb M=.ok (.ah (ti p)) M)
def abV DF Uo{ti:tP}pA(ht:aZy gt Y.ps.length M ti)(hp:w7)(hs:l8 p):
  at5 C.he C.aP gt [ο 0,η p] M=aoI (zL||ti p) M (.ok .bb M):=by
 rw[Ur at5 P q (q=aoI (zL||ti p) M (.ok .bb M)) e (mJ [aD,kH] alU) (gV (tV zL))]
 ·simp[e];rw[V1 h.y1 k (jX p),t!];simp
 ·have e3:=aeE (M:=M) (y:=ο 0) hs;rw[vM fV e3];refine Po;rw[hk,Bool.true_or,gK]
 ·rw[ģ x h2 (ht p hp)];rw[cV e2 (h.met (ρ:=[aD,kH]) (g:=gt) (d:=ak) (ds:=[aG]) (xs:=[η p]) rfl aE8 rfl) (c5 (kn (H? (ti p) M)))]
  ·show(vz Wd (yC C.aP "train_in" gt ak [aG]) (dC .bb)) [aD,kH] M=_;rw[c_,au,e2,h1,ag,bg,ag,h2];rfl
  ·refine avU (aeE hs) (k_ ?_);rw[cS,Bool.or_true,gK]
  ·rw[s_ (eQ ?_)];rw[hk,cS,Bool.or_false,xU]
abbrev FV rq oi:Bool:=match p with
 |.pl _ _=>true
 |.pt _ _ b=>!(i7 b [s.2.1,s.2.2])
abbrev avk j! oi:Bool:=FV (d8 s.1) s
def aHC oi:yG false (bE s) u_ none M=.ok (aV ([s.2.1,s.2.2].map η)) M:=rfl
def oI{dG:D1}aJ1 rq oi:auC dG [p.enc,bE s] M=.ok (ir (FV p s)) M:=by
 rw[ki auC q (q=.ok (ir (FV p s)) M)];cases p with
 |pl a b=>
  refine atl M (c5 (kn (qL gm M rfl (eP rfl))));simp[hp,gR,qW]
 |pt t u b=>
  rw[ko e (ai6 (η b) (aV ([s.2.1,s.2.2].map η)) M=_) aFX (tV (i7 b [s.2.1,s.2.2]))]
  ·simp[hp,gR,qW];simp only[dR.enc,a1t,ag,aHC];rw[gp e]
  ·refine Lg MB M (eP ?_);simp only[FV,hk,ir];rfl
  ·rw[s_ (xh gm M ?_)];simp only[FV,hk,ir];rfl
abbrev alC oh(ti:tP)m_:Bool:=w.any λs=>aoW s.1||ti s.1
def aS9 fM m_ oi(d:DV):M5 r (w++[s]) d=iN (M5 r w d) s.1 r:=by rw[Ă M5]
def aUL Oe m_ oi(l:GG):Dg l5 (w++[s]) l=(Dg l5 w l).set s.1 (l5 s):=by rw[Ă Dg]
def Yk bf{l:gf}(h:l.Nodup)(hl:∀x∈l,x<n):l.length≤n:=Yx h hl
def acC iC{bS gE iP gl gs:D1}{ti:tP}pA GB ZC(NW:aBa 16)(TN:XX r (Hu cg))
    (kO:gC aqh)(fK:jn aqh w7)(TM:aBy)(aCW:gC aoN)(o4:nA aoN uX)
    aJn
    (hw:vB r (lI->gE [ο 0,η r] M=.ok l? M))
    aJg
    (hl:∀M p s,gl [dR.enc p,bE s] M=.ok (ir (FV p s)) M)
    aKJ:
    (RS i/\ach C.aP bS gE iP gl gs [ο 0,η i] M=kG)\/∃r:Nat,i=r/\lI ∧
      ((aO (W3 B ti)/\ach C.aP bS gE iP gl gs [ο 0,η i] M=bG C.he M) ∨
       (dQ (W3 B ti)/\CV (ach C.aP bS gE iP gl gs [ο 0,η i] M=.ok .bb M') (setB Y.rs ajO B r))):=by
  rw[Vb ach ho (Kv i)]
  · rw[ho]at hc
    rw[zx r hr ho]
    rw[ff (aA (rC r hr ?_)) (AA (P:=λq=>(aO (W3 B ti)/\q=bG C.he M)\/(dQ (W3 B ti)/\CV (q=.ok .bb M') (setB Y.rs ajO B r))) ?_)]
    simp only[cZ,zD,zE,yE,Nat.zero_add,Nat.reduceAdd,Nat.reduceSub,List.replicate,Dd,wC,mV];rw[CD (č .bb M (aK hc)) (Wy l? (aK (hw r hr)))];rw[eB];rw[ko Zt (aj1 (apo s.1)) (λs tq=>ajN r s.1 (qK s tq)) (CI bE (XA y (ρ=[aD,cv,vc,y]/\M'=M/\dQ (alC B ti pre))) cX M OG (ajf none))]
    · rintro pre s post hx ρ M' ⟨y,rfl,rfl,g7⟩
      rw[vd];rw[bI Pt (Zt s (by rw[oB])) e (hn s.1 Pt)];rw[rA hh (aoW s.1||ti s.1)]
      · rw[K7 (if_pos hh) e (acL C.he M' ?_ (aV3 (dy (k_ (Ik ?_)))))]
        · simp[bE,e]
        · rw[hx];rw[kF alC List.any_append List.any_cons hh];simp
      · rw[K7 (if_neg hh) e (x8 .bb M' (ahj _ rfl ?_))]
        · simp[bE,e]
        · unfold alC at g7⊢
          rw[List.any_append,g7,List.any_cons];simp only[Bool.not_eq_true]at hh;rw[hh];rfl
    · rw[ī M' y rfl rfl a1v]
      refine uV (nQ bE (LA aa (∃y,ρ=[aD,cv,vc,y]/\BA aa (QL B (Vq r pre) lying (Dg ajO pre B.lying))/\kK o M' o aa))
        cX none M' OG trivial (rC _ h kK.refl) ?_ ?_)
      · rintro pre s post hx ρ aa ⟨y,rfl,h1,f1⟩
        rw[vd];rw[zp Pt (Zt s (by rw[oB])) aZz (jn aM0 w7) (lR (by
          rw[Vn s' tq hp (Zt s' (by rw[hx];simp[tq]))])) hlen (k8 (Vq r pre) 16) (by
          rw[rV (Yk (avp r pre _ kO) (aF2 r pre _ aZz fK)) eH];omega)]
        rw[CC e1 (Pz [aD,cv,vc,BW] d alU) (yl (η r) aa (ο 1) aa (η s.1) aa (Ŷ 1 .ai eI r (pre++[s])) Ξ e1 H8 ?_ fB)]
        · rw[ahE h1.y1 s.1 (by rw[uk];show di (Vq r pre)<_;exact UE hlen),aS9]
          congr 3
          exact uj eI s.1 r _
        rw[bI h2 (h1.acx (Vq r (pre++[s]))) e2 (apY ρ [aD,cv,vc,BW] d rfl FR)]
        rw[cV e3 (apY ρ [aD,cv,vc,BW] d rfl YI) (yl (ir (avk Y.ps s)) (Ŷ 1 .ai eI r (pre++[s])) (ο 2) (Ŷ 1 .ai eI r (pre++[s])) (η s.1) (Ŷ 1 .ai eI r (pre++[s])) ((Ŷ 1 .ai eI r (pre++[s])).set 2 (ς ((Dg ajO (pre++[s]) B.lying).map ir))) ?_ e2 H8 ?_ (ahj _ ?_ ?_))]
        · rw[bP,aR,au,e3,ag]
          simp only[au,aT,bg,bB,bw,ag,aR,bM];rw[kS (f_ (bE s) (η 0) (Ŷ 1 .ai eI r (pre++[s]))) (.ok (η s.1) _) S3,ag,FT Pt,ag,ag,hl]
          rfl
        · rw[Sw h2.y2 (by simp;rw[eu avR TM Pt]),aUL,List.map_set]
        · exact h2.put2 _
        · exact eV (aht (by rw[D8 1])) (tD (by rw[D8 2]))
      · rw[ī aa y rfl h1 f1]
        rw[D7 e1 (Pz [aD,cv,vc,y] d alB) hlen (B.greens.length≤16) (by
          rw[rV (Yk aCW o4) eH];omega) (kn (yl (η r) aa (ο 3) aa (η cg) aa (V! 3 .ai eI (iN B.greens cg r)) Ξ e1 ?_ ?_ (eQ (aA (tf a1v (h1.put3 _) (aht (by rw[D8 3])))))))]
        · simp[hs aa _ r h1 hr]
        · rw[ahE h1.y3 cg (by rw[ah7 uk hlen])]
          congr 3
          exact uj eI cg r _
  · rw[s9 ho (RS i) Mc ho hc]
    rw[ff (aq (lM ho)) (AA (P:=λq=>q=kG) ?_)];exact O8 M (dy (k_ rfl))
universe zE
universe Sb
universe zE
section
namespace Sb
open PySem L2
def aE9 gb [BEq α] [LawfulBEq α] TY ayf ayP b6(ha:a∈as):Jv (ς RJ) [Bu] M=.ok (η (as.idxOf a)) M:=by
 rw[Ej Jv];rw[RG _ (hp a),AJ];rw[afU (Sv (g:=Wf) λz hz=>by
  rw[Xd b hz (RG _ (hp b))])]
 have:((RJ).map Wf).findIdx? (yX q q (k? deep Bu))=aN (as.idxOf a):=by
  rw[List.findIdx?_map,List.findIdx?_map]
  have hf:(((yX q q (k? deep Bu))∘Wf)∘enc)=λb=>b == a:=by
   funext b
   rw[apd];rw[Bool.eq_iff_iff,adQ deep _ _ (hp b) (hp a),beq_iff_eq];rw[K4 (fD (inj _ _ e)) e (iZ e)]
  rw[hf];have fK:as.findIdx (λb=>b == a)<as.length:=List.findIdx_lt_length_of_exists ⟨a,ha,Ξ⟩;rw[List.findIdx?_eq_some_of_exists ⟨a,ha,Ξ⟩];rfl
 rw[this]
section
variable {C:gv}{Y:dK}{e:eL}{o:ek}{M:aS}{B:dM}{ρ:bu}{t:TB}
abbrev MU gI oi:dw:=match E? s s with
 |mD=>if(s.2.2,b)∈Y.ss then aAq (s.2.2,b) else none
 |none=>none
def a1a(q:Int×dw):Qa (aV [η q.1,aU q.2]):=by
 rw[RI y hy hy];rcases hy with rfl | rfl
 ·exact qc _
 ·cases q.2 with
  |none=>exact adL
  |some n=>exact qc _
def aZA(a b:Int×dw)(h:Xz (η a.1) (aU a.2)=Xz (η b.1) (aU b.2)):a=b:=by
 rw[apB a1 a2 a b1 b2 b];simp only[aj.tup.injEq,List.cons.injEq,aj.int.injEq,and_true]at h;rw[Qm h2 h];cases a2<;>cases b2<;>simp only[aU]at h2<;>first | rfl | (cases h2;rfl) | cases h2 | (injection h2 with h3;have h4:=Int.ofNat.inj h3;subst h4;rfl)
def a1b NZ{b:dw}{ss:sW}b6:ai6 (aV [η j,aU b]) kD M=.ok (.ah (i7 (j,b) (ss.map λs=>(s.1,xP s)))) M:=by
 have:=SD (neg:=false) (M:=M) (enc:=λq:Int×dw=>Xz (η q.1) (aU q.2)) a1a aZA (a:=(j,b)) (as:=ss.map λs=>(s.1,xP s)) (y:=kD) (by
  show qV M (ς iH)=_;rw[ac1,List.map_map]
  rfl)
 rw[zf]
def amz wK(h:w≠[]):Lp[0]? = Q7 (w.headD (0,0,0)):=by
 cases w with
 |nil=>rw[Q! h]
 |cons s w=>rfl
def ab5{tk:Int}{bX:D1}(h0:M[0]? = GS (yy Y tk))ax4(fg:aqR [])
  aKK:at8 C.tr C.aP bX [ο 0,oM] M=.ok (aU abh) M:=by
 rw[Ur at8 P q (q=.ok (aU abh) M) e1 (Uz ρ [aD,iY,none,none] d aG h1 SJ) (rO (bE (cn t.tr)) M)]
 ·rw[au,e1,ag,bg,ag];exact SG (i:=0) h2 (amz fg)
 rw[eB];generalize cn t.tr=s;rw[Wi e2 (aw7 (ρ:=[aD,iY,BW,none]) (d:=ak) h0 rfl YI) (aV [η s.2.2,aU (E? s s)]) M]
 ·unfold cA;simp only[bE]at e2;simp only[aR,bM,au,aT,bg,bP,bB,bw,ag,e2,bE,aea,S3,hb]
 rw[eB];rw[CC e3 (aw7 (ρ:=[aD,iY,BW,xZ [η s.2.2,aU (E? s s)]]) (d:=ak) h0 rfl au4) (tV (i7 (s.2.2,E? s s) (Y.ss.map λs=>(s.1,xP s))))]
 ·simp only[c_,au,aT,bB,bw,ag,e3,a1b]
 ·rw[Hx hk hk];rw[KM q hq eq hk]
  rw[eE e4 (s.2.2=q.1) (by have:=congrArg Prod.fst eq;exact this.symm) e5 (E? s s=xP q) (by have:=congrArg Prod.snd eq;exact this.symm) hm ((s.2.2,q.2)∈Y.ss) (by rw[az e4 hq]) hv (vS s=aAq (s.2.2,q.2)) (by rw[jW MU e5 (if_pos hm)])]
  rw[mC (HU (aU (vS s)) M (t8 (eP rfl))) hv];rw[f5 fI e3 ag];simp only[aR,bM,aT,bB,bw,ag];rw[az e5 (aE9 (enc:=fE) Zb adM (a:=(s.2.2,q.2)) hm)]
 ·rw[ï hk hk]
  rw[dX hv (b9 (vS s)) (by
   unfold MU;cases JX:E? s s with
   |none=>rfl
   |some b=>
    rw[agg (if_neg λhm=>hk ?_) JX (qK (s.2.2,b) hm)]) (c5 (xh .bb M ?_))];rw[hv];rfl
abbrev aub gI(d:P_ TB)qm:eL:=iE (aqb q (cE (vS (cn q.2.tr)) s)).map
def acs N2{ga:D1}pA(fg:afH q (q.2.tr.steps≠[]))
  (ha:∀yU M',M'[0]? = GS K2->GI M' = GJ->agb M'->aqR []->ga [ο 0,oM] M'=.ok (aU abh) M'):
  mx C.aP ga [ο 0,η s] M=.ok (jN (Ë Y s)) M:=by
 rw[Er mx P q (q=.ok (jN (Ë Y s)) M) (Bq ?_)];rw[aaH hi (av0 h.y5 (mJ [aD,er,none,none] ra)) aHB hi h.y5 hi ?_];rw[dX hz (rH (Oq 5 .bD) 5 .bD W!) arq (nQ aCB (pI (∃y z,ρ=[aD,er,y,z]/\M'=Oq 5 .bD/\apS (Cd (cE (vS (cn q.2.tr)) s)))) B.trains _ _ hi hz (iX none none rfl rfl) ?_ ?_)]
 ·rintro pre q post hx ρ M' ⟨y,z,rfl,rfl,g7⟩;refine qH
  have hq:asC q:=by rw[oB]
  rw[bI T (VC q hq) T' (aqE i 5 v (.bD W!) (Qy 5))]
  rw[cV e1 (ha q.2 _ Rk T'.mt T'.ms (fg q hq)) (G5 (fC (vS (cn q.2.tr)) (some s)) (Oq 5 .bD))]
  ·rw[c_,au,bP,aR,aT];dsimp only[List.set_cons_succ,List.set_cons_zero,bB,bw];rw[PJ ag aR];rw[ag,bM,ag,ag,ag,e1,ag,aT];rw[tG];rw[ag];cases hv:vS (cn q.2.tr) with
   |none=>
    rw[aaI none .bb,ajx p adL (qc _)]
    rfl
   |some s'=>
    rw[aaI (some s') (η s'),t_]
    rw[abq (s'=s)]
    ·rw[B5 e2]
    ·rw[aa3 e3 (aY s'=s) e2 e3]
  ·rw[mC (qL (η q.1) (Oq 5 .bD) rfl (al1 ⟨hz,t8 (eP ?_)⟩)) (M7 h.y5)];unfold aub;rw[hx,List.find?_append,g7,List.find?_cons,hk];rfl
  ·rw[s_ (Ĝ hz _ rfl ?_)];rw[List.find?_append,g7,List.find?_cons,hk];rfl
 ·rw[GW M' y z rfl rfl g7];rw[fy hz (agf .bb M (by rw[M7 h.y5];rfl) (eP ?_))];rw[Ri aub g7]
def ab6 gc iU(hs:yV):akH C.cI C.aP [ο 0,η x] M=match p0 with
  |fm=>.ok oM M
  |none=>kG:=by
 rw[Ur akH P q (q=match p0 with | fm=>.ok oM M | none=>kG) e1 (mJ [aD,aX] ra) (gV (tV (!(tE p0))))]
 ·rw[PJ c_ au];rw[ag,e1,ag,V1 h.y5 k zl,AL];simp
 ·have e3:=aeE (M:=M) (y:=ο 0) hs;rw[vM fV e3];refine Po;cases ht:p0 with
  |none=>rfl
  |some t=>rw[nt ht hk hk]
 ·cases ht:p0 with
  |none=>rw[nt ht hk hk]
  |some t=>
   rw[s_ (Ŏ oM M)];rw[au,e1,ag,aT];rw[agu ag (V2 h.y5 k zl (by rw[AL,ht];rfl))]
def aXq gc{fF bS:D1}pA(hn:ajZ)(hl:aiJ q q.2)
  (hc:bS [ο 0,η x] M=match p0 with | fm=>.ok oM M | none=>kG)
  aKG:
  Sa fF bS [ο 0,η x] M=match p0 with
  |fm=>.ok (jc Qc) M
  |none=>kG:=by
 rw[mu Sa P q (q=match p0 with | fm=>.ok (jc Qc) M | none=>kG)];cases ht:p0 with
 |none=>
  rw[ht]at hc;unfold bZ
  have:ay fF [ay bS [ak,aG]] [aD,aX] M=kG:=by
   simp[hc]
  rw[az this (k_ rfl)]
 |some t=>
  rw[ht]at hc;rw[bI hm (AK ht) T (VC _ hm)];exact Et (jc Qc) M (fQ hc (hu t M T.mt T.ms (hl _ hm)))
def aRa m_ oi(d:DV):MZ (w++[s]) d=iM (MZ w d) s.1:=by rw[Ă MZ]
def Zd DE{mf dk:br}o! DK DG DC(v:aj)aKt(hn:GF .ai)(hk:dk ρ M=.ok y M)(hy:iR y=fc)(hv:D3=fq)(q:Q (.nx ρ (iK n .ai (va kvs k)))):Q (mP (Nc mf dk) ρ M):=by
 refine x8 v (iK n .ai (va kvs k)) q;rw[agV Nc ho ag (oW hn)];rw[hk,ag,oW hn,hy];rw[ku hv]
def aFq wK{xv:aj}{wt:q3}iU ays(hv:dc aG [aD,some xv,none] M=.ok (Lp,wt) M)(hc:sF wt M)
  (hk:∀(aa:aS) v,sF wt aa->sF wt (aa.set 1 v)):ahw (Ys C.aP [ο 0,xv] M=.ok .bb M') M' B w (BK/\w9/\∀i,i≠1->M'[i]? = M[i]?):=by
 rw[Er Ys P q (ahw (q=.ok .bb M') M' B w (BK/\w9/\∀i,i≠1->M'[i]? = M[i]?)) (nQ bE (LA aa (∃y,ρ=[aD,some xv,y]/\eG C Y e o aa (afA B pre)/\E9 aa/\af3 aa.length/\sF wt aa/\∀i,i≠1->aa[i]? = M[i]?)) w wt M hv hc ⟨none,rfl,h,kK.refl,rfl,hc,ajF⟩ ?_ ?_)]
 ·rintro pre s post hx ρ aa ⟨y,rfl,h1,f1,l1,c1,g1⟩;rw[vd];rw[fS e1 (Pz [aD,some xv,BW] d alU) hs (s.1∉aM0) (λhm=>by
   rw[hx,List.map_append,List.nodup_append]at hn;exact hn.2.2 s.1 hm s.1 Ξ rfl)]
  have hv:=hl s.1 (by rw[oB]);rw[UC v hv hv];refine Zd (k:=jX s.1) (y:=η s.1) (η v) e1 h1.y1 H8 rfl ?_ (MS (hk _ _ c1) ⟨_,rfl,?_,aht (by rw[D8 1]),by rw[ñ l1],hk _ _ c1,kj (aiV (hi e.symm) (g1 i hi))⟩)
  ·rw[t!,ak4,if_neg hs,hv];rfl
  ·rw[eu alb aRa (h1.acx _)]
 ·rintro ρ' aa ⟨y,rfl,h1,f1,l1,_,g1⟩;exact eQ ⟨aa,rfl,h1,f1,l1,g1⟩
def ac8 wK iU ays:
  ahw (Ys C.aP [ο 0,bF w] M=.ok .bb M') M' B w (BK/\w9/\∀i,i≠1->M'[i]? = M[i]?):=
 aFq (wt:=none) h hn hl OG trivial λ_ _ _=>trivial
def aUM wK{a:Nat}iU ays(ha:D5 a Lp)(h1:a≠1):
  ahw (Ys C.aP [ο 0,ο a] M=.ok .bb M') M' B w (BK/\w9/\∀i,i≠1->M'[i]? = M[i]?):=
 aFq (wt:=nu a (ς Lp)) h hn hl (SS rfl ha) ha λaa v hc=>aiV (h1 e.symm) hc
def aIQ iC Be(hr:yW 1 qw):nN (CM nv) ρ M=.ok () M:=by
 have h:=kz hi.1 hi.2;simp only[nN,aT,hr,ag,h,if_true]
def acB{u:Int}{v:aj}:nz C.fa [dO,η u,v] (M++[cQ C.fa []])=.ok .bb (M++[cQ C.fa [z0 u,Ŗ v]]):=by
 rw[mu nz P q (q=.ok .bb (M++[cQ C.fa [z0 u,Ŗ v]]))]
 rw[ko put (∀DE Gy{dv:br}{ρ:bu}(y:aj)(fs Pm:rY),yW 0 g?->dv ρ (M++[cQ C.fa fs])=.ok y (M++[cQ C.fa fs])->afG->C9 f y fs=Pm->Q (.nx ρ (M++[cQ C.fa Pm]))->Q (wc C.fa f ak dv ρ (M++[cQ C.fa fs]))) (λy fs Pm h0 h hl hf q=>by
  unfold wc;rw[h,Res.oS,aT,h0,Res.oS,Jt (C:=C.fa) (fs:=fs) Ξ];dsimp only;rw[arV,hf,avo];exact q) (put (η u) [] [z0 u] rfl Ξ (by rw[h_ 0]) bU fB)];exact put v [z0 u] [z0 u,Ŗ v] rfl Ξ (by rw[h_ 1]) bU Ae
def eG.fall pA fX{u:FB}(hr:r∉rK)(hu:af3 u.ob):
  Hz (Xv r) ((M++[aA3 (uA u)]).set 4 (.ai (Xb (Vi r u)))) (G2 falls (Vi r u)):=by
 rw[fS hp (h.push (cQ C.fa (uA u)) (Pd r)) h5 (rE 5) (qN h.y5)];have g:∀i,5<i->((M++[aA3 (uA u)]).set 4 (.ai (Xb (Vi r u))))[i]? = (M++[aA3 (uA u)])[i]?:= kj (p_ av);refine⟨kB hp.y0,kB hp.y1,kB hp.y2,kB hp.y3,get_set hp.y4,kB hp.y5,hp.lo,kj (hp.hi i W8),dz q hq,cP q hq he⟩
 ·rw[s9 hq (q∈Vi r u) hq (aF1 hr) hq];rcases aMy with hq | hq
  ·have:=hp.qg q hq;rw[b7 this.1 (Mv _ (aqc this.1) this.2)]
  ·rw[Lh hq hq];rw[V7 hu Jk (Mv _ h5 Ξ)]
 ·have T:=hp.avi q hq he;exact Ih (Mv _ (aqc T.ot) T.mt) (Mv _ (aqc T.os) T.ms) (Mv _ (aqc T.oa) T.ma)
def ac7 iC aJV{W:b5}{sx:O5}{C8:tP}pA Be GB(I:afz W)ZR(yN:apR)(TN:XX r (Hu cg))
    aJn
    aKJ
    (ht:∀M B' qm,BA M B'->B'.trains=B.trains->uX->gt [ο 0,η s] M=.ok (jN (Ë Y s)) M)
    (hb:∀M B qm,ru->uX->bX [ο 0,η s] M=.ok (.ah k9) M)
    (hf:∀cT(u:Int)(v:aj),oV [dO,η u,v] (M++[cQ C.fa []])=.ok .bb (M++[cQ C.fa [z0 u,Ŗ v]]))
    aI6
    aKL:
    (RS i/\Yr C.fa C.cI C.aP bS gs gt bX oV fF gE [ο 0,η i] M=kG)\/∃r:Nat,i=r/\lI ∧
      ((Lj r/\Yr C.fa C.cI C.aP bS gs gt bX oV fF gE [ο 0,η i] M=kG) ∨
       (tn/\((gJ (tW&&(Wn Y||kh))/\uR (Yr C.fa C.cI C.aP bS gs gt bX oV fF gE [ο 0,η i] M=.ok .bb M') (Hz (Xv r) M' (amK Y.rs B r (ath zq Y))) (Iz (Xv r)))
          \/ qI (tW&&(Wn Y||kh))/\CV (Yr C.fa C.cI C.aP bS gs gt bX oV fF gE [ο 0,η i] M=.ok .bb M') (alN Y.rs B r)))):=by
  rw[Vb Yr ho (Kv i)]
  · rw[ho]at hc
    rw[zx r hr ho]
    rw[ff (aA (rC r hr ?_)) (AA (P:=λq=>(Lj r/\q=kG) ∨
       (tn/\((gJ (tW&&(Wn Y||kh))/\uR (q=.ok .bb M') (Hz (Xv r) M' (amK Y.rs B r (ath zq Y))) (Iz (Xv r)))
          \/ qI (tW&&(Wn Y||kh))/\CV (q=.ok .bb M') (alN Y.rs B r)))) ?_)]
    simp only[cZ,zD,zE,yE,Nat.zero_add,Nat.reduceAdd,Nat.reduceSub,List.replicate,Dd,wC,mV];rw[CD (č .bb M (aK hc)) (abl cg (aK (hs M B r h hr)))];rw[ags iy (TN r hr) e1 (mJ [aD,cv,Wg,none] alB)]
    rw[Lr a3e (adI (U_ "greens") aH [aD,cv,Wg,none] M=.ok (aU (HA cg)) M) (by
      rw[agV adI e1 ag (oW h.y3)];rw[PO];rw[oW h.y3];rw[rP iR t!];cases HA cg<;>rfl) hgr (HA cg=jZ↔tn) (by
      rw[S.greens];rw[K4 (λa=>a.1) a (lS a)]) (tV (!(i7 r W.green)))]
    · rw[c_,au,a3e]
      rw[PO];cases e:HA cg with
      |none=>
        have:Lj r:=λh=>by rw[hgr.mpr h]at e;cases e
        rw[aaI none .bb,ajx p adL (qc _)]
        simp[this]
      |some r'=>
        rw[aaI (some r') (η r'),t_]
        rw[abq (r'=r)]
        · rw[Xx e2 (hgr.mp e)];simp[this]
        · have:Lj r:=λh=>by rw[hgr.mpr h]at e;cases e;exact e2 rfl
          rw[aa3 e3 (aY r'=r) this e3]
    · have hk:Lj r:=pL
      have e3:=aIQ (M:=M) (ρ:=[aD,Wh r,Wg,none]) hi rfl
      rw[vM fV e3];exact dy (k_ (Ik hk))
    · have hk:tn:=pL
      rw[cV hg (hgr.mpr hk) (c5 (uV (Zd (k:=jX cg) (y:=η cg) (η r) e1 h.y3 Ξ rfl (by rw[t!,hg];rfl) fB)))];rw[alb];rw[zp h1 (h.put3 Vl) f1 (E9 (Ż 3 .ai eI)) (tD (by rw[D8 3])) l1 (ahp (Ż 3 .ai eI)) List.length_set]
      generalize Ż 3 .ai eI=aa at h1 f1 l1;refine jE (jN (agW Y)) aa (aK (ht aa _ cg h1 rfl iy));generalize hnr:agW Y=fH;rw[ags e2 (Pz [aD,cv,Wg,aij fH] d aZt) e4 (Pz [aD,cv,Wg,aij fH] d alT)];rw[cV JX (hb aa _ cg h1 iy) (H? (tW&&(fH.isSome||kh)) aa)]
      · cases fH with
        |none=>
          simp only[jN]at e2⊢;simp[e2,gR,JX];by_cases akF:0<Y.wait<;>simp[akF]
        |some x=>
          simp only[jN]at e2⊢;simp[e2,gR,JX];by_cases akF:0<Y.wait<;>simp[akF]
      · rw[bq a4s (r∉rK) (by rw[b! S.alh (I.A_ r hk)]) yO aLK (by
          rw[jm h1 (Yk (n:=Y.rs.length) (l:=rK) (by rw[asG]) (CX (I.own x (aA (by rw[Ĥ hx]))).1)) eH h1];omega)]
        rw[fS h2 (h1.fall (u:=⟨zq,fH,aa.length⟩) a4s rfl) e5 (C? C.fa oV [(nD (U_ "ticks") (U_ "wait")),bH] [aD,cv,Wg,aij fH] aa=.ok Xe (aa++[cQ C.fa [z0 zq,aaO fH]])) (by
          unfold C?;simp only[aR,bM,au,e2,e4,ag,aT,bB,bw];rw[V8 (I8 (sq false (η _) (η _) aa) .ok (η zq) aa)];rw[hf,ag])]
        rw[rM hp (h1.push (cQ C.fa [z0 zq,aaO fH]) (Pd r)) e6 (hp.fld (ρ:=[aD,cv,Wg,aij fH]) (d:=ak) rfl adp) (yl Xe _ (ο 4) (aa++[cQ C.fa [z0 zq,aaO fH]]) (η r) (aa++[cQ C.fa [z0 zq,aaO fH]]) _ e5 e6 Ξ (ahE hp.y4 r (by rw[ah7 uk yO])) (eQ (r? hk (aq (tf cS ?_ ?_)))))]
        · rw[l1]at h2⊢
          have:jw š (jX r) dO=Xb (Vi r (azz zq fH)):=uj Ji r (azz zq fH) B.falls;rw[Wu (Hz _ (List.set _ 4 (.ai (jw š (jX r) dO))) _) this h2]
        · rw[s9 f2 (kK o aa (arp o (Pd r)) (aa++[cQ C.fa [z0 zq,aaO fH]])) kK.push l1 f2];rw[gh l1 (agZ f2 (tD (by rw[mI (by rw[fZ (qN h.y5)]),Qy 4];nofun)))]
      · have axR:aqj (iE (cX).map) GK:=lR (by
          rw[jm h1 (RQ (aq hk)) (U1 (ajN r p hp)) h1];cases akz:GK with
          |none=>rw[akz]at h1;cases h1
          |some _=>rfl)
        obtain⟨M2,u1,u2,u3,u4,_⟩:=hu aa _ cX h1 (aap r) axR
        refine x8 .bb M2 (eQ (r? hk (aA (mw cS M2 u2 (f1.trans u3)))));simp[hw aa _ r h1 hr,u1]
  · rw[s9 ho (RS i) Mc ho hc]
    rw[ff (aq (lM ho)) (AA (P:=λq=>q=kG) ?_)];exact O8 M (dy (k_ rfl))
universe zE
universe Sb
universe zE
end
mutual
section
namespace Sb
open PySem L2
section
variable {C:gv}{Y:dK}{o:ek}{M:aS}{B:dM}{ρ:bu}
def aFr fX:∀ZN,r∉rs->b4 (U4 W).falls r=G9 r
 |[],W,_=>rfl
 |x::rs,W,h=>by
  rw[List.foldl_cons,aFr rs _ (Pj HW)]
  unfold nO;split
  ·rw[M4,ajg HW]
  ·rfl
def aFa{cR:uO}fX:∀(rs:gf)oh,r∉rs->b4 (rs.foldl (nU cR) B).falls r=b4 B.falls r
 |[],B,_=>rfl
 |x::rs,B,h=>by
  rw[List.foldl_cons,aFa rs _ (Pj HW)]
  unfold nU;split
  ·rw[M4,ajg HW]
  ·rfl
def aEy:∀ZN,(U4 W).now=W.now
 |[],W=>rfl
 |x::rs,W=>by rw[List.foldl_cons,aEy rs,aFn]
def FX gb{xs pre post:ry}{x:α}(h:xs.Nodup)(e:xs=pre++x::post):x∉pre:=λhm=>by
 rw[e,List.nodup_append]at h;exact h.2.2 x hm x Ξ rfl
def aXr{u:FB}:kZ (uA u) (Str.ofString "until")=cJ u.u:=bU
def aXs{t t':Int}:C9 "ticks" (η t') (yy Y t)=yy Y t':=bU
def adv{fF gE:D1}{W:b5}{sx:O5}{C8:tP}pA GB(I:afz W)ZR ZU(yN:apR)
  aI6
  aKL:
  CV (au8 C.fa C.aP fF gE [ο 0] M=.ok .bb M') (aef Y.rs B):=by
 rw[Ur au8 P q (CV (q=.ok .bb M') (aef Y.rs B)) e1 (mJ [aD,none] alT) (Bq ?_)]
 have ep:wc C.aP "ticks" ak (ì (U_ "ticks") (Θ 1)) [aD,none] M=.nx [aD,none] (QW 0 (cQ C.aP (yy Y (LI 1)))):=by
  unfold wc;rw[au,e1,ag,bg,ag,I8 (sq false aj7 (η 1) M) .ok (η (LI 1)) M,Res.oS,pY 0 [aD,none] M .ok (ο 0) M,Res.oS,Jt h.y0]
  rw[đ (kR (by rw[h_ 10])) aXs]
 rw[xg ep fB];rw[agO h1 (h.a3c (LI 1)) f1 (E9 (QW 0 (cQ C.aP (yy Y (LI 1))))) (tD (by rw[D8 0])) (QW 0 (cQ C.aP (yy Y (LI 1)))) aa h1 f1]
 rw[gM kO (gC rK) (by rw[asG]) fK (∀r∈rK,lI) (λr hr=>(ou (aA (by rw[Ĥ hr]))).1) hlen aLK (by
  rw[jm h1 (Yk kO fK) eH h1];omega)]
 rw[D7 e2 (Pz [aD,none] d adp) ei (ay Ln [agc] [aD,none] aa=.ok (ς ((rK).map (ED (r:Nat) r))) aa) (by
  rw[bP,aR,e2];rw[qG bM]
  rw[Cr SA (oW h1.y4)]
  have e3:(š).map (λq=>AS q.1)=(rK).map (ED (r:Nat) r):=by
   rw[aqt encD];rfl
  rw[En ((G2 ticks (LI 1):dM).falls=B.falls),e3,f6 (by rw[ahy hlen])]) (CI (ED (r:Nat) r) (LA M2 (∃y,ρ=[aD,y]/\BA M2 (pre.foldl (nU Y.rs) (xi B))/\E9 M2)) rK aa (ja ei) (rC none h1 f1))]
 ·rintro pre r post hx ρ M2 ⟨y,rfl,h2,f2⟩
  rw[vd];have hr:lI:=fK r (by rw[oB])
  rw[oO NY (FX kO hx) bk (aEw R pre _ (al3 I)) cN (aEx R pre _ _ (al3 I) (Mo S))];rw[bq JL (b4 (pre.foldl (nU Y.rs) (xi B)).falls r=b4 B.falls r) (aFa pre _ NY) axS (r∈rK) (by rw[oB])]
  rw[UC u Gg ((ahO _).mp axS)]
  have a4v:G9 r=aN (JK Y.rs C8 r u):=by rw[S.falls,Sn,Gg];rfl
  rw[zp a2T (D _ (AK a4v)) aeF ((pre.foldl (nU Y.rs) (xi B)).ticks=z_) (by rw[cN.ticks,aEy];rfl) hq ((r,u)∈(pre.foldl (nU Y.rs) (xi B)).falls) (AK (j0 JL Gg))];rw[oO hf (h2.qg _ hq).2 e3 (apY ρ [aD,cv] d rfl adp) e4 (apY ρ [aD,cv] d rfl alT)]
  rw[eE e5 (K6 agc aG [aD,cv] M2=.ok (ο u.ob) M2) (by
   rw[au,e3,ag];rw[PO];exact V2 h2.y4 k (jX r) (by rw[t!,JL,Gg];rfl)) e6 (cm C.fa "until" (om agc) [aD,cv] M2=.ok (η u.u) M2) (by
   unfold cm at e5⊢;rw[e5,ag,Jt hf];rw[ku aXr];rfl) xn (nU Y.rs (pre.foldl (nU Y.rs) (xi B)) r=(pre++[r]).foldl (nU Y.rs) (xi B)) (by rw[List.foldl_append];rfl) JP (Zr (pre.foldl (nU Y.rs) (xi B)).falls (pre.foldl (nU Y.rs) (xi B)).ticks r=fC u.u z_) (by
   rw[agV Zr JL Gg aeF];refine decide_eq_decide.mpr ⟨ck h,ck h⟩
   ·rw[Fj (W.now<u.u) a2T]
   ·omega)]
  refine G5 (fC u.u z_) M2
  ·rw[c_,au,e6,ag,e4,ag,aeF,t_];rfl
  ·rw[ko axR (aqj (iE (cX).map) (b4 (pre.foldl (nU Y.rs) (xi B)).locks p)) (lR (by
    rw[Ů ZB (r∈iE (Mn W).falls.map) (by rw[cN.alh,mem_keys,JL,Gg];rfl) h1 (bk.lock (aA ZB) hp) (cN.locks p (ajN r p hp)) h1];cases akz:b4 (pre.foldl (nU Y.rs) (xi B)).locks p with
    |none=>rw[akz]at h1;cases h1
    |some _=>rfl)) (Zd (k:=jX r) (y:=η r) (ο u.ob) e3 h2.y4 Ξ rfl (by rw[t!,JL,Gg];rfl) fB)];rw[alb];rw[agO h3 (h2.aIP r) f3 (E9 (ER 4 .ai (Xb (iM (pre.foldl (nU Y.rs) (xi B)).falls r)))) (ahU (tD (by rw[D8 4]))) (ER 4 .ai (Xb (iM (pre.foldl (nU Y.rs) (xi B)).falls r))) bJ h3 f3];obtain⟨lE,u1,u2,u3,u4,_⟩:=hu bJ _ cX h3 (aap r) axR
   refine nL .bb lE (fQ (hw bJ _ r h3 hr) u1) (ahj _ ?_ (f3.trans u3));rw[←xn];rw[jW nU (kR (by rw[Pn (aO (Zr _ _ _)) aA4])) u2]
  ·rw[s_ (ahj _ ?_ f2)];rw[←xn];rw[jW nU (HF hc (by rw[aAC fj hc hk fj];cases fj)) h2]
 ·rw[ī M2 y rfl h2 f2];exact eQ (rC M2 h2 f2)
@[simp] def aXt{neg b:Bool}:OE (ir b) gm M=.ok (.ah (yZ b b)) M:=by cases b<;>cases neg<;>with_unfolding_all rfl
def adi iC{bS iP:D1}{ti:tP}pA(TM:aBy)
    aJ5
    aJg:
    (dQ (G? i)/\acR C.aP bS iP [ο 0,η i] M=kG)\/∃p:Nat,i=p/\w7/\I2 ∧
      ((gJ (zL||ti p)/\acR C.aP bS iP [ο 0,η i] M=bG C.he M) ∨
       (qI (zL||ti p)/\CV (acR C.aP bS iP [ο 0,η i] M=.ok .bb M') (adZ B p))):=by
  rw[Vb acR ho (G? i)]
  · rw[ho]at hc
    have A3:=aLB;rw[zx p hp A3.1]
    rw[ff (aA (Fp p hp (bh A3.2) ?_)) (AA (P:=λq=>(gJ (zL||ti p)/\q=bG C.he M)\/(qI (zL||ti p)/\CV (q=.ok .bb M') (adZ B p))) ?_)]
    simp only[cZ,zD,zE,yE,Nat.zero_add,Nat.reduceAdd,Nat.reduceSub,List.replicate,Dd,wC,mV];rw[IA (K9 .bb M (aK hc)) e (hn p hp)];rw[rA hh (zL||ti p)]
    · rw[bV (if_pos hh) e (gV (acL C.he M HW (dy (k_ (Ik hh)))))]
    · rw[if_neg hh]at e
      rw[oA (K9 .bb M HW) o5 (ag3 p) (by rw[Md TM])]
      rw[D7 e1 (mJ [aD,kH] FR) e2 (E6 (U_ "lying") aG [aD,kH]=.ok (ir (K1 p)) M) (by
        rw[au,e1,ag];rw[PO];exact SG h.y2 (by rw[azC eX o5];rfl)) (Xn (ir (!(K1 p))) M (ο 2) M (η p) M (sf 2 ((aBR (!(K1 p))).map ir)) e1 (j0 (Sw h.y2 (bh o5)) List.map_set) (eQ (aA (tf (bh hh) (h.put2 _) (tD (by rw[D8 2]))))))];rw[YZ,c_,au,e2,ag,bg,ag,aXt,ag,ag];cases K1 p<;>rfl
  · rw[s9 ho (dQ (G? i)) Mc ho hc]
    rw[ff (aq (lM ho)) (AA (P:=λq=>q=kG) ?_)];exact O8 M (dy (k_ rfl))
universe zE
universe Sb
universe zE
section
namespace Sb
open PySem L2
section
variable {C:gv}{Y:dK}{e:eL}{o:ek}{M:aS}{B:dM}{ρ:bu}{t:TB}
abbrev AQ gI Ui qm:dw:=match HA s with
 |jZ=>jZ
 |none=>iE (B.falls.find? λq=>Ņ q.1 s&&(Xg q.2.fH||k9)).map
def aH9{u:FB}:kZ (uA u) (Str.ofString "near")=aij u.fH:=bU
def a1c{i j:Int}aoo Be(hj:l8 j):nN [none,nv,none,Mr] [y,qw,oG,z,w] M=.ok () M:=by
 rw[bI h (kz hi.1 hi.2) h2 (kz hj.1 hj.2)];simp only[nN,aT,bB,bw,ag,h,h2,if_true]
def aRb gc{bX gs:D1}Bf:ab2 C.fa C.rd C.aP bX gs [ο 0,η x,.bb] M=bG C.rd M:=by
 rw[Er ab2 P q (q=bG C.rd M) (gV (JJ M Ξ ?_))];have e3:=aIQ (M:=M) (ρ:=[aD,aX,Ag,none,none]) hx rfl;rw[vM fV e3];exact dy (k_ rfl)
def acu gc N2{bX gs:D1}iU Bf(TP:l8 s)(fK:∀r∈rK,lI)
  aKF
  (hb:∀M',M'[0]? = GS K2->bX [ο 0,η s] M'=.ok (.ah k9) M'):
  ab2 C.fa C.rd C.aP bX gs [ο 0,η x,η s] M=match AQ Y B x s with
  |jZ=>.ok (η r) M
  |none=>bG C.rd M:=by
 rw[Er ab2 P q (q=match AQ Y B x s with | jZ=>.ok (η r) M | none=>bG C.rd M) (gV (acp M Ξ (c5 Pu)))];rw[cV e1 (mJ [aD,aX,er,none,none] alB) (tV (atc s))]
 ·rw[PJ c_ au];rw[ag,e1,ag,V1 h.y3 k (jX s),t!];simp
 ·rw[UC r hr hk]
  rw[dX hp (AQ Y B x s=jZ) (by rw[dJ AQ hr]) (HU (η r) M (t8 (eP (iZ hp))))];rw[au,e1,ag,aT];rw[agu ag (V2 h.y3 k (jX s) (by rw[t!,hr];rfl))]
 ·rw[vI hg (b9 (HA s)) pL hp (AQ Y B x s=iE (B.falls.find? λq=>Ņ q.1 s&&(Xg q.2.fH||k9)).map) (by rw[dJ AQ hg]) (c5 Pu)];rw[aaH hi (av0 h.y4 (mJ [aD,aX,er,none,none] adp)) aXp hi h.y4 hi ?_];rw[eE hz (ajs (aaz 4 .bD) 4 .bD) aBg aC2 ((aaz 4 .bD)[0]? = GS K2) Rk aOP (Qn q ((aaz 4 .bD)[q.2.ob]? = aio (uA q.2))) (λq hm=>za (by rw[Hi (h.qg q hm).1]) (h.qg q hm).2) aCQ ((aaz 4 .bD).set 4 (.ai š)=M) (M7 h.y4)];generalize aaz 4 .bD=aa at hi hz aC2 aOP aCQ;refine nQ aOc (pI (∃y z,ρ=[aD,aX,er,y,z]/\M'=aa/\apS (λq=>Ņ q.1 s&&(Xg q.2.fH||k9)))) B.falls _ _ hi hz (iX none none rfl rfl) ?_ ?_
  ·rintro pre q post hq ρ M' ⟨y,z,rfl,rfl,g7⟩;refine qH
   rw[bq hm (q∈B.falls) (by rw[gp hq]) hr (q.1<Y.rs.length) (fK _ (qK q hm))];rw[bI ad4 (aOP q hm) e2 (hs _ q.1 aC2 hr)]
   rw[cV e3 (hb _ aC2) (G5 (Ņ q.1 s&&(Xg q.2.fH||k9)) M')]
   ·rw[bq e4 (n9 (kX (ay gs [ak,bH]) aH) [aD,aX,er,vN,cF q.2.ob] M'=.ok (Ņ q.1 s) M') (by
     rw[c_,au,bP];simp only[aR,bM,aT,bB,bw,ag,e2,t_];by_cases lZ:QT q.1=s
     ·simp[lZ]
     ·have ako:¬(aY (QT q.1)=aY s):=fD (lZ aqA);simp[lZ,ako]) e5 (n9 (kX (ah1 C.fa bY) aG) [aD,aX,er,vN,cF q.2.ob] M'=.ok (Xg q.2.fH) M') (by
     have e6:cm C.fa "near" bY [aD,aX,er,vN,cF q.2.ob] M'=.ok (jN q.2.fH) M':=by
      rw[dJ cm aT];rw[tG];rw[ag,Jt ad4];rw[ku aH9];rfl
     rw[c_,au,e6,ag,aT];rw[tG];rw[ag];cases q.2.fH with
     |none=>rw[vg (jN none) .bb,ajx p adL (qc _)];rfl
     |some y=>rw[vg (jN zg) (η y),t_];rw[xx lZ y x lZ])]
    show wj _ _ [aD,aX,er,vN,cF q.2.ob] M'=_;simp only[Jo,yn,e4,e5,ag];rw[B4 (QT q.1=s)]
    ·rw[Rx (q.2.fH=gB)]
     ·simp[h1,h2]
     ·simp[h1,h2,e3,gR]
    ·simp[h1]
   ·refine qL (η q.1) M' rfl (al1 ⟨hz,t8 (eP ?_)⟩);rw[aCQ,hp,hq,List.find?_append,g7,List.find?_cons,hk];rfl
   ·rw[s_ (Ĝ hz _ rfl ?_)];rw[List.find?_append,g7,List.find?_cons,hk];rfl
  ·rw[GW M' y z rfl rfl g7];rw[fy hz fB];have e3:=a1c (M:=M) (y:=aD) (z:=y) (w:=z) hx TP;rw[aCQ];rw[vM fV e3];refine k_ ?_;rw[hp,g7];rfl
universe zE
universe Sb
universe zE
section
namespace Sb
open PySem L2
section
variable {C:gv}{Y:dK}{e:eL}{o:ek}{M:aS}{B:dM}{ρ:bu}{t:TB}
def aZB bf gy dH(h:D5 n (x::xs)):BM (ο n) [η 0] M=.ok x (Qt n xs):=by
 rw[Ej BM];rw[Cr jP h]
 have e:cE (F_ (di (x::xs)) 0) 0:=by unfold F_;simp
 rw[e];rw[ku bw];rw[ku (if_pos aC)];rfl
def aXu bf gy dH ae4(hl:aiR lim):alK (ο n) [η 0,x] M=.ok .bb (sf n (x::xs)):=by
 unfold alK jP;rw[rP h arV]
def ama{f:sL}e7 wO anT bf aeU(hn:M[n]? = kQ ys)(ha:vQ=.ok xs M):fI f d ds ρ M=f (ο n) xs M:=by
 rw[f5 fI hd ag]
 have:lQ (ο n)=IB:=by unfold Yn;simp only[hn]
 rw[vL this];rw[ha,ag]
def acM gc{s:eJ}{a:iz}{fF:D1}(h:IT)aon(ha:ahR (s::a))(hl:aa2 s.1)(iy:GU)
  (hu:∀M B,IT->aa2 s.1->uR (fF [ο 0,bF [s]] M=.ok .bb M') (eG C Y gB o M' (afA B [s])) (BK/\w9/\∀i,i≠1->M'[i]? = M[i]?)):
  uR (auD C.tr fF [ο 0,oM] M=.ok .bb M') (eG C Y gB o M' (Q4 B (LP s.1))) (Bw M' (air s a)/\BK/\w9):=by
 rw[mu auD P q (uR (q=.ok .bb M') (eG C Y gB o M' (Q4 B (LP s.1))) (Bw M' (air s a)/\BK/\w9))]
 rw[bI e1 (Uz ρ [aD,iY,none] d aG T.mt awk) hma T.ma];rw[ha,cZ]at hma;rw[zh (bE s) (WG Ea)]
 ·rw[az (ama e1 hma (xs:=[η 0]) rfl) (aZB hma)]
 rw[eB];have h1:=h.own (v:=ς Ea) (aA (aA T.oa));rw[eE k1 (GI (WG Ea) = GJ) (xN T.oa T.ot T.mt) k2 (agb (WG Ea)) (xN T.oa T.os T.ms) k3 (Ez (WG Ea) t.sj Ea) (get_set T.ma) f1 (E9 (WG Ea)) (tD (by rw[tR T.oa]))];have l1:ahp (WG Ea):=List.length_set;generalize WG Ea=aa at h1 k1 k2 k3 f1 l1;obtain⟨M2,u1,u2,u3,u4,aPi⟩:=hu aa B h1 hl
 refine K9 .bb M2 ?_
 ·have e2:Lo [aH] [aD,iY,BW] aa=.ok (bF [s]) aa:=by
   unfold yi;simp only[aR,bM,aT,bB,bw,ag];rfl
  rw[bP];simp only[aR,bM,aT,bB,bw,ag,e2];exact u1
 rw[gM j1 (GI M2 = GJ) (Į _ (by rw[Hi T.ot]) k1) j2 (agb M2) (Į _ (by rw[Hi T.os]) k2) a4y (Ez M2 t.sj Ea) (Į _ (by rw[Hi T.oa]) k3)];rw[cV e3 (Uz ρ [aD,iY,BW] d aG j1 SJ) (x8 .bb (ER t.so ς (bE s::QY)) (eQ ⟨_,rfl,?_,Ih ?_ ?_ ?_,agZ u3 (tD (by rw[tR T.os])),by rw[List.length_set,u4,l1]⟩))]
 ·rw[az (ama e3 j2 (xs:=[η 0,bE s]) rfl) (aXu j2 (by rw[qs (UE iy)]))]
 ·exact u2.own (aA (aq T.os))
 ·exact xN T.os T.ot j1
 ·exact get_set j2
 ·exact xN T.os T.oa a4y
def aUN{κ α:Type} [BQ] afs(h:b9 (b4 d k)):iM d k=d:=by
 rw[zM iM (List.filter_eq_self.mpr (r! (decide_eq_true (ck e))))];have:k∈qC:=afR q hq e;rw[mem_keys,h]at this;cases this
def av1 gb{mf dk dx:br}bf{en:aki α}{d:Bv α}dU{z:aj}aKt(hn:M[n]? = RM .ai en d)(hk:dk ρ M=.ok (η k) M)(hx:dx ρ M=.ok z M):
  ∃v,adJ mf dk dx ρ M=.ok v (iK n .ai (zj en (iM d k))):=by
 rw[agV adJ ho ag (oW hn)];rw[hk,ag,hx,ag,oW hn];rw[rP iR t!];cases e:b4 d k with
 |none=>
  rw[fy z ?_];rw[aUN e,avV hn];rfl
 |some v=>rw[g4 (by rw[alb];rfl)]
abbrev awy n!(bS:D1):Prop:=∀gS DL oh yU oi(a:iz),IT->Bw M t->ahR (s::a)->aa2 s.1->GU →
 uR (bS [ο 0,oM] M=.ok .bb M') (eG C Y gB o M' (Q4 B (LP s.1))) (Bw M' (air s a)/\BK/\w9)
def aHa bf:C9 "ahead" (ο n) EW=agT t.tr n:=bU
def acg gc fX{s:eJ}wK{gs gE bS:D1}(h:IT)aon Ud(e9:cX=s::w)(qi:Xf)(hl:aa2 s.1)(iy:GU)
  aKF
  (hw:∀M' fM,M'[0]? = GS K2->lI->gE [ο 0,η r] M'=.ok l? M')ayN:
  Ew (lp C.tr C.aP gs gE bS [ο 0,oM,η r] M=.ok .bb M'/\eG C Y gB (MI x) M' { B with greens:=Vl,falls:=Ax,locks:=LP s.1} ∧
   MO (MI x) M' (aqL s w)/\Iz (MI x)):=by
 rw[mu lp P q (Ew (q=.ok .bb M'/\eG C Y gB (MI x) M' { B with greens:=Vl,falls:=Ax,locks:=LP s.1} ∧
   MO (MI x) M' (aqL s w)/\Iz (MI x)))];have e1:=mJ [aD,iY,cv] alB
 obtain⟨v1,p1⟩:=av1 (dx:=dC .bb) (z:=.bb) e1 h.y3 (k:=cg) (dk:=ay gs [ak,aH]) (aK (hs M r h.y0 hr)) rfl;rw[bI h1 (h.put3 Vl) T1 (aqE i 3 v (.ai (zj eI Vl)) (Qy 3))];rw[Lr f1 (E9 (Ż 3 .ai eI)) (tD (by rw[D8 3])) l1 (ahp (Ż 3 .ai eI)) List.length_set (č v1 _ p1)]
 generalize Ż 3 .ai eI=aa at h1 T1 f1 l1;have e2:=Pz [aD,iY,cv] d adp
 obtain⟨v2,p2⟩:=av1 (dx:=dC .bb) (z:=.bb) e2 h1.y4 (k:=r) (dk:=aH) rfl rfl;rw[bI h2 (h1.aIP r) T2 (T1.set (i:=4) (v:=.ai (Xb Ax)) (Qy 4) nofun nofun nofun)];rw[Lr f2 (E9 (V! 4 .ai Ji Ax)) (aht (by rw[D8 4])) l2 (ahp (V! 4 .ai Ji Ax)) (j0 List.length_set l1) (č v2 _ p2)]
 generalize V! 4 .ai Ji Ax=M2 at h2 T2 f2 l2;rw[bI h3 (h2.push (ς ((cX).map bE)) (pU x)) qk (T2.push (ς ((cX).map bE)) (pU x))]
 rw[gM f3 (kK o M2 (k! o M2.length (pU x)) (M2++Ov (cX).map)) kK.push k3 (Ez (M2++Ov (cX).map) M2.length ((cX).map bE)) Ξ e3 (ay (sy true) [ay gE [ak,aH]] [aD,iY,cv] M2=.ok (ο M2.length) (M2++Ov (cX).map)) (by
  rw[bP,aR,bP];simp only[aR,bM,aT,bB,bw,ag,hw M2 r h2.y0 hr];rw[Cr sy ac1];exact yq (by rw[s5 qi]))]
 rw[←l2];rw[IA (gV (adN (ο M2.length) _ t.ob EW as6 e3 rfl qk.mt (by rw[h_ 3]) aHa fB)) h4 (h3.own (v:=tZ as6) (aq qk.ot))]
 have A!:MO (k! o M2.length (pU x)) ((M2++Ov (cX).map).set t.ob (tZ as6)) (ap1 cX M2.length):=
  ⟨qk.ot,qk.os,Jk,get_set qk.mt,xN qk.ot qk.os qk.ms,xN qk.ot Jk k3⟩
 have f4:MQ (k! o M2.length (pU x)) ((M2++Ov (cX).map).set t.ob (tZ as6)):=eV (f2.trans f3) (tD (by rw[tR qk.ot]));obtain⟨Tp,c1,c2,c3,c4,a3A⟩:=hc x _ _ _ (ap1 cX M2.length) s w h4 A! e9 hl iy;exact nL .bb Tp (aK c1) (eQ (Fp Tp c2 c3 (f4.trans c4)))
universe zE
universe Sb
universe zE
section
namespace Sb
open PySem L2
section
variable {C:gv}{Y:dK}{e:eL}{o:ek}{M:aS}{B:dM}{ρ:bu}{t:TB}{W:b5}{sx:O5}{C8:tP}
def aFs aoi ZR(hp:AQ Y B x s=jZ):wX/\cg=s:=by
 unfold AQ at hp;cases hg:HA s with
 |some r'=>
  rw[hg]at hp;cases hp;have:=(asq r).mp hg;rw[b7 (aq this.1) this.2]
 |none=>
  rw[hg]at hp;rw[aps q hq rfl hp];rw[oD (List.find?_some hq) (List.mem_of_find?_eq_some hq)];rw[ay6 h1];rw[b7 (aA (by rw[Ĥ (qK q h2)])) h1.1]
def aFt(I:afz W)GB ZR{r p:Nat}J'(hp:p∈v8 Y.rs r):Ab GK:=by
 rw[jm h1 (RQ h) (U1 (R.lt r (ou h).1 p hp)) h1];cases h2:GK with
 |none=>rw[h2]at h1;cases h1
 |some _=>rfl
def pE.aeG ZR gS:dZ=(p0).map (·.tr):=by
 rw[S.trains,Sn];rfl
def pE.lB ZR(I:afz W):ajZ:=by
 have:=I.lB;rwa[S.trains,alf]at this
abbrev t0 dS:TB:=⟨BD [] [],n,n+1,n+2⟩
def acr:auj C.tr [dO] (M++[tZ []])=.ok .bb (M++Cf::[ς [],ς []]):=by
 rw[mu auj P q (q=.ok .bb (M++Cf::[ς [],ς []]))]
 have mk:∀(G:aS)(fs:rY),yi true [] [g?] (M++tZ fs::G)=.ok (ο (jV (G.length+1))) (M++tZ fs::(G++[ς []])):=λG fs=>by
  rw[Oo yi bM (yq aC)];simp
 rw[CD (hU (s2:=sr) (G:=[]) (G':=[ς []]) (ο rW) [("steps",ο rW)] rfl (mk [] []) (by rw[h_ 0]) bU fB) (gV (hU (s2:=sr) (G:=[ς []]) (G':=[ς [],ς []]) (ο (jV 2)) [("steps",ο rW),("ahead",ο (jV 2))] rfl (mk [ς []] _) (by rw[h_ 1]) bU fB))];exact hU (s2:=sr) (G:=[ς [],ς []]) (G':=[ς [],ς []]) (lO .ah) (FE (t0 M.length)) rfl rfl (by rw[h_ 2]) bU Ae
abbrev aei(o:ek)dS gS:ek:=k! (k! (k! o n (Ww x)) (n+1) (vn x)) (n+2) (pU x)
def eG.a2U pA gS:eG C Y gB (aq3 o x) (M++Cf::[ς [],ς []]) B/\MO (aq3 o x) (M++Cf::[ς [],ς []]) (t0 M.length) ∧
  MQ (aq3 o x) (M++Cf::[ς [],ς []]):=by
 have e:M++Cf::[ς [],ς []]=((M++[Cf])++[ς []])++[ς []]:=Ξ
 rw[oO h1 (h.push Cf (Ww x)) h2 (h1.push (ς []) (vn x)) h3 (h2.push (ς []) (pU x))]
 rw[bq l1 (vR M [MA]=rW) Ξ l2 (vR (M++[MA]) xS=jV 2) Ξ]
 rw[l1]at h2 h3;rw[l2]at h3;rw[e];rw[Af (h3.but x) ⟨?_,?_,Jk,aK t0,aK t0,aK t0⟩]
 ·show aei o M.length x M.length=_;rw[kF aei (mI av) (mI av) Jk]
 ·show aei o M.length x rW=_;rw[f5 aei (mI av) Jk]
 ·rw[gM f1 (MQ (aah x) (M++[MA])) kK.push f2 (kK (aah x) (M++[MA]) (k! (aah x) rW (vn x)) ((M++[MA])++xS)) (by
   rw[V? (kK.push (o:=aah x) (M:=M++[MA]) (v:=dm.lst []) (g:=vn x)) l1]) f3 (kK (k! (aah x) rW (vn x)) ((M++[MA])++xS) (aq3 o x) (((M++[MA])++xS)++xS)) (by
   rw[V? (kK.push (o:=k! (aah x) rW (vn x)) (M:=(M++[MA])++xS) (v:=dm.lst []) (g:=pU x)) l2])]
  exact agZ f2 f3
universe zE
universe Sb
universe zE
end
mutual
section
namespace Sb
open PySem L2
inductive o7 where
 |ok
 |none
 |held
 |red
abbrev Zu n! DL ayL(P:cO dM):Prop:=match k with
 |.ok=>∃M' o' B',res=.ok .bb M'/\Hz o' M' B'/\Iz o'/\P B'
 |cG=>res=kG
 |.held=>res=bG C.he M
 |.red=>res=bG C.rd M
def aGx gb{l:ry}{p:Xc}{a:α}(ha:a∈l)(hp:aO (p a))(hu:GO l (aO (p b)->b=a)):cE arB a:=by
 cases e:arB with
 |none=>rw[pO hp (bh (List.find?_eq_none.mp e a ha))]
 |some b=>rw[hu b (List.mem_of_find?_eq_some e) (List.find?_some e)]
section
variable {C:gv}{Y:dK}{e:eL}{o:ek}{M:aS}{B:dM}{ρ:bu}{t:TB}{W:b5}{sx:O5}
abbrev wA pe gS qm fM:Bool:=fC cg s&&(match G9 r with
 |some fl=>fl.bd||i7 x fl.ns
 |none=>true)
abbrev wk pe gS qm:dw:=(ajp).find? (wA Y W x s)
def aHb gc N2 GB ax8:wk Y W x s=AQ Y B x s:=by
 rw[eE TN (∀r,aO (wA Y W x s r)->cg=s) (λr h=>by
  rw[nw wA];rw[ay6 h];exact h.1) a1d (∀r∈ajp,wX) (λr h=>List.mem_append.mp h) F4 (∀r∈ajp,∀r',PD->QT r'=s->aO (wA Y W x s r)->r=r') (λr hr r' h' e hm=>I.one R (a1d r hr) h' (eV (TN r hm) e.symm)) yO (Qn q (G9 q.1=aN (JK Y.rs (Az Y) q.1 q.2))) (r! (by
  have hn:gC rK:=by rw[asG]
  rw[S.falls,Sn,EP hn];rfl))]
 unfold AQ;cases hg:HA s with
 |some r=>
  rw[cV h1 ((asq r).mp hg) (aGx (aLR (aq h1.1)) ?_ λb hb hm=>F4 b hb r (aq h1.1) h1.2 hm)]
  have h2:b9 (G9 r):=by
   cases e2:G9 r with
   |none=>rfl
   |some _=>rw[se ((ahO _).mpr (by rw[e2];rfl)) (I.A_ r h1.1)]
  rw[dJ wA h2];simp[h1.2]
 |none=>
  dsimp only;cases hf:B.falls.find? (λq=>Ņ q.1 s&&(Xg q.2.fH||k9)) with
  |some q=>
   rw[oD (List.find?_some hf) (List.mem_of_find?_eq_some hf)];rw[ay6 h1]
   rw[dX hm (q.1∈mL) (by rw[Ĥ (qK q h2)]) (aGx (a:=q.1) (aLR (aA hm)) ?_ λb hb hm'=>F4 b hb q.1 (aA hm) h1.1 hm')];rw[dJ wA (yO q h2)];simp only[JK,h1.1,decide_true,Bool.true_and];rcases Bool.or_eq_true_iff.mp h1.2 with h3 | h3
   ·rw[Hx h3 h3];rw[gp h3]
   ·rw[h3];rfl
  |none=>
   show aB3 _;rw[IA (List.find?_eq_none.mpr (cP r hr hm)) e1 (TN r hm)];rcases List.mem_append.mp hr with hr | hr
   ·rw[rV ((asq r).mpr ⟨hr,e1⟩) hg];cases this
   ·rw[S.alh]at hr;rw[xA q hq hr];have h4:=List.find?_eq_none.mp hf q hq;rw[Ct wA hm (yO q hq) hm];simp only[JK,e1,decide_true,Bool.true_and,Bool.or_eq_true,decide_eq_true_eq]at hm;simp only[e1,decide_true,Bool.true_and,Bool.or_eq_true,decide_eq_true_eq,not_or]at h4;rcases hm with hm | hm
    ·exact h4.2 hm
    ·cases hnr:q.2.fH with
     |none=>rw[nt hnr hm hm]
     |some y=>
      rw[nt hnr hm hm];exact h4.1 (j0 hnr hm)
abbrev axq n!(g5:D1):Prop:=∀(e:eL)DL Ui qm,XM->yV->uX->(∀r∈rK,lI)->g5 [ο 0,η x,η s] M=match AQ Y B x s with
 |jZ=>.ok (η r) M
 |none=>bG C.rd M
abbrev aej n!(dG:D1):Prop:=∀gS DL oh yU fM oi m_,IT->Bw M t->lI->cX=s::w->Xf->aa2 s.1->GU →
 Ew (dG [ο 0,oM,η r] M=.ok .bb M'/\eG C Y gB (MI x) M' { B with greens:=Vl,falls:=Ax,locks:=LP s.1} ∧
   MO (MI x) M' (aqL s w)/\Iz (MI x))
def Iy ax8:∀r∈rK,lI:=λr hr=>(ou (aA (by rw[Ĥ hr]))).1
def aHc GB ZC aeR:Xf:=by
 have:=Yk (aap r) (R.lt r hr);rw[Ct v8 this eH this];omega
def a1e{x j:Int}aoo(hj:l8 j):nN [none,Mr,none] [y,aX,oG,z,w] M=.ok () M:=by
 have fj:=kz hj.1 hj.2;simp only[nN,aT,bB,bw,ag,fj,if_true]
def a1f{x j:Int}aoo Bf:nN [none,nv,none] [y,aX,oG,z,w] M=.ok () M:=by
 have fj:=kz hx.1 hx.2;simp only[nN,aT,bB,bw,ag,fj,if_true]
abbrev FJ pe(x i:Int):o7:=ajW (KY i) (ajW (Az Y i.toNat) (if aax then .held else match wk Y W x i.toNat with
 |vo=>.ok
 |none=>.red))
abbrev Nh pe(x i:Int):b5:=Zc Y.rs W ((wk Y W x i.toNat).getD 0) x []
def adj{x i:Int}{akx bX g5 abY dG:D1}pA Bf Be GB ax8 ZC ayr
  (hk:akx [ο 0,η i] M=ā i .ok .bb M)(hb:vB s (uX->bX [ο 0,η s] M=.ok (.ah k9) M))(hr:axq C Y g5)
  (lC:∀M:aS,abY [dO] (M++[tZ []])=.ok .bb (M++Cf::[ς [],ς []]))(hp:aej C Y dG):
  Zu C Y o M (au1 C.he C.cI C.tr C.aP akx bX g5 abY dG [ο 0,η x,η i] M) (FJ Y W x i) λB'=>pE Y.ps.length Y.rs (qO Y.ps) (Az Y) (Nh Y W x i) B':=by
 rw[mu au1 P q (Zu C Y o M q (FJ Y W x i) λB'=>pE Y.ps.length Y.rs (qO Y.ps) (Az Y) (Nh Y W x i) B')];rw[Vb FJ ho (KY i)]
 ·rw[ho]at hk⊢
  rw[zx s hs ho];rw[apv gK];rw[CD (nL .bb M (aK hk) Pu) (su (! k9) M (fQ (hb s hs) gR) (ck cS) (ck cS))]
  ·have cS:dQ k9:=bh cS
   have e3:=a1e (M:=M) (x:=x) (y:=aD) (z:=none) (w:=none) hi
   rw[vM fV e3]
   rw[mC Po cS]
   rfl
  ·have cS:aO k9:=bh cS
   rw[cS,gK];rw[s_ Pu];rw[cV e1 (mJ [aD,aX,er,none,none] ra) (su (tE p0) M ?_ (ck lD) (ck lD))]
   ·rw[PJ c_ au];rw[ag,e1,ag,V1 h.y5 k zl,AL];simp
   ·have e3:=a1f (M:=M) (j:=aY s) (y:=aD) (z:=none) (w:=none) hx
    rw[vM fV e3]
    refine Po
    have:Ab dZ:=by rw[S.aeG];simpa using lD
    rw[this];rfl
   ·rw[bq Gh (b9 p0) (bh lD) a4f VS (by rw[S.aeG,Gh];rfl)]
    rw[a4f];rw[kE Ξ];rw[rM Gi (aHb (x:=x) (s:=s) R I S) e2 (hr none o M B x s h hx hs (Iy I S)) Ad];cases yM:AQ Y B x s with
    |none=>
     rw[yM]at e2 Gi;rw[xg Gi (gV (amM C.rd M (aK e2) (dy (k_ rfl))))]
    |some r=>
     rw[yM]at e2 Gi;rw[Gi];rw[zU A6 TN (aFs S yM) yN (ou A6).1]
     rw[Ŝ w e9 (∃s0 w,cX=s0::w) (by
      cases dB:cX with
      |nil=>rw[pO dB (fg r yN)]
      |cons a b=>exact kA a b)]
     rw[cV uz (aFt I R S A6 (p:=s0.1) (by rw[dJ v8 e9];simp)) (abl r (aK e2))];rw[eB];rw[agU h1 T1 f1 (h.a2U x) em (C? C.tr abY [] [aD,aX,Wh s,Wh r,none] M=.ok dO (M++Cf::[ς [],ς []])) (by
      unfold C?;rw[bM,ag,lC,ag]) (jE dO _ em)];rw[eB];generalize M++Cf::[ς [],ς []]=aa at h1 T1 f1;obtain⟨M2,p1,p2,p3,p4⟩:=hp x _ _ _ (t0 M.length) r s0 w h1 T1 yN e9 (aHc R zr yN) uz (by rw[BL (oF 0)])
     refine K9 .bb M2 (by show ay dG [ak,bY,bH] _ aa=_;rw[rF p1]);rw[oO kO (S.lB I) h5 (p2.a3d (x:=x) kO p3) e5 (p2.fld (ρ:=[aD,aX,Wh s,Wh r,g?]) (d:=ak) rfl ra)]
     rw[dX hlen (B.trains.length≤16) (by
      rw[rV I.axQ S.trains];rw[Ct ka this eH this];omega) (yl dO M2 (ο 5) M2 (η x) M2 _ rfl e5 rfl (Fc p2.y5 zl (by rw[ah7 avT hlen])) (eQ ⟨_,_,aeg Y.rs B r x ⟨BD (s0::[]) w,M.length,rW,aa.length⟩,rfl,?_,agZ p4 (tD (by rw[tR (p2.lo 5 aC)])),?_⟩))]
     ·have:jw W! zl dO=gP AG (RC ⟨BD (s0::[]) w,M.length,rW,aa.length⟩):=aGq AG x ⟨BD (s0::[]) w,M.length,rW,aa.length⟩ B.trains;show Hz _ (ER 5 .ai (jw W! zl dO)) _;rw[this];rw[jW aeg e9 h5]
     ·rw[kF Nh Int.toNat_natCast Gi Option.getD_some];exact aGn R I S A6 (by rw[e9];rfl)
 ·have ho:dQ (KY i):=Mc
  rw[rQ ho hk (gV (acL C.cI M (aK hk) (dy (k_ rfl))))]
universe zE
universe Sb
universe zE
section
namespace Sb
open PySem L2
section
variable {C:gv}{Y:dK}{e:eL}{o:ek}{M:aS}{B:dM}{ρ:bu}{t:TB}{W:b5}{sx:O5}
noncomputable abbrev akW pe oh:Prop:=aCt (Az Y)
noncomputable abbrev xp pe:Prop:=Inv Y.ps.length Y.rs aK0 W
abbrev aER n! c6:Prop:=∀DL Ui,ru->yV->g [ο 0,η x] M=match p0 with
 |fm=>.ok oM M
 |none=>kG
def eG.gone gc(h:IT)(hx:x∉aLf):ru:=
 ⟨h.y0,h.y1,h.y2,h.y3,h.y4,h.y5,h.lo,h.hi,h.qg,λq hq _=>OJ hq (fD (hx (afR q hq (aAd).symm)))⟩
def a1g:C9 "is_out" (fT .ah) EW=agT ait t.sj:=bU
def aIR gc aoo Bf:nN [none,nv,none] [y,aX,z,w] M=.ok () M:=by
 have fj:=kz hx.1 hx.2;simp only[nN,aT,bB,bw,ag,fj,if_true]
def a1h gc{y z:wY}Bf:nN [none,nv,none] [y,aX,z] M=.ok () M:=by
 have fj:=kz hx.1 hx.2;simp only[nN,aT,bB,bw,ag,fj,if_true]
abbrev Dy pe gS:o7:=match dZ with
 |none=>cG
 |fm=>VI t.out red (VI (aiP []) ok (match O6 with
  |none=>.ok
  |vo=>match abg with
   |none=>.red
   |some s=>match wk Y W x s with
    |vo=>.ok
    |none=>.red))
abbrev Dz pe gS:b5:=match dZ with
 |none=>W
 |fm=>if aiP [] then amL W x t else match O6 with
  |none=>Tn W x (as7 [])
  |vo=>Zc Y.rs W (((abg).bind (wk Y W x)).getD 0) x t.steps
def aTa{s:eJ}dU(h:vS s=fc):Hu k:=by
 rw[nw MU];split at h
 ·split at h
  ·rename_i b _ hm;cases h;exact aLp
  ·cases h
 ·cases h
def Zo gc{gt bS bX dG g5 ga:D1}pA Bf GB Gl ZC ayr
  ayO ayN aKH(hp:aej C Y dG)(hr:axq C Y g5)(hr0:g5 [ο 0,η x,.bb] M=bG C.rd M)
  (ha:∀t:TB,GI M = GJ->aoE->aqR []->ga [ο 0,oM] M=.ok (aU abh) M):
  XI C Y o M (FC C.rd C.tr C.aP gt bS bX dG g5 ga [ο 0,η x] M) (Dy Y W x) (Dz Y W x):=by
 rw[mu FC P q (XI C Y o M q (Dy Y W x) (Dz Y W x))];rw[bI e0 (ht o M B x h hx) hg (S.aeG x)];unfold Dy Dz;cases rf:p0 with
 |none=>
  rw[rf]at e0 hg;rw[az hg (gV (amM C.cI M (aK e0) (dy (k_ rfl))))]
 |some t=>
  rw[rf]at e0 hg;have hg:cE dZ t.tr:=hg
  rw[vL hg];rw[bI T (VC _ (AK rf)) TI (Vy t.tr hg)];rw[dX iy GU (LV (I.aev hg) zr) (XC ο t.ob (aK e0))];rw[eB];rw[Wi e1 (XD [aD,aX,iY,none] d SJ) (bE (cn t.tr)) M]
  ·rw[au,e1,ag,bg,ag];exact SG (i:=0) T.ms (amz TI.ne)
  rw[eB];rw[Rj e2 (XD [aD,aX,iY,Q7 (cn t.tr)] d axp) e3 (XD [aD,aX,iY,Q7 (cn t.tr)] d awk) (af4 t.tr.out M (by rw[kI,e2,ag];rfl))]
  ·have e4:=aIR (M:=M) (y:=aD) (z:=iY) (w:=Q7 (cn t.tr)) hx;rw[vM fV e4];rw[mC Po hk];rfl
  ·rw[hk,xU];rw[ff Ad (H? (! t.tr.ahead.isEmpty) M)]
   ·rw[kI,e3,ag];unfold gR;simp only[T.ma];cases t.tr.ahead<;>rfl
   ·have To:t.tr.ahead≠[]:=λdB=>by rw[dB]at cS;cases cS
    rw[agh To To]
    rw[Ŝ w e9 (∃s0 w,ahR (s0::w)) (by
     cases dB:t.tr.ahead with
     |nil=>rw[pO dB To]
     |cons a b=>exact kA a b)]
    have uz:aa2 s0.1:=by
     rw[zU r h1 (TI.al (s:=s0) (by rw[gp e9])) aCZ (I.lt h1)];rw[S.locks _ aCZ]at h1;cases h2:KP s0.1 with
     |none=>rw[h2]at h1;cases h1
     |some _=>rfl
    obtain⟨M2,c1,c2,c3,c4,a3A⟩:=hc x o M B t s0 w (h.but x) T e9 uz iy
    refine nL .bb M2 (aK c1) (eQ ⟨M2,o,aIN B x s0.1 (air s0 w),rfl,?_,c4,?_⟩)
    ·exact c2.seen (S.lB I) rf c3 rfl
    ·rw[V? (aVE I S (x:=x) (t:=t.tr) (t':=air s0 w) (by rw[e9,hk];rfl)) e9]
   ·have To:ahR []:=by
     cases dB:t.tr.ahead with
     |nil=>rfl
     |cons a b=>rw[dB]at cS;cases cS
    rw[HF dB (dB To),HF dB (dB To)];rw[cV e5 (mJ [aD,aX,iY,Q7 (cn t.tr)] YI) (su (E? (cn t.tr) (cn t.tr)).isNone M ?_ (ck lD) (ck lD))]
    ·rw[bq aC3 (Aa (bE (cn t.tr)) 0=.ok (η (cn t.tr).1) M) S3 i2 (Aa (bE (cn t.tr)) 2=.ok (η (cn t.tr).2.2) M) aea];rw[kI,bP,aR,e5,ag];simp only[aR,bM,au,aT,bg,bB,bw,ag,aC3,i2,hb];rfl
    ·have lD:b9 (E? (cn t.tr) (cn t.tr)):=bh lD
     rw[xg lD (adN (fT .ah) M t.ob EW (agT ait t.sj) rfl rfl T.mt (by rw[h_ 3]) a1g (eQ ⟨_,o,axP B x (Q3 ait t.sj),rfl,?_,tD (by rw[tR T.ot]),?_⟩))]
     ·refine((h.but x).own (aq T.ot)).seen (S.lB I) rf (t':=Q3 ait t.sj) (Ih (get_set T.mt) (xN T.ot T.os T.ms) (xN T.ot T.oa T.ma)) rfl
     ·have:=aHw S (x:=x) (t:=Q3 ait t.sj);rw[rQ To this this]
    ·obtain⟨b,lD⟩:∃b,E? (cn t.tr) (cn t.tr)=mD:=by
      cases dB:E? (cn t.tr) (cn t.tr) with
      |none=>rw[dB]at lD;cases lD
      |some b=>exact lS b
     rw[vL lD];have ea:=ha t T.mt T.ms TI.ne;cases TQ:abh with
     |none=>
      rw[K7 TQ ea (acL C.rd M ?_ (k_ rfl))];simp[ea,aU,hr0]
     |some s=>
      rw[TQ]at ea;rw[oO aCC (aTa TQ) Gi (aHb (x:=x) (s:=s) R I S) Jj (hr none o M B x s h hx aCC (Iy I S))];rw[vL Option.bind_some];cases yM:AQ Y B x s with
      |none=>
       rw[yM]at Jj Gi;rw[xg Gi (acL C.rd M ?_ (k_ rfl))];simp[ea,aU,Jj]
      |some r=>
       rw[yM]at Jj Gi;rw[Gi,Option.getD_some];rw[zU A6 TN (aFs S yM) yN (ou A6).1]
       rw[Ŝ w e9 (∃s0 w,cX=s0::w) (by
        cases dB:cX with
        |nil=>rw[pO dB (fg r yN)]
        |cons a b=>exact kA a b)]
       have uz:=aFt I R S A6 (p:=s0.1) (by rw[dJ v8 e9];simp);obtain⟨M2,p1,p2,p3,p4⟩:=hp x _ _ _ t r s0 w (h.but x) T yN e9 (aHc R zr yN) uz iy
       refine nL .bb M2 (by simp[ea,aU,Jj];exact p1) (eQ ⟨M2,_,aeg Y.rs B r x (aqL s0 w),rfl,?_,p4,?_⟩)
       ·have:=p2.seen (S.lB I) rf p3 rfl;rw[jW aeg e9 this]
       ·exact aGn R I S A6 (by rw[e9,hk];rfl)
abbrev JC J7:o7:=match dZ with
 |none=>cG
 |fm=>VI (ä 1/\dQ t.out) held .ok
abbrev FW J7:b5:=match dZ with
 |none=>W
 |fm=>vE t.steps.length 1 (aNW W x) (Tn W x Le)
def Sr bf dH ae4(hn:xs≠[]):∃y,aes (ο n) [] M=.ok y (Qt n xs.dropLast):=by
 unfold aes jP;simp only[h]
 have hl:ú (Lk 1):=by
  rw[Fj (xs.length≠0) (asF (List.eq_nil_of_length_eq_zero e))]
 rw[gh Q2 fR]
def adw gc Uo pA Bf Gl ayO:
  XI C Y o M (au9 C.he C.tr C.aP gt [ο 0,η x] M) (JC W x) (FW W x):=by
 rw[mu au9 P q (XI C Y o M q (JC W x) (FW W x))];rw[bI e0 (ht o M B x h hx) hg (S.aeG x)];unfold JC FW;cases rf:p0 with
 |none=>
  rw[rf]at e0 hg;rw[az hg (gV (amM C.cI M (aK e0) (dy (k_ rfl))))]
 |some t=>
  rw[rf]at e0 hg;have hg:cE dZ t.tr:=hg
  rw[vL hg];rw[rM T (VC _ (AK rf)) TI (Vy t.tr hg) (XC ο t.ob (aK e0))];rw[ags e1 (XD [aD,aX,iY] d SJ) e2 (XD [aD,aX,iY] d axp)]
  rw[ko el (∀J_ Gz,M'[t.so]? = gY->eW [ο t.so] M'=.ok (arO η) M') (vU M' hm (by
   unfold eW;simp only[ac2,hm])) (tV (jC (aqn 1/\dQ t.tr.out)))]
  ·rw[Jo,c_,au,bP,aR,e1,ag,bM,ag,ag,el M _ T.ms,ag,bg,ag,t_,eH];rw[B4 (aqn 1)]
   ·cases h2:t.tr.out<;>simp[h1,h2,e2,gR]
   ·rw[aa3 h3 (aY t.tr.steps.length=1) h1 h3]
  ·rw[bI hk aLY e4 (a1h (M:=M) (y:=aD) (z:=iY) hx)];rw[vM fV e4];rw[mC Po Hg];rfl
  ·rw[ï hk hk];rw[kE hk];rw[BB y py (Sr T.ms (bh TI.ne)) (c5 (kn (K9 y (Qt t.so (QY).dropLast) ?_)))]
   ·rw[az (ama e1 T.ms (xs:=[]) rfl) py]
   rw[←List.map_dropLast];have h1:=(h.but x).own (v:=ς apC) (aA (aq T.os))
   have T1:Bw (sf t.so apC) as3:=
    Ih (xN T.os T.ot T.mt) (get_set T.ms) (xN T.os T.oa T.ma)
   have f1:E9 (sf t.so apC):=tD (by rw[tR T.os]);generalize sf t.so apC=aa at h1 T1 f1;rw[D7 e5 (aPr (t:=as3) (ρ:=[aD,aX,iY]) (d:=aH) T1.mt rfl SJ) hl (t.tr.steps.length≠0) (λdB=>TI.ne (List.eq_nil_of_length_eq_zero dB)) (H? (jC (aqn 1)) aa)]
   ·rw[c_,au,bP,aR,e5,ag,bM,ag,ag,el aa _ T1.ms,ag,bg,ag,t_,eH,List.length_dropLast];by_cases fj:aqn 1
    ·simp[fj]
    ·have h8:¬(i_ (t.tr.steps.length-1)=0):=av
     rw[abm fj h8]
   ·rw[Hx cS cS];rw[if_pos cS];rw[cV e6 (Pz [aD,aX,iY] d ra) (Zd (k:=zl) (y:=η x) oM e6 h1.y5 rfl rfl (by rw[AL,rf];rfl) (eQ ⟨_,o,aNX B x,rfl,?_,aht (by rw[D8 5]),aXn S⟩))];rw[gh aFo ((h1.a1u x).gone λhm=>((alA _ _ _).mp hm).1 rfl)]
   ·rw[ï cS cS];rw[QI cS (c5 (eQ ⟨aa,o,axP B x as3,rfl,h1.seen (S.lB I) rf T1 rfl,f1,aHw (t:=as3) S⟩))]
universe zE
universe Sb
universe zE
section
namespace Sb
open PySem L2
section
variable {C:gv}{Y:dK}{e:eL}{o:ek}{M:aS}{B:dM}{ρ:bu}{t:TB}{W:b5}
abbrev JD J7:o7:=match dZ with
 |none=>cG
 |fm=>VI t.out red .ok
abbrev FL J7:b5:=match dZ with
 |none=>W
 |fm=>aeh W x t
def ac5 oi:auO [bE s] M=.ok (bE OL) M:=by
 rw[ki auO q (q=.ok (bE OL) M)];exact Et (bE OL) M (Ox bE flip cA)
def eG.a2V gc pA GA(hl:w9)(h4:ajs M' 4 .ai)(hm:∀i,i≠4->(∀r,o i≠Pd r)->M'[i]? = M[i]?)
  (hf:Qn q (M'[q.2.ob]? = aio (uA (JA x q.1 q.2)))):BA M' (G2 falls (ű (JA x))):=by
 have y:∀i≤5,i≠4->M'[i]? = M[i]?:= λi hi h4=>hm i h4 λr=>by rw[tR (h.lo i hi)]
 refine⟨aka 0 h.y0,aka 1 h.y1,aka 2 h.y2,aka 3 h.y3,?_,aka 5 h.y5,h.lo,asx i (by rw[b! hl hi]),dz q hq,cP q hq he⟩
 ·show rH M' 4 .ai (Xb (ű (JA x)));rw[h4];unfold encD ka;rw[List.map_map];rfl
 ·rw[xA q' jQ hq];rw[b7 (h.qg q' jQ).1 (hf q' jQ)]
 ·rw[fS T (OJ hq he) g (∀gx{g:sO}{v:dm},o i=g->(∀r,g≠Pd r)->g≠.yard->Av M->Av M') (λhi hg hy e=>eV (hm _ (by rw[fZ (h.gt hi hy)]) (λr=>by rw[az hi (hg r)])) e)];exact Ih (ċ T.ot T.mt) (ċ T.os T.ms) (ċ T.oa T.ma)
def aZC{u:FB}:C9 "near" .bb (uA u)=uA { u with fH:=none}:=bU
abbrev awd n!(fF:D1):Prop:=∀DL oh m_ Bp,ru->akk->(aow GK)->D5 a Lp->a≠1 →
 uR (fF [ο 0,ο a] M=.ok .bb M') (BA M' (afA B w)) (BK/\w9/\∀i,i≠1->M'[i]? = M[i]?)
abbrev aOd(q:Nat×FB):aj:=ο q.2.ob
def aZD(d:Bv FB):((W2 Ji).map λq=>q.2)=d.map aOd:=by rw[zy encD]
def aUO gc{z:wY}Um pA(hn:gC rK)
  (k:∀M',BA M' (G2 falls (ű (JA x)))->BK->P (.ok .bb M')):
  Fin P (pb (S6 agc) (MR (S6 agc) (L3 (ah1 C.fa bH) aG (wc C.fa "near" bH (dC .bb)))) [aD,aX,z,none] M):=by
 rw[aaH hi (aXo h.y4 (mJ [aD,aX,z,none] adp)) aZD hi h.y4 hi ?_];rw[vI hz (ajs (aaz 4 .bD) 4 .bD) aBg aNN (Qn q (Qn q' (q.2.ob=q'.2.ob->q=q'))) (λq hq q' jQ e1=>by
  have e2:q.1=q'.1:=by
   have h1:=Ch;rw[e1,(h.qg q' jQ).1]at h1;exact(sO.fall.inj h1).symm
  rw[oD (EP hn) (atH hn jQ)];rw[e2,h2]at h1;exact Prod.ext e2 (Us).symm) (nQ aOd (XA y (ρ=[aD,aX,z,y]/\w9/\ajs M' 4 .bD/\(∀i,i≠4->(∀r,o i≠Pd r)->M'[i]? = M[i]?)/\(Qn q (q∈pre->M'[q.2.ob]? = aio (uA (JA x q.1 q.2)))) ∧
   Qn q (q∉pre->M'[q.2.ob]? = aio (uA q.2)))) B.falls _ _ hi hz ⟨none,rfl,Ξ,hz,λi h4 _=>p_ (fD (h4 e.symm)),λq _ hq=>K0 hq,λq hq _=>za (by rw[Hi Ch]) (h.qg q hq).2⟩ ?_ ?_)]
 ·rintro pre q post hx ρ M' ⟨y,rfl,l1,z1,g1,p1,p2⟩;refine qH
  rw[Iw hq (q∈B.falls) (by rw[oB]) NY (q∉pre) hm (by
   rw[hx,List.map_append,List.nodup_append]at hn;exact hn.2.2 q.1 (qK q hm) q.1 Ξ rfl)]
  rw[D7 m1 (p2 q hq NY) e6 (cm C.fa "near" bH [aD,aX,z,cF q.2.ob] M'=.ok (jN q.2.fH) M') (by
   rw[dJ cm aT];rw[tG];rw[ag,Jt m1];rw[ku aH9];rfl) (G5 (Xg q.2.fH) M')]
  ·show n9 (kX (ah1 C.fa bH) aG) [aD,aX,z,cF q.2.ob] M'=_;rw[c_,au,e6,ag,aT];rw[tG];rw[ag];cases q.2.fH with
   |none=>rw[vg (jN none) .bb,ajx p adL (qc _)];rfl
   |some y=>rw[vg (jN zg) (η y),t_];rw[xx lZ y x lZ]
  ·rw[Hx hk hk]
   rw[dX h4 (q.2.ob≠4) (by rw[Hi Ch]) (adN .bb M' q.2.ob (uA q.2) (uA { q.2 with fH:=none}) rfl rfl m1 (by rw[h_ 2]) aZC (MS ?_ ⟨_,rfl,by rw[ñ l1],?_,?_,?_,?_⟩))]
   ·exact afV h4 z1
   ·exact afV h4 z1
   ·intro i hi hr;exact aiV (hr q.1 (by rw[←e];exact Ch)) (g1 i hi hr)
   ·intro q' jQ hm;by_cases dB:q'=q
    ·subst dB;rw[get_set m1];simp[JA,hk]
    ·rw[az (p_ (fD (dB (aNN q hq q' jQ e).symm))) (p1 q' jQ (by rcases azq with fj | fj;exact fj;simp at fj;rw[pO fj dB]))]
   ·intro q' jQ hm;have dB:q'≠q:=fD (hm HW);rw[az (p_ (fD (dB (aNN q hq q' jQ e).symm))) (p2 q' jQ λfj=>hm (aK fj))]
  ·rw[cV hk (of_decide_eq_false hk) (c5 (MS z1 ⟨_,rfl,l1,z1,g1,?_,λq' jQ hm=>p2 q' jQ λfj=>hm (aK fj)⟩))];intro q' jQ hm;by_cases dB:q'=q
   ·subst dB;rw[m1];simp[JA,hk]
   ·exact p1 q' jQ (by rcases azq with fj | fj;exact fj;simp at fj;rw[pO fj dB])
 ·rintro ρ' M' ⟨y,rfl,l1,z1,g1,p1,p2⟩;rw[fy z1 (eQ (k _ ?_ ?_))]
  ·refine h.a2V (by rw[ñ l1]) (get_set z1) (λi h4 hr=>aiV (h4 e.symm) (g1 i h4 hr)) (dz q hq);exact za (by rw[Hi Ch]) (p1 q hq hq)
  ·rw[eF (by rw[eu List.length_set l1 fe]) ajF (cP i hi hw)]
   rw[An h4 (i≠4) (λe=>by rw[e,Qy 4]at hw;cases hw) (aiV (h4 e.symm) (g1 i h4 λr=>by rw[tR hw]))]
def aXv bf:C9 "steps" (ο n) EW=FE ⟨t.tr,t.ob,n,t.sj⟩:=bU
def Y6 gc{gt fF gd:D1}pA Bf GB Gl ZC ayO(hu:awd C Y fF)(hd:∀s M,gd [bE s] M=.ok (bE OL) M):
  XI C Y o M (ava C.fa C.rd C.tr C.aP gt fF gd [ο 0,η x] M) (JD W x) (FL W x):=by
 rw[mu ava P q (XI C Y o M q (JD W x) (FL W x))];rw[bI e0 (ht o M B x h hx) hg (S.aeG x)];unfold JD FL;cases rf:p0 with
 |none=>
  rw[rf]at e0 hg;rw[az hg (gV (amM C.cI M (aK e0) (dy (k_ rfl))))]
 |some t=>
  rw[rf]at e0 hg;have hg:cE dZ t.tr:=hg
  rw[vL hg];have T:Bw M t:=VC _ (AK rf);rw[D7 TI (Vy t.tr hg) iy GU (LV (I.aev hg) zr) (XC ο t.ob (aK e0))];rw[eB];rw[Rj e2 (XD [aD,aX,iY,none] d axp) e3 (XD [aD,aX,iY,none] d awk) (af4 t.tr.out M (by rw[kI,e2,ag];rfl))]
  ·have e4:=aIR (M:=M) (y:=aD) (z:=iY) (w:=none) hx;rw[vM fV e4];rw[mC Po hk];rfl
  ·rw[hk,xU];refine Ad
   rw[gM hand (gC aLN) (by
    by_cases dB:ahR []
    ·rw[gp dB]
    ·obtain⟨r,k,hr,a4g,_⟩:=TI.Br dB
     have h1:((cX).drop k |>.map (·.1)).Nodup:=by
      rw[gh List.map_drop ((aap r).sublist (azc _))]
     rw[←a4g,cZ,List.nodup_cons]at h1;exact h1.2) uz (aqj aLN GK) (lR (by
    rw[xA s0 hs0 hp];rw[zU r h1 (TI.al hs0) aCZ (I.lt h1)];rw[S.locks _ aCZ]at h1;cases h2:KP s0.1 with
    |none=>rw[h2]at h1;cases h1
    |some _=>rfl)) ha1 (t.sj≠1) (by rw[Hi T.oa])]
   obtain⟨aa,u1,u2,u3,u4,aPi⟩:=hu o M B t.tr.ahead t.sj h hand uz T.ma ha1
   refine K9 .bb aa ?_
   ·rw[bP,aR];rw[PO];rw[aR,e3];simp only[bM,ag];exact u1
   have T1:Bw aa t:=Ih (Į _ (by rw[Hi T.ot]) T.mt) (Į _ (by rw[Hi T.os]) T.ms) (Į _ ha1 T.ma)
   rw[oO h1 (u2.but x) h2 (h1.push (ς []) (pU x)) T2 (T1.push (ς []) (pU x))];rw[Lr f2 (kK o aa (arp o (pU x)) (aa++[ς []])) kK.push k2 ((aa++xS)[aa.length]? = kQ []) Ξ (adN Xe (aa++[ς []]) t.ob EW aiv (by rw[Oo yi bM (yq aC)]) rfl T2.mt (by rw[h_ 3]) aHa fB)];have h3:=h2.own (v:=tZ aiv) (aq T2.ot)
   have qk:MO (arp o (pU x)) ((aa++xS).set t.ob (tZ aiv)) (ap1 [] aa.length):=
    ⟨T2.ot,T2.os,Jk,get_set T2.mt,xN T2.ot T2.os T2.ms,xN T2.ot Jk k2⟩
   have f3:MQ (arp o (pU x)) ((aa++xS).set t.ob (tZ aiv)):=eV (u3.trans f2) (tD (by rw[tR T2.ot]));generalize (aa++xS).set t.ob (tZ aiv)=bJ at h3 qk f3
   generalize aa.length=n1 at h3 qk f3;generalize k! o n1 (pU x)=o1 at h3 qk f3;rw[bI h4 (h3.push (ς ((xT).map bE)) (vn x)) A! (qk.push (ς ((xT).map bE)) (vn x))];rw[bq f4 (kK o1 bJ (k! o1 bJ.length (vn x)) (bJ++[ς ((xT).map bE)])) kK.push k4 (Ez (bJ++Ov (xT).map) bJ.length ((xT).map bE)) Ξ]
   have e5:=Uz ρ [aD,aX,iY,none] d aH qk.mt SJ
   rw[ko ec (jo true pS (aez (VU C.tr)) (bR 0) j_ (ay gd [ak]) [aD,aX,iY,none] bJ=.ok (ο bJ.length) (bJ++[ς ((xT).map bE)])) (by
    have ei:aez (VU C.tr) [aD,aX,iY,none] bJ=.ok (t.tr.steps.reverse.map bE,nu t.so (ς QY)) bJ:=by
     rw[f5 aez e5 ag];rw[rP qk.ms List.map_reverse]
    rw[oR (xs:=t.tr.steps.reverse) (w:=nu t.so (ς QY)) (M':=bJ) bE zK (λs=>bE OL) (k7 (ρ=[y])) ei qk.ms rN (nH s) (by rw[az List.length_reverse (gX iy)])]
    ·rw[r9,yq (by rw[eu eH List.length_reverse W_]),List.map_map];rfl
    ·rw[E! (aK hd)]) (adN (ο bJ.length) _ t.ob (FE (ap1 [] n1)) (FE ⟨⟨xT,[],t.tr.out⟩,t.ob,bJ.length,n1⟩) ec rfl A!.mt (by rw[h_ 3]) aXv fB)];have h5:=h4.own (v:=tZ (FE ⟨⟨xT,[],t.tr.out⟩,t.ob,bJ.length,n1⟩)) (aq A!.ot)
   have aWo:MO (k! o1 bJ.length (vn x)) ((bJ++Ov (xT).map).set t.ob (tZ (FE ⟨⟨xT,[],t.tr.out⟩,t.ob,bJ.length,n1⟩))) ⟨⟨xT,[],t.tr.out⟩,t.ob,bJ.length,n1⟩:=
    ⟨A!.ot,Jk,A!.oa,get_set A!.mt,xN A!.ot Jk k4,xN A!.ot A!.oa A!.ma⟩
   have jb:MQ (k! o1 bJ.length (vn x)) ((bJ++Ov (xT).map).set t.ob (tZ (FE ⟨⟨xT,[],t.tr.out⟩,t.ob,bJ.length,n1⟩))):=eV (f3.trans f4) (tD (by rw[tR A!.ot]));rw[cV h6 (h5.seen (S.lB I) rf aWo rfl) (aUO h6 (by show gC rK;rw[asG]) λM' y1 y2=>⟨M',_,aIO B x t.tr.ahead ⟨⟨xT,[],t.tr.out⟩,t.ob,bJ.length,n1⟩,rfl,y1,jb.trans y2,aVH I S (iZ hk)⟩)]
universe zE
universe Sb
universe zE
end
mutual
section
namespace Sb
open PySem L2
abbrev oY:agC->aj
 |none=>.bb
 |mD=>ir b
abbrev f7:aki AX:=cK u (aV [η u.u,gL u.ns,.ah u.bd])
abbrev nM GC:aj:=ς [aCf,bF t.ahead,.ah t.out]
abbrev eR:Int->o9->aj:=cK t (nM t)
abbrev wKs gI(g:gf)N1 J9:kc:=
 [(agH,pF),(agr,zI),(ah2,Fs),(agG,ο 6),(ŭ,jc g),(Ĕ,η t),(LD,IE),(G7,ο j),(LO,ο 9),(VM,ο 10)]
structure ik gI cT n_ J9:Prop where
 oZ:D5 6 (W.points.map oY)
 mU:rH M 7 .ai (Vs Y j)
 wl:D5 j aM1
 Y_:7<j/\j≠9/\j≠10
 jy:M[9]? = RM .ai f7 W.falls
 j9:ajr M 10 .ai
structure qS J9(M M':aS):Prop where
 len:aoF
 out:∀i,i≠6->i≠7->i≠9->i≠10->i≠j->rE i->M'[i]? = M[i]?
section
variable {Y:dK}{M:aS}{W:b5}{j:Nat}{ρ:bu}
def qS.refl:nI M:=⟨fe,λ_ _ _ _ _ _ _=>rfl⟩
def qS.trans{aa M2:aS}(a:nI aa)(b:qS j aa M2):nI M2:=⟨Nat.le_trans a.len b.len,λi h1 h2 h3 h4 h5 h6=>eV (b.out i h1 h2 h3 h4 h5 (azU h6)) (a.out i h1 h2 h3 h4 h5 h6)⟩
def qS.set bf uK(h:n=6\/n=7\/n=9\/n=10\/n=j):nI (K! o):=⟨Ξ,λi h1 h2 h3 h4 h5 _=>p_ av⟩
def qS.push uK:nI (M++[o]):=⟨Ξ,λi _ _ _ _ _ hi=>UJ⟩
abbrev Gj(j i:Nat):Prop:=i=6\/i=7\/i=9\/i=10\/i=j
def ik.keep gw GA(h1:∀i,Gj j i->rE i->M'[i]? = M[i]?):zk M' W:=
 ⟨Ĭ 6 (aq rfl) (qN h.oZ) h.oZ,Ĭ 7 (aA (aq rfl)) (qN h.mU) h.mU,Ĭ j (aA (aA (aA (aA rfl)))) (qN h.wl) h.wl,h.Y_,Ĭ 9 (aA (aA (aq rfl))) (qN h.jy) h.jy,Ĭ 10 (aA (aA (aA (aq rfl)))) aaq h.j9⟩
def ik.push gw(o:dm):zk (M++[o]) W:=h.keep λi _ hi=>UJ
def ik.aNO gw(l:Rh):zk (sf 6 (l.map oY)) { W with points:=l}:=
 ⟨get_set h.oZ,ain,as2 (by rw[R6]),h.Y_,kB h.jy,kB h.j9⟩
def ik.am2 gw Un:zk (sf j (l.map aU)) (Q4 W l):=
 ⟨za (by rw[R6]) h.oZ,za (by rw[R6]) h.mU,get_set h.wl,h.Y_,za (by rw[R6]) h.jy,za (by rw[R6]) h.j9⟩
def ik.anc gw(g:gf)N1:zk (iK 7 .ai (wKs Y g t j)) { W with green:=g,now:=t}:=
 ⟨kB h.oZ,get_set h.mU,as2 (by rw[R6]),h.Y_,kB h.jy,kB h.j9⟩
def ik.ane gw(f:w_):zk (iK 9 .ai (encD f7 f)) { W with falls:=f}:=
 ⟨kB h.oZ,ain,as2 (by rw[R6]),h.Y_,get_set h.jy,kB h.j9⟩
def ik.S_ gw(d:Ol):zk (iK 10 .ai (gP eR d)) (Lx W d):=
 ⟨kB h.oZ,ain,as2 (by rw[R6]),h.Y_,kB h.jy,ars⟩
def ik.aNP gw Un:arx ((M++EI (l.map aU)).set 7 (.ai (VG Y))) (Q4 W l):=by
 rw[bI hp (aa4 (l.map aU)) aOq aaq];exact⟨kB hp.oZ,get_set hp.mU,afV av Ξ,⟨av,av,av⟩,kB hp.jy,kB hp.j9⟩
variable {g:gf}{t:Int}
def M8:Il agH=aN pF:=bU
def YB:Il agr=aN zI:=bU
def aZE:Il ah2=cJ Y.wait:=bU
def av2:Il agG=cF 6:=bU
def YU:Il ŭ=aN (jc g):=bU
def amA:Il Ĕ=cJ t:=bU
def YJ:Il LD=aN IE:=bU
def YV:Il G7=cF j:=bU
def Jq:Il LO=cF 9:=bU
def nP:Il VM=cF 10:=bU
def awe{g':gf}:jw (wKs Y g t j) ŭ (jc g')=wKs Y g' t j:=bU
def a1i{t':Int}:jw (wKs Y g t j) Ĕ (η t')=wKs Y g t' j:=bU
def aYn{j':Nat}:jw (wKs Y g t j) G7 (ο j')=wKs Y g t j':=bU
def aYo:di (wKs Y g t j)<lim:=by rw[Iv 10]
def ik.ix gw e7 d!{v:aj}(hd:c8=.ok (ο 7) M)(hv:qR (Vs Y j) (cx x)=fq):E6 d (dj x) ρ=.ok v M:=by
 rw[au,hd,ag,bg,ag];exact YA h.mU rfl hv
def ik.put gw d!{v:aj}:Df (ο 7) (Ω x) v M=aN (iK 7 .ai (jw (Vs Y j) (cx x) v)):=aCE h.mU rfl aYo
def awV bf{x v:aj}DC ae3(h:GF .bD)aJs:f_ (ο n) x M=.ok v M:=by
 rw[Á f_ ac2 h];simp only[L2.getD,h,hk,Option.map_some,hv]
abbrev alO(d:Ol)(p:Int):eL:=iE (aqb q (p∈aid q.2 s.1)).map
def aPN gb{p:Xc}:∀l:ry,arB=aCh[0]?
 |[]=>rfl
 |a::l=>by
  rw[List.find?_cons,List.filter_cons];cases h:p a with
  |true=>rfl
  |false=>simpa using aPN l
def ad0(d:Ol):((gP eR d).map λq=>AS q.1)=d.map (zY q q.1):=by rw[zy gP]
def aYp{P:DT}{eO:n0}{s:cM}{aa:aS}DK dH{ρ':bu}Gp(hi:GL M=.ok (xs,L9 .bD) aa)(hs:s ρ M=.nx ρ' (I_ .bD))(q:P (.nx ρ' M)):P (pb eO s ρ M):=
 aD1 h hi (by rw[V7 hs (get_set h) (by rw[az (M7 h) q])])
def Si{p:Int}gw(hn:gC Q8)(hl:QJ q (oF q.2.steps.length))(Dt:Ux 100):my [ο 7,η p] M=.ok (jN (LF p)) M:=by
 rw[mu my P q (q=.ok (jN (LF p)) M)]
 rw[bI e (tg [aI,kH,none] nP) hi (aBh e)];rw[ad0]at hi;rw[Lr hz (ajr (O2 .bD) 10 .bD) ars aOO (rH (O2 .bD) 7 .ai (Vs Y j)) ain (aYp (ρ':=[aI,kH,HK ((W.trains.filter (Cd (p∈aid q.2 s.1))).map (zY q q.1))]) h.j9 hi ?_ fB)]
 ·rw[aXY,oR (xs:=W.trains) (w:=nu 10 (.bD pQ)) (M':=O2 .bD) (zY q q.1) (Cd (p∈aid q.2 s.1)) (zY q q.1) (k7 (ρ=[y,kH,aI])) hi hz rN (QA q hq) (gX Dt)]
  ·rw[f6 (by rw[qs (LV qx Dt)]),Res.oS];rfl
  ·rw[rJ y hρ]
   refine Fp _ fR ?_ Cv;rw[asd (O2 .bD) hz aOO]
   rw[gM v1 (qR pQ I6=afX q.2) (by rw[AL,EP hn];rfl) e1 (K6 (ajP (d5 aH (dC Q6))) (Θ 0) [vN,kH,aI] aa=.ok (bF q.2.steps) aa) (by
    have e2:K6 aH aBk [vN,kH,aI] aa=.ok (ο 10) aa:=by
     rw[au,aT];rw[tG];rw[ag,bg,ag];exact YA aOO rfl nP
    rw[au,au,e2,ag,aT];rw[tG];rw[ag,awV hz (k:=I6) rfl v1,ag,bg,ag];exact u0 0) e3 (O1 pS (dc (mK (ajP (d5 aH (dC Q6))))) j_ r4 [vN,kH,aI] aa=.ok (ς ((aid q.2 s.1).map η)) aa) (by
    rw[IP q.2.steps w aa bE (zY s s.1) (k7 (ρ=[y])) (ja e1) (nH s) (gX (hl q hq))]
    ·rw[r9,f6 (by rw[s5 (hl q hq)]),List.map_map];rfl
    ·rw[E! H8])]
   show n9 (Q? _) [vN,kH,aI] aa=_;rw[PJ c_ au];rw[ag,e3,ag,avc];rfl
 ·refine CH (jN (LF p)) M;rw[dJ alO aPN];rw[PJ YZ kI];cases aAl (Cd (p∈aid q.2 s.1)) with
  |nil=>rfl
  |cons q l=>
   simp[gR,jN];exact u0 0
def acV DF Uo{ti:eL}gw(hp:BC p)(ht:gt [ο 7,η p] M=.ok (jN ti) M):auR gt [ο 7,η p] M=.ok (.ah (atb p||ti.isSome)) M:=by
 rw[Ur auR P q (q=.ok (.ah (atb p||ti.isSome)) M) e (h.ix (ρ:=[aI,kH]) (d:=ak) rfl YV) (CH (.ah (atb p||ti.isSome)) M)]
 have e2:Pk ο j p=.ok (aU (af1 p)) M:=SG h.wl (by rw[azC eX hp];rfl);rw[aHz,au,au,e,ag];simp only[aT,bB,bw,ag,e2,bg];cases af1 p with
 |none=>cases ti<;>simp[aU,ht,jN]
 |some r=>simp[aU]
def aYq{l:uN}fX:(l.filter zK).map (Ma o o jZ aj.bb (aU o))=(Sg r l).map aU:=by
 rw[r9];rw[dJ Sg List.map_map];refine EE o _;dsimp only[Function.comp];split<;>rfl
def YF fX gw(hl:aM9):auJ [ο 7,η r] M=.ok .bb ((M++Mq (nG).map).set 7 (.ai (VG Y))):=by
 rw[mu auJ P q (q=.ok .bb ((M++Mq (nG).map).set 7 (.ai (VG Y))))];rw[rM e (tg [aI,cv] YV) hp (aa4 ((nG).map aU)) (Xn dO (M++Mq (nG).map) (ο 7) (M++Mq (nG).map) (Ω "locks") (M++Mq (nG).map) ((M++Mq (nG).map).set 7 (.ai (VG Y))) Ξ (j0 hp.put aYn) Ae)];rw[oR (xs:=W.locks) (w:=nu j (ς aM1)) (M':=M) aU zK (Ma o o jZ aj.bb (aU o)) (k7 (ρ=[y,cv])) (SS e h.wl) h.wl rN (nH o) ON]
 ·rw[aYq,yq (by simp[Sg];exact ON)]
 ·rw[rJ y hρ];refine iX _ rfl fR (ck _);simp only[List.set_cons_zero,YZ,c_,au,aT,bB,bw,ag,bg];cases o with
  |none=>
   rw[aaI none .bb,ajx p adL (qc _)]
   simp
  |some r'=>
   rw[aaI (some r') (η r'),t_]
   rw[abq (r'=r)]
   ·rw[B5 e2]
   ·rw[aa3 e3 (aY r'=r) e2 e3]
universe zE
universe Sb
universe zE
section
namespace Sb
open PySem L2
section
variable {Y:dK}{M:aS}{W:b5}{j:Nat}{ρ:bu}
def au0:∀bs:GG,cE (bools (bs.map aj.ah)) bs
 |[]=>rfl
 |b::bs=>by rw[cZ,bools,au0 bs];rfl
abbrev axT rq oi:Bool:=match p with
 |.pl _ _=>true
 |.pt _ u _=>i7 u [s.2.1,s.2.2]
abbrev YX j! oi:Bool:=axT (d8 s.1) s
abbrev nZ n_ wV:Bool:=atb p||tE (LF p)
abbrev heldW n_ m_:Bool:=w.any λs=>(nZ W s.1)
def aTb fM m_ oi Un:ky r (w++[s]) l=(ky r w l).set s.1 jZ:=by rw[Ă ky]
def aPO(nV:tP)Oe m_ oi(l:Rh):og nV l5 (w++[s]) l=if nV s.1 then(og nV l5 w l).set s.1 (aN (l5 s)) else og nV l5 w l:=by rw[Ă og]
def a1j Gv e7(hd:c8=.ok (.ah b) M):(aa1 [ë,(dC gm)] (ay Nk [d])) ρ M=.ok (ir b) M:=by
 have e:vB i (∀x,jk ([MB,gm]:dY) x->Pk ς [MB,gm] i=.ok x M):=λi x h=>C3 h;simp only[au,eD,aR,bM,bg,ag,bP,hd];rw[xR,ag,hd,ag,ag,I8 (Nk [.ah b] M) .ok (η (ago b 0)) M,ag]
 cases b
 ·exact e 0 _ rfl
 ·exact e 1 _ rfl
def YO fX{lu:D1}gw GB ZC(yN:apR)Ud(qi:Xf)(TR:Â)(aOJ:W.points.length=Y.ps.length)(o4:ó)
  (hh:vB p (BC p->lu [ο 7,η p] M=.ok (.ah (nZ W p)) M)):
  (aO (ľ W)/\ald lu [ο 7,η r] M=.ok (Ω "held") M) ∨
  (arH W/\CU (ald lu [ο 7,η r] M=.ok (Ω "ok") M') (Zq Y.rs (qO Y.ps) aar W r)):=by
 rw[Ur ald P q ((aO (ľ W)/\q=.ok (Ω "held") M)\/(arH W/\CU (q=.ok (Ω "ok") M') (Zq Y.rs (qO Y.ps) aar W r))) e1 (h.ix (ρ:=[aI,cv,none,none,none]) (d:=ak) rfl YJ) (rO l? M)]
 ·rw[au,au,e1];simp[JB hr]
 rw[eB];rw[ko Zt (aj1 (apo s.1)) (λs tq=>ajN r s.1 (qK s tq)) (tV (ľ W))]
 ·have e2:O1 (ŝ 0) (dc aH) j_ (ay lu [aG,r4]) [aI,cv,vc,none,none] M=.ok (ς (((cX).map λs=>(nZ W s.1)).map .ah)) M:=by
   rw[IP cX w M bE (λs=>.ah (nZ W s.1)) (k7 (ρ=[y,aI])) OG (QA s hs) (gX qi)]
   ·rw[r9,iL (bh qi),List.map_map];rfl
   ·rw[rJ y hρ];refine iX _ rfl fR (ck _);have:=hh s.1 (by rw[az TR (Zt s hs)]);simp[bE];simpa using this
  rw[kI,bP,aR,e2];rw[qG bM];unfold ana
  simp only[AJ,Option.bind_some,au0,ag,gR,avH];rw[Ri heldW List.any_map]
 ·exact Lg (Ω "held") M (eP (Ik hk))
 rw[s_ (uV (nQ bE (LA aa (∃y z,ρ=[aI,cv,vc,y,z]/\zk aa (QL W (Uw r pre) points (og (qO Y.ps) aar pre W.points))/\nI aa))
  cX none M OG trivial (mw none none h qS.refl) ?_ ?_))]
 ·rintro pre s post hx ρ aa ⟨y,z,rfl,h1,f1⟩;rw[vd];rw[Rj Pt (Zt s (by rw[oB])) e2 (z6 [aI,cv,vc,BW,z] YV) (yl (η r) aa (ο j) aa (η s.1) aa (aa6 j ((Uw r (pre++[s])).map aU)) Ξ e2 H8 ?_ fB)]
  ·rw[Sw h1.wl (by simp;rw[eu au3 TR Pt]),aTb,List.map_set];rfl
  rw[agO h2 (h1.am2 (Uw r (pre++[s]))) f2 (nI (aa6 j ((Uw r (pre++[s])).map aU))) Rf (aa6 j ((Uw r (pre++[s])).map aU)) M2 h2 f2];rw[cV e3 (LY [aI,cv,vc,BW,z] d M8) (UH (RK s.1).enc M2 ?_)]
  ·rw[au,e3];simp only[au,aT,bg,bB,bw,ag];rw[kS (f_ (bE s) (η 0) M2) (.ok (η s.1) M2) S3,ag,FT Pt]
  rw[ji (H? (ø s.1) M2)]
  ·unfold qO;cases hp:RK s.1<;>simp[dR.enc,qW]
  ·rw[cV e4 (LY [aI,cv,vc,BW,some (RK s.1).enc] d av2) (yl (ir (YX Y.ps s)) M2 (ο 6) M2 (η s.1) M2 (ER 6 ς ((og (qO Y.ps) aar (pre++[s]) W.points).map oY)) ?_ e4 H8 ?_ (lU (tf _ (h2.aNO _) (ahU tv))))]
   ·unfold qO at cS;unfold YX;cases hp:RK s.1 with
    |pl a b=>rw[hp]at cS;cases cS
    |pt t u b=>
     rw[dX e (ai6 (η u) (aV ([s.2.1,s.2.2].map η)) M2=_) aFX (a1j ?_)];rw[au,au];simp only[aT,bg,Y0,Su,Yt,bB,bw,ag,dR.enc,aea];rw[aHC,ag,e];rfl
   ·rw[Sw h2.oZ (by simp;rw[eu aEc aOJ Pt]),aPO,if_pos cS,List.map_set];rfl
  ·rw[s_ (lU (tf _ ?_ f2))];rw[eu aPO (zR (by rw[ao4 cS])) h2]
 ·rw[GW aa y z rfl h1 f1];rw[cV e2 (z6 [aI,cv,vc,y,z] YU) (uV (Xn (jc (Vk [r])) aa (ο 7) aa (Ω "green") aa (aa.set 7 (.ai (RU (Vk [r])))) Ξ (j0 h1.put awe) (ajw _ (aA (tf hk (h1.anc _ _) Rf)))))];rw[au,e2];simp only[eD,aR,bM,aT,bB,bw,ag];rw[xR,ag,Sq,f6 (by rw[V9 lim])];simp
universe zE
universe Sb
universe zE
section
namespace Sb
open PySem L2
section
variable {Y:dK}{M:aS}{W:b5}{j:Nat}{ρ:bu}
def anf T! Z0:ud 2 (qP (bR a) (L8 (bR b))) (aV [x,y]) ρ=rL (D6 a).set b zg:=rfl
def aNQ m_:Qa (bF w):=by
 intro y hy;rw[apl s rfl hy];rw[RI z hz hz];rcases hz with rfl | rfl | rfl<;>exact qc _
def eq_nil qp wK:OE (bF w) (ς []) M=.ok (.ah (yZ (fC w []) (fC w []))) M:=
 als (aNQ w) (aNQ []) (by cases w<;>simp[bF])
abbrev vT gI qm GC:Bool:=fC t.ahead []&&(! t.out&&(fC zb (gA s).1&&Xu vh.1 (gA s).2))
abbrev Jf gI(d:Ol)qm:eK:=iE (d.filter λq=>vT Y s q.2).map
def aGe dS:∀l:eK,U5 n (l.map η)
 |[]=>rfl
 |x::l=>by rw[cZ,aj.yx,aGe n l];rfl
def acW N2 gw(hs:uX)(hn:gC Q8)(fg:QJ q (q.2.steps≠[]))(Dt:Ux 100):trunc auL [ο 7,η s] M=.ok (gL CQ) M:=by
 refine VN (aGe _ _);rw[Ľ auL P q (∃G,q=.ok (gL CQ) (M++G)) e1 [aI,er,none,none,none,none,none,none] d YB (ad7 WZ [aI,er,CK,B?,none,none,none,none] M ?_ anf fB)]
 ·rw[au,e1];simp[S4 hs]
 rw[Vd (ahW (M++[ς []]))];rw[Rj hp (aa4 []) e2 (hp.ix (ρ:=[aI,er,CK,B?,g?,none,none,none]) (d:=ak) rfl nP) ?_];rw[aaH hi (keys_eq hp.j9 e2) ad0 hi hp.j9 hi ?_];have aOq:=aaq;rw[eE zs (∀f:dY,ajr ((M++EI f).set 10 (.bD pQ)) 10 .bD) (λf=>get_set (aa4 f).j9) adO (∀f:dY,rH ((M++EI f).set 10 (.bD pQ)) 7 .ai (Vs Y j)) (λf=>kB (aa4 f).mU) a5V (∀f:dY,((M++EI f).set 10 (.bD pQ))[M.length]? = kQ f) (λf=>afV av Ξ) a5X (∀f f':dY,((M++EI f).set 10 (.bD pQ)).set M.length (ς f')=(M++EI f').set 10 (.bD pQ)) (λf f'=>by
  rw[gp (List.set_comm _ _ av)])]
 refine nQ (λq:Int×o9=>aj.int q.1) (pI (∃a b c,ρ=[aI,er,CK,B?,g?,a,b,c]/\M'=(M++R0 (IW).map η).set 10 (.bD pQ))) W.trains _ _ hi (zs []) aiD ?_ ?_
 ·rintro pre q post hx ρ M' ⟨a,b,c,rfl,rfl⟩;rw[vd]
  rw[bq hq (q∈W.trains) (by rw[oB]) v1 (qR pQ I6=afX q.2) (by rw[AL,EP hn];rfl)]
  rw[vH z1 (zs ((IW).map η)) z2 (adO ((IW).map η)) SX (a5V ((IW).map η)) aEN (a5X ((IW).map η))]
  rw[bq J4 (oF (di IW)) (by
   rw[dJ Jf eH];refine KI qx ?_;rw[hx,List.length_append]at Dt;omega) xn (Jf Y (pre++[q]) s=IW++(if vT Y s q.2 then[q.1] else[])) (by
   rw[kF Jf List.filter_append List.map_append List.filter_cons];split<;>rfl)]
  rw[xn];generalize (M++R0 (IW).map η).set 10 (.bD pQ)=aa at z1 z2 SX aEN
  rw[dX et (∀ρ:bu,abJ 0->K6 ak aBk ρ aa=.ok (ο 10) aa) (Ce h0 (by
   rw[au,aT,h0];dsimp only;rw[ag,bg,ag];exact YA z2 rfl nP)) (rO (nM q.2) aa)]
  ·rw[au,et _ rfl,ag,aT];rw[agu ag (awV z1 (k:=I6) rfl v1)]
  rw[eB];rw[eE aC3 (f_ (nM q.2) (η 0) aa=.ok (bF q.2.steps) aa) (u0 0) i1 (f_ (nM q.2) (η 1) aa=.ok (bF q.2.ahead) aa) (u0 1) i2 (f_ (nM q.2) (η 2) aa=.ok (.ah q.2.out) aa) (u0 2) i3 (f_ (bF q.2.steps) (η 0) aa=.ok (bE (cn q.2)) aa) (C3 (i:=0) (amz (fg q hq)))];rw[vI i4 (f_ (bE (cn q.2)) (η 2) aa=.ok (η (cn q.2).2.2) aa) aea i5 (f_ (bE (cn q.2)) (η 0) aa=.ok (η (cn q.2).1) aa) S3 (rO (bE (cn q.2)) aa)]
  ·simp only[au,aT,bg,bB,bw,ag,aC3,i3]
  rw[ji (G5 (vT Y s q.2) aa)]
  ·rw[bq el (∀ρ:bu,Lo [] ρ aa=.ok (ς []) aa) (λρ=>by rw[Oo yi bM (f6 aC)]) akB (∀b:Bool,aiy aa (.ah b) aa=.ok b aa) (UM b)];simp only[Jo,c_,Jp,kI,au,aT,bg,bB,bw,ag,i1,i2,i4,i5,el,eq_nil,t_,akB];unfold vT;rw[B4 (q.2.ahead=[])]
   ·cases h2:q.2.out
    ·by_cases h3:(cn q.2).2.2=(gA s).1
     ·by_cases h4:(cn q.2).1=(gA s).2
      ·simp[h1,h3,h4]
      ·have h5:¬(aY (cn q.2).1=aY (gA s).2):=fD (h4 aqA);simp[h1,h3,h4,h5]
     ·simp[h1,h3]
    ·simp[h1]
   ·simp[h1]
  ·rw[Hg]
   rw[dX em (fI p! bY [fU] [aI,er,CK,B?,g?,vN,afX q.2,Q7 (cn q.2)] aa=.ok .bb (aa6 M.length ((IW).map η++[η q.1]))) (by
    rw[ama rfl SX (xs:=[η q.1]) rfl];unfold p! jP;rw[rP SX (kR (by rw[qs (UE J4)]))]) (nL .bb _ em ?_)];rw[aEN];rw[mC (Ĝ (zs _) _ _ ?_) List.map_append]
   rfl
  ·rw[hk,xU,mV];have:=aEN ((IW).map η);rw[s_ (Ĝ z1 _ _ ?_)];rw[←this,avV SX]
 ·rw[GW M' a b c rfl rfl];rw[fy (zs _) fB];rw[xg (M7 (aa4 ((CQ).map η)).j9) (HU (gL CQ) (M++Ij) ajb)];simp[Di,Fm]
universe zE
universe Sb
universe zE
section
namespace Sb
open PySem L2
section
variable {Y:dK}{M:aS}{W:b5}{j:Nat}{ρ:bu}
def aHd qp fX{ns:gf}:I! (η r) (jc ns)=.ok (.ah (Wq r ns r ns)) M:=
 SD (enc:=z4 (n:Nat)) (λa=>qc _) (λa b e=>by cases e;rfl) (a:=r) (as:=ns) rfl
def lr fX{iP bX oV:D1}gw Ud(hs:Hu cg)(o4:ó)(yO:afO)
  (hn:∀M W' qm,zk M W'->atr W.trains->uX->iP [ο 7,η s] M=.ok (gL CQ) M)
  aor
  (hf:∀M W,DP->Â->oV [ο 7,η r] M=.ok .bb ((M++Mq (nG).map).set 7 (.ai (VG Y))))
  (TR:Â):
  (Lj r/\acv iP bX oV [ο 7,η r] M=.ok (Ω "none") M) ∨
  (tn/\((gJ (tW&&(! L6||kh))/\CU (acv iP bX oV [ο 7,η r] M=.ok (Ω "ok") M') (S9 W r ⟨Pb,Fl,kh⟩)) ∨
   (qI (tW&&(! L6||kh))/\uR (acv iP bX oV [ο 7,η r] M=.ok (Ω "ok") M') (arx M' (YT W r)) (qS j M M')))):=by
 rw[Ľ acv P q ((Lj r/\q=.ok (Ω "none") M) ∨
  (tn/\((gJ (tW&&(! L6||kh))/\CU (q=.ok (Ω "ok") M') (S9 W r ⟨Pb,Fl,kh⟩)) ∨
   (qI (tW&&(! L6||kh))/\uR (q=.ok (Ω "ok") M') (arx M' (YT W r)) (qS j M M'))))) e1 [aI,cv,none,none,none,none] d YU (tV (!(i7 r W.green)))]
 ·rw[c_,au,B3 1 [aI,cv,none,none,none,none] M .ok r M,ag,e1,ag,aHd]
  rfl
 ·exact Lg (Ω "none") M (eP (Ik pL))
 rw[dX hk tn pL (c5 (uV (Xn (jc (z7 x x)) M (ο 7) M (Ω "green") M (iK 7 .ai (RU (z7 x x))) Ξ (j0 h.put awe) fB)))]
 ·rw[oR (xs:=W.green) (w:=none) (M':=M) (z4 (n:Nat)) (oE x x r) (z4 (n:Nat)) (k7 (ρ=[y,cv])) (ja e1) trivial rN (nH x) (gX o4)]
  ·exact f6 (by rw[qs (LV qx o4)])
  ·rw[rJ y hρ]
   refine Fp _ fR ?_ Cv
   simp only[List.set_cons_zero,c_,au,aT,bB,bw,ag,t_];rw[abq (x=r)]
   ·rw[B5 e2]
   ·rw[aa3 e3 (aY x=r) e2 e3]
 rw[zp h1 (h.anc (z7 x x) W.now) f1 (nI (iK 7 .ai (RU (z7 x x)))) tv l1 (ahp (iK 7 .ai (RU (z7 x x)))) List.length_set]
 generalize iK 7 .ai (RU (z7 x x))=aa at h1 f1 l1
 have aOg:∀Bj,abJ 0->yW 1 cv->K6 (om Lz) (Θ 0) ρ aa=.ok (η cg) aa:=λρ h0 akz=>by
  have:=h1.ix (ρ:=ρ) (d:=ak) (B! h0) YJ;rw[au,au,this,ag,aT,akz];simp[JB hr]
 rw[CC e2 (z6 [aI,cv,none,none,none,none] YB) (ad7 (fE (gA cg)) [aI,cv,aj2,cJ (gA cg).2,none,none] aa ?_ anf fB)]
 ·rw[au,e2,ag,aOg _ rfl rfl,ag,S4 hs]
 rw[zh (gL Fl) aa]
 ·rw[bP,aR,aT];simp only[bB,bw,ag];rw[aR,aOg _ rfl rfl];simp[hn aa _ cg h1 rfl hs]
 rw[eB];rw[Wi e3 (z6 [aI,cv,aj2,cJ (gA cg).2,HJ Fl,none] M8) (.ah kh) aa]
 ·rw[au,bP,aR,e3];simp only[aR,bM,aT,bB,bw,ag,bg,hb];unfold Az;cases È (gA cg).2 (gA cg).1<;>rfl
 rw[ags e4 (z6 [aI,cv,aj2,cJ (gA cg).2,HJ Fl,Ex .ah kh] aZE) e5 (z6 [aI,cv,aj2,cJ (gA cg).2,HJ Fl,Ex .ah kh] amA)];rw[CC e6 (z6 [aI,cv,aj2,cJ (gA cg).2,HJ Fl,Ex .ah kh] Jq) (H? (tW&&(! L6||kh)) aa)]
 ·rw[Jo,c_,au,e4];simp only[ag,bg,aWk,yn,kI,aT,bB,bw,avH]
  rw[bq akB (∀l:eK,gR aa (gL l)=aN (! l.isEmpty)) (λl=>by cases l<;>rfl) aCP (∀b:Bool,gR aa (.ah b)=mD) (UM b)];cases J4:L6<;>by_cases akF:0<Y.wait<;>simp[akF,akB,aCP,J4]
 ·refine Xn (f7 r ⟨Pb,Fl,kh⟩) aa (ο 9) aa (η r) aa (V! 9 .ai f7 (ahN r ⟨Pb,Fl,kh⟩)) e6 ?_ (ajw _ (r? hk (aq (tf cS (h1.ane _) Rf))))
  ·rw[FF,aR,au,e5,ag,e4,ag,I8 (sq false (η W.now) Fs aa) .ok (η Pb) aa]
   simp[f7]
  ·rw[ahE h1.jy r (by rw[ah7 uk yO])]
   congr 3
   exact uj f7 r _ _
 ·rw[cV lZ (hf aa _ h1 TR) (nL .bb _ (by rw[rF lZ]) (ajw _ (r? hk (aA (tf cS ?_ (agZ qS.push tv))))))];have:=h1.aNP nG;rw[rQ l1 this this]
def acX{oV:D1}gw(kO:gC mL)(yO:afO)(TR:Â)
  (hf:∀M W j fM,DP->Â->oV [ο 7,η r] M=.ok .bb ((M++Mq (nG).map).set 7 (.ai (VG Y)))):
  ∃M' j',auU oV [ο 7] M=.ok (Ω "ok") M'/\ik Y M' (FU W) j'/\nI M'/\(j'=j\/ã j'):=by
 rw[Ľ auU P q (∃M' j',q=.ok (Ω "ok") M'/\ik Y M' (FU W) j'/\nI M'/\(j'=j\/ã j')) e1 [aI,none] d amA (Xn (η z_) M (ο 7) M (Ω "now") M (iK 7 .ai (apr Y z_ j)) Ξ (j0 h.put a1i) fB)]
 ·rw[au,e1,ag,bg,ag];rfl
 rw[agO h1 (h.anc W.green z_) f1 (nI (iK 7 .ai (apr Y z_ j))) tv (iK 7 .ai (apr Y z_ j)) aa h1 f1];have e2:=z6 [aI,none] Jq
 rw[ko ei (ay Ln [xY] [aI,none] aa=.ok (ς ((mL).map (ED (r:Nat) r))) aa) (by
  rw[bP,aR,e2];rw[qG bM]
  rw[Cr SA (oW h1.jy)]
  have e3:(encD f7 W.falls).map (λq=>AS q.1)=(mL).map (ED (r:Nat) r):=by
   rw[aqt encD];rfl
  rw[e3,f6 (by rw[ahy yO])]) (CI (ED (r:Nat) r) (LA M2 (∃y j2,ρ=[aI,y]/\ik Y M2 (Mn W) j2/\nI M2/\(j2=j\/ã j2)/\(Mn W).locks.length=Y.ps.length)) mL aa (ja ei) ⟨none,j,rfl,h1,f1,aq rfl,TR⟩)]
 ·rintro pre r post hx ρ M2 ⟨y,j2,rfl,h2,f2,o2,l2⟩;rw[vd];rw[zp NY (FX kO hx) JL (b4 (Mn W).falls r=G9 r) (aFr pre _ NY) axS (r∈mL) (by rw[oB])]
  rw[UC u Gg ((ahO _).mp axS)]
  have aeF:(Mn W).now=z_:=by rw[aEy];rfl
  rw[bI e3 (LY [aI,cv] d Jq) e4 (LY [aI,cv] d amA)]
  rw[gM e5 (K6 (om xY) (Θ 0) [aI,cv] M2=.ok (η u.u) M2) (by
   rw[au,au,e3,ag];rw[PO];rw[YA h2.jy (k:=jX r) (v:=f7 r u) rfl (by rw[t!,JL,Gg];rfl)];simp[f7]) xn ((pre++[r]).foldl nO (adF W)=nO (Mn W) r) (by rw[List.foldl_append];rfl) JP (zt (Mn W).falls (Mn W).now r=EO u.u z_) (by
   rw[kF zt JL Gg aeF])]
  generalize Mn W=aeK at *;refine G5 (EO u.u z_) M2
  ·rw[c_,au,e5,ag,e4,ag,aeF,aGs];rfl
  ·rw[mC (gV (Zd (k:=jX r) (y:=η r) (f7 r u) e3 h2.jy Ξ rfl (by rw[t!,JL,Gg];rfl) fB)) alb];rw[zp h3 (h2.ane (aq2 r)) f3 (nI (ER 9 .ai (zj f7 (aq2 r)))) (ahU tv) l3 (di (ER 9 .ai (zj f7 (aq2 r)))=M2.length) List.length_set]
   generalize ER 9 .ai (zj f7 (aq2 r))=bJ at h3 f3 l3;rw[cV lZ (hf bJ _ _ r h3 l2) (nL .bb _ (by rw[rF lZ]) (lU ⟨_,bJ.length,rfl,?_,eV (f3.trans qS.push) tv,aA f3.len,?_⟩))]
   ·rw[xn];rw[jW nO (kR aA4) (h3.aNP _)]
   ·rw[xn];rw[dJ nO (kR aA4)];simpa[Sg] using l2
  ·rw[s_ (lU ⟨_,j2,rfl,?_,f2,o2,?_⟩)]
   ·rw[xn];rw[jW nO (HF hc (by rw[aAC fj hc hk fj];cases fj)) h2]
   ·rw[xn];rw[jW nO (HF hc (by rw[aAC fj hc hk fj];cases fj)) l2]
 ·rintro ρ' M2 ⟨y,j2,rfl,h2,f2,o2,l2⟩;exact xh (Ω "ok") M2 (tY M2 j2 h2 f2 o2)
def acN DF{lu:D1}gw(hp:w7)(TR:Â)(Kj:I2->∃b,oK W.points p b)
  (hh:lu [ο 7,η p] M=.ok (.ah (nZ W p)) M):
  (arG p/\acF lu [ο 7,η p] M=.ok (Ω "none") M) ∨
  (I2/\((gJ (nZ W p)/\acF lu [ο 7,η p] M=.ok (Ω "held") M) ∨
   (qI (nZ W p)/\CU (acF lu [ο 7,η p] M=.ok (Ω "ok") M') (Ng W p)))):=by
 rw[Ľ acF P q ((arG p/\q=.ok (Ω "none") M) ∨
  (I2/\((gJ (nZ W p)/\q=.ok (Ω "held") M) ∨
   (qI (nZ W p)/\CU (q=.ok (Ω "ok") M') (Ng W p))))) e1 [aI,kH] d M8 (tV (!(ø p)))]
 ·rw[c_,au,au,au,e1];simp only[aT,bB,bw,ag,FT hp,bg];unfold qO;cases hp:RK p<;>simp[dR.enc,qW]
 ·exact Lg (Ω "none") M (eP (Ik pL))
 rw[dX hk I2 pL (c5 (uV (H? (nZ W p) M)))]
 ·simp[hh,gR]
 ·exact Lg (Ω "held") M (eP (r? hk (Ik cS)))
 rw[tw b hb (Kj hk) ab1 (p<W.points.length) (List.getElem?_eq_some_iff.mp hb).1];have h1:=h.push (.ai [(Vv,MB),(VL,gm)]);rw[gM f1 (nI (M++[.ai [(Vv,MB),(VL,gm)]])) qS.push g1 ((M++Ca [(Vv,MB),(VL,gm)])[M.length]? = d7 .ai [(Vv,MB),(VL,gm)]) Ξ ed (Dh [("straight",ë),("branch",(dC gm))] [aI,kH] M=.ok dO (M++Ca [(Vv,MB),(VL,gm)])) (by
  rw[afB])]
 generalize M++Ca [(Vv,MB),(VL,gm)]=aa at h1 f1 g1 ed;rw[D7 e2 (z6 [aI,kH] av2) e3 (f_ (ο 6) (η p) aa=.ok (ir b) aa) (SG h1.oZ (by rw[eX,hb];rfl)) (c5 (uV (Xn (ir (! b)) aa (ο 6) aa (η p) aa (aa6 6 ((apZ (some ! b)).map oY)) e2 (by rw[Sw h1.oZ (bh ab1),List.map_set];rfl) (ajw _ (r? hk (aA (tf cS ?_ Rf)))))))]
 ·rw[au,ed,ag,au,e2,ag];simp only[aT,bB,bw,ag,e3];cases b
  ·exact V2 g1 k VL bU
  ·exact V2 g1 k Vv bU
 ·have:=h1.aNO (apZ (some ! b));rw[f5 Ng List.getD_eq_getElem?_getD hb];rw[zf]
universe zE
universe Sb
universe zE
end
mutual
section
namespace Sb
open PySem L2
section
variable {Y:dK}{M:aS}{W:b5}{j:Nat}{ρ:bu}
abbrev amB rm Uh:b5:={ W with green:=aAv (oE y y r),falls:=RL r,locks:=Pa ((jH).headD (0,0,0))}
abbrev uo J7 fM:AX:=(G9 r).getD (BD 0 [x])
def awW aoi:wA Y W x s r=(fC cg s&&((uo W x r).bd||i7 x (uo W x r).ns)):=by
 unfold wA uo;cases G9 r<;>simp
def aIb(d:w_):((W2 f7).map λq=>AS q.1)=(qC).map (z4 (n:Nat)):=by
 rw[aqt encD];rfl
def aYr qp gc Oc:I! (η x) (gL ns)=.ok (.ah (Wq x ns x ns)) M:=avc
def aUP{ρ:bu}dU fX{g:gf}e7(hd:c8=.ok (jc g) M)(hc:F7 (CM fc) ρ=CM cv)(hl:Eh g.length):
  O1 (CM fc) (dc d) O4 ak ρ M=.ok (jc (g.filter (oE x x r))) M:=by
 rw[oR (xs:=g) (w:=none) (M':=M) (z4 (n:Nat)) (oE x x r) (z4 (n:Nat)) (k7 (ρ=[y,cv])) (ja hd) trivial ⟨none,hc⟩ (nH x) ON]
 ·exact f6 (by rw[qs (LV qx hl)])
 ·rw[rJ y hρ]
  refine Fp _ fR ?_ Cv
  simp only[List.set_cons_zero,c_,au,aT,bB,bw,ag,t_];rw[abq (x=r)]
  ·rw[B5 e2]
  ·have e3:¬(aY x=r):=fD (e2 aqA);simp[e2,e3]
def YG gc N2 gw(A6:∀r,wX->lI)ayr(qi:XX r Xf)(o4:ó)(yO:afO)
  (uz:∀r,wX->BC ((cX).headD (0,0,0)).1):
  match wk Y W x s with
  |none=>ak8 [ο 7,η s,η x] M=.ok .bb M
  |jZ=>CU (ak8 [ο 7,η s,η x] M=.ok l? M') (amB Y.rs W r):=by
 rw[mu ak8 P q (match wk Y W x s with | none=>q=.ok .bb M | jZ=>CU (q=.ok l? M') (amB Y.rs W r))]
 rw[bI e1 (tg [aI,er,aX,none,none,none] YU) e2 (tg [aI,er,aX,none,none,none] Jq)]
 rw[ko ei (cD (sq false) ŕ (ay Ln [xY]) [aI,er,aX,none,none,none] M=.ok (ς ((ajp).map (z4 (n:Nat)))) M) (by
  rw[au,e1,ag,bP,aR,e2];rw[qG bM];rw[Cr SA (oW h.jy)];rw[aIb,f6 (by rw[ahy yO]),ag,Sq,List.map_append,f6 (by rw[V9 lim])]) (CI (z4 (n:Nat)) (pI (∃a b c,ρ=[aI,er,aX,a,b,c]/\M'=M/\apS (wA Y W x s))) ajp M (ja ei) ⟨none,none,none,rfl,rfl,rfl⟩)]
 ·rintro pre r post hx ρ M' ⟨a,b,c,rfl,rfl,g7⟩;rw[vd];have hlr:wX:=aL2 (by rw[oB]);rw[zp hr (A6 r hlr) a1k (aO (wA Y W x s r)->wk Y W x s=jZ) (λhm=>by
   unfold wk;rw[hx,List.find?_append,g7,List.find?_cons,hm];rfl) aIS (dQ (wA Y W x s r)->b9 ((pre++[r]).find? (wA Y W x s))) (λhm=>by
   rw[List.find?_append,g7,List.find?_cons,hm];rfl)]
  rw[dX Jj (K6 Lz bH [aI,er,aX,cv,b,c] M'=.ok (aV [η cg,l?]) M') (by
   have:=tg [aI,er,aX,cv,b,c] YJ;rw[au,this,ag,aT];rw[agu ag (JB hr)]) (G5 (fC cg s) M')]
  ·rw[c_,au,au,Jj,ag,bg,ag,I8 (f_ (aV [η cg,l?]) (η 0) M') .ok (η cg) M',ag,aT]
   rw[tG];rw[ag,t_];by_cases dB:cg=s
   ·simp[dB]
   ·have ako:¬(aY cg=aY s):=fD (dB aqA);simp[dB,ako]
  ·rw[rM hk aLY e3 (tg [aI,er,aX,cv,b,c] Jq) (rO (f7 r (uo W x r)) M')]
   ·rw[kF Nb e3 ag (oW h.jy)]
    rw[ku aT];rw[tG];rw[ag]
    have ed:cA [Θ 0,sd aH,u9 .ah] [aI,er,aX,cv,b,c] M'=.ok (aV [η 0,ς [η x],lO .ah]) M':=by
     unfold cA yi;simp only[aR,bM,bg,aT,bB,bw,ag];rw[V8 (f6 (by rw[BL (1≤lim)]))]
    rw[ed,ag,oW h.jy];rw[rP iR t!];unfold uo;cases G9 r<;>rfl
   rw[ji (H? ((uo W x r).bd||i7 x (uo W x r).ns) M')]
   ·rw[gM i2 (f_ (f7 r (uo W x r)) (η 2) M'=.ok (.ah (uo W x r).bd) M') rfl i1 (f_ (f7 r (uo W x r)) (η 1) M'=.ok (gL (uo W x r).ns) M') rfl akB (∀b:Bool,aiy M' (.ah b) M'=.ok b M') (UM b)];simp only[yn,kI,c_,au,aT,bg,bB,bw,ag,i1,i2,aYr,akB];cases(uo W x r).bd<;>simp
   ·have hm:aO (wA Y W x s r):=by rw[awW,cS];simp[hk]
    rw[a1k hm]
    rw[Ŝ w e9 (∃s0 w,cX=s0::w) (by
     cases dB:cX with
     |nil=>rw[pO dB (fg r hr)]
     |cons a b=>exact kA a b)]
    rw[bI e4 (tg [aI,er,aX,cv,Ģ r (uo W x r),c] YU) h1 (h.anc (z7 y y) W.now)]
    rw[ko f1 (qS j M' (M'.set 7 (.ai (RU (z7 y y))))) tv (yl (jc (z7 y y)) M' (ο 7) M' (Ω "green") M' (M'.set 7 (.ai (RU (z7 y y)))) (aUP e4 rfl o4) rfl rfl (j0 h.put awe) fB)];rw[asd (M'.set 7 (.ai (RU (z7 y y)))) h1 f1];have e5:=z6 [aI,er,aX,cv,Ģ r (uo W x r),c] Jq;rw[zU v2 p2 (av1 (dx:=dC .bb) (z:=.bb) e5 h1.jy (k:=r) (dk:=bH) rfl rfl) h2 (h1.ane (RL r))];rw[ko f2 (qS j M' (V! 9 .ai f7 (RL r))) Rf (č v2 _ p2)];generalize V! 9 .ai f7 (RL r)=M2 at h2 f2;rw[zh l? M2]
    ·have e6:=LY [aI,er,aX,cv,Ģ r (uo W x r),c] d YJ;rw[bP,aR,au,au,e6,ag,aT];rw[tG];rw[ag,JB hr,ag,bg,ag,I8 (f_ (aV [η cg,l?]) (η 1) M2) .ok l? M2,ag,bM,ag,ag]
     rw[Cr sy ac1];exact f6 (by rw[s5 (qi r hr)])
    rw[ags lZ (LY [aI,er,aX,cv,Ģ r (uo W x r),vc] d YV) g8 (uz r hlr)];rw[e9]at g8;rw[CC h3 (h2.am2 PC) (yl .bb M2 (ο j) M2 (η s0.1) M2 (ER j ς ((PC).map aU)) rfl lZ ?_ ?_ (kn (qL l? _ rfl (al1 (t8 (eP (rC _ ?_ (ahU tv))))))))]
    ·rw[PJ au au];rw[ag,bg,ag,e9,kS (f_ (bF (s0::w)) (η 0) M2) (.ok (bE s0) M2) (u0 0),ag,bg,ag]
     exact S3
    ·rw[Sw h2.wl (by rw[qs g8]),List.map_set];rfl
    ·rw[jW amB e9 h3]
   ·rw[s_ (lU ⟨_,_,_,rfl,rfl,aIS ?_⟩)];rw[awW,cS,Bool.and_false]
  ·rw[s_ (lU ⟨_,_,_,rfl,rfl,aIS ?_⟩)];rw[awW,hk,Bool.false_and]
 ·rintro ρ' M' ⟨a,b,c,rfl,rfl,g7⟩;refine xh .bb M' ?_;have:b9 (wk Y W x s):=g7;rw[this]
universe zE
universe Sb
universe zE
section
namespace Sb
open PySem L2
abbrev l0:o7->Str
 |.ok=> "ok"
 |cG=> "none"
 |.held=> "held"
 |.red=> "red"
abbrev Dk gI J9 cT ayL(W':b5):Prop:=match k with
 |.ok=>∃M' j',res=.ok (Ω "ok") M'/\ik Y M' W' j'/\nI M'/\(j'=j\/ã j')
 |cG=>res=.ok (Ω "none") M
 |.held=>res=.ok (Ω "held") M
 |.red=>res=.ok (Ω "red") M
section
variable {Y:dK}{M:aS}{W:b5}{j:Nat}{ρ:bu}
def aZl dH:L7 u_ none=xs.drop 1:=by
 cases xs with
 |nil=>rfl
 |cons x xs=>exact aHV (k:=1) Ξ
def aZm dH:aaT (aN (-1))=xs.dropLast:=by
 rw[kF SM qj.avF Nat.sub_zero List.drop_zero]
 have e:Vw (aN (-1))=Lk 1:=by
  unfold qj.md;rw[ku (if_pos aC)];omega
 rw[e,List.dropLast_eq_take]
def aZn dH:aaT u_=xs.take 1:=FK (k:=1)
def aIp wK:jd false (bF w) .bb M=.ok (lO .ah) M:=rfl
def axr wK(hl:aBo):aiw (bF w) u_ M=.ok (bF (w.take 1)) M:=by
 show(match lQ (ς Lp) with | jl=>R2 (aaT u_) M | none=>aE)=_
 rw[vL AJ];rw[aZn,←List.map_take,f6 (by rw[s5 (azu _)])]
def axt wK(hl:aBo):yG false (bF w) u_ none M=.ok (bF (w.drop 1)) M:=by
 show(match lQ (ς Lp) with | jl=>R2 (L7 u_ none) M | none=>aE)=_
 rw[vL AJ];rw[aZl,←List.map_drop,f6 (by rw[eu eH List.length_drop (LV (Nat.sub_le _ _) hl)])]
def a1l wK(hl:aBo):aiw (bF w) (aN (-1)) M=.ok (bF w.dropLast) M:=by
 show(match lQ (ς Lp) with | jl=>R2 (aaT (aN (-1))) M | none=>aE)=_
 rw[vL AJ];rw[aZm,←List.map_dropLast,f6 (by rw[eu eH List.length_dropLast (LV (Nat.sub_le _ _) hl)])]
def XB{a b:iz}(ha:oF a.length)(hb:oF b.length):sq false (bF a) (bF b) M=.ok (bF (a++b)) M:=by
 show R2 (Ea++b.map bE) M=_;rw[←List.map_append,f6 (by rw[eH,List.length_append];rw[MJ (_≤16000000)])]
abbrev awI gI(dG:D1):Prop:=∀cT n_ J9 gS qm,DP->(∀r,wX->lI)->ó->afO->(∀r,wX->BC ((cX).headD (0,0,0)).1) →
 match wk Y W x s with
 |none=>dG [ο 7,η s,η x] M=.ok .bb M
 |jZ=>CU (dG [ο 7,η s,η x] M=.ok l? M') (amB Y.rs W r)
structure aIn pe:Prop where
 lv:∀r,wX->lI
 gl:ó
 fl:afO
 lk:∀r,wX->BC ((cX).headD (0,0,0)).1
 wl:XX r Xf
 nd:gC Q8
 tl:Ux 100
 sl:∀x t,dZ=fm->t.steps.length≤99/\oF t.ahead.length/\att []
 al:∀x t,dZ=fm->U8 (BC s.1)
def a5F sQ gw(hl:Ux 100):Df (ο 10) (η x) (nM t) M=aN (iK 10 .ai (gP eR (zF t))):=by
 rw[Fc h.j9 zl (by rw[ah7 avT hl])]
 congr 3
 exact aGq eR x t _
def alV aoi(h:wk Y W x s=jZ):wX:=aL2 (List.mem_of_find?_eq_some h)
def acO gc N2{bX dG:D1}an6(hs:uX)aor(hp:awI Y dG):
  Dk Y j M (auy bX dG [ο 7,η x,η s] M) (FJ Y W x s) (Nh Y W x s):=by
 rw[Ľ auy P q (Dk Y j M q (FJ Y W x s) (Nh Y W x s)) e1 [aI,aX,er,none,none,none] d YB (ad7 WZ [aI,aX,er,CK,B?,none] M ?_ anf fB)]
 ·rw[au,e1];simp[S4 hs]
 unfold FJ Nh;rw[aho hs];rw[CC e2 (tg [aI,aX,er,CK,B?,none] M8) (tV (! k9))]
 ·rw[c_,au,bP,aR,e2];simp only[aR,bM,aT,bB,bw,ag,bg,hb];unfold Az;cases È (gA s).2 (gA s).1<;>rfl
 ·have hk:dQ k9:=pL
  rw[az hk (O0 (Ω "none") M)]
 have hk:aO k9:=pL
 rw[hk,gK];rw[cV e3 (tg [aI,aX,er,CK,B?,none] nP) (c5 (uV (H? aax M)))]
 ·rw[PJ c_ au];rw[ag,e3,ag,V1 h.j9 k zl,AL];simp
 ·rw[eu cS gK (O0 (Ω "held") M)]
 rw[cS,xU];rw[IA Ad ep (hp M W j x s h K.lv K.gl K.fl K.lk)];cases TJ:wk Y W x s with
 |none=>
  rw[TJ]at ep;rw[Vd (UH .bb M (aK ep))];exact gV (JJ M Ξ (O0 (Ω "red") M))
 |some r=>
  rw[TJ]at ep;obtain⟨aa,p1,p2,p3⟩:=ep;rw[cV qi (K.wl r (K.lv r (alV TJ))) (jE l? aa (by rw[rF p1]))];rw[tK (acp aa (aK aIp) (c5 Pu))];rw[rM e4 (p2.ix (ρ:=[aI,aX,er,CK,B?,vc]) (d:=ak) rfl nP) h2 (p2.S_ (apW ((cX).take 1++[]) ((cX).drop 1))) (Xm (nM (BD ((cX).take 1++[]) ((cX).drop 1))) aa (ο 10) aa (η x) aa _ e4 (aas p2) (xh (Ω "ok") _ (tY _ j h2 (p3.trans tv) (aq rfl))))];rw[bI sa (axr (M:=aa) qi) sb (axt (M:=aa) qi)];unfold yi;simp only[aR,bM,Y0,Su,Yt,aT,bg,bB,bw,ag,sa,sb];rw[f6 (by rw[BL (3≤lim)]),mV];rfl
def axu sQ{d dk:br}gw Kf(hd:c8=.ok (ο 7) M)(hk:dk ρ M=.ok (η x) M):E6 (ē d) dk ρ=.ok (nM t) M:=by
 rw[au,h.ix hd nP,ag,hk,ag];exact V2 h.j9 k zl (by rw[AL,hx];rfl)
def NN{t:o9}:Aa (nM t) 0=.ok aCf M:=u0 0
def alx{t:o9}:Aa (nM t) 1=.ok (bF t.ahead) M:=u0 1
def auZ{t:o9}:Aa (nM t) 2=.ok (.ah t.out) M:=u0 2
def aNR wK(h:w≠[]):Aa (bF w) 0=.ok (bE (w.headD (0,0,0))) M:=C3 (i:=0) (amz h)
def axM{s:eJ}:Aa (bE s) 0=.ok (η s.1) M:=S3
def aNS{s:eJ}:Aa (bE s) 2=.ok (η s.2.2) M:=aea
def adG Gv:aiy M (.ah b) M=.ok b M:=rfl
def axv:Lo [] ρ M=.ok (ς []) M:=by rw[Oo yi bM (f6 aC)]
def aIq{b:dw}:jd false (aU b) .bb M=.ok (.ah b.isNone) M:=by cases b<;>rfl
def adx sQ{bX dG:D1}an6 Kf aor(hp:awI Y dG):
  Dk Y j M (avb bX dG [ο 7,η x] M) (Dy Y W x) (Dz Y W x):=by
 rw[mu avb P q (Dk Y j M q (Dy Y W x) (Dz Y W x))]
 obtain⟨iy,hal,fg⟩:=K.sl x t hx
 unfold Dy Dz
 rw[vL hx];refine Wy (nM t) (axu h hx rfl rfl);rw[ji (jE (bE vh) M (by simp only[au,aT,bg,bB,bw,ag,NN,aNR fg];rfl))];rw[tK (af4 t.out M (by simp only[kI,au,aT,bg,bB,bw,ag,auZ,adG]))]
 ·rw[eu hk gK (O0 (Ω "red") M)]
 rw[hk,xU];rw[s_ (uV (H? (!(fC t.ahead [])) M))]
 ·simp only[c_,au,aT,bg,bB,bw,ag,alx,axv,eq_nil,if_true]
 ·have cS:aiP []:=bh cS
  rw[agh cS cS]
  have a4c:BC (QB 0 0 0).1:=by
   refine K.al x t hx _ ?_;cases dB:t.ahead with
   |nil=>rw[pO dB cS]
   |cons a b=>simp
  rw[bI e1 (tg [aI,aX,k6,Ra,none,none] YV) h1 (h.am2 (Pa (QB 0 0 0)))]
  rw[ko f1 (nI (sf j ((Pa (QB 0 0 0)).map aU))) tv (yl .bb M (ο j) M (η (QB 0 0 0).1) M (sf j ((Pa (QB 0 0 0)).map aU)) rfl e1 ?_ ?_ fB)]
  ·simp only[au,aT,bg,bB,bw,ag,alx,aNR cS,axM]
  ·rw[Sw h.wl (by rw[qs a4c]),List.map_set];rfl
  rw[asd (sf j ((Pa (QB 0 0 0)).map aU)) h1 f1];rw[Rj e2 (z6 [aI,aX,k6,Ra,none,none] nP) h2 (h1.S_ (zF (atf agY 1))) (Xm (nM (atf agY 1)) aa (ο 10) aa (η x) aa _ e2 (aas h1) (kn (Lg (Ω "ok") _ (eP (tY _ j h2 Rf (aq rfl))))))];rw[oO sa (axr (M:=aa) hal) sb (axt (M:=aa) hal) sc (XB (M:=aa) (a:=agY) (b:=t.steps) (gX (azu _)) W_)];unfold yi;simp only[aR,bM,au,Y0,Su,Yt,aT,bg,bB,bw,ag,NN,alx,sa,sb,sc];rw[f6 (by rw[BL (3≤lim)])];rfl
 have cS:Pe []:=bh cS
 rw[HF dB (dB cS),HF dB (dB cS)];rw[cV e3 (tg [aI,aX,k6,Ra,none,none] M8) (c5 (ag9 (aU O6) M))]
 ·rw[bP,aR,e3];simp only[aR,bM,au,aT,bg,bB,bw,ag,axM,aNS,hb]
 rw[tK (su (O6).isNone M (by simp only[c_,au,aT,bg,bB,bw,ag,aIq]) (ck lD) (ck lD))]
 ·have lD:b9 O6:=bh lD
  rw[lD];rw[Rj e4 (tg [aI,aX,k6,Ra,Ġ none,none] nP) h2 (h.S_ (zF (as7 []))) (Xm (nM (as7 [])) M (ο 10) M (η x) M _ e4 (aas h) (kn (Lg (Ω "ok") _ (eP (tY _ j h2 tv (aq rfl))))))];have aCX:∀ρ,Lo [] ρ M=.ok (ς []) M:=λρ=>axv;rw[eD];simp only[aR,bM,au,aT,bg,bB,bw,ag,NN,aCX];rw[f6 (by rw[BL (3≤lim)])];rfl
 obtain⟨b,lD⟩:∃b,O6=mD:=by
  cases dB:O6 with
  |none=>rw[dB]at lD;cases lD
  |some b=>exact lS b
 rw[vL lD];rw[Vd (c5 (kn (UH .bb M rfl)))];have e5:=tg [aI,aX,k6,Ra,Ġ mD,Ag] YB
 rw[ko et (cA [aaw 2,bY] [aI,aX,k6,Ra,Ġ mD,Ag] M=.ok (fE (zb,b)) M) (by
  unfold cA;simp only[aR,bM,au,aT,bg,bB,bw,ag,aNS];rfl) (su (i7 (zb,b) Y.ss) M ?_ (ck Gh) (ck Gh))]
 ·rw[c_,au,et,ag,e5,ag];show(ai6 (aV [η zb,η b]) zI M).bind _=_;rw[aXZ,ag];rfl
 ·rw[Hx Gh Gh]
  have TQ:abg=aAq (zb,b):=by rw[jW MU lD (if_pos Gh)]
  rw[TQ,Option.bind_some];dsimp only;generalize hsi:Y.ss.idxOf (zb,b)=s
  rw[Cg ei (fI Jv QE [cA [aaw 2,bY]] [aI,aX,k6,Ra,Ġ mD,Ag] M=.ok (η s) M) (by
   rw[agV fI e5 ag AJ];rw[aR,et];simp only[bM,ag];rw[aE9 (enc:=fE) Zb adM (a:=(zb,b)) Gh,hsi]) ep (hp M W j x s h K.lv K.gl K.fl K.lk)];cases TJ:wk Y W x s with
  |none=>
   rw[K7 TJ ep (Nl .bb M ?_ fB)]
   ·rw[bP,aR,aT];simp only[bB,bw,ag];rw[aR,ei];simp only[aR,bM,aT,bB,bw,ag,ep]
   rw[eB];exact gV (JJ M Ξ (O0 (Ω "red") M))
  |some r=>
   rw[TJ]at ep;obtain⟨aa,p1,p2,p3⟩:=ep;rw[Option.getD_some];rw[cV qi (K.wl r (K.lv r (alV TJ))) (Nl l? aa ?_ fB)]
   ·rw[bP,aR,aT];simp only[bB,bw,ag];rw[aR,ei];simp only[aR,bM,aT,bB,bw,ag,p1]
   rw[tK (acp aa (aK aIp) (c5 Pu))];rw[rM e6 (p2.ix (ρ:=[aI,aX,k6,Ra,Ġ mD,vc]) (d:=ak) rfl nP) h2 (p2.S_ (apW (aqJ ((cX).take 1)) ((cX).drop 1))) (Xm (nM (BD (aqJ ((cX).take 1)) ((cX).drop 1))) aa (ο 10) aa (η x) aa _ e6 (aas p2) (xh (Ω "ok") _ (tY _ j h2 (p3.trans tv) (aq rfl))))];rw[oO sa (axr (M:=aa) qi) sb (axt (M:=aa) qi) sc (XB (M:=aa) (a:=(cX).take 1) (b:=t.steps) (gX (azu _)) W_)];rw[eD];simp only[aR,bM,au,Y0,Su,Yt,aT,bg,bB,bw,ag,NN,sa,sb,sc];rw[f6 (by rw[BL (3≤lim)])];rfl
 ·rw[ï Gh Gh]
  have TQ:b9 abg:=by rw[jW MU lD (if_neg Gh)]
  rw[az TQ (c5 (uV (JJ M Ξ (O0 (Ω "red") M))))]
def acY sQ an6 Kf:Dk Y j M (auV [ο 7,η x] M) (JC W x) (FW W x):=by
 rw[mu auV P q (Dk Y j M q (JC W x) (FW W x))]
 obtain⟨iy,hal,fg⟩:=K.sl x t hx
 unfold JC FW
 rw[vL hx];rw[Vd (Wy (nM t) (axu h hx rfl rfl))]
 rw[Lr el (∀M',eW [aCf] M'=.ok (η t.steps.length) M') (λM'=>by
  unfold eW;rw[ku ac1];rw[ku eH]) e1 (∀M',n9 (kX (tF ya) (Θ 1)) [aI,aX,k6] M'=.ok (jC (ä 1)) M') (λM'=>by
  simp only[c_,bP,aR,bM,au,aT,bg,bB,bw,ag,NN,el,t_];by_cases fj:ä 1
  ·simp[fj]
  ·rw[aa3 h8 (aY t.steps.length=1) fj h8]) (tV (jC (ä 1/\dQ t.out)))]
 ·rw[Jo,e1,ag];simp only[Jp,kI,au,aT,bg,bB,bw,ag,auZ,adG];by_cases fj:ä 1
  ·cases h2:t.out<;>simp[fj]
  ·simp[fj]
 ·rw[Hx hk hk];rw[az Hg (O0 (Ω "held") M)]
 rw[ï hk hk];rw[kE hk];rw[bI e4 (tg [aI,aX,k6] nP) h2 (h.S_ (zF Le))];rw[dX f2 (nI (iK 10 .ai (gP eR (zF Le)))) tv (c5 (uV (Xm (nM Le) M (ο 10) M (η x) M _ e4 (aas h) fB)))]
 ·have sa:=a1l (M:=M) W_;rw[eD];simp only[aR,bM,au,Y0,Su,Yt,aT,bg,bB,bw,ag,NN,alx,auZ];rw[En ((wm (Θ 1) [aI,aX,k6] M)=.ok (η (-1)) M)]
  rw[qG sa];rw[f6 (by rw[BL (3≤lim)])];rfl
 rw[asd (iK 10 .ai (gP eR (zF Le))) h2 f2];refine gV (su (jC (ä 1)) aa (e1 aa) (ck cS) (ck cS))
 ·rw[Hx cS cS];rw[if_pos cS];rw[rM e6 (LY [aI,aX,k6] d nP) h3 (h2.S_ (Qk x)) (Zd (k:=zl) (y:=η x) (nM Le) e6 h2.j9 rfl rfl (by rw[AL,yp,gK];rfl) (xh (Ω "ok") _ (tY _ j ?_ (ahU tv) (aq rfl))))];rw[aFo]
  have:iM (zF Le) x=Qk x:=by
   unfold iM iN;split
   ·rw[aqx]
    rw[aMc g (r! (by
     have:=azb azo;by_cases dB:q.1=x
     ·exfalso;simp only[Function.comp,dB,if_true]at this;exact this rfl
     ·simp[dB])),List.map_id]
    refine az0 q _;rw[apd];rw[xx dB q.1 x dB]
   ·rw[gp List.filter_append]
  rw[az this h3]
 ·rw[ï cS cS];rw[QI cS (c5 (xh (Ω "ok") aa (tY aa j h2 f2 (aq rfl))))]
universe zE
universe Sb
universe zE
end
mutual
section
namespace Sb
open PySem L2
abbrev AM gS(pre:gf)(d:w_):w_:=LR q (aoP (q.1∈pre) q.1 (Jz x q.1 q.2) q)
def aFu gS(pre:gf)fM:∀d:w_,b4 (AM x pre d) r=(b4 d r).map λu=>BJ r pre (Jz x r u) u
 |[]=>rfl
 |q::d=>by
  have ih:=aFu x pre r d;unfold AM at ih⊢;rw[cZ,t9,t9,ih];rw[i9 (q.1∈pre)]
  ·rw[Lm];rw[t6 q r]
   ·subst e;simp[h]
   ·simp[e]
  ·rw[kE h];rw[t6 q r]
   ·subst e;simp[h]
   ·simp[e]
def aSV gS(pre:gf)(d:w_):iE (AM x pre d).map=qC:=by
 rw[dJ AM List.map_map];refine EE q _;rw[apd];split<;>rfl
def aUQ gc{pre:gf}{d:w_}fX{u:AX}(hn:Mz)(hr:b4 d r=dD)(hp:r∉pre):iN (AM x pre d) r (Jz x r u)=AM x (pre++[r]) d:=by
 rw[dJ iN (kR ((any_keys _ _).mpr (by rw[aSV,mem_keys,hr];rfl)))];rw[dJ AM List.map_map]
 refine EE q hq;rw[t6 q r]
 ·have h1:=EP hn;rw[e,hr]at h1;rw[fS h2 Us h3 (q.1∉pre) (by rw[Md e])]
  rw[afI (if_neg h3) xD];rw[kR HW,e,←h2]
 ·rw[i9 (q.1∈pre)]
  ·rw[afI Lm u!];rw[kR (aK h)]
  ·rw[afI D! u!];rw[zR (fQ h e)]
def aUR gc{d:w_}:AM x qC d=ka (Jz x) d:=by
 unfold AM ka;rw[mC (EE q hq) (kR (qK q hq))]
def Oy gc{d:w_}:AM x [] d=d:=by
 rw[f5 AM (aMc g (λq _=>Ξ)) List.map_id]
def aWn m_ oi Un:AY (w++[s]) l=(AY w l).set s.1 none:=by rw[Ă AY]
section
variable {Y:dK}{M:aS}{W:b5}{j:Nat}{ρ:bu}
def So sQ an6(hfn:gC mL)(yL:Ac W.falls (oF q.2.ns.length))Kf:Dk Y j M (si [ο 7,η x] M) (JD W x) (FL W x):=by
 rw[mu si P q (Dk Y j M q (JD W x) (FL W x))]
 obtain⟨iy,hal,fg⟩:=K.sl x t hx
 unfold JD FL
 rw[vL hx];refine Wy (nM t) (axu h hx rfl rfl);rw[tK (af4 t.out M (by simp only[kI,au,aT,bg,bB,bw,ag,auZ,adG]))]
 ·rw[eu hk gK (O0 (Ω "red") M)]
 rw[hk,xU];refine Ad
 rw[ko ei (E6 aH (Θ 1) [aI,aX,k6,none,none,none,none]=.ok (ς (t.ahead.map bE)) M) (by
  simp only[au,aT,bg,bB,bw,ag,alx]) (CI bE (LA aa (∃y,ρ=[aI,aX,k6,y,none,none,none]/\zk aa (Q4 W (aqw pre))/\nI aa)) t.ahead M (ja ei) (rC none h qS.refl))]
 ·rintro pre s post atW ρ aa ⟨y,rfl,h1,f1⟩;rw[vd];have a2W:BC s.1:=K.al x t hx s (by rw[gp atW]);rw[cV e2 (z6 [aI,aX,k6,BW,none,none,none] YV) (yl .bb aa (ο j) aa (η s.1) aa (aa6 j ((aqw (pre++[s])).map aU)) rfl e2 (by simp only[au,aT,bg,bB,bw,ag,axM]) ?_ (ahj _ (h1.am2 _) Rf))];rw[Sw h1.wl (by rw[eH];rw[Wu (s.1<di (aqw pre)) xk a2W]),aWn,List.map_set];rfl
 ·rw[ī aa y rfl h1 f1];refine fB
  rw[dX Jj (amw false ya (yv OD) [aI,aX,k6,y,none,none,none] aa=.ok (ς (t.steps.reverse.map bE)) aa) (by
   unfold amw;simp only[au,aT,bg,Su,bB,bw,ag,NN];rw[V8 (En ((wm (Θ 1) [aI,aX,k6,y,none,none,none] aa)=.ok (η (-1)) aa))];rw[Á axZ gK AJ];rw[List.map_reverse,f6 (by rw[eu List.length_reverse eH W_])]) (rO (bF zN) aa)]
  ·rw[IP t.steps.reverse w aa bE (λs=>bE OL) (k7 (ρ=[y])) (ja Jj) (nH s) (by rw[az List.length_reverse (gX iy)])]
   ·rw[r9,f6 (by rw[eu eH List.length_reverse W_])];rw[zy bF]
   ·rw[E! (Ox bE flip cA)]
  rw[eB];rw[bI e4 (z6 [aI,aX,k6,y,Hv zN,none,none] nP) h2 (h1.S_ (ajq []))];rw[ko f2 (nI (aa.set 10 (.ai (gP eR (ajq []))))) Rf (Xm (nM (BD zN [])) aa (ο 10) aa (η x) aa _ e4 (aas h1) fB)]
  ·have aCX:∀ρ,Lo [] ρ aa=.ok (ς []) aa:=λρ=>axv;rw[eD];simp only[aR,bM,aT,bg,bB,bw,ag,aCX];rw[f6 (by rw[BL (3≤lim)])];rfl
  generalize aa.set 10 (.ai (gP eR (ajq [])))=M2 at h2 f2;have e5:=LY [aI,aX,k6,y,Hv zN,none,none] d Jq
  rw[ko el (ay Ln [xY] [aI,aX,k6,y,Hv zN,none,none] M2=.ok (ς ((mL).map (agx (r:Nat) r))) M2) (by
   rw[bP,aR,e5];rw[qG bM];rw[Cr SA (oW h2.jy)];rw[aIb,f6 (by rw[ahy K.fl])]) (CI (agx (r:Nat) r) (LA bJ (∃a b,ρ=[aI,aX,k6,y,Hv zN,a,b]/\zk bJ { W with locks:=aqB,trains:=ajq [],falls:=asr x pre}/\nI bJ)) mL M2 (ja el) (mw none none (by rw[az Oy h2]) f2))]
  ·rintro pre r post atW ρ bJ ⟨a,b,rfl,h3,f3⟩;rw[vd];have NY:=FX hfn atW;rw[UC u hu ((ahO _).mp (show r∈mL by rw[gp atW]))]
   have hg:b4 (asr x pre) r=dD:=by rw[aFu,hu];simp[NY]
   rw[Wi e6 (h3.ix (ρ:=[aI,aX,k6,y,Hv zN,cv,b]) (d:=ak) rfl Jq) (f7 r u) bJ]
   ·rw[au,e6,ag,aT];rw[agu ag (V2 h3.jy k (jX r) (by rw[t!,hg];rfl))]
   rw[eB];rw[rM lZ (h3.ix (ρ:=[aI,aX,k6,y,Hv zN,cv,Ģ r u]) (d:=ak) rfl Jq) aOM (yL _ (AK hu)) (Xm (f7 r (Jz x r u)) bJ (ο 9) bJ (η r) bJ (bJ.set 9 (.ai (zj f7 (asr x (pre++[r]))))) lZ ?_ (lU (tf _ (h3.ane _) (f3.trans tv))))]
   ·rw[eE a4x (f_ (f7 r u) (η 0) bJ=.ok (η u.u) bJ) rfl j1 (f_ (f7 r u) (η 1) bJ=.ok (gL u.ns) bJ) rfl j2 (f_ (f7 r u) (η 2) bJ=.ok (.ah u.bd) bJ) rfl ec (O1 RW (dc (BV jM)) O4 ak [aI,aX,k6,y,Hv zN,cv,Ģ r u] bJ=.ok (gL (u.ns.filter (oE z z x))) bJ) (by
     rw[oR (xs:=u.ns) (w:=none) (M':=bJ) (ED gO n) (oE z z x) (ED gO n) (k7 (ρ=[y,aX])) (ja (by simp only[au,aT,bg,bB,bw,ag,j1])) trivial rN (nH z) (gX aOM)]
     ·exact f6 (by rw[qs (LV qx aOM)])
     ·rw[rJ y hρ];refine Fp _ fR ?_ Cv;simp only[List.set_cons_zero,c_,au,aT,bB,bw,ag,t_];rw[xx dB z x dB])]
    rw[FF];simp only[aR,bM,ec,ag,au,aT,bg,bB,bw,a4x,j2];rfl
   ·rw[ahE h3.jy r (by rw[uk];show di (asr x pre)<_;rw[jW AM eH (UE K.fl)]),←aUQ hfn hu NY]
    congr 3
    exact uj f7 r (Jz x r u) _
  ·rw[GW bJ a b rfl h3 f3];refine xh (Ω "ok") bJ (tY bJ j ?_ f3 (aq rfl));rw[bV aUR h3 h3]
universe zE
universe Sb
universe zE
section
namespace Sb
open PySem L2
def aGf J!:∀aol anR,WO f j a w->nA w (oP s.1)
 |[],_,_,_,_,s,h=>BX
 | (a',j',o)::w,f,j,a,c,s,h=>by
  obtain⟨_,_,_,h1,_,h2⟩:=c;rcases Q_ with rfl | h
  ·exact h1
  ·exact aGf w false o _ h2 s h
def aWa{p:dR}{a:Nat}aJx(hj:j∈p.js)(ho:amJ p j o)(hp:aO (qW p)):axT p (a,j,o)=FV p (a,j,o):=by
 cases p with
 |pl x y=>cases hp
 |pt t u b=>
  rw[oO h1 ho.ne h2 ho.mem h3 (ho.aPg rfl)];simp only[dR.js,List.nodup_cons,List.mem_cons,List.not_mem_nil,or_false,not_or,List.headD_cons]at hn hj h2 h3;simp only[axT,FV,List.mem_cons,List.not_mem_nil,or_false];rw[←decide_not];refine decide_eq_decide.mpr ?_;rw[oO n1 hn.1.1 n2 hn.1.2 n3 hn.2.1];constructor
  ·rintro(e | e) (e' | e')<;>rcases h3 with h3 | h3<;>omega
  ·intro hh;rcases h3 with h3 | h3
   ·rcases h2 with h2 | h2 | h2
    ·omega
    ·exact aA h2.symm
    ·rw[se (aA h2.symm) hh]
   ·rcases hj with hj | hj | hj
    ·omega
    ·exact aq hj.symm
    ·rw[se (aq hj.symm) hh]
def aFv J!(hn:ag0 ps):∀aol anR,WO f j a w->(∀b,a=mD->j∈(d8 b).js)->nA w (aO (qO ps s.1)->YX ps s=avk ps s)
 |[],_,_,_,_,_,s,h,_=>BX
 | (a',j',o)::w,f,j,a,c,hj,s,h,hp=>by
  obtain⟨e1,e2,_,h1,h3,h2⟩:=c;subst e2;rcases Q_ with rfl | h
  ·exact aWa (hn _ (awQ h1)) (hj a' e1) h3 hp
  ·exact aFv hn w false o _ h2 (vV (acT hb).2.2) s h hp
structure Je gI:Prop where
 g:aC8 Y.ps Y.ss
 rs:Y.rs=abQ Y.ps Y.ss
 wt:0≤Y.wait
def aZo{rs:uO}ayv:(wW rs r,bo rs r)∈rs:=azl (aHA h)
section
variable {Y:dK}
def Je.ok Uj:aHt Y.ps Y.ss (cg,cX):=aVN G.g (by rw[b! G.rs (aZo hr)])
def Je.head Uj:(gA cg).2∈v8 Y.rs r:=by
 rw[oO h (G.ok hr) h1 h.ne h2 h.chain];unfold v8;dsimp only at h1 h2;cases e:cX with
 |nil=>rw[E2 h1]
 |cons s w=>
  rw[e]at h2;obtain⟨a',j',o⟩:=s;obtain⟨h3,_⟩:=h2;cases h3;simp
def Je.cR fN:aN5:=by
 rw[eF (λr hr=>(G.ok hr).nd) (jj r hr p hp) (tC r hr r' hr' e)]
 ·rw[Vn s hs hp (aGf _ _ _ _ (G.ok hr).chain s hs)]
 ·rw[bC (gA cg).2 (G.head hr) (by rw[Cm (G.head hr')])]
def Je.sg Uj:Hu cg:=(G.ok hr).lt
def Je.l5 Uj:aj1 (aoZ s.1->YX Y.ps s=avk Y.ps s):=by
 refine aFv G.g.once _ _ _ _ (G.ok hr).chain oJ;cases hb;exact(ai8 (Y3 RH)).2
def Je.len fN:apR:=by
 rw[G.rs];unfold abQ;have:=auh azg λk _=>ale Y.ps Y.ss k;rw[jm h2 G.g.um List.length_range this];omega
def Je.wl Uj:Xf:=by
 rw[oD (G.ok hr).len G.g.eg];dsimp only at h1;omega
universe zE
structure J5 j! oi:Prop where
 lt:oP s.1
 i:s.2.1∈(d8 s.1).js
 o:amJ (d8 s.1) s.2.1 s.2.2
abbrev q_:cO iz
 |[]=>True
 |[_]=>True
 |a::b::w=>a.2.1=b.2.2/\a.1≠b.1/\q_ (b::w)
structure amU j! GC:Prop where
 ok:U7 (J5 ps s)
 akY:q_ t.steps
def av3 J!:∀aol anR,WO f j a w->(∀b,a=mD->j∈(d8 b).js)->nA w (J5 ps s)
 |[],_,_,_,_,_,s,h=>BX
 | (a',j',o)::w,f,j,a,c,hj,s,h=>by
  obtain⟨e1,e2,_,h1,h3,h2⟩:=c;subst e2;rcases Q_ with rfl | h
  ·rw[bC h1 (hj a' e1) h3]
  ·exact av3 w false o _ h2 (vV (acT hb).2.2) s h
def aFb J!{s s':eJ}{r:iz}:∀aol anR pn,WO f j a w->w.drop k=s::s'::r->cE (KW s.1 s.2.2) s'.1/\s'.2.1=s.2.2/\(s.2.2,s'.1)∉ss
 |[],_,_,_,k,_,h=>BX
 | (a',j',o)::w,f,j,a,0,c,h=>by
  obtain⟨e1,e2,_,h1,h3,h2⟩:=c;rw[List.drop_zero]at h;rw[rJ rfl (List.cons.inj h)];obtain⟨a2,j2,o2⟩:=s';obtain⟨h4,h5,h6,_⟩:=h2;rw[bC h4 h5 (h6 rfl)]
 | (a',j',o)::w,f,j,a,k+1,c,h=>by
  obtain⟨_,_,_,_,_,h2⟩:=c;exact aFb w false o _ k h2 h
def three TZ{a b c:Nat}NZ(ha:oP a)(hb:oP b)(hc:oP c)aJ4(a4A:j∈(d8 c).js)(h1:a≠b)(h2:a≠c)(h3:b≠c):False:=by
 rw[fS h (hg.two j) m (∀{x:Nat},oP x->j∈(d8 x).js->x∈MN j) (λhx a4B=>aMj hx (bh a4B))];rw[oO ma (m ha aOR) mb (m hb aC9) mc (m hc a4A)];generalize MN j=l at h ma mb mc
 match l,h with
 |[],_=>simp at ma
 |[x],_=>simp at ma mb;omega
 |[x,y],_=>simp at ma mb mc;omega
 |_::_::_::_,h=>rw[EY]
def aWb TZ T! NZ(ha:oP a)(hb:oP b)aJ4(h:b≠a):KW a j=mD:=by
 cases e:KW a j with
 |none=>
  unfold beyond at e;rw[VD List.find?_eq_none e (fQ h aC9) (e b (List.mem_range.mpr hb))]
 |some c=>
  rw[ahX h1 h3 (acT e)];by_cases hc:c=b
  ·rw[hc]
  ·exact(three hg ha hb h1 aOR aC9 h3 h.symm h2.symm (Ne.symm hc)).elim
def aFd gb{p:Xc}:∀l:ry,l.Pairwise (λa b=>¬(aO (p a)/\aO (p b)))->aCh=(arB).toList
 |[],_=>rfl
 |a::l,h=>by
  rw[Ah (List.pairwise_cons.mp h)];rw[rA e (p a)]
  ·rw[List.filter_cons_of_pos e,List.find?_cons_of_pos e];have:aCh=[]:=List.filter_eq_nil_iff.mpr λb hb hp=>h1 b hb ⟨e,hp⟩;rw[this];rfl
  ·rw[List.filter_cons_of_neg e,List.find?_cons_of_neg e,aFd l h2]
section
variable {Y:dK}{W:b5}{B:dM}
abbrev Ny pe:Prop:=∀x t,dZ=fm->amU Y.ps t
def aE3 fN ayB aKu{s:eJ}{a:iz}(h:Pe (s::a)):cE O6 s.1/\s.2.1=zb/\(zb,s.1)∉Y.ss/\J5 Y.ps s:=by
 obtain⟨r,k,hr,e,_⟩:=T.Br (by rw[gp h]);rw[jm c (G.ok hr).chain h e];rw[ahX h1 h3 (aFb _ _ _ _ k c e.symm)];refine⟨h1,h2,h3,av3 _ _ _ _ c oJ s (List.mem_of_mem_drop (i:=k) ?_)⟩
 ·cases hb;exact(ai8 (Y3 RH)).2
 ·show s∈(cX).drop k;rw[←e];simp
def auF fN{s:eJ}dU(hs:J5 Y.ps s)(hk:Hu k):vS s=fc↔s.2.2=(gA k).1/\s.1≠(gA k).2:=by
 have hg:=ai8 (Y3 hk);unfold MU;constructor
 ·intro h;split at h
  ·rename_i b hb;split at h
   ·rename_i hm;rw[fS e Uu e2 (gA k=(s.2.2,b)) (by
     rw[←e];rw[oD aLp (xa h1)];rw[List.getElem?_eq_getElem h1,List.getElem_idxOf]at h2;exact(Option.some.inj h2).symm)]
    rw[V7 e2 rfl (acT hb).2.1.symm]
   ·cases h
  ·cases h
 ·rw[ahT h2];have hb:E? s s=xP (gA k):=aWb G.g hs.lt hg.1 hs.o.mem (by rw[az h1 hg.2]) (Ne.symm h2)
  rw[vL hb]
  have e:(s.2.2,(gA k).2)=gA k:=iZ h1
  rw[e,kR (Y3 hk)];rw[jm h3 (xa hk) (List.getElem?_eq_getElem hk) h3];rw[←Option.some.inj h3,List.Nodup.idxOf_getElem G.g.nd k hk]
def aWc fN ayB dU aKu(J:amU Y.ps t)(hk:Hu k):fC abg fc=vT Y k t:=by
 rw[bI hs (J.ok _ (ui T.ne)) hi (auF G hs hk)];unfold vT;rw[i9 (abg=fc)]
 ·rw[bq h1 (Pe []) (by
   cases e:t.ahead with
   |nil=>rfl
   |cons s a=>
    obtain⟨h1,_,h3,_⟩:=aE3 G T e;rw[nw MU];rw[qD h1 h h];rw[if_neg h3]at h;cases h) h2 (dQ t.out) (by
   cases e:t.out with
   |false=>rfl
   |true=>
    have:=(T.ot e).2;rw[Ct MU h this h];cases h)]
  have h3:=hi.mp h;simp[h,h1,h2,h3.1,h3.2]
 ·have h3:=mt hi.mpr h;rw[aAb];symm;by_cases h4:zb=(gA k).1
  ·have:¬vh.1≠(gA k).2:=λh5=>h3 ⟨h4,h5⟩;simp[this]
  ·simp[h4]
def aYs fN Gl(J:Ny Y W)dU(hk:Hu k):Jf Y W.trains k=(Ë Y k).toList:=by
 have hT:QJ q (GP q.1=xP q):=r! aiF
 have e1:aAl (λq=>vT Y k q.2)=aAl (Cd (vS (cn q.2)=fc)):=
  List.filter_congr (r! (aWc G (I? (hT q hq)) (J _ _ (hT q hq)) hk).symm)
 unfold Jf aub;rw[e1,aFd]
 ·rw[S.trains];rw[dJ ka List.find?_map];show List.map _ (aBi (apf q (vS (cn q.2.tr)=fc))).toList=_;cases apf q (vS (cn q.2.tr)=fc)<;>rfl
 ·rw[dX hp (W.trains.Pairwise (λa b=>a.1≠b.1)) (List.pairwise_map.mp I.lB) (aLy hp)];rintro a b ha hb fg ⟨h1,h2⟩;rw[vH hTa (hT a ha) hTb (hT b hb) oa ((J _ _ hTa).ok _ (ui (I? hTa).ne)) ob ((J _ _ hTb).ok _ (ui (I? hTb).ne))];rw[vH aOQ ((auF G oa hk).mp aLW) ib ((auF G ob hk).mp î) hg (ai8 (Y3 hk)) hd ((I.AF _ _ _ _ hTa hTb fg).1 _ (ui (I? hTa).ne) _ (ui (I? hTb).ne))];exact three G.g (j:=(gA k).1) oa.lt ob.lt hg.1 (by rw[b! aOQ.1 oa.o.mem]) (by rw[b! ib.1 ob.o.mem]) hg.2 hd aOQ.2 ib.2
def awJ(S:PV)(p:Int):LF p=UN p:=by
 unfold alO auT;rw[S.trains];rw[dJ ka List.find?_map];show aBi (aBi (apf q (p∈abo q.2 s.1)))=_;cases apf q (p∈abo q.2 s.1)<;>rfl
def aIr ayo:aIn Y W:=by
 have hn:=G.g.eg;refine⟨λr h=>(ou h).1,KI (Yk I.n5 (cK h (I.NX h))) G.len,?_,dz r h,λr hr=>G.wl hr,I.lB,EA I.axQ av,λx t h=>⟨?_,?_,(r7 h).ne⟩,tC x t h s hs⟩
 ·have:=Yk I.Ki λx h=>(I.own x (aA h)).1;rw[bV eH this (Nat.le_trans this G.len)]
 ·have hr:=(ou h).1;rw[I.ln];have fg:=(G.ok hr).ne;dsimp only at fg;cases e:cX with
  |nil=>rw[E2 fg]
  |cons s w=>exact G.cR.lt r hr s.1 (by rw[dJ v8 e];simp)
 ·rw[fZ (I.aev h)]
 ·rw[fZ (I.a3b G.cR h)]
 ·obtain⟨r,hr⟩:=(r7 h).al hs;rw[az I.ln (I.lt hr)]
universe zE
universe Sb
universe zE
section
namespace Sb
open PySem L2
inductive fL where
 |set
 |cancel
 |throw
 |enter
 |tick
 |go
 |draw
 |turn
 deriving DecidableEq
abbrev fL.s:fL->Str
 |iG=> "set"
 |iI=> "cancel"
 |jY=> "throw"
 |iJ=> "enter"
 |gU=> "tick"
 |.go=> "go"
 |jJ=> "draw"
 |h7=> "turn"
abbrev amc pe fM:Bool:=tW&&(! L6||kh)
abbrev C2 pe DI:o7:=match w with
 |iG=>ajW (Kv i) (VI (heldW W (bo Y.rs i.toNat)) held .ok)
 |iI=>ajW (Kv i) (BJ i.toNat W.green .ok cG)
 |jY=>ajW (G? i) (VI (nZ W i.toNat) held .ok)
 |iJ=>FJ Y W x i
 |gU=>.ok
 |.go=>Dy Y W x
 |jJ=>JC W x
 |h7=>JD W x
abbrev sC pe DI:b5:=match w with
 |iG=>Zq Y.rs (qO Y.ps) aar W i.toNat
 |iI=>if amc Y W i.toNat then S9 W i.toNat ⟨Pb,Jf Y W.trains (QT i.toNat),Az Y (QT i.toNat)⟩ else YT W i.toNat
 |jY=>Ng W i.toNat
 |iJ=>Nh Y W x i
 |gU=>FU W
 |.go=>Dz Y W x
 |jJ=>FW W x
 |h7=>FL W x
abbrev Dj pe DI:b5:=match p9 with
 |.ok=>sC Y W w i x
 |_=>W
structure yP pe:Prop where
 I:xp Y W
 D:Due W
 J:Ny Y W
def q_.init:∀wK,q_ w->q_ w.dropLast
 |[],_=>trivial
 |[_],_=>trivial
 |[_,_],_=>trivial
 |a::b::c::w,h=>⟨h.1,h.2.1,q_.init (w:=b::c::w) h.2.2⟩
def q_.snoc{b:eJ}:∀wK,q_ w->(∀a∈w.getLast?,a.2.1=b.2.2/\a.1≠b.1)->q_ (w++[b])
 |[],_,_=>trivial
 |[a],_,h=>by have:=h a Ξ;rw[bC this.1 this.2 trivial]
 |a::c::w,h1,h=>⟨h1.1,h1.2.1,q_.snoc (w:=c::w) h1.2.2 (λz hz=>h z (by rw[az List.getLast?_cons_cons hz]))⟩
def q_.flip:∀wK,q_ w->q_ (w.reverse.map flip)
 |[],_=>trivial
 |[_],_=>trivial
 |a::b::w,h=>by
  have ih:=q_.flip (w:=b::w) h.2.2;rw[List.reverse_cons,List.map_append];refine q_.snoc ih (dz z hz);rw[List.getLast?_map,List.getLast?_reverse]at hz
  have e:z=Sb.flip b:=bh hz.symm
  rw[V7 e h.1.symm h.2.1.symm]
def J5.flip Bl{s:eJ}(h:J5 ps s):J5 ps OL:=⟨h.lt,h.o.mem,⟨h.o.ne.symm,h.i,fD (h.o.aPg e).symm⟩⟩
section
variable {Y:dK}{W:b5}
def SF{d:Ol}DF(h:b9 (alO d p)):Ac d (nA q.2.steps (s.1≠p)):=by
 rw[nw alO];rw[Option.map_eq_none_iff,List.find?_eq_none]at h;intro q hq s hs e;refine h q hq ?_;simp only[decide_eq_true_eq];exact afR s hs (iZ e)
def aHe fX ayo Ud(h:arH W):(jn (v8 Y.rs r) (asX p))/\∀x t,dZ=fm->U7 (s.1∉v8 Y.rs r):=by
 rw[Ct heldW h List.any_eq_false h];rw[RT p hp (zc x t hx s hs hp)]
 ·have fK:=G.cR.lt r hr p hp;rw[xA z hz hp];have h1:=h z hz;unfold nZ at h1;rw[Bool.or_eq_true,not_or]at h1;rw[fS h2 h1.1 hl (BC z.1) (by rw[az I.ln fK])]
  rw[List.getD_eq_getElem?_getD,Q2]at h2;rw[Q2];cases e:W.locks[z.1] with
  |none=>rfl
  |some _=>rw[nt e h2 h2]
 ·rw[KM z hz e hp];have h1:=h z hz;unfold nZ at h1;rw[Bool.or_eq_true,not_or]at h1
  rw[rZ h2 (b9 (LF (aY z.1))) (by
   cases e:LF (aY z.1) with
   |none=>rfl
   |some _=>rw[nt e h1 h1]) (SF h2 _ (AK hx) s hs e.symm)]
def Ny.put(J:Ny Y W){W':b5}sQ(ht:atr (zF t))(hT:amU Y.ps t):Ny Y W':=λy u hu=>by
 rw[ht,yp]at hu;rw[EM y x]
 ·rw[xD]at hu;cases hu;exact hT
 ·rw[bV u! hu (J y u hu)]
def Ny.same(J:Ny Y W){W':b5}(ht:atr W.trains):Ny Y W':=λy u hu=>J y u (by rw[b! ht hu])
def aWd Uj:∃o w,cX=((gA cg).2,(gA cg).1,o)::w:=by
 rw[oD (G.ok hr).ne (G.ok hr).chain];dsimp only at h1 h2;cases e:cX with
 |nil=>rw[E2 h1]
 |cons s w=>
  rw[e]at h2;obtain⟨a',j',o⟩:=s;obtain⟨h3,h4,_⟩:=h2;cases h3;rw[bC o w (iZ h4)]
def aZp Uj:aj1 (J5 Y.ps s):=av3 _ _ _ _ (G.ok hr).chain (vV (by
 cases hb;exact(ai8 (Y3 RH)).2))
def aYt aoi(h:wk Y W x s=jZ):cg=s:=by
 have:=List.find?_some h;unfold wA at this;exact aza (Bool.and_eq_true_iff.mp this)
def aHf fN fX{old:iz}{a:iz}Gv Ud(h1:nA old (J5 Y.ps s))(h2:q_ old)(h3:nA old.head? (vS s=aN cg)):amU Y.ps ⟨(cX).take 1++old,a,b⟩:=by
 rw[aiU o w (aWd G hr)];rw[jm h (aZp G hr) e h];rw[e];rw[RT s hs ?_]
 ·rcases List.mem_cons.mp hs with rfl | hs
  ·exact h _ Ξ
  ·exact h1 s hs
 ·cases old with
  |nil=>trivial
  |cons s old=>
   have:=(auF G (h1 s Ξ) RH).mp (h3 s Ξ);rw[bC this.1.symm this.2.symm h2]
def aPx{W:b5}:(FU W).trains=W.trains:=by
 unfold FU
 have:∀ZN,(U4 W).trains=W.trains:=λrs=>by
  induction rs with
  |nil=>exact UM W
  |cons r rs ih=>
   intro W;rw[List.foldl_cons,ih];unfold nO;split<;>rfl
 exact this _ _
def aYu Gn ayp(hk:p9=.ok):yP Y (sC Y W w i x):=by
 rw[fS R G.cR fg (XX r (cX≠[])) (λr hr=>(G.ok hr).ne)];cases w with
 |set=>
  rw[aAI C2 hk hk];split at hk
  ·rename_i hn;split at hk
   ·cases hk
   ·rename_i hh;rw[zx r hr hn];rw[Int.toNat_natCast]at hh;rw[aa0 hf ht (aHe G h.I hr (bh hh)) (set_inv R h.I hr (fg r hr) hf ht) h.D art]
  ·cases hk
 |cancel=>
  rw[aAI C2 hk hk];split at hk
  ·split at hk
   ·rename_i hg;rw[Ej sC];split
    ·rename_i hq;have hw:=(Bool.and_eq_true_iff.mp hq).1;rw[eF (aVR h.I hg) (aVW h.D ?_ (h.I.A_ _ hg)) art];have:=of_decide_eq_true hw;rw[MJ (W.now<Pb)]
    ·rw[bC (aS5 R h.I hg) h.D art]
   ·cases hk
  ·cases hk
 |throw=>rw[bC (aUF h.I) (aUH h.D) art]
 |tick=>rw[bC (aVT R h.I) (aVV h.I) (h.J.same aPx)]
 |enter=>
  have hk:FJ Y W x i=.ok:=hk;unfold FJ at hk;split at hk
  ·split at hk
   ·split at hk
    ·cases hk
    ·rename_i hx;split at hk
     ·rename_i r hp;show yP Y (Nh Y W x i)
      rw[dJ Nh hp];rw[bI hl (alV hp) hr (h.I.own r hl).1]
      rw[Wv hx VS (bh hx) (aGm R h.I hl (fg r hr) (λt ht=>by rw[hx]at ht;cases ht) Cv) (aGo h.D) (ŏ (aHf G hr Ξ trivial Ξ))]
     ·cases hk
   ·cases hk
  ·cases hk
 |go=>
  have hk:Dy Y W x=.ok:=hk;show yP Y (Dz Y W x);unfold Dy at hk;unfold Dz;cases hx:dZ with
  |none=>rw[hx]at hk;cases hk
  |some t=>
   rw[hx]at hk;dsimp only at hk⊢;rw[bI T (h.I.tr x t hx) J (h.J x t hx)];split at hk
   ·cases hk
   ·split at hk
    ·rename_i ha;rw[if_pos ha];rw[eF (aVD R h.I hx ha) (ajc h.D q hq) (ŏ ?_)];cases e:t.ahead with
     |nil=>rw[E2 ha]
     |cons s a=>
      obtain⟨h1,h2,_,h4⟩:=aE3 G T e;rw[RT z hz ?_]
      ·rcases List.mem_cons.mp hz with rfl | hz
       ·exact h4
       ·exact J.ok z hz
      ·rw[bI hl J.akY hn T.ne];unfold cn at h1 h2;show q_ (s::t.steps);cases e2:t.steps with
       |nil=>rw[pO e2 hn]
       |cons b w=>
        rw[e2]at h1 h2 hl;rw[bC h2 (acT h1).2.1 hl]
    ·rename_i ha;rw[kE ha]
     have ha:Pe []:=bh ha
     split at hk
     ·rename_i hb;rw[bC (aXF h.I hx ha hb) (ajc h.D q hq) (ŏ ⟨J.ok,J.akY⟩)]
     ·rename_i b hb;split at hk
      ·cases hk
      ·rename_i s hs;split at hk
       ·rename_i r hp;rw[hs,Option.bind_some,hp,Option.getD_some];rw[bI hl (alV hp) hr (h.I.own r hl).1];rw[eF (aGm R h.I hl (fg r hr) (λu hu=>by rw[hx]at hu;cases hu;rfl) (λhn=>by rw[hx]at hn;cases hn)) (aGo h.D) (ŏ (aHf G hr J.ok J.akY (dz z hz)))]
        have:z=vh:=by
         rw[f5 cn List.headD_eq_head?_getD hz];rfl
        rw[this,hs,aYt hp]
       ·cases hk
 |draw=>
  have hk:JC W x=.ok:=hk;rw[ME (yP Y (FW W x)) FW];cases hx:dZ with
  |none=>exact h
  |some t=>
   dsimp only;have J:=h.J x t hx;split
   ·rw[eF (h.I.del x) (ajc h.D q hq) (cP y u hu)];rw[s9 hu (b4 (Qk x) y=dD) hu M4 hu];split at hu
    ·cases hu
    ·exact h.J y u hu
   ·rename_i h1;rw[bC (aVF h.I hx h1) (ajc h.D q hq) (ŏ ⟨λs hs=>J.ok s (List.dropLast_subset _ hs),J.akY.init⟩)]
 |turn=>
  have hk:JD W x=.ok:=hk;rw[ME (yP Y (FL W x)) FL];cases hx:dZ with
  |none=>exact h
  |some t=>
   have J:=h.J x t hx;rw[eF (aVG h.I hx) (aVI h.D) (ŏ ⟨BZ,J.akY.flip⟩)];rw[xA z hz hs];exact(J.ok z (List.mem_reverse.mp hz)).flip
def aH5 Gn ayp:yP Y (Dj Y W w i x):=by
 unfold Dj;split
 ·rename_i hk;exact aYu G h hk
 ·exact h
universe zE
universe Sb
universe zE
end
mutual
section
namespace Sb
open PySem L2
abbrev q2 gI:kc:=[(cx "set",aBv η),(cx "cancel",aBv η),(cx "throw",aqX η)]
abbrev NO gI:kc:=q2 Y++[(aCe,aju)]
abbrev SY gI(w:fL):dw:=match w with
 |iG=>aNi
 |iI=>aNi
 |jY=>some Y.ps.length
 |iJ=>some Y.ss.length
 |_=>none
abbrev wg pe DI:Bool:=match SY Y w with
 |some n=>AB i n
 |none=>fC w gU||aax
section
variable {Y:dK}{M:aS}{W:b5}{j:Nat}{ρ:bu}
def aHg{w:fL}:qR (NO Y) (cx w.s)=(SY Y w).map (zY n n):=by cases w<;>with_unfolding_all rfl
def aYv:jw (q2 Y) aCe aju=NO Y:=bU
def awK{w:fL}:iR (Ω w.s)=aN (cx w.s):=rfl
def aIs(w:fL):Qa (Ω w.s):=by
 have:af9 (Ω w.s):=by cases w<;>decide +kernel
 rw[zf]
def aZq{w v:fL}:(w.s=v.s)↔w=v:=by cases w<;>cases v<;>decide +kernel
def axl{w v:fL}qp:OE (Ω w.s) (Ω v.s) M=.ok (.ah (yZ (fC w v) (fC w v))) M:=als (aIs _) (aIs _) (by rw[az aj.str.injEq aZq])
def ala{w:fL}{u:Str}ayG ayC:n9 (kX (ae k) (dj u)) ρ M=.ok (fC w v) M:=by
 subst hu;rw[c_,au,aT,h];dsimp only;rw[ag,bg,ag,axl];rfl
def a2X gw an8:ay eW [(ary (ae k))] ρ M=.ok (aBv η) M:=by
 rw[bP,aR,h.ix (B! hk) YJ];simp[eW]
def a1m gw an8:ay eW [(azx (ae k))] ρ M=.ok (aqX η) M:=by
 rw[bP,aR,h.ix (B! hk) M8];simp[eW]
def aNT gw an8:ay eW [(apJ (ae k))] ρ M=.ok aju M:=by
 rw[bP,aR,h.ix (B! hk) YB];simp[eW]
def aNM gw an8:Dh [("set",(j4 (ary (ae k)))),("cancel",(j4 (ary (ae k)))),("throw",(atg (ae k)))] ρ M=.ok dO (M++[.ai (q2 Y)]):=by
 unfold Dh;simp only[cZ,zD,aR,bM,a2X h hk,a1m h hk,ag];rfl
def acP Gn gw:trunc aDR [ο 7,Ω w.s,η i,η x] M=.ok (.ah (wg Y W w i x)) M:=by
 refine VN rfl;rw[Er aDR P q (∃G,q=.ok (.ah (wg Y W w i x)) (M++G)) (jE dO (M++[.ai (q2 Y)]) (aNM h rfl))];rw[eB];rw[CC h1 (h.push (.ai (q2 Y))) (yl aju (M++[.ai (q2 Y)]) dO (M++[.ai (q2 Y)]) (Ω "enter") (M++[.ai (q2 Y)]) (M++[.ai (NO Y)]) (aNT h1 rfl) rfl rfl ?_ fB)]
 ·rw[aCE (kvs:=q2 Y) Ξ (kk:=aCe) rfl (by rw[Iv 3]),aYv];simp
 rw[fS h2 (h.push (.ai (NO Y))) hd (rH (M++Ca (NO Y)) M.length .ai (NO Y)) Ξ]
 generalize a30:M++Ca (NO Y)=M2 at h2 hd;rw[ko fin (∀Gv,b=wg Y W w i x->∃G,(Res.ok (aj.ah b) M2)=.ok (.ah (wg Y W w i x)) (M++G)) (λhb=>⟨Ca (NO Y),j0 a30 hb⟩) (G5 (tE (SY Y w)) M2)]
 ·rw[c_];simp only[au,aT,bB,bw,ag];rw[aDF hd awK,aHg];cases SY Y w<;>rfl
 ·rw[UC n hn hk];refine HU (.ah (AB i n)) M2 (t8 (eP (fin ?_)))
  ·unfold amh
   simp only[bg,aT,bB,bw,ag,aGs];unfold AB;by_cases h0:0≤i
   ·simp only[h0,decide_true,Bool.true_and];simp only[au,aT,bB,bw,ag];rw[YA hd awK (by rw[aHg,hn];rfl),ag,aVJ]
   ·simp[h0]
  ·rw[dJ wg hn]
 ·have hn:b9 (SY Y w):=by cases e:SY Y w with
   |none=>rfl
   |some n=>rw[e]at hk;cases hk
  rw[cV e3 (LY [aI,w6,qw,aX,g?] d nP) (c5 (WN (.ah (fC w gU||aax)) M2 (eP (fin ?_))))]
  ·have e4:(aj.str "tick")=Ω (fL.tick).s:=rfl;rw[aHz,au,aT,e4];rw[tG];rw[ag,bg,ag,axl,ag];by_cases ht:w=gU
   ·simp[ht]
   ·simp only[ht,decide_false,Bool.false_eq_true,if_false,Bool.false_or];rw[au,aT];rw[tG];rw[ag,e3,ag,V1 h2.j9 k zl,AL];cases dZ<;>rfl
  ·rw[dJ wg hn]
abbrev ly gI cT n_ J9(res:ng)DI:Prop:=Dk Y j M res p9 (sC Y W w i x)
def Dk.get Kl{k:o7}{W':b5}(h:Dk Y j M res k W'):Ew (res=.ok (Ω (l0 k)) M'):=by
 cases k with
 |ok=>obtain⟨M',_,e,_⟩:=h;rw[b7 M' e]
 |none=>rw[b7 M h]
 |held=>rw[b7 M h]
 |red=>rw[b7 M h]
def aWe Gn(h:dQ (wg Y W w i x)):p9=cG:=by
 have go:∀{v:fL},b9 (SY Y v)->v≠gU->dQ (wg Y W v i x)->VS:=λ{v} h1 h2 h3=>by
  rw[Ct wg h3 h1 h3];simpa[h2] using h3
 cases w with
 |set=>have h:RS i:=h;unfold C2;simp[h]
 |cancel=>have h:RS i:=h;unfold C2;simp[h]
 |throw=>have h:dQ (GR i):=h;unfold C2 lh;simp[h]
 |enter=>have h:dQ (KY i):=h;rw[ME (FJ Y W x i=_) FJ];simp[h]
 |tick=>cases h
 |go=>have:=go rfl aC h;show Dy Y W x=_;rw[dJ Dy this]
 |draw=>have:=go rfl aC h;show JC W x=_;rw[dJ JC this]
 |turn=>have:=go rfl aC h;show JD W x=_;rw[dJ JD this]
def fA Um(w:fL){u:Str}{s1 rest:cM}ayG(hv:w≠v)ayC(q:Es P (rest ρ M)):Rn P (L3 (ae k) (dj u) s1) rest ρ M:=
 gV (acp M (j0 (ala v hu h) (decide_eq_false hv)) (c5 (aw q)))
def aQs Um(w:fL){u:Str}e7{rest:cM}(hu:w.s=u)ayC(y:aj)J_(e:c8=.ok y M')(q:P (.ok y M')):Rn P (L3 (ae k) (dj u) (bZ d)) rest ρ M:=
 gV (JJ M (j0 (ala w hu h) (decide_eq_true rfl)) (qL y M' e (t8 (eP q))))
def acZ Gn aKl(ht:gt [ο 7,Ω w.s,η i,η x] M=.ok (.ah (wg Y W w i x)) M)
  (h0:arK i->qA (g0 [ο 7,η i] M) iG)(h1:arK i->qA (g1 [ο 7,η i] M) iI)(h2:aO (GR i)->qA (g2 [ο 7,η i] M) jY)
  (h3:aO (KY i)->qA (g3 [ο 7,η x,η i] M) iJ)(h4:qA (jq [ο 7] M) gU)(h5:∀t,dZ=fm->qA (jr [ο 7,η x] M) .go)
  (h6:∀t,dZ=fm->qA (jt [ο 7,η x] M) jJ)(akA:∀t,dZ=fm->qA (ju [ο 7,η x] M) h7):
  qA (auW gt g0 g1 g2 g3 jq jr jt ju [ο 7,Ω w.s,η i,η x] M) w:=by
 rw[Er auW P q (ly Y M W j q w i x) (gV (tV (! wg Y W w i x)))]
 ·simp only[Jp,kI,bP,aR,bM,aT,bB,bw,ag,ht,adG]
 ·refine Lg (Ω "none") M (eP ?_);rw[Ri ly (aWe pL)]
 rw[dX hk (aO (wg Y W w i x)) pL Ad]
 rw[bq tr (∀{v:fL},b9 (SY Y v)->v≠gU->aO (wg Y W v i x)->∃t,dZ=fm) (λ{v} h1 h2 h3=>by
  unfold wg at h3;rw[bV h1 h3 (Option.isSome_iff_exists.mp (UG h2 h3))]) ev (∀Bo wO dH DG GA,du ds [aI,w6,qw,aX] M=.ok xs M->g xs M=.ok y M'->ay g ds [aI,w6,qw,aX] M=.ok y M') (λe1 e2=>by
  rw[bP,e1,ag,e2])]
 cases w with
 |set=>
  have L:=h0 hk;rw[e8 M' e L.get (XE P q q iG iG _ (OF e) (e▸L))]
 |cancel=>
  have L:=h1 hk;rw[e8 M' e L.get (fA (P:=λq=>ly Y M W j q iI i x) iI iG rfl aC rfl (XE P q q iI iI _ (OF e) (e▸L)))]
 |throw=>
  have L:=h2 hk;rw[e8 M' e L.get (fA (P:=λq=>ly Y M W j q jY i x) jY iG rfl aC rfl (fA (P:=λq=>ly Y M W j q jY i x) jY iI rfl aC rfl (XE P q q jY jY _ (OF e) (e▸L))))]
 |enter=>
  have L:=h3 hk;rw[e8 M' e L.get (fA (P:=λq=>ly Y M W j q iJ i x) iJ iG rfl aC rfl (L5 iJ iJ iI iJ iJ jY (XE P q q iJ iJ _ (OF e) (e▸L))))]
 |tick=>
  have L:=h4;rw[e8 M' e L.get (fA (P:=λq=>ly Y M W j q gU i x) gU iG rfl aC rfl (L5 gU gU iI gU gU jY (fA (P:=λq=>ly Y M W j q gU i x) gU iJ rfl aC rfl (XE P q q gU gU _ (OF e) (e▸L)))))]
 |go=>
  rw[zU t htr (tr rfl aC hk) L (h5 t htr)];rw[e8 M' e L.get (fA (P:=λq=>ly Y M W j q .go i x) .go iG rfl aC rfl (L5 .go .go iI .go .go jY (L5 .go .go iJ .go .go gU (XE P q q .go .go _ (OF e) (e▸L)))))]
 |draw=>
  rw[zU t htr (tr rfl aC hk) L (h6 t htr)];rw[e8 M' e L.get (fA (P:=λq=>ly Y M W j q jJ i x) jJ iG rfl aC rfl (L5 jJ jJ iI jJ jJ jY (L5 jJ jJ iJ jJ jJ gU (fA (P:=λq=>ly Y M W j q jJ i x) jJ .go rfl aC rfl (XE P q q jJ jJ _ (OF e) (e▸L))))))]
 |turn=>
  rw[zU t htr (tr rfl aC hk) L (akA t htr)];rw[e8 M' e L.get (fA (P:=λq=>ly Y M W j q h7 i x) h7 iG rfl aC rfl (L5 h7 h7 iI h7 h7 jY (L5 h7 h7 iJ h7 h7 gU (L5 h7 h7 .go h7 h7 jJ (qL _ M' (OF e) (eP (e▸L)))))))]
universe zE
universe Sb
universe zE
section
namespace Sb
open PySem L2
structure awa(a b c d:Addr):Prop where
 ab:a≠b
 ac:a≠c
 ad:a≠d
 bc:b≠c
 bd:b≠d
 cd:c≠d
abbrev axN ax2 DI cT:ng:=match w with
 |iG=>g0 [ο 0,η i] M
 |iI=>g1 [ο 0,η i] M
 |jY=>g2 [ο 0,η i] M
 |iJ=>g3 [ο 0,η x,η i] M
 |gU=>jq [ο 0] M
 |.go=>jr [ο 0,η x] M
 |jJ=>jt [ο 0,η x] M
 |h7=>ju [ο 0,η x] M
abbrev qr DI(y:aj):bu:=[aD,w6,qw,aX,zg,none]
abbrev Tj aJF:cM:=
 (bp (r6 D4) (xq Sf) (bp (r6 vJ) (xq mB) (bp aqD (xq oC) (bp (r6 BR) (H6 Sy [ak,bH,aH]) (bp (r6 G_) (H6 sk E1) (bp as5 (Cb Nr) (bp asw (Cb SP) (Cb SQ))))))))
section
variable {C:gv}{Y:dK}{o:ek}{M:aS}{B:dM}{W:b5}{j:Nat}{ρ:bu}
def aQt{w:fL}{u:Str}an0 ayG{i x:Int}DG:bp (ď u) s1 s2 (nK y) M=vE w v (s1 (nK y) M) (s2 (nK y) M):=by
 rw[vM bp (ala (w:=w) v hu rfl)];rw[xx h w v h]
def SU Bo wO dH(h:vQ=.ok xs M):mP (ay g ds) ρ M=RB (g xs M).out _ (.nx ρ aa):=by
 rw[kF mP bP h ag]
def aGg anE Gn DG:Tj g0 g1 g2 g3 jq jr jt ju (nK y) M=(axN g0 g1 g2 g3 jq jr jt ju w i x M).out (nK y) λ_ aa=>.nx (nK y) aa:=by
 rw[eE h2 (du [ak,aH] (nK y) M=.ok [ο 0,η i] M) rfl h1 (du E1 (nK y) M=.ok [ο 0] M) rfl h3 (du [ak,bH] (nK y) M=.ok [ο 0,η x] M) rfl h4 (du [ak,bH,aH] (nK y) M=.ok [ο 0,η x,η i] M) rfl];unfold Tj;rw[Wr u "set" iG,Wr u "cancel" iI,Wr u "throw" jY,Wr u "enter" iJ,Wr u "tick" gU,Wr u "go" .go,Wr u "draw" jJ,SU h2,SU h2,SU h2,SU h4,SU h1,SU h3,SU h3,SU h3];cases w<;>rfl
abbrev rh(C:gv):o7->Addr
 |.ok=>C.cI
 |cG=>C.cI
 |.held=>C.he
 |.red=>C.rd
def Zu.bad Kl{k:o7}{P:cO dM}(h:Zu C Y o M res k P)(hk:k≠.ok):res=bG (rh C k) M:=by
 cases k with
 |ok=>rw[Q! hk]
 |none=>exact h
 |held=>exact h
 |red=>exact h
def aHh anE Gn{ia:Addr}{k:o7}{P:cO dM}(h:Zu C Y o M (axN g0 g1 g2 g3 jq jr jt ju w i x M) k P):
  (k=.ok/\∃M' o' B',uh [ia,C.cI,C.he,C.rd] 4 5 (Tj g0 g1 g2 g3 jq jr jt ju) (nK .bb) M=.nx (nK .bb) M'/\Hz o' M' B'/\Iz o'/\P B') ∨
  (k≠.ok/\uh [ia,C.cI,C.he,C.rd] 4 5 (Tj g0 g1 g2 g3 jq jr jt ju) (nK .bb) M=.nx (nK dO) (M++[bG (rh C k)])):=by
 by_cases hk:k=.ok
 ·subst hk;obtain⟨M',o',B',e,h1,h2,h3⟩:=h;refine aq ⟨rfl,M',o',B',?_,h1,h2,h3⟩;rw[kF uh aGg e Res.oS]
 ·refine aA (lM hk);rw[kF uh aGg (h.bad hk) Res.aWT];rw[ku (kR (by cases k<;>simp[rh]))];rfl
def aee{jx:tH}bf jT{k:Bool}e7 aeU(hn:M[n]? = d7 bG c)(ht:jx.lookup c=fc):adq jx d ρ M=.ok (.ah k) M:=by
 rw[f5 adq hd ag];rw[ku hn];rw[ku ht]
def a04 aJI(h:awa a b c d):([(a,x),(b,y),(c,z),(d,u)]:tH).lookup b=zg/\ahf ([(a,x),(b,y),(c,z),(d,u)]:tH) c z/\([(a,x),(b,y),(c,z),(d,u)]:tH).lookup d=dD:=by
 rw[eE h1 (uP b a) (beq_eq_false_iff_ne.mpr h.ab.symm) h2 (uP c a) (beq_eq_false_iff_ne.mpr h.ac.symm) h3 (uP c b) (beq_eq_false_iff_ne.mpr h.bc.symm) h4 (uP d a) (beq_eq_false_iff_ne.mpr h.ad.symm)];rw[bq h5 (uP d b) (beq_eq_false_iff_ne.mpr h.bd.symm) h6 (uP d c) (beq_eq_false_iff_ne.mpr h.cd.symm)];simp only[List.lookup,h1,h2,h3,h4,h5,h6,BEq.rfl,and_self]
def a2Y{a b c d:Bool}:countP (ς [.ah a,.ah b,.ah c,.ah d]) [fT .ah] M=.ok (η (di ([a,b,c,d].filter id):Nat)) M:=by
 cases a<;>cases b<;>cases c<;>cases d<;>with_unfolding_all rfl
def a2Z{a b c d:Bool}pn(h:[a,b,c,d].findIdx? id=fc):Jv (ς [.ah a,.ah b,.ah c,.ah d]) [fT .ah] M=.ok (η k) M:=by
 cases a<;>cases b<;>cases c<;>cases d<;>cases h<;>with_unfolding_all rfl
def acE{ia:Addr}bf{k:o7}(hd:awa ia C.cI C.he C.rd)(hn:rH M n bG (rh C k))(hk:k≠.ok):aul ia C.he C.cI C.rd [ο n] M=.ok (Ω (l0 k)) M:=by
 rw[mu aul P q (q=.ok (Ω (l0 k)) M)]
 rw[Cg main (∀Gw(k0 k1 k2 k3:Bool)(m:Nat)(r:Str),M[n]? = d7 bG c->ahf ([h9 ia,ż,ž,Ā]:tH) c k0->ahf ([zS ia,asY,ž,Ā]:tH) c k1->ahf ([zS ia,ż,asZ,Ā]:tH) c k2 →
   ahf ([zS ia,ż,ž,as1]:tH) c k3->([h9 ia,asY,asZ,as1]:tH).lookup c=u6->di ([k0,k1,k2,k3].filter id)=1->cE ([k0,k1,k2,k3].findIdx? id) m->([Ω "bad",Ω "none",Ω "held",Ω "red"]:dY)[m]? = Hy r->r=l0 k →
   Es (λq=>q=.ok (Ω (l0 k)) M) ((uU 1 (dI [(H7 [h9 ia,ż,ž,Ā]),(H7 [zS ia,asY,ž,Ā])]) 1 (Mu (dI [(H7 [zS ia,ż,asZ,Ā]),(H7 [zS ia,ż,ž,as1])])) (KD (WE (M? (dP (H7 [h9 ia,asY,asZ,as1]))) (Lw (ajB [(Rg .ah)]) (Θ 1)) (bZ (dj "wrong"))) (aa1 [(dj "bad"),Vj,ă,ĵ] (fI Jv aG [(Rg .ah)])))) [cF n,none] M)) (by
  intro c k0 k1 k2 k3 m r hn h0 h1 h2 h3 h4 hf hi hr hs;rw[zh (ς [.ah k0,.ah k1]) M]
  ·rw[eD,aR,aee rfl hn h0,ag,aR,aee rfl hn h1,ag,bM,ag,ag,ag,xR]
  rw[ji (rO (ς [.ah k0,.ah k1,.ah k2,.ah k3]) M)]
  ·rw[au,aT];rw[tG];rw[ag,eD,aR,aee rfl hn h2,ag,aR,aee rfl hn h3,ag,bM,ag,ag,ag,xR,ag];show R2 [.ah k0,.ah k1,.ah k2,.ah k3] M=_;rw[xR]
  rw[tK (D_ M (c5 (WN (Ω r) M (eP (iZ hs)))))]
  ·rw[fS e3 (aee (ρ:=[cF n,kQ [.ah k0,.ah k1,.ah k2,.ah k3]]) (d:=ak) rfl hn h4) e4 ((Lw (ajB [(Rg .ah)]) (Θ 1)) [cF n,kQ [.ah k0,.ah k1,.ah k2,.ah k3]] M=.ok false M) (by
    simp[a2Y,hf])]
   rw[yn,Jp,kI,e3];exact e4
  ·simp[a2Z m hi];rw[C3 hr]) l (fun(x y z u:Bool)=>a04 (x:=x) (y:=y) (z:=z) (u:=u) hd)];cases k with
 |ok=>rw[Q! hk]
 |none=>exact main C.cI false true false false 1 "none" hn (l _ _ _ _).1 (l _ _ _ _).1 (l _ _ _ _).1 (l _ _ _ _).1 (l _ _ _ _).1 rfl rfl rfl rfl
 |held=>exact main C.he false false true false 2 "held" hn (l _ _ _ _).2.1 (l _ _ _ _).2.1 (l _ _ _ _).2.1 (l _ _ _ _).2.1 (l _ _ _ _).2.1 rfl rfl rfl rfl
 |red=>exact main C.rd false false false true 3 "red" hn (l _ _ _ _).2.2 (l _ _ _ _).2.2 (l _ _ _ _).2.2 (l _ _ _ _).2.2 (l _ _ _ _).2.2 rfl rfl rfl rfl
abbrev axm n! DL ayL(v:o7->aj)(P:cO dM):Prop:=
 (k=.ok/\∃M' o' B',res=.ok (v k) M'/\Hz o' M' B'/\Iz o'/\P B')\/(k≠.ok/\∃c,res=.ok (v k) (M++[bG c]))
universe zE
universe Sb
universe zE
section
namespace Sb
open PySem L2
abbrev eh(d:fL×Int×Int):aj:=aV [Ω d.1.s,η d.2.1,η d.2.2]
abbrev A0(iS:akg)(d:fL×Int×Int):Prop:=l8 d.2.1/\iS d.2.2
def SK{N m:Int}(hm:0<m):∃k:Nat,N%m=k/\aY k<m:=by
 rw[oD (apa N b m) (Int.emod_lt_of_pos N hm)];rw[bC (N%m).toNat av av]
section
variable {Y:dK}{M:aS}{W:b5}{j:Nat}{ρ:bu}
def Jr{N m:Int}(h:0<m):gr (η N) (η m) M=.ok (η (N%m)) M:=by
 unfold gr nW;simp[h]
def avO{N m:Int}(h:0<m)(h2:ę m):v7 (η N) (η m) M=.ok (η (N / m)) M:=by
 unfold v7 nW;simp[h,h2]
def JH gb Ub TY{d aCz:br}{N c:Int}dU aKv(hm:aCz ρ M=.ok (arO η) M)(hN:yW k HV)(fg:ú 0)(h1:0<c:=by decide)(h2:ę c:=by decide):
  ∃a∈xs,E6 d (Qo (cD v7 (ae k) (Θ c)) aCz) ρ=.ok Bu M:=by
 rw[HP m e1 e2 (SK (N:=N / c) (m:=xs.length) av) fK (ú m) av]
 rw[Af xs[m] aL8];rw[au,hd,ag,au,au,aT,hN];dsimp only;rw[ag,bg,ag,avO h1 h2,ag,hm,ag,Jr av,ag,e1];exact C3 (by rw[QX eX fK];rfl)
def aYw gb Ub TY e7 aKv:ay eW [d] ρ M=.ok (arO η) M:=by
 rw[bP,aR,hd];simp[eW]
def a20 DK Gp:eW [ο n] M=.ok (asf η) M:=by
 unfold eW;simp[qV,h]
def Yb ZD N2{bX iP:D1}gw(hs:uX)(NW:aBa 16)aor
  (hn:iP [ο 7,η s] M=.ok (gL CQ) M)Z4(q4:QJ q (iS q.1))(Dt:Ux 90):
  ∃ds:gW fL (Int×Int),ť 90/\(∀d∈ds,A0 iS d)/\aua bX iP [ο 7,η s] M=.ok (ς ah3) M:=by
 rw[gM hnn (abA x CQ x) (CX (by
  rw[Vn q hq hx (q4 q azo.1)])) J4 (k8 CQ 90) (by
  rw[jW Jf eH (KI qx Dt)]) key (∃ds:gW fL (Int×Int),ť 90/\(∀d∈ds,A0 iS d)/\((aO k9/\∃nm:Int,ds=[(iJ,aY s,nm)]/\E6 (dI [(Θ 0),Mt,(Θ 102),(Θ 103),(Θ 104)]) (ay Te [(Θ 4),(j4 xB)]) [aI,er,CK,B?]=.ok (η nm) M)\/(dQ k9/\ds=(CQ).map λx=>(.go,0,x)))) (by
  rw[rA hk k9]
  ·obtain⟨m,a65,hm⟩:∃m:Nat,m<5/\(ajl (i_ W.trains.length<4) (W.trains.length:Nat) 4)=aY m:=by
    split
    ·exact kA W.trains.length av
    ·exact kA 4 av
   rw[gM hl (mO ([0,101,102,103,104]:eK)=5) rfl fK (m<mO ([0,101,102,103,104]:eK)) av TP (abA y ([0,101,102,103,104]:eK) y) (vW y (hN y (List.mem_append_left [100,-3,-5,3,999999,7] hy)))]
   refine⟨[(iJ,aY s,([0,101,102,103,104]:eK)[m])],Ξ,?_,aq (tQ hk _ ?_)⟩
   ·intro d hd;rw[V7 (List.mem_singleton.mp hd) ⟨by rw[MJ (-1000≤aY s)],by show aY s≤_;omega⟩ (TP _ aL8)]
   ·have e1:=tg [aI,er,CK,B?] nP;rw[au,eD];simp only[aR,bM,bg,ag,bP];rw[xR,ag,e1];rw[qG (a20 h.j9)];rw[I8 (Te [η 4,η (di pQ:Nat)] M) .ok (η (ajl (i_ (di pQ)<4) (di pQ:Nat) 4)) M,avT,hm,ag]
    exact C3 (xs:=([0,101,102,103,104]:eK).map aj.int) (by rw[QX eX fK];rfl)
  ·refine⟨(CQ).map λx=>(.go,0,x),bh J4,?_,aA (lS pL)⟩;intro d hd;rw[xA x hx hd];rw[b7 ⟨by rw[MJ (-1000≤aY 0)],by show aY 0≤_;omega⟩ (hnn x hx)])]
 obtain⟨ds,hdl,JP,hc⟩:=key;refine⟨ds,hdl,JP,?_⟩;rw[Ľ aua P q (q=.ok (ς ah3) M) e1 [aI,er,none,none] d YB (ad7 WZ [aI,er,CK,B?] M ?_ anf fB)]
 ·rw[au,e1];simp[S4 hs]
 rw[CC e2 (tg [aI,er,CK,B?] M8) (tV k9)]
 ·rw[c_,au,bP,aR,e2];simp only[aR,bM,aT,bB,bw,ag,bg,hb,aIq];rfl
 ·rcases hc with⟨_,nm,rfl,e⟩ | ⟨hc,_⟩
  ·rw[mC (HU (ς [eh (iJ,aY s,nm)]) M (t8 (eP rfl))) eD];simp only[aR,bM,FF,e,bg,aT,bB,bw,ag];rw[xR];rfl
  ·rw[hk]at hc;cases hc
 ·rcases hc with⟨hc,_⟩ | ⟨_,rfl⟩
  ·rw[hk]at hc;cases hc
  ·rw[mC (c5 (Ŏ _ M)) (IP CQ w M (ED gO n) (λx=>eh (.go,0,x)) (k7 (ρ=[y])) (ja (by simp only[bP,aR,bM,aT,bB,bw,ag,hn])) (nH z) (gX J4))]
   ·rw[r9,f6 (by rw[s5 J4]),List.map_map];rfl
   ·rw[E! (λ_=>by rw[FF];rfl)]
universe zE
universe Sb
universe zE
end
mutual
section
namespace Sb
open PySem L2
abbrev awL:cM:=(Fo (kX (kC gr (Θ 32)) (Θ 1)) (pR 9 (d5 (dI [OD,(Nb (ae 8) jL ajo),(nD Lq (zB (Θ 32) Lq))]) (cD gr (kC v7 Ħ) (Θ 3))) (lW 5 (d5 (dI [(wm (Θ 5)),(Θ 3),aCj]) (cD gr (kC v7 Ħ) (Θ 3))))) (bZ (cA [jL,(ae 9),(uw (wF aj8 aj9) fU (abc (dI [(Θ 0),ajR,Mt,(wm (Θ 3))]) 512))])))
abbrev awM:cM:=(m7 (CF (s6 jL vJ) (dP (d5 aH (dC (Ω "green")))) (lW 9 (ES (d5 aH (dC (Ω "green"))) 64 ajn))) awL)
abbrev awN:cM:=(m7 (CF (dP aA7) (wj (dP bY) (vv (kX (kC gr (Θ 4)) (Θ 2)))) (bZ (cA [(abc (dI [(dj "turn"),WC,(dj "turn"),G_]) 64),(Θ 0),(ES bY 256 (tF bY))]))) awM)
abbrev aH6(akV:D1):cM:=(m7 (CF (vv (kX (kC gr (Θ 4)) (Θ 0))) (dP (d5 aH (dC (Ω "green")))) (uU 10 (ES (d5 aH (dC (Ω "green"))) 64 ajn) 11 (Ii (ay akV [aH,(ahI ļ 10)]) (sd (cA [vJ,(ae 10),(Θ 0)])) (zB (Θ 256) (Θ 2))) (Ls (ae 11) (bZ (ES (ae 11) 1024 (j4 (ae 11))))))) awN)
abbrev ang:List fL:=[iG,iG,.go,.go,.go,jJ,jJ,iJ,iI,gU,jY,h7]
abbrev iQ yR(k N:Int)(names:eK)(nm:Int)(l:aj)(w:fL)dS(a:Int)(y z:wY):bu:=[rX .cY,jG,aI,HV,Ü,cJ nm,some l,w6,cF n,cJ a,y,z]
abbrev Gk(iS:akg)cT(q:ng):Prop:=∃d,A0 iS d/\q=.ok (eh d) M
abbrev FY gI(w:fL):Nat:=match w with
 |iG=>Y.rs.length
 |iI=>Y.rs.length
 |jY=>Y.ps.length
 |_=>Y.ss.length
section
variable {Y:dK}{M:aS}{W:b5}{j:Nat}{ns:eK}{k N:Int}{names:eK}{nm:Int}{l:aj}{w:fL}{n:Nat}{a:Int}{y z:wY}{ρ:bu}
def aGh fN:Eh (FY Y w):=by
 rw[oO h1 G.len h2 G.g.eg h3 G.g.um];cases w<;>(rw[Ej FY];omega)
def aFw gw afc(h8:atd 8 n)(akA:yW 7 w6)(h2:abJ 2):Nb (ae 8) jL ajo ρ M=.ok (η (FY Y w)) M:=by
 rw[Á Nb aT h8];rw[ag,oW hd];rw[đ aT akA]
 dsimp only;rw[ag,aNT h h2,ag,oW hd,awK];dsimp only
 have:(qR (q2 Y) (cx w.s)).getD aju=η (FY Y w):=by cases w<;>with_unfolding_all rfl
 rw[this]
def tmod{c r:Int}(h3:yW 3 HV)(hc:0<c):n9 (kX (kC gr (Θ c)) (Θ r)) ρ M=.ok (fC (N%c) r) M:=by
 rw[c_,au,au,aT,h3];dsimp only;rw[ag,bg,ag,Jr hc,ag,bg,ag,t_];rfl
def aH7 gw(h2:abJ 2):dP (d5 aH (dC (Ω "green"))) ρ M=.ok aAm M:=by
 rw[kI,h.ix (B! h2) YU,ag];simp[gR]
def aGi gw(h2:abJ 2)(h3:yW 3 HV)(hg:aAB):∃r∈W.green,E6 (d5 aH (dC (Ω "green"))) (zB (Θ 64) ajn) ρ=.ok (η r) M:=by
 rw[fS e (h.ix (ρ:=ρ) (d:=aH) (B! h2) YU) hp (0<W.green.length) (apw hg)];exact JH (enc:=agx (r:Nat) r) e (atv (agx (r:Nat) r) e) h3 hp
def lits{xs:eK}Z2 wO(h:vQ=.ok asi M):Lo ds ρ M=.ok (ς (xs.map aj.int)) M:=by
 rw[eD,h,ag,iL (bh hl)]
def a21 iC(h1 : -1000≤i:=by decide)(h2:aAj i:=by decide):GD:=⟨h1,h2⟩
def aHi ZD Z4 fN gw afc ano:Es (Gk iS M) (awL (iQ ns k N names nm l w n a y z) M):=by
 unfold awL
 rw[ko last (∀(nm a:Int),iS nm->l8 a->Es (Gk iS M) ((bZ (cA [jL,(ae 9),(uw (wF aj8 aj9) fU (abc (dI [(Θ 0),ajR,Mt,(wm (Θ 3))]) 512))])) (iQ ns k N names nm l w n a y z) M)) (λnm a q4 ha=>by
  have e1:n9 (cD (dq true) jL BR) (iQ ns k N names nm l w n a y z) M=.ok (!(fC w iJ)) M:=by
   have e4:(aj.str "enter")=Ω (fL.enter).s:=rfl;rw[c_,au,pY 7 (iQ ns k N names nm l w n a y z) M .ok (Ω w.s) M,ag,bg,ag,e4,axl]
   rfl
  obtain⟨b,hb,e2⟩:∃b∈([0,100,101,-3]:eK),E6 (dI [(Θ 0),ajR,Mt,(wm (Θ 3))]) (zB (Θ 512) (Θ 4)) (iQ ns k N names nm l w n a y z)=.ok (η b) M:=
   JH (enc:=aj.int) (xs:=[0,100,101,-3]) (lits aC rfl) rfl rfl aC
  have aCR:iS b:=hN b (by
   simp only[List.mem_cons,List.not_mem_nil,or_false]at hb⊢
   omega)
  obtain⟨c,hc,e3⟩:∃c,iS c/\uw (wF aj8 aj9) fU (abc (dI [(Θ 0),ajR,Mt,(wm (Θ 3))]) 512) (iQ ns k N names nm l w n a y z) M=.ok (η c) M:=by
   have f9:∃q,wF aj8 aj9 (iQ ns k N names nm l w n a y z) M=.ok q M:=by
    rw[yn,e1,ag,asS aC];rw[xx hw w iJ hw]
   obtain⟨q,f9⟩:=f9;rw[YZ,f9,ag];cases q with
   |true=>exact kA nm q4
   |false=>rw[bC b aCR e2]
  refine HU (eh (w,a,c)) M (eP (uY ⟨ha,hc⟩));rw[FF,aR,pY 7 (iQ ns k N names nm l w n a y z) M .ok (Ω w.s) M,ag,aR,B3 9 (iQ ns k N names nm l w n a y z) M .ok a M,ag,aR,e3]
  rfl) (su (fC (N%32) 1) M (asS aC) (ck hk) (λhk=>c5 (kn (last nm a q4 ha))))];have Y1:=aGh (w:=w) G;obtain⟨q,a6Y,a6Z⟩:=SK (N:=N / 32) (m:=1000) aC
 obtain⟨b,hb,e2⟩:∃b∈([-1,aY (FY Y w),1000+N / 32%1000]:eK),E6 (dI [OD,(Nb (ae 8) jL ajo),(nD Lq (zB (Θ 32) Lq))]) (zB Ħ (Θ 3)) (iQ ns k N names nm l w n a y z)=.ok (η b) M:=by
  refine JH (enc:=aj.int) (xs:=[-1,aY (FY Y w),1000+N / 32%1000]) (lits (by rw[BL (oF 3)]) ?_) rfl rfl (by rw[BL (0<3)])
  rw[bq e1 (wm (Θ 1) (iQ ns k N names nm l w n a y z) M=.ok (η (-1)) M) rfl e3 (cD (sq false) Lq (zB (Θ 32) Lq) (iQ ns k N names nm l w n a y z) M=.ok (η (1000+N / 32%1000)) M) (by
   rw[au,bg,ag,au,au,B3 3 (iQ ns k N names nm l w n a y z) M .ok N M,ag,bg,ag,avO aC aC,ag,bg,ag,Jr aC,ag]
   rfl)]
  rw[aR,e1,ag,aR,aFw (w:=w) h hd rfl rfl rfl,ag,aR,e3];rfl
 rw[dX aCR (l8 b) (by
  rw[Ht hb];rw[Ŧ l8]) (abl b e2)];show F3 (L2.Fin (Gk iS M)) _ (lW 5 _ (iQ ns k N names nm l w n b y z) M)
 obtain⟨c,hc,e4⟩:∃c∈([-5,3,999999]:eK),E6 (dI [(wm (Θ 5)),(Θ 3),aCj]) (zB Ħ (Θ 3)) (iQ ns k N names nm l w n b y z)=.ok (η c) M:=
  JH (enc:=aj.int) (xs:=[-5,3,999999]) (lits aC rfl) rfl rfl aC
 rw[dX hcs (iS c) (hN c (by
  simp only[List.mem_cons,List.not_mem_nil,or_false]at hc⊢
  omega)) (Nl (η c) M e4 fB)];exact last c b hcs aCR
def aYx ZD Z4 fN ant afc ano:Es (Gk iS M) (awM (iQ ns k N names nm l w n a y z) M):=by
 rw[zM awM (gV (su (fC w iI&&aAm) M ?_ (ck hk) (λhk=>c5 (kn (aHi hN G h hd q4 ha)))))]
 ·rw[Jo,ala (w:=w) (u:= "cancel") iI rfl rfl,ag,aH7 h rfl];rw[xx hw w iI hw]
 ·have hg:aAB:=aBX azJ.2
  rw[BE r hr e (aGi (N:=N) (ρ:=iQ ns k N names nm l w n a y z) h rfl rfl hg) (Nl (η r) M e fB)];rw[oD (o4 r hr) G.len];exact aHi (a:=aY r) hN G h hd q4 ai9
def aHj ZD Z4 fN ant afc(yL:abA x names x)ano:Es (Gk iS M) (awN (iQ ns k N names nm l w n a y z) M):=by
 unfold awN;rw[CC bz (h.ix (ρ:=iQ ns k N names nm l w n a y z) (d:=aH) rfl Jq) (su (aNk&&(aBC&&fC (N%4) 2)) M ?_ (ck hk) (λhk=>c5 (kn (aYx hN G h o4 hd q4 ha))))]
 ·rw[bq e1 (dP aA7 (iQ ns k N names nm l w n a y z) M=.ok aNk M) (by
   rw[kI,bz,ag];rw[Cr gR h.jy];rw[Ri encD List.isEmpty_map]) e2 (dP bY (iQ ns k N names nm l w n a y z) M=.ok aBC M) (by
   rw[kI,pY 4 (iQ ns k N names nm l w n a y z) M .ok (gL names) M,ag]
   simp[gR])]
  rw[Jo,e1,ag,Jo,e2,ag,asS aC];cases W.falls.isEmpty<;>cases names.isEmpty<;>simp
 ·rw[bq hn (dQ names.isEmpty) (by
   have:=(Bool.and_eq_true_iff.mp azJ.2).1;simpa using this) hp (0<names.length) (apw hn)]
  obtain⟨v,hv,e1⟩:∃v∈([h7,.go,h7,gU]:List fL),E6 (dI [(dj "turn"),WC,(dj "turn"),G_]) (zB (Θ 64) (Θ 4)) (iQ ns k N names nm l w n a y z)=.ok (Ω v.s) M:=
   JH (enc:=fun(v:fL)=>aj.str v.s) (xs:=[h7,.go,h7,gU]) (by rw[az eD W0]) rfl rfl aC
  have en:ae 4 (iQ ns k N names nm l w n a y z) M=.ok (ς aNo) M:=rfl;rw[BE x hx e2 (JH (c:=256) (N:=N) (k:=3) (enc:=aj.int) (xs:=names) en (atv aj.int en) rfl hp) (HU (eh (v,0,x)) M (t8 (eP (uY ⟨a21 (i:=0),yL x hx⟩))))];rw[FF,aR,e1,ag,aR,bg,ag,aR,e2];rfl
def aYy ZD{gd:D1}Z4 fN ant afc(yL:abA x names x)ano
  (hg:vB s (uX->∃ds:gW fL (Int×Int),ť 90/\(∀d∈ds,A0 iS d)/\gd [ο 7,η s] M=.ok (ς ah3) M)):Es (Gk iS M) (aH6 gd (iQ ns k N names nm l w n a none none) M):=by
 rw[zM aH6 (gV (su (fC (N%4) 0&&aAm) M ?_ (ck hk) (λhk=>c5 (kn (aHj hN G h o4 hd yL q4 ha)))))]
 ·rw[Jo,asS aC,ag,aH7 h rfl];rw[xx hw (N%4) 0 hw]
 ·have hge:aAB:=aBX azJ.2
  rw[aiU r hr (aGi (N:=N) (ρ:=iQ ns k N names nm l w n a none none) h rfl rfl hge)];rw[cV yN (o4 r hr) (abl r e)]
  show F3 (L2.Fin (Gk iS M)) _ (m7 (lW 11 _) _ L4 M);obtain⟨ds,hdl,JP,Fz⟩:=hg cg (G.sg yN);have Jj:=h.ix (ρ:=L4) (d:=aH) rfl YJ;obtain⟨m,em,hm⟩:=SK (N:=N / 256) (m:=2) aC
  rw[gM e1 (ay gd [aH,(ahI ļ 10)] L4 M=.ok (ς ah3) M) (by
   rw[bP,aR,pY 2 L4 M .ok (ο 7) M,ag,aR,au,au,Jj,ag,B3 10 L4 M .ok r M,ag,JB yN,ag,bg,ag,S3]
   rw[qG bM];exact Fz) e2 (cD (lx false) (sd (cA [vJ,(ae 10),(Θ 0)])) (zB (Θ 256) (Θ 2)) L4 M=.ok (ς ((List.replicate m (fL.cancel,aY r,aY 0)).map eh)) M) (by
   have el:Lo [(cA [vJ,(ae 10),(Θ 0)])] L4 M=.ok (ς [eh (iI,r,0)]) M:=by
    rw[eD,aR,FF];exact xR
   rw[au,el,ag,au,au,B3 3 L4 M .ok N M,ag,bg,ag,avO aC aC,ag,bg,ag,Jr aC,ag,em]
   have:m=0\/m=1:=av
   rcases this with rfl | rfl<;>with_unfolding_all rfl) e3 (∃Tq:gW fL (Int×Int),oF Tq.length/\(∀d∈Tq,A0 iS d)/\(Ii (ay gd [aH,(ahI ļ 10)]) (sd (cA [vJ,(ae 10),(Θ 0)])) (zB (Θ 256) (Θ 2))) L4 M=.ok (ς U2) M) (by
   refine⟨UR ds m (fL.cancel,aY r,aY 0),by rw[aMa];omega,dz d hd,?_⟩
   ·rcases aMw with hd | hd
    ·exact JP d hd
    ·rw[List.eq_of_mem_replicate hd];have h2:=G.len;rw[b7 ⟨by rw[MJ (-1000≤aY r)],by show aY r≤_;omega⟩ (hN 0 Ξ)]
   ·rw[au,e1,ag,e2,ag,Sq,←List.map_append,iL (by rw[eH,List.length_append,List.length_replicate];omega)])]
  obtain⟨Tq,NQ,A3,e3⟩:=e3;refine XC ς U2 e3;rw[O! (F3 (L2.Fin (Gk iS M)) _ (bp _ _ _ (iQ ns k N names nm l w n a cv (HK U2)) M)) (su (! Tq.isEmpty) M ?_ (ck cS) (λ_=>c5 (kn (aHj hN G h o4 hd yL q4 ha))))]
  ·rw[kI,pY 11 (iQ ns k N names nm l w n a cv (HK U2)) M .ok (ς U2) M,ag]
   simp[gR]
  ·rw[bq hp (0<Tq.length) (apw (bh cS)) en (ae 11 (iQ ns k N names nm l w n a cv (HK U2)) M=.ok (ς U2) M) rfl];rw[QG d JV e4 (JH (c:=1024) (N:=N) (k:=3) (enc:=eh) (xs:=Tq) en (atv eh en) rfl hp) (qL (eh d) M e4 (t8 (eP (kA d (A3 d JV)))))]
def ac0 ZD{kJ gd:D1}Z4 ZQ fN ant(yL:QJ q (iS q.1))(Dt:Ux 90)
  (hg:∀cT qm,DP->uX->∃ds:gW fL (Int×Int),ť 90/\(∀d∈ds,A0 iS d)/\gd [ο 7,η s] M=.ok (ς ah3) M):
  ∃d,A0 iS d/\trunc (ak9 kJ gd) [.cY ns,η k,ο 7] M=.ok (eh d) M:=by
 have main:Gk iS (M++[.ai (q2 Y)]) (ak9 kJ gd [.cY ns,η k,ο 7] M):=by
  rw[zM ak9 (AA (P:=Gk iS (M++[.ai (q2 Y)])) ?_)]
  simp only[cZ,zD,zE,yE,Nat.zero_add,Nat.reduceAdd,Nat.reduceSub,List.replicate,Dd,wC,mV];rw[Vd (abl (vf k) (aK (hm ns k M)))];generalize vf k=N
  rw[vI J4 (k8 Q8 90) (by rw[qs Dt]) axO (abA x Q8 x) (CX (by
   rw[Vn q hq hx (yL q hq)])) (rO (gL Q8) M)]
  ·have e:=h.ix (ρ:=[rX .cY,jG,aI,HV,none,none,none,none,none,none,none,none]) (d:=aH) rfl nP;rw[bP,aR,e];rw[qG bM];rw[Cr SA (oW h.j9)];rw[ad0,f6 (by rw[ahy Dt])];rw[zy gL]
  rw[eB];generalize Q8=names at J4 axO
  obtain⟨nm,q4,e1⟩:∃nm,iS nm/\(uw (dP bY) (ES bY 16 (tF bY)) (Θ 7)) [rX .cY,jG,aI,HV,Ü,none,none,none,none,none,none,none] M=.ok (η nm) M:=by
   rw[bq en (ae 4 [rX .cY,jG,aI,HV,Ü,none,none,none,none,none,none,none] M=.ok (ς aNo) M) rfl et (dP bY [rX .cY,jG,aI,HV,Ü,none,none,none,none,none,none,none] M=.ok aBC M) (by
    rw[kI,en,ag];simp[gR])]
   rw[YZ,et,ag];cases he:names.isEmpty with
   |true=>exact kA 7 (hN 7 Ξ)
   |false=>
    have hp:0<names.length:=apw he;rw[nr x hx e (JH (c:=16) (N:=N) (k:=3) (enc:=aj.int) (xs:=names) en (atv aj.int en) rfl hp) x (axO x hx) e]
  refine abl nm e1;rw[ji (rO (ς (ang.map λw=>ass)) M)]
  ·rw[az eD W0]
  rw[eB];rw[BE w hw e2 (JH (c:=4) (N:=N) (k:=3) (M:=M) (ρ:=[rX .cY,jG,aI,HV,Ü,cJ nm,HK (ang.map λw=>ass),none,none,none,none,none]) (enc:=λw=>ass) (xs:=ang) (d:=jM) (aCz:=Θ 12) rfl rfl rfl aC) (XC Ω w.s e2)];rw[ji (jE dO (M++[.ai (q2 Y)]) (aNM h rfl))]
  rw[eB];rw[agO h1 (h.push (.ai (q2 Y))) hd (aKO (M++Ca (q2 Y)) M.length .ai Y) Ξ (M++Ca (q2 Y)) aa h1 hd];generalize M.length=n at hd;rw[fS Y1 (aGh (w:=w) G) aOE (0<(ajl (aY (FY Y w) > 1) (FY Y w) 1)) (by split<;>omega)]
  rw[agU a ea ha (SK (N:=vX (k+1)) aOE) uy (Eh a) (by split at ha<;>omega) (rO (η a) aa)]
  ·have e3:=aFw (w:=w) (n:=n) (ρ:=[rX .cY,jG,aI,HV,Ü,cJ nm,HK (ang.map λw=>ass),w6,cF n,none,none,none]) h1 hd rfl rfl rfl;simp only[au,bP,aR,bM,aT,bB,bw,ag,bg,avI,hm ns _ aa]at e3⊢;rw[V8 e3];rw[I8 (amW [η 1,η (FY Y w)] aa) .ok (η (ajl (aY (FY Y w) > 1) (FY Y w) 1)) aa,ag,Jr aOE,ea]
  rw[eB];exact aYy hN (a:=aY a) G h1 o4 hd axO q4 ai9 (λs hs=>hg aa s h1 hs)
 rw[nr d hd e main d hd (apN _ e rfl)]
universe zE
universe Sb
universe zE
section
namespace Sb
open PySem L2
section
variable {C:gv}{Y:dK}{o:ek}{M:aS}{B:dM}{W:b5}{j:Nat}{w:fL}{i x:Int}
def aWf{y:Int}(hy:y≠x):b4 (sC Y W w i x).trains y=GP y:=by
 cases w with
 |set=>rfl
 |cancel=>rw[Ej sC];split<;>rfl
 |throw=>rfl
 |tick=>show b4 (FU W).trains y=_;rw[aPx]
 |enter=>
  show b4 I7 y=_;rw[yp,UY]
 |go=>
  rw[ME (b4 (Dz Y W x).trains y=_) Dz];split
  ·rfl
  ·split
   ·show b4 I7 y=_;rw[yp,UY]
   ·split
    ·show b4 I7 y=_;rw[yp,UY]
    ·show b4 I7 y=_;rw[yp,UY]
 |draw=>
  rw[ME (b4 (FW W x).trains y=_) FW];split
  ·rfl
  ·split
   ·show b4 (Qk x) y=_;rw[M4,UY]
   ·show b4 I7 y=_;rw[yp,UY]
 |turn=>
  rw[ME (b4 (FL W x).trains y=_) FL];split
  ·rfl
  ·show b4 I7 y=_;rw[yp,UY]
def aYz{y:Int}(hy:y≠x):b4 (Dj Y W w i x).trains y=GP y:=by
 unfold Dj;split
 ·exact aWf hy
 ·rfl
def a0f ayp(hn:QJ q (l8 q.1))Bf:Ac (Dj Y W w i x).trains (l8 q.1):=r! (by
 rw[t6 q x]
 ·rw[Cm hx]
 ·have h1:=EP (aH5 (w:=w) (i:=i) (x:=x) G h).I.lB;rw[bV (aYz e) h1 (hn _ (AK h1))])
structure JR n! cT oh n_(o:ek)J9:Prop where
 y:ru
 w:DP
 f:yP Y W
 S:PV
 sep:∀i,Gj j i->o i=.Dc
 nm:QJ q (l8 q.1)
abbrev St n! cT n_:Prop:=∃B o j,rR
abbrev J6 n! DL n_(res:ng)DI:Prop:=XI C Y o M res p9 (sC Y W w i x)
def ik.ad gw gx(hi:Gj j i):rE i:=by
 rcases hi with rfl | rfl | rfl | rfl | rfl
 ·exact qN h.oZ
 ·exact qN h.mU
 ·exact qN h.jy
 ·exact aaq
 ·exact qN h.wl
def a05 GA pA(f:nI M')(sep:∀i,Gj j i->o i=.Dc):BA M' B:=
 h.keep f.len λi hi fg=>f.out i (aiH (sep i (aq e))) (aiH (sep i (aA (aq e)))) (aiH (sep i (aA (aA (aq e))))) (aiH (sep i (aA (aA (aA (aq e)))))) (aiH (sep i (aA (aA (aA (aA e)))))) hi
abbrev amC n!(gd:D1):Prop:=∀M B W o j DI,rR->qA (gd [ο 7,Ω w.s,η i,η x] M) w
abbrev adY n!(ga:D1)(v:o7->aj):Prop:=∀M B W o DI,ru->yP Y W->PV->GD->yV->axm C Y o M (ga [ο 0,Ω w.s,η i,η x] M) p9 v λB'=>akW Y (sC Y W w i x) B'
def aYA fN Gl aeR:W3 B (λp=>I4)=ľ W:=by
 unfold alC heldW
 have:∀w:iz,(∀x∈w,apo x.1)->(w.any λs=>aoW s.1||tE (UN s.1))=w.any λs=>nZ W s.1:=λw hw=>by
  induction w with
  |nil=>rfl
  |cons x w ih=>
   rw[List.any_cons,List.any_cons,ih (vW y (hw y (aK hy)))];rw[kF nZ List.getD_eq_getElem?_getD (S.locks x.1 (hw x Ξ)) (awJ S)];rfl
 exact this _ (CX (G.cR.lt r hr x.1 (qK x hx)))
def a0g(S:PV)DF(hp:w7):(zL||I4)=nZ W p:=by
 rw[kF nZ List.getD_eq_getElem?_getD (U1 hp) (awJ S)];rfl
def a06 Kl fN afe
    (h:(RS i/\res=kG)\/∃r:Nat,i=r/\lI ∧
      ((aO (W3 B (λp=>I4))/\res=bG C.he M) ∨
       (dQ (W3 B (λp=>I4))/\CV (res=.ok .bb M') (setB Y.rs ajO B r)))):J6 C Y o M W res iG i x:=by
  rw[arb J6 C2 sC];rcases h with⟨hn,e⟩ | ⟨r,rfl,hr,c⟩
  · rw[az hn e]
  rw[aho hr];rw[aYA G f.I S hr]at c;rcases c with⟨hh,e⟩ | ⟨hh,M',e,y1,f1⟩
  · rw[az hh e]
  · rw[gh hh ⟨M',o,_,e,y1,f1,aXE G.cR f.I S hr (aHe G f.I hr hh).1 (G.l5 hr)⟩]
def aWg Kl fN afe
    (h:(RS i/\res=kG)\/∃r:Nat,i=r/\lI ∧
      ((Lj r/\res=kG) ∨
       (tn/\((gJ (tW&&(Wn Y||kh))/\uR (res=.ok .bb M') (Hz (Xv r) M' (amK Y.rs B r (ath zq Y))) (Iz (Xv r)))
          \/ qI (tW&&(Wn Y||kh))/\CV (res=.ok .bb M') (alN Y.rs B r))))):J6 C Y o M W res iI i x:=by
  rw[arb J6 C2 sC];rcases h with⟨hn,e⟩ | ⟨r,rfl,hr,c⟩
  · rw[az hn e]
  rw[aho hr];rcases c with⟨hg,e⟩ | ⟨hg,c⟩
  · rw[QI hg e]
  rw[if_pos hg];rw[fS fg (aYs G f.I S f.J RH) hq ((tW&&(Wn Y||kh))=amc Y W r) (by
    rw[dJ amc fg];cases agW Y<;>rfl)]
  rw[hq]at c;rcases c with⟨hb,M',e,y1,f1⟩ | ⟨hb,M',e,y1,f1⟩
  · rw[hb,gK]
    refine⟨M',_,_,e,y1,f1,?_⟩;have:=aVS (u:=ath zq Y) G.cR f.I S hg;unfold JK at this;rw[←fg,S.ticks]at this;rw[az S.ticks this]
  · rw[hb,xU]
    exact⟨M',_,_,e,y1,f1,aS6 G.cR f.I S hg⟩
def aYB Kl fN afe
    (h:(dQ (G? i)/\res=kG)\/∃p:Nat,i=p/\w7/\I2 ∧
      ((gJ (zL||I4)/\res=bG C.he M) ∨
       (qI (zL||I4)/\CV (res=.ok .bb M') (adZ B p)))):J6 C Y o M W res jY i x:=by
  rw[arb J6 C2 sC];rcases h with⟨hn,e⟩ | ⟨p,rfl,hp,Kj,c⟩
  · rw[az hn e]
  have ab1:aO (G? (aY p)):=by rw[jW lh (at0 hp) Kj]
  rw[apv (if_pos ab1)];rw[a0g S hp]at c;rcases c with⟨hh,e⟩ | ⟨hh,M',e,y1,f1⟩
  · rw[az hh e]
  · rw[gh hh ⟨M',o,_,e,y1,f1,aUG S hp Kj⟩]
def a0h Kl fN afe(h:CV (res=.ok .bb M') (aef Y.rs B)):J6 C Y o M W res gU i x:=by
 rw[vG M' e y1 f1 h ⟨M',o,_,e,y1,f1,aVU G.cR f.I S⟩]
def a0i Kl aeR(h:(aO (ľ W)/\res=.ok (Ω "held") M)\/(arH W/\CU (res=.ok (Ω "ok") M') (Zq Y.rs (qO Y.ps) aar W r))):ly Y M W j res iG r x:=by
 rw[arb ly C2 sC];rw[aho hr];rcases h with⟨hh,e⟩ | ⟨hh,M',e,w1,f1⟩
 ·rw[az hh e]
 ·rw[gh hh ⟨M',j,e,w1,f1,aq rfl⟩]
def aUg Kl aeR(h:(Lj r/\res=.ok (Ω "none") M) ∨
  (tn/\((gJ (tW&&(! L6||kh))/\CU (res=.ok (Ω "ok") M') (S9 W r ⟨Pb,Fl,kh⟩)) ∨
   (qI (tW&&(! L6||kh))/\uR (res=.ok (Ω "ok") M') (arx M' (YT W r)) (qS j M M'))))):ly Y M W j res iI r x:=by
 unfold ly C2 sC amc;dsimp only;rw[aho hr];rcases h with⟨hg,e⟩ | ⟨hg,c⟩
 ·rw[QI hg e]
 rw[if_pos hg];rcases c with⟨hb,M',e,w1,f1⟩ | ⟨hb,M',e,w1,f1⟩
 ·rw[hb,gK];exact⟨M',j,e,w1,f1,aq rfl⟩
 ·rw[hb,xU];exact⟨M',_,e,w1,f1,aA fe⟩
def aWh Kl DF(hp:w7)(h:(arG p/\res=.ok (Ω "none") M) ∨
  (I2/\((gJ (nZ W p)/\res=.ok (Ω "held") M)\/(qI (nZ W p)/\CU (res=.ok (Ω "ok") M') (Ng W p))))):ly Y M W j res jY p x:=by
 unfold ly C2 sC lh;dsimp only;rw[at0 hp,Int.toNat_natCast,Bool.true_and];rcases h with⟨hg,e⟩ | ⟨hg,c⟩
 ·rw[az hg e]
 rw[hg,gK];rcases c with⟨hh,e⟩ | ⟨hh,M',e,w1,f1⟩
 ·rw[az hh e]
 ·rw[gh hh ⟨M',j,e,w1,f1,aq rfl⟩]
universe zE
universe Sb
universe zE
end
mutual
section
namespace Sb
open PySem L2
abbrev aWi Gw c6:Prop:=∀ps ss T8 cT,sX->g [dO,gk,kD,η wait] (M++[cQ c []])=.ok .bb (M++aaE c ps ss)
abbrev uq j!:Rh:=x7 p (Í (qW p) u6)
abbrev o_ gI:b5:=⟨iW none,uq Y.ps,[],[],0,[]⟩
abbrev F0 gI:dM:=⟨[],aBj,[],[],0,[]⟩
abbrev o0:ek:=λi=>VI (i≤5) yard .Dc
abbrev AW gI:aS:=[ς ((uq Y.ps).map oY),.ai (wKs Y [] 0 8),ς ((iW (none:dw)).map aU),.ai [],.ai []]
section
variable {C:gv}{Y:dK}{M:aS}
def aDx{mf eO dv:br}o!(y:aj)(aa:aS)l_(M2:aS)(k:aj)(bJ M':aS)aJZ aIX:nS mf eO dv ρ M=.nx ρ M':=by
 unfold nS;rw[hv,Res.oS,ho,Res.oS,hk,Res.oS,hp]
def aGj:vB n (Ak (û [aj.bb])=(û (none:dw)).map aU)
 |0=>rfl
 |n+1=>by rw[List.replicate_succ,List.flatten_cons,aGj n,List.replicate_succ];rfl
def aHk bf(h:n≤16):lx true (ς [.bb]) (η n) M=.ok dO (M++[ς ((û (none:dw)).map aU)]):=by
 rw[bq hs (U6 gO) (kz av av) aCA (aAG (aY 2 ^ 62)) aCc]
 rw[Cr lx AJ];rw[aCA,Int.toNat_natCast,if_pos ⟨hs,av,av,by rw[V9 lim]⟩,aGj,yq (by rw[V9 lim])]
abbrev oZ gI:kc:=[(agH,pF),(agr,zI),(ah2,Fs),(agG,ο 6),(ŭ,ς []),(Ĕ,η 0)]
abbrev mU gI:kc:=oZ Y++[(LD,IE)]
abbrev w8 gI:kc:=mU Y++[(G7,ο 8)]
abbrev jy gI:kc:=w8 Y++[(LO,ο 9)]
def a4V:jw (oZ Y) LD IE=mU Y:=bU
def a4W:jw (mU Y) G7 (ο 8)=w8 Y:=bU
def a4X:jw (w8 Y) LO (ο 9)=jy Y:=bU
def a22:jw (jy Y) VM (ο 10)=wKs Y [] 0 8:=bU
def YN ayA fN(h6:M.length=6):acS g5 [pF,zI,Fs] M=.ok (ο 7) (M++AW Y):=by
 rw[bI zr G.g.eg TL G.rs];rw[Er acS P q (q=.ok (ο 7) (M++AW Y)) (rO (ο 6) (M++[ς ((uq Y.ps).map oY)]))]
 ·rw[IP Y.ps w M dR.enc (λp=>oY (Í (qW p) u6)) (k7 (ρ=[y])) OG (nH p) (gX zr)]
  ·rw[r9,yq (by rw[s5 zr]),h6];rw[zy uq]
  ·rw[rJ y hρ];refine iX _ rfl fR (ck _);cases p<;>simp[dR.enc,qW,oY,ir]
 rw[eB]
 have l1:vR M (R0 (uq Y.ps).map oY)=7:=aK h6
 generalize A7:M++R0 (uq Y.ps).map oY=aa at l1
 rw[zh (ο 7) (aa++[.ai (oZ Y)])]
 ·unfold Dh;simp only[cZ,zD,aR,bM,aT,bB,bw,ag,bg,eD];rw[xR];rw[rP ag l1];rfl
 rw[eB]
 rw[Lr JI (∀(G:aS)(o o':dm),(aa++o::G).set 7 o'=aa++o'::G) (λG o o'=>by rw[b! l1 awi]) JO (∀(G:aS)(o:dm),fP (aa++o::G) 7 o) (λG o=>by rw[b! l1 aHq]) ?_];rw[aDx IE (aa++[.ai (oZ Y)]) (ο 7) (aa++[.ai (oZ Y)]) (Ω "routes") (aa++[.ai (oZ Y)]) (aa++[.ai (mU Y)]) ?_ rfl rfl ?_];refine fB
 rotate_left
 ·simp[hr Y.ps Y.ss _ G.g,TL]
 ·rw[Fc (JO [] _) LD (by rw[Iv 6]),a4V,JI]
 rw[abj ?_ (ο 8) (aa++[.ai (mU Y),ς ((iW (none:dw)).map aU)]) (ο 7) (aa++[.ai (mU Y),ς ((iW (none:dw)).map aU)]) (Ω "locks") (aa++[.ai (mU Y),ς ((iW (none:dw)).map aU)]) (aa++[.ai (w8 Y),ς ((iW (none:dw)).map aU)]) ?_ ?_]
 ·simp only[au,eD,aR,bM,bg,ag,bP,aT,bB,bw];rw[xR,ag,kS (eW [pF] (aa++Ca (mU Y))) (.ok (aqX η) (aa++Ca (mU Y))) (aK eW),ag,aHk zr]
  simp[l1]
 ·rw[Fc (JO _ _) G7 (by rw[Iv 7]),a4W,JI]
 rw[abj ?_ (ο 9) (aa++[.ai (w8 Y),ς ((iW (none:dw)).map aU),.ai []]) (ο 7) (aa++[.ai (w8 Y),ς ((iW (none:dw)).map aU),.ai []]) (Ω "falls") (aa++[.ai (w8 Y),ς ((iW (none:dw)).map aU),.ai []]) (aa++[.ai (jy Y),ς ((iW (none:dw)).map aU),.ai []]) ?_ ?_]
 ·simp[mr,l1]
 ·rw[Fc (JO _ _) LO (by rw[Iv 8]),a4X,JI]
 rw[abj ?_ (ο 10) (aa++[.ai (jy Y),ς ((iW (none:dw)).map aU),.ai [],.ai []]) (ο 7) (aa++[.ai (jy Y),ς ((iW (none:dw)).map aU),.ai [],.ai []]) Q6 (aa++[.ai (jy Y),ς ((iW (none:dw)).map aU),.ai [],.ai []]) (aa++[.ai (wKs Y [] 0 8),ς ((iW (none:dw)).map aU),.ai [],.ai []]) ?_ ?_]
 ·simp[mr,l1]
 ·rw[Fc (JO _ _) VM (by rw[Iv 9]),a22,JI]
 refine qL (ο 7) _ (by simp;rfl) (eP ?_);rw[←A7];unfold AW
 simp
def a5t:yP Y (o_ Y):=by
 rw[eF ⟨aK o_,dz r h,cP p r h,aK o_,aK o_,aK o_,aK o_,cP x t h,tC x y t t' h⟩ (fQ Due o_) (cP x t h)]
 ·rcases h with h | h<;>simp[o_]at h
 ·simp[o_,List.getElem?_replicate]at h
 ·simp[o_,M6]at h
 ·simp[o_,M6]at h
 ·simp[o_,M6]at h
def start fN:JR C Y (Rl 0++AW Y) (F0 Y) (o_ Y) o0 8:=by
 refine⟨⟨rfl,rfl,?_,rfl,rfl,rfl,kj (by rw[dJ o0 (if_pos hi)]),dz i hi,aK F0,aK F0⟩,tY rfl rfl aC rfl rfl,a5t,⟨?_,aK F0,aK F0,aK F0,fQ o_ uq,?_,?_,aK F0,rfl,rfl,rfl⟩,dz i hi,aK o_⟩
 ·show aN (dm.lst (Y.ps.map λ_=>aAe))=HK ((aBj).map ir);rw[List.map_map];rfl
 ·have:11≤i:=hi;rw[dJ o0 aCd]
 ·intro p hp;simp[o_,F0,M6,List.getElem?_replicate,hp]
 ·intro p hp Kj
  have e:oK (o_ Y).points p true:=by
   show(uq Y.ps)[p]? = _;rw[f5 uq eX (adn hp)];have:aO (qW (RK p)):=Kj;simp[this]
  rw[e];show _=aN aBj[p]?;rw[eX,adn hp];rfl
 ·intro s r;simp[F0,o_,M6]
 ·rw[dJ o0 (zR (by rcases hi with rfl | rfl | rfl | rfl | rfl<;>omega))]
universe zE
universe Sb
universe zE
section
namespace Sb
open PySem L2
section
variable (C:gv)
abbrev al4 gI cT N1:Prop:=M[0]? = GS (yy Y t)
abbrev avX c6:Prop:=∀Y e o M B pg,XM->GD->g [ο 0,η i] M=By (Kv i) .ok .bb (bG C.cI M)
abbrev avW c6:Prop:=∀Y e o M B pg,XM->GD->g [ο 0,η i] M=Qd .ok .bb
abbrev avY c6:Prop:=∀Y e o M B pg,XM->GD->g [ο 0,η i] M=ā i .ok .bb M
abbrev avZ c6:Prop:=∀Y e o M B pg,XM->GD->g [ο 0,η i] M=Z? i .ok .bb M
abbrev aH8 c6:Prop:=∀Y M t fM,al4 C Y M t->lI->g [ο 0,η r] M=.ok (η cg) M
abbrev aIo c6:Prop:=∀Y M t fM,al4 C Y M t->lI->g [ο 0,η r] M=.ok l? M
abbrev al6 c6:Prop:=∀Y M t qm,al4 C Y M t->ajT->uX->g [ο 0,η s] M=.ok (.ah k9) M
abbrev axb c6:Prop:=∀rq M,g afE M=.ok (.ah (qW p)) M
abbrev aGY c6:Prop:=∀M p s,g [dR.enc p,bE s] M=.ok (ir (FV p s)) M
abbrev aCp c6:Prop:=∀j! anm M,Ks->g [gk,η a,η x] M=.ok (.ah (KW a x).isNone) M
abbrev axa c6:Prop:=∀j! anm M,Ks->g [gk,η a,η x] M=.ok (aU (KW a x)) M
abbrev aHJ c6:Prop:=∀yU M',GI M' = GJ->agb M'->GU->g [oM] M'=.ok (jc Qc) M'
abbrev aIf c6:Prop:=∀Y o M B pg,ru->(aiJ q q.2)->GD->g [ο 0,η i] M=Qd .ok (jN (UN i))
abbrev aw6 c6:Prop:=∀Y o M B wV,ru->(aiJ q q.2)->aKN->w7->g [ο 0,η p] M=aoI (zL||I4) M (.ok .bb M)
abbrev avm c6:Prop:=∀Y M tk yU,al4 C Y M tk->ajT->GI M = GJ->aoE->aqR []->g [ο 0,oM] M=.ok (aU abh) M
abbrev aHD c6:Prop:=∀Y o M B qm,ru->ajT->(afH q (q.2.tr.steps≠[]))->g [ο 0,η s] M=.ok (jN (Ë Y s)) M
abbrev aFO c6:Prop:=∀cT(u:Int)(v:aj),g [dO,η u,v] (M++[cQ C.fa []])=.ok .bb (M++[cQ C.fa [z0 u,Ŗ v]])
abbrev amZ c6:Prop:=∀Y e o M B w,XM->akk->(aow GK)->ahw (g [ο 0,bF w] M=.ok .bb M') M' B w (BK/\w9/\∀i,i≠1->M'[i]? = M[i]?)
abbrev aE6 c6:Prop:=∀Y,aER C Y g
abbrev aIg c6:Prop:=∀M:aS,g [dO] (M++[tZ []])=.ok .bb (M++Cf::[ς [],ς []])
abbrev aIc c6:Prop:=∀s M,g [bE s] M=.ok (bE OL) M
abbrev aw9 c6:Prop:=∀Y,ajT->aBa 16->axq C Y g
abbrev kM c6(w:fL)(arg:Int->Int->dY):Prop:=∀Y M B W o Km,sU->ru->yP Y W->PV->GD->yV->J6 C Y o M W (g (arg i x) M) w i x
variable {C}
variable {Y:dK}{o:ek}{M:aS}{B:dM}{W:b5}{ρ:bu}
def amD:aH8 C (la C.aP):=λY M t r h hr=>by
 rw[ki la q (q=.ok (η cg) M)];rw[xO e (ase h ρ [aD,cv] d rfl xl) (Et (η cg) M (fQ e (JB hr)))]
def amE:aIo C (pj C.aP):=λY M t r h hr=>by
 rw[ki pj q (q=.ok l? M)];rw[xO e (ase h ρ [aD,cv] d rfl xl) (Et l? M (fQ e (JB hr)))]
def a0j{bX:D1}(hb:axa bX):aCp (aur bX):=λps a x M hl=>lL (Y:=⟨ps,[],[],0⟩) (λa x=>hb ps a x M hl) a x
def a07{bX:D1}(hb:aCp bX):al6 C (akG C.aP bX):=λY M t s h hl hs=>by
 rw[ki akG q (q=.ok (.ah k9) M)];rw[rM e1 (ase h ρ [aD,er,none] d rfl au4) e2 (ase h ρ [aD,er,aN WZ] d rfl YI) (Wy WZ (fQ e1 (S4 hs)))];rw[xO aCP (fun(a:Nat) (aY x)=>hb Y.ps a x M hl) (Et (.ah k9) M (by simp[e2,fE,aCP,Az]at e2⊢))]
def aIt:axb aus:=λp M=>acA p
def aIu:avX C (aDg C.cI C.aP dn):=λY e o M B i h hi=>ace h hi
def a08:avW C (aDh C.cI C.aP dn):=λY e o M B i h hi=>acf h hi
def aIv:avY C (m3 C.cI C.aP dn):=λY e o M B i h hi=>ab8 h hi
def a09{bS dG:D1}(hc:avW C bS)(hp:axb dG):avZ C (at9 C.cI C.aP bS dG):=λY e o M B i h hi=>ab7 h hi (hc Y e o M B i h hi) (λp=>hp p M)
def a1R:aHJ C (at6 C.tr):=λt M h1 h2 h3=>R? h1 h2 h3
def aIw{bS fF:D1}aJU:aIf C (akI C.aP bS fF):=λY o M B i h hl hi=>Kt h (hc Y _ o M B i h hi) hu hl
def a5o bf(h:Eh n):l8 gO:=ai9
def a1S Uo(ht:aIf C gt):aw6 C (at5 C.he C.aP gt):=λY o M B p h hl aCN hp=>by
 refine abV (ti:=λp=>I4) h (dz q hq) hp W4;rw[rV (ht Y o M B q h hl W4) (agw hq)];rw[bC _ this (by dsimp only;cases UN q<;>rfl)]
def a1T{dG:D1}(hp:axb dG):aGY (auC dG):=λM p s=>oI (λp=>hp p M) p s
def a1U{bX:D1}(hb:axa bX):avm C (at8 C.tr C.aP bX):=λY M tk t h0 hl h1 h2 fg=>ab5 h0 h1 h2 fg λa j=>hb Y.ps a j M hl
def a1V{ga:D1}(ha:avm C ga):aHD C (mx C.aP ga):=λY o M B s h hl fg=>acs h fg λt M' h0 h1 h2 h3=>ha Y M' _ t h0 hl h1 h2 h3
def a1W:aFO C (nz C.fa):=λM u v=>acB
def axn:amZ C (Ys C.aP):=λY e o M B w h hn hl=>ac8 h hn hl
def a1X:awd C Y (Ys C.aP):=λo M B w a h hn hl ha h1=>aUM h hn hl ha h1
def a1Y:aE6 C (akH C.cI C.aP):=λY o M B x h hx=>ab6 h hx
def a1Z:aIg C (auj C.tr):=λM=>acr
def a10:aIc auO:=λs M=>ac5 s
def a11{bX gs:D1}(hb:al6 C bX)aoa:aw9 C (ab2 C.fa C.rd C.aP bX gs):=λY hl NW e o M B x s h hx iy fK=>
 acu h hx W4 fK (λM' r h0 hr=>hs Y M' _ r h0 hr) (λM' h0=>hb Y M' _ s h0 hl iy)
def a12{fF:D1}(hu:amZ C fF):awy C Y (auD C.tr fF):=λx o M B t s a h T ha hl iy=>
 acM h T ha hl iy λM B h hl=>hu Y _ o M B [s] h Ξ (bh hl)
def a13{gs gE bS:D1}aoa aob ayN:aej C Y (lp C.tr C.aP gs gE bS):=λx o M B t r s w h T hr e9 qi hl iy=>
 acg h T hr e9 qi hl iy (λM' r h0 hr=>hs Y M' _ r h0 hr) (λM' r h0 hr=>hw Y M' _ r h0 hr) hc
def aN0 Gl{q:Int×TB}(hq:asC q):cE (GP q.1) q.2.tr:=by
 rw[agg (atH (q:=(q.1,q.2.tr)) I.lB ?_) S.trains (qK q hq)]
def aeC fN Gl:aiJ q q.2:=r! (by
 have:=I.aev (aN0 I S hq);rw[fZ G.g.eg])
def a2Q Gl:afH q (q.2.tr.steps≠[]):=r! (I? (aN0 I S hq)).ne
def a2R Gl:ajZ:=by
 have:=I.lB;rw[S.trains,alf]at this;rw[zf]
def a14 fN Gl:∀x∈aoN,Hu x:=CX (by
 rw[UC r hr ((ahO _).mp hx)];rw[Ah ((S.greens x r).mp hr)];rw[b! h2 (G.sg (I.NX h1))])
def Je.le fN:ajT:=by rw[fZ G.g.eg]
def adr{bS gE iP gl gs:D1}(hc:avX C bS)aob(hn:aw6 C iP)(hl:aGY gl)aoa:kM C (ach C.aP bS gE iP gl gs) iG (λi _=>[ο 0,η i]):=λY M B W o i x G h f S hi hx=>
 a06 G f S (acC (ti:=λp=>I4) h G.cR G.g.eg G.g.um (λr hr=>RH) S.Du S.Dv S.q8 S.n5 (a14 G f.I S) (hc Y _ o M B i h hi) (λr hr=>hw Y M _ r h.y0 hr)
  (lR (hn Y o M B p h (aeC G f.I S) G.g.eg hp)) hl (λM B r h hr=>hs Y M _ r h.y0 hr))
def aWj aJV(hc:avX C bS)aoa(ht:aHD C gt)(hb:al6 C bX)(hf:aFO C oV)(hu:amZ C fF)aob:kM C (Yr C.fa C.cI C.aP bS gs gt bX oV fF gE) iI (λi _=>[ο 0,η i]):=λY M B W o i x G h f S hi hx=>
 aWg G f S (ac7 h hi G.cR f.I S G.len (λr hr=>RH) (hc Y _ o M B i h hi) (λM B r h hr=>hs Y M _ r h.y0 hr) (λM B' s h hB iy=>by rw[b! hB (ht Y o M B' s h G.le (by rw[az hB (a2Q f.I S)]))]) (λM B s h iy=>hb Y M _ s h.y0 G.le iy) hf (λM B w h=>hu Y _ o M B w h) (λM B r h hr=>hw Y M _ r h.y0 hr))
def aX2{bS iP:D1}(hc:avZ C bS)(hn:aw6 C iP):kM C (acR C.aP bS iP) jY (λi _=>[ο 0,η i]):=λY M B W o i x G h f S hi hx=>
 aYB G f S (adi (ti:=λp=>I4) h S.q8 (hc Y _ o M B i h hi) (lR (hn Y o M B p h (aeC G f.I S) G.g.eg hp)))
def a0k{fF gE:D1}(hu:amZ C fF)aob:kM C (au8 C.fa C.aP fF gE) gU (cK _ [ο 0]):=λY M B W o i x G h f S hi hx=>
 a0h G f S (adv h G.cR f.I S f.D G.len (λM B w h=>hu Y _ o M B w h) (λM B r h hr=>hw Y M _ r h.y0 hr))
def aX3{akx bX g5 abY dG:D1}(hk:avY C akx)(hb:al6 C bX)(hr:aw9 C g5)(lC:aIg C abY)(hp:∀Y,aej C Y dG):kM C (au1 C.he C.cI C.tr C.aP akx bX g5 abY dG) iJ (λi x=>[ο 0,η x,η i]):=λY M B W o i x G h f S hi hx=>
 adj h hx hi G.cR f.I S G.g.eg (λr hr=>(G.ok hr).ne) (hk Y _ o M B i h hi) (λs hs=>hb Y M _ s h.y0 G.le hs) (hr Y G.le G.g.um) lC (hp Y)
def a2S{gt bS bX dG g5 ga:D1}afr(hc:∀Y,awy C Y bS)(hb:aCp bX)(hp:∀Y,aej C Y dG)(hr:aw9 C g5)(hr0:∀M gS,yV->g5 [ο 0,η x,.bb] M=bG C.rd M)(ha:avm C ga):kM C (FC C.rd C.tr C.aP gt bS bX dG g5 ga) .go (cK x [ο 0,η x]):=λY M B W o i x G h f S hi hx=>
 Zo h hx G.cR f.I S G.g.eg (λr hr=>(G.ok hr).ne) (ht Y) (hc Y) (λa j=>hb Y.ps a j M G.le) (hp Y) (hr Y G.le G.g.um) (hr0 M x hx) (λt h1 h2 h3=>ha Y M _ t h.y0 G.le h1 h2 h3)
def a0l Uo afr:kM C (au9 C.he C.tr C.aP gt) jJ (cK x [ο 0,η x]):=λY M B W o i x G h f S hi hx=>adw h hx f.I S (ht Y)
def a0m{gt fF gd:D1}afr(hu:∀Y,awd C Y fF)(hd:aIc gd):kM C (ava C.fa C.rd C.tr C.aP gt fF gd) h7 (cK x [ο 0,η x]):=λY M B W o i x G h f S hi hx=>Y6 h hx G.cR f.I S G.g.eg (ht Y) (hu Y) hd
structure avl(C:gv)ax2:Prop where
 a0:kM C g0 iG (λi _=>[ο 0,η i])
 a1:kM C g1 iI (λi _=>[ο 0,η i])
 a2:kM C g2 jY (λi _=>[ο 0,η i])
 a3:kM C g3 iJ (λi x=>[ο 0,η x,η i])
 a4:kM C jq gU (cK _ [ο 0])
 a5:kM C jr .go (cK x [ο 0,η x])
 a6:kM C jt jJ (cK x [ο 0,η x])
 a7:kM C ju h7 (cK x [ο 0,η x])
def avl.all anE aym Gn fN pA afe Be Bf:J6 C Y o M W (axN g0 g1 g2 g3 jq jr jt ju w i x M) w i x:=by
 cases w with
 |set=>exact A.a0 Y M B W o i x G h f S hi hx
 |cancel=>exact A.a1 Y M B W o i x G h f S hi hx
 |throw=>exact A.a2 Y M B W o i x G h f S hi hx
 |enter=>exact A.a3 Y M B W o i x G h f S hi hx
 |tick=>exact A.a4 Y M B W o i x G h f S hi hx
 |go=>exact A.a5 Y M B W o i x G h f S hi hx
 |draw=>exact A.a6 Y M B W o i x G h f S hi hx
 |turn=>exact A.a7 Y M B W o i x G h f S hi hx
universe zE
universe Sb
universe zE
section
namespace Sb
open PySem L2
structure aWu(d:Ol):Prop where
 nd:Mz
 ne:Ac d (q.2.steps≠[])
 sl:Ac d (oF q.2.steps.length)
 tl:d.length≤90
abbrev aw3 c6:Prop:=∀Y M W j(p:Int),DP->aru->g [ο 7,η p] M=.ok (jN (LF p)) M
abbrev aF6 c6:Prop:=∀Y M W j wV,DP->aru->BC p->g [ο 7,η p] M=.ok (.ah (nZ W p)) M
abbrev aFP c6:Prop:=∀Y M W j fM,DP->aM9->g [ο 7,η r] M=.ok .bb ((M++Mq (nG).map).set 7 (.ai (VG Y)))
abbrev aw2 c6:Prop:=∀Y M W j qm,DP->aru->uX->g [ο 7,η s] M=.ok (gL CQ) M
abbrev aG2 c6:Prop:=∀Y,sU->awI Y g
section
variable {C:gv}{Y:dK}{o:ek}{M:aS}{B:dM}{W:b5}{j:Nat}
def tok ayo:aru:=by
 have aCN:=G.g.eg;refine⟨I.lB,r! (I? aiF).ne,dz q hq,?_⟩
 ·rw[fZ (I.aev aiF)]
 ·rw[fZ I.axQ]
def aIx:aw3 my:=λY M W j p h T=>Si h T.nd T.sl (gX T.tl)
def a15 Uo(ht:aw3 gt):aF6 (auR gt):=λY M W j p h T hp=>acV h hp (ht Y M W j p h T)
def a16:aFP auJ:=λY M W j r h hl=>YF h hl
def aIy:aw2 (trunc auL):=λY M W j s h T hs=>acW h hs T.nd T.ne (gX T.tl)
def a17:aG2 ak8:=λY G M W j x s h A6 o4 yO uz=>YG h A6 (λr hr=>(G.ok hr).ne) (λr hr=>G.wl hr) o4 yO uz
structure aGF n! ax2:Prop where
 auc:∀M B W o j Km,rR->arK i->qA (g0 [ο 7,η i] M) iG
 l1:∀M B W o j Km,rR->arK i->qA (g1 [ο 7,η i] M) iI
 l2:∀M B W o j Km,rR->aO (GR i)->qA (g2 [ο 7,η i] M) jY
 l3:∀M B W o j Km,rR->aO (KY i)->qA (g3 [ο 7,η x,η i] M) iJ
 l4:∀M B W o j Km,rR->qA (jq [ο 7] M) gU
 a4E:∀M B W o j Km t,rR->dZ=fm->qA (jr [ο 7,η x] M) .go
 a4F:∀M B W o j Km t,rR->dZ=fm->qA (jt [ο 7,η x] M) jJ
 a4G:∀M B W o j Km t,rR->dZ=fm->qA (ju [ο 7,η x] M) h7
def a4H{lu iP bX oV dG:D1}fN(hh:aF6 lu)(hn:aw2 iP)(hb:alE bX)(hf:aFP oV)(hp:aG2 dG):
  aGF C Y (ald lu) (acv iP bX oV) (acF lu) (auy bX dG) (auU oV) (avb bX dG) auV si:=by
 rw[fS aCN G.g.eg hb' (∀M anm,bX [pF,η a,η x] M=.ok (aU (P0 x)) M) (λM a x=>hb Y.ps a x M G.le)];refine⟨λM B W o j i x s hn=>?_,λM B W o j i x s hk=>?_,λM B W o j i x s hk=>?_,λM B W o j i x s hk=>?_,λM B W o j i x s=>?_,λM B W o j i x t s ht=>?_,λM B W o j i x t s ht=>?_,λM B W o j i x t s ht=>?_⟩
 ·rw[zx r hr hn];rw[xO K (WB G) (a0i hr (YO s.w G.cR G.g.eg G.len hr (G.wl hr) s.f.I.ln s.S.fJ K.gl (lR (hh Y M W j p s.w (U3 G) hp))))]
 ·rw[zx r hr hk];rw[xO K (WB G) (aUg hr (lr s.w hr RH K.gl K.fl (λM W' k h hW hk=>by rw[b! hW (hn Y M W' j k h (by rw[az hW (U3 G)]) hk)]) hb' (λM W h hl=>hf Y M W j r h av) s.f.I.ln))]
 ·rw[zx p o5 hk];rw[oA (aWh o5 (acN s.w o5 s.f.I.ln (ck Kj) (hh Y M W j p s.w (U3 G) (by rw[az s.f.I.ln o5])))) hl (ag3 p) (by rw[az s.S.q8 o5])]
  rw[b7 B.lying[p] (by rw[QX (s.S.lies p o5 Kj) hl])]
 ·rw[zx r hr hk];exact acO s.w (WB G) hr hb' (hp Y G)
 ·exact acX s.w s.f.I.Ki (WB G).fl s.f.I.ln (λM W j r h hl=>hf Y M W j r h av)
 ·exact adx s.w (WB G) ht hb' (hp Y G)
 ·exact acY s.w (WB G) ht
 ·refine So s.w (WB G) s.f.I.Ki (dz q hq) ht;rw[s.S.falls]at hq;rw[apl u rfl hq];show oF (di u.2.fH.toList);cases u.2.fH<;>simp
def a0n aKl(ht:∀M W j DI,DP->gt [ο 7,Ω w.s,η i,η x] M=.ok (.ah (wg Y W w i x)) M)(L:aGF C Y g0 g1 g2 g3 jq jr jt ju):amC C Y (auW gt g0 g1 g2 g3 jq jr jt ju):=λM B W o j w i x s=>
 acZ (ht M W j w i x s.w) (L.auc M B W o j i x s) (L.l1 M B W o j i x s) (L.l2 M B W o j i x s) (L.l3 M B W o j i x s) (L.l4 M B W o j i x s) (λt=>L.a4E M B W o j i x t s) (λt=>L.a4F M B W o j i x t s) (λt=>L.a4G M B W o j i x t s)
abbrev axo n! c6:Prop:=∀M B W o j ns k,rR->∃d,A0 l8 d/\g [.cY ns,η k,ο 7] M=.ok (eh d) M
def aN1:∀c∈([0,101,102,103,104,100,-3,-5,3,999999,7]:eK),l8 c:=by
 rw[RI y hy hy];rw[Ŧ l8]
def a0o{kJ bX iP:D1}fN ZQ(hb:alE bX)(hn:aw2 iP):axo C Y (Pf (ak9 kJ (aua bX iP))):=λM B W o j ns k s=>
 ac0 aN1 hm G s.w (λr hr=>s.f.I.NX hr) s.nm (U3 G).tl λM k h hk=>Yb h hk G.g.um (λM a x=>hb Y.ps a x M G.le) (hn Y M W j k h (U3 G) hk) aN1 s.nm (U3 G).tl
universe zE
universe Sb
universe zE
end
mutual
section
namespace Sb
open PySem L2
abbrev q? gI fM:Nat:=((cX).headD (0,0,0)).1
structure a6N pe:Prop where
 lk:∀p r,Ō p r->aj1 (s.1=p->I2->qJ W.points p (aN (YX Y.ps s)))
 tr:∀x t,dZ=fm->U7 (aoZ s.1->qJ W.points s.1 (aN (YX Y.ps s)))
 hd:∀r,Ō (q? Y r) r->wX
section
variable {Y:dK}{W:b5}
universe zE
universe Sb
universe zE
section
namespace Sb
open PySem L2
section
variable {C:gv}{Y:dK}{o:ek}{M:aS}{B:dM}{W:b5}{j:Nat}{ρ:bu}
structure ri n! cT oh n_(o:ek):Prop where
 y:ru
 f:yP Y W
 S:PV
def ri.keep(d:ri C Y M B W o)GA aIV:ri C Y M' B W o:=⟨d.y.keep hl h1,d.f,d.S⟩
def ri.app(d:ri C Y M B W o)(G:aS):ri C Y (M++G) B W o:=d.keep Ξ λi hi _=>UJ
abbrev atO pe qm:Bool:=W.green.any (zO r (cg=s))
structure axc n!(aky Dw a3Q abZ akv:D1):Prop where
 lk:∀M B W o wV,ri C Y M B W o->w7->aky [ο 0,η p] M=.ok (aU (af1 p)) M
 adu:∀M B W o gS t,ri C Y M B W o->yV->dZ=fm->Dw [ο 0,η x] M=.ok (jc aqg) M
 ti:∀M B W o wV,ri C Y M B W o->w7->a3Q [ο 0,η p] M=.ok (jN (LF p)) M
 acI:∀M B W o wV b,ri C Y M B W o->w7->I2->oK W.points p b->abZ [ο 0,η p] M=.ok (ir b) M
 g5:∀M B W o qm,ri C Y M B W o->uX->akv [ο 0,η s] M=.ok (.ah (atO Y W s)) M
def a18{bS fF gt dG gs:D1}fN aJU afr(hq:avZ C dG)(hs:avY C gs):axc C Y (at7 C.aP bS) (Sa fF gt) (akI C.aP bS fF) (aum C.aP dG) (atY C.aP gs):=by
 rw[bI aCN G.g.eg NW G.g.um]
 refine⟨Ph M B W o p s hp,λM B W o x t s hx ht'=>?_,Ph M B W o p s hp,λM B W o p b s hp ab1 hb=>?_,Ph M B W o k s hk⟩
 ·have:=aUK (i:=aY p) s.y (hc Y _ o M B p s.y W4);rw[aAV (agw hp) this];rw[apq this (s.S.locks p hp)];rfl
 ·rw[bI e (aXq s.y (a2R s.f.I s.S) (aeC G s.f.I s.S) (ht Y o M B x s.y hx) hu) h1 s.S.trains]
  rw[s9 h2 (dZ=(p0).map (·.tr)) (by rw[h1,Sn];rfl) ht' h2];cases h3:p0 with
  |none=>rw[h3]at h2;cases h2
  |some q=>
   rw[h3]at h2;rw[h3]at e;cases h2;exact e
 ·have:=(aIw hc hu) Y o M B p s.y (aeC G s.f.I s.S) W4;rw[agw hp,←awJ s.S]at this;rw[zf]
 ·have hn:aO (G? (aY p)):=by rw[kF lh (at0 hp) Int.toNat_natCast ab1];rfl
  have:=aZx (i:=aY p) (bS:=dG) s.y s.S.q8 (hq Y _ o M B p s.y W4);rw[aAV (if_pos hn) this];rw[this];rw[jm h (s.S.lies p hp ab1) hb h];rw[List.getD_eq_getElem?_getD,←Uu];rfl
 ·have:=aS8 (i:=aY k) s.y (hs Y _ o M B k s.y W4);rw[aAV (agw hk) this];rw[this]
  congr 2
  rw[kF atO Bool.eq_iff_iff Option.isSome_iff_exists List.any_eq_true];constructor
  ·rintro⟨r,hr⟩;rw[aa0 h1 h2 ((s.S.greens k r).mp hr) r h1 aqk]
  ·rintro⟨r,h1,h2⟩;rw[b7 r ((s.S.greens k r).mpr ⟨h1,î⟩)]
def avP{t:Int}:Ý Y t (Str.ofString "where"):=bU
universe zE
universe Sb
universe zE
section
namespace Sb
open PySem L2
section
variable {C:gv}{Y:dK}{o:ek}{M:aS}{B:dM}{W:b5}{j:Nat}{ρ:bu}
universe zE
universe Sb
universe zE
section
namespace Sb
open PySem L2
section
variable {C:gv}{Y:dK}{o:ek}{M:aS}{B:dM}{W:b5}{j:Nat}{ρ:bu}
def aX4 gb{fG:uN}aod e7 GA{w:q3}Ub afw(f:Xc)(R:cO bu)
  aJ9(hR:R (F7 fG ρ))(h:GX x (∀ρ,R ρ->∃ρ1,g (enc x) ρ=à/\R ρ1/\d ρ1 M'=.ok (.ah (f x)) M'))(hl:ajS):
  jo false fG eO g j_ d ρ M=.ok (ς ((xs.map f).map aj.ah)) M':=by
 rw[oR enc zK (λx=>aj.ah (f x)) R hi hc hR (QA x hx) hl]
 ·rw[r9,f6 (by rw[qs hl]),List.map_map];rfl
 ·rw[vG ρ1 h1 h2 h3 (h x hx ρ hρ) (iX ρ1 h1 h2 (λ_=>h3))]
def a19 e7 Z1 GA(h:c8=.ok (ς (bs.map aj.ah)) M'):ay aeq [d] ρ M=.ok (.ah (bs.all id)) M':=by
 rw[bP,aR,h];rw[qG bM];unfold aeq;simp only[AJ,Option.bind_some,Sb.au0]
universe zE
universe Sb
universe zE
section
namespace L2
open PySem
universe L2
namespace Sb
open PySem L2
abbrev a1w(L:Nat)(rs:uO):dY:=(rs.zipIdx L).map λq=>aV [η q.1.1,ο q.2]
section
variable {C:gv}{Y:dK}{o:ek}{M:aS}{B:dM}{W:b5}{j:Nat}{ρ:bu}
abbrev a3G:aki Bool:=cK b (.ah b)
structure a50 gI cT(d:Bv Bool)J_:Prop where
 len:M.length<M'.length
 old:afC i (M'[i]? = M[i]?)
 gd:M'[M.length]? = RM .ai a3G d
 wy:XX r (Ez M' (rW+r) ((cX).map bE))
 ls:Ez M' (rW+Y.rs.length) (a1w rW Y.rs)
universe zE
universe Sb
universe zE
section
namespace Sb
open PySem L2
section
variable {C:gv}{Y:dK}{o:ek}{M:aS}{B:dM}{W:b5}{j:Nat}{ρ:bu}
universe zE
universe Sb
universe zE
section
namespace Sb
open PySem L2
section
variable {C:gv}{Y:dK}{o:ek}{M:aS}{B:dM}{W:b5}{j:Nat}{ρ:bu}
abbrev aO4:tO o7
 |.ok=>true
 |_=>false
def alc anE{ia:Addr}fN aym:
  adY C Y (aPL ia C.he C.cI C.rd g0 g1 g2 g3 jq jr jt ju) λk=>.ah (aO4 k):=λM B W o w i x h f S hi hx=>by
 have T:=aHh (ia:=ia) (A.all (w:=w) G h f S hi hx);rw[Er aPL P q (axm C Y o M q p9 (λk=>.ah (aO4 k)) λB'=>akW Y (sC Y W w i x) B') (UH .bb M rfl)]
 rw[tK ?_];show F3 _ _ (uh [ia,C.cI,C.he,C.rd] 4 5 (Tj g0 g1 g2 g3 jq jr jt ju) (nK .bb) M);rcases T with⟨hk,M',o',B',e,h1,h2,h3⟩ | ⟨hk,e⟩
 ·rw[e];rw[mC (xh (fT .ah) M' (aq ⟨hk,M',o',B',?_,h1,h2,h3⟩)) hk];rfl
 ·rw[xg e (xh (lO .ah) (M++Hq CP) (aA ⟨hk,CP,?_⟩))];cases gQ:p9 with
  |ok=>rw[pO gQ hk]
  |none=>rfl
  |held=>rfl
  |red=>rfl
def JR.aP(s:rR):ri C Y M B W o:=⟨s.y,s.f,s.S⟩
def JR.keep(s:rR)GA(hl:aoF)(h1:afC i (M'[i]? = M[i]?)):JR C Y M' B W o j:=
 ⟨s.y.keep hl λi hi _=>h1 i hi,s.w.keep λi _ hi=>h1 i hi,s.f,s.S,s.sep,s.nm⟩
structure a5Y pe(d:Bv Bool):Prop where
 at':∀p b,b4 d p=mD->w7/\I2/\aO (nZ W p)/\oK W.points p b
def avo{G:dm}{G':dm}:(M++[G]).set M.length G'=M++[G']:=by
 rw[List.set_append_right _ _ fe,Nat.sub_self];rfl
universe zE
universe Sb
universe zE
section
namespace Sb
open PySem L2
section
variable {C:gv}{Y:dK}{o:ek}{M:aS}{B:dM}{W:b5}{j:Nat}{ρ:bu}
def a3g dU:lx false (η 2) (η k) M=.ok (η (2*k)) M:=aVi (by rw[kz aC aC];rfl)
def a3h{a b c:Nat}{x y z:aj}:ud 3 (qP (bR a) (qP (bR b) (L8 (bR c)))) (aV [x,y,z]) ρ=rL ((D6 a).set b zg).set c (some z):=rfl
abbrev aNY c6:Prop:=∀Y M,sU->M.length=6->g [pF,zI,Fs] M=.ok (ο 7) (M++AW Y)
def a1x ayA:aNY (acS g5):=λY M G h6=>YN hr G h6
universe zE
universe Sb
universe zE
section
namespace Sb
open PySem L2
abbrev aeD ZO:kc:=
 [(agH,pF),(agr,zI),(ah2,Fs),(agG,ο L),(ŭ,ς []),(Ĕ,η 0),(LD,IE),(G7,ο (L+2)),(LO,ο (L+3)),(VM,ο (L+4))]
abbrev FZ ZO:aS:=[ς ((uq Y.ps).map oY),.ai (aeD L Y),ς ((iW (none:dw)).map aU),.ai [],.ai []]
section
variable {C:gv}{Y:dK}{M:aS}
abbrev ads ZO:kc:=[(agH,pF),(agr,zI),(ah2,Fs),(agG,ο L),(ŭ,ς []),(Ĕ,η 0)]
abbrev J2 ZO:kc:=ads L Y++[(LD,IE)]
abbrev Y9 ZO:kc:=J2 L Y++[(G7,ο (L+2))]
abbrev adt ZO:kc:=Y9 L Y++[(LO,ο (L+3))]
def a3i{L:Nat}:jw (ads L Y) LD IE=J2 L Y:=bU
def a3j{L:Nat}:jw (J2 L Y) G7 (ο (L+2))=Y9 L Y:=bU
def a3k{L:Nat}:jw (Y9 L Y) LO (ο (L+3))=adt L Y:=bU
def a1y{L:Nat}:jw (adt L Y) VM (ο (L+4))=aeD L Y:=bU
def aV7{g5:D1}{L:Nat}(hr:auo g5)fN(h6:M.length=L):acS g5 [pF,zI,Fs] M=.ok (ο (L+1)) (M++FZ L Y):=by
 rw[bI zr G.g.eg TL G.rs];rw[Er acS P q (q=.ok (ο (L+1)) (M++FZ L Y)) (rO (ο L) (M++[ς ((uq Y.ps).map oY)]))]
 ·rw[IP Y.ps w M dR.enc (λp=>oY (Í (qW p) u6)) (k7 (ρ=[y])) OG (nH p) (gX zr)]
  ·rw[r9,yq (by rw[s5 zr]),h6];rw[zy uq]
  ·rw[rJ y hρ];refine iX _ rfl fR (ck _);cases p<;>simp[dR.enc,qW,oY,ir]
 rw[eB]
 have l1:vR M (R0 (uq Y.ps).map oY)=L+1:=aK h6
 generalize A7:M++R0 (uq Y.ps).map oY=aa at l1
 rw[zh (ο (L+1)) (aa++[.ai (ads L Y)])]
 ·unfold Dh;simp only[cZ,zD,aR,bM,aT,bB,bw,ag,bg,eD];rw[xR];rw[rP ag l1];rfl
 rw[eB]
 rw[Lr JI (∀(G:aS)(o o':dm),(aa++o::G).set (L+1) o'=aa++o'::G) (λG o o'=>by rw[b! l1 awi]) JO (∀(G:aS)(o:dm),fP (aa++o::G) (L+1) o) (λG o=>by rw[b! l1 aHq]) ?_];rw[aDx IE (aa++[.ai (ads L Y)]) (ο (L+1)) (aa++[.ai (ads L Y)]) (Ω "routes") (aa++[.ai (ads L Y)]) (aa++[.ai (J2 L Y)]) ?_ rfl rfl ?_];refine fB
 rotate_left
 ·simp[hr Y.ps Y.ss _ G.g,TL]
 ·rw[Fc (JO [] _) LD (by rw[Iv 6]),a3i,JI]
 rw[abj ?_ (ο (L+2)) (aa++[.ai (J2 L Y),ς ((iW (none:dw)).map aU)]) (ο (L+1)) (aa++[.ai (J2 L Y),ς ((iW (none:dw)).map aU)]) (Ω "locks") (aa++[.ai (J2 L Y),ς ((iW (none:dw)).map aU)]) (aa++[.ai (Y9 L Y),ς ((iW (none:dw)).map aU)]) ?_ ?_]
 ·simp only[au,eD,aR,bM,bg,ag,bP,aT,bB,bw];rw[xR,ag,kS (eW [pF] (aa++Ca (J2 L Y))) (.ok (aqX η) (aa++Ca (J2 L Y))) (aK eW),ag,aHk zr]
  simp[l1]
 ·rw[Fc (JO _ _) G7 (by rw[Iv 7]),a3j,JI]
 rw[abj ?_ (ο (L+3)) (aa++[.ai (Y9 L Y),ς ((iW (none:dw)).map aU),.ai []]) (ο (L+1)) (aa++[.ai (Y9 L Y),ς ((iW (none:dw)).map aU),.ai []]) (Ω "falls") (aa++[.ai (Y9 L Y),ς ((iW (none:dw)).map aU),.ai []]) (aa++[.ai (adt L Y),ς ((iW (none:dw)).map aU),.ai []]) ?_ ?_]
 ·simp[mr,l1]
 ·rw[Fc (JO _ _) LO (by rw[Iv 8]),a3k,JI]
 rw[abj ?_ (ο (L+4)) (aa++[.ai (adt L Y),ς ((iW (none:dw)).map aU),.ai [],.ai []]) (ο (L+1)) (aa++[.ai (adt L Y),ς ((iW (none:dw)).map aU),.ai [],.ai []]) Q6 (aa++[.ai (adt L Y),ς ((iW (none:dw)).map aU),.ai [],.ai []]) (aa++[.ai (aeD L Y),ς ((iW (none:dw)).map aU),.ai [],.ai []]) ?_ ?_]
 ·simp[mr,l1]
 ·rw[Fc (JO _ _) VM (by rw[Iv 9]),a1y,JI]
 refine qL (ο (L+1)) _ (by simp;rfl) (eP ?_);rw[←A7];unfold FZ
 simp
universe zE
universe Sb
universe zE
section
namespace L2
open PySem
mutual
theorem aHl{f:Xi}:∀x:aj,Ef 0 x->aj.gF f x=x
 |.bb,_=>ahn
 |.ah _,_=>ahn
 |η _,_=>ahn
 |Ω _,_=>ahn
 |.cY _,_=>ahn
 |ς xs,h=>by rw[aj.jv]at h;rw[aj.gF,at1 xs h]
 |aV xs,h=>by rw[aj.jv]at h;rw[aj.gF,at1 xs h]
 |ο m,h=>by rw[VD aj.jv h ay9 aNe]
theorem at1{f:Xi}:∀xs:dY,U5 0 xs->Ė f=xs
 |[],_=>iZ aj.Y!
 |x::xs,h=>by rw[Qv aj.yx h];rw[aj.Y!,aHl x h.1,at1 xs h.2]
end
mutual
theorem aHm{l:gf}:∀x:aj,Ef 0 x->aO (Ě x)
 |.bb,_=>ahQ
 |.ah _,_=>ahQ
 |η _,_=>ahQ
 |Ω _,_=>ahQ
 |.cY _,_=>ahQ
 |ς xs,h=>by rw[Ś aj.jv h aj.inl (at3 xs h)]
 |aV xs,h=>by rw[Ś aj.jv h aj.inl (at3 xs h)]
 |ο m,h=>by rw[VD aj.jv h ay9 aNe]
theorem at3{l:gf}:∀xs:dY,U5 0 xs->aO (Ę l)
 |[],_=>iZ aj.Y?
 |x::xs,h=>by rw[Qv aj.yx h];rw[aj.Y?,aHm x h.1,at3 xs h.2];rfl
end
def qQ gb TY(h:∀a,Ef 0 Bu)(as:ry):U5 0 RJ:=al2 (CX (by
 rw[Xd a hx (h a)]))
universe L2
namespace Sb
open PySem L2
section
variable {c:Addr}{ps:kt}{ss:sW}{rs:uO}{wait:Int}{f:Xi}{l:gf}{L L':Nat}
def axj(h1:f (L+1)=L'+1)(h2:f (L+2)=L'+2)(h3:f (L+3)=L'+3)(h4:f (L+4)=L'+4)(h5:f (L+5)=L'+5):(bt c L ps ss rs wait).map (dm.gF f)=bt c L' ps ss rs wait:=by
 rw[vH e1 (MK f (rs.map oX) (qQ aeb rs)) e2 (MK f lT (qQ Y4 ps)) e3 (MK f iH (qQ Y5 ss)) e4 (MK f (x7 _ aAe) (qQ (aaQ _) ps))];unfold bt awT;simp only[cZ,zD,dm.gF,Tc,aj.gF,e1,e2,e3,e4,h1,h2,h3,h4,h5]
def axk(h1:L+1∈l)aJy(h4:L+4∈l)(h5:L+5∈l):Xy o (bt c L ps ss rs wait) l o:=by
 rw[vH e1 (ML l (rs.map oX) (qQ aeb rs)) e2 (ML l lT (qQ Y4 ps)) e3 (ML l iH (qQ Y5 ss)) e4 (ML l (x7 _ aAe) (qQ (aaQ _) ps))];unfold bt awT;rw[RI o ho ho];rcases ho with rfl | rfl | rfl | rfl | rfl | rfl
 ·simp only[dm.inl,NU,List.all_cons,List.all_nil,aj.inl,e1,e2,e3,aNb,aqk,aNc,aNd,decide_eq_true h5,Bool.and_true]
 ·rfl
 ·exact e4
 ·rfl
 ·rfl
 ·rfl
def aIz(o:dw):Ef 0 (aU o):=by cases o<;>simp[aU]
def aIA(o:agC):Ef 0 (oY o):=by cases o<;>simp[oY,ir]
def a1z{Y:dK}(h1:f L=6)(h2:f (L+2)=8)(h3:f (L+3)=9)(h4:f (L+4)=10):(FZ L Y).map (dm.gF f)=AW Y:=by
 rw[vH e1 (MK f (Y.rs.map oX) (qQ aeb Y.rs)) e2 (MK f aMJ (qQ Y4 Y.ps)) e3 (MK f (Y.ss.map fE) (qQ Y5 Y.ss)) e4 (MK f ((uq Y.ps).map oY) (qQ aIA _))];have e5:=MK f ((iW (none:dw)).map aU) (qQ aIz _);unfold FZ aeD AW wKs;simp only[cZ,zD,dm.gF,Tc,aj.gF,aj.Y!,e1,e2,e3,e4,e5,h1,h2,h3,h4];rfl
def a1A{Y:dK}(h1:L∈l)aJy(h4:L+4∈l):Xy o (FZ L Y) l o:=by
 rw[vH e1 (ML l (Y.rs.map oX) (qQ aeb Y.rs)) e2 (ML l aMJ (qQ Y4 Y.ps)) e3 (ML l (Y.ss.map fE) (qQ Y5 Y.ss)) e4 (ML l ((uq Y.ps).map oY) (qQ aIA _))];have e5:=ML l ((iW (none:dw)).map aU) (qQ aIz _);unfold FZ aeD;rw[RI o ho ho];rcases ho with rfl | rfl | rfl | rfl | rfl
 ·exact e4
 ·simp only[dm.inl,NU,List.all_cons,List.all_nil,aj.inl,aj.Y?,e1,e2,e3,aNb,aqk,aNc,aNd,Bool.and_true]
 ·exact e5
 ·rfl
 ·rfl
abbrev X4 Gw gI:aS:=[ς [],ς []]++IK 2++IK 8++FZ 14 Y
def a3l{Y:dK}:yI sM (X4 c Y)=(IK 0++AW Y)++Ib:=by
 have e:yI sM (X4 c Y)=(IK 2).map aBG++(FZ 14 Y).map aBG++(IK 8).map aBG:=rfl;rw[e,axj (f:=λa=>List.idxOf a sM) (L:=2) (L':=0) rfl rfl rfl rfl rfl,axj (f:=λa=>List.idxOf a sM) (L:=8) (L':=11) rfl rfl rfl rfl rfl,a1z (f:=λa=>List.idxOf a sM) (L:=14) rfl rfl rfl rfl]
def a1B{Y:dK}:ź sM (X4 c Y):=by
 rw[f5 Za Bool.and_eq_true List.all_eq_true];rw[fy aC ?_];rw[eE a1 (Xy o (IK 2) sM o) (axk aC aC aC aC aC) a2 (Xy o (IK 8) sM o) (axk aC aC aC aC aC) a3 (Xy o (FZ 14 Y) sM o) (a1A aC aC aC aC) hl (di (X4 c Y)=19) rfl]
 have ha:Xy o (X4 c Y) sM o:=λo ho=>by
  unfold X4 at ho;rcases azp with ho | ho
  ·rcases azp with ho | ho
   ·rcases azp with ho | ho
    ·simp only[List.mem_cons,List.not_mem_nil,or_false,or_self]at ho;subst ho;rfl
    ·exact a1 o ho
   ·exact a2 o ho
  ·exact a3 o ho
 intro i hi;have fK:i<19:=(show ∀i∈sM,i<19 by decide) i hi;rw[Bool.and_eq_true];rw[fy (decide_eq_true (by rw[az hl fK])) (ha _ ?_)];rw[Q0 (by rw[az hl fK])];exact aqe
def a3m{Y:dK}b6(h:∀i<6,M[11+i]? = Ib[i]?):yI sJ M=IK 0/\ź sJ M:=by
 rw[bq hg (∀i<6,G8 (11+i)=(Ib).getD i tM) (kj (by rw[apq List.getD_eq_getElem?_getD (h i hi)])) fK (∀i<6,rE (11+i)) (kj (by
  have:=h i hi;rw[azN (aBt (i<di Ib)) this]
  exact aLk.1))]
 constructor
 ·have e:yI sJ M=(Ib).map (dm.gF sJ.idxOf):=by
   show[Ć (G8 (11+0)).gF,Ć (G8 (11+1)).gF,Ć (G8 (11+2)).gF,Ć (G8 (11+3)).gF,Ć (G8 (11+4)).gF,Ć (G8 (11+5)).gF]=_;rw[hg 0 aC,hg 1 aC,hg 2 aC,hg 3 aC,hg 4 aC,hg 5 aC];rfl
  rw[e,axj (f:=λa=>List.idxOf a sJ) (L:=11) (L':=0) rfl rfl rfl rfl rfl]
 ·have a1:Xy o Ib sJ o:=axk aC aC aC aC aC;rw[f5 Za Bool.and_eq_true List.all_eq_true];rw[Ld aC k hk]
  obtain⟨i,hi,rfl⟩:=(show ∀k∈sJ,∃i,i<6/\k=11+i from xH k hk (k-11) (by
   have h1:11≤k/\k<17:=(show ∀k∈sJ,11≤k/\k<17 by decide) k hk
   omega)) k hk
  rw[Bool.and_eq_true];rw[fy (decide_eq_true (fK i hi)) ?_];rw[xg (hg i hi) (a1 _ ?_)];rw[Q0 (aBt (i<di Ib))]
  exact aqe
universe zE
universe Sb
universe zE
section
namespace Sb
open PySem L2
section
variable {C:gv}{Y:dK}{o:ek}{M:aS}{B:dM}{W:b5}{j:Nat}{ρ:bu}{t:TB}
abbrev Sc:cO aj
 |η _=>True
 |.bb=>True
 |.ah _=>True
 |_=>False
def Ta{b c:Bool}:I9 (.ah b) (.ah c)=.ok (.ah (b == c)) M:=by cases b<;>cases c<;>with_unfolding_all rfl
def a0p gy(h:Sc x):I9 x x=.ok (fT .ah) M:=by
 cases x with
 |int i=>simp
 |bb=>rw[afB]
 |ah b=>rw[Ta];cases b<;>rfl
 |_=>rw[aiX]
def a0q gy e7(h:Sc x)(hd:c8=.ok x M):∃k,Tg "bool" d ρ M=.ok (.ah k) M:=by
 rw[f5 Tg hd ag];cases x with
 |int i=>rw[b7 false bU]
 |bb=>rw[b7 false bU]
 |ah b=>rw[b7 true bU]
 |_=>rw[aiX]
def ady gy(h:Sc x):B1 [x,x] M=.ok (fT .ah) M:=by
 rw[mu B1 P q (q=.ok (fT .ah) M)];obtain⟨k,e1⟩:=a0q (ρ:=[gB,gB]) (d:=ak) (M:=M) h rfl;rw[dX e2 (Tg "bool" aG [gB,gB] M=Tg "bool" ak [gB,gB] M) rfl (CH (fT .ah) M)];rw[aGr,au,e1,ag,e2,e1,ag,Ta,ag];cases k<;>simp[a0p h]
def a3n(o:dw):Sc (aU o):=by cases o<;>trivial
def a1C(o:eL):Sc (jN o):=by cases o<;>trivial
def a0r qp bf dH DG ae4:OE (ο n) y M=OE (ς xs) y M:=by
 have:Ay (ο n)=Ay (ς xs):=by
  show(match M[n]? with
   |gY=>(qv (K5 9)).map PyData.list
   |_=>none)=_
  rw[h];rfl
 rw[dJ dq this]
abbrev kL GC:dY:=(aqg).map (z4 (n:Nat))
def aP5 ax4(hl:GU):R! C.tr [oM] M=.ok dO (M++[ς (kL t.tr)]):=by
 rw[ki R! q (q=.ok dO (M++[ς (kL t.tr)]))];rw[cV e (Uz ρ [iY] d ak h1 SJ) (CH dO (M++[ς (kL t.tr)]))]
 show jo true pS (dc (aq4 C.tr)) (bR 0) j_ r4 [iY] M=_;rw[oR (xs:=t.tr.steps) (w:=nu t.so (ς QY)) (M':=M) bE zK (zY s s.1) (k7 (ρ=[y])) (SS e h2) h2 rN (nH x) ON]
 ·rw[r9,yq (by rw[s5 hl])];rw[zy kL]
 ·rw[E! H8]
structure aeL n! c6:Prop where
 some:∀M B W o gS t,ri C Y M B W o->yV->dZ=fm->g [ο 0,η x] M=.ok dO (M++[ς (kL t)])
 none:∀M B W o gS,ri C Y M B W o->yV->VS->g [ο 0,η x] M=kG
def a1D Uo fN afr:aeL C Y (Sa (R! C.tr) gt):=by
 rw[fy (λM B W o x t d hx hg=>?_) (λM B W o x d hx hg=>?_)]
 ·have e:=Sn AV x B.trains;rw[←d.S.trains,hg]at e;rw[aps tb hb rfl e.symm];rw[jm hc (ht Y o M B x d.y hx) hb hc];rw[oO T (d.y.avi _ (AK hb) nofun) hl (aeC G d.f.I d.S _ (AK hb)) e2 (aP5 (C:=C) (t:=tb) T.mt T.ms hl)];rw[ki Sa q (q=.ok dO (M++[ς (kL tb.tr)]))]
  refine CH dO (M++[ς (kL tb.tr)]);show ay (R! C.tr) [ay gt [ak,aG]] [aD,aX] M=_;rw[bP,aR,bP,vO [ak,aG] [aD,aX] M .ok [ο 0,η x] M,ag,hc]
  rw[qG bM];exact e2
 ·have e:=Sn AV x B.trains;rw[←d.S.trains,hg]at e;rw[bI hb (Option.map_eq_none_iff.mp e.symm) hc (ht Y o M B x d.y hx)];rw[hb]at hc;rw[ki Sa q (q=kG)];rw[ME (Es _ (bZ (ay (R! C.tr) [ay gt [ak,aG]]) [aD,aX] M)) bZ]
  have:ay (R! C.tr) [ay gt [ak,aG]] [aD,aX] M=kG:=by
   rw[bP,aR,bP,vO [ak,aG] [aD,aX] M .ok [ο 0,η x] M,ag,hc]
   rfl
  rw[this];rfl
universe zE
universe Sb
universe zE
end
mutual
section
namespace Sb
open PySem L2
section
variable {C:gv}{Y:dK}{o:ek}{M:aS}{B:dM}{W:b5}{j:Nat}{ρ:bu}{t:TB}
def Tb b6 Gv:dq true (ir b) (ir b) M=.ok (lO .ah) M:=by cases b<;>with_unfolding_all rfl
def a0s GC:dq true (ς (kL t)) (ς (kL t)) M=.ok (lO .ah) M:=by
 have hp:Qa (ς (kL t)):=by
  intro y hy;rw[Xd n hy (qc _)]
 rw[als (p:=True) hp hp Ξ];rfl
def Sp{aOp aCK aky NX aCL abZ akv Dw a3R:D1}(FO:rR)fN(his:∀M x,Sc x->aOp [x,x] M=.ok (fT .ah) M)(a4u:∀M B o,ru->aCK [ο 0] M=.ok aj7 M)
  (fK:aw3 NX)(Q:axc C Y aky a3R aCL abZ akv)(J3:aeL C Y Dw):∃G',aD6 C.aP aOp aCK aky NX aCL abZ akv Dw [ο 0,ο 7] M=.ok (fT .ah) (M++G'):=by
 rw[vH hy FO.y h FO.w I FO.f.I S FO.S];rw[fS K (tok G I) o4 ó (aIr G I).gl];rw[bI zr G.g.eg NW G.g.um]
 rw[mu aD6 P q (∃G',q=.ok (fT .ah) (M++G'))];rw[Rj e1 (Mx [aD,aI,none,none,none,none] d amA) e2 (hy.met (ρ:=[aD,aI,none,none,none,none]) (g:=aCK) (d:=ak) (ds:=[]) (xs:=[]) rfl aZv rfl) (D_ M Ad)]
 ·rw[Jp,kI,bP,aR,e2,a4u M B o hy,ag,aR,e1,ag,bM,ag,ag,ag,S.ticks,his _ (η W.now) trivial];rfl
 rw[fS e3 (Mx [aD,aI,none,none,none,none] d M8) hi (o3 [(atg aG)] [aD,aI,none,none,none,none] M=.ok ((aMp).map (qy (k:Nat)),none) M) (OH (by
  rw[bP,aR,e3]
  simp[eW]))]
 rw[aaN [(atg aG)] eO hi (qy (k:Nat)) (pI ((∃y,ρ=[aD,aI,y,none,none,none])/\M'=M)) aMp M hi (lS rN)]
 ·rintro pre p post hx ρ M' ⟨⟨y,rfl⟩,rfl⟩
  obtain⟨hp,_⟩:=Jm hx;rw[vd];rw[vH e4 (Mx [aD,aI,kH,none,none,none] d YV) e5 (hy.met (ρ:=[aD,aI,kH,none,none,none]) (g:=aky) (d:=ak) (ds:=[aH]) (xs:=[η p]) rfl aUJ rfl) e6 (hy.met (ρ:=[aD,aI,kH,none,none,none]) (g:=aCL) (d:=ak) (ds:=[aH]) (xs:=[η p]) rfl aE8 rfl) lZ (hy.met (ρ:=[aD,aI,kH,none,none,none]) (g:=abZ) (d:=ak) (ds:=[aH]) (xs:=[η p]) rfl aZu rfl)];rw[bI ako (Mx [aD,aI,kH,none,none,none] d M8) dB (Mx [aD,aI,kH,none,none,none] d av2)]
  rw[ko ev (ae 2 [aD,aI,kH,none,none,none] M'=.ok (η p) M') rfl (Vm (c5 (ahb (c5 (aha (c5 (lU (lS fR))))))))]
  ·have hl:f_ (ο j) (η p) M'=.ok (aU (af1 p)) M':=SG h.wl (by rw[apq eX (U1 hp)];rfl);rw[Jp,kI,bP,aR,e5,Q.lk M' B W o p FO.aP hp,ag,aR,au,e4,ag,ev,ag,hl,ag,bM,ag,ag,ag,his _ _ (a3n _)];rfl
  ·rw[Jp,kI,bP,aR,e6,Q.ti M' B W o p FO.aP hp,ag,aR,bP,aR,pY 1 [aD,aI,kH,none,none,none] M' .ok (ο 7) M',ag,aR,ev,ag,bM,ag,ag,ag,fK Y M' W j p h K,ag,bM,ag,ag,ag,his _ _ (a1C _)]
   rfl
  ·rw[Jo,c_,au,au,au,ako,ag,ev,ag,FT hp,ag,bg,ag];cases q?:ø p with
   |false=>
    unfold qO at q?;cases o5:RK p with
    |pl a b=>simp[dR.enc]
    |pt a b c=>rw[o5]at q?;cases q?
   |true=>
    rw[gM hl (ag3 p) (by rw[Md S.q8]) h6 (f_ (ο 6) (η p) M'=.ok (ir B.lying[p]) M') (SG h.oZ (by
     rw[eX,S.lies p hp q?,Q2];rfl)) a3F ((Lw (yC C.aP "lies" abZ ak [aH]) (abf (ajY "points"))) [aD,aI,kH,none,none,none] M'=.ok false M') (by
     rw[c_,au,lZ,Q.acI M' B W o p _ FO.aP hp q? (by rw[QX (S.lies p hp q?) hl]),ag,au,dB,ag,ev,ag,h6,ag,Tb];rfl)]
    unfold qO at q?;cases o5:RK p with
    |pl a b=>rw[o5]at q?;cases q?
    |pt a b c=>simp[dR.enc];simpa using a3F
 rintro ρ' M' ⟨⟨y,rfl⟩,rfl⟩
 rw[cV e4 (Mx [aD,aI,y,none,none,none] d YU) (ag9 (jc (W.green.map (wW Y.rs))) M')]
 ·rw[IP W.green w M' (z4 (n:Nat)) (zY r (aY cg)) (k7 (ρ=[y,aI])) (ja e4) (QA r hr) (gX o4)]
  ·rw[r9,f6 (by rw[s5 o4])];rw[zy jc]
  ·rw[rJ y hρ];have e5:=Mx [cv,aI] d YJ;refine iX _ rfl fR (ck _);simp only[List.set_cons_zero];rw[au,au,e5];simp[JB (I.NX hr)]
 rw[eB];rw[fS e5 (Mx [aD,aI,y,Cc,none,none] d YB) Ds (o3 [(j4 (apJ aG))] [aD,aI,y,Cc,none,none] M'=.ok ((azg).map (qy (k:Nat)),none) M') (OH (by
  rw[bP,aR,e5]
  simp[eW]))]
 rw[aaN [(j4 (apJ aG))] a3D Ds (qy (k:Nat)) (LA M2 ((∃z,ρ=[aD,aI,y,Cc,z,none])/\M2=M')) azg M' Ds (lS rN)]
 ·rintro pre s post hx ρ M2 ⟨⟨z,rfl⟩,rfl⟩
  obtain⟨hs,_⟩:=Jm hx;rw[vd];rw[D7 e6 (hy.met (ρ:=[aD,aI,y,Cc,er,none]) (g:=akv) (d:=ak) (ds:=[bY]) (xs:=[η s]) rfl aS7 rfl) hb (i7 s (W.green.map (wW Y.rs))=atO Y W s) (by
   unfold atO;rw[Bool.eq_iff_iff,decide_eq_true_eq,List.mem_map,List.any_eq_true];rw[b7 (fun⟨r,h1,h2⟩=>⟨r,h1,aqk⟩) (fun⟨r,h1,h2⟩=>⟨r,h1,î⟩)]) (D_ M2 (c5 (lU (lS fR))))];rw[Jp,kI,bP,aR,e6,Q.g5 M2 B W o s FO.aP hs,ag,aR,au,B3 4 [aD,aI,y,Cc,er,none] M2 .ok s M2,ag,pY 3 [aD,aI,y,Cc,er,none] M2 .ok (jc (W.green.map (wW Y.rs))) M2,ag,aHd,ag,bM,ag,ag,ag,xU,hb,his _ (.ah _) trivial]
  rfl
 rintro ρ' M2 ⟨⟨z,rfl⟩,rfl⟩
 rw[cV e6 (Mx [aD,aI,y,Cc,z,none] d nP) Pu];rw[aaH hk (aBh e6) ad0 hk h.j9 hk ?_];rw[eE A9 (ajr (ajD 10 .bD) 10 .bD) ars adO (rH (ajD 10 .bD) 7 .ai (Vs Y j)) ain hY (ri C Y (ajD 10 .bD) B W o) (FO.aP.keep Ξ λi hi ho=>p_ (fD (ho (by rw[fz e (FO.sep 10 (by unfold Gj;simp))])))) back (∀G',(ajD 10 .bD++G').set 10 (.ai pQ)=M2++G') (λG'=>by
  rw[List.set_append_left _ _ (by rw[ñ aaq]),M7 h.j9])]
 generalize ajD 10 .bD=n6 at hk A9 adO hY back⊢;refine nQ (λq:Int×o9=>aj.int q.1) (pI ((∃alP,ρ=[aD,aI,y,Cc,z,alP])/\∃G',M'=n6++G')) W.trains _ n6 hk A9 ⟨fR,[],(aNf).symm⟩ ?_ ?_
 ·rintro pre q post hx ρ M' ⟨⟨alP,rfl⟩,G',rfl⟩;refine jh [aD,aI,y,Cc,z,vN] ?_
  have hq:q∈W.trains:=by rw[oB]
  rw[oO atQ aiF aP (hY.app G') e9 (J3.some _ B W o q.1 q.2 aP (FO.nm q hq) atQ)]
  rw[dX v1 (qR pQ I6=afX q.2) (by rw[AL,atQ];rfl) (D_ (n6++G'++[ς (kL q.2)]) (c5 (MS (lq (lq A9)) ⟨fR,G'++[ς (kL q.2)],aLO⟩)))];rw[c_,au,aP.y.met (d:=ak) (ds:=[fU]) (xs:=[η q.1]) rfl avP rfl,e9,ag]
  rw[Cg lZ (K6 (U9 ajv 5) (Θ 0) [aD,aI,y,Cc,z,vN] (n6++G'++[ς (kL q.2)])=.ok (bF q.2.steps) (n6++G'++[ς (kL q.2)])) (by
   rw[au,au,au,pY 1 [aD,aI,y,Cc,z,vN] (n6++G'++aix q.2) .ok (ο 7) (n6++G'++aix q.2),ag,bg,ag,YA (lq (lq adO)) rfl nP,ag,
    B3 5 [aD,aI,y,Cc,z,vN] (n6++G'++aix q.2) .ok q.1 (n6++G'++aix q.2),ag,awV (lq (lq A9)) (k:=I6) rfl v1,ag,bg,ag,NN]) iy (K.sl q hq)];rw[IP q.2.steps w (n6++G'++[ς (kL q.2)]) bE (zY s s.1) (k7 (ρ=[y])) (ja lZ) (nH x) W_]
  ·rw[r9,iL (by rw[qs iy]),ag,a0r (xs:=kL q.2) Ξ,show(aj.lst (q.2.steps.map (zY s (aY s.1))))=ς (kL q.2) from by rw[zy kL],a0s]
   rfl
  ·rw[E! (λ_=>H8)]
 ·rintro ρ'' M' ⟨⟨alP,rfl⟩,G',rfl⟩;rw[fy (lq A9) (xh (fT .ah) _ (lM G'))];rw[back]
universe zE
universe Sb
universe zE
section
namespace Sb
open PySem L2
section
variable {C:gv}{Y:dK}{o:ek}{M:aS}{B:dM}{W:b5}{j:Nat}{ρ:bu}{t:TB}
abbrev Tl sR(Sf mB oC Sy sk Nr SP AD SQ:D1):cM:=(bp (r6 D4) (xq Sf) (bp (r6 vJ) (xq mB) (bp aqD (xq oC) (bp (r6 BR) (H6 Sy [ak,bH,aH]) (bp (r6 G_) (H6 sk E1) (bp as5 (Cb Nr) (bp asw (Cb SP) (bp (ď "where") (mP (ahM bl AD ak [bH])) (Cb SQ)))))))))
def S7{tt:g9}{s1 s2 s2':cM}{k:Bool}(ht:tt ρ M=.ok k M)(h:s2 ρ M=s2' ρ M):bp tt s1 s2 ρ M=bp tt s1 s2' ρ M:=by
 unfold bp;rw[ht,Res.oS,Res.oS,h]
def S8{tt:g9}an0(ht:tt ρ M=.ok false M):bp tt s1 s2 ρ M=s2 ρ M:=by
 rw[vM bp ht];rfl
def a1E{tt:g9}an0(ht:tt ρ M=.ok true M):bp tt s1 s2 ρ M=Ci M:=by
 rw[vM bp ht];rfl
def a0t{cs:cz}T!{s s':cM}(h:s ρ M=s' ρ M):uh cs a b s ρ M=uh cs a b s' ρ M:=by
 rw[dJ uh h]
def aX5 jT{g0 g1 g2 g3 jq jr jt ju lu:D1}Gn DG:Tl c g0 g1 g2 g3 jq jr jt lu ju (nK y) M=Tj g0 g1 g2 g3 jq jr jt ju (nK y) M:=by
 unfold Tl Tj;rw[oA (S7 (Xj w w iG) (S7 (Xj w w iI) (S7 (Xj w w jY) (S7 (Xj w w iJ) (S7 (Xj w w gU) (S7 (Xj w w .go) (S7 (Xj w w jJ) ?_))))))) e (n9 (VH "where") (nK y) M=.ok false M) (by
  show(Ek (I9 (Ω w.s) O3).bind v (match v with
   |.ah b=>.ok b aa
   |_=>aE))=_
  rw[kS (I9 (Ω w.s) O3) (.ok (lO .ah) M) (by cases w<;>with_unfolding_all rfl)]
  rfl)]
 rw[vM bp e];rfl
def aSW aIZ fN aym aKE:
  adY C Y (ak0 ia C.he C.cI C.rd C.aP g0 g1 g2 g3 jq jr jt lu ju g5) λk=>Ω (l0 k):=λM B W o w i x h f S hi hx=>by
 have T:=aHh (ia:=ia) (A.all (w:=w) G h f S hi hx);rw[Er ak0 P q (axm C Y o M q p9 (λk=>Ω (l0 k)) λB'=>akW Y (sC Y W w i x) B') (UH .bb M rfl)]
 rw[tK ?_];show F3 _ _ (uh [ia,C.cI,C.he,C.rd] 4 5 (Tl C.aP g0 g1 g2 g3 jq jr jt lu ju) (nK .bb) M);rw[a0t aX5];rcases T with⟨hk,M',o',B',e,h1,h2,h3⟩ | ⟨hk,e⟩
 ·rw[e];rw[mC (ajw M' (aq ⟨hk,M',o',B',?_,h1,h2,h3⟩)) hk];rfl
 ·rw[e]
  rw[dX hn (rH (M++Hq CP) M.length bG CP) Ξ (WN (Ω (l0 p9)) (M++Hq CP) (eP (aA (kA hk CP))))];rw[YZ,c_,au,vg (ae 4 (nK dO) (M++Hq CP)) (.ok dO (M++Hq CP))]
  rw[qG bg];rw[I8 (jd false dO .bb (M++Hq CP)) .ok (lO .ah) (M++Hq CP)]
  simp only[ag,Bool.false_eq_true,if_false,bP,aR,bM];rw[V8 (vg (ae 4 (nK dO) (M++Hq CP)) (.ok dO (M++Hq CP)))];exact hr _ _ _ hn hk
def aWC aIZ gc(y:ru)(hh:lu [ο 0,η x] M=kG)aKE:
  ak0 ia C.he C.cI C.rd C.aP g0 g1 g2 g3 jq jr jt lu ju g5 [ο 0,O3,η 0,η x] M=.ok (Ω "none") (M++[bG C.cI]):=by
 rw[Er ak0 P q (q=.ok (Ω "none") (M++[bG C.cI])) (UH .bb M rfl)]
 rw[tK ?_]
 rw[eE a5e (∀u:Str,I9 O3 (Ω u)=.ok (lO .ah) M->n9 (VH u) [aD,Ep,Ck,aX,Ag,none] M=.ok false M) (λu h=>by
  rw[c_,au,pY 1 [aD,Ep,Ck,aX,Ag,none] M .ok (Ω "where") M,ag,bg,ag,h,ag]) tt (n9 (VH "where") [aD,Ep,Ck,aX,Ag,none] M=.ok true M) (by
  rw[c_,au,pY 1 [aD,Ep,Ck,aX,Ag,none] M .ok (Ω "where") M,ag,bg,ag,kS (I9 O3 O3) (.ok (fT .ah) M) bU,ag]) eb (Tl C.aP g0 g1 g2 g3 jq jr jt lu ju [aD,Ep,Ck,aX,Ag,none] M=bG C.cI [aD,Ep,Ck,aX,Ag,none] M) (by
  unfold Tl;rw[S8 (W5 "set"),S8 (W5 "cancel"),S8 (W5 "throw"),S8 (W5 "enter"),S8 (W5 "tick"),S8 (W5 "go"),S8 (W5 "draw"),a1E tt];rw[f5 mP (y.met (d:=ak) (ds:=[bH]) (xs:=[η x]) rfl avP rfl) hh];rfl) et (uh [ia,C.cI,C.he,C.rd] 4 5 (Tl C.aP g0 g1 g2 g3 jq jr jt lu ju) [aD,Ep,Ck,aX,Ag,none] M=.nx [aD,Ep,Ck,aX,g?,none] (M++[bG C.cI])) (by
  rw[dJ uh eb];rw[ku (if_pos Ξ)];rfl)]
 show F3 _ _ (uh [ia,C.cI,C.he,C.rd] 4 5 (Tl C.aP g0 g1 g2 g3 jq jr jt lu ju) [aD,Ep,Ck,aX,Ag,none] M);rw[xg et (Ŏ (Ω "none") (M++[bG C.cI]))];rw[YZ,c_,au,vg (ae 4 [aD,Ep,Ck,aX,g?,none] (M++aaJ)) (.ok dO (M++aaJ))]
 rw[qG bg];rw[I8 (jd false dO .bb (M++aaJ)) .ok (lO .ah) (M++aaJ)]
 simp only[ag,Bool.false_eq_true,if_false,bP,aR,bM];rw[V8 (vg (ae 4 [aD,Ep,Ck,aX,g?,none] (M++aaJ)) (.ok dO (M++aaJ)))];exact hr _ _ cG (aK rh) nofun
def aIB qp{k:o7}:OE (Ω (l0 k)) (Ω (l0 k)) M=.ok (.ah (! neg)) M:=by cases neg<;>cases k<;>with_unfolding_all rfl
def a0u{gd ga:D1}{v:o7->aj}Gn fN(hd:amC C Y gd)(ha:adY C Y ga v)(s:rR)Be Bf:
  ∃aa M2 B' o' j',gd [ο 7,Ω w.s,η i,η x] M=.ok (Ω (l0 p9)) aa/\ga [ο 0,Ω w.s,η i,η x] aa=.ok (v p9) M2/\JR C Y M2 B' (Dj Y W w i x) o' j'/\∀n,rE n->o n=.Dc->¬Gj j n->M2[n]? = M[n]? /\ o' n=.Dc/\¬Gj j' n:=by
 rw[oO L (hd M B W o j w i x s) hf (aH5 (w:=w) (i:=i) (x:=x) G s.f) q4 (a0f (w:=w) (i:=i) (x:=x) G s.f s.nm hx)];by_cases hk:p9=.ok
 ·have ea:Dj Y W w i x=sC Y W w i x:=by rw[dJ Dj hk]
  rw[ea]at hf q4⊢;unfold ly at L;rw[hk]at L⊢;obtain⟨aa,j',e1,w1,f1,hj⟩:=L;rw[bI y1 (a05 s.y f1 s.sep) A (ha aa B W o w i x y1 s.f s.S hi hx)];rw[hk]at A;rcases A with⟨_,M2,o',B',e2,y2,f2,cN⟩ | ⟨hc,_⟩
  ·rw[qt aNZ (∀i,Gj j' i->o i=.Dc) (kj (by
    rcases hj with rfl | hj
    ·exact s.sep i hi
    ·rcases hi with e | e | e | e | e
     ·exact s.sep i (aq e)
     ·exact s.sep i (aA (aq e))
     ·exact s.sep i (aA (aA (aq e)))
     ·exact s.sep i (aA (aA (aA (aq e))))
     ·exact s.y.hi i av)) ⟨aa,M2,B',o',j',e1,e2,⟨y2,w1.keep λi hi hl=>f2.out i hl (aNZ i hi),hf,cN,dz i hi,q4⟩,jj n hn atR NC⟩]
   ·rw[az (f2.tag i (w1.ad hi)) (aNZ i hi)]
   ·rw[bq hn1 (n<aa.length) (Nat.lt_of_lt_of_le hn f1.len) a3S (aa[n]? = M[n]?) (f1.out n (aiI (aq e)) (aiI (aA (aq e))) (aiI (aA (aA (aq e)))) (aiI (aA (aA (aA (aq e))))) (aiI (aA (aA (aA (aA e))))) hn)];rw[eF (eV (f2.out n hn1 atR) a3S) (eV (f2.tag n hn1) atR) (ck h)];rcases hj with rfl | hj
    ·exact NC h
    ·rcases h with e | e | e | e | e
     ·exact NC (aq e)
     ·exact NC (aA (aq e))
     ·exact NC (aA (aA (aq e)))
     ·exact NC (aA (aA (aA (aq e))))
     ·omega
  ·rw[Q! hc]
 ·have ea:Dj Y W w i x=W:=by
   unfold Dj;split
   ·rw[WW];rw[E2 hk]
   ·rfl
  rw[ea]
  rw[Cg e1 (gd [ο 7,Ω w.s,η i,η x] M=.ok (Ω (l0 p9)) M) (by
   unfold ly at L;cases e:p9 with
   |ok=>rw[E2 hk]
   |none=>rw[bV e L L]
   |held=>rw[bV e L L]
   |red=>rw[bV e L L]) A (ha M B W o w i x s.y s.f s.S hi hx)];rcases A with⟨hc,_⟩ | ⟨_,c,e2⟩
  ·rw[pO hc hk]
  ·exact⟨M,_,B,o,j,e1,e2,s.keep Ξ (kj UJ),λn hn atR NC=>⟨aLs,atR,NC⟩⟩
universe zE
universe Sb
universe zE
section
namespace Sb
open PySem L2
section
variable {C:gv}{Y:dK}{o:ek}{M aa:aS}{B:dM}{W:b5}{j:Nat}{ρ:bu}{t:TB}
abbrev Mid(R:bu->Z8):DT
 |.nx ρ M=>R ρ M
 |_=>False
def a1F DE an0(R:bu->Z8)(h:Mid R (Ci M))(k:∀ρ' M',R ρ' M'->Q (s2 ρ' M')):Q (m7 s1 s2 ρ M):=by
 refine Bq ?_;revert h;cases Ci M with
 |nx ρ M=>exact λh=>k ρ M h
 |_=>exact False.elim
def aHn dH bf(hn:oF n)Z2:lx false (ς xs) (η n) M=.ok (ς (Ak (û xs))) M:=by
 rw[gM hs (U6 gO) (kz av av) aCA (aAG (aY 2 ^ 62)) aCc h1 (xs.length*n≤10000) (Nat.mul_le_mul hl hn)];rw[Cr lx AJ]
 rw[aCA,Int.toNat_natCast,if_pos ⟨hs,av,av,gX h1⟩,f6 (by
  rw[List.length_flatten,List.map_replicate,List.sum_replicate_nat,Nat.mul_comm]
  exact gX h1)]
def a1G dH bf Z2:aiw (ς xs) (some gO) M=.ok (ς (xs.take n)) M:=by
 show(match lQ (ς xs) with | jl=>R2 (aaT (some gO)) M | none=>aE)=_
 rw[vL AJ];rw[FK (k:=n),f6 (LV (List.length_take_le' _ _) hl)]
def awO{f:sL}e7 wO{us xs:dY}bf(hd:c8=.ok (ο n) aa)(h:aa[n]? = gY)(ha:U? aa=.ok us aa):fI f d ds ρ M=f (ο n) us aa:=by
 rw[aFW,hd,ag,awU h];rw[đ ha ag]
def awt l_:vB n (Ak (û [x])=û x)
 |0=>rfl
 |n+1=>by rw[List.replicate_succ,List.flatten_cons,awt x n,List.replicate_succ];rfl
noncomputable abbrev av5:=fL×Int×Int
noncomputable abbrev aeH(fs:Wb):aj:=ς (fs.map eh)
abbrev aFN(fs:Wb):Prop:=(∀d∈fs,A0 l8 d)/\aB4 6
abbrev lz yR wN T8(fs:Wb)(y5 y6 y7 y8 l6 jR sG sH sI q1 mT aEt:wY):bu:=
 [rX .cY,pV,Fe,cJ wait,aN (aeH fs),y5,y6,y7,y8,l6,jR,sG,sH,sI,q1,mT,aEt]
abbrev A1:kt:=[.pl 1 2,.pl 2 3]
abbrev DA:sW:=[(1,0),(2,1)]
abbrev q!:Wb:=[(iG,0,0),(iJ,0,0),(iG,1,0),(iI,1,0),(h7,0,0)]
def good2:aC8 A1 DA:=by
 refine⟨aC,aC,?_,?_,ck j,aC,aC,?_⟩
 ·intro p hp j hj;simp only[A1,List.mem_cons,List.not_mem_nil,or_false]at hp;rcases hp with rfl | rfl<;>simp only[dR.js,List.mem_cons,List.not_mem_nil,or_false]at hj<;>rcases hj with rfl | rfl<;>decide
 ·intro p hp;simp only[A1,List.mem_cons,List.not_mem_nil,or_false]at hp;rcases hp with rfl | rfl<;>decide
 ·exact gX qx
 ·intro s hs;simp only[DA,List.mem_cons,List.not_mem_nil,or_false]at hs;rcases hs with rfl | rfl<;>decide
def a3o:∀d∈q!,A0 l8 d:=by
 intro d hd;simp only[q!,List.mem_cons,List.not_mem_nil,or_false]at hd;rcases hd with rfl | rfl | rfl | rfl | rfl<;>exact⟨aj6,aj6⟩
def aX6{kJ:D1}ZQ yR J!{wait:Int}(hg:sX):
  Mid (Ce M (∃ps ss fs,sX/\aFN fs/\ρ=lz ns ps ss wait fs none none none none none none none none none none none none/\M=[])) (bp (s6 (zA kJ [ak,(Θ 37)] (Θ 4)) (Θ 0)) (uU 1 (dI [(cA [Ql,(Θ 1),(Θ 2)]),(cA [Ql,(Θ 2),(Θ 3)])]) 2 (dI [(cA [(Θ 1),(Θ 0)]),(cA [(Θ 2),(Θ 1)])]) (pR 4 (dI [(cA [D4,(Θ 0),(Θ 0)]),(cA [BR,(Θ 0),(Θ 0)]),(cA [D4,(Θ 1),(Θ 0)]),(cA [vJ,(Θ 1),(Θ 0)]),(cA [(dj "turn"),(Θ 0),(Θ 0)])]) (lW 4 (Ii (OU bY (yv (ahD (Θ 3) kJ [ak,(Θ 36)] (Θ 3)))) (sd (cA [(dj "turn"),(Θ 0),(Θ 0)])) (zA kJ [ak,(Θ 35)] (Θ 2)))))) sr
   (lz ns ps ss wait [] none none none none none none none none none none none none) []):=by
 rw[BE a4P a3W a6O (SK (N:=vf 37) (m:=4) aC) (su (fC a4P 0) [] ?_ (ck _) λ_=>⟨ps,ss,[],hg,⟨(zW h h),HC⟩,rfl,rfl⟩)]
 ·rw[c_,au,au,bP,vO [ak,(Θ 37)] (lz ns ps ss wait [] none none none none none none none none none none none none) [] .ok [.cY ns,η 37] [],ag,hm ns 37 [],ag,bg,ag,Jr aC,a3W]
  simp
 ·rw[Hw Yz a3V a6P (SK (N:=vf 36) (m:=3) aC) aDd a3U a6Q (SK (N:=vf 35) (m:=2) aC)];rw[zh (aCx A1) []]
  ·rw[eD];simp only[aR,bM,FF,bg,ag];exact W0
  rw[zh (cc DA) []]
  ·rw[eD];simp only[aR,bM,FF,bg,ag];exact W0
  rw[zh (aeH q!) []]
  ·rw[eD];simp only[aR,bM,FF,bg,ag];exact W0
  rw[O! (Mid _ (lW 4 _ (lz ns A1 DA wait q! none none none none none none none none none none none none) [])) (Nl (aeH (UR (q!.take (3+Yz)) aDd (h7,0,0))) [] ?_ ⟨A1,DA,UR (q!.take (3+Yz)) aDd (h7,0,0),good2,lM (dz d hd),rfl,rfl⟩)]
  ·rw[bq e1 (cD gr (ay kJ [ak,(Θ 36)]) (Θ 3) (lz ns A1 DA wait q! none none none none none none none none none none none none) []=.ok (η Yz) []) (by
    rw[au,bP,vO [ak,(Θ 36)] (lz ns A1 DA wait q! none none none none none none none none none none none none) [] .ok [.cY ns,η 36] [],ag,hm ns 36 [],ag,bg,ag,Jr aC,a3V]) e2 (cD gr (ay kJ [ak,(Θ 35)]) (Θ 2) (lz ns A1 DA wait q! none none none none none none none none none none none none) []=.ok (η aDd) []) (by
    rw[au,bP,vO [ak,(Θ 35)] (lz ns A1 DA wait q! none none none none none none none none none none none none) [] .ok [.cY ns,η 35] [],ag,hm ns 35 [],ag,bg,ag,Jr aC,a3U])]
   generalize zA kJ [ak,(Θ 36)] (Θ 3)=d1 at e1⊢;generalize zA kJ [ak,(Θ 35)] (Θ 2)=d2 at e2⊢
   have e3:Lo [(cA [(dj "turn"),(Θ 0),(Θ 0)])] (lz ns A1 DA wait q! none none none none none none none none none none none none) []=.ok (ς [eh (h7,0,0)]) []:=by
    rw[eD];simp only[aR,bM,FF,bg,ag];exact W0
   rw[au,Y0,pY 4 (lz ns A1 DA wait q! none none none none none none none none none none none none) [] .ok (aeH q!) [],ag,Yt,ag,Su,au,bg,ag,e1,ag,avI,ag]
   dsimp only;rw[ag,show aY 3+aY Yz=i_ (3+Yz) by omega,a1G aC,ag,au,e3,ag,e2,ag,aHn av aC,ag,Sq,iL ?_]
   ·congr 2
    rw[List.map_append,List.map_take,List.map_replicate]
    congr 1
    exact awt _ _
   ·rw[List.length_append,List.length_flatten,List.map_replicate,List.sum_replicate_nat];have:=List.length_take_le' (3+Yz) (q!.map eh);have h5:di (q!.map eh)=5:=rfl;simp only[zE,yE];omega
  ·rcases aMw with hd | hd
   ·exact a3o d (List.mem_of_mem_take hd)
   ·rw[V7 (List.mem_replicate.mp hd).2 aj6 aj6]
  ·rw[aMa];have:=List.length_take_le' (3+Yz) q!;have h5:q!.length=5:=rfl;omega
universe zE
universe Sb
universe zE
end
mutual
section
namespace Sb
open PySem L2
section
variable {C:gv}{Y:dK}{o:ek}{M aa:aS}{B:dM}{W:b5}{j:Nat}{ρ:bu}{t:TB}
def a0v{l:gf}{d:cM}(a_:ź l M)(h:Es (λr=>Ew (r=.ok (fT .ah) M')) (d (q7 l ρ) (yI l M))):Es (λr=>Ew (r=.ok (fT .ah) M')) (ad6 l d ρ M):=by
 rw[dJ ad6 (if_pos a_)];revert h;cases d (q7 l ρ) (yI l M) with
 |fk x aa=>
  rw[ĝ e];injection e with e1 e2;subst e1;exact fR
 |nx ρ aa=>rw[ĝ e];injection e with e1;cases e1
 |exc c ρ aa=>rw[ĝ e];cases e
 |lX ρ aa=>rw[ĝ e];cases e
 |ct ρ aa=>rw[ĝ e];cases e
 |bad=>rw[ĝ e];cases e
def adH{l:gf}gy(h:Ef 0 x):((gB).bind λx=>ahl (Ě x) (aBP x))=gB:=by
 rw[Option.bind_some,kR (aHm x h),aHl x h]
def a0w(d:av5):Ef 0 (eh d):=aic (by
 rw[Ht hx];rcases hx with rfl | rfl | rfl<;>simp)
def a3p Oc J!{wait:Int}{fs:Wb}:q7 sM (lz ns ps ss wait fs (kQ [ο 0,ο 1]) (cF 2) (cF 8) (cF 15) none none none none none none none none)=lz ns ps ss wait fs none aD (cF 11) aI none none none none none none none none:=by
 unfold q7 lz;simp only[cZ,zD,Option.bind_none];rw[adH ahm,adH (FG Y4 ps),adH (FG Y5 ss),adH Ξ,adH (FG a0w fs)];simp only[Option.bind_some,aj.inl,aj.Y?,aj.gF];rfl
def awP{l:gf}gx gy(h:oK ρ i x)(hb:Ef 0 x):oK (q7 l ρ) i x:=by
 unfold q7;rw[eX,h,Option.map_some,adH hb]
def a0x gx(h:atd i 11):qJ (q7 sJ ρ) i aD:=by
 unfold q7;rw[eX,h,Option.map_some,Option.bind_some];simp only[aj.inl,aj.gF];rfl
abbrev a1H n! c6:Prop:=∀M B W o j,rR->∃G',g [ο 0,ο 7] M=.ok (fT .ah) (M++G')
abbrev a1I n! c6:Prop:=∀M B W o gS,ri C Y M B W o->yV->VS->g [ο 0,O3,η 0,η x] M=.ok (Ω "none") M
abbrev a1J Gw c6:Prop:=∀ps ss T8 a b cT,sX->E5->OW b->g [dO,ο a,ο b,η wait] (M++[cQ c []])=.ok .bb (M++aaE c ps ss)
abbrev a3q c6:Prop:=∀Y M L,sU->M.length=L->g [pF,zI,Fs] M=.ok (ο (L+1)) (M++FZ L Y)
structure NP Gw gI cT(o:ek)J9:Prop where
 at':∀i<6,M[11+i]? = Ib[i]?
 b3:∀i<6,o (11+i)=.Dc
 na:∀i<6,¬Gj j (11+i)
def NP.lt jT(h:NP c Y M o j)gx(hi:i<6):rE (11+i):=by
 have:=h.at' i hi;rw[azN (aBt (i<di Ib)) this]
 exact aLk.1
def NP.app jT(h:NP c Y M o j)(G:aS):NP c Y (M++G) o j:=⟨kj (eV (UK (h.lt hi)) (h.at' i hi)),h.b3,h.na⟩
def a3r jT:NP c Y ((IK 0++AW Y)++Ib) o0 8:=by
 rw[eF (dz i hi) (dz i hi) (cP i hi h)]
 ·rw[apz (by rw[MJ (11≤11+i)])];show _[11+i-11]? = _;rw[Nat.add_sub_cancel_left]
 ·rw[dJ o0 aCd]
 ·rcases h with h | h | h | h | h<;>omega
def a0y{Dw:D1}{a4C:Nat}DE fN(s:rR)(J3:aeL C Y Dw){R:wY->bu}(hR:∀y,qJ (R y) 6 aD/\qJ (R y) 8 aI/\∀z,bR 15 z (R y)=aN (R (some z)))(a3s:∀z:aj,oK (R (some z)) 15 z)(y0:wY)
  (q:∀y G',Q (.nx (R y) (M++G'))):Q (pb (AO (ē (ae 8))) (ig (AO (ē (ae 8))) (bR 15) (LZ (ahM C.aP Dw jM [(ae 15)]) [OD])) (R y0) M):=by
 rw[vH h s.w K (U3 G) e6 (h.ix (ρ:=R y0) (d:=ae 8) (B! (hR y0).2.1) nP) hk (aBh e6)];rw[K7 ad0 hk (aD1 h.j9 hk ?_)];rw[gM A9 (ajr (O2 .bD) 10 .bD) ars hY (ri C Y (O2 .bD) B W o) (s.aP.keep Ξ λi hi ho=>p_ (fD (ho (by rw[fz e (s.sep 10 (by unfold Gj;simp))])))) back (∀G',(O2 .bD++G').set 10 (.ai pQ)=M++G') (λG'=>by
  rw[List.set_append_left _ _ (by rw[ñ aaq]),M7 h.j9])]
 generalize O2 .bD=n6 at hk A9 hY back⊢;refine nQ (λq:Int×o9=>aj.int q.1) (pI ((∃y,ρ=R y)/\∃G',M'=n6++G')) W.trains _ n6 hk A9 ⟨fR,[],(aNf).symm⟩ ?_ ?_
 ·rintro pre q post hx ρ M' ⟨⟨y,rfl⟩,G',rfl⟩;rw[Af (R vN) ((hR y).2.2 _)]
  have hq:q∈W.trains:=by rw[oB]
  rw[oO atQ (EP s.f.I.lB) aP (hY.app G') e9 (J3.some _ B W o q.1 q.2 aP (s.nm q hq) atQ)]
  rw[vI em (yC C.aP "where" Dw jM [(ae 15)] (R vN) (n6++G')=.ok (ο (vR n6 G')) (n6++G'++[ς (kL q.2)])) (by
   rw[az (aP.y.met (d:=jM) (ds:=[ae 15]) (xs:=[η q.1]) (B! (hR _).1) avP (by rw[aR,aT,a3s];rfl)) e9]) hl (di (kL q.2)<lim) (by
   rw[f5 kL eH eH];exact UE (K.sl q hq)) (x8 .bb (n6++(G'++[ς (kL q.2++[η (-1)])])) (MS (lq A9) (kA fR _)))];rw[awO (n:=vR n6 G') (us:=[η (-1)]) em (xs:=kL q.2) Ξ rfl];rw[Ej p!];rw[Cr jP (show Ez (n6++G'++aix q.2) (vR n6 G') (kL q.2) from Ξ)];rw[arV,avo,List.append_assoc]
 ·rintro ρ'' M' ⟨⟨y,rfl⟩,G',rfl⟩;rw[fy (lq A9) ?_];rw[az back (q y G')]
universe zE
universe Sb
universe zE
section
namespace Sb
open PySem L2
section
variable {C:gv}{Y:dK}{o:ek}{M aa:aS}{B:dM}{W:b5}{j:Nat}{ρ:bu}{t:TB}
def a0z{fs:Wb}{d:av5}dU(hf:aFN fs)(hd:A0 l8 d)(hk:k<31):∃d',A0 l8 d'/\fP (UR fs 40 d) k d':=by
 rw[i9 (k<fs.length)]
 ·rw[bC fs[k] (hf.1 _ (List.getElem_mem h)) (by rw[QX aLw h])]
 ·rw[Af d hd];rw[List.getElem?_append_right av,List.getElem?_replicate,Eu]
abbrev qa yR gI(fs:Wb)(l6 jR sG sH sI q1 mT aEt:wY):bu:=lz ns Y.ps Y.ss Y.wait fs none aD (cF 11) aI l6 jR sG sH sI q1 mT aEt
abbrev Np n_:eK:=[0,101,-5,5000].filter λx=>! aax
def a45:∀x∈([0,101,-5,5000]:eK),yV:=by
 rw[RI x hx hx];rcases hx with rfl | rfl | rfl | rfl<;>exact aj6
def AI{dG gs kJ aCI atP aOo gd aCJ ga Dw aOn:D1}yR(hp:aHr dG)(hs:aHs gs)ZQ(lC:aWi C.aP aCI)(am7:a1J C.aP aCI)(hnw:aNY atP)(a3t:a3q atP)(aCT:∀Y,sU->axo C Y aOo)(hd:∀Y,sU->amC C Y gd)
  (ha:∀Y,sU->adY C Y ga λk=>Ω (l0 k))(TP:∀Y,sU->a1H C Y aCJ)(J3:∀Y,sU->aeL C Y Dw)(a35:∀Y,sU->a1I C Y aOn):Ew (aD0 C.aP dG gs kJ aCI atP aOo gd aCJ ga Dw aOn [.cY ns] []=.ok (fT .ah) M'):=by
 rw[Hw ps aOA ep (hp ns 0 []) ss hg es (hs ns 40 ps [] aOA)];have hw0:0≤vf 39%4:=Int.emod_nonneg _ aC;rw[xe aD0 P r (Ew (r=.ok (fT .ah) M'))]
 refine jE gk [] (aK ep);rw[ji (jE kD [] (aK es))]
 rw[ji (jE (η (vf 39%4)) [] (fQ (hm ns 39 []) Jr))]
 rw[eB];generalize vf 39%4=wait at hw0⊢
 refine jE (ς []) [] (by rw[eD,bM,ag];exact W0);rw[O! (Rn _ _ _ (lz ns ps ss wait [] none none none none none none none none none none none none) []) (a1F _ (aX6 hm ns hg) ?_)];clear ep es aOA hg;rintro ρ' M' ⟨ps,ss,fs,hg,hf,rfl,rfl⟩;have G:Je ⟨ps,ss,Cs,wait⟩:=jh hg hw0;rw[rM zr hg.eg NW hg.um (rO (ς [ο 0,ο 1]) [ς lT,ς iH])]
 ·rw[Iw l1 (∀M,sy true [gk] M=.ok dO (M++[ς lT])) (λM=>yq (by rw[s5 zr])) l2 (∀M,sy true [kD] M=.ok dO (M++[ς iH])) M (yq (by rw[s5 NW]))];rw[eD,aR,bP,vO [aG] (lz ns ps ss wait fs none none none none none none none none none none none none) [] .ok [gk] [],ag,l1,ag,aR,bP,vO [aH] (lz ns ps ss wait fs none none none none none none none none none none none none) ([]++EI lT) .ok [kD] ([]++EI lT),ag,l2]
  rw[qG bM];exact xR
 show Rn _ _ _ (lz ns ps ss wait fs (kQ [ο 0,ο 1]) none none none none none none none none none none none) [ς lT,ς iH];rw[Wi ei (am7 ps ss wait 0 1 [ς lT,ς iH] hg rfl rfl) (ο 2) ([ς lT,ς iH]++p7)]
 ·rw[f5 C? (vO [(mK fU),(BV fU),bH] (lz ns ps ss wait fs (kQ [ο 0,ο 1]) none none none none none none none none none none none) [ς lT,ς iH] .ok [ο 0,ο 1,η wait] [ς lT,ς iH]) ag]
  rw[ei,ag];rfl
 rw[O! (Rn _ _ _ (lz ns ps ss wait fs (kQ [ο 0,ο 1]) (cF 2) none none none none none none none none none none) ([ς lT,ς iH]++p7)) (K9 .bb ([ς [],ς iH]++p7) ?_)]
 ·rw[awO (n:=0) (us:=[]) (xs:=lT) (aa:=[ς lT,ς iH]++p7) rfl rfl rfl];rfl
 refine K9 .bb ([ς [],ς []]++p7) ?_
 ·rw[awO (n:=1) (us:=[]) (xs:=iH) (aa:=[ς [],ς iH]++p7) rfl rfl rfl];rfl
 rw[Wi aOf (lC ps ss wait ([ς [],ς []]++p7) hg) (ο 8) ([ς [],ς []]++p7++bt C.aP 8 ps ss Cs wait)]
 ·unfold C?;simp only[aR,bM,bP]
  rw[pY 1 (lz ns ps ss wait fs (kQ [ο 0,ο 1]) (cF 2) none none none none none none none none none none) ([ς [],ς []]++p7) .ok gk ([ς [],ς []]++p7),ag,ag,ag,
   kS (sy false [gk] ([ς [],ς []]++p7)) (.ok gk ([ς [],ς []]++p7)) (iL (by rw[fh])),ag,
   pY 2 (lz ns ps ss wait fs (kQ [ο 0,ο 1]) (cF 2) none none none none none none none none none none) ([ς [],ς []]++p7) .ok kD ([ς [],ς []]++p7),ag,ag,ag,
   kS (sy false [kD] ([ς [],ς []]++p7)) (.ok kD ([ς [],ς []]++p7)) (iL (by rw[fh])),ag,
   B3 3 (lz ns ps ss wait fs (kQ [ο 0,ο 1]) (cF 2) none none none none none none none none none none) ([ς [],ς []]++p7) .ok wait ([ς [],ς []]++p7)]
  simp only[ag];rw[aOf,ag];rfl
 rw[Wi en (a3t ⟨ps,ss,Cs,wait⟩ ([ς [],ς []]++p7++bt C.aP 8 ps ss Cs wait) 14 G rfl) (ο 15) (X4 C.aP ⟨ps,ss,Cs,wait⟩)]
 ·rw[az bP en]
 clear ei aOf en;refine a0v a1B ?_;obtain⟨Y,hY⟩:∃Y:dK,Y=⟨ps,ss,Cs,wait⟩:=fR;rw[a3l];show Rn _ _ _ (q7 sM (lz ns ps ss wait fs (kQ [ο 0,ο 1]) (cF 2) (cF 8) (cF 15) none none none none none none none none)) _;rw[a3p,←hY]
 rw[gM a3H (ps=Y.ps) (iZ hY) aCC (ss=Y.ss) (iZ hY) a3I (wait=Y.wait) (iZ hY)]
 rw[←hY]at G;clear hY;subst a3H aCC a3I;show Rn _ _ _ (qa ns Y fs none none none none none none none none) _;rw[Cg s0 (JR C Y ((Rl 0++AW Y)++Rl 11) (F0 Y) (o_ Y) o0 8) ((start (C:=C) G).keep Ξ (kj UJ)) b0 (a3r (c:=C.aP) (Y:=Y))];generalize (Rl 0++AW Y)++Rl 11=Zn at s0 b0⊢;rw[HP n hn1 Ge (SK (N:=vf 38) (m:=31) aC) hi (o3 [(zA kJ [ak,(Θ 38)] (Θ 31))] (qa ns Y fs none none none none none none none none) Zn=.ok ((DZ).map (qy (k:Nat)),none) Zn) (OH (by
  rw[au,bP,vO [ak,(Θ 38)] (qa ns Y fs none none none none none none none none) Zn .ok [.cY ns,η 38] Zn,ag,hm ns 38 Zn,ag,bg,ag,Jr aC,hn1]))]
 rw[aaN [(zA kJ [ak,(Θ 38)] (Θ 31))] eO hi (qy (k:Nat)) (pI ((∃l6 jR sG sH sI q1 mT,ρ=qa ns Y fs l6 jR sG sH sI q1 mT none)/\∃B W o j,JR C Y M' B W o j/\NP C.aP Y M' o j)) DZ Zn hi ⟨⟨_,_,_,_,_,_,_,rfl⟩,_,_,_,_,s0,b0⟩]
 ·rintro pre k post hx ρ M ⟨⟨l6,jR,sG,sH,sI,q1,mT,rfl⟩,B,W,o,j,s,b⟩;obtain⟨hk,_⟩:=Jm hx;refine jh (aiL Y jR) ?_;rw[BE d hd1 ed (aCT Y G M B W o j ns (60+2*aY k) s) (rO (eh d) M)]
  ·rw[bP,aR,pY 0 (aiL Y jR) M .ok (.cY ns) M,ag,aR,au,bg,ag,au,bg,ag,B3 9 (aiL Y jR) M .ok k M,ag,a3g,ag,avI,ag,
    vO [(ae 8)] (aiL Y jR) M .ok [ο 7] M,ag,ag,ag,ed]
  show Body none _ _ (m7 _ _ (ajC Y) M);obtain⟨⟨w,i,x⟩,aOz,hpk⟩:=a0z hf hd1 (show k<31 by omega);rw[Lr Ds GD aOz.1 A8 yV aOz.2 (ad7 (eh (w,i,x)) (qa ns Y fs jG (aN (eh d)) w6 qw aX q1 mT none) M ?_ a3h fB)]
  ·rw[Cg e3 (Lo [(ae 10)] (ajC Y) M=.ok (ς [eh d]) M) (by
    rw[eD,vO [(ae 10)] (ajC Y) M .ok [eh d] M,ag]
    exact xR) yO hf.2]
   rw[au,au,pY 4 (ajC Y) M .ok (aeH fs) M,ag,au,e3,ag,bg,ag,En ((aj.int 40)=η (i_ 40)),aHn aC Ξ,ag,awt,Sq,iL (by rw[List.length_append,eH,List.length_replicate];omega),ag,
    B3 9 (ajC Y) M .ok k M,ag]
   exact C3 (by rw[←List.map_replicate,←List.map_append,eX,hpk];rfl)
  obtain⟨amG,NB,B',o',j',e1,e2,s2,keep⟩:=a0u (w:=w) (i:=i) (x:=x) G (hd Y G) (ha Y G) s Ds A8;rw[zh (Ω (l0 p9)) amG]
  ·rw[az bP e1]
  show Body none _ _ (m7 _ _ (qa ns Y fs jG (aN (eh d)) w6 qw aX (Hy (l0 p9)) mT none) amG);generalize p9=kd at e1 e2;generalize Dj Y W w i x=aeK at s2;have b2:NP C.aP Y NB o' j':=⟨kj ((keep _ (b.lt hi) (b.b3 i hi) (b.na i hi)).1.trans (b.at' i hi)),kj (keep _ (b.lt hi) (b.b3 i hi) (b.na i hi)).2.1,kj (keep _ (b.lt hi) (b.b3 i hi) (b.na i hi)).2.2⟩;rw[BB Zh e3 (TP Y G NB B' aeK o' j' s2) (atl (NB++Zh) Ad)]
  ·rw[yn,c_,au,bP,vO [jM,(ae 11),(ae 12),(ae 13)] (qa ns Y fs jG (aN (eh d)) w6 qw aX (Hy (l0 kd)) mT none) amG .ok [ο 0,Ω w.s,η i,η x] amG,ag,e2,ag,
    pY 14 (qa ns Y fs jG (aN (eh d)) w6 qw aX (Hy (l0 kd)) mT none) NB .ok (Ω (l0 kd)) NB,ag,aIB,ag]
   dsimp only;rw[ag,ash,Jp,kI,bP,vO [jM,(ae 8)] (qa ns Y fs jG (aN (eh d)) w6 qw aX (Hy (l0 kd)) mT none) NB .ok [ο 0,ο 7] NB,ag,e3,ag,adG,ag]
   rfl
  have s3:JR C Y (NB++Zh) B' aeK o' j':=s2.keep Ξ (kj UJ)
  rw[ff (a0y (a4C:=0) G s3 (J3 Y G) (R:=λy=>qa ns Y fs jG (aN (eh d)) w6 qw aX (Hy (l0 kd)) y none) (λy=>jh rfl (UM z)) (UM z) mT (dz y awp)) (lU ⟨⟨_,_,_,_,_,_,_,rfl⟩,B',aeK,o',j',s3.keep Ξ (kj UJ),(b2.app Zh).app awp⟩)]
 ·rintro ρ' M ⟨⟨l6,jR,sG,sH,sI,q1,mT,rfl⟩,B,W,o,j,s,b⟩;rw[cV aOq (s.w.ix (ρ:=CM aI) (d:=aG) rfl nP) (ag9 (ς ((Np W).map aj.int)) M)]
  ·have AG:Yi (cA [(Θ 0),Mt,(wm (Θ 5)),(Θ 5000)]) (qa ns Y fs l6 jR sG sH sI q1 mT none) M=.ok (([0,101,-5,5000]:eK).map aj.int,none) M:=rfl;rw[oR (xs:=([0,101,-5,5000]:eK)) (w:=none) (M':=M) aj.int (λx=>! aax) aj.int (k7 (ρ=[y,aI])) AG trivial rN (nH x) aC]
   ·exact iL (by rw[s5 qx])
   ·rw[rJ y hρ]
    refine Fp [aX,aI] fR ?_ Cv;have e4:=s.w.ix (ρ:=[aX,aI]) (d:=aG) rfl nP;rw[c_,au,B3 0 [aX,aI] M .ok x M,ag,e4,ag,aDF (neg:=true) s.w.j9 (k:=zl) rfl,ag,AL]
    cases dZ<;>rfl
  rw[O! (Rn _ _ _ (qa ns Y fs l6 jR sG sH sI q1 mT (V4 (Np W).map)) M) (atl M Ad)]
  ·rw[Jp,kI,a19 (bs:=(Np W).map zK) (M':=M)]
   ·rw[ag,adG,ag]
    congr 1
    rw[Bool.not_eq_false'];rw[List.all_eq_true];intro z hz;obtain⟨_,_,rfl⟩:=List.mem_map.mp hz;rfl
   refine aX4 aj.int zK (λρ=>∃z,ρ=[z,aD]) (w:=none) (ja rfl) trivial rN (QA x hx) (gX qx);rw[rJ z hρ]
   refine rC [aX,aD] fR ?_;rw[tw h1 h2 (List.mem_filter.mp hx) hn VS (by
    cases e:dZ with
    |none=>rfl
    |some _=>rw[e]at h2;cases h2)]
   rw[au,bP,vO [aG,(dj "where"),(Θ 0),ak] [aX,aD] M .ok [ο 0,O3,η 0,η x] M,ag,a35 Y G M B W o x s.aP (a45 x h1) hn,ag,bg,ag]
   exact aIB (neg:=false) (k:=cG)
  obtain⟨Zh,e3⟩:=TP Y G M B W o j s;rw[BB v1 v2 (a3m (b.app Zh).at') (HU (fT .ah) ((M++Zh).map λ_=>tM) (eP fR))];rw[aGr,bP,vO [jM,(ae 8)] (qa ns Y fs l6 jR sG sH sI q1 mT (V4 (Np W).map)) M .ok [ο 0,ο 7] M,ag,e3,ag]
  rw[ku gK];rw[f5 amd (if_pos v2) v1];rw[vH r1 (awP (l:=sJ) (ρ:=qa ns Y fs l6 jR sG sH sI q1 mT (V4 (Np W).map)) (i:=1) (x:=pF) rfl (FG Y4 _)) r2 (awP (l:=sJ) (ρ:=qa ns Y fs l6 jR sG sH sI q1 mT (V4 (Np W).map)) (i:=2) (x:=zI) rfl (FG Y5 _)) qU (awP (l:=sJ) (ρ:=qa ns Y fs l6 jR sG sH sI q1 mT (V4 (Np W).map)) (i:=3) (x:=Fs) rfl Ξ) auK (a0x (ρ:=qa ns Y fs l6 jR sG sH sI q1 mT (V4 (Np W).map)) (i:=7) rfl)];generalize q7 sJ (qa ns Y fs l6 jR sG sH sI q1 mT (V4 (Np W).map))=ρ2 at r1 r2 qU auK⊢;rw[zU awp e4 (TP Y G _ _ _ _ _ (start (C:=C) G)) en (hnw Y (Rl 0) G rfl)]
  have e5:ay aCJ [jL,(ay atP [aG,aH,bH])] ρ2 (Rl 0)=.ok (fT .ah) (Rl 0++AW Y++awp):=by
   rw[bP,aR,aT,auK];simp only[ag,aR,bM,bP,aT,r1,r2,qU];rw[V8 en];exact e4
  rw[e5]
universe zE
universe Sb
universe zE
section
namespace Rw
open PySem L2 Sb PySem.W
structure Top Z5(bj aEz fi eZ g6 j8 c! bl:Addr):Prop where
 aOT:Tt K mg "BadYard" bj
 aRx:Tt K mg "Held" fi
 aDb:Tt K mg "NotThere" eZ
 amF:Tt K mg "Red" g6
 aUh:mg "BadYard" = jF bj
 a0A:mg "Held" = jF fi
 aSX:mg "NotThere" = jF eZ
 a1K:mg "Red" = jF g6
 a5G:Catch K mg "BoxError" aEz [bj,eZ,fi,g6]
 aUi:Nx K (Δ bj) [h9 bj,Mj,Mk,Ml]
 aZ8:Nx K (Δ fi) [Mi,Mj,h9 fi,Ml]
 aSY:Nx K (Δ eZ) [Mi,h9 eZ,Mk,Ml]
 a1L:Nx K (Δ g6) [Mi,Mj,Mk,h9 g6]
 aRy:Nx K (aBc ee) [h9 bj,h9 eZ,h9 fi,h9 g6]
 a3E:awa bj eZ fi g6
 auG:M9 K j8 "near"
 aPs:M9 K j8 "until"
 aci:M9 K c! "ahead"
 akP:M9 K c! "is_out"
 eC:M9 K c! "steps"
 aC5:IV "falls"
 auv:IV "found"
 aCG:IV "greens"
 mM:IV "locks"
 ak1:IV "lying"
 atX:IV "pieces"
 akQ:IV "signals"
 aDa:IV "ticks"
 aCH:IV "trains"
 aD2:IV "wait"
 aRz:xG "ValueError"
 a1M:xG "all"
 a1N:xG "any"
 aIe:xG "bool"
 aPy:xG "enumerate"
 aIC:xG "int"
 Yl:xG "isinstance"
 a3J:xG "len"
 a4N:xG "list"
 a1O:xG "max"
 aID:xG "min"
 aO5:xG "range"
 aSZ:xG "reversed"
 aX7:xG "tuple"
 a5D:∃t:Tok,mg "LAST_JOINT" = rL η 999 t
 vi:∃t:Tok,mg "MOST_PIECES" = rL η 16 t
 a5m:∃t:Tok,mg "MOST_SIGNALS" = rL η 16 t
 aRZ:dh "joints_of" kb RP
 aR0:dh "pieces_at" Sj aq9
 aQu:dh "piece_beyond" X? aiN
 aR1:dh "is_border" lL aiN
 aRA:dh "joints_out" Sh asb
 aR2:dh "is_points" acA RP
 aUj:dh "lie_for" oI aCm
 aRB:dh "check_yard" acq Vx
 aQv:dh "check_pieces" ab3 ["pieces"]
 aQw:dh "check_joints" ab4 (afQ "joints")
 aP6:dh "check_signals" ip Vx
 aRC:ad2 K mg "Train" c! "Train.__init__" acr Ċ
 aPk:dh "pieces_under" R? ah0
 aWE:dh "turned" ac5 GZ
 aWF:dh "routes" ac6 Vx
 aFx:dh "ways_on" ali ["pieces","signals","way","joint","piece"]
 aR3:ad2 K mg "Yard" bl "Yard.__init__" ke asO
 aR4:SV K bl "time" "Yard.time" auA Ċ
 aQx:SV K bl "lock_of" "Yard.lock_of" aui RZ
 aP7:SV K bl "train_in" "Yard.train_in" lj RZ
 aR5:SV K bl "lies" "Yard.lies" auB RZ
 aP8:SV K bl "is_green" "Yard.is_green" ll aBp
 aRD:SV K bl "where" "Yard.where" auw aCk
 aR6:ad2 K mg "Fall" j8 "Fall.__init__" acB ["self","until","near"]
 aR7:agJ "set_route" acC
 aWG:agJ "cancel" ac7
 aZ9:dh "tick" adv ["yard"]
 aX8:aq8 "throw" adi
 aWH:KA "unlock" ac8 "steps"
 aR8:agJ "signal_of" ak3
 aWI:agJ "way_of" alu
 aQy:KA "is_at_border" akU "signal"
 aQz:KA "signal_ahead" ab5 "train"
 aRE:KA "train_near" acs "signal"
 aQA:asu "train_called" ab6
 aQR:agJ "check_route" ace
 aQS:aq8 "check_piece" acf
 aQC:aq8 "check_points" ab7
 aQD:KA "check_signal" ab8 "signal"
 aQE:dh "is_number_of" mi ["things","number"]
 a5H:aq8 "check_not_held" abV
 aX9:dh "enter" adj asy
 a3u:asu "go" Zo
 a0a:asu "draw" adw
 a0b:asu "turn" Y6
 aRF:dh "route_past" acu asy
 aQT:dh "pass_signal" acg aBZ
 aUk:KA "come_on" acM "train"
 aWJ:dh "_law_cell" acU agv
 aYa:dh "_law_mix" adk agv
 aS0:dh "_law_beyond" Sk aMG
 aS1:dh "_law_pieces" M3 aMM
 aR9:dh "_law_signals" acD aMR
 aWK:dh "_law_outs" YE ara
 aGk:dh "_law_ways" tI aNA
 aS2:dh "_law_routes" Sl aL3
 aYb:dh "_law_new" YN aMQ
 aRG:dh "_law_train_in" Si QD
 Ts:dh "_law_held" acV QD
 aWL:dh "_law_free" YF Kz
 aYc:dh "_law_set" YO Kz
 aWM:dh "_law_near" acW aql
 aS3:dh "_law_cancel" lr Kz
 aWN:dh "_law_tick" acX ["_law_world"]
 aUl:dh "_law_throw" acN QD
 aWO:dh "_law_pass" YG aMS
 aUm:dh "_law_enter" acO aNg
 a0c:dh "_law_go" adx À
 Tx:dh "_law_draw" acY À
 aWP:dh "_law_turn" So À
 aUn:dh "_law_there" acP agP
 TC:dh "_law_done" acZ agP
 aUo:dh "_law_asked" alc aMN
 aSa:dh "_law_refusal" acE ["_law_kept"]
 a0d:dh "_law_is" ady aBb
 aWp:dh "_law_same" Sp aMO
 aQF:dh "_law_near_deeds" Yb aql
 aWq:dh "_law_deed" ac0 aNt
section
variable {z:anj}{bj aEz fi eZ g6 j8 c! bl:Addr}(T:Top z.K z.mg bj aEz fi eZ g6 j8 c! bl)
include T
omit T in theorem aRH:cL RP RP kb:=bK
def aPt:aov (k+1) 1 (mQ):=Cy T.aRZ aRH (w! Ğ (d? (L1 (af 0))))
omit T in theorem aRI:cL aq9 aq9 Sj:=bK
omit T in theorem akR:jD ["number","piece","joint"]:=dN
def aPu an3:ew "pieces_at" (AE C0):=Cy T.aR0 aRI (PS (ç (ax Sj) aq9 ["number","piece","joint"] [none,none,u_]) (aGO (af 0) T.aPy) (zd (aO3 (cu akR).calm (v3 (asD 0 (cu akR).nd) (v3 (asD 1 (cu akR).nd) FH)))) (B6 (iT (nT (cu akR).hu) (af 2) (m6 Sd hr (cu akR).ie (b_ 1)))))
omit T in theorem aP9:cL ["pieces","number","joint","other"] aiN X?:=bK
def aPa aKw:aoy (k+1) 3 (R_ acz):=mG T.aQu aP9 (aaa (E3 akX) (Wl K? (af 3) (af 1) (gn (af 3)))) (KJ dE)
omit T in theorem aRJ:cL aiN aiN lL:=bK
def aRK ayK:apT (k+1) (aur MX):=Cy T.aR1 aRJ (kl FI (Rd abU (b_ 2)) dE)
omit T in theorem aQU:cL asb asb Sh:=bK
omit T in theorem aPb:jD ["other","joint"]:=dN
def aQV an3:ew "joints_out" (ab9 C0):=mG T.aRA aQU (HO (eU 0) d9 (gn (PS (aaC (ax Sh) asb ["other","joint"]) (lY (Wk Sd 0)) (jK (cu aPb).nd) (B6 (IM (Yv (cu aPb).hu)))))) (G6 (HO (af 1) (eU 0) (gn (xj (eU 0) (u7 0)))) (RA (u7 0)))
omit T in theorem aRL:cL RP RP acA:=bK
def aRM:apP (k+1) 1 (aus):=Cy T.aR2 aRL (kl (cf G.hu) (eU 0) d9)
omit T in theorem aS4:cL aCm aCm oI:=bK
def aSM(acG:apP k 1 Yp):ew "lie_for" (auC Yp):=mG T.aUj aS4 (Ei (km (gD (Wk acG 0)) (yt (iT (nT G.hu) (eU 0) (L1 (af 1))))) pH) pH
omit T in theorem aQW:cL Vx Vx acq:=bK
def aQX(aDq:aAQ k 1 aDt)(aDk:ez "check_signals" aDf):ew "check_yard" (acd aDt aDf):=Rq T.aRB aQW (Wk aDq 0) (ati aDk)
omit T in theorem aQa:cL (afQ "piece") ["pieces"] ab3:=bK
def aQb(aDr:ez "check_joints" pf)an3:aAQ (k+1) 1 (X6 bj pf C0):=mG T.aQv aQa (HO (xK 0) bW (i8 (aU7 T.aOT hr (eN d9 sY)))) (xC (vK SR (xK 0) aL9 (Rp (i! (yk aL9 (i! ue))))) (Û (af 0) (gj 1) (vt (Cx aDr (Wk Sd 1)))))
omit T in theorem Ap:cL ["pieces","joints","joint"] (afQ "joints") ab4:=bK
def aQc aKw:ew "check_joints" (X7 bj acz):=KH T.aQw Ap (Û (af 1) (gj 2) (lN (Ei (YW (iT adD (af 2) bW) (C7 (iT SR (af 2) aLC))) (Rp (i! (W6 (i! (yk aLC ue)))))) (vK SR (azK (aEq G.hu) (af 1) (b_ 2)) bW (Rp (i! (W6 (i! ue))))) (Wl SR (Ve (d? (E3 akX))) bW (Rp (i! (W6 ue))))))
omit T in theorem a5I:cL ["pieces","signals","joint","number"] Vx ip:=bK
def a5J an3:ew "check_signals" (X_ bj C0):=Ń T.aP6 a5I SR (xK 1) aLD (Rp (i! (yk aLD (i! ue)))) (Û (af 1) (Hh (v3 (gj 2) (Mb FH))) (Þ SR (azK (aEq G.hu) (af 1) (Qp (eN (af 2) (b_ 3)))) bW (Rp (i! (W6 (i! (yk (af 3) ue))))) (Ei (YW (iT adD (af 3) bW) (C7 (iT QR (af 3) (xK 0)))) (Rp (i! (yk (af 3) (i! ue))))) (Wl (YQ G.hu) (af 2) (m6 Sd hr G.ie (d? (vD 0 (af 3)))) (Rp (i! (yk (af 3) (i! (W6 ue))))))))
omit T in theorem aQY:cL Ċ Ċ acr:=bK
def aQZ:In z (k+1) "Train" c! 1 (auj c!):=sN.go T.aRC aQY λ_ _ _ _ _ _ _ hr G=>(lN (tS T.eC H!) (tS T.aci H!) (i8 (tS T.akP mm)))
omit T in theorem aPc:cL ah0 ah0 R?:=bK
omit T in theorem atZ:jD GZ:=dN
def aQd:ò (k+1) 1 (at6 c!):=Cy T.aPk aPc (O9 (IH (ax R?) ah0 GZ) (lY (pP T.eC)) (jK (cu atZ).nd) (aaf (cu atZ).hu bW))
def a5K:ò (k+1) 1 (R! c!):=Cy T.aPk aPc (X9 true (IH (ax R?) ah0 GZ) G.calm (lY (pP T.eC)) (jK (cu atZ).nd) (j5 _ M1) (aaf (cu atZ).hu bW))
omit T in theorem aUp:cL GZ GZ ac5:=bK
def OK:lV (k+1) "turned" 1 (auO):=Cy T.aWE aUp (mR (Pp (eU 0) (eU 0) (u7 0)))
omit T in theorem aUq:cL ["pieces","signals","told","number","signal","way"] Vx ac6:=bK
def aUr(aDG:ez "check_yard" aDz)(aEA:apG k 5 Yy):ew "routes" (ph aDz Yy):=Rq T.aWF aUq (jI aDG) (ahv 2 H! (Fd (aGO (af 1) T.aPy) (Hh (Mb (v3 (gj 4) FH))) (Û (Rd aEA (Pp Fv (eU 4) (u7 4))) (gj 5) (Ou (af 2) (Qp (Ir (af 3) 5))))) (adE (af 2)))
omit T in theorem aE4:cL ["pieces","signals","way","joint","piece","found","out","longer","beyond"] ["pieces","signals","way","joint","piece"] ali:=bK
omit T in theorem aPv:jD GZ:=dN
def aSN(aRN:ez "joints_out" aDA)ayK(aEA:apG k 5 Yy):apG (k+1) 5 (aDP aDA MX Yy):=Ń T.aFx aE4 (nT G.hu) (af 4) (O9 (IH (ax ali) ["pieces","signals","way","joint","piece","found","out","longer","beyond"] GZ) (lY (af 2)) (jK (cu aPv).nd) (aaf (cu aPv).hu bW)) (gn Fv) (ahv 5 H! (ţ (Ry aRN (vD 0 (af 4)) 3) (gj 6) (tN 7 (pZ (af 2) (ahe (aif (af 4) (af 3) 6))) 8 (HL abU (af 4) (b_ 6)) (xF (aaM (iT FI (af 8) dE) (C7 (iT (nT G.hu) (mR (Ir (af 6) 8)) (af 1)))) (Ou (af 5) (b_ 7)) (vt (acJ PySem.F.slot_list_extend PySem.F.type_list_extend aSq (af 5) (d? (Rd aEA (aif (af 7) (af 6) 8)))))))) (adE (af 5)))
omit T in theorem aRO:cL asO asO ke:=bK
omit T in theorem aQG:jD RP:=dN
def aRP(avQ:ez "routes" avv):In z (k+1) "Yard" bl 4 (akO bl avv):=sN.go T.aR3 aRO λ_ _ _ _ _ _ _ hr G=>(LK (tS T.auv (m6 avQ hr G.ie (eN (af 1) (b_ 2)))) (tS T.atX (w! Ğ (b_ 1))) (tS T.akQ (w! Ğ (b_ 2))) (tS T.aD2 (af 3)) (LK (tS T.aDa bW) (tS T.mM adm) (tS T.ak1 (X9 true (IH (ax ke) asO RP) G.calm (lY (af 1)) (jK (cu aQG).nd) (j5 _ M1) (j5 _ d9))) (tS T.aCG adm) (xC (tS T.aC5 adm) (i8 (tS T.aCH adm)))))
omit T in theorem aRQ:cL Ċ Ċ auA:=bK
def aRR:wI z (k+1) bl "time" 1 (aDy bl):=ğ T.aR4 aRQ _ _ _ _ _ _ _ hr G (gn asU)
omit T in theorem aQe:cL RZ RZ aui:=bK
def aQf(MY:aAg FA):wI z (k+1) bl "lock_of" 2 (at7 bl FA):=ğ T.aQx aQe _ _ _ _ _ _ _ hr G (G6 (yg (jI MY)) (aGd G.hu asV (af 1)))
omit T in theorem a5L:cL ["self","piece","name","train"] RZ lj:=bK
def a5M(MY:aAg FA)(akS:ò k 1 Yc):ap4 z (k+1) 2 (akI bl FA Yc):=ğ T.aP7 a5L _ _ _ _ _ _ _ hr G (lN (yg (jI MY)) (SI (Fd (avt ŷ) (Hh (v3 (gj 2) (Mb FH))) (Wl (nT G.hu) (af 1) (Wk akS 3) (gn (af 2))))) (KJ dE))
omit T in theorem aRh:cL RZ RZ auB:=bK
def aRi aJP:wI z (k+1) bl "lies" 2 (aum bl hE):=ğ T.aR5 aRh _ _ _ _ _ _ _ hr G (G6 (yg (jI akM)) (OY T.ak1))
omit T in theorem a5N:cL aBp aBp ll:=bK
def a5O(acm:ez "check_signal" hJ):wI z (k+1) bl "is_green" 2 (atY bl hJ):=ğ T.aP8 a5N _ _ _ _ _ _ _ hr G (G6 (yg (jI acm)) (kl (nT G.hu) (af 1) ų))
omit T in theorem aQH:cL aCk aCk auw:=bK
def aQI(akS:ò k 1 Yc)aop:age z (k+1) 2 (Sa Yc CY):=ğ T.aRD aQH _ _ _ _ _ _ _ hr G (gn (m6 akS hr G.ie (d? (jI MW))))
omit T in theorem aRj:cL ["self","until","near"] ["self","until","near"] acB:=bK
def aRk:In z (k+1) "Fall" j8 3 (nz j8):=sN.go T.aR6 aRj λ_ _ _ _ _ _ _ hr G=>(xC (tS T.aPs (af 1)) (i8 (tS T.auG (af 2))))
omit T in theorem aRl:xw ["yard","route","way","step"] "route" (ax acC):=bK
def aRm(acj:ez "check_route" Yg)(C4:aBn v9)(abW:aL0 X8)(aEB:ez "lie_for" aEE)(fx:az7 v5):ew "set_route" (ach bl Yg v9 X8 aEE v5):=Rq T.aR7 aRl (jI acj) (oz 2 (jI C4) (lN (aaa (af 2) (vt (m6 abW hr G.ie (zP (u7 3))))) (aaa (af 2) (xC (df G.hu asV (eU 3) (af 1)) (Hl (pP T.ak1) (eU 3) (Ry aEB (KO (pP T.atX) (eU 3)) 3)))) (Hl ų (jI fx) (af 1))))
omit T in theorem aUs:xw ["yard","route","signal","near"] "route" (ax ac7):=bK
def aUt(acj:Bx (k+1) "check_route" Yg)(fx:Bx (k+1) "signal_of" v5)(aDH:Bx (k+1) "train_near" aDB)aKi(aSv:In z k "Fall" j8 3 aDQ)(C5:Bx (k+1) "unlock" v_)(C4:Bx (k+1) "way_of" v9):Bx (k+2) "cancel" (Yr j8 eZ bl Yg v5 aDB Jg aDQ v_ v9):=Rq T.aWG aUs (jI acj) (oz 2 (jI fx) (Þ K? (aGd G.hu ų (af 2)) (af 1) (i8 (MV T.aDb hr (i! (yk (af 1) ue)))) (yg (aat ų (af 2))) (oz 3 (E3 aDH) (xF (aiA (iT SR (pP T.aD2) bW) (yt (aaM (iT alI (af 3) dE) (C7 (gD (E3 fo)))))) (Hl ŵ (af 1) (awo aSv hr G.ie (eN (pZ asU (pP T.aD2)) (b_ 3)))) (vt (Cx C5 (jI C4)))))))
omit T in theorem aYd:cL (UL "route") ["yard"] adv:=bK
def aYe(C5:aBm v_)(C4:aBn v9):lV (k+1) "tick" 1 (au8 j8 bl v_ v9):=mG T.aZ9 aYd (tS T.aDa (tB (R8 false) asU)) (Û (w! ahi (d? ŵ)) (gj 1) (Ú (R7 T.aPs (OY T.aC5)) asU (Ą (aat ŵ (af 1)) (vt (Cx C5 (jI C4))))))
omit T in theorem TK:aqF (ax adi):=bK
def aWr aJP(abW:aL0 X8):ew "throw" (acR bl hE X8):=Rq T.aX8 TK (jI akM) (Ą (jI abW) (Hl (pP T.ak1) (af 1) (Nj (Lv (OY T.ak1) d9) d9 d9)))
omit T in theorem aUu:xw (aaS "steps" "step") "steps" (ax ac8):=bK
def aUv:ew "unlock" (Ys bl):=KH T.aWH aUu (Û (af 1) (gj 2) (vt (aat asV oH)))
omit T in theorem aRn:aB1 (ax ak3):=bK
def aRo:ew "signal_of" (la bl):=Cy T.aR8 aRn (CA (OY T.auv))
omit T in theorem aUw:aB1 (ax alu):=bK
def aUx:ew "way_of" (pj bl):=Cy T.aWI aUw (CA (OY T.auv))
omit T in theorem aQg:xw (aaS "signal" "place") "signal" (ax akU):=bK
def aQh(acH:apT k Yq):ew "is_at_border" (akG bl Yq):=zZ T.aQy aQg (OY T.akQ) (gn (B7 acH asT oH (u7 2)))
omit T in theorem aQi:xw ["yard","train","head","place"] "train" (ax ab5):=bK
def aQj ayK:ew "signal_ahead" (at8 c! bl MX):=zZ T.aQz aQi (CA (R7 T.eC (af 1))) (ahu 3 (mR (vY oH (d? (B7 abU asT oH (u7 2))))) (vK (nT G.hu) (af 3) (pP T.akQ) (gn (azL (aEr G.hu) (pP T.akQ) (b_ 3)))) (KJ dE))
omit T in theorem aQJ:xw ["yard","signal","name","train"] "signal" (ax acs):=bK
def aQK aJQ:ew "train_near" (mx bl hG):=mG T.aRE aQJ (SI (Fd (avt ŷ) (Hh (v3 (gj 2) (Mb FH))) (Ú (Ð akN 3) (af 1) (gn (af 2))))) (KJ dE)
omit T in theorem aQk:xw (UL "name") "name" (ax ab6):=bK
def aPP:ew "train_called" (akH eZ bl):=Ń T.aQA aQk (YQ G.hu) (af 1) ŷ ajz (gn (OY T.aCH))
omit T in theorem aQm:aB1 (ax ace):=bK
def aQn(M0:aAS Fy):ew "check_route" (aDg eZ bl Fy):=KH T.aQR aQm (ahr (gD (Ry M0 (pP T.auv) 1)) ajz)
omit T in theorem aQo:aqF (ax acf):=bK
def aQp(M0:aAS Fy):ew "check_piece" (aDh eZ bl Fy):=KH T.aQS aQo (ahr (gD (Ry M0 asT 1)) ajz)
omit T in theorem aPQ:aqF (ax ab7):=bK
def aPR(MY:aAg FA)(acG:apP k 1 Yp):ew "check_points" (at9 eZ bl FA Yp):=Rq T.aQC aPQ (jI MY) (ahr (gD (m6 acG hr G.ie (d? (OY T.atX)))) ajz)
omit T in theorem aPS:xw (UL "signal") "signal" (ax ab8):=bK
def aPT(M0:aAS Fy):ew "check_signal" (m3 eZ bl Fy):=KH T.aQD aPS (ahr (gD (Ry M0 (pP T.akQ) 1)) ajz)
omit T in theorem aPU:cL ["things","number"] ["things","number"] mi:=bK
def aPV:ew "is_number_of" dn:=Cy T.aQE aPU (awE (kl QR (af 1) bW) (adX (kl adD (af 1) (xK 0))))
omit T in theorem a5E:aqF (ax abV):=bK
def a5z(aDl:ap4 z k 2 Yd):ew "check_not_held" (at5 fi bl Yd):=Ń T.a5H a5E (nT G.hu) (af 1) asV asH (Wl alI (aba aDl hr (b_ 1)) dE asH)
omit T in theorem aWs:cL ["yard","name","signal","route","train"] asy adj:=bK
def aWt(acm:Bx (k+1) "check_signal" hJ)aKi(acw:aqs (k+1) Yo)(aRp:In z k "Train" c! 1 aDC)(ack:aqm (k+1) Yh):D9 (k+2) "enter" (au1 fi eZ c! bl hJ Jg Yo aDC Yh):=Rq T.aX9 aWs (E3 acm) (lN (U' (gD (E3 fo)) (i8 (MV T.aDb hr (i! (W6 (i! ue)))))) (vK (nT G.hu) (af 1) ŷ asH) (tN 3 (Rd acw (b_ 2)) 4 (aU8 aRp hr G.ie) (Ą (HL ack (af 4) (b_ 3)) (Hl ŷ (af 1) (af 4)))))
omit T in theorem a1P:xw ["yard","name","train","head"] "name" (ax Zo):=bK
def a1Q aop(oT:ez "come_on" m4)(acH:apT k Yq)(ack:aqm k Yh)(acw:aqs k Yo)aJQ:ew "go" (FC g6 c! bl CY m4 Yq Yh Yo hG):=zZ T.a3u a1P (jI MW) (ahu 3 (CA aiE) (Rm (aaR T.akP) (i8 (MV T.amF hr (i! (yk (af 1) (i! ue)))))) (xF (gD (aaR T.aci)) (vt (E3 oT)) (xF (gD (B7 acH asT (eU 3) (u7 3))) (i8 (abT T.akP (af 2) mm)) (vt (HL ack (af 2) (d? (Rd acw (d? (E3 akN)))))))))
omit T in theorem aYf:xw (aaS "name" "train") "name" (ax adw):=bK
def aYg aop:ew "draw" (au9 fi c! bl CY):=zZ T.a0a aYf (jI MW) (lN (Ei (km (WL (Ve (d? aiE))) (yt (aco (gD (aaR T.akP))))) asH) (yg (aGA PySem.F.slot_list_pop PySem.F.type_list_pop aWS aiE)) (Ú (Ve (d? aiE)) bW (vt (aat ŷ (af 1)))))
omit T in theorem aYh:xw ["yard","name","train","fall"] "name" (ax Y6):=bK
omit T in theorem aFy:jD GZ:=dN
def aYi aop(C5:aBm v_)(avJ:lV k "turned" 1 avw):ew "turn" (ava j8 g6 c! bl CY v_ avw):=zZ T.a0b aYh (jI MW) (LK (Rm (aaR T.akP) (i8 (MV T.amF hr (i! (yk (af 1) (i! ue)))))) (yg (Cx C5 (aaR T.aci))) (abT T.aci (af 2) H!) (abT T.eC (af 2) (X9 true (IH (ax Y6) ["yard","name","train","fall"] GZ) G.calm (aZP aiE T.aSZ) (jK (cu aFy).nd) (j5 _ M1) (zd (m6 avJ hr (cu aFy).ie (b_ 0))))) (i8 (SI (Fd (aXT ŵ) (gj 3) (Ú (R7 T.auG (af 3)) (af 1) (i8 (abT T.auG (af 3) dE)))))))
omit T in theorem aQL:cL ["yard","name","signal","route","fall"] asy acu:=bK
def aQM(fo:ez "is_at_border" Jg)(fx:az7 v5):aqs (k+1) (ab2 j8 g6 bl Jg v5):=Ń T.aRF aQL FI (af 2) dE (i8 (MV T.amF hr (i! (yk (af 1) ue)))) (Þ (nT G.hu) (af 2) ų (gn (KO (pP T.aCG) (af 2))) (SI (Fd (avt ŵ) (Hh (Mb (v3 (gj 4) FH))) (ahq (km (Lv (Ð fx 3) (af 2)) (yt (aaM (Lv (R7 T.auG (af 4)) (af 1)) (C7 (gD (E3 fo)))))) (gn (af 3))))) (i8 (MV T.amF hr (i! (yk (af 1) (i! (W6 ue)))))))
omit T in theorem aQq:cL aBZ aBZ acg:=bK
def aQr(fx:az7 v5)(C4:aBn v9)(oT:ez "come_on" m4):aqm (k+1) (lp c! bl v5 v9 m4):=Rq T.aQT aQq (avr G.hu ų (E3 fx) dE) (lN (yg (avr G.hu ŵ (af 2) dE)) (abT T.aci (af 1) (w! (at4 true) (d? (E3 C4)))) (ati oT))
omit T in theorem aSO:xw (aaS "train" "step") "train" (ax acM):=bK
def aSP(C5:aBm v_):ew "come_on" (auD c! v_):=zZ T.aUk aSO (acJ PySem.F.slot_list_pop PySem.F.type_list_pop aTP (R7 T.aci (af 1)) (eN bW sY)) (Ą (Cx C5 (afT (b_ 2))) (vt (acJ PySem.F.slot_list_insert PySem.F.type_list_insert aSd (R7 T.eC (af 1)) (pK (b_ 2)))))
omit T in theorem aUy:cL agv agv acU:=bK
def aUz:ew "_law_cell" auP:=mG T.aWJ aUy (Rm (af 0) (gn (vD 0 (t7 yh (af 1) (xK 0))))) (KJ bW)
omit T in theorem aWv:cL ["_law_script","_law_k","_law_number"] agv adk:=bK
def aWw(avK:ez "_law_cell" avx):ew "_law_mix" (au2 avx):=zZ T.aYa aWv (Pc (XK (jI avK) bW aae)) (oz 2 (Pc (tB (mn false) (af 2))) (gn (Pc (t7 (R8 false) (tB (mn false) (tB aC7 (af 2))) (af 2)))))
omit T in theorem aSw:cL aMI aMG Sk:=bK
omit T in theorem aun:jD ["_law_k","_law_at","_law_joint","_law_pieces_here"]:=dN
def aPz:atE (k+1) 3 (aut):=mG T.aS0 aSw (aa9 3 (ç (ax Sk) aMI ["_law_k","_law_at","_law_joint","_law_pieces_here"] [none,u_,some 2,some 0]) (aOW T.aO5 (arC 0)) (jK (cu aun).nd) (B6 (aiA (IM (Yv (cu aun).hu)) (yt (iT (nT (cu aun).hu) (af 2) (L1 (uL (cu aun).hu (af 3) (af 0))))))) (j5 _ (af 0))) (gn (Nj (gD (af 3)) (eU 3) dE))
omit T in theorem aSx:cL aqN aMM M3:=bK
omit T in theorem aPl:jD apV:=dN
omit T in theorem aPm:jD aNr:=dN
omit T in theorem aPn:jD apV:=dN
def aSy(nR:aBH lg):ew "_law_pieces" (auu lg):=zZ T.aS1 aSx H! (oz 3 Fv (lN (ba 4 G.nd bW) (VZ (arD bW (Pc (jI nR))) (gj 5) (tN 6 (Cx nR (pZ aae (af 5))) 7 H! (xC (VZ (arD bW (atJ Bz T.aIC aGR (d? (kl adD (as8 6) bW)))) (gj 8) (ahu 9 (Cx nR (pZ (XK aae bW (af 5)) (af 8))) (aa9 10 (RX (ax M3) aqN apV 7) (lY (af 3)) (jK (cu aPl).nd) (B6 (IM (YQ (cu aPl).hu))) (j5 _ (af 0))) (xF (aiA (gD (af 10)) (yt (iT adD (as8 9) (La (pK ajk) (af 8))))) (Ou (af 7) (d? (vD 10 (t7 yh (tB aC7 (af 9)) (abP (aFL G.calm) T.aID aGQ (pK (arC 10))))))) (Ą (aLc aOS (af 7) (d? (Pc (XK (Cx nR aae) bW (af 4))))) (Wm 4 (tB (R8 false) (af 4))))))) (oz 3 (pZ (PS (RX (ax M3) aqN aNr 3) (lY (af 7)) (jK (cu aPm).nd) (B6 (IM (YQ (cu aPm).hu)))) (PS (RX (ax M3) aqN apV 7) (lY (af 3)) (jK (cu aPn).nd) (B6 (IM (YQ (cu aPn).hu))))) (Ou (af 2) (arD (mR (d? (La (ahF d9) (tB aWQ (xK 7))))) (atJ Hm T.aX7 aTD (b_ 7)))))))) (gn (adE (af 2)))))
omit T in theorem aRq:cL ["_law_script","_law_base","_law_pieces_here","_law_found","_law_at","_law_joint","_law_number","_law_border","_law_shift"] aMR acD:=bK
def aRr(nR:aBH lg)ZJ:aAT (k+1) (auk lg qM):=ü T.aR9 aRq 3 H! (xC (VZ (arC 2) (gj 4) (i8 (Fd (awF (L1 (vD 2 (af 4)))) (gj 5) (tN 6 (Cx nR (pZ (XK (af 1) bW (af 4)) (xK 3))) 7 (kl FI (B7 C1 (af 2) (af 4) (b_ 5)) dE) (ahq (YW (WL (as8 6)) (C7 (aiA (gD (af 7)) (yt (WL (as8 6)))))) (Ou (af 3) (Qp (Ir (af 5) 4)))))))) (oz 8 (t7 yh (Cx nR aae) (pZ bW (xK 3))) (gn (Xa (pZ (aDe false (af 3) (hZ (af 8)) aC4) (Xa (af 3) (hZ (af 8)))) (hZ bW)))))
omit T in theorem aUA:cL ara ara YE:=bK
omit T in theorem aPA:jD aNp:=dN
def aUB:ew "_law_outs" auQ:=mG T.aWK aUA (HO (eU 0) d9 (gn (PS (aaC (ax YE) ara aNp) (awF (L1 (af 0))) (jK (cu aPA).nd) (B6 (IM (Yv (cu aPA).hu)))))) (gn (Nj (Lv (af 1) (eU 0)) (xj (eU 0) (u7 0)) (RA (u7 0))))
omit T in theorem aFf:cL aNB aNA tI:=bK
omit T in theorem aPB:jD QC:=dN
def aUC(aWx:ez "_law_outs" avy)ZJ(avL:apQ k 5 YK):apQ (k+1) 5 (aD3 avy qM YK):=ü T.aGk aFf 5 H! (Þ (nT G.hu) (af 3) (O9 (IH (ax tI) aNB QC) (lY (af 2)) (jK (cu aPB).nd) (aaf (cu aPB).hu bW)) (gn (adE (af 5))) (ţ (Ry aWx (vD 0 (af 3)) 4) (gj 6) (tN 7 (pZ (af 2) (ahe (aif (af 3) (af 4) 6))) 8 (HL C1 (af 3) (b_ 6)) (xF (aaM (iT FI (af 8) dE) (C7 (iT (nT G.hu) (mR (Ir (af 6) 8)) (af 1)))) (Ou (af 5) (b_ 7)) (Wm 5 (t7 (R8 true) (af 5) (Rd avL (aif (af 7) (af 8) 6))))))) (gn (adE (af 5))))
omit T in theorem aSz:cL ["_law_pieces_here","_law_signals_here","_law_found","_law_k"] aL3 Sl:=bK
omit T in theorem aQN:jD ["_law_way","_law_k"]:=dN
def aSA(avL:apQ k 5 YK):ew "_law_routes" (aDD YK):=zZ T.aS2 aSz Fv (G6 (VZ (arC 1) (gj 3) (Wm 2 (pZ (af 2) (O9 (RX (ax Sl) ["_law_pieces_here","_law_signals_here","_law_found","_law_k"] ["_law_way","_law_k"] 3) (lY (Rd avL (Pp Fv (CA (vD 1 (af 3))) (d? (CA (vD 1 (af 3))))))) (jK (cu aQN).nd) (zd (mR (Ir (af 1) 0))))))) (af 2))
omit T in theorem aWy:cL aMT aMQ YN:=bK
omit T in theorem aEd:jD ["_law_piece"]:=dN
def aWz(aEe:ez "_law_routes" aD4):aBI (k+1) (acS aD4):=mG T.aYb aWy (aOV true 3 (IH (ax YN) aMT ["_law_piece"]) G.calm G.nd (lY (af 0)) (jK (cu aEd).nd) (j5 _ M1) (zd (Nj (iT (cf (cu aEd).hu) (uL (cu aEd).hu (af 0) bW) d9) d9 dE)) bU) (oz 4 (aml (yu (af 0) (yu (af 1) (yu (af 2) (yu (af 3) (yu Fv (yu bW amk))))))) (LK (ajH (jI aEe)) (ajH (t7 (mn true) (RA (eN dE sY)) (xK 0))) (ajH adm) (ajH adm) (gn (af 4))))
omit T in theorem aQO:cL aMF QD Si:=bK
omit T in theorem a3O:jD aBr:=dN
omit T in theorem aPd:jD QC:=dN
def aQ5:ew "_law_train_in" my:=mG T.aRG aQO (SI (aa9 2 (ç (ax Si) aMF aBr [none,u_,some 0]) (alZ (eT 0)) (jK (OO).nd) (B6 (iT (nT (OO).hu) (af 1) (X9 false (akl.of (sc:=(awH _ (ax Si))) aBr QC pS rfl (aTC Cv rfl) dN) (OO).calm (lY (uL (OO).hu (uL (OO).hu (uL (OO).hu (af 2) d9) (af 0)) bW)) (jK (ayT (OO).ie aPd).nd) (j5 _ M1) (aaf (ayT (OO).ie aPd).hu bW)))) (j5 _ (af 0)))) (gn (Nj (gD (af 2)) oH dE))
omit T in theorem aUD:cL QD QD acV:=bK
def aUE aJK:ew "_law_held" (auR acn):=Cy T.Ts aUD (aIJ (kl alI (VP 0) dE) (adX (kl alI (jI akT) dE)))
omit T in theorem aT6:cL Kz Kz YF:=bK
omit T in theorem aPC:jD ["_law_lock","_law_route"]:=dN
def aT7:ew "_law_free" auJ:=KH T.aWL aT6 (Hl (af 0) d9 (X9 true (aaC (ax YF) Kz ["_law_lock","_law_route"]) G.calm (lY (eT 0)) (jK (cu aPC).nd) (j5 _ M1) (zd (Nj (IM (cf (cu aPC).hu)) dE (af 0)))))
omit T in theorem aWA:cL aM3 Kz YO:=bK
omit T in theorem aEf:jD aMP:=dN
def aWB aKx:ew "_law_set" (ald pv):=zZ T.aYc aWA (ajj 0) (lN (Rm (abP (aTI G.calm) T.a1N aXK (d? (O9 (RX (ax YO) aM3 aMP 0) (lY (af 2)) (jK (cu aEf).nd) (zd (m6 alm hr (cu aEf).ie (vY (af 1) (d? (uL (cu aEf).hu (af 0) bW)))))))) pH) (aaa (af 2) (xC (df G.hu (eT 0) (eU 3) (af 1)) (oz 4 (Ec 0 (eU 3)) (Ú (eU 4) d9 (Hl (eT 0) (eU 3) (La (ahF d9) (atJ Bz T.aIC aGR (d? (kl (nT G.hu) (eU 4) (L1 (af 3))))))))))) (VT (df G.hu (af 0) d9 (pZ (eT 0) (RA (b_ 1))))))
omit T in theorem aT8:cL ["_law_world","_law_signal","_law_joint","_law_at","_law_found","_law_name","_law_train","_law_head"] aql acW:=bK
def aT9:ew "_law_near" auL:=mG T.aWM aT8 (adR (VP 0) (Hh (v3 (gj 2) (Mb FH)))) (ahv 4 H! (SI (Fd (alZ (eT 0)) (gj 5) (tN 6 (Ec 0 (af 5)) 7 (CA (eU 6)) (ahq (km (Lv (eU 6) Fv) (km (aco (gD (eU 6))) (km (Lv (eU 7) (af 2)) (yt (iT K? (eU 7) (af 3)))))) (Ou (af 4) (b_ 5)))))) (adE (af 4)))
omit T in theorem aSB:cL aNz Kz lr:=bK
omit T in theorem aPo:jD aqr:=dN
def aSC aKy ZJ aKz:ew "_law_cancel" (acv pw qM pz):=Ń T.aS3 aSB (YQ G.hu) (af 1) (eT 0) pH (lN (df G.hu (af 0) d9 (PS (aaC (ax lr) aNz aqr) (lY (eT 0)) (jK (cu aPo).nd) (B6 (IM (Yv (cu aPo).hu))))) (adR (Ec 0 (ajj 0)) (Hh (v3 (gj 2) (Mb FH)))) (tN 4 (Cx aln (ajj 0)) 5 (kl FI (B7 C1 (eT 0) (af 3) (b_ 2)) dE) (VT (abR (aiA (iT SR (eT 0) bW) (yt (aaM (gD (af 4)) (C7 (gD (af 5)))))) (Hl (eT 0) (af 1) (mR (aif (t7 (R8 false) (eT 0) (eT 0)) (af 4) 5))) (ati rn)))))
omit T in theorem aUa:cL Kz ["_law_world"] acX:=bK
def aUb aKz:az5 (k+1) 1 (auU pz):=mG T.aWN aUa (df G.hu (af 0) d9 (tB (R8 false) (eT 0))) (VT (ţ (w! ahi (Ô 0)) (gj 1) (Wl QQ (ajj 0) (eT 0) (Ą (aat (eT 0) (af 1)) (ati rn)))))
omit T in theorem aSQ:cL QD QD acN:=bK
def aSR aKx:ew "_law_throw" (acF pv):=mG T.aUl aSQ (HO (ajj 0) d9 pH) (lN (Rm (jI alm) pH) (Xh (KO (aml (yu d9 (yu d9 amk))) (VP 0))) pH)
omit T in theorem aUc:cL aMU aMS YG:=bK
omit T in theorem aPD:jD aqr:=dN
def aUd:apU (k+1) (ak8):=mG T.aWO aUc (aaa (pZ (eT 0) (w! ahi (Ô 0))) (Ú (æ 0 (af 3)) (af 1) (oz 4 (avq G.hu (eT 0) (af 3) (mR (pK (abp (afT (b_ 2)))))) (ahq (YW (gD (eU 4)) (C7 (iT (nT G.hu) (af 2) (eU 4)))) (lN (df G.hu (af 0) d9 (PS (RX (ax YG) aMU aqr 3) (lY (eT 0)) (jK (cu aPD).nd) (B6 (IM (Yv (cu aPD).hu))))) (yg (avr G.hu (eT 0) (af 3) dE)) (ahv 5 (w! Ğ (d? (æ 0 (af 3)))) (df G.hu (eT 0) (CA (eU 5)) dE) (af 5))))))) (KJ dE)
omit T in theorem aSS:cL ["_law_world","_law_name","_law_signal","_law_joint","_law_at","_law_way"] aNg acO:=bK
def aST ZJ(adb:apU k YH):aAs (k+1) (auy qM YH):=mG T.aUm aSS (adR (Ec 0 (af 2)) (Hh (Mb (v3 (gj 4) FH)))) (Þ alI (B7 C1 (eT 0) (af 4) (b_ 3)) dE pH (vK (nT G.hu) (af 1) (eT 0) pH) (oz 5 (HL adb (af 2) (b_ 1)) (Þ FI (af 5) dE pH (Xh (xj (Xa (af 5) (hZ bW)) (abp (L1 (af 5))))) pH)))
omit T in theorem aYj:cL ["_law_world","_law_name","_law_train","_law_head","_law_at","_law_way"] À adx:=bK
def aYk ZJ(adb:apU k YH):ew "_law_go" (avb qM YH):=zZ T.a0c aYj (VP 0) (oz 3 (CA oH) (lN (Rm oH pH) (vK K? oH Fv (lN (df G.hu (eT 0) (CA (CA oH)) dE) (Xh (xj (pZ (Xa oH (hZ bW)) oH) (abp (L1 oH)))) pH)) (oz 4 (B7 C1 (eT 0) (eU 3) (u7 3)) (LK (vK FI (af 4) dE (VT (Xh (xj oH (abp Fv))))) (ba 5 G.nd dE) (vK (nT G.hu) (mR (Ir (eU 3) 4)) (eT 0) (Wm 5 (HL adb (azL (aEr G.hu) (eT 0) (Qp (Ir (eU 3) 4))) (b_ 1)))) (vK FI (af 5) dE pH) (VT (Xh (xj (pZ (Xa (af 5) (hZ bW)) oH) (abp (L1 (af 5))))))))))
omit T in theorem aUe:cL (aoQ "_law_name" "_law_train") À acY:=bK
def aUf:ew "_law_draw" auV:=zZ T.Tx aUe (VP 0) (lN (Ei (km (WL (Ve (u7 2))) (yt (aco (gD oH)))) pH) (Xh (xj (Xa oH (hZ (YY bW))) (vY oH (u7 2)))) (VT (HO (Ve (u7 2)) bW (vt (aat (eT 0) (af 1))))))
omit T in theorem aUX:cL ["_law_world","_law_name","_law_train","_law_step","_law_steps","_law_route","_law_fall"] À So:=bK
omit T in theorem auH:jD QC:=dN
omit T in theorem aPE:jD aMK:=dN
def aUY:ew "_law_turn" si:=zZ T.aWP aUX (VP 0) (LK (Rm oH pH) (aaa oH (Hl (eT 0) (eU 3) dE)) (aa9 4 (IH (ax So) ["_law_world","_law_name","_law_train","_law_step","_law_steps","_law_route","_law_fall"] QC) (lY (aXV false oH (hZ (YY bW)))) (jK (cu auH).nd) (j5 _ M1) (zd (mR (Pp (uL (cu auH).hu (af 0) bW) (uL (cu auH).hu (af 0) bW) (d? (uL (cu auH).hu (af 0) bW)))))) (Xh (xj (af 4) (abp Fv))) (VT (ţ (w! ahi (Ô 0)) (gj 5) (oz 6 (Ec 0 (af 5)) (Hl (eT 0) (af 5) (mR (Pp (eU 6) (PS (aaC (ax So) ["_law_world","_law_name","_law_train","_law_step","_law_steps","_law_route","_law_fall"] aMK) (lY (eU 6)) (jK (cu aPE).nd) (B6 (IM (Yv (cu aPE).hu)))) (u7 6))))))))
omit T in theorem aSU:cL ["_law_world","_law_word","_law_number","_law_name","_law_many"] agP acP:=bK
def aTe:aAr (k+1) 4 (aDR):=ü T.aUn aSU 4 (aml (yu (xM 0) (yu (xM 0) (yu (xM 0) amk)))) (lN (ajH (xM 0)) (vK (nT G.hu) (af 1) (af 4) (gn (aVl QQ adD bW (af 2) (vD 4 (af 1))))) (gn (aIJ (kl (cf G.hu) (af 1) d9) (adX (kl (nT G.hu) (af 3) (eT 0))))))
omit T in theorem aUZ:cL agP agP acZ:=bK
def aU0(aEC:aAr k 4 aEF)(awq:ez "_law_set" awf)(aEg:ez "_law_cancel" aD5)(aED:ez "_law_throw" aEG)(aEP:aAs k aEH)(avM:az5 k 1 avz)(awY:ez "_law_go" awC)(av4:ez "_law_draw" avA)(av6:ez "_law_turn" avB):az6 (k+1) 4 (auW aEF awf aD5 aEG aEH avz awC avA avB):=mG T.TC aUZ (U' (gD (Rd aEC (eN (af 2) (b_ 3)))) pH) (LK (WQ (ahs awq 2)) (WQ (ahs aEg 2)) (WQ (ahs aED 2)) (WQ (gn (HL aEP (af 3) (b_ 2)))) (lN (WQ (gn (Wk avM 0))) (WQ (ahs awY 3)) (G6 (WQ (ahs av4 3)) (Ð av6 3))))
omit T in theorem aTf:cL ["_law_yard","_law_word","_law_number","_law_name","_law_kept","e"] aMN alc:=bK
def aTg(aDW:ez "set_route" Sf)(av7:ez "cancel" mB)(awr:ez "throw" oC)(aws:D9 k "enter" Sy)(awZ:lV k "tick" 1 sk)(aCo:ez "go" Nr)(aw0:ez "draw" SP)(ak2:age z k 2 AD)(aw1:ez "turn" SQ)(aDX:aAR k 1 aDS):aqq (k+1) 4 (ak0 bj fi eZ g6 bl Sf mB oC Sy sk Nr SP AD SQ aDS):=mG T.aUo aTf (ba 4 G.nd dE) (G6 (aZN 4 5 G.ie T.a5G (λfJ S? aJ Gt=>(xF (PE R4) (PL aDW (zP (b_ 2))) (xF (PE R4) (PL av7 (zP (b_ 2))) (xF (PE R4) (PL awr (zP (b_ 2))) (xF (PE R4) (PL aws (zP (eN (af 3) (b_ 2)))) (xF (PE R4) (PL awZ (b_ 0)) (xF (PE R4) (PL aCo (zP (b_ 3))) (xF (PE R4) (PL aw0 (zP (b_ 3))) (xF (PE R4) (vt (aDO ak2 hr Gt (af 0) (b_ 3))) (PL aw1 (zP (b_ 3))))))))))))) (Nj (iT FI (af 4) dE) d9 (Wk aDX 4)))
omit T in theorem aRs:cL ["_law_kept","_law_kinds"] ["_law_kept"] acE:=bK
def aRt:aAR (k+1) 1 (aul bj fi eZ g6):=ü T.aSa aRs 1 (xj (amm [h9 bj,Mj,Mk,Ml] T.aUi (af 0) T.Yl T.aUh) (d? (amm [Mi,h9 eZ,Mk,Ml] T.aSY (af 0) T.Yl T.aSX))) (ahv 1 (pZ (af 1) (xj (amm [Mi,Mj,h9 fi,Ml] T.aZ8 (af 0) T.Yl T.a0A) (d? (amm [Mi,Mj,Mk,h9 g6] T.a1L (af 0) T.Yl T.a1K)))) (Ei (YW (aco (gD (aXO [h9 bj,h9 eZ,h9 fi,h9 g6] T.aRy (af 0) T.Yl T.aRz aQl))) (C7 (iT K? (azK (aEq G.hu) (af 1) (eN mm sY)) bW))) pH) (La (UU (ahF d9)) (azL (aEr G.hu) (af 1) (eN mm sY))))
omit T in theorem aYl:cL aBb aBb ady:=bK
def aYm:ew "_law_is" B1:=Cy T.a0d aYl (awE (kl (cf G.hu) (aH0 "bool" (af 0) T.Yl T.aIe aGc) (aH0 "bool" (af 1) T.Yl T.aIe aGc)) (adX (kl (cf G.hu) (af 0) (af 1))))
omit T in theorem aU1:cL aBW aMO Sp:=bK
omit T in theorem auI:jD aNs:=dN
omit T in theorem aPF:jD QC:=dN
def aU2(adP:ez "_law_is" adK)(aSD:wI z k bl "time" 1 aDT)(aQ0:wI z k bl "lock_of" 2 aDp)aJK(aDl:ap4 z k 2 Yd)(aSE:wI z k bl "lies" 2 aDU)(aPW:wI z k bl "is_green" 2 aDc)(ak2:age z k 2 AD):ew "_law_same" (aD6 bl adK aDT aDp acn Yd aDU aDc AD):=mG T.aWp aU1 (U' (gD (m6 adP hr G.ie (eN (aXL aSD hr G.ie (af 0)) (Ô 1)))) Mm) (LK (VZ (d? (xM 1)) (gj 2) (lN (U' (gD (ahc adP (aba aQ0 hr (b_ 2)) (Ec 1 (af 2)))) Mm) (U' (gD (ahc adP (aba aDl hr (b_ 2)) (m6 akT hr G.ie (eN (af 1) (b_ 2))))) Mm) (ahq (km (Lv (æ 1 (af 2)) d9) (yt (iT K? (aba aSE hr (b_ 2)) (Ec 1 (af 2))))) Mm))) (aa9 3 (aaC (ax Sp) aBW aNs) (lY (eT 1)) (jK (cu auI).nd) (j5 _ M1) (zd (uL (cu auI).hu (uL (cu auI).hu (uL (cu auI).hu (af 1) d9) (af 0)) bW))) (VZ (d? (xM 1)) (gj 4) (ahr (gD (ahc adP (aba aPW hr (b_ 4)) (kl (nT G.hu) (af 4) (af 3)))) Mm)) (SI (Fd (alZ (eT 1)) (gj 5) (Wl K? (aba ak2 hr (b_ 5)) (O9 (IH (ax Sp) aBW QC) (lY (æ 1 (af 5))) (jK (cu aPF).nd) (aaf (cu aPF).hu bW)) Mm))) Mm)
omit T in theorem aPX:cL aMH aql Yb:=bK
omit T in theorem a5A:jD ["_law_name"]:=dN
def aPY ZJ aKy:ew "_law_near_deeds" (aua qM pw):=mG T.aQF aPX (adR (VP 0) (Hh (v3 (gj 2) (Mb FH)))) (G6 (vK FI (B7 C1 (eT 0) (af 3) (b_ 2)) dE (gn (ahe (eN d9 (vY (af 1) (d? (La (pK (pK (pK ajk))) (abP (aFL G.calm) T.aID aGQ (pK (d? (xM 0))))))))))) (O9 (IH (ax Yb) aMH ["_law_name"]) (lY (jI aln)) (jK (cu a5A).nd) (zd (mR (eN d9 (pK (b_ 0)))))))
omit T in theorem aU3:cL ["_law_script","_law_k","_law_world","_law_number","_law_names","_law_name","_law_some","_law_word","_law_many","_law_at","_law_route","_law_good"] aNt ac0:=bK
def aU4(nR:aBH lg)(aDs:ez "_law_near_deeds" akV):az9 (k+1) (ak9 lg akV):=ü T.aWq aU3 3 (jI nR) (tN 4 (w! ahi (Ô 2)) 5 (Nj (gD (af 4)) (vD 4 (t7 yh Ŕ (xK 4))) bW) (tN 6 (RA (UU (UU (UU (UU (UU (ahF d9))))))) 7 (vD 6 Xq) (tN 8 (aml (yu (xM 2) (yu (xM 2) (yu (xM 2) amk)))) 9 (t7 yh (Cx nR aae) (abP (aTv G.calm) T.a1O aXI (pK (d? (avq G.hu (af 8) (af 7) (xM 2)))))) (LK (Ei (km (WL (tB yh (af 3))) (yt (gD (eT 2)))) (tN 10 (Ec 2 (t7 yh Ŕ (xM 2))) 11 (XK (ahc aDs (af 2) (æ 2 (af 10))) (ahe (eN d9 (eN (af 10) (eN bW sY)))) Xq) (i8 (Rm (af 11) (gn (vD 11 (t7 yh Ŕ (xK 11)))))))) (Ei (km (gD (eT 2)) (km (gD (af 4)) (yt (WL (tB yh (af 3)))))) (gn (mR (vY (La (UU (ahF d9)) Xq) (pK (d? (vD 4 (t7 yh Ŕ (xK 4))))))))) (Ei (km (Lv (af 7) d9) (yt (gD (eT 2)))) (Wm 9 (Ec 2 (t7 yh Ŕ (xM 2))))) (HO (tB yh (af 3)) bW (oz 9 (La (Pp (YY bW) (avq G.hu (af 8) (af 7) (xM 2)) (arD bW Xq)) Xq) (Wm 5 (La (vY (YY bW) ajk) Xq)))) (gn (mR (Pp (af 7) (af 9) (d? (Nj (aaM (iT K? (af 7) d9) (C7 (WL (tB yh (af 3))))) (af 5) (La (pK (pK (pK (d? (YY bW))))) Xq))))))))))
omit T in theorem aTh:cL ["_law_script","_law_pieces_here","_law_signals_here","_law_wait","_law_first","_law_handed","_law_yard","_law_beside","_law_world","_law_k","_law_deed_here","_law_word","_law_number","_law_name","_law_due","_law_one","_law_lost"] aqy AI:=bK
omit T in theorem aDI:jD aNq:=dN
omit T in theorem aDJ:jD aML:=dN
def aTi{f fd}(D:Gb z.K "law" "law" AI f fd)(aEh:Bx (k+1) "_law_pieces" aD7)(aDY:aAT (k+1) ub)(nR:Bx (k+1) "_law_mix" lg)(aPG:In z k "Yard" bl 4 auz)(al5:aBI (k+1) al0)(av8:az9 (k+1) B2)(av9:az6 (k+1) 4 avn)(aly:Bx (k+1) "_law_same" alz)(au5:aqq (k+1) 4 aEI)(ak2:age z (k+1) 2 AD)(aTj:aqq (k+1) 4 aD8):qT z.P z.w z.K z.mg z.base (lA z.P z.w) (k+2) f fd aqy (Ps z.K 1 (aD0 bl aD7 ub lg auz al0 B2 avn alz aEI AD aD8)):=a1p D aTh λ_ _ _ _ _ _ hr G=>(tN 1 (m6 aEh hr G.ie (zP (eN bW sY))) 2 (HL aDY bW (b_ 1)) (tN 3 (ajE nR) 4 Fv (xC (HO (ajE nR) bW (tN 1 (xj (mR O7) (Qp O7)) 2 (xj (mR ajk) (Qp ajk)) (oz 4 (xj (mR O7) (Pp (mR O7) (mR O7) (vY (mR O7) (Qp O7)))) (Wm 4 (XK (Xa (af 4) (hZ (pZ bW (ajE nR)))) (ahe O7) (ajE nR)))))) (tN 5 (xj (w! (at4 true) (b_ 1)) (d? (w! (at4 true) (b_ 2)))) 6 (awo aPG hr G.ie (vY (eU 5) (eN (eU 5) (b_ 3)))) (lN (yg (aK2 aFk (eU 5))) (yg (aK2 aFk (eU 5))) (tN 7 (awo aPG hr G.ie (vY (w! Ğ (b_ 1)) (eN (w! Ğ (b_ 2)) (b_ 3)))) 8 (B7 al5 (af 1) (af 2) (b_ 3)) (aV2 sM (lN (VZ (d? (ajE nR)) (gj 9) (ahu 10 (HL av8 (XK bW bW (af 9)) (b_ 8)) (adR (KO (pZ (af 4) (tB (mn false) (RA (b_ 10)))) (af 9)) (Hh (v3 (gj 11) (v3 (gj 12) (v3 (gj 13) FH))))) (ahu 14 (B7 av9 (af 8) (af 11) (Ir (af 12) 13)) (Ei (YW (iT K? (B7 au5 (af 6) (af 11) (Ir (af 12) 13)) (af 14)) (C7 (aco (gD (Ry aly (af 6) 8))))) Mm) (i8 (SI (Fd (alZ (eT 8)) (gj 15) (Ou (aDO ak2 hr G.ie (af 6) (b_ 15)) (d? (YY bW))))))))) (aa9 16 (RX (ax AI) ["_law_script","_law_pieces_here","_law_signals_here","_law_wait","_law_first","_law_handed","_law_yard","_law_beside","_law_world","_law_k","_law_deed_here","_law_word","_law_number","_law_name","_law_due","_law_one","_law_lost"] aNq 8) (awF (mR (pK (pK (eN (YY bW) (eN bW sY)))))) (jK (cu aDI).nd) (B6 (iT (YQ (cu aDI).hu) (af 0) (uL (cu aDI).hu (af 1) d9))) (j5 _ (af 0))) (G6 (U' (gD (abP (aTH G.calm) T.a1M aXJ (d? (O9 (RX (ax AI) ["_law_script","_law_pieces_here","_law_signals_here","_law_wait","_law_first","_law_handed","_law_yard","_law_beside","_law_world","_law_k","_law_deed_here","_law_word","_law_number","_law_name","_law_due","_law_one","_law_lost"] aML 6) (lY (af 16)) (jK (cu aDJ).nd) (zd (kl (cf (cu aDJ).hu) (m6 aTj hr (cu aDJ).ie (vY (af 1) (eN d9 (pK (b_ 0))))) d9)))))) Mm) (awE (Ry aly (af 6) 8) (adX (aXX sJ (ahc aly (af 7) (B7 al5 (af 1) (af 2) (b_ 3)))))))))))))))
def aHo:∀n,∃g,apG (3+n) 5 g/\amt n g/\amf n g
 |0=>⟨_,il.bad T.aFx aE4,λps ss way j a M ok hn _=>by rw[aCi],λps ss a b way j p M _ _ ok hn _=>by rw[aCi]⟩
 |n+1=>by
  obtain⟨g,F,S,SL⟩:=aHo n;rw[eE amb (aov 1 1 _) (aPt T) ad4 (d6 2 "pieces_at") (aPu T amb) aQ7 (aoy 3 3 _) (aPa T ad4) aQ8 (d6 2 "joints_out") (aQV T amb)];exact⟨_,(aSN T (aQ8.mono av) (aQ7.mono av) F).trunc,aZS S,aXD SL⟩
def aGB:∀n,∃g,apQ (3+n) 5 g/\amH n g
 |0=>⟨_,il.bad T.aGk aFf,λps ss way j a M ok hn _=>by rw[aCi]⟩
 |n+1=>by
  obtain⟨g,F,S⟩:=aGB n;rw[bq amb (d6 1 "_law_outs") (aUB T) ad4 (atE 1 3 _) (aPz T)];rw[bC _ (aUC T (amb.mono av) (ad4.mono av) F).trunc (aZr (λp j M=>Sb.YE p j M) (λps n j M h=>Sb.Sk ps n j M h) S)]
def a0e anz(F:Gb z.K "law" "law" AI f fd):qT z.P z.w z.K z.mg z.base (lA z.P z.w) 40 f fd aqy (ad8 z.K):=by
 obtain⟨gE,aRf,aWl,aWm⟩:=aHo T fuel
 obtain⟨gl,AX,aIa⟩:=aGB T fuel;rw[eE avK (d6 1 "_law_cell") (aUz T) nR (d6 2 "_law_mix") (aWw T avK.up) aEh (d6 3 "_law_pieces") (aSy T nR.up).trunc C1 (atE 1 3 _) (aPz T)];rw[eE aDY (aAT 3 _) (aRr T nR.up C1.up).trunc Sd (aov 1 1 _) (aPt T) akX (d6 2 "pieces_at") (aPu T Sd.up) aDr (d6 3 "check_joints") (aQc T akX.up)];rw[eE aDq (aAQ 4 1 _) (aQb T aDr.up Sd.up) aDk (d6 2 "check_signals") (a5J T Sd.up) aDG (d6 5 "check_yard") (aQX T aDq.up aDk.up) avQ (d6 21 "routes") (aUr T aDG.up aRf.up).trunc];rw[eE aSF (In z 22 "Yard" bl 4 _) (aRP T avQ.up) aEe (d6 21 "_law_routes") (aSA T AX.up) al5 (aBI 22 _) (aWz T aEe.up) aln (d6 1 "_law_near") (aT9 T).trunc];rw[eE aDs (d6 2 "_law_near_deeds") (aPY T C1.up aln.up) av8 (az9 3 _) (aU4 T nR.up aDs.up).trunc aEC (aAr 1 4 _) (aTe T).trunc akT (d6 1 "_law_train_in") (aQ5 T)];rw[eE alm (d6 2 "_law_held") (aUE T akT.up) awq (d6 3 "_law_set") (aWB T alm.up) rn (d6 1 "_law_free") (aT7 T) aEg (d6 2 "_law_cancel") (aSC T aln.up C1.up rn.up)];rw[eE aED (d6 3 "_law_throw") (aSR T alm.up) adb (apU 1 _) (aUd T) aEP (aAs 2 _) (aST T C1.up adb.up) avM (az5 2 1 _) (aUb T rn.up)];rw[eE awY (d6 2 "_law_go") (aYk T C1.up adb.up) av4 (d6 1 "_law_draw") (aUf T) av6 (d6 1 "_law_turn") (aUY T) av9 (az6 4 4 _) (aU0 T aEC.up awq.up aEg.up aED.up aEP.up avM.up awY.up av4.up av6.up)];rw[eE adP (d6 1 "_law_is") (aYm T) aSG (wI z 1 bl "time" 1 _) (aRR T) M0 (d6 1 "is_number_of") (aPV T) MY (d6 2 "check_piece") (aQp T M0.up)];rw[eE aQ1 (wI z 3 bl "lock_of" 2 _) (aQf T MY.up) akS (ò 1 1 _) (aQd T) tj (ap4 z 3 2 _) (a5M T MY.up akS.up) acG (apP 1 1 _) (aRM T)];rw[eE akM (d6 3 "check_points") (aPR T MY.up acG.up) Jn (wI z 4 bl "lies" 2 _) (aRi T akM.up) acm (d6 2 "check_signal") (aPT T M0.up) aPZ (wI z 3 bl "is_green" 2 _) (a5O T acm.up)];rw[eE MW (d6 1 "train_called") (aPP T) aP0 (ò 1 1 _) (a5K T) aDK (age z 2 2 _) (aQI T aP0.up MW.up) aly (d6 5 "_law_same") (aU2 T adP.up aSG.up aQ1.up akT.up tj.up Jn.up aPZ.up aDK.up)];rw[eE acj (d6 2 "check_route") (aQn T M0.up) C4 (d6 1 "way_of") (aUx T) abW (d6 4 "check_not_held") (a5z T tj.up) aEB (d6 2 "lie_for") (aSM T acG.up)];rw[eE fx (d6 1 "signal_of") (aRo T) aDW (d6 5 "set_route") (aRm T acj.up C4.up abW.up aEB.up fx.up) abU (aoy 3 3 _) (aPa T akX.up) akN (d6 4 "signal_ahead") (aQj T abU.up)];rw[eE aDH (d6 5 "train_near") (aQK T akN.up) acH (apT 4 _) (aRK T abU.up) fo (d6 5 "is_at_border") (aQh T acH.up) aSH (In z 1 "Fall" j8 3 _) (aRk T)];rw[eE C5 (d6 1 "unlock") (aUv T) av7 (d6 6 "cancel") (aUt T acj.up fx.up aDH.up fo.up aSH.up C5.up C4.up) awr (d6 5 "throw") (aWr T akM.up abW.up) acw (aqs 6 _) (aQM T fo.up fx.up)];rw[eE aRu (In z 1 "Train" c! 1 _) (aQZ T) oT (d6 2 "come_on") (aSP T C5.up) ack (aqm 3 _) (aQr T fx.up C4.up oT.up) aws (D9 7 "enter" _) (aWt T acm.up fo.up acw.up aRu.up ack.up)];rw[eE awZ (lV 2 "tick" 1 _) (aYe T C5.up C4.up) aCo (d6 7 "go") (a1Q T MW.up oT.up acH.up ack.up acw.up akN.up) aw0 (d6 2 "draw") (aYg T MW.up) avJ (lV 1 "turned" 1 _) (OK T)];rw[gM aw1 (d6 2 "turn") (aYi T MW.up C5.up avJ.up) aDX (aAR 1 1 _) (aRt T) au5 (aqq 8 4 _) (aTg T aDW.up av7.up awr.up aws.up awZ.up aCo.up aw0.up aDK.up aw1.up aDX.up)];rw[zp aTd (aTi (k:=38) T F aEh.up aDY.up nR.up aSF.up al5.up av8.up av9.up aly.up au5.up aDK.up au5.trunc.up) hj (awh mQ) (λp M=>Sb.kb p M) hc (∀ps ss,sX->Ni (acd (X6 bj (X7 bj (AE mQ)) mQ) (X_ bj mQ)) [gk,kD]) (λps ss hg=>
  Sb.acq (Sb.ab3 hg (lR (Sb.ab4 (λps j M h=>Sb.Sj ps j M h) (by rw[fZ hg.eg]) hg.two (hg.q6 p hp) (hg.once p hp))) hj) (Sb.ip hg hj))]
 rw[bI aV8 (Sb.ac6 hc aWl) aV9 (Sb.aTs (Sb.aQQ (c:=bj)) aWm)]
 rw[gM hm (aDo (au2 auP)) (Sb.adk Sb.acU) hb (alE aut) (λps n j M h=>Sb.Sk ps n j M h) yM (axa (R_ (AE mQ))) (λps a x M h=>Sb.X? ps a x M h)]
 let C:gv:=⟨bl,j8,eZ,fi,c!,g6⟩
 rw[vH pu (a1R (C:=C)) aCy (a08 (C:=C)) ca (a1Y (C:=C)) ti (aIw (C:=C) aCy pu)];rw[vH aO1 (a1S (C:=C) ti) aOa (a09 (C:=C) aCy aIt) bor (a0j yM) bd (a07 (C:=C) bor)];rw[vH Br (a1U (C:=C) yM) pa (a11 (C:=C) bd amD) co (λY=>a12 (C:=C) (Y:=Y) axn) ps (λY=>a13 (C:=C) (Y:=Y) amD amE (co Y))];rw[Cg A (avl C _ _ _ _ _ _ _ _) ⟨adr aIu amE aO1 (a1T aIt) amD,aWj aIu amD (a1V Br) bd a1W axn amE,aX2 aOa aO1,aX3 aIv bd pa a1Z ps,a0k axn amE,a2S ca co bor ps pa (λM x hx=>Sb.aRb (C:=C) hx) Br,a0l ca,a0m ca (λY=>a1X) a10⟩ he (a15 aIx)];rw[eE JP (∀Y,sU->amC C Y _) (λY G=>a0n (C:=C) (λM W j w i x h=>Sb.acP h) (a4H G he aIy hb a16 a17)) aOK (∀cT dS(k:o7),qJ M n (dm.exc (rh C k))->k≠.ok->aul bj C.he C.cI C.rd [ο n] M=.ok (Ω (l0 k)) M) (λM n k hn hk=>Sb.acE (C:=C) (ia:=bj) T.a3E hn hk) has (∀Y,sU->adY C Y _ λk=>Ω (l0 k)) (λY G=>Sb.aSW (C:=C) (ia:=bj) (lu:=Sa (R! c!) (akH eZ bl)) G A aOK) aCT (∀Y,sU->axo C Y _) (λY G=>a0o (C:=C) G hm hb aIy)];rw[bq hQ (∀Y,sU->axc C Y _ _ _ _ _) (λY G=>a18 (C:=C) G aCy pu ca aOa aIv) J3 (∀Y,sU->aeL C Y _) (λY G=>a1D (C:=C) G ca)];exact(aTd.imp λ_ _ _ _ h=>aTQ (λns=>Sb.AI (C:=C) ns (Sb.M3 hm) (Sb.acD hm hb) hm (λps ss wait M hg=>Sb.ke aV8 hg wait M) (λps ss wait a b M hg hA hB=>Sb.aQ9 aV9 hg wait M hA hB) (a1x (Sb.Sl aIa)) (λY M L G h=>Sb.aV7 (Sb.Sl aIa) G h) aCT JP has (λY G M B W o j s=>Sb.Sp s G (λM x h=>Sb.ady h) (λM B o h=>Sb.aZw h) aIx (hQ Y G) (J3 Y G)) J3 (λY G M B W o x aP hx hn=>apN _ (Sb.aWC (C:=C) (ia:=bj) aP.y ((J3 Y G).none M B W o x aP hx hn) aOK) Ξ)) h).mono aC
universe zE
open Hd
def all_mk DJ sS{mg:Str->fO}{fa:Addr}(X:K.In h)(G:h.Ns mainGlobals mg)(a4a:mg "law" = jF fa)(H:All facts K):
  ∃fd:FuncData,(∀kP Gu,BindsTo s fd (rU [u]) [("_law_script",u)])/\∀base:Heap,arZ->api mg->qT P w K mg base (lA P w) 40 fa fd aqy (ad8 K):=by
 have T:Top K mg 44 31 68 56 80 285 172 264:=⟨atp (i6 0).a 5,atp (i6 2).a 6,atp (i6 3).a 7,atp (i6 4).a 8,xm (i6 0).a,xm (i6 2).a,xm (i6 3).a,xm (i6 4).a,⟨xm (i6 1).a,a26 (af5 9) (af5 10) (af5 11) (af5 12)⟩,ah9 (i6 0).xc 13 (i6 3).xc 14 (i6 2).xc 15 (i6 4).xc 16,ah9 (i6 0).xc 17 (i6 3).xc 18 (i6 2).xc 19 (i6 4).xc 20,ah9 (i6 0).xc 21 (i6 3).xc 22 (i6 2).xc 23 (i6 4).xc 24,ah9 (i6 0).xc 25 (i6 3).xc 26 (i6 2).xc 27 (i6 4).xc 28,ah9 (i6 0).xc 29 (i6 3).xc 30 (i6 2).xc 31 (i6 4).xc 32,⟨aC,aC,aC,aC,aC,aC⟩,(kW 33).fd (gZ 42),(kW 33).fd (gZ 43),(kW 36).fd (gZ 44),(kW 36).fd (gZ 45),(kW 36).fd (gZ 46),(kW 39).fd (gZ 47),(kW 39).fd (gZ 48),(kW 39).fd (gZ 49),(kW 39).fd (gZ 50),(kW 39).fd (gZ 51),(kW 39).fd (gZ 52),(kW 39).fd (gZ 53),(kW 39).fd (gZ 54),(kW 39).fd (gZ 55),(kW 39).fd (gZ 56),x! (gZ 57),x! (gZ 58),x! (gZ 59),x! (gZ 60),x! (gZ 61),x! (gZ 62),x! (gZ 63),x! (gZ 64),x! (gZ 65),x! (gZ 66),x! (gZ 67),x! (gZ 68),x! (gZ 69),x! (gZ 70),⟨284,xm (gZ 71)⟩,⟨280,xm (gZ 72)⟩,⟨282,xm (gZ 73)⟩,(bL 74:bO "joints_of" "joints_of" "joints_of" kb).de X G,(bL 75:bO "pieces_at" "pieces_at" "pieces_at" Sj).de X G,(bL 76:bO "piece_beyond" "piece_beyond" "piece_beyond" X?).de X G,(bL 77:bO "is_border" "is_border" "is_border" lL).de X G,(bL 78:bO "joints_out" "joints_out" "joints_out" Sh).de X G,(bL 79:bO "is_points" "is_points" "is_points" acA).de X G,(bL 80:bO "lie_for" "lie_for" "lie_for" oI).de X G,(bL 81:bO "check_yard" "check_yard" "check_yard" acq).de X G,(bL 82:bO "check_pieces" "check_pieces" "check_pieces" ab3).de X G,(bL 83:bO "check_joints" "check_joints" "check_joints" ab4).de X G,(bL 84:bO "check_signals" "check_signals" "check_signals" ip).de X G,(bL 85:ap2 K (Δ 172) "Train.__init__" acr).aC6 (Ws 37) (Ws 38) (xm (kW 36).a),(bL 86:bO "pieces_under" "pieces_under" "pieces_under" R?).de X G,(bL 87:bO "turned" "turned" "turned" ac5).de X G,(bL 88:bO "routes" "routes" "routes" ac6).de X G,(bL 89:bO "ways_on" "ways_on" "ways_on" ali).de X G,(bL 90:ap2 K (Δ 264) "Yard.__init__" ke).aC6 (Ws 40) (Ws 41) (xm (kW 39).a),(bL 91:Qx K (Δ 264) "time" "time" "Yard.time" auA).me (kW 39).cl,(bL 92:Qx K (Δ 264) "lock_of" "lock_of" "Yard.lock_of" aui).me (kW 39).cl,(bL 93:Qx K (Δ 264) "train_in" "train_in" "Yard.train_in" lj).me (kW 39).cl,(bL 94:Qx K (Δ 264) "lies" "lies" "Yard.lies" auB).me (kW 39).cl,(bL 95:Qx K (Δ 264) "is_green" "is_green" "Yard.is_green" ll).me (kW 39).cl,(bL 96:Qx K (Δ 264) "where" "where" "Yard.where" auw).me (kW 39).cl,(bL 97:ap2 K (Δ 285) "Fall.__init__" acB).aC6 (Ws 34) (Ws 35) (xm (kW 33).a),(bL 98:bO "set_route" "set_route" "set_route" acC).de X G,(bL 99:bO "cancel" "cancel" "cancel" ac7).de X G,(bL 100:bO "tick" "tick" "tick" adv).de X G,(bL 101:bO "throw" "throw" "throw" adi).de X G,(bL 102:bO "unlock" "unlock" "unlock" ac8).de X G,(bL 103:bO "signal_of" "signal_of" "signal_of" ak3).de X G,(bL 104:bO "way_of" "way_of" "way_of" alu).de X G,(bL 105:bO "is_at_border" "is_at_border" "is_at_border" akU).de X G,(bL 106:bO "signal_ahead" "signal_ahead" "signal_ahead" ab5).de X G,(bL 107:bO "train_near" "train_near" "train_near" acs).de X G,(bL 108:bO "train_called" "train_called" "train_called" ab6).de X G,(bL 109:bO "check_route" "check_route" "check_route" ace).de X G,(bL 110:bO "check_piece" "check_piece" "check_piece" acf).de X G,(bL 111:bO "check_points" "check_points" "check_points" ab7).de X G,(bL 112:bO "check_signal" "check_signal" "check_signal" ab8).de X G,(bL 113:bO "is_number_of" "is_number_of" "is_number_of" mi).de X G,(bL 114:bO "check_not_held" "check_not_held" "check_not_held" abV).de X G,(bL 115:bO "enter" "enter" "enter" adj).de X G,(bL 116:bO "go" "go" "go" Zo).de X G,(bL 117:bO "draw" "draw" "draw" adw).de X G,(bL 118:bO "turn" "turn" "turn" Y6).de X G,(bL 119:bO "route_past" "route_past" "route_past" acu).de X G,(bL 120:bO "pass_signal" "pass_signal" "pass_signal" acg).de X G,(bL 121:bO "come_on" "come_on" "come_on" acM).de X G,(bL 122:bO "_law_cell" "_law_cell" "_law_cell" acU).de X G,(bL 123:bO "_law_mix" "_law_mix" "_law_mix" adk).de X G,(bL 124:bO "_law_beyond" "_law_beyond" "_law_beyond" Sk).de X G,(bL 125:bO "_law_pieces" "_law_pieces" "_law_pieces" M3).de X G,(bL 126:bO "_law_signals" "_law_signals" "_law_signals" acD).de X G,(bL 127:bO "_law_outs" "_law_outs" "_law_outs" YE).de X G,(bL 128:bO "_law_ways" "_law_ways" "_law_ways" tI).de X G,(bL 129:bO "_law_routes" "_law_routes" "_law_routes" Sl).de X G,(bL 130:bO "_law_new" "_law_new" "_law_new" YN).de X G,(bL 131:bO "_law_train_in" "_law_train_in" "_law_train_in" Si).de X G,(bL 132:bO "_law_held" "_law_held" "_law_held" acV).de X G,(bL 133:bO "_law_free" "_law_free" "_law_free" YF).de X G,(bL 134:bO "_law_set" "_law_set" "_law_set" YO).de X G,(bL 135:bO "_law_near" "_law_near" "_law_near" acW).de X G,(bL 136:bO "_law_cancel" "_law_cancel" "_law_cancel" lr).de X G,(bL 137:bO "_law_tick" "_law_tick" "_law_tick" acX).de X G,(bL 138:bO "_law_throw" "_law_throw" "_law_throw" acN).de X G,(bL 139:bO "_law_pass" "_law_pass" "_law_pass" YG).de X G,(bL 140:bO "_law_enter" "_law_enter" "_law_enter" acO).de X G,(bL 141:bO "_law_go" "_law_go" "_law_go" adx).de X G,(bL 142:bO "_law_draw" "_law_draw" "_law_draw" acY).de X G,(bL 143:bO "_law_turn" "_law_turn" "_law_turn" So).de X G,(bL 144:bO "_law_there" "_law_there" "_law_there" acP).de X G,(bL 145:bO "_law_done" "_law_done" "_law_done" acZ).de X G,(bL 146:bO "_law_asked" "_law_asked" "_law_asked" alc).de X G,(bL 147:bO "_law_refusal" "_law_refusal" "_law_refusal" acE).de X G,(bL 148:bO "_law_is" "_law_is" "_law_is" ady).de X G,(bL 149:bO "_law_same" "_law_same" "_law_same" Sp).de X G,(bL 150:bO "_law_near_deeds" "_law_near_deeds" "_law_near_deeds" Yb).de X G,(bL 151:bO "_law_deed" "_law_deed" "_law_deed" ac0).de X G⟩;obtain⟨_,_,_,_,_,_,F⟩:=(bL 152:bO "law" "law" "law" AI).a4I X G a4a;rw[bC _ (λs u=>.of_eq rfl) (λbase _ _=>a0e (z:=⟨P,w,K,mg,base⟩) T F)]
universe Rw
universe zE
end
open PySem PySem.W PyProof.Rows
set_option maxRecDepth 100000 in
set_option maxHeartbeats 0 in
theorem PySem.Challenge.cw_signalbox_k11_trains_holds : PySem.Challenge.rw_signalbox_k11_trains.Holds := by
 refine PySem.W.holds_law Rw.a5v λa3f=>?_
 refine PySem.W.holds_open (q:=Rw.Q) (loose:=Rw.ks) (Xt:=λs=>xlAt Rw.Q [] s && recOk [] s) (XP:=XL Rw.Q []) (Yf:=Hook.obs Rw.hk) (Ya:=Hook.val Rw.hk) (YP:=Hook.says Rw.hk) (N:=8416) (d:=⟨"law",L2.Js Rw.AI,L2.hV Rw.AI,L2.ax Rw.AI,Rw.a4U⟩) (kwd:=[])
  (Hd.aXd (boot_open Rw.a4S rfl Rw.a3K) Rw.a44 Rw.a5f Rw.run Rw.aDE rfl) (Hook.of Rw.hk) (Hook.keeps Rw.hk) (λs e=>xl_of s (Bool.and_eq_true_iff.mp e).1) XL.keeps (by kernel_rfl) (by kernel_rfl) (by kernel_rfl) (λs e=>recFacts_of (Bool.and_eq_true_iff.mp e).2) (by kernel_rfl) a3f (by kernel_rfl) ⟨rfl,rfl,rfl,rfl,rfl,by kernel_rfl⟩ ?hw ?hc
 case hw=>w_witness2
 refine Hd.aZQ (l:=PySem.Challenge.rw_signalbox_k11_trains) (n:=63) (k:=40) (x := "_law_script") (gH:=λw=>L2.lA PySem.Challenge.rw_signalbox_k11_trains.prog w) (sp:=L2.ad8) rfl (by decide) (by kernel_rfl) ⟨rfl,by decide,by decide⟩ (λw mg fa h K g_ H G Y1=>Rw.all_mk g_ G Y1 H) (λK H a ns _ _ hS=>⟨a,ns,rfl,hS,λ_=>rfl⟩) (λw H s e s' z=>by obtain⟨_,_,_,_,_,q⟩:=z; exact q)
