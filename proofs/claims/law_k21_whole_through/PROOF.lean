import PyProof.Rows.All
import Wide.All
import Wide.FinOn
import Open.Boot
import Open.Tree
import Open.Line
import KE.KTryMore
import KE.KIsAll
import KE.KFromBytes
import KE.KDictList
import KE.KDictOf
import KE.KItem
import Lean
import PyProof.EqAt
import PyProof.EqKinds
import PyProof.TupleCall
import PyProof.Rows.SetFrom
import PyProof.DictWalks
import KE.KRevIter
import KE.KRevSl
import PySem.Challenge.RW_signalbox_k21_whole_through
set_option Elab.async false
set_option linter.all false
set_option maxRecDepth 100000
set_option maxHeartbeats 4000000
noncomputable abbrev Fg:=PySem.W.Frag
theorem zA {α:Type _} {a:α} {l:List α}:(a::l)[0]? = some a:=rfl
theorem zB {α:Type _} {a:α} {i:Nat} {l:List α}:(a::l)[i+1]? = l[i]? := rfl
theorem zC {α β:Type _} {f:α->β} {a:α} {l:List α}:(a::l).map f=f a::l.map f:=rfl
theorem zD {α β:Type _} {f:α->β}:([]:List α).map f=[]:=rfl
theorem zE {α:Type _} {a:α} {l:List α}:(a::l).length=l.length+1:=rfl
theorem zF {α:Type _}:([]:List α).length=0:=rfl
theorem zG {α:Type _} {a:α} {l m:List α}:(a::l)++m=a::(l++m):=rfl
theorem zH {α:Type _} {l:List α}:[]++l=l:=rfl
theorem zI {α:Type _} {l:List α}:l++[]=l:=by simp
theorem zJ {α β:Type _} {f:α->β} {l:List α} {i:Nat}:(l.map f)[i]? = l[i]?.map f:=by simp
theorem zK {α β:Type _} {f:α->β} {l:List α}:(l.map f).length=l.length:=by simp
section
namespace L2
open PySem PySem.Spec PyProof.Rows
noncomputable def inClass (s:Stmt) (j:Nat):Stmt:=match s with
 | .ClassDef _ _ _ body _ _ _ _ _ _ _=>body.getD j (.Pass ⟨0,0,0,0⟩)
 | _=>.Pass ⟨0,0,0,0⟩
noncomputable def mj (s:Stmt):Arguments:=match s with
 | .FunctionDef _ a _ _ _ _ _ _ _ _=>a
 | _=>{ posonlyargs:=[],args:=[],vararg:=none,kwonlyargs:=[],kw_defaults:=[],kwarg:=none,defaults:=[] }
noncomputable def gx (s:Stmt):List Stmt:=match s with
 | .FunctionDef _ _ b _ _ _ _ _ _ _=>b
 | _=>[]
noncomputable def av (s:Stmt):Scope:=match s with
 | .FunctionDef _ _ _ _ _ _ sc _ _ _=>sc
 | _=>{ kind:=.function,names:=[],isGenerator:=false,isCoroutine:=false }
end L2
namespace Hd
open PySem PySem.W PySem.Calls PyProof.Rows
noncomputable def HB (st:SharedT->Thread->Option (SharedT×Thread)) (m:Nat) (ann:Option Value):Nat->SharedT->Thread->Option SharedT
 | 0,_,_=>none
 | n+1,s,t=>match through t with
  | true=>some s
  | false=>match stepOk m ann t with
   | false=>none
   | true=>match st s t with
    | some x=>HB st m ann n x.1 x.2
    | none=>none
theorem JC {tb:String->Option Builtin} {p:Program} {w:World} {m:Nat} {ann:Option Value}:∀{n:Nat} {s s':SharedT} {t:Thread},
  HB (stepT (denote tb) p w) m ann n s t=some s'->topRun tb p w m ann n s.abs t=some s'.abs
 | 0,_,_,_,h=>by cases h
 | n+1,s,s',t,h=>by
  unfold HB at h;unfold topRun;cases ht:through t with
  | true=>rw[ht] at h; cases h; rfl
  | false =>
   rw[ht] at h;cases hk:stepOk m ann t with
   | false=>rw[hk] at h; cases h
   | true =>
    rw[hk] at h;cases hs:stepT (denote tb) p w s t with
    | none=>rw[hs] at h; cases h
    | some x =>
     rw[hs] at h;rw[stepT_spec hs];exact JC h
noncomputable def NV (p q:Program) (loose:List Str) (Xt:Shared->Bool) (g0:Bool) (H₀:Heap) (s:Shared) :=
 ((staticsOk (importedModules p.main.body) H₀ s.heap && namesBound p s.heap && gensDone s && laidKept H₀ s.heap),openSeen q loose (importedModules p.main.body) Xt g0 s)
theorem RP {p q:Program} {loose:List Str} {Xt:Shared->Bool} {α:Type} {Yf:Shared->α} {Ya:World->α} {N:Nat} {g0:Bool} {H₀:Params->Heap} {YW:Array GenState} {d₀:Drawn} {k₀:Nat} {m₀:Nat} {ann:Option Value} {M:Nat}
  {T₀:Params->BT} {n₀:Nat} {l₀:Life}
  (YX:∀w:World,(fencedOpening treeTable p w N).map (λs=>(s.heap,s.gens,s.drawn,s.toks))=some (H₀ w.params,YW,d₀,k₀))
  (size:∀w:World,((H₀ w.params).isNs mainGlobals && YW.size == 0,(H₀ w.params).objs.size,(H₀ w.params).nsMap mainGlobals "__annotations__")=(true,m₀,ann))
  (tree:∀P:Params,absHeap (T₀ P) n₀ l₀=H₀ P)
  (run:∀(w:World) (os:OsState),(HB (stepT (denote treeTable) p w) m₀ ann M ⟨T₀ w.params,n₀,l₀,YW,d₀,k₀,os⟩ (topStub p)).map (λs=>NV p q loose Xt g0 (H₀ w.params) s.abs)=some (true,openGood q loose))
  (ruB:∀(w:World) (os:OsState),(HB (stepT (denote treeTable) p w) m₀ ann M ⟨T₀ w.params,n₀,l₀,YW,d₀,k₀,os⟩ (topStub p)).map (λs=>Yf s.abs)=some (Ya w))
  (le:Nat.ble M N=true):LeftO p q loose Xt Yf Ya N g0:=λw=>by
 obtain⟨⟨h,gs,d,k,os⟩,e,e'⟩:=Option.map_eq_some_iff.mp (YX w)
 obtain⟨rfl,rfl,rfl,rfl⟩:h=H₀ w.params/\gs=YW/\d=d₀/\k=k₀:=by simpa using e'
 obtain⟨z1,z2,z3⟩:_/\_/\_:=by simpa only[Prod.mk.injEq] using size w
 obtain⟨sT,r0,l0⟩:=Option.map_eq_some_iff.mp (run w os);unfold NV at l0
 obtain⟨l1,l2⟩:_/\_:=by simpa only[Prod.mk.injEq] using l0
 have l3:Yf sT.abs=Ya w:=by
  have:=ruB w os;rw[r0] at this;exact Option.some.inj this
 have r1:=JC r0;have r:=topRun_mono (N-M) _ _ _ _ r1;rw[show M+(N-M)=N by have:=Nat.le_of_ble_eq_true le; omega] at r
 have a0:SharedT.abs ⟨T₀ w.params,n₀,l₀,gs,d,k,os⟩=⟨H₀ w.params,gs,d,k,os⟩:=by
  show(⟨absHeap (T₀ w.params) n₀ l₀,gs,d,k,os⟩:Shared)=_;rw[tree]
 rw[a0] at r
 have t:topFrom treeTable p w N ⟨H₀ w.params,gs,d,k,os⟩=some sT.abs:=by
  unfold topFrom;dsimp only;rw[z1,z2,z3,r];show(match staticsOk (importedModules p.main.body) (H₀ w.params) sT.abs.heap && namesBound p sT.abs.heap && gensDone sT.abs && laidKept (H₀ w.params) sT.abs.heap with | true=>_ | false=>_)=_
  rw[l1]
 unfold openEnds;rw[e];show(topFrom treeTable p w N _).map _=_;rw[t];exact congrArg some (Prod.ext l2 l3)
noncomputable def treeOf (l:List Obj):BT:=l.zipIdx.foldl (λt x=>t.ins x.2 x.1) .nil
open L2
inductive NW where
 | v (x:Option (Option Value))
 | b (x:Option Bool)
 | f (x:Option (FuncData×Bool))
noncomputable abbrev En:=(Fg->NW)×NW
noncomputable def Sat (K:Fg) (l:List En):Prop:=∀e∈l,e.1 K=e.2
noncomputable def eb (f:Fg->Bool):En:=(λK=>.b (some (f K)),.b (some true))
noncomputable def eo (f:Fg->Option Bool) (v:Option Bool):En:=(λK=>.b (f K),.b v)
noncomputable def ev (f:Fg->Option (Option Value)) (v:Option (Option Value)):En:=(λK=>.v (f K),.v v)
noncomputable def NX (K:Fg) (v:Option (Option Value)) (q:Str):Option (FuncData×Bool):=match v with
 | some (some (.ref f))=>match K.lookup f with
  | some ⟨_,_,.func fd,_⟩=>some ({ fd with kwdefaults:=.none,doc:=.none,pyModule:=.none,annotations:=none,code:=.none,closureTuple:=.none },codeIn K fd.code q && keepIn K (.ref f) && isFn K (.ref f))
  | _=>none
 | _=>none
noncomputable def ef (g:Fg->Option (Option Value)) (x q:Str) (st:Stmt):En:=(λK=>.f (NX K (g K) q),.f (some (PySem.W.fnOf x q (mj st) (gx st) (av st) .none .none .none .none none .none .none,true)))
noncomputable def VL (x:Str) (C:Addr):List En :=
  [ev (λK=>nsIn K mainGlobals x) (some (some (.ref C))), ev (λK=>findIn K (.ref C) "__getattribute__") (some (some (.builtin "BaseException.__getattribute__"))), ev (λK=>findIn K (.ref C) "__getattr__") (some none),
   ev (λK=>findIn K (.ref C) "__class__") (some (some (.builtin "object.__class__"))), eo (λK=>mroIn K C (.type "object")) (some true), eo (λK=>mroIn K C (.type "BaseException")) (some true), eb (λK=>isClsIn K C),
   ev (λK=>specialIn K (.builtin "object.__class__") "__get__") (some (some (.builtin "getset_descriptor.__get__"))), eo (λK=>takesIn K (.builtin "object.__class__")) (some true)]
noncomputable def YY (x:Str) (C:Addr):List En :=
 [ev (λK=>nsIn K mainGlobals x) (some (some (.ref C))),eb (λK=>plainGet K C Str.empty),eb (λK=>hasDictIn K C),eb (λK=>plainOver K C),ev (λK=>findIn K (.ref C) "__setattr__") (some (some (.builtin "object.__setattr__")))]
noncomputable def All (l:List (List En)) (K:Fg):Prop:=∀g∈l,Sat K g
noncomputable def DB (as:List Addr) (h:Heap):Fg:=as.filterMap λa=>match h.get? a with
 | some o=>some (a,o)
 | none=>none
theorem Lb (as:List Addr) (h:Heap):(DB as h).In h:=by
 induction as with
 | nil=>intro a o e; cases e
 | cons b as ih =>
  intro a o e;unfold DB at e;rw[List.filterMap_cons] at e;cases hb:h.get? b with
  | none=>rw[hb] at e; exact ih a o e
  | some x =>
   rw[hb] at e;simp only[List.lookup_cons] at e;split at e
   ·rename_i q; cases e; rw[beq_iff_eq.mp q]; exact hb
   ·exact ih a o e
noncomputable def hook (as:List Addr) (L:List (List En)):Hook where
 α:=List (List NW)
 obs s:=L.map λg=>g.map λe=>e.1 (DB as s.heap)
 val _:=L.map λg=>g.map (·.2)
 says _ h:=∃K:Fg,K.In h/\All L K
 of w s e:=⟨DB as s.heap,Lb as s.heap,λg hg x hx=>List.map_inj_left.mp (List.map_inj_left.mp e g hg) x hx⟩
 keeps w h h' x k:=by obtain⟨K,a,b⟩:=x; exact⟨K,a.keeps k,b⟩
end Hd
end
section
namespace Rw
open PySem L2 PySem.W PyProof.Rows PySem.Calls Hd
noncomputable def top (i:Nat):Stmt:=PySem.Challenge.pw_signalbox_k21_whole_through.main.body.getD i (.Pass ⟨0,0,0,0⟩)
noncomputable abbrev jC:Stmt:=top 11
noncomputable abbrev iO:Stmt:=top 12
noncomputable abbrev fR:Stmt:=top 13
noncomputable abbrev kQ:Stmt:=top 14
noncomputable abbrev iQ:Stmt:=top 15
noncomputable abbrev kR:Stmt:=top 16
noncomputable abbrev nD:Stmt:=top 17
noncomputable abbrev jV:Stmt:=top 18
noncomputable abbrev ig:Stmt:=top 19
noncomputable abbrev ij:Stmt:=top 20
noncomputable abbrev gK:Stmt:=top 21
noncomputable abbrev jW:Stmt:=inClass (top 23) 0
noncomputable abbrev fS:Stmt:=top 24
noncomputable abbrev pP:Stmt:=top 25
noncomputable abbrev pQ:Stmt:=top 27
noncomputable abbrev pR:Stmt:=top 28
noncomputable abbrev jD:Stmt:=inClass (top 30) 0
noncomputable abbrev lj:Stmt:=inClass (top 30) 3
noncomputable abbrev ku:Stmt:=inClass (top 30) 4
noncomputable abbrev ng:Stmt:=inClass (top 30) 7
noncomputable abbrev kS:Stmt:=inClass (top 31) 0
noncomputable abbrev kT:Stmt:=top 32
noncomputable abbrev pS:Stmt:=top 33
noncomputable abbrev wC:Stmt:=top 34
noncomputable abbrev tm:Stmt:=top 35
noncomputable abbrev pT:Stmt:=top 36
noncomputable abbrev mD:Stmt:=top 37
noncomputable abbrev rV:Stmt:=top 38
noncomputable abbrev jE:Stmt:=top 39
noncomputable abbrev ik:Stmt:=top 40
noncomputable abbrev jX:Stmt:=top 41
noncomputable abbrev il:Stmt:=top 42
noncomputable abbrev jf:Stmt:=top 43
noncomputable abbrev jg:Stmt:=top 44
noncomputable abbrev ip:Stmt:=top 45
noncomputable abbrev iq:Stmt:=top 46
noncomputable abbrev ll:Stmt:=top 47
noncomputable abbrev fN:Stmt:=top 48
noncomputable abbrev tq:Stmt:=top 50
noncomputable abbrev Lc:Stmt:=top 51
noncomputable abbrev wD:Stmt:=top 52
noncomputable abbrev ux:Stmt:=top 53
noncomputable abbrev jY:Stmt:=top 54
noncomputable abbrev jh:Stmt:=top 55
noncomputable abbrev nE:Stmt:=top 56
noncomputable abbrev pU:Stmt:=top 58
noncomputable abbrev tu:Stmt:=top 59
noncomputable abbrev jF:Stmt:=top 60
noncomputable abbrev iR:Stmt:=top 61
noncomputable abbrev kU:Stmt:=top 62
noncomputable abbrev nU:Stmt:=top 63
noncomputable abbrev rW:Stmt:=top 64
noncomputable abbrev kD:Stmt:=top 65
noncomputable abbrev qB:Stmt:=top 66
noncomputable abbrev gL:Stmt:=top 67
noncomputable abbrev pV:Stmt:=top 68
noncomputable abbrev nV:Stmt:=top 69
noncomputable abbrev qC:Stmt:=top 70
noncomputable abbrev pW:Stmt:=top 71
noncomputable abbrev kE:Stmt:=top 72
noncomputable abbrev pX:Stmt:=top 73
noncomputable abbrev nF:Stmt:=top 74
noncomputable abbrev nW:Stmt:=top 75
noncomputable abbrev nG:Stmt:=top 76
noncomputable abbrev wF:Stmt:=top 77
noncomputable abbrev pY:Stmt:=top 78
noncomputable abbrev mE:Stmt:=top 79
noncomputable abbrev nH:Stmt:=top 80
noncomputable abbrev pZ:Stmt:=top 81
noncomputable abbrev nI:Stmt:=top 82
noncomputable abbrev kW:Stmt:=top 83
noncomputable abbrev fT:Stmt:=top 84
noncomputable abbrev p0:Stmt:=top 85
noncomputable abbrev nJ:Stmt:=top 86
noncomputable abbrev p5:Stmt:=top 87
noncomputable abbrev kF:Stmt:=top 88
noncomputable abbrev nX:Stmt:=top 89
noncomputable abbrev ir:Stmt:=top 90
noncomputable def facts:List (List En):=[VL "BadYard" 44,
 VL "BoxError" 31,
 VL "Held" 68,
 VL "NotThere" 56,
 VL "Red" 80,
 [eb λK=>excIn K 44 [.type "ValueError",.type "Exception",.type "BaseException",.type "object"] "ValueError.__new__"],
 [eb λK=>excIn K 68 [.type "ValueError",.type "Exception",.type "BaseException",.type "object"] "ValueError.__new__"],
 [eb λK=>excIn K 56 [.type "ValueError",.type "Exception",.type "BaseException",.type "object"] "ValueError.__new__"],
 [eb λK=>excIn K 80 [.type "ValueError",.type "Exception",.type "BaseException",.type "object"] "ValueError.__new__"],
 [eo (λK=>exmOne K (.ref 44) (.ref 31)) (some true)],
 [eo (λK=>exmOne K (.ref 56) (.ref 31)) (some true)],
 [eo (λK=>exmOne K (.ref 68) (.ref 31)) (some true)],
 [eo (λK=>exmOne K (.ref 80) (.ref 31)) (some true)],
 [eo (λK=>kitOne K (.ref 44) (.ref 44)) (some true)],
 [eo (λK=>kitOne K (.ref 56) (.ref 44)) (some false)],
 [eo (λK=>kitOne K (.ref 68) (.ref 44)) (some false)],
 [eo (λK=>kitOne K (.ref 80) (.ref 44)) (some false)],
 [eo (λK=>kitOne K (.ref 44) (.ref 68)) (some false)],
 [eo (λK=>kitOne K (.ref 56) (.ref 68)) (some false)],
 [eo (λK=>kitOne K (.ref 68) (.ref 68)) (some true)],
 [eo (λK=>kitOne K (.ref 80) (.ref 68)) (some false)],
 [eo (λK=>kitOne K (.ref 44) (.ref 56)) (some false)],
 [eo (λK=>kitOne K (.ref 56) (.ref 56)) (some true)],
 [eo (λK=>kitOne K (.ref 68) (.ref 56)) (some false)],
 [eo (λK=>kitOne K (.ref 80) (.ref 56)) (some false)],
 [eo (λK=>kitOne K (.ref 44) (.ref 80)) (some false)],
 [eo (λK=>kitOne K (.ref 56) (.ref 80)) (some false)],
 [eo (λK=>kitOne K (.ref 68) (.ref 80)) (some false)],
 [eo (λK=>kitOne K (.ref 80) (.ref 80)) (some true)],
 [eo (λK=>kitOne K (.ref 44) (.type "ValueError")) (some true)],
 [eo (λK=>kitOne K (.ref 56) (.type "ValueError")) (some true)],
 [eo (λK=>kitOne K (.ref 68) (.type "ValueError")) (some true)],
 [eo (λK=>kitOne K (.ref 80) (.type "ValueError")) (some true)],
 YY "Fall" 285,
 [eb λK=>makesIn K 285],
 [eb λK=>keepIn K (.ref 285)],
 YY "Train" 172,
 [eb λK=>makesIn K 172],
 [eb λK=>keepIn K (.ref 172)],
 YY "Yard" 264,
 [eb λK=>makesIn K 264],
 [eb λK=>keepIn K (.ref 264)],
 [ev (λK=>findIn K (.ref 285) "near") (some none)],
 [ev (λK=>findIn K (.ref 285) "until") (some none)],
 [ev (λK=>findIn K (.ref 172) "ahead") (some none)],
 [ev (λK=>findIn K (.ref 172) "is_out") (some none)],
 [ev (λK=>findIn K (.ref 172) "steps") (some none)],
 [ev (λK=>findIn K (.ref 264) "falls") (some none)],
 [ev (λK=>findIn K (.ref 264) "found") (some none)],
 [ev (λK=>findIn K (.ref 264) "greens") (some none)],
 [ev (λK=>findIn K (.ref 264) "locks") (some none)],
 [ev (λK=>findIn K (.ref 264) "lying") (some none)],
 [ev (λK=>findIn K (.ref 264) "pieces") (some none)],
 [ev (λK=>findIn K (.ref 264) "signals") (some none)],
 [ev (λK=>findIn K (.ref 264) "ticks") (some none)],
 [ev (λK=>findIn K (.ref 264) "trains") (some none)],
 [ev (λK=>findIn K (.ref 264) "wait") (some none)],
 [ev (λK=>nsIn K mainGlobals "ValueError") (some none)],
 [ev (λK=>nsIn K mainGlobals "any") (some none)],
 [ev (λK=>nsIn K mainGlobals "enumerate") (some none)],
 [ev (λK=>nsIn K mainGlobals "int") (some none)],
 [ev (λK=>nsIn K mainGlobals "isinstance") (some none)],
 [ev (λK=>nsIn K mainGlobals "len") (some none)],
 [ev (λK=>nsIn K mainGlobals "list") (some none)],
 [ev (λK=>nsIn K mainGlobals "max") (some none)],
 [ev (λK=>nsIn K mainGlobals "min") (some none)],
 [ev (λK=>nsIn K mainGlobals "range") (some none)],
 [ev (λK=>nsIn K mainGlobals "reversed") (some none)],
 [ev (λK=>nsIn K mainGlobals "set") (some none)],
 [ev (λK=>nsIn K mainGlobals "tuple") (some none)],
 [ev (λK=>nsIn K mainGlobals "LAST_JOINT") (some (some (.int 999 284)))],
 [ev (λK=>nsIn K mainGlobals "MOST_PIECES") (some (some (.int 16 280)))],
 [ev (λK=>nsIn K mainGlobals "MOST_SIGNALS") (some (some (.int 16 282)))],
 [ef (λK=>nsIn K mainGlobals "joints_of") "joints_of" "joints_of" jC],
 [ef (λK=>nsIn K mainGlobals "pieces_at") "pieces_at" "pieces_at" iO],
 [ef (λK=>nsIn K mainGlobals "piece_beyond") "piece_beyond" "piece_beyond" fR],
 [ef (λK=>nsIn K mainGlobals "is_border") "is_border" "is_border" kQ],
 [ef (λK=>nsIn K mainGlobals "joints_out") "joints_out" "joints_out" iQ],
 [ef (λK=>nsIn K mainGlobals "is_points") "is_points" "is_points" kR],
 [ef (λK=>nsIn K mainGlobals "lie_for") "lie_for" "lie_for" nD],
 [ef (λK=>nsIn K mainGlobals "check_yard") "check_yard" "check_yard" jV],
 [ef (λK=>nsIn K mainGlobals "check_pieces") "check_pieces" "check_pieces" ig],
 [ef (λK=>nsIn K mainGlobals "check_joints") "check_joints" "check_joints" ij],
 [ef (λK=>nsIn K mainGlobals "check_signals") "check_signals" "check_signals" gK],
 [ef (λK=>findIn K (.ref 172) "__init__") "__init__" "Train.__init__" jW],
 [ef (λK=>nsIn K mainGlobals "pieces_under") "pieces_under" "pieces_under" fS],
 [ef (λK=>nsIn K mainGlobals "turned") "turned" "turned" pP],
 [ef (λK=>nsIn K mainGlobals "routes") "routes" "routes" pQ],
 [ef (λK=>nsIn K mainGlobals "ways_on") "ways_on" "ways_on" pR],
 [ef (λK=>findIn K (.ref 264) "__init__") "__init__" "Yard.__init__" jD],
 [ef (λK=>findIn K (.ref 264) "lock_of") "lock_of" "Yard.lock_of" lj],
 [ef (λK=>findIn K (.ref 264) "train_in") "train_in" "Yard.train_in" ku],
 [ef (λK=>findIn K (.ref 264) "where") "where" "Yard.where" ng],
 [ef (λK=>findIn K (.ref 285) "__init__") "__init__" "Fall.__init__" kS],
 [ef (λK=>nsIn K mainGlobals "set_route") "set_route" "set_route" kT],
 [ef (λK=>nsIn K mainGlobals "cancel") "cancel" "cancel" pS],
 [ef (λK=>nsIn K mainGlobals "tick") "tick" "tick" wC],
 [ef (λK=>nsIn K mainGlobals "throw") "throw" "throw" tm],
 [ef (λK=>nsIn K mainGlobals "unlock") "unlock" "unlock" pT],
 [ef (λK=>nsIn K mainGlobals "signal_of") "signal_of" "signal_of" mD],
 [ef (λK=>nsIn K mainGlobals "way_of") "way_of" "way_of" rV],
 [ef (λK=>nsIn K mainGlobals "is_at_border") "is_at_border" "is_at_border" jE],
 [ef (λK=>nsIn K mainGlobals "signal_ahead") "signal_ahead" "signal_ahead" ik],
 [ef (λK=>nsIn K mainGlobals "train_near") "train_near" "train_near" jX],
 [ef (λK=>nsIn K mainGlobals "train_called") "train_called" "train_called" il],
 [ef (λK=>nsIn K mainGlobals "check_route") "check_route" "check_route" jf],
 [ef (λK=>nsIn K mainGlobals "check_piece") "check_piece" "check_piece" jg],
 [ef (λK=>nsIn K mainGlobals "check_points") "check_points" "check_points" ip],
 [ef (λK=>nsIn K mainGlobals "check_signal") "check_signal" "check_signal" iq],
 [ef (λK=>nsIn K mainGlobals "is_number_of") "is_number_of" "is_number_of" ll],
 [ef (λK=>nsIn K mainGlobals "check_not_held") "check_not_held" "check_not_held" fN],
 [ef (λK=>nsIn K mainGlobals "enter") "enter" "enter" tq],
 [ef (λK=>nsIn K mainGlobals "go") "go" "go" Lc],
 [ef (λK=>nsIn K mainGlobals "draw") "draw" "draw" wD],
 [ef (λK=>nsIn K mainGlobals "turn") "turn" "turn" ux],
 [ef (λK=>nsIn K mainGlobals "route_past") "route_past" "route_past" jY],
 [ef (λK=>nsIn K mainGlobals "pass_signal") "pass_signal" "pass_signal" jh],
 [ef (λK=>nsIn K mainGlobals "come_on") "come_on" "come_on" nE],
 [ef (λK=>nsIn K mainGlobals "_law_cell") "_law_cell" "_law_cell" pU],
 [ef (λK=>nsIn K mainGlobals "_law_mix") "_law_mix" "_law_mix" tu],
 [ef (λK=>nsIn K mainGlobals "_law_beyond") "_law_beyond" "_law_beyond" jF],
 [ef (λK=>nsIn K mainGlobals "_law_pieces") "_law_pieces" "_law_pieces" iR],
 [ef (λK=>nsIn K mainGlobals "_law_signals") "_law_signals" "_law_signals" kU],
 [ef (λK=>nsIn K mainGlobals "_law_outs") "_law_outs" "_law_outs" nU],
 [ef (λK=>nsIn K mainGlobals "_law_ways") "_law_ways" "_law_ways" rW],
 [ef (λK=>nsIn K mainGlobals "_law_routes") "_law_routes" "_law_routes" kD],
 [ef (λK=>nsIn K mainGlobals "_law_new") "_law_new" "_law_new" qB],
 [ef (λK=>nsIn K mainGlobals "_law_train_in") "_law_train_in" "_law_train_in" gL],
 [ef (λK=>nsIn K mainGlobals "_law_held") "_law_held" "_law_held" pV],
 [ef (λK=>nsIn K mainGlobals "_law_free") "_law_free" "_law_free" nV],
 [ef (λK=>nsIn K mainGlobals "_law_set") "_law_set" "_law_set" qC],
 [ef (λK=>nsIn K mainGlobals "_law_near") "_law_near" "_law_near" pW],
 [ef (λK=>nsIn K mainGlobals "_law_cancel") "_law_cancel" "_law_cancel" kE],
 [ef (λK=>nsIn K mainGlobals "_law_tick") "_law_tick" "_law_tick" pX],
 [ef (λK=>nsIn K mainGlobals "_law_throw") "_law_throw" "_law_throw" nF],
 [ef (λK=>nsIn K mainGlobals "_law_pass") "_law_pass" "_law_pass" nW],
 [ef (λK=>nsIn K mainGlobals "_law_enter") "_law_enter" "_law_enter" nG],
 [ef (λK=>nsIn K mainGlobals "_law_go") "_law_go" "_law_go" wF],
 [ef (λK=>nsIn K mainGlobals "_law_draw") "_law_draw" "_law_draw" pY],
 [ef (λK=>nsIn K mainGlobals "_law_turn") "_law_turn" "_law_turn" mE],
 [ef (λK=>nsIn K mainGlobals "_law_there") "_law_there" "_law_there" nH],
 [ef (λK=>nsIn K mainGlobals "_law_done") "_law_done" "_law_done" pZ],
 [ef (λK=>nsIn K mainGlobals "_law_asked") "_law_asked" "_law_asked" nI],
 [ef (λK=>nsIn K mainGlobals "_law_refusal") "_law_refusal" "_law_refusal" kW],
 [ef (λK=>nsIn K mainGlobals "_law_near_deeds") "_law_near_deeds" "_law_near_deeds" fT],
 [ef (λK=>nsIn K mainGlobals "_law_deed") "_law_deed" "_law_deed" p0],
 [ef (λK=>nsIn K mainGlobals "_law_start") "_law_start" "_law_start" nJ],
 [ef (λK=>nsIn K mainGlobals "_law_both") "_law_both" "_law_both" p5],
 [ef (λK=>nsIn K mainGlobals "_law_passed") "_law_passed" "_law_passed" kF],
 [ef (λK=>nsIn K mainGlobals "_law_goes") "_law_goes" "_law_goes" nX],
 [ef (λK=>nsIn K mainGlobals "law") "law" "law" ir]]
noncomputable abbrev PW:=PySem.Challenge.pw_signalbox_k21_whole_through
noncomputable def Q:Program:=PySem.W.view PW [90]
noncomputable def ks:List Str:=(["_wall","BoxError","BadYard","NotThere","Held","Red","MOST_PIECES","MOST_SIGNALS","LAST_JOINT","joints_of","pieces_at","piece_beyond","is_border","joints_out","is_points","lie_for","check_yard","check_pieces","check_joints","check_signals","Train","pieces_under","turned","routes","ways_on","Yard","Fall","set_route","cancel","tick","throw","unlock","signal_of","way_of","is_at_border","signal_ahead","train_near","train_called","check_route","check_piece","check_points","check_signal","is_number_of","check_not_held","enter","go","draw","turn","route_past","pass_signal","come_on","_law_cell","_law_mix","_law_beyond","_law_pieces","_law_signals","_law_outs","_law_ways","_law_routes","_law_new","_law_train_in","_law_held","_law_free","_law_set","_law_near","_law_cancel","_law_tick","_law_throw","_law_pass","_law_enter","_law_go","_law_draw","_law_turn","_law_there","_law_done","_law_asked","_law_refusal","_law_near_deeds","_law_deed","_law_start","_law_both","_law_passed","_law_goes"]:List String).map Str.ofString
noncomputable def psn:Pos:=match ir with
 | .FunctionDef _ _ _ _ _ _ _ _ _ p=>p
 | _=>⟨0,0,0,0⟩
noncomputable def hk:Hook:=hook [3,2,31,30,44,43,56,55,68,67,80,79,172,171,264,263,285,284,21,20,89,88,94,93,101,100,108,107,113,112,120,119,127,126,134,133,141,140,148,147,155,154,169,168,181,180,188,187,195,194,200,199,212,211,219,218,226,225,233,232,240,239,247,246,254,253,261,260,282,281,296,295,303,302,310,309,317,316,324,323,331,330,338,337,345,344,352,351,359,358,366,365,373,372,380,379,387,386,394,393,401,400,408,407,415,414,422,421,429,428,434,433,441,440,448,447,455,454,462,461,469,468,474,473,479,478,486,485,491,490,496,495,501,500,506,505,511,510,518,517,523,522,528,527,535,534,540,539,547,546,554,553,559,558,566,565,573,572,580,579,585,584,592,591,599,598,606,605,613,612,618,617,625,624,632,631,639,638,644,643,649,648,656,655] facts
noncomputable def tr (P:Params):BT:=treeOf (boot_heap P).objs.toList
theorem opn:opening PW=plainProg PW.main.scope.names:=by kernel_rfl
theorem fen (s:Shared):fenceModules? PW s=some s:=by kernel_rfl
theorem zW1:PySem.Challenge.rw_signalbox_k21_whole_through.row.wellSaid=true:=by kernel_rfl
theorem wsd:PySem.Challenge.rw_signalbox_k21_whole_through.wellSaid=true:=by
 unfold PySem.W.OpenLaw.wellSaid
 rw[zW1,Bool.true_and]
 kernel_rfl
theorem siz (w:World):((boot_heap w.params).isNs mainGlobals && (Array.mk ([]:List GenState)).size == 0,(boot_heap w.params).objs.size,(boot_heap w.params).nsMap mainGlobals "__annotations__")=(true,11,(some (.ref 6))):=by kernel_rfl
theorem tri (P:Params):absHeap (tr P) 11 {}=boot_heap P:=by kernel_rfl
theorem run (w:World) (os:OsState):(HB (stepT (denote treeTable) PW w) 11 (some (.ref 6)) 8564 ⟨tr w.params,11,{},Array.mk [],boot_drawn,boot_toks,os⟩ (topStub PW)).map (λs=>NV PW Q ks (λs=>xlAt Q [] s && recOk [] s) true (boot_heap w.params) s.abs)=some (true,openGood Q ks):=by kernel_rfl
theorem ruB (w:World) (os:OsState):(HB (stepT (denote treeTable) PW w) 11 (some (.ref 6)) 8564 ⟨tr w.params,11,{},Array.mk [],boot_drawn,boot_toks,os⟩ (topStub PW)).map (λs=>hk.obs s.abs)=some (hk.val w):=by kernel_rfl
end Rw
end
def ZqN (k:Lean.Name):String:="\t".intercalate (k.components.map fun c=>c.toString false)
def ZqS:Nat->Lean.Syntax->String
|0,_=>""
|_,.atom _ v=>"'"++v++"\n"
|_,.ident _ _ x _=>"."++ZqN x++"\n"
|n+1,.node _ k as=>(match k with
 |`null=>"(n"
 |.str `Lean.Parser.Term x=>"(t"++x
 |.str `Lean.Parser.Tactic x=>"(c"++x
 |k=>"(_"++ZqN k)++"\n"++as.foldl (fun r a=>r++ZqS n a) ""++")\n"
|_,_=>"?\n"
local macro_rules
|`(mutual $cs* end)=>do
 if !cs[0]!.raw.isOfKind ``Lean.Parser.Command.universe then Lean.Macro.throwUnsupported
 let l:=Lean.Syntax.mkStrLit ((cs.extract 1).foldl (fun r c=>let d:=c.raw[1];r++ZqS 10000 (.node .none `null #[d[1][0],d[2][0],d[3][1]])) "")
 `(def $(Lean.mkIdent `ZqD):ident:String:=$l)
mutual
universe zD
def c8 ξ:=some (ξ)
def aa2 ξ ψ:=c8 (ξ ψ)
def d6:=(by decide)
def η:=.int
def abS ξ:=aa2 η ξ
def aaF ξ:=(by simpa using ξ)
def acB:=by dsimp only[List.set]
def asx ξ:=List (ξ)
def aDP:=by with_unfolding_all rfl
def Ξ:=(by simp)
def ag8 ξ:=decide (ξ)
def b6:=(by omega)
def auX ξ ψ ζ χ:=Inv ξ pins ψ ζ χ
def c9:=List Addr
def afR ξ:=Heap.get?_push_of_some _ ξ
def ai5 ξ ψ:=Nat.le_trans ξ (ψ)
def ajn ξ:=starEach ξ X.env
def ο:=.obj
def agA ξ:=aa2 ο ξ
def ae5 ξ ψ:=asx (ξ×ψ)
def d7 ξ:=(by simp[ξ])
def Ω ξ ψ:=by
 rw[ξ]
 exact ψ
def x6:=List Value
def ack:=Nat.le_refl _
def amZ:=Option Value
def adG ξ ψ ζ:=cz.bind (Rp:=ξ) ψ ζ
def aec:=Option Nat
def g9 ξ ψ ζ:=by
 rw[ξ] at ψ
 exact ζ
def an9 ξ:=af ξ aj
def apm ξ ψ ζ χ:=by obtain⟨ξ,ψ,ζ⟩:=List.mem_map.mp χ
def ag9 ξ:=eval ξ X.env
def d5:=List PV
def aw8:=by decide +kernel
def b5:=.str
def afF ξ ψ ζ χ:=by
 obtain⟨ξ,ψ⟩:=ζ
 exact χ
def aar:=(by rw[aDP])
def ac1:=(by rw[aw8])
def b7:=ae 0
def adP ξ ψ ζ χ:=by
 obtain⟨ξ,ψ⟩:=ζ
 exact χ
def JC ξ ψ:=aB aO ξ (ψ)
def d9 ξ ψ ζ χ φ υ:=by
 have ξ:ψ:=ζ
 have χ:φ:=υ
def ς:=.lst
def aoa ξ ψ:=by
 unfold ξ
 refine ψ
def adw ξ ψ ζ:=by obtain⟨ξ,rfl,ψ⟩:=ζ
def aha ξ:=List.mem_cons_of_mem _ ξ
def DB ξ ψ ζ:=by
 have ξ:=ψ
 refine ζ
def adi ξ:=wpAny_bind (ξ)
def abY ξ ψ ζ χ φ:=by obtain⟨ξ,ψ,rfl,ζ,χ⟩:=φ
def ah6:=W.falls.map (·.1)
def abQ ξ ψ:=by
 rw[← ξ]
 exact ψ
def ahB ξ ψ:={ ξ with heap:=ψ }
def aAp ξ ψ ζ:=List.mem_map.mpr ⟨ξ,ψ,ζ⟩
def acG:=Option Int
def ahS ξ ψ ζ χ φ υ:=wpAny ξ ψ (ζ) χ φ υ
def akF ξ:=aa2 ς ξ
def akG ξ:=⟨ξ,rfl⟩
def acC:=List Str
def aaN ξ:=bS false ξ
def g8:=List V
def adj ξ:=ξ->Prop
def am0:=adj Shared
def Δ:=.ref
def auY:=t.steps.reverse.map flip
def x8:=ae5 Addr Obj
def aaa ξ ψ ζ χ:=by
 have ξ:=ψ
 have ζ:=χ
def aej ξ:=an9 (ξ)
def acA ξ:=aej (aa ξ)
def HB:=List dM
def aeC ξ ψ:=auX X σ ξ ψ
def akH ξ ψ:=s.heap.get? ξ=some ψ
def adX:=.builtin
def ajo ξ ψ:=ax G.hu (aa ξ) ψ
def alh:=t.tr.steps.reverse.map flip
def ajT:=t.ahead.map (·.1)
def NV ξ ψ ζ:=λ ξ ψ ζ=>?_
def afi ξ:=ξ≤sizeLine
def ali ξ:=List.replicate Y.ps.length ξ
def ahC ξ ψ:=fun ξ=>PV.int ψ
def ab4 ξ ψ ζ χ:=by
 have ξ:ψ:=ζ
 refine χ
def ab5:=List Expr
def aob ξ:=List.getElem?_eq_none (ξ)
def abE:=List Int
def agB ξ ψ ζ χ:=fO ξ (NV ψ ζ χ)
def alj:=if_neg Bool.false_ne_true
def am1 ξ:=aG B.locks ξ
def aAq ξ:=Heap.get?_push_size ξ rfl
def ajp:=Heap.lt_size e
def akI ξ ψ ζ χ:=if ξ=ψ then ζ else χ
def afS ξ ψ:=by exact absurd ξ ψ
def afG ξ:=by
 rw[ξ]
 dsimp only
def f6 ξ:=λ ξ=>?_
def aiB ξ:=Nat.ne_of_lt (ξ)
def alk ξ ψ:=by obtain⟨ξ,rfl⟩:=ψ
def akJ ξ ψ:=beyond Y.ps ξ ψ
def abZ:=by exact w.elim
def acn ξ ψ ζ:=ξ[ψ]? = some ζ
def aqO ξ ψ:=Nat.lt_of_lt_of_le (ξ) ψ
def aaE:=aU Y.rs r
def ajU:=X.env.cells.lookup x
def afT ξ ψ:=⟨ξ,rfl,ψ⟩
def adR ξ ψ:=λ ξ=>ag8 ψ
def adY ξ ψ:=by
 refine ξ
 refine ψ
def ajq:=B.falls.map (·.1)
def ajV:=w.map (·.1)
def agV ξ:=bL trivial ξ
def aeZ ξ:=by
 rw[acB]
 refine ξ
def aen ξ ψ ζ χ φ υ ϑ:=by
 obtain⟨ξ,ψ,ζ,χ,φ⟩:=υ
 exact ϑ
def aDQ ξ:=["_law_world",ξ]
def ajr ξ:=ξ == NameKind.free
def ac2 ξ:=ajo ξ aq
def adZ ξ:=ajo ξ ay
def aeO:=if_pos rfl
def afH:=sl.mono e1
def f7:=ae 1
def ab0 ξ:=aM G.gg ξ
def aw9 ξ:=ae5 Str ξ
def apn ξ ψ:=List.replicate (ξ) ψ
def ai6:=d.map (·.1)
def aeq ξ:=by
 have:=ξ
 omega
def acr:=.type
def aa8:=ba Y.rs r
def alm ξ ψ ζ:=by
 rw[ξ] at ψ
 dsimp only at ζ
def am2 ξ:=by
 unfold ξ
 dsimp only
def ad0 ξ:=ai5 ξ d6
def aqP:=t.tr.steps.map aI
def auZ ξ ψ ζ:=by obtain⟨ξ,ψ⟩:=Option.isSome_iff_exists.mp ζ
def afr ξ ψ ζ χ φ υ:=by
 obtain⟨ξ,ψ,ζ,χ⟩:=φ
 exact υ
def acs ξ:=ξ=false
def apo ξ:=ck ξ Y.rs.length
def sT:=agA 7
def ahb ξ:=(ξ).length
def ai7 ξ ψ:=by simp[ξ,ψ,PyData.eqv]
def z0:=aeC H s
def asy ξ:=asx (Option ξ)
def ad3 ξ:=Pc.at ps ξ
def c7:=ae 2
def apq ξ ψ:=by rw[List.getElem?_set_self ξ] at ψ
def am3:=bj.bC.mpr rfl
def apr ξ:=ck ξ Y.ps.length
def asz ξ ψ:=(by simpa[ξ] using ψ)
def ajW ξ:=c8 (cb ξ)
def adk ξ ψ:=VE X Ex ξ ψ
def ab7 ξ ψ:=λ ξ ψ=>?_
def t9:=agA 0
def aps ξ:=List.mem_append_right _ ξ
def aoc ξ:=Value->ξ
def abP:=aoc am0
def ahD:=agA M.length
def t7:=abS x
def aab ξ ψ:=by exact⟨ξ,ψ⟩
def b4:=.inl
def aaW:=some o
def asA:=List.getElem?_eq_getElem hl
def am4 ξ ψ ζ:=attributeBase ξ ψ X.env ζ
def acD ξ:=aR ξ G.nd
def aeS ξ:=ξ (·.1)
def aqQ ξ ψ:=(ξ ▸ List.mem_of_getElem? ψ)
def apt ξ:=Nat.lt_of_le_of_lt ξ d6
def ab1 ξ ψ ζ:=c8 (ξ ψ ζ)
def asB:=.Attribute
def am5 ξ:=c8 (some ξ)
def aod:=List.range ps.length
def abF:=some u
def agC ξ ψ ζ:=by
 unfold ξ
 rw[Ω ψ ζ]
def acu ξ ψ:=by
 unfold ξ
 rw[ψ]
def Θ ξ:=dC (η ξ)
def t8 ξ:=dC (b5 ξ)
def au0:=s.heap.push PySem.W.emptyDict
def aln ξ ψ:=PySem.W.findIn K ξ ψ
def ajs ξ ψ ζ χ φ υ ϑ:=by
 rw[d9 ξ ψ ζ χ φ υ]
 refine ϑ
def adL ξ ψ:=by
 subst ξ
 exact ψ
def aqR ξ ψ:=by rw[List.getElem?_set_ne ξ] at ψ
def afj ξ ψ ζ χ:=by obtain⟨bN,ξ,ψ,ζ⟩:=χ
def aiC ξ:=by simp only[List.mem_cons,List.not_mem_nil,or_false] at ξ
def ac4 ξ ψ:=by refine⟨ξ,ψ⟩
def aa9 ξ ψ ζ χ:=⟨ξ,ψ,ζ,rfl,χ⟩
def au1 ξ:=ξ<Y.ss.length
def aoe ξ ψ:=by have ξ:=of_decide_eq_true ψ
def am6:=sc.names.lookup x
def ajX:=List Key
def ae6:=List Nat
def adM:=ο M.length
def acE ξ ψ ζ χ:=λ ξ ψ ζ χ=>?_
def ajt ξ ψ:={ ξ with locks:=ψ }
def aqS ξ:=h.gt ξ nofun
def ah7 ξ ψ:=⟨ξ,ψ,rfl⟩
def al0:=jR.set Ξ
def c6:=.bad
def b9:=.inr
def x9 ξ ψ:=(ξ).trans ψ
def ado ξ:=x9 (ar d6) ξ
def aAr ξ ψ:=x9 (ar ξ) ψ
def au2 ξ:=assignEach ξ X.env
def ad5:=some x
def ahc ξ ψ:=aB ξ f7 ψ
def ads ξ ψ ζ:=ahS (model X.prog X.w) X.A ξ ψ X.xe ζ
def asC ξ:=X.s₀.heap.objs.size≤ξ
def d8:=ae 3
def afU ξ:=M.length+ξ
def aqT:=adj Hp
def aof ξ:=JC b7 (dC (b5 ξ))
def ajY:=aof "trains"
def alo ξ ψ:={ cls:=ξ,data:=ψ }
def akK ξ ψ ζ:=λ ξ=>PyData.eqv ψ ζ
def acv:=some t
def abU ξ ψ ζ:=bK K mg ξ ψ ζ
def af5 ξ:=if_pos (ξ)
def afk ξ ψ ζ χ φ:=by rw[afF ξ ψ ζ ⟨χ,φ⟩]
def aer:=by
 simp
 omega
def akL ξ:=aa2 b5 ξ
def afs:=.refl
def afI ξ:=cc aL ξ b7
def al1 ξ:=if_neg (ξ)
def afJ:=List Env
def agW:=by exact w1.elim
def aeG:=List DE
def aeI:=asx aec
def adS ξ ψ ζ χ:=by
 have ξ:=ψ
 rw[ζ] at χ
def aaT:=.cons
def aad:=.Name
def al2 ξ:=[MO.lst ξ]
def axa ξ:=List.getElem?_append_left (ξ)
def aeT:=List Sg
def aas:=abS r
def ahd:=h'.get? b
def aft ξ:=bA ξ (aa 0)
def ahf ξ ψ:=acn ξ i ψ
def aDR ξ ψ ζ:=wpAny_bind (ξ:=Builtin.Tuple.tupleExact ψ) ζ
def acw:=aA ?_
def f9:=.tup
def axb ξ:=ξ≠X.env.locals
def aqU:=Option.some.inj h1
def af6:=agA t.ob
def ah8 ξ ψ:=⟨ξ,ψ,false⟩
def aeU ξ ψ:=(by simp[ξ,ψ])
def am7:=DecidableEq κ
def am8 ξ ψ:=ax G.hu (adZ ξ) ψ
def asD ξ:=(ξ,false)
def acL ξ:=ahb (ξ)
def aAs ξ:=c8 (aI ξ)
def aaY:=.none
def apu ξ ψ:=by
 rw[ξ,ψ]
 dsimp only
def aAt:=W.trains.map (·.1)
def asE:=List.Sublist.refl _
def au3 ξ:=rj B.trains ξ
def aqV ξ:=(by simp at ξ)
def alp ξ:=JC b7 (dC (η ξ))
def abV ξ ψ:=Fn z k ξ 2 ψ
def aAu ξ ψ ζ:=PyProof.Rows.callWith_type1 (ξ) ψ ζ
def b8 ξ:=ξ=true
def agX:=b8 X.calm
def aDS ξ ψ ζ:=Fn z ξ "_law_beyond" ψ ζ
def alq:=List.range n
def akM ξ:=I.cR.fresh (ξ)
def ah9 ξ:=⟨rfl,ξ⟩
def abW:=aG W.trains x
def aAv ξ:=ξ<Y.ps.length
def am9 ξ:=ξ<W.locks.length
def au4 ξ:=X.A.units+ξ
def aia ξ ψ ζ:=by
 rw[ξ] at ψ
 simp at ζ
def afl:=I.tok _
def aiD ξ:=H.v ξ rfl
def aib ξ:=aa2 Δ ξ
def asF:=List.mem_cons.mp h
def aAw ξ ψ ζ:=swapsWith ξ ψ ζ X.env
def ana ξ ψ ζ χ φ:=by
 obtain⟨ξ,ψ,ζ⟩:=χ
 refine φ
def aiE ξ ψ ζ:=cS G.hu ξ ψ ζ
def apv ξ:=ξ≤2097152
def axc ξ:=ps.length≤ξ
def ajZ ξ:=show ξ from r
def apw ξ ψ:=if ξ then ψ else c6
def afa:=bH ps
def aj0 ξ ψ:=bj K ι S ξ ψ
def aj1 ξ ψ:=aC ξ hr G.gg (af (aa 0) (acA ψ))
def aqW:=aDQ "_law_route"
def al3:=ns.map V.int
def al4 ξ:=LH ξ ds.length
def aeJ:=some v
def apx ξ ψ ζ χ φ υ:=by
 obtain⟨ξ,ψ,ζ⟩:=χ
 rw[ac4 φ υ]
def agD:=.fields
def afK:=List α
def afL:=List Rt
def asG ξ:=Vals ξ us
def afM ξ:=H.x ξ rfl
def al5 ξ ψ:=M.set ξ (ς ψ)
def alr ξ:=Sum.inl (ξ:Int)
def aa7:=.ins
def aAx ξ ψ:=Calls.callWith_builtin ξ (Calls.evalArgs_plain ψ)
def ahi ξ ψ ζ:=akI ξ true ψ ζ
def au5 ξ:=Calls.spliced_cons (ξ)
def au6 ξ:=wpAny_Call_Name_kw (ξ)
def als ξ ψ ζ:=by
 rw[ξ] at ψ ⊢
 exact ζ
def al6 ξ ψ ζ χ φ υ ϑ:=by
 obtain⟨ξ,ψ,ζ,χ,φ⟩:=υ
 refine ϑ
def ab8 ξ ψ ζ:=by refine⟨ξ,ψ,ζ⟩
def aiF ξ:=acs (aeS ξ)
def aqX ξ ψ ζ:=abU ξ ψ ["yard",ζ]
def aj2:=acr "list"
def afm:=Res PV
def YX:=.exc
def aAy ξ:=I1.cR.fresh (ξ)
def aDT ξ:=aa2 ξ "getset_descriptor.__get__"
def alu:=aof "falls"
def al7 ξ:=dW ξ B.locks
def afV:=.cancel
def apy ξ:=aa2 f9 ξ
def afW:=b5 "straight"
def al8 ξ ψ ζ χ:=if ξ∈ψ then ζ else χ
def asH ξ:=xs.length≤ξ
def aog:=Nat.zero_le _
def ahE ξ ψ ζ:={ ξ with heap:=ψ,toks:=ζ }
def alv ξ ψ ζ χ φ υ ϑ:=by
 obtain⟨ξ,ψ,ζ⟩:=χ
 have φ:υ:=ϑ
def agl ξ ψ ζ χ φ υ ϑ:=by
 obtain⟨ξ,ψ,ζ⟩:=χ
 exact⟨φ,υ,ϑ⟩
def aea ξ ψ:=ag8 (ξ∈ψ)
def acX ξ ψ ζ:=aX (ξ) ψ ζ ?_
def aj3 ξ ψ:=by
 simp only[ξ]
 rw[ψ]
def ae7 ξ ψ ζ χ:=⟨ξ,ψ,rfl,ζ,χ⟩
def aDU ξ:=by rw[List.getD_eq_getElem?_getD,List.getElem?_eq_getElem ξ]
def axd:=tupleKind_room_in1 hu
def anb ξ:=by exact False.elim ξ
def akN ξ:=aej (ac2 ξ)
def aeK:=some k
def aAz ξ ψ ζ χ φ υ:=by
 obtain⟨ξ,ψ⟩:=ζ
 obtain⟨χ,φ⟩:=υ
def aLo ξ:=List.length_pos_iff.mpr (ξ)
def aDV ξ:=aLo (List.isEmpty_eq_false_iff.mp ξ)
def aj4 ξ ψ ζ:=ξ λ ψ M1=>ζ
def aIQ ξ:=List.replicate k ξ
def agm:=some xs
def aiG ξ:=ξ<ps.length
def aAA ξ:=List.getElem?_set_self (ξ)
def afu ξ ψ ζ χ φ:=fO ξ λ ψ ζ χ=>φ
def afN:=akF xs
def ae2:=ae5 Key PV
def acm ξ ψ:=by rw[aoa ξ (cN (P:=λ q=>ψ) ?_)]
def aAB ξ:=ξ=M.length
def akO:=aAB M'.length
def anc ξ ψ ζ χ φ υ:=by
 obtain⟨ξ,ψ⟩:=ζ
 have χ:φ:=υ
def apz:=wpAny_pure ?_
def apA:=Nat.le_succ _
def aic:=h.get? b
def al9 ξ ψ ζ:=aC ξ hr G.gg (af (aa 0) (af ψ ζ))
def aqY:=bootBuiltins x
def aqZ:=t.ahead.drop m
def aq0 ξ:=ck ξ Y.ss.length
def aoh ξ ψ:=by
 rw[am2 ξ]
 rw[afG ψ]
def axe ξ ψ:=by have ξ:=of_decide_eq_false ψ
def alw:=.Subscript
def aoi ξ:=bj.mono ξ r1
def alx ξ ψ:=jP ξ ψ W.locks
def ahF ξ ψ:=bf ξ ψ aq
def adz ξ ψ:=PE X ξ ψ
def aDW ξ:=List.getElem?_append_right (ξ)
def Lb ξ ψ ζ:=by exact⟨ξ,ψ,ζ⟩
def axf ξ:=SeqAt.readOf s.heap ξ
def aLp:=B.trains.map (·.1)
def aIR ξ:=Loc X.env.scope ξ
def ane:=by dsimp only at h
def anf ξ ψ ζ:=by rw[adw ξ ψ (vals1 ζ)]
def ang ξ:=aej (adZ ξ)
def aAC ξ:=H.o ξ rfl
def agY ξ ψ ζ:=⟨ξ,ψ,rfl,ζ⟩
def aq1 ξ ψ:={ ξ with trains:=ψ }
def agE ξ ψ:=aF (ξ) (ψ)
def aid ξ ψ ζ:=agE ξ (agE ψ ζ)
def aju ξ ψ:=agE ξ (bJ ψ)
def aAD:=List.getElem?_set_ne e
def aj5 ξ ψ ζ:=aK ξ ["yard",ψ] ζ
def aiH:=akG none
def aes ξ ψ ζ χ φ:=ahS ξ ψ ζ χ φ s
def aDX ξ:=W.trains.length≤ξ
def aq2 ξ ψ:=Nat.le_trans (ξ) ψ
def akP ξ ψ ζ:=by
 rw[ξ,ψ,ζ]
 dsimp only
def agF:=some c
def aoj ξ ψ:=kvs.map λ ξ=>ψ
def ahT ξ ψ:=by by_cases ξ:b8 ψ
def apB ξ ψ:=al1 (λ ξ=>ψ)
def ahG ξ ψ ζ:=show ξ=ψ from ζ
def aiI ξ:=acs (ξ)
def ai8 ξ ψ:=aiI (ξ == ψ)
def aDY:=Bool.and_eq_true_iff.mp hk
def aDZ:=t.tr.steps.dropLast.map aI
def aAE ξ:=List.getElem?_set_ne (ξ)
def au7 ξ:=JC ξ f7
def ahj:=akL w.s
def anh ξ ψ ζ χ:=by
 unfold ξ at ψ
 rw[ζ] at χ
def ani:=some .local
def agG:=some .cell
def aeL ξ ψ:=ai (ξ) (ψ)
def aj6 ξ ψ ζ:=aeL ξ (aeL ψ ζ)
def afX ξ ψ ζ:=ai (aZ ξ G.nd (ψ)) (ζ)
def aiJ ξ ψ ζ χ φ:=afX ξ ψ (afX ζ χ φ)
def axg ξ ψ:=aqO (Heap.lt_size ξ) ψ
def aq3 ξ ψ ζ χ φ:=by
 obtain⟨ξ,ψ⟩:=ζ
 rw[χ] at φ
def aq4:=afi xs.length
def apC ξ ψ ζ χ φ:=by
 obtain⟨ξ,ψ⟩:=ζ
 have χ:=φ
def anj:=.function
def akQ:=Option PV
def aok ξ:=dC (ξ false)
def asI ξ:=h.lo ξ d6
def adt:=r<Y.rs.length
def au8 ξ ψ ζ:=by have ξ:ψ:=Option.some.inj ζ
def au9 ξ ψ:=if ξ then ψ else none
def aD0 ξ ψ:=by rw[Ω (LawfulBEq.eq_of_beq ξ) ψ]
def asJ:=way.map (·.1)
def asK:=afi kvs.length
def aol:=Value.ref a
def aj7 ξ:=gB.set (ξ)
def ahH:=.BoolOp
def adW ξ ψ ζ χ φ:=λ ξ ψ ζ χ φ=>?_
def aie ξ ψ:=Fn z ξ ψ 2 _
def agH ξ ψ ζ χ φ υ ϑ:=by rw[d9 ξ ψ ζ χ (aie φ υ) ϑ]
def aIS ξ ψ ζ χ:=by obtain⟨ξ,ψ,ζ⟩:=Option.map_eq_some_iff.mp χ
def akR ξ ψ ζ χ φ υ:=by
 rw[aaa ξ ψ ζ χ]
 have φ:=υ
def ava ξ:=ξ<s.heap.objs.size
def ahI ξ:=JC c7 (dC (b5 ξ))
def axh ξ ψ:=scope.names.lookup ξ=ψ
def ae4 ξ ψ ζ:=aF (bR ξ (ψ)) (ζ)
def avb ξ ψ ζ χ φ:=ae4 ξ ψ (ae4 ζ χ φ)
def aD1 ξ:=Nat.le_trans I.ok.RD ξ
def aAF ξ:=b8 (PyData.canLay0 ξ)
def ajv:=h.get? a
def axi ξ:=c8 (gJ ξ)
def aiK ξ ψ:=ξ->Option ψ
def agI ξ:=by unfold ξ at w
def aIT:=List.getElem?_eq_some_iff.mp h1
def aIU:=List.getElem?_eq_some_iff.mp h2
def aIV:=List.getElem?_eq_some_iff.mp hM
def axj ξ:=W.locks.getD ξ none
def avc ξ ψ:=bj.eZ.mpr (afT ξ ψ)
def apD ξ ψ:=X.env.kindOf ξ=ψ
def apE ξ:=show ξ from rfl
def ank ξ ψ:=kZ ξ ψ B.locks
def aly:=some true
def akS ξ ψ ζ:=by
 subst ξ
 rw[ψ] at ζ
def apF:=c8 f7
def afY:=.enter
def afZ ξ:=by rw[if_neg ξ]
def ajw:=[none]
def agK ξ:=(by rw[ξ])
def aif ξ ψ:=ag8 ξ && ψ
def aeV ξ ψ:=encD ξ (ψ)
def aet:=.Call
def adE:=akG _
def agZ ξ ψ:=gv Y ξ ψ j
def ab3:=agZ M W
def aIW ξ ψ ζ:=by obtain⟨ξ,ψ⟩:=Int.eq_ofNat_of_zero_le ζ
def aIX ξ:=W.locks.length=ξ
def aq5 ξ ψ ζ:=by
 rw[← ξ,← ψ]
 exact ζ
def ahU ξ ψ:=some (ξ,ψ)
def adN:=abS s
def adO:=cw K ι S M H
def af7 ξ ψ ζ:=by
 unfold ξ
 rw[ψ,ζ]
def aq6:=List Keyword
def aq7 ξ ψ ζ χ φ:=by
 obtain⟨ξ,ψ,ζ⟩:=χ
 exact φ
def aq8:=aof "routes"
def axk ξ:=ξ<xs.length
def akT ξ:=by simp only[ag,ξ]
def af8:=.ahead
def af9:=some r
def aga ξ ψ ζ:=by refine acX ξ ψ ζ
def agb:=ae5 κ α
def ahk:=by dsimp only[zB,zA]
def aD2 ξ:=by rw[List.size_toArray,ξ]
def aD3 ξ:=List.ext_getElem? (f6 ξ)
def aAG:=["_law_step"]
def asL:=aDQ "_law_at"
def asM:=aof "signals"
def apG:=K.In s.heap
def aj8:=ae5 Addr Bool
def aih ξ:=I.own r ξ
def aii:=Δ s.heap.objs.size
def ahJ:=cK ss
def anl ξ:=afT _ ξ
def aiL ξ ψ:=by
 have:=ξ
 rw[ψ] at this
def aj9 ξ:=aw cu [ξ]
def aAH ξ ψ:=by simp only[Function.comp,ξ,ψ]
def aau:=ae 4
def ama:=Sum.inl x
def axl ξ ψ:=λ ξ=>PV.int ψ
def amb:=List Bool
def amc:=List Stmt
def amd:=rel.val k
def ame ξ ψ:=aC ξ hr G.gg (af (aa 0) (aej ψ))
def aD4 ξ:=by simp only[List.lookup_cons,ξ]
def aAI ξ:=X.env.scope.kind == ξ
def aom ξ ψ:=some (alo ξ ψ)
def aon:=if_pos b6
def aoo:=pure false
def aop ξ ψ:=by rw[af7 ξ ψ Res.eu]
def aD5 ξ:=List.replicate k.toNat ξ
def aD6 ξ:=by rw[Ω ξ Bool.false_ne_true]
def aD7 ξ ψ ζ:=b8 (PySem.W.plainGet ξ ψ ζ)
def aiM:=c8 afa
def aiN ξ ψ ζ:=by rw[apm ξ ψ rfl ζ]
def aiO:=adj Out
def aeM ξ:=by rw[aab _ ξ]
def aed:=aj0 x v
def aee:=bg K ι S xs vs
def aq9 ξ:=wpAny_pure (ξ)
def ahV ξ ψ ζ χ:=by
 refine ξ
 have ψ:ζ:=χ
def ae8 ξ ψ:=∀p∈ξ,ψ
def amf ξ ψ:=by obtain⟨ξ,e⟩:=ψ
def aAJ ξ:=wpAny_passesOwn hp ξ
def aAK ξ ψ:=s1.heap.push (alo ξ ψ)
def aAL ξ:=aiB (Heap.lt_size ξ)
def aAM:=apv W.green.length
def aAN:=apv W.falls.length
def akU:=if_neg e
def agL:=.throw
def akV:=some 1
def anm ξ ψ ζ:=Fn z (ξ) ψ 2 ζ
def agc ξ:=(ξ).isSome
def apH ξ ψ ζ:=by
 unfold ξ
 rw[apu ψ ζ]
def apI ξ ψ ζ χ φ υ ϑ:=by
 refine ξ
 rw[d9 ψ ζ χ φ υ ϑ]
def apJ ξ ψ:=yc.map λ ξ=>ψ
def aev ξ ψ ζ χ φ:=by
 have ξ:=ψ
 have ζ:χ:=φ
def aew:=Inv n bB jl W
def aoq:=bD t
def abT:=.nil
def aAO ξ:=["pieces",ξ]
def ab9 ξ ψ:=by rw[Ω (aQ (ξ)) ψ]
def af0 ξ:=(ξ).Nodup
def YW ξ:=ξ=none
def ahW ξ:=YW (H ξ)
def aka ξ:=YW (H' ξ)
def avd ξ:=(false,ag9 ξ)
def aIY ξ ψ:=PySem.W.specialIn ξ ψ "__get__"
def aIZ ξ ψ:=Builtin.Slice.slicePlaces ξ ψ 1
def aD8 ξ ψ:=PySem.W.hideAll_get _ ξ ψ
def aD9:=List.mem_append.mp hp
def aEa:=List.nodup_cons.mp nd
def axm:=AllBare s'.gens
def axn:=["_law_script"]
def axo:=aDQ "_law_name"
def axp:=aIX Y.ps.length
def asN ξ:=assign ξ X.env
def aAP:=wpAny_pure h
def asO ξ ψ:=by rw[Ω (if_neg ξ) ψ]
def ano:=.Constant
def anp ξ:=af0 (aeS ξ)
def ai9:=bH Y.ps
def aja ξ ψ:=aAp ξ ψ rfl
def ajb:=ae5 Nat Nat
def apK:=B.ticks+Y.wait
def aEb ξ ψ ζ:=Int.emod_nonneg ξ (ψ:=ζ) b6
def asP ξ ψ:=∀ξ∈W.trains,ψ
def amg ξ ψ:=by rw[if_pos ξ] at ψ
def ave:=du "straight"
def avf:=aAO "signals"
def alz ξ:=h.at ξ rfl
def apL ξ:=akH b ξ
def aeW:=cV C Y none o M B
def adA ξ ψ ζ:=M.set ξ (ψ (ζ))
def agM ξ ψ:=aB (dX false) (ξ) ψ
def aI0 ξ ψ:=wpAny_Call_method0_late nY ξ ψ
def aI1 ξ ψ ζ:=mI PySem.F.slot_list_index PySem.F.type_list_index ξ ψ ζ
def ahl:=bF aa8
def ahm:=aaF hb
def amh:=anl ?_
def aor ξ ψ ζ:=ξ[ψ]? = c8 ζ
def ajx ξ ψ:=aor ρ ξ ψ
def af1 ξ ψ:=(by rw[ξ,ψ])
def aEc ξ ψ ζ χ φ:=by
 obtain⟨ξ,ψ⟩:=ζ
 dsimp only at χ φ
def aEd:=List.mem_filter.mp h
def aEe ξ:=congrArg List.length ξ
def aEf:=by simp only[Function.comp]
def aEg ξ:=wpAny_newObj_type ξ JM
def aEh:=of_decide_eq_true h2
def aEi ξ ψ:=B.trains.find? (adR ξ ψ)
def ajy ξ:=backTo pos (ajn ξ)
def ajz:=cH X.prog X.w
def afv:=s.heap.objs.size+1
def afn:=ba bB r
def asQ ξ ψ ζ χ φ υ:=by
 obtain⟨ξ,ψ,ζ,χ⟩:=φ
 exact υ
def adf ξ:=ak (ξ)
def agd ξ:=adf (aP ξ)
def aI2 ξ:=by simp only[Bool.and_eq_true] at ξ
def af2 ξ:=by
 rw[ξ]
 simp
def acF ξ ψ:=λ ξ H1=>ψ
def aAQ ξ:=by rw[ξ,Int.toNat_natCast]
def aLq ξ:=aa2 ξ "BaseException.__getattribute__"
def aI3:=beq_eq_false_iff_ne.mpr h
def aI4:=Nat.le_of_ble_eq_true rfl
def aI5:=List.filter_sublist.map _
def axq:=t.ahead.take 1
def aAR:=Sem Value
def ami ξ:=rP X.K ξ
def ajc ξ:=ax G.hu (ξ) aq
def axr ξ ψ:=acE ξ ψ ρ hρ
def aij:=aoq.1
def apM:=λ _=>rfl
def avg ξ ψ ζ χ:={ ξ with locks:=ψ,ζ:=χ }
def alA ξ:=ξ->Bool
def asR ξ ψ ζ:=if ξ then .ψ else ζ
def asS ξ ψ ζ:=if ξ then(ψ) else ζ
def aAS:=M'.take M.length
def avh ξ ψ:=putK kvs ξ ψ
def aEj ξ ψ ζ:=by
 obtain⟨_,_,_,ξ⟩:=ψ
 exact ζ
def age ξ:=by by_cases h:ξ
def ahn ξ ψ:=by
 refine ξ
 rw[ψ]
def alB ξ ψ:=aa2 ξ (ψ)
def aey ξ:=b8 (ξ)
def aLr ξ ψ:=by rw[Ω (List.take_append_of_le_length ξ) ψ]
def aEk:=List.mem_cons.mp hb
def aEm:=[s1.heap.objs.size]
def aEn ξ:=of_decide_eq_true ξ.2
def aEo:=B.greens.map (·.1)
def aEp ξ:=adi (wpAny_holding ξ)
def asT:=Array Value
def asU:=Option Addr
def asV:=fs.lookup f
def axt:=! xs.isEmpty
def asW:=bj.bC.mp r1
def apN ξ ψ ζ χ φ:=by
 refine ξ
 rw[adP ψ ζ χ φ]
def akb:=alA Nat
def aik ξ:=⟨ξ,?_⟩
def afb:=.turn
def afc:=abS k
def afd ξ ψ ζ:=Fn z k ξ ψ ζ
def ahK:=model prog w
def afe:=cV C Y e o M B
def aos ξ ψ ζ χ φ:=by
 have ξ:=ψ
 rw[DB ζ χ φ]
def axu ξ ψ:=⟨ξ, ψ, M.length⟩
def aI6 ξ:=Nat.lt_of_lt_of_le ξ a.len
def aI7 ξ:=aa2 ξ "object.__setattr__"
def avi ξ:=Hx xs.length ξ
def aAT:=["_law_world","_law_word","_law_number","_law_name"]
def avj ξ ψ:=h.yt ξ ψ nofun
def avk:=aof "pieces"
def ara:=rL X.stack
def arb ξ:=cD B.locks ξ
def aI8 ξ ψ ζ:=by
 obtain⟨_,_,_,ξ,_⟩:=ψ
 rw[aeM ζ]
def axv ξ:=t.steps.length=ξ
def asX ξ ψ:=by obtain⟨rfl,ξ⟩:=ψ
def akc ξ:=by
 rw[ξ]
 nofun
def aot ξ:=by rw[akc (asI ξ)]
def axw ξ:=X.mg ξ = none
def amj ξ:=mg ξ = none
def afo:=.tick
def amk ξ:=cC W.trains x ξ
def abO:=d ρ M
def alC ξ ψ ζ χ φ υ ϑ:=by rw[d9 ξ ψ (λ ζ=>χ) φ υ ϑ]
def aiP ξ ψ ζ:=upd H ξ (ψ ζ)
def aho ξ ψ:=∀s∈ξ,ψ
def ajd ξ:=by unfold ξ at h
def aiQ ξ:=⟨ξ,[]⟩
def aAU ξ ψ:=["_law_world",ξ,ψ]
def aI9 ξ:=Nat.lt_of_lt_of_le ξ E.le
def aJa ξ:=s.heap.FunFrames X.base ξ
def aJb ξ ψ:=c8 (PySem.W.methodObj ξ ψ)
def aJc ξ ψ:=b8 (PySem.W.hasDictIn ξ ψ)
def aJd ξ:=b8 (PyData.canLayAll0 ξ)
def aEq:=env.cells.lookup n
def aEr:=List.mem_cons.mp e
def aEs:=B.locks.map (·.1)
def aEt ξ ψ:=b8 (PySem.W.isFn ξ ψ)
def aAV:=Array DictEntry
def aAW:=h1.symm.trans e
def axx:=b8 d.canLay0
def aAX ξ ψ ζ χ:=λ ξ ψ=>absurd ζ χ
def apO ξ:=by rw[aeq (aqS ξ)]
def avl:=⟨t.steps.dropLast,t.ahead,t.out⟩
def apP ξ ψ ζ χ:=adf (bo (aJ ξ ψ ζ) χ aN)
def anq ξ ψ ζ χ φ:=by obtain⟨ξ,vs,ψ,ζ,χ⟩:=φ
def anr ξ:=ahc (dn false) ξ
def akW:=c8 (bF aa8)
def akd:=some b
def ail ξ ψ:=if neg then ! ξ else ψ
def aim:=dP eR W.trains
def ain ξ ψ:=by rw[aaa h1 ξ h2 ψ]
def aml ξ ψ:=by rw[if_pos ξ,if_pos ψ]
def ahq ξ ψ ζ χ:=by
 have ξ:ψ:=ζ
 refine χ
def aou ξ ψ:=holding ξ (ψ)
def aEu ξ ψ:=by rw[ξ,Bool.and_eq_true] at ψ
def aeg ξ:=agd (ξ)
def aLs ξ:=ξ "BaseException.__getattribute__"
def apQ ξ ψ ζ χ φ υ:=by
 have ξ:=ψ
 rw[ab4 ζ χ φ υ]
def afO:=ae5 κ V
def akX ξ ψ:=w ι S H ξ afs aV ψ
def amm ξ:=by
 simp
 exact ξ
def aJe ξ:=["_law_one",ξ]
def ans ξ:=W.locks[ξ]?
def ant ξ ψ:=by
 refine ξ
 exact ψ
def aJf:=List.range h.objs.size
def aJg ξ:=List.mem_append_left _ ξ
def aJh:=PySem.W.plainGet_of hg
def aiR ξ:=aa2 ξ ns
def aiS:=aaF hk
def aiT ξ:=λ pre ρ M'=>ξ
def abX:=bV Y
def aLt:=List.getElem?_eq_some_iff.mp hx
def aLu:=List.getElem?_eq_some_iff.mp XO
def aEv:=aDQ "_law_signal"
def avm:=du "branch"
def avn ξ:=aho t.ahead ξ
def asY ξ ψ:=(by simp[ξ,List.find?_cons,ψ])
def apR ξ ψ:={ B with ξ:=ψ }
def alD ξ:=kl ξ B.trains aaE
def aiU:=cJ ps ss
def agN ξ:=aj1 ξ 1
def ag0 ξ ψ:=λ ρ M=>aj4 ξ x ψ
def aJi ξ:=List.mem_of_getElem? (ξ)
def ahX ξ:=by
 rw[ξ]
 omega
def aAY ξ:=evalEach ξ X.env
def aAZ ξ ψ:=x9 (f1.trans ξ) ψ
def aov:=if_neg h
def aow:=rL outer
def aox:=a.map aI
def aoy ξ ψ:=JC ξ (ae ψ)
def aoz:=aw9 Addr
def avo ξ:=cc C.yd ξ b7
def aoA:=gG Y.ps.length Y.rs
def avp ξ ψ:=agE (bQ ξ) ψ
def aoB:=some .free
def amn ξ ψ ζ:=by
 refine ξ
 have ψ:=ζ
def aiV ξ:=akF (ξ)
def agf ξ ψ ζ:=aF (bx (aW (ξ)) ψ fe) ζ
def amo ξ ψ ζ χ φ:=agf (aB ξ ψ ζ) χ φ
def ajA ξ ψ:=aeL ξ (ak (ψ))
def ake ξ ψ:=ajA ξ (aP ψ)
def aLv:=List.idxOf_lt_length_of_mem hm
def aJj:=List.mem_filter.mp h'
def aJk:=List.mem_filter.mp hm
def aJl:=List.mem_filter.mp hq
def aJm:=List.mem_append.mp hm
def aJn:=List.mem_append.mp hs
def aJo:=I.mod.glob.keeps I.bk
def aJp:=List.getElem?_range h
def aJq ξ:=List.length_take_le _ ξ
def aJr:=by rw[aD2 List.size_toArray]
def axy ξ:=ck ξ xs.length
def axz:=aw9 NameKind
def axA:=afI "pieces"
def axB ξ ψ:=aAw ξ ψ pos.line
def axC:=ahI "routes"
def arc:=if_neg h2
def axD ξ:=heldW ξ aa8
def ard ξ ψ ζ:=aeC ξ (ahB ψ ζ)
def arf:=aw9 Value
def arh ξ ψ ζ χ:=aeL ξ (afX ψ ζ χ)
def aiW:=.bool
def aEw ξ:=t.tr.steps.length=ξ
def aEx ξ:=s1.heap.objs.size+ξ
def aiX ξ ψ ζ:=af ξ (af ψ (ζ))
def aio ξ ψ:=af ξ (acA ψ)
def anu ξ ψ ζ:=aiX ξ ψ (an9 ζ)
def apS ξ ψ:=af ξ (aej ψ)
def apT ξ ψ ζ:=aiX ξ ψ (acA ζ)
def aiY ξ ψ ζ:=adR ξ (ψ≠ζ)
def ajB ξ ψ ζ:=bw ξ ψ rfl (cM ζ)
def amq ξ ψ ζ:=agB (ξ) ψ s1 ζ
def aEy ξ:=List.replicate m ξ
def aEz:=aJe "_law_route"
def avq ξ:=Vals ξ bN
def aip ξ ψ ζ χ:=by
 have ξ:ψ:=ζ
 subst χ
def agn:=.draw
def apU ξ ψ ζ χ:=dt.of (sc:=ξ) ψ ζ χ rfl apM ac1
def agq:=ajW t
def agr:=ahW b
def ags:=apL o
def avr ξ:=ends.length=ξ
def avs ξ:=ξ≤ps.length
def avt ξ:=by simp only[ξ] at w
def aje ξ:=bz bt T.eQ cn (acA ξ)
def axE ξ:=M.length≤ξ
def asZ ξ ψ ζ χ φ υ ϑ:=by
 rw[d9 ξ ψ ζ χ φ υ]
 refine ϑ
def aJs:=by exact List.mem_cons_self
def akY ξ:=by by_cases hb:ξ
def akZ ξ:=by by_cases h1:ξ
def ajC ξ ψ ζ:=⟨ξ,rfl,ψ,ζ⟩
def ajD:=aw9 PV
def ari ξ ψ ζ χ φ υ ϑ:=amq (ha pins ξ σ ψ ζ χ φ) υ ϑ
def aLw ξ ψ:=bN.toArray.eraseIdxIfInBounds ξ=ψ
def axF ξ ψ ζ:=by
 simp at ξ
 rw[adL ψ ζ]
def avu ξ ψ ζ:=by generalize ξ=M1 at ψ ζ
def ae9 ξ:=aj9 (ξ)
def aLx ξ:=X.s₀.heap.FunFrames X.base ξ
def aLy:=List.drop_eq_getElem_cons se
def aA0:=Value.ref afv
def aA1:=X.base.get? b
def apV:=Option V
def apW ξ:=I.own r' ξ
def apX ξ:=by
 rw[acu ξ List.map_map]
 rfl
def agO:=abS i
def agP:=ae5 Key V
def agQ:=cq Y aaE
def agR:=gB o M o M'
def aEA ξ:=t.ahead.length≤ξ
def avv:=ns.map η
def avw:=Or.inl rfl
def avx:=hh.trans q
def avy:=hu.trans q
def avz ξ ψ:=cC B.falls ξ ψ
def aEB ξ:=Ft ξ W.locks
def avA ξ ψ ζ:=alB ξ (encD ψ ζ)
def ahs ξ ψ:=(ξ).lookup ψ
def arj ξ:=xs.length-ξ
def ark ξ ψ ζ χ φ:=codeAny ξ ψ (ζ) χ φ
def avB ξ:=W.green++ξ
def aoC ξ:=ξ<M.length
def aLz:=List.getElem?_eq_getElem se
def aJt ξ ψ:=swappedStores ξ ψ X.env
def aJu ξ:=List.drop_sublist _ ξ
def aJv ξ:=adi (wpAny_standAt ξ)
def aJw:=acs W.green.isEmpty
def aEC:=by rw[List.filter_map]
def aED ξ:=Vis X.env.scope ξ
def aEE:=Int.ofNat.inj e
def aEF:=apv Y.rs.length
def aEG ξ:=YW (pre.find? ξ)
def aEH:=["_law_joint","_law_ends"]
def axG:=aof "locks"
def axH:=aof "green"
def axI ξ:=b8 (small ξ)
def axJ ξ:=aho t.steps ξ
def as1 ξ ψ:=λ ξ=>PV.str ψ
def as2:=some none
def as3:=["piece"]
def as4 ξ:=I.lock ξ hp
def as5:=ae5 κ Value
def as6 ξ ψ ζ χ:=ake (dY G.own G.calm ξ ψ ζ) χ
def anv:=.Assign
def avC ξ:=X.env.scope.names.lookup ξ=ani
def anw:=cD B.greens aaE
def anx:=ahU n kvs
def anz:=abS (cy Y.ss s).1
def akf ξ ψ:=fo ξ (aa 0) ψ
def akg ξ:=ahB ξ h'
def akh:=bE false aj
def aki:=ae5 κ PV
def akj:=iF ns 39
def ag1:=ag9 o
def as7 ξ:=(ξ,true)
def amr ξ ψ:=m4 X (binaryOp .ξ) ψ
def arl ξ ψ:=∀ξ∈xs,ψ
def aiq ξ:=JC (ξ) (dC (η 0))
def aoD ξ:=aiq (ae ξ)
def aJx ξ ψ ζ χ:=wpAny_execs_nil ⟨ξ,ψ,ζ,χ⟩
def aJy ξ:=by rw[List.lookup_cons] at ξ
def air ξ:=ξ≤100
def af3 ξ ψ ζ:=upd ξ ψ (ζ)
def akk ξ ψ:=aAr (ξ) ψ
def alE ξ ψ ζ:=akk (iH ξ ψ nofun) ζ
def aLA ξ:=PySem.F.args_tuple_add_2 _ ξ
def aht ξ:=by rw[alk t ξ]
def ahu ξ ψ ζ:=Fn z ξ ψ ζ _
def ahv:=ai8 x ("__debug__" : Str)
def aae ξ:=(ξ:Int)
def afp:=aae n
def aA2:=aae xs.length
def aeh ξ ψ ζ:=by
 rw[ξ,ψ]
 exact ζ
def akl ξ ψ:=aif (ξ<Y.wait) ψ
def aJz ξ ψ ζ:=by
 unfold ξ at ψ
 dsimp only at ζ
def anA ξ ψ:=by
 show ξ
 unfold ψ
def aJA:=X.s₀.heap.get? b
def aJB:=PyData.depthAll qs
def aJC:=t.steps.map (·.1)
def aA3 ξ:=by exact wpAny_pure ξ
def aA4 ξ ψ ζ χ:=by
 rw[acB]
 rw[aaa ξ ψ ζ χ]
def aA5:=["_law_script","_law_k"]
def arn:=["step"]
def aro:=w.map aI
def arp ξ:=dC (ξ true)
def ak0:=.steps
def ak1 ξ ψ ζ χ φ:=by
 have ξ:ψ:=ζ
 rw[χ] at φ
def ak2 ξ:=by rw[if_pos ξ]
def ak3:=some _
def ak4 ξ:=by rw[Ω zK ξ]
def ak5:=encD eF B.falls
def ak6:=asG xs
def ak7:=apy xs
def ak8:=by rw[af2 hx]
def alF ξ ψ ζ:=by
 have ξ:=ψ
 exact ζ
def aLB ξ:=Builtin.List.listTooLong (ξ)
def ajE ξ ψ ζ χ:=by
 have ξ:ψ:=ζ
 exact χ
def aLC:=List.range t.ahead.length
def aLD:=List.getElem?_set_self se
def aLE:=es.toList.any (·.refKey)
def aLF ξ:=PySem.F.args_dict_get_2 _ ξ
def aLG:=List.length_pos_iff.mpr h
def aLH:=by rw[ahX List.length_replicate]
def aEI ξ:=W.points.set p ξ
def aEJ ξ:=by rw[abQ rel.length ξ]
def aEK ξ ψ:=⟨⟨t.tr.steps,ξ,t.tr.out⟩,t.ob,t.so,ψ⟩
def apY ξ:=Option (ξ)
def aoE:=c8 ahJ
def aoF ξ ψ ζ χ:=if ξ then ψ ζ χ else c6
def aoG ξ:=by rw[afS rfl ξ]
def aoH ξ:=alo aj2 ξ
def aoI:=axc 100
def aoJ:=by
 refine amh
 rw[acB]
def aoK:=ahf X.N x
def apZ ξ ψ ζ χ:=aB aO ξ ψ ζ χ
def ahL ξ:=λ σ H Q=>ξ
def ahM:=pre.flatMap (ke ps ss n way j a)
def ajF:=au4 64<cLine
def arq ξ ψ ζ χ:=Fn z (ξ) ψ ζ χ
def aJD ξ ψ:=sc.names.lookup ξ == ψ
def aLI:=by rw[List.length_append,List.length_singleton]
def aJE ξ:=s.heap.objs.size≤ξ
def as8 ξ ψ ζ:=by
 show ξ
 rw[Ω ψ ζ]
def t6 ξ ψ:=ξ=some ψ
def aoL ξ ψ ζ:=amq ξ ψ ⟨ζ,H1,I1,r1,q1⟩
def aLJ:=h2.get? s.heap.objs.size
def aLK:=W'.green.Sublist W.green
def aJF:=decide_eq_false h
def aJG:=d7 PyData.eqvAll
def axK:=Ne.symm dQ
def axL:=du "locks"
def axM ξ:=Pc.at Y.ps ξ
def axN ξ:=any_keys d ξ
def axO ξ:=jB ξ B.falls
def aJH:=t8 "held"
def aJI:=t8 "none"
def avD:=if_neg hy
def axP ξ ψ:=g ξ nofun nofun ψ
def avE:=ps.zip us
def aEL ξ:=valueAt ξ k
def avF:=MJ.map fj
def avG ξ:=abS (aae ξ)
def avH ξ ψ ζ:=by rw[ac4 ξ (ab7 ψ ζ)]
def avI ξ ψ:=adf (bo (VW.vt ξ) ψ aN)
def avJ ξ ψ ζ:=aiX ξ ψ (aej ζ)
def alG:=Res α
def alH:=ae5 Nat Fl
def ahY:=RelV v u
def ahZ:=ic r W.locks
def ah0:=fz bB r
def ag2 ξ ψ:=bf (bO false) ξ (ψ)
def afw ξ ψ:=aB (dn false) (ξ) (ψ)
def aoM ξ:=[none,ξ]
def ars ξ:=aoM (some ξ)
def aoN:=aoM akV
def aJJ ξ ψ:=by rw[ξ,List.nodup_cons] at ψ
def aJK ξ ψ ζ:=looks_findIn (ξ:=ψ) KX ζ
def afg:=YX C.nt M
def aJL ξ:=ξ≤999999999999999
def aJM ξ:=W.trains.filter (ξ)
def aLL:=Heap.IsSliceOf.new ..
def aLM:=List.getElem?_set_ne h2
def aLN:=List.mem_of_getElem? hi
def aLO:=List.dropLast_sublist _
def aEM:=(by kernel_rfl)
def aEN:=fs.map (·.1)
def aEO:=co.cells I.ok
def aEP:=ps.map Pc.enc
def aEQ ξ ψ:=d.find? (adR ξ ψ)
def aER ξ:=by rw[abQ rs.length ξ]
def aES:=afi ys.length
def aET:=afI "signals"
def aA6:=Option Expr
def aA7 ξ ψ ζ:=I.base.ni ξ o ψ ζ
def aA8:=OZ.trans JZ
def aA9:=du "routes"
def aBa ξ ψ:=aqX ξ ψ "route"
def aBb:=avo "falls"
def as9 ξ ψ ζ:=by rw[adw ξ ψ (iI ζ)]
def ata ξ:=aej (fJ ξ)
def atb:=by rw[aeq h.wj]
def atc:=asy Bool
def atd ξ ψ:=by
 rw[acu ξ ψ]
 rfl
def ate ξ ψ ζ χ φ υ ϑ:=by rw[ajs ξ ψ ζ χ φ υ (aH ϑ)]
def atf:=ado h.y0
def atg ξ:=af5 (kt ξ)
def ath ξ ψ:=bo (bI ξ) ψ aN
def ap0:=by rename_i hl
def ap1 ξ:=pw ξ Y.ps
def ap2 ξ:=H.b ξ rfl
def ap3:=t.tr.steps.length≤100
def ap4:=adX "object.__class__"
def axQ ξ:=ajx ξ sT
def ap5:=aey (apos.endLine == cW.line)
def ap6:=("pieces",afa)
def ap7:=acr "tuple"
def ams:=aoq.2.2
def ais ξ ψ ζ χ φ υ:=λ ξ ψ ζ χ φ υ=>?_
def ait:=ac2 2
def aiu:=ab7 b hb
def aiv ξ ψ:=h.fld (ρ:=ξ) (d:=b7) rfl ψ
def aiw ξ:=NV b ξ q
def art ξ ψ:=L2.Fin ξ (ψ)
def aoO ξ ψ ζ χ:=by
 rw[ξ,ψ] at ζ
 exact χ
def aoP ξ:=(e ▸ ξ)
def axR ξ ψ ζ χ:=by obtain⟨ξ,ψ,rfl,ζ⟩:=χ
def aEU ξ ψ:=if ξ then j else ψ
def aJN:=! W.green.isEmpty
def aJO ξ:=c8 (Y.ss.idxOf ξ)
def aJP:=axw "isinstance"
def amt ξ:=ξ (·.2)
def amu:=ajn es
def axS ξ:=aeC H' ξ
def amv ξ:=by obtain⟨h1,h2⟩:=ξ
def amw:=ahf xs x
def amx:=KV kvs vs
def ahx:=.seq
def aEV ξ ψ:={ ξ with slots:=ψ }
def axT ξ:=ξ<1073741824
def af4 ξ ψ ζ:=aW (aB ξ ψ ζ)
def ajf ξ ψ:=aW (aB (dX true) ξ ψ)
def ap8 ξ ψ:=aW (agM ξ ψ)
def aru ξ:=aW (ahc (dX false) ξ)
def aoQ ξ ψ:=agc (am1 ξ) || ti ψ
def amy ξ:=pure (ξ)
def ati ξ ψ:=⟨ξ,(aAC ψ)⟩
def aLP ξ:=s.heap.Ns X.env.locals ξ
def aLQ:=List.getElem?_set_ne h
def aLR ξ:=aiB (Nat.lt_succ_self ξ)
def aLS ξ:=b8 (PySem.W.handedIn ξ)
def aLT:=by rw[ahX List.length_append]
def aiZ:=aG B.trains x
def ak9 ξ:=by rw[g9 ξ w w.elim]
def akm:=alp 0
def ai0 ξ ψ:=by
 intro pins s σ H ξ I h
 refine ψ
def ai1:=gG n bB
def anB ξ ψ:=bg K ι S ξ ψ
def agg ξ ψ ζ χ:=ξ[ψ]? = alB ζ χ
def aoR ξ:=by by_cases h2:ξ
def aJQ ξ:=t.steps.length≠ξ
def axU ξ ψ ζ:=show ξ∈ψ from ζ
def aBc ξ:=ξ≤xs.length
def aEW:=["_law_piece","_law_joint"]
def avK ξ ψ ζ χ φ υ:=by
 have ξ:ψ:=ζ
 rw[DB χ φ υ]
def agt ξ:=adf (bu (ξ))
def aLU:=List.mem_append.mp h1
def aLV:=List.mem_append.mp h'
def aLW:=List.mem_append.mp hk
def aLX:=List.mem_append.mp hq
def aLY:=PySem.mem_of_lookup h
def aLZ:=t.tr.ahead.map (·.1)
def aJR:=.FormattedValue
def aJS:=Paired.length r
def aJT ξ:=PySem.Within mA ξ
def aJU ξ ψ:=Heap.SameBut ξ ψ h2
def aJV ξ:=Gl ξ "isinstance"
def aJW ξ ψ:=PySem.W.mroIn K ξ ψ
def aJX ξ ψ:=HT.lh bN.length ξ ψ
def aJY ξ:=s.heap.update p ξ
def aJZ:=t6 X.env.frame X.env.locals
def aEX ξ ψ:=IsTup s.heap ξ ψ
def aEY ξ ψ:=I.base.oZ ξ xs ψ
def aEZ:=! kvs.isEmpty
def aE0 ξ ψ:=assign ξ X.env ψ
def aE1 ξ ψ ζ:=bindL kindOf ξ ψ ζ
def aE2 ξ ψ ζ:=bindC kindOf ξ ψ ζ
def aE3 ξ ψ ζ:=Reads s.heap ξ ψ ζ
def aE4 ξ:=aG W2.trains ξ
def aE5:=f.map (·.1)
def aE6 ξ ψ:=df ξ M1.length ψ
def aE7:=get_set h.y5
def aE8:=h.J.same rfl
def aE9:=TOk W.trains
def aFa:=t8 "points"
def aFb ξ:=b8 (PV.lO M.length ξ)
def aFc ξ:=by simp only[ξ,Bool.false_eq_true,if_false]
def aFd:=kvs.length<sizeLine
def aFe ξ ψ:=t6 (h.get? ξ) ψ
def axV:=Sum.inl k
def axW ξ ψ ζ χ φ υ:=by rw[ab4 ξ ψ ζ (acX χ φ υ)]
def axX:=ae5 Key Value
def aJ0:=t8 "red"
def axY ξ ψ ζ χ φ υ:=aeL ξ (ai (bo (aJ ψ ζ χ) φ aN) υ)
def axZ:=axi names
def ax0 ξ ψ ζ:=adf (dY G.own G.calm ξ ψ ζ)
def arv:=by rename_i hc
def arw ξ:=M.set n ξ
def arx ξ:=Pl deep ξ
def ary:=c8 c7
def arz:=af0 ai6
def arA:=("signals",ahJ)
def arB:=b5 "branch"
def arC:=aiW true
def ax1 ξ:=ξ PV.int
def anC:=.train
def anD:=some y
def anE ξ ψ ζ:=cG ξ ψ ζ acw
def anF ξ:=by rw[Ω (aQ dQ) ξ]
def anG:=t.ahead=[]
def ajg ξ ψ ζ χ φ:=by
 have ξ:ψ:=ζ
 have χ:=φ
def atj ξ:=adk ξ d
def ajh ξ ψ:=by rw[aoa ξ (cN (P:=λ r=>ψ) ?_)]
def aji:=oN n bB lM nP W B
def ahN ξ:=λ _ _ _ _=>(ξ)
def ag3 ξ:=ahN (aR 0 ξ)
def aJ1 ξ ψ:=∀ξ∈scope.names,ψ
def atk ξ:=ξ<l.length
def aBd ξ:=some (aae ξ)
def aBe:=xs.map enc
def aBf:=Or.inr rfl
def aBg:=bj.fu.mp r
def aBh:=du "falls"
def aBi ξ:=l.set ξ none
def aBj:=t8 "draw"
def aBk:=by
 rw[List.size_toArray]
 omega
def avL:=if_pos h
def avM ξ:=PV.rN ξ xs
def avN:=adj Heap
def avO ξ ψ:=bx (tY ξ) ψ fe
def ax2 ξ:=YW (H1 ξ)
def aL0:=ax2 s1.heap.objs.size
def avP ξ ψ:=adz (ξ) (tC ψ)
def avQ ξ ψ:=by
 have:=ξ
 rwa[ψ] at this
def agS ξ ψ ζ χ:=aF (bR ξ (aw ψ ζ)) (χ)
def adF ξ ψ:=anm (k+1) ξ (ψ)
def aJ2 ξ:=bN.toArray.size=ξ
def aL1:=keys.all (·.isSome)
def aL2:=of_decide_eq_true h1
def aL3:=of_decide_eq_true hc
def aL4:=ahW s.heap.objs.size
def ap9:=akX _ am3
def aFf ξ:=starEach ξ (envOfC qual scope s.heap.objs.size f cd)
def akn ξ ψ ζ:=ξ ρ λ ψ M1=>ζ
def anH:=abS (cy Y.ss s).2
def ajG ξ:=nu ξ xs
def ajH:=RelV y u
def ajI ξ:=w1 ι1 S1 H1 _ afs s1 ξ
def ajJ ξ:=mg_of X G ξ
def ajK ξ:=axr ξ _
def ajL:=Ext ι S H ι' S' H'
def aFg ξ:=by simp[ξ,PyData.eqv]
def aFh ξ:=wpAny_call (ξ)
def avR ξ ψ:=by
 refine ξ
 refine ψ
def avS ξ ψ ζ χ:=mW ξ (ψ:=ζ) rfl χ
def anI ξ ψ:=by
 rw[ξ]
 refine ψ
def ajj ξ ψ ζ:=ξ λ ψ M2=>ζ
def ag4 ξ ψ:=acL ξ≤ψ
def ag5 ξ:=bE false (ξ)
def ag6 ξ ψ ζ χ:=by rw[ab4 ξ ψ ζ (aH (χ))]
def aJ3:=.ExceptHandler
def aJ4:=! names.isEmpty
def aJ5:=t.ahead.map aI
def aoS ξ ψ:=fx ξ f7 ψ
def aoT:=bZ Ξ
def atl ξ ψ:=NV h' ξ ψ
def aoU ξ:=af1 az ξ
def aoV:=alA dM
def avT ξ ψ ζ:=iG ξ (kk:=ψ) rfl ζ
def aoW:=("found",hZ rs)
def aoX ξ ψ:=gF aL ξ b7 ψ
def agh:=ae 7
def ax3 ξ:=xs.length=ξ
def ax4 ξ:=xs.drop (ξ)
def ax5 ξ:=ξ<ss.length
def ax6 ξ:=ξ∈t.steps
def aL5:=["_law_pieces_here","_law_signals_here"]
def avU ξ ψ ζ:=aC ξ hr G.gg (af ψ (acA ζ))
def aL6:=List.mem_cons.mp hx
def aL7:=List.mem_cons.mp hm
def aL8:=! bN.toArray.isEmpty
def aL9:=standAt apos.atName
def aMa:=of_decide_eq_true z
def aMb:=List.getElem_mem se
def aMc:=W'.falls.map (·.1)
def aMd:=p8 T.uo.choose_spec
def aMe:=p8 T.wo.choose_spec
def aMf:=p8 T.sY.choose_spec
def aMg:=aae bN.toArray.size
def aFi:=List PyData
def aFj:=xs.map some
def aFk:=bj.bC.mp r2
def aFl:=bj.bC.mp ry
def aFm:=du "trains"
def aFn:=uy.lookup C
def aFo ξ ψ:=GP ξ M.length ψ
def aFp:=t8 "plain"
def aFq:=t8 "throw"
def aFr:=afI "locks"
def aFs ξ ψ:=aqX ξ ψ "piece"
def aFt:=aAO "joint"
def aFu:=axw "range"
def aFv:=aEB t.ahead
def aFw ξ:=aj5 ["yard","piece"] "piece" ξ
def aBl ξ:=t.tr.ahead=ξ
def atm:=some ys
def atn:=cK Y.ss
def ato:=adj afm
def atp:=aAs aoq
def atq:=aAy ack
def atr ξ ψ:=al9 ξ (aa 1) ψ
def ats:=f1.trans al0
def att:=af0 ajV
def atu ξ:=aiE (adZ 0) (aa 1) ξ
def atv:=akJ aij ams
def ako ξ:=ξ false
def aqa ξ:=s.heap.push { cls:=aj2,data:=ahx (ξ).toArray }
def akp:=by exact abT
def akq:=abS p
def akr ξ ψ:=h.ix (ρ:=ξ) (d:=b7) rfl ψ
def aks:=r∈W.green
def akt:=ahW p
def aku:=avd e
def akv:=adk a da
def akw:=b::rest
def akx:=dI K ι S kvs bY
def alI ξ:=iw M ξ
def ajM ξ:=Nat->ξ
def adB:=ajM Tg
def aqb ξ ψ:=ajM (ξ->ψ)
def atw:=aqb Int aec
def ax7 ξ ψ ζ:=by
 rw[ξ] at ψ
 refine ζ
def aeY ξ ψ:=ag8 (ξ=ψ)
def afh ξ:=aae (ξ:Nat)
def acy ξ ψ:=fQ ξ (ψ)
def atx ξ ψ ζ χ:=acy ξ (aid ψ ζ χ)
def aty ξ ψ ζ:=acy ξ (aju ψ ζ)
def ax8 ξ ψ ζ χ:=acy ξ (ae4 ψ ζ χ)
def ax9 ξ ψ ζ χ φ υ:=acy ξ (avb ψ ζ χ φ υ)
def aFx ξ:=(ξ).names.lookup
def aFy ξ ψ:=∀ξ<bB.length,ψ
def aya:=envOfC qual scope s.heap.objs.size f cd::outer
def afq:=.set
def afP:=dS Y W w i x
def avV ξ ψ ζ χ φ υ ϑ:=by rw[d9 ξ ψ ζ χ φ (λ υ=>ϑ)]
def adg ξ:=aA (ξ)
def ahO ξ:=λ p hp=>ξ
def ahP ξ ψ:=λ ξ H2=>ψ
def aJ6 ξ:=(ξ,NameKind.free)
def aBm ξ:=ob.data=ξ
def aMh:=Option.some.inj e2
def aMi:=Option.some.inj e'
def aMj:=List.of_mem_zip hv
def aMk:=ForInStep.yield ok
def aMl:=Nat.succ_ne_self _
def aMm:=PyData.depthAll xs
def aMn:=acs sc.isCoroutine
def aMo:=acs sc.isGenerator
def aMp:=apv B.falls.length
def aMq:=air W.locks.length
def aMr:=aae t.steps.length
def aJ7:=wpAny_bind ?_
def aJ8:=yc.map (·.2)
def aJ9 ξ:=B.lying.set p ξ
def aKa:=agA M1.length
def aKb:=afi vs.length
def aKc:=us.length=ps.length
def aKd:=vs.length=ps.length
def aKe:=axE M'.length
def aBn ξ:=c8 (aib ξ)
def aBo:=d7 s.len
def aBp:=acs t.out
def aBq:=t8 "set"
def aBr ξ:=aAB (acL ξ)
def aBs ξ:=f1.trans (aj7 ξ)
def aBt ξ ψ:=adf (aZ ξ G.nd (ψ))
def aBu ξ:=by rw[amm (ad0 ξ)]
def aBv ξ ψ ζ χ:=ag0 ξ (ajj ψ ζ χ)
def aBw ξ:=aiq (au7 ξ)
def aBx ξ ψ:=agc (am1 ξ) || agc (au3 ψ)
def aBy ξ ψ ζ:=avT ξ (alr ψ) ζ
def aBz ξ ψ ζ:=acy ξ (avp ψ ζ)
def ayb:=.Compare
def ayc:=by simp at this
def ayd ξ:=eval ξ env
def aye:=P.zip vs
def ayf:=F.mono h
def ayg ξ ψ ζ χ φ:=ee ξ ψ ζ χ (f6 φ)
def ayh ξ ψ:=by rw[ai7 ξ (jj ψ)]
def ayi ξ ψ:=by rw[ai7 ξ (jk ψ)]
def ayj:=Θ 2048
def ayk ξ ψ ζ χ:=x9 (h1 ξ ψ ζ) χ
def ayl:=asD C.nt
def aym:=asD C.he
def ayn:=asD C.rd
def ayo ξ ψ:=b8 (ve ξ ψ)
def ayp ξ ψ:=VW.vt (o8 ξ ψ)
def ayq:=fs.length<1000
def aqc:=by exact this
def aqd:=Res β
def aqe ξ:=rC X.K ξ
def aqf ξ:=uG ξ b7
def aqg:=al2 []
def aqh ξ:=by rw[Ω zK (ad0 ξ)]
def aqi:=bS true []
def aqj:=bE true aj
def aqk:=cC B.trains x t'
def aql ξ:=⟨ps,ss,aiU,ξ⟩
def anJ:=enc a
def ala ξ:=adR q ξ
def aoY ξ:=JC ξ (dC (η 1))
def alb:=acn ι n a
def alc:=fF ds ρ M
def afD:=kv.1
def aFz ξ:=ns.length≤ξ
def aFA ξ:=by simp only[ξ] at e
def aFB:=["piece","joint"]
def ah1 ξ:=λ q hq=>ξ
def atz:=W.now+Y.wait
def ayr ξ ψ:=adg (bw (b5 "ok") ξ rfl (aT ψ))
def ah2:=kL W r
def afQ:=Sm x
def aix:=lH Y W B
def aoZ ξ ψ ζ χ φ:=⟨ξ,ψ,rfl,ζ,χ,φ⟩
def ays ξ ψ ζ χ φ υ:=ayr ξ (aoZ ψ ζ χ φ υ)
def aeN ξ ψ:=by
 rw[ξ]
 exact ψ
def aBA:=["pieces","number","joint"]
def ayt ξ ψ:=["yard",ξ,ψ]
def aei ξ ψ:=λ i ξ=>ψ
def atA ξ:=aei hi ξ
def atB ξ ψ:=U1 (aei ξ ψ)
def atC:=atA (ar b6)
def abg ξ ψ:=λ _ ξ=>ψ
def aKf ξ:=(by simpa using ξ)
def aKg ξ:=h.objs.size≤ξ
def aMs:=decide_eq_false e
def aMt:=Option.some.inj h
def aMu:=aAU "_law_name" "_law_signal"
def aFC:=xs.map η
def aFD ξ:=Gl ξ "range"
def aFE:=K.lookup a
def aFF:=bj.bC.mp r
def aFG:=bj.tB.mp r
def aFH:=du "green"
def aFI:=bF t.steps
def aFJ:=ss.drop sh
def aFK:=ss.take sh
def aFL ξ:=S.locks ξ hp
def aFM ξ:=S.greens s ξ
def aFN ξ ψ:=aqX ξ ψ "name"
def aFO:=ayt "name" "signal"
def aFP ξ ψ:=atA (h.hi ξ ψ)
def avW:=fi deep
def avX ξ:=lS T.pD ξ
def avY:=abS aaE
def avZ ξ:=env.cells.lookup ξ=agF
def av0 ξ:=ax G.hu (aft ξ) (aa 1)
def av1:=aoc (aoc aAR)
def av2 ξ:=m4 X (compareOp op) ξ
def av3:=air (ahb aa8)
def av4:=b5 "points"
def av5:=acr "slice"
def av6:=b5 "plain"
def aqm ξ ψ ζ:=⟨T.ot,T.os,T.oa,ξ,ψ,ζ⟩
def aqn ξ:=[MO.bP ξ]
def aqo ξ ψ:=ag8 (ξ≤ψ)
def alJ:=oK ps ss
def alK:=abS j
def alL ξ:=by rw[Ω e ξ]
def arD:=am1 p
def alM:=au1 s
def alN ξ:=ah7 _ ξ
def alO:=JC c7 (dC (η 0))
def arE ξ:=ahU n (ξ kvs)
def alP:=nj kvs k
def alQ ξ ψ:=acE b o ξ ψ
def alR:=uh x M1
def ai2 ξ:=M[n]? = aa2 ξ kvs
def anK ξ ψ ζ:=ξ[ψ]? = am5 ζ
def aky ξ:=b8 (ξ).isSome
def arF ξ ψ:=gC X (adX ξ) ψ
def agu ξ ψ:=aO (ξ) (η ψ) M
def ajN ξ ψ ζ χ:=by
 unfold ξ
 rw[ψ,ζ,χ]
def aKh:=env.kindOf x
def aKi:=r1.append r2
def aKj:=du "signals"
def aKk:=get_set h.y4
def aKl ξ:=Option.map _ ξ
def aKm:=Y.ps.map λ _=>true
def aKn:=t8 "trains"
def aKo:=aof "points"
def aKp:=air w.length
def aKq ξ:=JC ξ (dC (b5 "trains"))
def aFQ:=vs.length=es.size
def aKr:=xs.length+ys.length
def aBB ξ:=d.depth≤ξ
def arG:=.Tuple
def arH ξ ψ ζ χ φ:=λ ξ=>akI ψ ζ χ φ
def arI ξ:=rM X.K ξ
def arJ:=aeC H s'
def arK ξ:=adR kv ξ
def arL ξ:=backTo cW (ajn ξ)
def arM:=asD bp
def arN:=asD aS
def arO:=asD eO
def arP:=asD i6
def arQ ξ:=al2 (ξ bM)
def amz ξ:=aa7 C.tr ξ
def anL:=amz (k6 (t0 M.length))
def ai3 ξ:=ahF cI (ξ)
def ayu ξ:=by
 show ξ<16000000
 decide
def aKs:=X.env::X.outer
def ayv ξ ψ ζ χ:=w.foldl (λ ξ ψ=>ζ) χ
def aFR ξ ψ ζ χ:=tX (ξ:=ψ) (ζ:=χ) d6
def aMv:=some Y.rs.length
def aMw:=e1.trans e2.symm
def aMx:=! W.falls.isEmpty
def aMy:=wpAny_holding ?_
def aMz:=decide_eq_true e
def aMA:=ns.map WData.int
def aMB:=names.map PV.int
def aMC:=aJe "_law_joint"
def aMD:=["_law_joint","_law_loose"]
def aME:=["_law_script","_law_k","_law_world"]
def aBC ξ ψ ζ:=by obtain⟨ξ,ψ,e⟩:=ζ
def amA:=.free
def arR ξ:=mH false ξ (gz aq) gO
def amB ξ ψ ζ χ:=by rw[abY ξ ψ ζ q χ]
def aqp ξ:=ahf ξ v
def amC:=aAv p
def amD ξ ψ ζ:=ae7 ξ _ ψ ζ
def amE:=cD B.falls r
def amF ξ ψ ζ χ:=adk (ξ ψ ζ pos) (χ)
def amG ξ ψ ζ:=apZ ξ ψ ζ M
def amH:=lh items.size 0 lo
def amI ξ ψ:=h1.ix (ρ:=ξ) (d:=b7) rfl ψ
def aqq:=aU bB r
def amJ:=W.now+1
def amK:=List.filter_eq_self.mpr (λ _ _=>rfl)
def akz:=qD P w H h
def aiy:=cq Y s
def adC ξ:=bJ (ξ)
def aBD ξ:=adC (aok ξ)
def ayw ξ:=adC (gI ξ)
def aKt:=["_law_name","_law_at","_law_world"]
def aFS ξ:=acc.length+ξ
def aFT ξ:=ξ%4294967291
def aBE:=["self","piece"]
def aFU ξ ψ ζ χ:=⟨ξ, ψ, rfl, ζ, χ⟩
def ayx ξ ψ ζ:=by
 rw[ξ] at ψ
 refine ζ
def ajk ξ ψ:=kO Y M W j (ξ) ψ i x
def aBF ξ:=Res.ok ξ M
def aBG ξ ψ:=ON ξ (abg _ ψ)
def aBH:=rk.val k
def aBI ξ ψ ζ:=mG false ξ ψ ζ
def aBJ ξ:=I.lock h ξ
def aBK ξ:=G.g.sg _ ξ
def aBL:=asy Expr
def aBM ξ:=ab1 aa7 C.fa ξ
def aBN:=⟨t.tr.steps,t.tr.ahead,true⟩
def aBO ξ ψ:=VW.vt (iA ξ ψ)
def aBP:=bA T.ej (aa 2)
def aBQ ξ:=pI xs none ξ
def aBR:=cL I.xp hq
def adD ξ:=λ e=>ξ
def atD ξ:=adD (h ξ)
def aBS ξ ψ:=akk (adD ξ) ψ
def aBT ξ:=adD (dQ ξ)
def aMF:=Paired.length h
def aMG:=Nat.ne_of_lt O4
def aMH:=Nat.ne_of_gt O4
def aMI:=I.Cm.sublist hg
def aMJ:=I.Iy.sublist hf
def aMK:=["_law_script","_law_base"]
def aML:=["_law_yard","_law_word","_law_number","_law_name"]
def aMM:=aJe "_law_name"
def aMN:=["_law_pieces_here","_law_signals_here","_law_wait"]
def aMO:=["_law_script","_law_base","_law_pieces_here"]
def aMP:=B.lying.length=Y.ps.length
def aMQ:=aAU "_law_signal" "_law_name"
def aMR:=["_law_pieces_here","_law_signals_here","_law_wait","_law_points","_law_world"]
def aMS:=["_law_yard","_law_world","_law_name","_law_before","_law_train"]
def aMT:=["_law_world","_law_signal","_law_name","_law_route","_law_falls","_law_way"]
def aMU:=["_law_yard","_law_world","_law_word","_law_number","_law_name"]
def aKu:=by exact nomatch e
def aKv:=Option Bool
def aKw:=bj.bC.mp rx
def aKx:=bs.map V.bl
def aKy:=du "points"
def aKz:=du "pieces"
def aKA:=MA.trans hk
def aKB:=beyond Y.ps
def aKC:=t8 "green"
def aKD:=afI "found"
def aKE:=afI "ticks"
def aKF:=afI "lying"
def aKG:=ahI "falls"
def aKH:=bN.toArray.size*k.toNat
def aKI:=OldK s₁.heap s'.heap
def aKJ:=ayt "train" "route"
def aFV:=Sum.inl a
def aFW:=Sum.inl b
def aFX:=by exact ww.elim
def aFY:=Option α
def aFZ:=if_pos hc
def aF0:=if_neg hj
def aF1:=h1.get? b
def aF2:=h2.get? b
def aF3:=K.In base
def aF4:=["train"]
def aF5 ξ:=tn ξ s.heap
def aF6:=ks.map kV
def aF7:=ι.take n
def aF8 ξ:=L2.less S ξ
def aF9:=r.less ha
def aGa:=tt.map cZ
def aGb:=l.find? p
def aGc ξ:=acs (eh Y.ps ξ)
def aGd ξ:=acs (axD ξ)
def aGe ξ:=b8 (apo ξ)
def aGf:=axi loose
def aGg:=agK PV.lO
def aGh ξ:=acL ξ=ps.length
def aGi ξ:=bz bt T.eQ cn (akN ξ)
def aGj:=relabel scope X.env
def aGk ξ:=adg (bw ξ M ?_ (aT rfl))
def aGl ξ:=arF "len" ξ
def aBU ξ ψ ζ χ φ υ ϑ:=⟨sJ (ati ξ ψ) (ati ζ χ) (ati φ υ) ϑ⟩
def ayy:=[p.enc]
def ayz:=hZ Y.rs
def ayA ξ:=xE ξ K.tl
def ayB ξ:=JC ξ d8
def ayC:=aob b6
def ayD ξ ψ:=aiP ξ f9 ψ
def ayE ξ ψ ζ:=aAX ξ ψ ζ Ξ
def ayF:=sl.mono (e1.trans e2)
def ayG:=ahF (bO false) (aa 1)
def ayH:=akX _ (bj.fu.mpr rfl)
def ayI:=JC d8 (dC (η 2))
def ayJ:=cE Y aoq
def ayK ξ ψ:=x9 (y ξ d6) ψ
def atE:=cX acw
def atF:=fy rfl
def atG:=d7 aI
def atH ξ:=ahf bY ξ
def atI:=asG vs
def atJ:=lh items.size items.size hi
def atL:=agK bj
def atM:=ae5 Int Tr
def atN:=axS s'
def atO ξ ψ ζ:=s.ob ξ ψ ζ h1 h2
def atP:=adz e te
def atQ:=cw K ι' S' M' H'
def atR ξ:=al2 (ξ aI)
def atU:=kL W r'
def atV:=pre.flatMap (pj ps ss)
def atW ξ:=hb pins s1 σ H1 ξ I1 q1
def aqr ξ ψ ζ χ φ υ:=agV ⟨ξ,ψ,ζ,χ,φ,υ⟩
def arS ξ:=C3 false ξ (kj (Θ 1)) fG
def anM:=aw9 V
def anN ξ:=upd H ξ o
def anO:=aAs s
def anP:=aqV h
def atX ξ:=apB e ξ
def anQ:=ae5 ajX V
def av7:=amk _
def anR:=aae m
def anS:=adz a ta
def anT:=jq kvs k
def anU:=asz bj h
def anV:=ab7 s hs
def anW:=alI x
def anY:=λ _ _=>False
def ajO ξ ψ ζ:=ym C ξ ψ x ζ
def ajP ξ ψ ζ χ:=⟨ξ,vs,ψ,ζ,χ⟩
def ajQ ξ ψ:=by rw[afS (ξ) ψ]
def av8 ξ ψ ζ:=bx (aW (agM ξ ψ)) ζ fe
def ajR ξ ψ:=al5 ξ (ψ)
def abR ξ ψ ζ:=aK ξ ψ (av ζ)
def amL ξ ψ:=∀q∈ξ,ψ
def aKK ξ:=(ξ).ahead.length
def aGm ξ:=(ξ).symm.trans
def ahy:=ο t.ob
def ao0 ξ:=asB o ξ apos
def aGn:=ao0 "get"
def aGo:=ao0 "pop"
def arT ξ ψ:=gB o M ξ ψ
def ahz:=Sm i
def aMV:=bN.toArray.size+FH.toArray.size
def akA ξ:=iF ns (ξ)
def aqs ξ ψ:=m4 X (compareOp .ξ) (ami ψ)
def akB ξ:=adg (aH (ξ))
def aMW:=Array GenState
def aMX:=if_pos trivial
def aMY:=AllBare s.gens
def aMZ:=s1.heap.get? b
def aM0:=pre.map (·.1)
def aM1:=W.locks.map bM
def aM2:=aD1 I.ok.above
def aM3:=["_law_world","_law_route","_law_way","_law_step","_law_piece"]
def ao1:=.list
def ao2:=by simp at h
def ao3:=aQ hb
def ao4 ξ ψ:=aj4 ξ x ψ
def ao5 ξ:=flat M deep ξ
def ao6 ξ ψ ζ χ:=show ξ=ψ ζ χ from rfl
def ao7:=Slots K ι S ρ σ
def ao8 ξ:=VN X Ex ξ ds
def ao9 ξ:=aes ahK A ξ Q E
def apa ξ:=arT o ξ
def ahQ:=s0.1
def aM4:=kvs.length=vs.length
def aKL:=xs.length*k.toNat
def av9 ξ ψ:=∀ξ:Nat,ψ
def anZ ξ ψ:=∀x∈ξ,ψ
def an0 ξ ψ:=∀b∈ξ,ψ
def ald ξ ψ:=b9 ⟨ξ,ψ⟩
def ah3 ξ ψ:=by by_cases e:ξ=ψ
def ab2 ξ:=by
 rw[ξ]
 rfl
def awa:=ae5 ajX (Addr×Value)
def aKM:=(by rw[List.size_toArray]<;>omega)
def aKN:=(by simp only[Int.reducePow])
def aKO:=if_neg d6
def aKP:=bj.ky.mp r
def aKQ:=du "enter"
def aKR:=l.filter p
def aKS:=Θ 999999
def aKT:=["piece","step"]
def aKU:=["self","name"]
def awb:=.tuple
def awc:=some i
def awd ξ ψ:=I.cR b ξ ψ
def awe:=by rename_i e
def awf:=cZ (cy Y.ss s)
def awg ξ:=encD ξ d
def awh ξ:=aa2 ξ bY
def awi:=aaF hi
def awj:=aaF ho
def awk:=akF vs
def awl:=dP eT B.trains
def awm:=Y.ps.length≤16
def awn ξ ψ:=λ ρ M=>aj4 ξ xs ψ
def awo:=avq xs
def awp:=by rw[g9 q1 w1 w1.elim]
def awq:=t.ahead≠[]
def awr ξ:=KT ξ kvs xs
def aws:=af ay (an9 ay)
def aqt ξ:=λ b hb=>ξ
def ale ξ:=λ s hs=>ξ
def alf ξ ψ:=λ ξ hy=>ψ
def aqu ξ:=dH (gN ξ) m8
def ajl ξ:=Q ξ H'
def ajS:=Gl X x
def aGp ξ:=⟨ξ, rfl⟩
def agw ξ ψ ζ χ φ υ ϑ:=by rw[d9 ξ ψ ζ χ (φ=υ) ϑ]
def ayL ξ:=trunc (ξ)
def aGq:=.UnaryOp
def aGr:=Sem Bool
def aGs:=B.get? e
def aGt:=B.get? b
def aGu:=["self","pieces","signals","wait"]
def aGv:=r.cut hb
def aGw:=du "now"
def aGx:=ado h.w7
def aGy:=aft T.hY
def aGz:=aft T.lI
def aGA:=as7 C.nt
def aGB:=as7 C.he
def aGC:=as7 C.rd
def aGD:=v₂::rest
def aGE:=⟨⟨t.tr.steps.dropLast,t.tr.ahead,t.tr.out⟩,t.ob,t.so,t.ao⟩
def aGF:=by rw[abQ S.qj I.Iy]
def aGG:=ao0 name
def aGH:=adf (cF T.EK hr (cA (fg (aa 1) (cA fV))))
def aBV ξ:=RelV ξ w'
def aBW:=Pw ends
def aBX:=c8 (bF way)
def aBY:=Y.ps.length≤100
def aBZ:=asH 100
def aB0:=af0 aLp
def aB1:=Δ s2.heap.objs.size
def aB2:=acr "BaseException"
def aB3:=abS (cy Y.ss aaE).1
def aB4:=avB ah6
def aB5:=η Y.ss.length
def aB6:=ahx vs.toArray
def aB7 ξ:=gD countP f7 ξ
def aB8 ξ:=aiE (aa 4) ay ξ
def aB9:=aoY aau
def aCa:=⟨b6,b6⟩
def aCb:=abg _ rfl
def aCc:=adC (t8 "ok")
def aCd:=acr "object"
def aCe:=jA k X.A
def aCf ξ:=atX (h ξ)
def awt ξ:=b4 (akG ξ)
def ayM ξ:=tG X.K (gW X.K) Ex ξ
def awu ξ ψ:=ag2 ξ (bf (lu false) aq ψ)
def atY:=rL aya
def awv ξ:=aw ξ [b7]
def aqv:=abS N
def aqw:=axk i
def aqx:=avd a
def aqy:=YW (S a)
def aqz ξ:=apn ξ (aae r)
def ayN ξ:=h.push (ς ξ)
def aqA ξ:=M.set n (ξ kvs)
def aqB ξ ψ:=if apr i then ξ ψ M else afg
def aqC ξ:=I.tr _ _ ξ
def aqD:=HT.lh xs.length 0 lo
def aqE ξ:=aei h ξ
def aqF:=pO K H a xs
def aqG:=cV C Y ad5 o M B
def aqH ξ:=lP K aL ξ
def aww ξ:=PA X es ξ
def ahR ξ:=(ξ:acC).Nodup
def akC ξ ψ ζ:=arq (k+1) ξ ψ (ζ)
def acz ξ:=λ z=>ξ
def arU ξ:=⟨_,ξ⟩
def alS ξ:=λ x hx=>ξ
def alT ξ:=Inv n bB jl (ξ)
def atZ ξ ψ ζ χ:=bx (lx (ap8 ξ ψ) ζ) χ fe
def alU ξ:=by refine cX (ξ)
def alV ξ:=by refine aH (ξ)
def an1 ξ ψ ζ χ:=by refine⟨ξ,ψ,ζ,χ⟩
def ac0:=Str->amZ
def aCg ξ:=(ξ).findIdx?
def akD:=kV k
def an2:=Wf Y W
def aM5:=keys.length=values.length
def aKV:=["_law_world","_law_name","_law_train","_law_step","_law_steps","_law_route","_law_fall"]
def aM6:=["_law_step","_law_world"]
def aM7:=["_law_lock","_law_route"]
def ayO ξ ψ:=bQ (aw ξ ψ)
def at0 ξ ψ:=ayO ξ [b7,ψ]
def awx ξ:=at0 ξ c7
def ayP ξ:=at0 ξ f7
def ayQ ξ:=at0 ξ d8
def apb ξ:=λ xs M=>ξ
def amM ξ:=λ r hr=>ξ
def amN:=ajn (e::es)
def amO ξ:=au7 (ξ)
def at1 ξ ψ:=aB cx (aB dR d8 (Θ ξ)) ψ
def ayR ξ ψ ζ χ φ υ:=show ae ξ (ψ) ζ=χ (η φ) υ from rfl
def amP ξ:=mg_none_of X G (aiD ξ)
def amQ ξ:=ahs (tR Y t) (Str.ofString ξ)
def amR ξ ψ:=by
 refine PE.imp (ξ) λ σ H Q h=>?_
 obtain⟨ι,S,M,ρ,aV,sl,w⟩:=h
 refine⟨ι,S,M,ρ,aV,sl,adG (gW X.K) w ψ⟩
def amS ξ ψ:=oN n bB lM nP (ξ) (ψ)
def aM8:=["_law_yard","_law_world","_law_name","_law_before"]
def aKW:=Sum.inr a
def aKX:=Sum.inr b
def aKY:=if_pos h1
def aKZ:=if_pos hk
def aK0:=if_neg hb
def aK1:=if_neg hk
def aK2:=pure none
def aK3:=other rfl
def aK4:=rk.val kk
def aK5:=du "wait"
def aK6:=h4 e.symm
def aK7:=aof "now"
def ayS:=η Y.wait
def ayT:=.Slice
def ayU:=X.mg x
def ayV:=pure x
def ayW ξ ψ:=aJ (jG G.hu) ξ ψ
def ayX:=cv (aa 2)
def ayY:=aaF hs
def ayZ:=d7 W0
def ay0:=d7 B0
def ay1:=adj bb
def ay2:=ad0 tw
def ay3:=asy DE
def ay4:=ae5 Nat α
def ay5:=au2 es
def ay6 ξ:=ahf ξ v'
def ay7:=asD cB
def ay8:=ae5 Int α
def ay9:=HT.lh xs.length xs.length hi
def aza:=alA α
def azb:=by rw[g9 e2 w1 w1.elim]
def azc:=as7 bp
def azd:=as7 aS
def aze:=as7 eO
def azf:=as7 i6
def azg:=I.pin p hp
def azh:=I.tr x t hx
def azi ξ ψ ζ:=adz (aet ξ ψ [] cW) (ζ)
def azj:=cL hn hq
def azk:=by
 rw[← LF]
 rfl
def azl:=uC I.cR eb
def azm:=aqb α PV
def azn ξ:=bS false [] ρ ξ
def azo:=oN Y.ps.length Y.rs (eh Y.ps) nP W B
def arV:=.cell
def awy:=c8 (bF auY)
def arW:=(List.getElem?_eq_some_iff.mp h).1
def aCh:=abS (cy Y.ss aaE).2
def at3 ξ ψ:=k it Ξ ξ ψ
def arX:=[MO.ins C.tr (k6 (t0 M.length))]
def arY:=abS b
def arZ ξ ψ:=adG (gW K) ξ ψ
def ar0:=x ≠ "__name__"
def ar1:=aG W.falls r
def ar2 ξ:=aiP p ς ξ
def ar3:=aiI (a == sysModules)
def ar4 ξ:=d.map λ q=>ξ
def ar5:=abS q.1
def ar6 ξ ψ ζ χ:=adz (ξ ψ ζ pos) (χ)
def ar7:=r∉W.green
def ar8:=aae 1
def ar9:=atj e
def asa:=by
 intro _
 rfl
def asb:=adk o lL
def asd:=ab7 p hp
def ase ξ ψ:=h2.ix (ρ:=ξ) (d:=b7) rfl ψ
def asf:=aK N ps (av st)
def ash:=Up ι S ι' S'
def asi:=by rw[e2] at e
def azp:=aqt (hf b hb).1
def asj:=acn M n o
def asl:=aU Y.rs q.1
def asm:=arl y (Pl k y)
def akE:=Sd C Y M B W o j
def aGI ξ:=acL ξ=l.length
def ah4 ξ:=(ξ).toNat
def ah5 ξ:=by
 show ξ<1000
 decide
def apc ξ ψ:=⟨_,ξ,ψ⟩
def ai4 ξ:=ξ->aqT
def at4:=ai4 Bool
def apd:=ai4 St
def aCi ξ:=Good ξ (λ _=>E)
def an3 ξ:=rO M ξ
def aGJ ξ:=("falls",ξ)
def awz ξ:=ξ∉X.fs
def an4 ξ:=λ D σ H=>ξ
def azq ξ:=ff (kH false) T.mX iZ ξ
def aCj ξ:=ff (oh false G.calm) T.mX iZ ξ
def azr ξ ψ:=cm ξ [none,ψ,none]
def asn ξ:=azr ξ apF
def aso ξ ψ:=acL (ξ++ψ)
def aGK:=List β
def aGL:=List En
def aGM:=some ps
def aGN:=mA name
def aGO:=cU h.xD
def aGP:=oQ h.y5
def aGQ:=h.but x
def aGR:=qH G.hu
def aGS:=au1 aaE
def aGT:=RelV akD u
def aGU:=aAs (bD t.tr)
def aGV:=al7 afn
def aGW:=asH lim
def aGX:=JC aau (dC (η 0))
def aGY:=adX "getset_descriptor.__get__"
def aGZ:=aDX 100
def aG0:=axi (dg Y W.trains aaE)
def aG1:=aG B.greens aaE
def aG2:=aj9 f7
def aG3:=aj9 aau
def aG4:=aa2 adX "object.__class__"
def aG5:=agc abW
def aG6:=af0 ah6
def aG7:=af0 aAt
def aG8:=YW abW
def aG9:=amk avl
def aHa:=anr (ae 6)
def aHb:=wpAny_pure (anl aAP)
def aHc:=(gS W x).steps.length
def aHd:=aiK Str NameKind
def aHe:=f2.trans al0
def aHf:=JC (ae 8) (dC (η 2))
def aHg:=η kvs.length
def aHh:=adC aJH
def aHi:=adC aJI
def aHj:=adC aJ0
def aHk:=adD (ne e.symm)
def aHl:=η ys.length
def aHm:=aiB (aqO ajp I.ok.above)
def aHn:=agV (anl rfl)
def aHo:=amy (acr "method_descriptor")
def aHp:=dN false ajw (iL c7) (gN 0) yH akm
def aHq:=ajl σ'
def aHr:=tmod rfl d6
def aHs:=ahR aAG
def aHt:=X.stack=aKs
def aHu:=fi deep anJ
def aHv:=agY rfl rfl rfl
def aHw:=akJ (bD t.tr).1 (bD t.tr).2.2
def aHx:=at1 256 (Θ 2)
def aCk ξ:=("near",ξ)
def aHy:=Array amZ
def aHz:=aiK Fg amZ
def aHA:=σ.set i aeJ
def azs:=ae8 ajV (b8 (arD).isSome)
def awA:=aI (flip s)
def at5:=by exact ajp
def at6:=my gm
def at7:=RelV x u
def at8 ξ:=upd H ξ u
def at9:=axb b
def aua ξ ψ:=axl ξ ψ.1
def aub:=b8 (X.fn x)
def auc:=cD W.trains x
def aud ξ:=aiP l ς ξ
def aue:=cD W.falls r
def auf:=Sum.inl q.1
def auh:=acs (apo i)
def aui ξ:=m4 X f ξ
def auj:=aae k
def auk:=aae 0
def aul:=aae s
def aum ξ:=rT false ξ M
def aun:=Good0 X Ex
def auo:=aoP L
def aup:=("wait",η wait)
def auq:=eX (i:=0) rfl
def aur:=alI p
def aus:=afh 0
def aut:=Binds K fd ps []
def auu:=beyond ps a o
def auv:=adz b tb
def auw ξ:=adA 5 ξ (dP eT B.trains)
def auy:=c8 (aa7 C dx fs)
def auz:=auX X σ' H' s'
def auA:=aG d k'
def auB:=aa2 .own x
def auC:=di ρ M
def auD:=∀b∈fp,yD X pins H b
def auE ξ ψ:=akC ξ 3 ψ
def auF ξ ψ:=M[ξ]? = aiV ψ
def auG:=All L K
def auH ξ ψ:=SJ K mg ξ ψ
def auI:=dt X scope N nq
def aCl:=W.locks.set (t.ahead.headD (0,0,0)).1 none
def auJ ξ ψ:=amq (ho pins s σ H _ I h) ξ ψ
def an5:=t σ H Q
def awB ξ:=PS X st ξ
def ape:=qt W p
def aiz ξ:=λ ρ=>∃y,ρ=ξ
def aK8:=["things","number"]
def agi ξ ψ ζ:=λ b ξ ψ=>ζ
def amT ξ:=agi o e ξ
def aaq ξ ψ ζ χ φ:=(H.f ξ rfl:FnAt K (nsIn K mainGlobals ψ) ζ χ φ).de X G
def awC ξ ψ:=⟨ξ.1,ψ⟩
def apf ξ ψ ζ χ φ:=ai (bo (aJ ξ ψ ζ) χ aN) (φ)
def azt ξ:=(aIQ ξ).flatten
def aHB ξ:=jA k (A.deeper (envOfC ξ (av st) s.heap.objs.size f lg))
def apg ξ ψ ζ:=cG ξ ψ ?_ (ζ)
def aph ξ:=cz K (gW K) E ι S H Q (ξ)
def awD ξ:=aaN [(gI ξ)]
def aK9:=decide p
def aLa:=some axt
def aLb:=id I.loc
def aLc:=Pc.enc p
def aLd:=ado h.w9
def aLe:=ado h.xD
def aLf:=aft T.jT
def aLg:=aft T.lJ
def aLh:=atj iter
def aLi:=bA T.jS (aa 2)
def aLj:=afT none rfl
def aLk:=backTo cW (starEach rest (envOfC qual scope s.heap.objs.size f cd))
def aLl:=aa9 none none none rfl
def aCm ξ:=η ξ s.toks
def aCn:=some n
def aCo:=lG b6
def aCp:=aaF hl
def aCq:=aaF jz
def aCr:=afR ho
def aCs:=d7 cu
def aCt:=adj β
def aCu:=aw9 DE
def aCv:=ae5 Nat FB
def aCw:=some .bh
def aCx:=abV "_law_mix" dq
def aCy:=ae8 ps p.js.Nodup
def aCz:=IntsAre vs ns
def aCA:=by rw[ak9 e2]
def aCB:=wJ X.env scope.names []
def aCC:=cc bU "steps" c7
def aCD:=t.steps≠[]
def aCE:=lL ρ M1
def aCF:=by rw[afS e dQ]
def aCG:=amk (ah8 auY [])
def aCH:=by
 rw[br,aD,az]
 rw[ahk]
def aCI:=adz o to
def aCJ:=adW b o q n hb
def aCK:=ae5 TE TE
def api ξ ψ:=PT X ξ ψ
def alg:=uW Y W
def auK ξ ψ ζ χ φ:=⟨ξ,ψ,ζ,rfl,χ,φ⟩
def auL ξ ψ ζ χ:=λ xs H Q=>∃ξ ψ,ζ/\χ
def azu ξ:=o.data=ξ
def aCL ξ:=[V.ref ξ]
def aHC:=cD B.greens aqq
def aCM:=M'[0]? = ab1 aa7 C.yd (tR Y B.ticks)
def aCN:=(akJ a j).isNone
def aCO:=DP xs lo hi
def awE:=Due W
def awF:=agA n
def awG:=akG t
def awH:=f6 h
def awI:=alr r
def awJ:=by rw[af2 e]
def awK:=b8 (eh Y.ps p)
def awL:=YW (X.mg x)
def awM:=fresh c i
def awN:=Inv Y.ps.length Y.rs jl W
def aCP:=("locks",ο (afU 1))
def awO:=λ _=>none
def awP:=am8 0 (aa 1)
def awQ:=bg K ι' S' xs vs
def awR ξ ψ ζ:=aa9 (ξ ψ) H I ζ
def awS:=avh k v
def awT:=B6 K H a xs
def awU:=ajO o M t
def awV:=qG K ι S H a o
def awW:=("ticks",η 0)
def awX:=vZ ns k
def awY:=akJ s.1 s.2.2
def awZ:=by rw[ah3 p.1 k]
def aqI:=X.pn++pins
def aqJ ξ:=adj (ξ)
def auM ξ:=ee (! ξ) M ?_ (f6 hk) (f6 hk)
def aHD:=amz (k6 ⟨t.tr,t.ob,t.so,M1.length⟩)
def aqK ξ:=jq (wKs Y g t j) (ξ)
def aqL ξ:=jR j M (ξ)
def aqM ξ ψ:=VS X Ex (ξ) (ψ)
def alW:=H' b
def auN ξ:=Int->Int->ξ
def azv:=Int->α->PV
def aHE:=Int->alA Int
def aHF:=Result->am0
def amU ξ ψ:=by exact ah7 ξ ψ
def asp:=JI K C
def aHG:=JI X.K C
def amV:=aI s
def auO:=aG d k
def aez ξ:=(ξ:Nat)
def alX:=ahC (aez n) (aae n)
def aCQ ξ ψ:=fun(aez ξ)=>ψ
def aw0 ξ ψ ζ:=ξ (ψ (ahC (aez k) k),none) ζ
def ajm:=g8->Hp->adj VK
def auP:=acG->Hp->adj VK
def agT ξ:=pre++[ξ]
def aw1 ξ ψ:=acL (ξ::ψ)
def aw2 ξ ψ:=∃xs,ξ/\ψ
def auQ:=Unit->am0
def asq ξ:=(ξ).toArray
def asr ξ ψ ζ:=apU (av ξ) ψ ζ ajw
def aw3 ξ:=Rd H a (ξ kvs)
def amW:=by rw[e] at h
def azw:=by rw[ek] at h
def aiA ξ:=bM (ξ)
def auR ξ:=aiA (beyond ps ξ j)
def aCR:=aiA (cE Y (bD t.tr))
def agU ξ:=[b7,ξ]
def aCS ξ ψ:=aw ξ (agU ψ)
def alY ξ:=aCS ξ f7
def azx ξ ψ:=aB cx (aw dq (agU ξ)) ψ
def ass ξ:=aCS ξ c7
def aw4:=agU f7
def aHH:=acr "dict"
def aHI:=some e
def aHJ:=some 0
def aHK:=some d
def aHL:=K.In h
def aHM:=back J
def aHN:=fw (ahI "green")
def aHO:=FK ⟨ι1,S1,M1,ρ,s1,afH,w1⟩
def aHP:=FL ⟨ι1,S1,M1,ρ,s1,afH,w1⟩
def aHQ:=Au ajY
def aHR:=qJ (afI "trains")
def aHS:=cv (aa 1)
def aHT:=aaF hu
def aHU:=aaF h1
def aHV:=aaF hx
def aHW:=d7 qd
def aHX:=adj Bx
def aHY:=ab0 mC
def aHZ:=ab0 pF
def aH0:=aib fa
def aH1:=H.c 36 rfl
def aH2:=ae5 Int TB
def aH3:=base.Ns mainGlobals mg
def aH4:=ahU n fs
def aH5:=abV "train_called" cf
def aH6:=agN cQ
def aH7:=as7 cB
def aH8:=ds.length≤90
def aH9:=aEL vs
def aIa:=aU bB r'
def aIb:=t.tr.steps≠[]
def aIc:=adz e ty
def aIe:=atKey xs k
def aIf:=aqp vs
def aIg:=jR j M M'
def aIh:=⟨t.steps,[],true⟩
def aIi:=X.tr pn Et
def aIj:=ahU n (ς xs)
def aIk:=backToKw cW (keywordEach [] X.env)
def aIl:=adz o td
def aIm:=ai4 β
def aIn:=M'[t.so]? = aiV aqP
def aIo:=M'[t.ob]? = ab1 aa7 C.tr (k6 t)
def aIp:=asn eO
def aIq:=typeOf (adX id)
def aIr:=pG f v fs
def aIs:=mi ns k x pl (abS (1+m)) y7 y8 y9
def aIt:=Q w' s'
def aIu:=atl zj sb
def aIv:=dI K ι S fs yF
def aIw:=(by simp[bM,sk,uf])
def aIx:=he pins s1 σ H1 _ I1 q1
def aIy:=λ ι1 S1 H1 σ1 e1 s1 l1=>h ι1 S1 H1 σ1 (e.trans e1) s1 l1
def aCT ξ:=aeY ξ ad5 || aiy
def aIz:=aoi (e2.trans e3)
def aIA:=cX (adg (aH ?_))
def azy ξ ψ:=aaT (ah9 ξ) ψ
def azz:=uc nq σ
def azA:=ae 11
def azB:=Sm nm
def azC:=aaF h
def azD:=aG W.trains y
def azE:=aAq _
def azF:=alr k
def azG:=aIR x
def azH:=aG B.greens s
def azI:=iF ns k
def azJ:=by rw[Ω e True.intro]
def azK:=Value.int i t
def azL:=Value.str x t
def azM:=avC x
def azN:=by
 subst h
 simp
def azO:=A.units+1<cLine
def azP:=cC B.trains x t
def azQ:=foldedSetIterable iter X.env x
def aIB:=("lying",ο (afU 2))
def azR:=cE Y s
def azS:=by rw[akS hb bG q]
def azT:=by
 show 3≤lim
 decide
def azU:=c8 (-1)
def azV:=adk b db
def azW:=ab7 q hq
def azX:=s1 ρ M
def azY:=Po ps j
def azZ:=an3 x
def az0:=M[t.ob]? = ab1 aa7 C.tr (k6 t)
def az1:=aG av7 y
def az2 ξ ψ ζ:=af3 ξ a (ψ ob ζ)
def az3:=("until",η u)
def az4:=t' σ H Q
def az5:=Ly xs i
def az6:=vF w M'
def az7:=agY _ (aAq _) rfl
def az8:=λ p=>agc (au3 p)
def az9:=by rw[alm e1 w w]
def aAa:=aDS k 3 cg
def aAb:=λ b ob q=>afR q
def aAc:=ahC (aez r) r
def aAd:=q.2.tr.steps.map λ s=>aae s.1
def aAe:=λ h' eb=>ah9 (I.turned (t':=s.toks) (λ b o hb e=>eb b o hb e) f0 f1 f3 f4 f5)
def aAf:=[t9,none]
def aIC:=uh x M2
def aID:=uh x M3
def an6:=bF w
def aIE:=aI (bD q.2)
def an7 ξ:=gb ξ M
def afE:=.bl true
def agx ξ:=ξ≠[]
def aIF:=∀r<Y.rs.length,agx aa8
def ahA ξ ψ:=z0->ξ->ψ
def alZ:=aa2 .dK kvs
def aAg:=aa2 .dT kvs
def aCU:=aa2 .bP kvs
def aIG ξ:=(ξ).andThen
def aIH ξ:=(ξ).flatMap
def aCV:=apy (k.map kV)
def auS ξ:=aru (ξ)
def aII ξ:=(aqa ξ).objs.size
def auT ξ ψ:=Vals (ξ) (ψ)
def aCW ξ:=bf cI (ahF gM (aa 3)) ξ
def auU ξ:=Hz (ξ) (λ _=>E) (gx st) d
def aCX ξ:=ahN (jI (aJ (jG ξ) (aa 0) (aa 1)))
def auV ξ ψ:=anB (ξ) (ψ)
def aIJ ξ:=adf (cF T.kh hr (cA (fg (aa 2) ξ)))
def aAh ξ ψ:=by
 have:ξ:=ψ
 rw[this]
def apj ξ:=Q ξ H1
def aAi ξ:=gT 2 (dH ξ (aqu 3))
def apk:=oR Y W x s
def aAj:=eW r u
def asu:=kN Y W w i x
def aAk ξ ψ ζ:=av9 ξ (ψ->ζ)
def aAl ξ ψ ζ:=∃ξ:Nat, ψ/\ζ
def aAm ξ:=pre++ξ::post
def agj ξ ψ ζ:=ξ λ ψ=>ζ
def apl ξ:=λ x y H Q h=>ξ
def agk ξ:=iL (ξ)
def aLm:=["self","until","near"]
def agz:=ab1 .ko ob (.dK bY)
def aLn:=s'.os=s₁.os
def aCY:=c8 (bM akd)
def aIK:=lU (ae 8) agh (ae9 (ahI "signals"))
def aIL:=Ai (ajf agh (t8 "enter")) (aW (agM (aB cx d8 (Θ 8)) (Θ 3)))
def aIM:=fB (uX W.trains p)
def aCZ:=hm ns
def aC0:=db ρ M1
def aIN:=D7 nq ρ
def aC1:=Gs ps
def aC2:=An aq
def aC3:=abS a
def aC4:=PySem.W.instObj C s.heap.objs.size
def aC5:=aib C
def aC6:=b≠s.heap.objs.size
def aC7:=t.steps.length≤n
def aC8:=YW (S p)
def aC9:=s2.heap.objs.size+1
def aDa:=Str.ofString (toString i)
def aDb:=bz bt T.eQ cn (ang 0)
def aDc:=aae x
def aDd:=aae i
def aDe:=axQ k
def aDf:=b8 (lM p)
def aDg:=aBm (agD vs)
def aDh:=r<bB.length
def aDi ξ:=("greens",ο ξ)
def aDj:=aV.sub _ _ e
def aDk:=aa2 .own a
def aDl:=ajc (am8 0 (aa 1))
def aDm:=⟨q,hq⟩
def aDn:=cnt ps j
def aDo:=ai4 V
def aDp:=M[t.so]? = aiV aqP
def aDq:=aHB q
def aDr:=vQ (ad3 a) j
def aDs:=acs (behindInMarks op b)
def aDt:=VT X Ex a ta
def aDu:=vV ps way a
def aDv:=api a tA
def aDw:=iw M1 x
def aDx:=dv ρ M
def aDy:=St C Y M W
def aDz:=qc f y fs
def aDA:=ajn [a]
def aDB:=V->Hp->adj VK
def aDC:=rZ H a y o
def aDD:=lN S S'
def aDE:=WOk Y W
def aDF:=aky (am1 s.1)
def aDG:=get y u hu
def aDH:=anK σ i v
def aDI:=ob.cls=Δ C
def aDJ:=vE aV r w
def aDK:=∀q∈B.trains,air q.2.tr.steps.length
def aDL:=bY.map λ q=>kV q.1
def aDM:=sp vs H Q E
def aAn ξ ψ:=Turn P w K tg ξ [it] it ψ
def aqN ξ ψ:=PW X ξ ψ
def aAo:=M[n]? = afN
def aw5 ξ ψ ζ χ:=apU (av ξ) ψ ζ (ars χ)
def aDN ξ ψ ζ:=ai (bo (aJ (bX G.hu) (aa 1) ay) (aeg (aj1 ξ ψ)) aN) ζ
def aw6 ξ ψ ζ:=aj0 (ξ ψ) v↔ζ
def aw7 ξ:=mi ns k x (aij::ajT) (abS (1+m)) y7 y8 (aiV (ax1 ξ))
def an8 ξ ψ:=ag8 (ξ<ψ)
def amX ξ:=λ x y H Q=>ξ
def aIO:=ajr k' && env.scope.kind == anj
def amY:=2 ^ 62
def auW ξ:=-amY≤ξ
def aIP:=[aa7 C.fa [("until", η apK), ("near", fB nr)]]
def asv:=kq y
def aDO:=sI (p:=False) xl (jO _) Ξ
def asw:=qo Y B x s
def aOl{P:Program}{w:World}:=_
def aR5{K:Fg}{ι:c9}:=_
def aM9{n:Nat}:=_
def aQf(hf:aub\/azM := by first | exact b4 rfl | exact b9 rfl | assumption):=_
def aPT(he:amN=aku::amu:=by rfl)(p7:aiF (ajy es).any:=by rfl):=_
def aOv{σ:St}{H:Hp}:=_
def aQD(σ:St)(H:Hp):=_
def aNh{xs:d5}:=_
def aNb{M:bb}:=_
def aNJ{s:Shared}:=_
def aSZ(ht:ag9 (aet (ao0 m) (e::es) [] pos)=(do
   let ov ← ag1
   aL9
   let(f,first) ← aou [ov] (getMethod ov m pl)
   callWith pos f first (ajy (e::es)) (backToKw pos (keywordEach [] X.env))):=by rfl):=_
def aND(s:Shared):=_
def aNd(n:Nat):=_
def aQ8(A:Around)(outer:afJ):=_
def aON(hd:ahv:=by decide):=_
def aNa(I:z0):=_
def aNm{x:Int}:=_
def aOm(X:Cx)(Ex:St->XK):=_
def aNq{α:Type}:=_
def aNf{k:Nat}:=_
def aNs(x:Int):=_
def aNc(K:Fg):=_
def aOO(P:Program)(w:World):=_
def aNw aR5{S:Hp}:=_
def aNg{x:Str}:=_
def aNn{r:Nat}:=_
def aPc(R:ai1)(I:aew):=_
def aNP aNh{vs:g8}:=_
def aNG(live:Bool):=_
def aR6(RE:an0 ch ((b∈X.ex\/asC b)/\at9/\(∀x c,ajU=agF->c≠b)/\ae8 aqI (p.1≠b))):=_
def aS0(Ou:aey ((arL (e::es)).all (λ x=>! x.1) && (aIk).all (λ x=>x.1.isSome)
   && an8 (aw1 e es+ahb ([]:aq6)+(if ([]:aq6).isEmpty then 0 else 1)) 30):=by rfl):=_
def aNi(M:bb):=_
def aNS(C:Cs)(Y:gH):=_
def aNj(G:abX):=_
def aNk(r:Nat):=_
def aQ9(F:pH X.prog X.w X.K X.mg X.base CX k f fd ps sp):=_
def aOw(ps:kK)(ss:aeT):=_
def aOx(w:Wo)(i x:Int):=_
def aNl(h:ab3):=_
def aQg(hs:∀x,azQ=ayV:=by rw[asa]):=_
def aNT{ρ:fk}aNb:=_
def aOa{α β:Type}:=_
def aOb(Y:gH)(W:Wd):=_
def aQh{ps:kK}{ss:aeT}:=_
def aNr(i:Nat):=_
def aNe(g:D1):=_
def aOn{x:PV}{v:V}:=_
def aN1{u:Value}:=_
def aR7(hr:jA k (A.deeper (envOfC qual scope s.heap.objs.size f cd))):=_
def aNx{a:Addr}:=_
def aRa{S H:Hp}aNb:=_
def aNK(C:Addr):=_
def aNt{i:Nat}:=_
def aRb(hn:ar0 := by decide)(HQ:ahv:=by decide):=_
def aS1(hs:∀pre x post,xs=aAm x->∀ ρ M,R pre ρ M->∃ ρ1,t6 (g (enc x) ρ) ρ1/\Body w (R (agT x)) Q (s1 ρ1 M)):=_
def aOP aOl{K:Fg}:=_
def aOy{A:Around}:=_
def aRc{f:Addr}{fd:FuncData}:=_
def aN2(a:Addr):=_
def aR8(KX:apG)(LT:∀M,Looks M s.heap (typeOf (Δ e)) (Δ C)):=_
def aPd(d:agb)(k:κ):=_
def aN5{neg:Bool}:=_
def aQi(i:∀ σ H Q,az4->an5):=_
def aOc aNm{t:Tr}:=_
def aS2(he:aFf (e₀::rest)=(false,eval e₀ (envOfC qual scope s.heap.objs.size f cd))::aFf rest:=by rfl):=_
def aR9(I:awN)(S:oN Y.ps.length Y.rs (eh Y.ps) (cq Y) W B):=_
def aNo(X:Cx):=_
def aO0{xs:g8}{us:x6}:=_
def aO1(I:alg)(S:aix):=_
def aNU(j:Int):=_
def aNz(H:Hp):=_
def aPe(aV:adO)(r:aed):=_
def aOQ aM9{kvs:ae2}:=_
def aS3(hu:au4 1+min aMm d.depth<cLine)(h:Q (aiW (ail (xs.any (akK y y d)) (xs.any (akK y y d)))) s):=_
def aNy{i:Int}:=_
def aS4(hsw:aAw (.ListComp elt [⟨tg,iter,ifs,0⟩] scope pos) (ab1 aad y py) OG.line=pure true):=_
def aQj(nZ:ap5:=by rfl):=_
def aPv(ha:anS)(hb:auv):=_
def aQE{ι ι':c9}{S S' H H':Hp}:=_
def aNQ(pins:x8)(s:Shared)aQD:=_
def aNL(w:HB):=_
def aRd(ha:ao8 (e::es))(hg:ajS:=by rfl):=_
def aSa(Ey:∀r∈W.green,adt)(hd:agg M n .bP (B4 Y)):=_
def aOR(hx:abW=acv):=_
def aN6(W:Wd):=_
def aSb(Lg:ai8 x ("__classdict__" : Str):=by decide):=_
def aNA(h:afe):=_
def aPf(hN:X.N.Nodup):=_
def aS5(hN:aoK:=by rfl)(hv:aED x:=by first | exact avw | exact Or.inr avw | exact Or.inr aBf):=_
def aRe(nY:am4 o name ag1=ag1:=by rfl):=_
def aSc(hp:∀a,arx anJ)(inj:∀a b,anJ=enc b->a=b):=_
def aPg(s':Shared):=_
def aQF aNn(hr:adt):=_
def aOd{κ:Type}:=_
def aS6(he:ajn [a,aad x q]=aqx::ajn [aad x q]:=by rfl)(p7:aiF (ajy [aad x q]).any:=by rfl):=_
def aNB(ps:kK):=_
def aPw{w:Wo}{i x:Int}:=_
def aQG(M':bb)(h:abO=.ok x M'):=_
def aNp{d:DE}:=_
def aS7(hs:swapsWithSole [tg] e pos.line X.env=aoo:=by rfl)(hw:aJt [tg] e=aK2:=by rfl):=_
def aPh{ι:c9}{S:Hp}:=_
def aS8(hf:b8 (X.fn y)\/avC y := by first | exact b4 rfl | exact b9 rfl | assumption):=_
def aS9(hn:∀p:Nat, amC->gn [ο 0, η p] M=if aoQ p p then YX C.he M else .ok .bh M):=_
def aNu{H:Hp}:=_
def aTa(hg:Gl (lp (rS P w) P w K mg base N qual scope f cd A outer s H E) x:=by rfl):=_
def aQH{H H':Hp}{s s':Shared}:=_
def aN3{C:Addr}:=_
def aRf(fD:Fn z k "joints_of" 1 dw):=_
def aQk(f:Addr)(lg:Value):=_
def aTb(hf:∀v u s2 x y H2,aeC H2 s2->RelV x v->ajH->R x y H2->ads (f v u) Q s2):=_
def aOS(o:adB)aNi:=_
def aRg(k:∀b u,aic=abF->ahd=abF):=_
def aQI(hd:abO=.ok (ο n) M):=_
def aN7{c:Addr}:=_
def aN8(bB:afL):=_
def aNF{X:Cx}:=_
def aOC{pins:x8}aOv aNJ:=_
def aNM(x:Str):=_
def aNN{Q:abP}:=_
def aO2(h:ai2 .bP):=_
def aQJ{tg:Expr}(a it:Addr):=_
def aQK{ι ι':c9}{S S':Hp}:=_
def aQL{scope:Scope}:=_
def aSd(h:j≤k:=by first | omega | decide):=_
def aOe{h:Heap}:=_
def aOf(hu:ajF):=_
def aNv{x:PV}:=_
def aSe(hs:amN=aku::amu:=by rfl):=_
def aPx{i j:Int}aNb:=_
def aOo(a:Nat):=_
def aQl(ha:akv)(hb:azV):=_
def aQm{ρ:fk}{M M':bb}:=_
def aTc{w:D6}(h:∀ ι' S' M' H',ash->atQ->az6->∃vs,pO K H' q vs/\awQ):=_
def aQM(ha:PA X (e::es) t):=_
def aOi{p:Addr}:=_
def aOj(ns:abE):=_
def aNV(i:Int):=_
def aNW(k:Nat):=_
def aNX(I:aew):=_
def aNY(h:aeW):=_
def aSf(hc:gc [ο 0,η i] M=aqB .ok .bh):=_
def aPi(lo hi:acG):=_
def aOD{pos:Pos}:=_
def aO3{st:Stmt}:=_
def aOE(aL:Addr):=_
def aTd(hs:ajn [a,b]=[aqx,avd b]:=by rfl)(RG:ajn [b]=[avd b]:=by rfl):=_
def aSg(x:XS P w outer H s e cls H' s'):=_
def aQn{f:α->bb->aqd}:=_
def aQo{b:Addr}{o:Obj}:=_
def aPj{kvs:aki}{bY:afO}(h:akx):=_
def aOz(hc:agX):=_
def aOp(hx:afQ):=_
def aNO(x:PV):=_
def aNZ(B:Bx):=_
def aNC(Y:gH):=_
def aRh(hs:aDA=[aqx]:=by rfl):=_
def aRi(Pa:aBm (.dict es ep)):=_
def aSh(fE:Fn z k "piece_beyond" 3 dy):=_
def aTe(hi:aoK:=by rfl)(hx:azG:=by first | exact avw | exact aBf):=_
def aRj aNo(pins:x8):=_
def aTf(k:∀b u,b≠e->aic=abF->ahd=abF)(YK:∃u,h'.get? e=abF):=_
def aNE{K:Fg}:=_
def aO4(S:aji):=_
def aSi(mu:Y0 (H x))(he:e=x\/H e=auB):=_
def aSj(X:apG)(I:HI s.heap x dx C mA):=_
def aTg(hg:∀C fp s0 H0,PG (gX X scope N C fp s0 H0) tg g)(hi:∀C fp s0 H0,Ad (gX X scope N C fp s0 H0) ifs tt)(he:∀C fp s0 H0,PE (gX X scope N C fp s0 H0) elt te):=_
def aTh(hg:∀C fp s0 H0,VG (gX X scope N C fp s0 H0) tg g)(hi:∀C fp s0 H0,SV (gX X scope N C fp s0 H0) ifs tc)(he:∀C fp s0 H0,VE (gX X scope N C fp s0 H0) O0 elt d):=_
def aRk(ho:asb)(he:adk e dk):=_
def aTi(hs:amt (au2 (e::es)).map=asN e::amt (ay5).map:=by rfl):=_
def aTj(hc:gc [ο 0, η i] M=if apo i then .ok .bh M else afg):=_
def aPy{outer:afJ}:=_
def aPz{live:Bool}:=_
def aSk{loose ends:abE}{m0 many:Nat}:=_
def aTk(B3:amN=aku::amu:=by rfl)(p7:aiF (ajy es).any:=by rfl):=_
def aOg(s:Nat):=_
def aTl(hn:acL ay5=n:=by rfl)(B3:YW (aeS (aCg ay5)):=by rfl):=_
def aQN{es:aAV}{ep:Nat}:=_
def aRl(co:auI)(ud:agX):=_
def aPA aNL(l:aeI):=_
def aPB aNL(d:ajb):=_
def aSl(g0 g1 g2 g3 g4 g5 g6 g7:D1):=_
def aSm{g0 g1 g2 g3 g4 g5 g6 g7:D1}:=_
def aN4(k:κ):=_
def aNH(d:DE):=_
def aTm(hp:PassesOwn (model X.prog X.w) X.A X.env X.xe)aOz:=_
def aPU aQh(hg:alJ):=_
def aO5(u:Value):=_
def aOF{t':Nat}:=_
def aOG{ds:aeG}:=_
def aOH(hi:ahz):=_
def aTn(hs:s.heap.IsSliceOf sl vl vu aaY)(pl:IsPart vl lo):=_
def aTo(qy:afd "_law_done" 4 oE)(nT:afd "_law_asked" 4 lY):=_
def aTp(E:Mh c loose m0 many ends):=_
def aOk(xs:d5):=_
def aRm(HQ:ahv:=by decide):=_
def aTq(h:ta σ H (acF x (tb σ H1 (ahP y (R x y H2))))):=_
def aSn(eC:abV "is_number_of" dB):=_
def aPC{N ps:acC}:=_
def aPV(e:H a=alZ):=_
def aPW(Ex:St->XK):=_
def aNR(s:dM):=_
def aOT(h:Heap):=_
def aOU(ry:ajH):=_
def aOV{ns:abE}:=_
def aRn{f:Addr}{cd:Value}:=_
def aOq(f:Str):=_
def aOr{vs:g8}:=_
def aOs(s:adO):=_
def aSo(ft:abV "check_piece" dO):=_
def aPk{kvs:anQ}:=_
def aPl{res:afm}:=_
def aPm(i x:Int):=_
def aTr(hm:acs (lastMarks [op,Wq] [b,c]):=by rw[aDP]):=_
def aTs(hk:di ρ M2=.ok k M3)(hp:t6 (yI x k y M3) M'):=_
def aSp(hn:ar0 := by decide)aON:=_
def aTt(OK:aAw (aad n YO) (ab1 aad y py) apos.line=aoo:=by rfl)(ZR:ahv:=by decide)(hdn:ai8 n ("__debug__" : Str):=by decide):=_
def aPX{kvs:afO}{vs:as5}(r:amx):=_
def aPY(h:auG)aNr:=_
def aQp(ha:S a=agz):=_
def aQq{enc:α->PV}:=_
def aN0{Q:VK}:=_
def aQO(g:κ->α->β):=_
def aQP(Q:abP)(E:abP):=_
def aQQ{ρ:fk}{σ:St}:=_
def aQR(f:an2)(S:aix):=_
def aOI aR5 aRa:=_
def aSq(cR:qD X.prog X.w H' h'):=_
def aQS aNu{a b:Addr}:=_
def aSr(hu:azO)aNa:=_
def aQr(rs:ae6)aN6:=_
def aRo{xs:awa}(r:awr H):=_
def aRp(st:Stmt)(ps:acC):=_
def aRq(FQ:azB)(ha:Sm a):=_
def aOA(p:Nat):=_
def aO6(ds:aeG):=_
def aSs(eU:abV "signal_of" dz):=_
def aSt(prog:Program)(w:World):=_
def aSu{prog:Program}{w:World}:=_
def aTu(k:∀ ρ' M',R xs ρ' M'->Q (.nx ρ' M')):=_
def aQT{d:agb}{k:κ}:=_
def aPD{pins:x8}:=_
def aPE{kvs:agP}:=_
def aRr(hi:aoK)(hx:azG):=_
def aRs(hg:ajS)(hm:awL):=_
def aRt(ho:aIl)(he:aIc):=_
def aN9(p:Pc):=_
def aSv{ρ:fk}{f:α->bb->Out}:=_
def aSw(D:abU x st ps)(S:asf):=_
def aQs{Ex:St->XK}:=_
def aOJ(us:x6):=_
def aOK{us:x6}:=_
def aTv(h1:amt (au2 [tg]).map=[asN tg]:=by rfl):=_
def aOL{ps:kK}:=_
def aTw(hp:∀p:Pc,gp ayy M=.ok (.bl (sP p)) M):=_
def aTx(hk:anK ρ k y)(hy:an3 y=c8 (ys.map η)):=_
def aRu{kindOf:aHd}aNg:=_
def aQU(kvs:afO)aN4:=_
def aTy(hs:axB e (ab1 aad x pos')=aoo:=by rfl):=_
def aTz(i:∀v σ H Q,t' v σ H Q->t v σ H Q):=_
def aTA(nY:am4 o "values" ag1=ag1:=by rfl)aQj:=_
def aQt(ρ:fk)aNi:=_
def aSx(hd:abO=.ok (ο 0) M):=_
def aOh{o:MO}:=_
def aPn(ok:akz):=_
def aPo{b:Bool}:=_
def aPp(ha:akv):=_
def aTB(pa:PlainAttrs T)(slot:Slot T name id):=_
def aTC(slot:Slot "list" name id)(WO:aIq=aHo):=_
def aTD(ja:j∈(ad3 a).js)(jb:j∈(ad3 b).js):=_
def aTE(nY:am4 o "items" ag1=ag1:=by rfl)aQj:=_
def aRv(ι:c9)(S H:Hp):=_
def aRw{ι:c9}{S H:Hp}:=_
def aO7 aN6 aNs:=_
def aQV(aS aL:Addr):=_
def aOW{k:Key}:=_
def aOX(vs:g8):=_
def aOY{p:Nat}:=_
def aSy(jd:abV "way_of" fX):=_
def aSz(je:abV "unlock" fY):=_
def aTF{body:amc}{np py YO apos SK pos:Pos}:=_
def aTG(Xu:aJV X := by rfl)(Z8:ajS:=by rfl):=_
def aQW aNa(hf:auD):=_
def aQX aNc(mg:ac0):=_
def aPZ{env:Env}:=_
def aQu{op:CmpOp}:=_
def aTH(X:K.In hp)(G:hp.Ns mainGlobals mg):=_
def aTI(hv:aDx=.ok y M1)(ho:aCE=.ok x M2):=_
def aPF{e:Expr}:=_
def aPG(nq:aeI):=_
def aPH(hm:at6):=_
def aPI(vd:aoV):=_
def aRx{qual:Str}aQL:=_
def aSA(hb:Binds X.K fd ps ds)(hd:Vals Lr ds)(hx:vx CX X Ex):=_
def aSB aNn(h:r<rs.length):=_
def aOt(t:TB):=_
def aOu{w:HB}:=_
def aO8{fp:c9}:=_
def aO9{f:Str}:=_
def aPa(R:aoA):=_
def aPq aOP{mg:ac0}{base:Heap}:=_
def aPr aQ8 aND aNz(E:XK):=_
def aTJ(i:∀D σ H,t' D σ H->t D σ H):=_
def aTK(hf:ae8 ah0 (acn W.locks p none)):=_
def aTL(h:abO=YX c M')(q:Q (YX c ρ M')):=_
def aTM(dE:aAa)(qx:afd "_law_pass" 3 oB):=_
def aTN(eD:aCx)(qz:afd "_law_deed" 3 oF):=_
def aQY(e:H a=auy):=_
def aTO aSe(Aa:aiF (arL es).any:=by rfl):=_
def aSC(i j:Int)(t u:Tok):=_
def aTP(k:b8 (PySem.W.keepIn K (Δ f))):=_
def aTQ(A:A8 C g0 g1 g2 g3 g4 g5 g6 g7):=_
def aTR(eB:anm (k+1) "is_at_border" dA):=_
def aRy(fd:FuncData):=_
def aRz(hs:SgS C gs):=_
def aRA(hw:WyS C gw):=_
def aRB(ht:CaS C gt):=_
def aRC(ι:c9)(S:Hp):=_
def aOB(Q:VK):=_
def aTS(k:∀b o,b∉fp->ags->ahd=aaW):=_
def aTT{gt g0 g1 g2 g3 g4 g5 g6 g7:D1}:=_
def aNI{v:V}:=_
def aRD{M:Model}aOy{E:abP}:=_
def aRE(e:Value)aPg:=_
def aRF aNm{s r:Nat}:=_
def aSD(S:aK N ps scope):=_
def aSE(hr:jA (k+1) X.A):=_
def aSF{w:D6}{R:fk->ay1}:=_
def aSG{gr:D1}(hr:oM gr):=_
def aSH{locks:aeI}{t:Tr}:=_
def aQv(v:Value):=_
def aPs(xs:g8):=_
def aPt{Q:aiO}:=_
def aPu(h:ah2):=_
def aTU(F:HA P w K mg base j C m n g):=_
def aTV(F:F0 P w K mg base j x C n g):=_
def aTW(mZ:Me z k aL "train_in" 2 fK):=_
def aTX(D:C7 K mg x C q st ps)(S:asf):=_
def aTY(hg:aLK)(hf:(aMc).Sublist ah6):=_
def aTZ aNh(h:arl x (b8 (PV.lO n x))):=_
def aSI aNf(h:ajx k ahj):=_
def aPJ aNz aN2:=_
def aPK aNF aOC:=_
def aPL aNh aNb:=_
def aPM aNU aNi:=_
def aPN aPc aO4:=_
def aP0(e:Expr):=_
def aP1(xs:afK):=_
def aP2(c:Addr):=_
def aP3(hr:adt):=_
def aT0(VD:G4 C Y VC)(hbo:QZ C Y gb):=_
def aOM{E:XK}:=_
def aQZ(X:Gb K C):=_
def aT1 aNa(k:∀b u,apL u->ahd=abF):=_
def aQw{y:V}aN1:=_
def aRG(enc:α->PV):=_
def aSJ(hu:au4 1<cLine):=_
def aSK(hn:t6 l.most n):=_
def aSL(ho:av2 (ami f)):=_
def aSM(h:avr 2\/avr 3):=_
def aSN{d:Wo×Int×Int}:=_
def aSO(hn:att)(hl:azs):=_
def aSP(v:Wo)(hu:v.s=u):=_
def aT2(F:gE P w K mg base j x n g):=_
def aT3(iJ:afd "pieces_under" 1 fW):=_
def aT4(fP:abV "check_not_held" fh):=_
def aT5{r r':V->acG->auP}(h:Oo X r):=_
def aT6(hm:DU X id (arI f))(ho:asb):=_
def aT7{a b c d:Addr}{x y z u:Bool}:=_
def aSQ{x qual:Str}aO3:=_
def aRH(lo:Int)aNd:=_
def aRI aRc{ps:acC}:=_
def aRJ aNd(way:HB):=_
def aRK aNL(f:Bool):=_
def aRL aNf(hk:aDe):=_
def aT8(hs:axB e none=aoo:=by rfl):=_
def aT9(D:C6 K C m q st ps)(S:asf):=_
def aPO{Q:auQ}:=_
def aPP(j:Nat):=_
def aPQ(M':bb):=_
def aPR(t:Int):=_
def aPS{s:Nat}:=_
def aOZ{g:D1}:=_
def aUa aNl(hd:agg M n .bP (B4 Y)):=_
def aSR(res:afm)(k:Kd):=_
def aUb(hdf:d.params.defaults=[]):=_
def aUc(p7:aiF (aLk).any:=by rfl):=_
def aUd(hn:ds.length+1=n:=by rfl):=_
def aUe(XW:∀r<Y.rs.length, aGS):=_
def aUf(iK:abV "signal_ahead" fZ):=_
def aUg{pl:aGr}{Q:Value×x6->am0}:=_
def aUh(WO:aIq=aHo)(hm:DU X id r):=_
def aUi(rx:aE3 x d bs)(SN:aJd xs):=_
def aUj{v₁ v₂:Expr}{rest:ab5}:=_
def aUk(hc:CkP C gc)(hu:PuS C gu):=_
def aP4 aNc(mg:ac0)(base:Heap):=_
def aP5 aNc aNK:=_
def aP6 aN6 aNk:=_
def aP7 aNZ aNs:=_
def aP8 aOo aNs:=_
def aP9 aNj aQF:=_
def aRM(e:H a=aAg):=_
def aRN{id:String}:=_
def aRO{y z w:akQ}:=_
def aQx(he:atP):=_
def aQy{xs:afK}:=_
def aQz(aV:adO):=_
def aQA(he:ar9):=_
def aQB{x y:PV}:=_
def aQC(Em:awm):=_
def aUl(ho:lL ρ M=.ok (ο n) M):=_
def aUm{gc gs gt gb gf gu gw:D1}:=_
def aUn(k8:afd "is_points" 1 jL):=_
def aUo(k9:afd "is_border" 3 jM):=_
def aUp(BR:afd "_law_ways" 5 ow):=_
def aUq(kV doc pm:Value)(an:asU):=_
def aUr(hk:kq x=aeK)(hv:anT=aeJ):=_
def aQ0{v:Value}:=_
def aQ1{h':Heap}:=_
def aQ2{j k:Nat}:=_
def aQ3(h:j≤k):=_
def aQ4{kvs:ae2}:=_
def aQ5{a b:Nat}:=_
def aRP aRj(σ:St):=_
def aRQ aSr(g:aDC):=_
def aRR aOn(h:aed):=_
def aRS aNP(h:aee):=_
def aRT aNh(h:asm):=_
def aRU aPd(v:α)(k':κ):=_
def aRV aNt{v':MO}:=_
def aRW aNl(K:aDE):=_
def aRX aNU(a:aec):=_
def aPb{s:dM}:=_
def aSS{pre post:ae6}:=_
def aST(hc:GO C Y gc):=_
def aSU(ht:zN C Y gt):=_
def aSV{a:α}{as:afK}:=_
def aSW(e:azv)(k:Int):=_
def aUs{vl vu:Value}{lo hi:acG}:=_
def aUt{loose:acC}{XP:ac0->avN}:=_
def aUu{j o:Int}(hn:p.js.Nodup):=_
def aSX aOy(r:jA k A):=_
def aSY aNc(T:String):=_
def aUv(I:Mg c ps loose m0)aTp:=_
def aQ6 aNQ(x:V):=_
def aUw aRl(zm:PI X tg iter wi):=_
def aQ7 aNO(v:V):=_
def aUx aNc(Rp:c9->Hp->α->aCt):=_
def aUy aOc(ht:W'.trains=amk t):=_
def aQa(te:TE):=_
def aQb{di:DI}:=_
def aQc{P:ato}:=_
def aQd{j:Int}:=_
def aQe(l:aeI):=_
def aUz(F:OB K x qual st f fd):=_
def aUA(zm:VI X Ex tg iter di):=_
def aUB(T:Ck Y.rs aKB locks t):=_
def aUC(hd:abO=.ok (ς aBe) M):=_
def aUD(k7:abV "pieces_at" jJ):=_
def aUE(xM:afd "ways_on" 5 lV):=_
def aUF(qu:abV "_law_held" ox):=_
def aUG(qv:abV "_law_near" oy):=_
def aUH(qw:abV "_law_free" oz):=_
def aUI(hi:acn ι n p)(hS:aC8):=_
def aRY(ta tb:TE):=_
def aRZ(r:V->ajm):=_
def aR0{xs ys:d5}:=_
def aR1(da db:DE):=_
def aR2{d:PyData}:=_
def aR3(neg:Bool):=_
def aR4(wait:Int):=_
def aUJ(hb:∀M aP8,an7 [ai9,η a,η x]=.ok (aiA (akJ a x)) M):=_
def aUK(hb:∀aQk aPr,aDq->aCi (lp (rS P w) P w K mg base N q (av st) f lg A outer s H E) →
   auU (lp (rS P w) P w K mg base N q (av st) f lg A outer s H E)):=_
def aUL(hb:∀aQk aPr,aDq →
   auU (lp (rS P w) P w K mg base N q (av st) f lg A outer s H E)):=_
def aUM(hu:∀aOt M',aIo->aIn->ap3->gu [ahy] M'=.ok (iM (t.tr.steps.map (·.1))) M'):=_
def aUN(hs:∀M B aNk, aeW->adt->gs [ο 0, η r] M=.ok (η aaE) M):=_
def aUO(hs:∀M' aNk,aCM->adt->gs [ο 0,η r] M'=.ok (η aaE) M'):=_
def aUP(hb:∀aOo aNU,an7 [ai9,η a,η j]=.ok (bM (akJ a j)) M):=_
def aUQ(hb:∀aOo aNU,an7 [ai9,η a,η j]=.ok (.bl aCN) M):=_
def aUR(hi:∀aNd aN2,alb->acn ι' n a):=_
end
def ZqT:=Std.HashMap Lean.Name (Nat×Array Lean.Name×Array Lean.Syntax)
def ZqH:Lean.Syntax->Option (Lean.Name×Array Lean.Syntax)
|.ident _ _ x _=>some (x,#[])
|.node _ ``Lean.Parser.Term.app as=>match as[0]! with
 |.ident _ _ x _=>some (x,as[1]!.getArgs)
 |_=>none
|_=>none
def ZqW (s:Lean.Syntax):Nat×Lean.Syntax:=
 if s.getKind==``Lean.Parser.Tactic.rwSeq&&s[2][1].getNumArgs==1 then (1,s[2][1][0][1]) else if s.getKind==`Lean.Parser.Tactic.rcasesPat.one then (2,s[0]) else (0,s)
def ZqG (D:ZqT):Nat->List (Lean.Name×Array Lean.Syntax)->Lean.Syntax->Array Lean.Syntax
|0,_,s=>#[s]
|n+1,E,s=>
 let (w,t):=ZqW s
 if s.isOfKind ``Lean.Parser.Term.paren&&(match ZqH s[1] with
  |some (x,as)=>(match Std.HashMap.get? D x with
   |some (0,ps,_)=>as.size==ps.size
   |_=>false)
  |_=>false) then ZqG D n E s[1] else
 let g:=match ZqH t with
  |some (x,as)=>match (if as.isEmpty&&w==0 then E.lookup x else none) with
   |some r=>some r
   |none=>match Std.HashMap.get? D x with
    |some (v,ps,b)=>if !(v==w)||as.size<ps.size then none else
     let a:=as.map (ZqG D n E)
     let b:=b.flatMap (ZqG D n (ps.toList.zip a.toList))
     if as.size==ps.size then some b else some #[.node .none ``Lean.Parser.Term.app #[b[0]!,.node .none Lean.nullKind ((a.extract ps.size).flatMap id)]]
    |_=>none
  |_=>none
 let f:=fun (s:Lean.Syntax)=>if s.isOfKind ``Lean.Parser.Term.app&&s[0].isOfKind ``Lean.Parser.Term.app then s.setArgs #[s[0][0],.node .none Lean.nullKind (s[0][1].getArgs++s[1].getArgs)] else s
 match g with
 |some r=>r.map f
 |none=>match s with
  |.node i k as=>#[f (.node i k (as.flatMap (ZqG D n E)))]
  |_=>#[s]
def ZqC:Nat->Lean.Syntax->Lean.Syntax
|0,s=>s
|n+1,s=>
 if s.isOfKind ``Lean.Parser.Command.universe then .node .none ``Lean.Parser.Command.end #[Lean.mkAtom "end",.node .none Lean.nullKind (if s[1][0].getId==`zE then #[] else #[s[1][0],.node .none Lean.nullKind #[]])]
 else if s.isOfKind ``Lean.Parser.Command.in then s.setArg 2 (ZqC n s[2])
 else if s.isOfKind ``Lean.Parser.Command.declaration&&(s[0].getArgs.extract 2).all (·.getNumArgs==0) then
  let d:=s[1]
  if d.isOfKind ``Lean.Parser.Command.definition then s.setArg 1 (.node .none ``Lean.Parser.Command.theorem #[Lean.mkAtom "theorem",d[1],.node .none ``Lean.Parser.Command.declSig #[d[2][0],d[2][1][0]],d[3]])
  else if d.isOfKind ``Lean.Parser.Command.abbrev then s.setArgs #[s[0].setArg 4 (.node .none Lean.nullKind #[.node .none ``Lean.Parser.Command.noncomputable #[Lean.mkAtom "noncomputable"]]),.node .none ``Lean.Parser.Command.definition #[Lean.mkAtom "def",d[1],d[2],d[3],.node .none Lean.nullKind #[]]]
  else s
 else s
def ZqI (s:String):Lean.Name:=(s.splitOn "\t").foldl Lean.Name.mkStr .anonymous
def ZqP (s:String):Array Lean.Syntax:=
 let f:=fun (x:Lean.Syntax) (S:List (Lean.Name×Array Lean.Syntax))=>match S with
  |(k,a)::S=>(k,a.push x)::S
  |[]=>[]
 let r:=(s.splitOn "\n").foldl (fun (S:List (Lean.Name×Array Lean.Syntax)) t=>
  let u:=(t.drop 1).toString
  match t.front with
  |'('=>
   let v:=(u.drop 1).toString
   ((match u.front with
   |'n'=>Lean.nullKind
   |'t'=>.str `Lean.Parser.Term v
   |'c'=>.str `Lean.Parser.Tactic v
   |_=>ZqI v),#[])::S
  |')'=>match S with
   |(k,a)::S=>f (.node .none k a) S
   |[]=>[]
  |'\''=>f (.atom .none u) S
  |'.'=>f (.ident .none u.toRawSubstring (if u=="" then .anonymous else ZqI u) []) S
  |'?'=>f .missing S
  |_=>S) [(.anonymous,#[])]
 match r with
 |(_,a)::_=>a
 |[]=>#[]
def ZqB (cs:Array Lean.Syntax):ZqT:=cs.foldl (λ D c=>let b:=c[2]
  let p:=c[1].getArgs
  let q:=p.map (·.getId)
  D.insert c[0].getId (if b.isOfKind ``Lean.Parser.Term.byTactic then (1,q,b[1][0][0].getArgs) else if b.isOfKind ``Lean.Parser.Term.hole then (0,#[],p) else (0,q,#[b]))) (Std.HashMap.emptyWithCapacity 4096)
def ZqE (D:ZqT) (cs:Array Lean.Syntax):Array Lean.Syntax:=cs.flatMap λ c=>(ZqG D 100000 [] c).map (ZqC 9)
local macro_rules
|`(mutual $cs* end)=>do
 if !cs[0]!.raw.isOfKind ``Lean.Parser.Command.section then Lean.Macro.throwUnsupported
 return .node .none Lean.nullKind (ZqE (ZqB (ZqP ZqD)) (cs.map (·.raw)))
mutual
section
namespace L2
open PySem PySem.Spec PyProof.Rows
noncomputable abbrev Key:=Sum Int Str
abbrev ve:Key->aoc Bool
 | b4 k,v=>Value.isInt k v
 | b9 x,v=>Value.isStrOf x v
abbrev acH(w:World):Key->Int
 | b4 k=>hashInt k
 | b9 x=>hashStr w x
def eN:∀aOW aQ0,ayo k v->(∃i t,k=Sum.inl i/\v=azK)\/(∃x t,k=Sum.inr x/\v=azL)
 | b4 i,v,h=>by
  rw[adP t e (Value.isInt_shape (k:=i) (v:=v) h) (b4 (agY i t e))]
 | b9 x,v,h=>by
  rw[adP t e (Value.isStrOf_shape (x:=x) (v:=v) h) (b9 (agY x t e))]
def Ld aNV(t:Tok):ayo (b4 i) (η i t):=aeU ve Value.isInt
def Le aNM(t:Tok):ayo (b9 x) (b5 x t):=aeU ve Value.isStrOf
def VM(a b:Int):aeY (aFV:Key) aFW=(a == b):=by
 rw[ah3 a b]
 ·subst e;simp
 ·have h:¬(aFV:Key)=aFW:=λ q=>e (Sum.inl.inj q);rw[aeN aJF (beq_eq_false_iff_ne.mpr e).symm]
def VQ(a b:Str):aeY (aKW:Key) aKX=aeY a b:=by
 rw[ah3 a b]
 ·subst e;simp
 ·have h:¬(aKW:Key)=aKX:=λ q=>e (Sum.inr.inj q);rw[aJF,aMs]
def VR(a:Int)(b:Str):acs (aeY (aFV:Key) aKX):=decide_eq_false (λ q=>nomatch q)
def VU(a:Str)(b:Int):acs (aeY (aKW:Key) aFW):=decide_eq_false (λ q=>nomatch q)
abbrev cH aSt:PySem.KeyKind prog w Key where
 is:=ve
 hash:=acH w
 inj:=λ v a b ha hb=>by
  rcases eN ha with⟨i,t,rfl,rfl⟩ | ⟨x,t,rfl,rfl⟩
  ·rcases eN hb with⟨j,u,rfl,e⟩ | ⟨y,u,rfl,e⟩
   ·injection e with e1 _; rw[e1]
   ·rw[aKu]
  ·rcases eN hb with⟨j,u,rfl,e⟩ | ⟨y,u,rfl,e⟩
   ·rw[aKu]
   ·injection e with e1 _; rw[e1]
 byValue:=λ k v h=>by
  rcases eN h with⟨i,t,rfl,rfl⟩ | ⟨x,t,rfl,rfl⟩<;>rfl
 pyHash:=λ hv h=>by
  rcases eN hv with⟨i,t,rfl,rfl⟩ | ⟨x,t,rfl,rfl⟩
  ·exact wpAny_pyHash_int h
  ·exact wpAny_pyHash_str h
 eqBool:=λ hu hv h=>by
  rcases eN hu with⟨i,t,rfl,rfl⟩ | ⟨x,t,rfl,rfl⟩
  ·rcases eN hv with⟨j,u,rfl,rfl⟩ | ⟨y,u,rfl,rfl⟩
   ·rw[g9 VM h (wpAny_eqBool_int h)]
   ·rw[g9 VR h (SeqAt.EqAt.int_str i t y u _ _ _ _ h)]
  ·rcases eN hv with⟨j,u,rfl,rfl⟩ | ⟨y,u,rfl,rfl⟩
   ·rw[g9 VU h (SeqAt.EqAt.str_int x t j u _ _ _ _ h)]
   ·rw[g9 VQ h (wpAny_eqBool_str h)]
 «strs»:=λ k x t v h=>by
  rcases eN h with⟨i,u,rfl,e⟩ | ⟨y,u,rfl,e⟩
  ·rw[aKu]
  ·injection e with e1 _;subst e1;cases v<;>rfl
def Fu aSt aNV(t:Tok):b8 ((cH prog w).is (b4 i) (η i t)):=Ld i t
def Fv aSt aNM(t:Tok):b8 ((cH prog w).is (b9 x) (b5 x t)):=Le x t
universe L2
namespace L2
open PySem PySem.Spec PyProof.Rows
inductive V where
 | bh | bl(b:Bool) | int aNV | str aNM | YI(b:Array UInt8) | YJ(b:UInt64) | ref aN2 | ty(n:String)
 deriving DecidableEq
abbrev RelV:V->adj Value
 | .bh,u=>u=Value.none
 | .bl b,u=>u=Value.bool b
 | η i,u=>∃t,u=azK
 | b5 x,u=>∃t,u=azL
 | .YI b,u=>∃t,u=Value.bytes b t
 | .YJ b,u=>∃t,u=Value.float b t
 | Δ a,u=>u=aol
 | .ty n,u=>u=Value.type n
noncomputable abbrev Vals:g8->adj x6:=Paired RelV
def Vals.length aO0(r:ak6):ax3 us.length:=aJS
def Vals.get:∀aO0 aNt{x:V},ak6->amw->∃u,ahf us u/\at7
 | _,_,_,_,abT,e=>aqV e
 | _,_,0,_,aaT r _,e=>by simp at e;subst e;exact anl r
 | _,_,i+1,x,aaT _ t,e=>by
  rw[agl u h1 h2 (Vals.get (i:=i) (x:=x) t (aaF e)) u aHU h2]
def Vals.set{x:V}aN1(r:at7):∀aO0 aNr,ak6->auT (xs.set i x) (us.set i u)
 | _,_,_,abT=>abT
 | _,_,0,aaT _ t=>aaT r t
 | _,_,i+1,aaT q t=>aaT q (Vals.set r i t)
def Vals.append:∀{xs ys:g8}{us ws:x6},ak6->Vals ys ws->auT (xs++ys) (us++ws)
 | _,_,_,_,abT,s=>s
 | _,_,_,_,aaT r t,s=>aaT r (Vals.append t s)
def Vals.take:∀aO0 aNd,ak6->auT (xs.take n) (us.take n)
 | _,_,0,_=>abT
 | _,_,_+1,abT=>abT
 | _,_,n+1,aaT r t=>aaT r (Vals.take n t)
def Vals.drop:∀aO0 aNd,ak6->auT (xs.drop n) (us.drop n)
 | _,_,0,r=>r
 | _,_,_+1,abT=>abT
 | _,_,n+1,aaT _ t=>Vals.drop n t
abbrev p6:apV->adj amZ
 | aeJ,abF=>ahY
 | none,none=>True
 | _,_=>False
abbrev KV aOd:afO->adj as5:=Paired fun(p:κ×V) (q:κ×Value)=>p.1=q.1/\RelV p.2 q.2
abbrev kV:Key->V
 | b4 i=>η i
 | b9 x=>b5 x
inductive HO where
 | lst aPs
 | tup aPs
 | dK(kvs:agP) | dT(kvs:anQ)
 | set(S:alA Int)aNd
 | ins(C dx:Addr)(fs:anM)
 | own(x:Addr)
 | xd(fs:anM)
 | met(f x:Addr)
 | Fx(lo hi:Int)
 | ko(o:Obj)(u:HO)
 | uy(ps:asT)
 | ext(φ:avN)
noncomputable abbrev Hp:=aiK Addr HO
abbrev upd aPJ(o:HO):Hp:=arH b b a aaW (H b)
def bG aNu aNx{o:HO}:upd H a o a=aaW:=by rw[acu upd aeO]
def aQ aQS{o:HO}(h:b≠a):upd H a o b=H b:=by rw[acu upd aov]
def YZ aQS{o u:HO}(h:H a=aaW)(h':H b=abF)(d:o≠u):a≠b:=by
 intro e; subst e;rw[g9 h h' (d (Option.some.inj h'))]
def bW aQS{o:HO}(h:H a=aaW)(h':agr):a≠b:=by
 intro e; rw[akS e h h']; cases h'
section
variable (P:Program) (w:World)
abbrev iu aNz aOT aN2:adj HO
 | ς xs=>aq4/\∃(bN:x6) (n:Nat),awo/\ajv=aom aj2 (ahx bN.toArray n)
 | f9 xs=>aq4/\∃bN:x6,awo/\IsTup h a bN.toArray
 | .dK kvs=>asK/\ar3/\∃vs,amx/\h.DictOf (cH P w) a vs
 | .dT kvs=>asK/\ar3/\∃xs:awa,
   Paired (fun(p:ajX×V) (q:ajX×Addr×Value)=>p.1=q.1/\H q.2.1=apy (p.1.map kV)/\RelV p.2 q.2.2) kvs xs ∧
   ∃o es ep,ajv=aaW/\o.ExactDict/\azu (.dict es ep)/\es.toList=xs.map (entryOfKey (tupleKind (cH P w)))/\af0 (xs.map (·.1))
 | afq S n=>h.SetOf (intKind P w) a S n
 | aa7 C dx fs=>H dx=aDk/\fs.length≤1000/\dx≠a/\ajv=c8 (PySem.W.instObj C dx) ∧
   ∃mA,h.Ns1 dx mA/\(∀f,p6 asV (mA f))/\aJT aEN
 | .own _=>∃o,ajv=aaW
 | .xd fs=>∃mA,h.Ns1 a mA/\∀f,p6 asV (mA f)
 | .Fx lo hi=>∃t u v,ajv=aom (acr "range") (agD #[η lo t,η hi u,η 1 v])
 | .ko o u=>ajv=aaW/\iu H h a u
 | .uy ps=>ajv=aom aaY (agD ps)
 | .met f x=>ajv=aJb (Δ f) (Δ x)
 | .ext φ=>φ h/\(∃o,ajv=aaW)/\∀h1 h2:Heap,φ h1->(∀o,h1.get? a=aaW->h2.get? a=aaW)->φ h2
abbrev qD aNz aOT:Prop:=∀a o,H a=aaW->iu P w H h a o
universe zE
section
variable {P:Program} {w:World} {H H':Hp} {h h':Heap} {a:Addr} {o:HO}
def iu.lt(x:iu P w H h a o):a<h.objs.size:=by
 cases o with
 | lst xs=>obtain⟨_,_,_,_,e⟩:=x;exact ajp
 | tup xs=>rw[aEj p x p.lt]
 | dK kvs=>obtain⟨_,_,_,_,o,_,_,e,_⟩:=x;rw[at5]
 | dT kvs=>obtain⟨_,_,_,_,o,_,_,e,_⟩:=x;rw[at5]
 | set S n=>obtain⟨o,_,_,_,e,_⟩:=x; rw[at5]
 | ins C dx fs=>obtain⟨_,_,_,e,_⟩:=x; rw[at5]
 | own y=>obtain⟨_,e⟩:=x;exact ajp
 | xd fs=>obtain⟨_,⟨_,_,_,e,_⟩,_⟩:=x; rw[at5]
 | Fx lo hi=>rw[aEj e x ajp]
 | ko ob u=>obtain⟨e,_⟩:=x; rw[at5]
 | uy ps=>exact Heap.lt_size (ahG ajv ak3 x)
 | met f y=>exact Heap.lt_size (ahG ajv ak3 x)
 | ext φ=>obtain⟨_,⟨_,e⟩,_⟩:=x; rw[at5]
def Paired.NY aOa{F G:α->aCt}:∀{l₁:afK}{l₂:aGK},Paired F l₁ l₂->(∀a b,F a b->G a b)->Paired G l₁ l₂
 | _,_,abT,_=>abT
 | _,_,aaT r t,f=>aaT (f _ _ r) (Paired.NY t f)
def iu.vf(x:iu P w H h a o)(k:∀b u,(b=a\/H b=aDk)->aic=abF->ahd=abF)
  (ho:∀b,H b=aDk->alW=aDk)(ht:∀b xs,H b=ak7->alW=ak7):iu P w H' h' a o:=by
 induction o with
 | lst xs=>rw[aen z bN n r e x ⟨z,bN,n,r,k _ _ (b4 rfl) e⟩]
 | tup xs=>obtain⟨z,bN,r,ob,e,c⟩:=x; exact⟨z,bN,r,ob,k _ _ (b4 rfl) e,c⟩
 | dK kvs=>obtain⟨z,y,vs,r,ob,es,ep,e,c⟩:=x; exact⟨z,y,vs,r,ob,es,ep,k _ _ (b4 rfl) e,c⟩
 | dT kvs =>
  obtain⟨z,y,xs,r,ob,es,ep,e,c⟩:=x;exact⟨z,y,xs,Paired.NY r λ p q z=>⟨z.1,ht _ _ z.2.1,z.2.2⟩,ob,es,ep,k _ _ (b4 rfl) e,c⟩
 | set S n=>obtain⟨ob,es,ep,t,e,c⟩:=x; exact⟨ob,es,ep,t,k _ _ (b4 rfl) e,c⟩
 | ins C dx fs =>
  obtain⟨d,z,ne,e,mA,⟨od,es,ep,e2,c⟩,r⟩:=x;exact⟨ho _ d,z,ne,k _ _ (b4 rfl) e,mA,⟨od,es,ep,k _ _ (b9 d) e2,c⟩,r⟩
 | own y=>rw[afk ob e x ob (k _ _ (b4 rfl) e)]
 | xd fs=>obtain⟨mA,⟨od,es,ep,e,c⟩,r⟩:=x; rw[Lb mA ⟨od,es,ep,k _ _ (b4 rfl) e,c⟩ r]
 | Fx lo hi=>rw[afr t u v e x ⟨t,u,v,k _ _ (b4 rfl) e⟩]
 | ko ob u ih=>rw[afk e q x (k _ _ (b4 rfl) e) (ih q)]
 | uy ps =>
  have e:ajv=aom aaY (agD ps):=x;show h'.get? a=aom aaY (agD ps);exact k a _ (b4 rfl) e
 | met f y =>
  have e:ajv=aJb (Δ f) (Δ y):=x;show h'.get? a=aJb (Δ f) (Δ y);exact k a _ (b4 rfl) e
 | ext φ=>obtain⟨p,⟨o,e⟩,st⟩:=x; rw[Lb (st _ _ p λ o q=>k _ _ (b4 rfl) q) ⟨o,k _ _ (b4 rfl) e⟩ st]
def qD.lt(x:akz)(e:H a=aaW):a<h.objs.size:=(x a o e).lt
def qD.fresh(x:akz)(e:aKg a):ahW a:=by
 cases q:H a with
 | none=>rfl
 | some u=>rw[ajQ (aqO (x.lt q) e) (Nat.lt_irrefl _)]
def qD.kept(x:akz)aRg:qD P w H h':=λ a o e =>
 (x a o e).vf (λ b u _ q=>k b u q) (abg q q) λ _ _ q=>q
def qD.laid(x:akz)aRg(hp:aKg a)(new:iu P w (anN a) h' a o):qD P w (anN a) h':=agi u e (by
 have hn:=x.fresh hp
 rw[akY (b=a)]
 ·rw[akS hb bG e]; cases e; exact new
 ·rw[ao3] at e
  exact(x b u e).vf (λ c v _ q=>k c v q) (λ c q=>by rw[ab9 (bW q hn) q]) λ c xs q=>by rw[ab9 (bW q hn) q])
universe zE
abbrev Rd aPJ(u:HO):Prop:=H a=abF\/∃o,H a=ab1 .ko o u
def Rd.ok aOl aNu aOe aNx{u:HO}(r:Rd H a u)(x:akz):iu P w H h a u:=by
 rcases r with r | ⟨o,r⟩
 ·exact x a u r
 ·obtain⟨_,q⟩:=x a _ r;exact q
abbrev Y0:adj (Option HO)
 | akF _=>True
 | aa2 .dK _=>True
 | aa2 .dT _=>True
 | ab1 afq _ _=>True
 | c8 (aa7 _ _ _)=>True
 | aa2 .ext _=>True
 | _=>False
section
variable {P:Program} {w:World} {H:Hp} {h h':Heap} {x e:Addr} {o':HO}
def qD.write aPn aSi aTf
  (new:iu P w (upd H x o') h' x o'):qD P w (upd H x o') h':=agi u q (by
 rw[d9 Y1 (∀c y,H c=aa2 .own y->c≠x) (λ c y r z=>by subst z;rw[g9 r mu mu]) acI (∀c xs,H c=ak7->c≠x) (λ c xs r z=>by subst z;rw[g9 r mu mu])]
 rw[akY (b=x)]
 ·rw[azS]; cases q; exact new
 ·rw[ao3] at q;by_cases RQ:b=e
  ·rw[ak1 q' (H b=auB) (by
    rcases he with z | z
    ·rw[ajQ (RQ.trans z) hb]
    ·rw[Ω RQ z]) q q']; cases q';rw[afk v hv YK v (by rw[Ω RQ hv])]
  ·refine(ok b u q).vf (λ c v hc r=>k c v ?_ r) (λ c r=>by rw[ab9 (Y1 c b r) r]) λ c xs r=>by rw[ab9 (acI c xs r) r]
   rcases hc with rfl | hc
   ·exact RQ
   ·rintro rfl;rcases he with z | z
    ·exact Y1 c b hc z
    ·rw[hc] at z; cases z; exact hb rfl)
universe zE
structure Un(fs ex:c9)(H H':Hp)(h h':Heap):Prop where
 keep:∀b o,aic=aaW->agr->b∉fs->b∉ex->ahd=aaW
 slot:∀b o,aic=aaW->agr->b∈fs->b∉ex->∃sl,t6 ahd (aEV o sl)
 free:∀b o,aic=aaW->agr->b∉ex->aka b
 there:∀b o,aic=aaW->b∉ex->∃o',t6 ahd o'
 oZ:∀b xs,H b=ak7->alW=ak7
 ni:∀b o u,H b=ab1 .ko o u->alW=ab1 .ko o u
 o4:∀b ps,H b=aa2 .uy ps->∃more,alW=alB .uy (ps++more)
section
variable {fs NJ ex ex':c9} {H H1 H2:Hp} {h h1 h2 h':Heap} {a x e:Addr} {o:HO}
def Un.any(u:Un fs ex H H1 h h1){b:Addr}{ob:Obj}(q:t6 aic ob)(n:agr)(hx:b∉ex):∃sl,t6 aF1 (aEV ob sl):=by
 rw[akY (b∈fs)]
 ·exact u.slot b ob q n hb hx
 ·rw[aab ob.slots (u.keep b ob q n hb hx)]
def Un.trans(a:Un fs ex H H1 h h1)(b:Un fs ex H1 H2 h1 h2):Un fs ex H H2 h h2 where
 keep:=λ c ob q n hc hx=>b.keep c ob (a.keep c ob q n hc hx) (a.free c ob q n hx) hc hx
 slot:=λ c ob q n hc hx=>by
  obtain⟨sl,e1⟩:=a.slot c ob q n hc hx;rw[afk NK e2 (b.slot c _ e1 (a.free c ob q n hx) hc hx) NK e2]
 free:=λ c ob q n hx=>by
  rw[adP o' e1 (a.there c ob q hx) (b.free c o' e1 (a.free c ob q n hx) hx)]
 there:=λ c ob q hx=>by
  rw[adP o' e1 (a.there c ob q hx) (b.there c o' e1 hx)]
 oZ:=λ c xs q=>b.oZ c xs (a.oZ c xs q)
 ni:=λ c ob xs q=>b.ni c ob xs (a.ni c ob xs q)
 o4:=λ c ps q=>by
  obtain⟨m1,e1⟩:=a.o4 c ps q;rw[afk m2 e2 (b.o4 c _ e1) (m1++m2) (af1 e2 Array.append_assoc)]
def Un.kept aRg:Un fs ex H H h h' :=
 ⟨λ b ob q _ _ _=>k b ob q,λ b ob q _ _ _=>⟨ob.slots,k b ob q⟩,λ _ _ _ n _=>n,λ b ob q _=>⟨ob,k b ob q⟩,λ _ _ q=>q,λ _ _ _ q=>q,λ _ ps q=>⟨#[],by rw[af2 q]⟩⟩
def Un.refl:Un fs ex H H h h:=Un.kept λ _ _ q=>q
def Un.laid aRg(hp:aKg a)(hn:ahW a):Un fs ex H (anN a) h h' where
 keep:=λ b u q _ _ _=>k b u q
 slot:=λ b u q _ _ _=>⟨u.slots,k b u q⟩
 free:=λ b u q n _=>by rw[ab9 (aiB (axg q hp)) n]
 there:=λ b u q _=>⟨u,k b u q⟩
 oZ:=λ b xs q=>by rw[ab9 (bW q hn) q]
 ni:=λ b u xs q=>by rw[ab9 (bW q hn) q]
 o4:=λ b ps q=>⟨#[],by rw[aQ (bW q hn),q];simp⟩
def Un.write aSi aTf:Un fs ex H (anN x) h h':=by
 rw[d9 hx (∀b,agr->b≠x) (agi n z (by subst z;rw[g9 n mu mu])) hb (∀b,agr->b≠e) (agi n z (by
  subst z;rcases he with r | r
  ·exact hx b n r
  ·rw[n] at r; cases r))]
 rw[ahq hm (∀b u,H b=abF->¬Y0 abF->b≠x) (λ b u q nm z=>by subst z;rw[g9 q mu (nm mu)]) ⟨λ b u q n _ _=>k b u (hb b n) q,λ b u q n _ _=>⟨u.slots,k b u (hb b n) q⟩,λ b u q n _=>by rw[ab9 (hx b n) n],acE b u q _,
  λ b xs q=>by rw[ab9 (hm b _ q (acz z)) q],λ b u xs q=>by rw[ab9 (hm b _ q (acz z)) q],λ b ps q=>⟨#[],by rw[aQ (hm b _ q (acz z)),q];simp⟩⟩]
 by_cases RQ:b=e
 ·rw[adL RQ YK]
 ·rw[aab u (k b u RQ q)]
universe zE
abbrev UX aOT aNz:c9:=(aJf).filter λ a=>agc (H a)
abbrev DC aOT aNz:Heap:=PySem.W.hideAll h (UX h H)
def Lf aOT aNz:(DC h H).objs.size=h.objs.size:=PySem.W.hideAll_size _ _
def NZ aOe aNu aQo(e:aic=aaW)(n:agr):(DC h H).get? b=aaW :=
 aD8 e (λ hm=>by
  have q:aky (H b):=aJk.2;rw[aia n q q])
def RS aOe aNu aQo(e:(DC h H).get? b=aaW):aic=aaW/\agr:=by
 have e':aic=aaW:=PySem.W.of_hideAll (UX h H) e;rw[ac4 e' ?_];cases q:H b with
 | none=>rfl
 | some x =>
  rw[d9 hm (b∈UX h H) (List.mem_filter.mpr ⟨List.mem_range.mpr (Heap.lt_size e'),d7 q⟩) z (YW ((DC h H).get? b)) (PySem.W.hideAll_none (UX h H) hm)];rw[z] at e; cases e
abbrev RT(g h:Heap)(L:Addr):x8:=agj (aJf).filterMap a (if a=L\/aky (g.get? a) then none else agj (ajv).map o (a,o))
abbrev rest(g h:Heap)(L d:Addr):x8:=(RT g h L).filter (aiY p p.1 d)
universe L2
namespace L2
open PySem PySem.Spec PyProof.Rows
structure Mod aP4:Prop where
 YL:aF3
 glob:aH3
 blt:∃mb,base.Ns builtinsNs mb/\∀x:Str,ar0 -> mb x=aqY
 nolimit:base.NoLimit
structure Cx where
 prog:Program
 w:World
 K:Fg
 mg:ac0
 base:Heap
 A:Around
 N:acC
 s₀:Shared
 H₀:Hp
 env:Env
 outer:afJ
 stack:afJ
 ex:c9
 fn:alA Str
 calm:Bool
 pn:x8
 xe:abP
abbrev rL(l:afJ):c9:=l.filterMap (·.frame)
noncomputable abbrev Cx.fs aNo:c9:=rL X.outer
abbrev Vis(sc:Scope)aNM:Prop:=am6=ani \/ am6=agG\/am6=aoB
abbrev Loc(sc:Scope)aNM:Prop:=am6=ani \/ am6=agG
abbrev Look(env:Env)aOT(m:ac0)aNM aO5:Prop :=
 (aKh=ani /\ m x=abF)\/((aKh=agG\/aKh=aoB)/\∃c,avZ x/\h.IsCell c abF)
structure Cx.Ok aNo:Prop where
 mod:Mod X.K X.mg X.base
 kind:X.env.scope.kind=anj
 glob:X.env.globals=mainGlobals
 blt:X.env.builtins=builtinsNs
 above:asC X.env.locals
 inj:∀x y c,ajU=agF->X.env.cells.lookup y=agF->x=y
 has:∀x,(apD x agG\/apD x aoB)->∃c,ajU=agF
 Y2:∀x c,aub->ajU=agF->asC c
 hd:agX->YW X.A.handled
 frames:t6 X.A.frames X.stack
 stk:X.stack=X.outer\/(aHt/\aJZ)
 exf:an0 X.ex (at9/\∀x c,ajU=agF->c≠b)
 bs:∀b o,aA1=aaW->aJA=aaW/\YW (X.H₀ b)
 RD:X.base.objs.size≤X.s₀.heap.objs.size
 N0:∀b o,aA1=aaW->b∉X.ex
 RU:an0 X.ex (awz b)
 yC:aLx X.outer
 VX:an0 X.fs (YW (X.H₀ b))
structure Inv aRj(σ:asy V)aNz aND:Prop where
 ok:X.Ok
 os:s.os=X.s₀.os
 bare:aMY
 base:Un X.fs X.ex X.H₀ H X.s₀.heap s.heap
 loc:∃m,aLP m/\∀aNr aNM(v:V),aoK->aDH->aED x->∃u,ahY/\Look X.env s.heap m x u
 cell:∀x c,ajU=agF->∃v,s.heap.IsCell c v
 free:ahW X.env.locals
 m3:∀x c,ajU=agF->ahW c
 pin:ae8 aqI (akH p.1 p.2/\ahW p.1/\axb p.1/\awz p.1/\∀v,p.2.data≠arV v)
 cR:qD X.prog X.w H s.heap
 len:σ.length=X.N.length
section
variable {X:Cx} {pins:x8} {σ:asy V} {H H':Hp} {s:Shared} {h':Heap}
def Cx.Ok.acJ(ok:X.Ok)aQo(e:aA1=aaW):awz b:=λ hb=>by
 rw[aiL (ok.yC.mem hb).1 e]; cases this
def Inv.bs aNa:∀b o,aA1=aaW->ags/\agr:=λ b o e =>
 ⟨I.base.keep b o (I.ok.bs b o e).1 (I.ok.bs b o e).2 (I.ok.acJ e) (I.ok.N0 b o e),I.base.free b o (I.ok.bs b o e).1 (I.ok.bs b o e).2 (I.ok.N0 b o e)⟩
def Inv.bk aNa:∀b o,aA1=aaW->ags:=amT (I.bs b o e).1
def Inv.mod aNa:Mod X.K X.mg X.base:=I.ok.mod
def Inv.Fy aNa:X.K.In s.heap:=I.ok.mod.YL.keeps I.bk
def Inv.fr aNa:∃m,Fr X.base X.env.locals s.heap m :=
 let⟨m,hn,_⟩:=I.loc
 ⟨m,hn,I.bk,aM2⟩
def Inv.lt aNa:ava X.env.locals:=let⟨_,hn,_⟩:=I.loc; hn.lt
def Inv.sz aNa:asC s.heap.objs.size:=ai5 I.ok.above (Nat.le_of_lt I.lt)
def Inv.acK aNa aNx(h:aJE a):awz a:=λ hb=>by
 obtain⟨_,o,ho,_⟩:=I.ok.yC.mem hb;rw[ajQ (axg ho (Nat.le_trans I.sz h)) (Nat.lt_irrefl _)]
def Inv.RV aNa:∀x c,ajU=agF->axb c:=λ x c e z=>by
 obtain⟨v,o,ho,hd⟩:=I.cell x c e;obtain⟨m,⟨o',es,ep,JD,hd',_⟩,_⟩:=I.loc;rw[z,JD] at ho; cases ho; rw[hd'] at hd; cases hd
def Inv.yC aNa:aJa X.outer:=by
 rw[ajE all (∀(l:afJ),(an0 (rL l) (b∈X.fs))->aLx l->aJa l) (by
  intro l
  induction l with
  | nil=>intro _ _; trivial
  | cons env r ih =>
   intro hs hl;obtain⟨hk,⟨L,o,hf,hn,ho,hd⟩,hr⟩:=hl;have hL:L∈X.fs:=hs L (by rw[af7 rL List.filterMap_cons hf]; rw[aJs]);rw[afF sl e (I.base.slot L o ho (I.ok.VX L hL) hL (acz (I.ok.RU L z hL))) ⟨hk,⟨L,_,hf,hn,e,hd⟩,ih (aqt (hs b (by rw[af7 rL List.filterMap_cons hf]; exact aha hb))) hr⟩]) (all X.outer (abg hb hb) I.ok.yC)]
def Inv.stack aNa:aJa X.stack:=by
 rcases I.ok.stk with e | ⟨e,hf⟩
 ·rw[alL I.yC]
 ·rw[e];obtain⟨m,hn,_⟩:=I.loc;rw[ant (aaT (by rw[I.ok.kind];decide) hf hn ?_ I.yC) (Heap.get?_none_of_le aM2)]
def Inv.DD aNa:an0 ara (b∈X.env.locals::X.fs):=aqt (by
 rcases I.ok.stk with e | ⟨e,hf⟩
 ·rw[g9 e hb (aha hb)]
 ·rw[e] at hb;unfold rL at hb;rw[aoO List.filterMap_cons hf hb hb])
def Inv.DF aNa:an0 ara agr:=aqt (by
 rcases List.mem_cons.mp (I.DD b hb) with e | hb
 ·rw[alL I.free]
 ·obtain⟨_,o,ho,_⟩:=I.ok.yC.mem hb;exact I.base.free b o ho (I.ok.VX b hb) (acz (I.ok.RU b z hb)))
def Inv.step{g':aMW}aOF{d':Drawn}{ch:c9}aNa
  aR6
  (keep:∀b o,at9->awz b->b∉ch->ags->agr->ahd=aaW)
  (slot:∀b o,at9->b∈X.fs->b∉ch->ags->agr->∃sl,t6 ahd (aEV o sl))(free:∀b o,b∉ch->ags->agr->aka b)
  (there:∀b o,b∉ch->ags->∃o',t6 ahd o')
  (oZ:∀b xs,H b=ak7->alW=ak7)(ni:∀b o u,H b=ab1 .ko o u->alW=ab1 .ko o u)(o4:∀b ps,H b=aa2 .uy ps->∃more,alW=alB .uy (ps++more))
  (ns:∀m,aLP m->h'.Ns X.env.locals m)aSq(hg:AllBare g') :
  axS { s with heap:=h',gens:=g',drawn:=d',toks:=t' }:=by
 rw[d9 neL (∀b o,aJA=aaW->at9) (amT aHm) neC (∀b o,aJA=aaW->b∉X.ex->b∉ch) (λ b o e hx hb=>by
  rcases(RE b hb).1 with z | z
  ·exact hx z
  ·rw[ajQ (aqO ajp z) (Nat.lt_irrefl _)])]
 rw[ahq cellK (∀x c,ajU=agF->∀v,s.heap.IsCell c v->h'.IsCell c v) (λ x c e v ⟨o,ho,hd⟩=>by
  have Y3:c∉ch:=acz ((RE c z).2.2.1 x c e rfl)
  by_cases hc:c∈X.fs
  ·rw[afF sl q (slot c o (I.RV x c e) hc Y3 ho (I.m3 x c e)) ⟨_,q,hd⟩]
  ·rw[Lb o (keep c o (I.RV x c e) hc Y3 ho (I.m3 x c e)) hd]) ⟨I.ok,I.os,hg,⟨ais b o e n hb hx,ais b o e n hb hx,adW b o e n hx,alQ e hx,λ b xs e=>oZ b xs (aEY b e),λ b o xs e=>ni b o xs (aA7 b xs e),NV b ps e⟩,?_,NV x c e,?_,NV x c e,asd,cR,I.len⟩]
 ·exact keep b o (neL b o e) hb (neC b o e hx) (I.base.keep b o e n hb hx) (I.base.free b o e n hx)
 ·obtain⟨sl,e1⟩:=I.base.slot b o e n hb hx;rw[afk NK e2 (slot b _ (neL b o e) hb (neC b o e hx) e1 (I.base.free b o e n hx)) NK e2]
 ·rw[adP o' e1 (I.base.there b o e hx) (free b o' (neC b o e hx) e1 (I.base.free b o e n hx))]
 ·rw[adP o' e1 (I.base.there b o e hx) (there b o' (neC b o e hx) e1)]
 ·obtain⟨m1,e1⟩:=I.base.o4 b ps e;rw[afk m2 e2 (o4 b _ e1) (m1++m2) (af1 e2 Array.append_assoc)]
 ·obtain⟨m,hn,hl⟩:=I.loc
  rw[ab8 m (ns m hn) (ais i x v e1 e2 e3)];obtain⟨u,r,l⟩:=hl i x v e1 e2 e3
  rw[ab8 u r ?_];rcases l with l | ⟨k,c,e,z⟩
  ·exact b4 l
  ·exact b9 ⟨k,c,e,cellK x c e _ z⟩
 ·rw[afk v z (I.cell x c e) v (cellK x c e v z)]
 ·obtain⟨m,⟨o,_,_,ho,_⟩,_⟩:=I.loc;exact free _ o (acz ((RE _ z).2.1 rfl)) ho I.free
 ·rw[asQ v o ho hd (I.cell x c e) (free c o (acz ((RE c z).2.2.1 x c e rfl)) ho (I.m3 x c e))]
 ·obtain⟨e,n,ne,nf,d⟩:=azg;have Y3:p.1∉ch:=λ z=>(RE p.1 z).2.2.2 p hp rfl;exact⟨keep p.1 p.2 ne nf Y3 e n,free p.1 p.2 Y3 e n,ne,nf,d⟩
def Inv.un aOF aNa(u:Un X.fs [] H H' s.heap h')aSq:aeC H' (ahE s h' t'):=by
 obtain⟨m,⟨o,es,ep,ho,r⟩,_⟩:=aLb;rw[adP sl hL (u.any ho I.free Ξ) (I.step (g':=s.gens) (d':=s.drawn) (ch:=[]) (λ _ z=>nomatch z) (λ b o _ hb _ e n=>u.keep b o e n hb Ξ) (λ b o _ hb _ e n=>u.slot b o e n hb Ξ) (λ b o _ e n=>u.free b o e n Ξ) (λ b o _ e=>u.there b o e Ξ) u.oZ u.ni u.o4 (λ m' hm=>by
  obtain⟨o',es',ep',JD,r'⟩:=hm
  rw[ho] at JD; cases JD
  exact⟨_,es',ep',hL,r'⟩) cR I.bare)]
def Inv.call{g':aMW}aOF{d':Drawn}{ch:c9}aNa(u:Un ara ch H H' s.heap h')aSq(hg:AllBare g')
  aR6 :
  axS { s with heap:=h',gens:=g',drawn:=d',toks:=t' }:=by
 obtain⟨m,⟨o,es,ep,ho,r⟩,_⟩:=aLb;rw[adP sl hL (u.any ho I.free (acz ((RE _ z).2.1 rfl))) (I.step (ch:=ch) RE (λ b o hL hb hc e n=>u.keep b o e n (acz ((List.mem_cons.mp (I.DD b z)).elim hL hb)) hc) (λ b o _ _ hc e n=>u.any e n hc) (λ b o hc e n=>u.free b o e n hc) (λ b o hc e=>u.there b o e hc) u.oZ u.ni u.o4 (λ m' hm=>by
  obtain⟨o',es',ep',JD,r'⟩:=hm
  rw[ho] at JD; cases JD
  exact⟨_,es',ep',hL,r'⟩) cR hg)]
def Inv.turned aOF{it:Addr}aNa(k:∀b o,b≠it->ags->ahd=aaW)(hn:ahW it)(hL:axb it)
  (h1:it∈X.ex\/asC it)(h2:∀x c,ajU=agF->c≠it)(h3:ae8 aqI (p.1≠it)):aeC H (ahE s h' t'):=by
 rw[ab4 UY (∀b u,H b=abF->b≠it) (λ b u e z=>by rw[z,hn] at e; cases e) (I.step (g':=s.gens) (d':=s.drawn) (ch:=[it]) aiu (λ b o _ _ hc e _=>k b o (acz (hc (d7 z))) e) (λ b o _ _ hc e _=>⟨o.slots,k b o (acz (hc (d7 z))) e⟩) (λ _ _ _ _ n=>n)
  (λ b o hc e=>⟨o,k b o (acz (hc (d7 z))) e⟩) (λ _ _ e=>e) (λ _ _ _ e=>e) (λ b ps e=>⟨#[],by rw[awJ]⟩) (ab7 m hm) (NV b u e) I.bare)]
 ·rw[aip e (b=it) ahm e];exact⟨h1,hL,h2,h3⟩
 ·rw[aen o es ep ho r hm ⟨o,es,ep,k _ o (Ne.symm hL) ho,r⟩]
 ·refine(awd u e).vf (λ c v hc q=>k c v ?_ q) (abg q q) λ _ _ q=>q;rcases hc with z | z
  ·rw[Ω z (UY b u e)]
  ·exact UY c _ z
def Inv.tok aNa(t:Nat):aeC H { s with toks:=t }:=I.un (h':=s.heap) (t':=t) Un.refl I.cR
def Inv.kept aOF aT1:aeC H (ahE s h' t'):=I.un (Un.kept k) (I.cR.kept k)
def Inv.laid aNx{o:HO}aOF aT1(hp:aJE a)(new:iu X.prog X.w (anN a) h' a o) :
  aeC (anN a) (ahE s h' t'):=I.un (Un.laid k hp (I.cR.fresh hp)) (I.cR.laid k hp new)
def Inv.write{x e:Addr}{o:HO}aOF aNa aSi(k:∀b u,b≠e->apL u->ahd=abF)(YK:∃u,h'.get? e=abF)
  (new:iu X.prog X.w (anN x) h' x o):aeC (anN x) (ahE s h' t'):=I.un (Un.write mu he k YK) (I.cR.write mu he k YK new)
def Inv.weak{σ':asy V}aNa(hl:σ'.length=σ.length)(w:∀aNr v,anK σ' i v->aDH):auX X σ' H s :=
 ⟨I.ok,I.os,I.bare,I.base,let⟨m,hn,hl'⟩:=I.loc; ⟨m,hn,λ i x v e1 e2 e3=>hl' i x v e1 (w i v e2) e3⟩,I.cell,I.free,I.m3,I.pin,I.cR,hl.trans I.len⟩
def Inv.JE{CK:x8}aNa(h:ae8 CK (akH p.1 p.2/\ahW p.1/\axb p.1/\awz p.1/\∀v,p.2.data≠arV v)):Inv X CK σ H s :=
 ⟨I.ok,I.os,I.bare,I.base,I.loc,I.cell,I.free,I.m3,ahO ((aD9).elim (acz (I.pin p (aJg z))) (h p)),I.cR,I.len⟩
def zQ{N:acC}(hN:N.Nodup){i j:Nat}aNg(a:ahf N x)(b:acn N j x):i=j:=by
 obtain⟨h1,e1⟩:=List.getElem?_eq_some_iff.mp a;rw[afF h2 e2 (List.getElem?_eq_some_iff.mp b) ((List.getElem_inj hN).mp aMw)]
def CL aRD aNt aNg aNI aN1 aPO aNa aPf aRr(r:ahY)
  (h:∀s',auX X aHA H s'->(∃a,Heap.SameBut a s.heap s'.heap/\(a=X.env.locals\/t6 ajU a))->Q () s')aQf:aes M A (storeName X.env x u) Q E:=by
 obtain⟨m,hn,hl⟩:=aLb
 rw[d9 acM (aiI (aAI .class || (aAI .module && X.env.locals != X.env.globals))) (by rw[ab2 I.ok.kind]) hiσ (i < σ.length) (by rw[aeN I.len (List.getElem?_eq_some_iff.mp hi).1])]
 rw[aev RV I.RV tracked (∀aNx aQ1,(∃o,akH a o/\ahW a)->Heap.SameBut a s.heap h'->qD X.prog X.w H h') (λ{a h'} ha hs b ob e=>by
  obtain⟨_,_,UZ⟩:=ha;refine(awd ob e).vf (λ c w' hc q=>x9 (hs.2 c ?_) q) (abg q q) λ _ _ q=>q
  rintro rfl;rcases hc with rfl | hc
  ·rw[UZ] at e; cases e
  ·rw[UZ] at hc; cases hc)]
 rcases hx with hk | hk
 ·refine wpAny_storeName_local hk hn (atl hn' hs) acM;obtain⟨oL,_,_,hoL,_⟩:=id hn;refine h _ ⟨I.ok,I.os,I.bare,⟨ais b o e n hb hx,ais b o e n hb hx,I.base.free,alQ e hx,I.base.oZ,I.base.ni,I.base.o4⟩,apc hn' (ais j y v' e1 e2 e3),NV y c e,I.free,I.m3,asd,tracked ⟨oL,hoL,I.free⟩ hs,aaF I.len⟩ (apc hs (b4 rfl))
  ·exact x9 (hs.2 b aHm) (I.base.keep b o e n hb hx)
  ·rw[afk sl e1 (I.base.slot b o e n hb hx) sl (x9 (hs.2 b aHm) e1)]
  ·rw[afk o' e1 (I.base.there b o e hx) o' (x9 (hs.2 b aHm) e1)]
  ·by_cases hj:j=i
   ·rw[akS hj hi e1]; cases e1;rw[apq hiσ e2];cases e2;rw[Lb u r (b4 ⟨hk,Ξ⟩)]
   ·rw[aqR (Ne.symm hj) e2];obtain⟨u',r',q⟩:=hl j y v' e1 e2 e3
    rw[ab8 u' r' ?_];rcases q with⟨k,e⟩ | ⟨k,c,e,z⟩
    ·refine b4 (aik k);have:y≠x:=adD (hj (zQ hN e1 (aoP hi)));simp[this,e]
    ·exact b9 ⟨k,c,e,z.sameBut hs (RV y c e)⟩
  ·rw[afk w' z (I.cell y c e) w' (z.sameBut hs (RV y c e))]
  ·rw[aen e n ne nf d azg ⟨x9 (hs.2 p.1 ne) e,n,ne,nf,d⟩]
 ·have YM:aub:=by
   rcases hf with z | z
   ·exact z
   ·rw[z] at hk; cases hk
  rw[aAz c hc (I.ok.has x (b4 hk)) w' z (I.cell x c hc)];refine wpAny_storeName_cell I.ok.kind hk hc z (atl B5 hs);rw[ana oc hoc acN (id z) (h (akg s) ⟨I.ok,I.os,I.bare,⟨ais b o e n hb hx,ais b o e n hb hx,I.base.free,alQ e hx,I.base.oZ,I.base.ni,I.base.o4⟩,⟨m,hn.sameBut hs (Ne.symm (RV x c hc)),ais j y v' e1 e2 e3⟩,NV y c' e,I.free,I.m3,asd,tracked ⟨oc,hoc,I.m3 x c hc⟩ hs,aaF I.len⟩ ⟨c,hs,b9 hc⟩)]
  ·exact x9 (hs.2 b (aiB (aqO ajp (I.ok.Y2 x c YM hc)))) (I.base.keep b o e n hb hx)
  ·rw[afk sl e1 (I.base.slot b o e n hb hx) sl (x9 (hs.2 b (aiB (aqO ajp (I.ok.Y2 x c YM hc)))) e1)]
  ·rw[afk o' e1 (I.base.there b o e hx) o' (x9 (hs.2 b (aiB (aqO ajp (I.ok.Y2 x c YM hc)))) e1)]
  ·by_cases hj:j=i
   ·rw[akS hj hi e1]; cases e1;rw[apq hiσ e2];cases e2;rw[Lb u r (b9 ⟨b4 hk,c,hc,B5⟩)]
   ·rw[aqR (Ne.symm hj) e2];obtain⟨u',r',q⟩:=hl j y v' e1 e2 e3
    rw[ab8 u' r' ?_];rcases q with q | ⟨k,c',e,z'⟩
    ·exact b4 q
    ·refine b9 ⟨k,c',e,z'.sameBut hs ?_⟩;rintro rfl;exact hj (zQ hN e1 (I.ok.inj _ _ _ e hc ▸ hi))
  ·by_cases Y4:c'=c
   ·subst Y4; rw[aeM B5]
   ·rw[afk w2 z2 (I.cell y c' e) w2 (z2.sameBut hs Y4)]
  ·obtain⟨e,n,ne,nf,d⟩:=azg;refine⟨x9 (hs.2 p.1 ?_) e,n,ne,nf,d⟩;intro q;rw[q,hoc] at e;rw[au8 q' (oc=p.2) e];exact d w' (by rw[abQ q' acN])
def vg aRD aNt aNg aNI aN1 aPO aNa aPf aRr(r:ahY)
  (h:∀s',auX X aHA H s'->Q () s')aQf:aes M A (storeName X.env x u) Q E :=
 CL I hN hi hx r (λ s' I' _=>h s' I') hf
def Inv.U0{s':Shared}{ch:c9}aNa(ho:s'.os=s.os)(u:Un ara ch H H' s.heap s'.heap)(cR:qD X.prog X.w H' s'.heap)(hg:axm)
  aR6:atN:=by
 obtain⟨h',g',d',t',o'⟩:=s';have e:o'=s.os:=ho;rw[adL e (I.call (g':=g') (t':=t') (d':=d') u cR hg RE)]
universe zE
noncomputable abbrev XK:=aoc (ai4 asU)
noncomputable abbrev St:=asy V
noncomputable abbrev VK:=aDo
noncomputable abbrev TE:=St->Hp->adj VK
noncomputable abbrev TT:=St->Hp->aqJ at4
noncomputable abbrev TA:=St->Hp->aqJ (ai4 g8)
structure Ends where
 nx:apd
 rt:VK
 bk:apd:=anY
 ct:apd:=anY
noncomputable abbrev TS:=Ends->apd
abbrev EP aRP aOB aO5 aPg:Prop:=∃v H',atN/\ahY/\ajl v
abbrev TP aRP(Q:at4)(b:Bool)aPg:Prop:=∃H',atN/\ajl b
abbrev AP aRP(Q:ai4 g8)aOJ aPg:Prop:=∃vs H',atN/\atI/\ajl vs
abbrev SP aRj(D:Ends)(f:Flow)aPg:Prop :=
 match f with
 | .next=>∃ σ' H',auz/\D.nx σ' H'
 | .brk=>∃ σ' H',auz/\D.bk σ' H'
 | .cont=>∃ σ' H',auz/\D.ct σ' H'
 | .ret u=>∃v σ' H',auz/\ahY/\D.rt v H'
abbrev PE aNo aP0(t:TE):Prop :=
 ∀aNQ aOB,ahA an5 (ads (ag9 e) (EP X pins σ Q) s)
abbrev PT aNo aP0(t:TT):Prop :=
 ∀aNQ(Q:at4),ahA an5 (ads (isTrue e X.env (ag9 e)) (TP X pins σ Q) s)
abbrev PW aNo aP0(t:TT):Prop :=
 ∀(whole:aAR)aNQ(Q:at4),ahA an5 (ads (isTrue e X.env whole) (TP X pins σ Q) s)
def PW.pt aNF aPF{t:TT}(h:aqN e t):api e t:=h _
abbrev PA aNo(es:ab5)(t:TA):Prop :=
 ∀(pos:Pos)aNQ(Q:ai4 g8),ahA an5 (ads (spliced (ajy es)) (AP X pins σ Q) s)
abbrev PS aNo(st:Stmt)(t:TS):Prop :=
 ∀aNQ(D:Ends),ahA (t D σ H) (ads (exec st X.env) (SP X pins D) s)
abbrev HC aNo(st:amc)(t:TS):Prop :=
 ∀aNQ(D:Ends),ahA (t D σ H) (ads (execs st X.env) (SP X pins D) s)
def fO aNq{t:Sem α}{Q Q':α->am0}aRD aNJ(h:wpAny M A t Q E s)(hQ:∀a s,Q a s->Q' a s):wpAny M A t Q' E s:=wpAny_mono h hQ λ _ _ x=>x
universe L2
namespace L2
open PySem PySem.Spec PyProof.Rows
section
variable {X:Cx}
def bin{a b:Expr}{ta tb:TE}aPv aPD aNJ aOv{R:V->aDo}aNa aTq
  aNq{Q:α->am0}{f:aoc (aoc (Sem α))}
  aTb :
  ads (ag9 a) (λ v s₁=>ads (ag9 b) (λ u s₂=>ads (f v u) Q s₂) s₁) s:=by
 rw[adY (ari s H _ I h v ⟨x,H1,I1,r1,q1⟩) (agB (atW _) u s2 ⟨y,H2,I2,r2,q2⟩)];exact hf v u s2 x y H2 I2 r1 r2 q2
abbrev Y5 aNr:TE:=ahL (∃v,aDH/\Q v H)
abbrev tC(v:V):TE:=λ _ H Q=>Q v H
def N1 aNt aNg aOD(hN:aoK)(hv:aED x)aON aSb:adz (aad x pos) (Y5 i):=by
 intro pins s σ H Q I h;obtain⟨v,e,h⟩:=h;obtain⟨m,hn,hl⟩:=I.loc;rw[alv u r l (hl i x v hN e hv) fin (EP X pins σ Q u s) ⟨v,H,I,r,h⟩];rcases l with⟨hk,hm⟩ | ⟨hk,c,hc,xU⟩
 ·exact wpAny_Name (wpAny_loadName_local I.ok.kind hk hn hm fin) hd
 ·rcases hk with hk | hk
  ·exact wpAny_Name (wpAny_loadName_cell I.ok.kind hk hc xU fin) hd
  ·exact wpAny_Name (wpAny_loadName_free I.ok.kind hk hc xU fin Lg) hd
def VY{i j pos}:avP (ano (η i) j pos) (η i):=λ _ _ _ H _ I h=>wpAny_Constant_int ⟨η i,H,afl,adE,h⟩
def Y6{b j pos}:avP (ano (aiW b) j pos) (.bl b):=λ _ _ _ H _ I h=>Constant_bool (awR .bl b h)
def VZ{j pos}:avP (ano aaY j pos) .bh:=λ _ _ _ H _ I h=>Constant_none (aa9 .bh H I h)
def N2{x j pos}:avP (ano (b5 x) j pos) (b5 x):=λ _ _ _ H _ I h=>Calls.Constant_str ⟨b5 x,H,afl,adE,h⟩
abbrev Gl aNo aNM:Prop:=apD x (some .globalImplicit)
def vh{E:abP}aPD aNJ aOv aNg aN1 aOD aNN aNa(hg:ajS)(hm:ayU=abF)(h:Q u s)
  aON:aes (model X.prog X.w) X.A (ag9 (aad x pos)) Q E :=
 Calls.Name_function_global I.ok.kind hg (Calls.loadGlobal_global (by rw[Ω I.ok.glob aJo]) hm h) hd
def uz{E:abP}aPD aNJ aOv aNg aN1 aOD aNN aNa aRs(hv:aqY=abF)(h:Q u s)
  aSp:aes (model X.prog X.w) X.A (ag9 (aad x pos)) Q E:=by
 rw[aq7 mb h1 h2 I.mod.blt (Calls.Name_function_global I.ok.kind hg (Calls.loadGlobal_builtin (by rw[Ω I.ok.glob aJo]) hm (by rw[Ω I.ok.blt (h1.keeps I.bk)]) (x9 (h2 x hn) hv) h) hd)]
def JF aNg aNI aN1 aOD(hg:ajS)(hm:ayU=abF)(r:ahY)aON:avP (aad x pos) v :=
 λ _ _ _ H _ I h=>vh I hg hm ⟨v,H,I,r,h⟩ hd
def RW aNg aNI aN1 aOD aRs(hv:aqY=abF)(r:ahY)aSp:avP (aad x pos) v :=
 λ _ _ _ H _ I h=>uz I hg hm hv ⟨v,H,I,r,h⟩ hn hd
variable {a b:Expr} {ta tb:TE} {pos:Pos}
variable {tA tB':TT} {rest:ab5}
abbrev acO(t u:TT):TT:=ahL (t σ H (acF c (ahi c (u σ H1 Q) (apj false))))
abbrev tOr(t u:TT):TT:=ahL (t σ H (acF c (ahi c (apj true) (u σ H1 Q))))
abbrev acP(t:TT):TT:=ahL (t σ H (acF c (apj (! c))))
def RX(ha:aDv):aqN (ahH .And [a] pos) tA:=by
 intro wh pins s σ H Q I h;refine isTrue_and (ari s H Q I h c e);cases c with
 | true=>exact isTrue_and_nil e
 | false=>exact e
def V0(ha:aDv):aqN (ahH .Or [a] pos) tA:=by
 intro wh pins s σ H Q I h;refine isTrue_or (ari s H Q I h c e);cases c with
 | false=>exact isTrue_or_nil e
 | true=>exact e
def V1(ha:aDv)(hb:aqN (ahH .And akw pos) tB'):aqN (ahH .And (a::akw) pos) (acO tA tB'):=by
 intro wh pins s σ H Q I h;refine isTrue_and (ari s H _ I h c ⟨H1,I1,q1⟩);cases c with
 | true=>exact hb wh pins s1 σ H1 Q I1 q1
 | false=>rw[Lb H1 I1 q1]
def Y7(ha:aDv)(hb:aqN (ahH .Or akw pos) tB'):aqN (ahH .Or (a::akw) pos) (tOr tA tB'):=by
 intro wh pins s σ H Q I h;refine isTrue_or (ari s H _ I h c ⟨H1,I1,q1⟩);cases c with
 | true=>rw[Lb H1 I1 q1]
 | false=>exact hb wh pins s1 σ H1 Q I1 q1
def V2(ha:aDv):api (aGq .Not a pos) (acP tA):=by
 intro pins s σ H Q I h;exact isTrue_not (ha pins s σ H (acF c (apj (! c))) I h)
abbrev Y8 aRY:TE:=λ σ H Q=>ta σ H (acF x (∃c,x=.bl c/\ahi c (tb σ H1 Q) (apj (ako .bl))))
abbrev acQ aRY:TE:=λ σ H Q=>ta σ H (acF x (∃c,x=.bl c/\ahi c (apj afE) (tb σ H1 Q)))
def V3{op}{t:TE}(h:adz a t):adz (ahH op [a] pos) t:=λ pins s σ H Q I hw=>BoolOp_one (h pins s σ H Q I hw)
def V4(ha:anS)(hb:adz (ahH .And akw pos) tb):ar6 ahH .And (a::akw) (Y8 ta tb):=by
 rw[ai0 Q (BoolOp_and (ari s H _ I h v ⟨x,H1,I1,r1,q1⟩))];rw[adw c q1 q1];cases r1;refine wpAny_truthy_bool ?_;cases c with
 | true=>exact atW Q
 | false=>exact aa9 (.bl false) H1 I1 q1
def Y9(ha:anS)(hb:adz (ahH .Or akw pos) tb):ar6 ahH .Or (a::akw) (acQ ta tb):=by
 rw[ai0 Q (BoolOp_or (ari s H _ I h v ⟨x,H1,I1,r1,q1⟩))];rw[adw c q1 q1];cases r1;refine wpAny_truthy_bool ?_;cases c with
 | false=>exact atW Q
 | true=>exact aa9 (.bl true) H1 I1 q1
abbrev tIf(t:TT)aRY:TE:=ahL (t σ H (acF c (ahi c (ta σ H1 Q) (tb σ H1 Q))))
def N3{c:Expr}(hc:api c tA)aPv:adz (.IfExp c a b pos) (tIf tA ta tb):=by
 rw[ai0 Q (wpAny_IfExp (amq (hc pins s σ H _ I h) d ⟨H1,I1,q1⟩))];cases d with
 | true=>exact ha pins s1 σ H1 Q I1 q1
 | false=>exact atW Q
universe zE
universe L2
namespace L2
open PySem PySem.Spec PyProof.Rows
abbrev pO aNc aPJ aPs:Prop :=
 Rd H a (ς xs) ∨
  ∃(o:Obj) (bN:asT) (n:Nat),aFE=aaW/\o.cls=aj2 /\ YW o.dict/\azu (ahx bN n)/\afi bN.size/\Vals xs bN.toList
abbrev B6 aNc aPJ aPs:Prop :=
 Rd H a (f9 xs) ∨
  ∃(o:Obj) (bN:asT) (n:Nat),aFE=aaW/\o.cls=ap7 /\ azu (ahx bN n)/\afi bN.size/\Vals xs bN.toList
abbrev acR:aoc apV
 | aaY=>aCw
 | aiW b=>aa2 .bl b
 | η i _=>agO
 | b5 x _=>akL x
 | .bytes b _=>aa2 .YI b
 | .float b _=>aa2 .YJ b
 | Δ a=>aib a
 | acr n=>aa2 .ty n
 | _=>none
def RelV.abs{x:V}aN1(r:at7):acR u=ad5:=by
 cases x with
 | bh=>cases r; rfl
 | bl _=>cases r; rfl
 | int _=>rw[aht r];rfl
 | str _=>rw[aht r];rfl
 | YI _=>rw[aht r];rfl
 | YJ _=>rw[aht r];rfl
 | ref _=>cases r; rfl
 | ty _=>cases r; rfl
def RelV.inj{x y:V}aN1(r:at7)(q:ajH):x=y:=Option.some.inj (r.abs.symm.trans q.abs)
def Vals.inj:∀{xs ys:g8}aOK,ak6->asG ys->xs=ys
 | _,_,_,abT,abT=>rfl
 | _,_,_,aaT r t,aaT r' t'=>af1 (r.inj r') (Vals.inj t t')
section
variable {X:Cx} {pins:x8} {σ:St} {H:Hp} {s:Shared} {a:Addr} {xs ys:g8}
def pO.of aNE(h:H a=afN):aqF:=b4 (b4 h)
def B6.of aNE(h:H a=ak7):awT:=b4 (b4 h)
def Inv.list aNa(h:pO X.K H a xs):∃bN:x6,awo/\PlainL s.heap a bN.toArray/\aq4:=by
 rcases h with h | ⟨o,bN,n,hk,hc,hd,hs,hz,r⟩
 ·rw[aen z bN n r e (h.ok I.cR) ⟨bN,r,auK _ n e rfl rfl,z⟩]
 ·rw[an1 bN.toList r ⟨o,n,I.Fy a o hk,hc,hd,ayY⟩ ?_];have e:=r.length;simp only[Array.length_toList] at e;omega
def Inv.tuple aNa(h:B6 X.K H a xs):∃bN:x6,awo/\aEX a bN.toArray/\aq4:=by
 rcases h with h | ⟨o,bN,n,hk,hc,hs,hz,r⟩
 ·rw[afr z bN r p (h.ok I.cR) ⟨bN,r,p,z⟩]
 ·rw[an1 bN.toList r ⟨o,I.Fy a o hk,hc,n,ayY⟩ ?_];have e:=r.length;simp only[Array.length_toList] at e;omega
def Inv.zR aNa(h:pO X.K H a xs)(h':pO X.K H a ys):xs=ys:=by
 obtain⟨bN,r,⟨o,n,e,_,_,d⟩,_⟩:=I.list h;obtain⟨its',r',⟨o',n',e',_,_,d'⟩,_⟩:=I.list h';rw[e] at e'; cases e';rw[d] at d'
 injection d' with d1 _
 have:bN=its':=aaF (congrArg Array.toList d1)
 rw[adL this (r.inj r')]
def Inv.Lh aNa(h:B6 X.K H a xs)(h':B6 X.K H a ys):xs=ys:=by
 obtain⟨bN,r,⟨o,e,_,n,d⟩,_⟩:=I.tuple h;obtain⟨its',r',⟨o',e',_,n',d'⟩,_⟩:=I.tuple h';rw[e] at e'; cases e';rw[d] at d'
 injection d' with d1 _
 have:bN=its':=aaF (congrArg Array.toList d1)
 rw[adL this (r.inj r')]
universe zE
section
variable {X:Cx} {pins:x8} {σ:St} {H:Hp} {s:Shared} {E:abP}
universe zE
section
variable {X:Cx} {st:Stmt} {rest:amc} {t u:TS} {e:Expr} {te:TE} {pos:Pos}
abbrev Za:TS:=an4 (D.nx σ H)
abbrev Zb(t u:TS):TS:=an4 (t { D with nx:=u D } σ H)
def RY:HC X [] Za:=λ _ _ σ H _ I h=>aJx σ H I h
def N4(h1:awB t)(h2:HC X rest u):HC X (st::rest) (Zb t u):=by
 rw[ai0 D (wpAny_execs_cons (amq (h1 pins s σ H { D with nx:=u D } I h) f q))];cases f with
 | next =>
  rw[asQ σ' H' I' q q (h2 pins s1 σ' H' D I' q)]
 | ret v=>exact q
 | brk=>exact q
 | cont=>exact q
def RZ(h1:awB t):HC X [st] t:=by
 rw[ai0 D (wpAny_execs_cons (amq (h1 pins s σ H D I h) f q))];cases f with
 | next=>exact wpAny_execs_nil q
 | ret v=>exact q
 | brk=>exact q
 | cont=>exact q
def Inv.quiet aOC aNa:acs (interactive X.env):=aeU interactive I.ok.kind
abbrev Zc aQa:TS:=an4 (te σ H (acF _ (D.nx σ H1)))
def R0 aQx aT8:PS X (.Expr e pos) (Zc te):=by
 intro pins s σ H D I h;exact wpAny_Expr_any (afu (he pins s σ H _ I h) v s1 ⟨x,H1,I1,r1,q1⟩ ⟨σ,H1,I1,q1⟩) I.quiet hs
abbrev acS aQa:TS:=an4 (te σ H D.rt)
def V5 aQx:PS X (.Return aHI pos) (acS te):=by
 intro pins s σ H D I h;exact wpAny_Return_some (afu (he pins s σ H _ I h) v s1 ⟨x,H1,I1,r1,q1⟩ ⟨x,σ,H1,I1,r1,q1⟩)
abbrev acT(c:TT)(t u:TS):TS:=an4 (c σ H (acF b (ahi b (t D σ H1) (u D σ H1))))
def Zd{c:Expr}{a b:amc}{tc:TT}(hc:api c tc)(ha:HC X a t)(hb:HC X b u):PS X (.If c a b pos) (acT tc t u):=by
 rw[ai0 D (wpAny_If (amq (hc pins s σ H _ I h) d ⟨H1,I1,q1⟩))];cases d with
 | true=>exact ha pins s1 σ H1 D I1 q1
 | false=>exact atW D
universe zE
noncomputable abbrev TG:=V->St->Hp->aqJ apd
noncomputable abbrev R1:=g8->St->Hp->aqJ apd
abbrev PG aNo(target:Expr)(t:TG):Prop :=
 ∀aNQ(v:V)aO5(Q:apd),ahA ahY (t v σ H Q →
  ads (aE0 target u) (λ _ s'=>∃ σ' H',auz/\aHq) s)
abbrev RF aNo(ts:ab5)(t:R1):Prop :=
 ∀aNQ aOX aOJ(Q:apd),ahA atI (t vs σ H Q →
  ads (assignInOrder (amt (au2 ts).map) us) (λ _ s'=>∃ σ' H',auz/\aHq) s)
noncomputable abbrev R3:=V->V->V->Hp->aqJ aqT
abbrev HD aNo(t:R3):Prop :=
 ∀aNQ(o i v:V)(ov iv u:Value)(Q:aqT),ahA (RelV o ov) (RelV i iv->ahY->t o i v H Q →
  ads (setItem ov iv u) (λ _ s'=>∃H',atN/\Q H') s)
section
variable {X:Cx} {pos:Pos}
abbrev JG aNr:TG:=λ v σ H Q=>Q aHA H
def R4 aNt aNg aPf aRr aQf:PG X (aad x pos) (JG i):=by
 intro pins s σ H v u Q I r h;exact wpAny_assign_Name (vg I hN hi hx r (λ s' I'=>⟨_,H,I',h⟩) hf)
abbrev acU:R1:=λ vs σ H Q=>vs=[]/\Q σ H
abbrev Ze(t:TG)(u:R1):R1:=λ vs σ H Q=>∃v r,vs=v::r/\t v σ H λ σ' H'=>u r σ' H' Q
def R5:RF X [] acU:=by
 intro pins s σ H vs us Q I r h;obtain⟨e,h⟩:=h;subst e;cases r;exact assignInOrder_nil ⟨σ,H,I,h⟩
def N5 aPF{es:ab5}{t:TG}{u:R1}(h1:PG X e t)(h2:RF X es u)
  aTi:RF X (e::es) (Ze t u):=by
 intro pins s σ H vs us Q I r h;obtain⟨v,vr,e1,h⟩:=h;subst e1;cases r with
 | cons r rr =>
  rw[hs];rw[ant (assignInOrder_cons (amq (h1 pins s σ H _ _ _ I r h) _ ⟨σ1,H1,I1,q1⟩)) (h2 pins s1 σ1 H1 _ _ Q I1 rr q1)]
abbrev acV aNc aNd(t:R1):TG:=λ v σ H Q=>∃a xs,v=Δ a/\awT/\ax3 n/\t xs σ H Q
def V6{es:ab5}aNf{t:R1}aM9 aOz(h:RF X es t)
  aTl:PG X (arG es k pos) (acV X.K n t):=by
 intro pins s σ H v u Q I r hw;obtain⟨a,xs,e1,hq,hl,hw⟩:=hw;subst e1;cases r;rw[afj rv ht hz (I.tuple hq)];rw[ahV (assign_Tuple_tuple (I.ok.hd hc) ht (by simp[hn,← hl,rv.length]) B3 (ab7 h' hx)) I1 (aeC H (akg s)) (I.kept (t':=s.toks) (amT (hx b o (aiB ajp) e)))];exact h pins _ σ H xs _ Q I1 (aaF rv) hw
abbrev acW(to ti:TE)(t:R3):TG:=λ v σ H Q=>to σ H (acF o (ti σ H1 (ahP i (t o i v H2 λ H3=>Q σ H3))))
def V7{o i:Expr}{to ti:TE}{t:R3}(ho:aCI)(hi:adz i ti)(hs:HD X t)
  (ha:∀v,aE0 (alw o i pos) v=(do
   let ov ← aou [v] ag1
   let iv ← aou [v,ov] (ag9 i)
   standAt pos
   aou [v,ov,iv] (setItem ov iv v)
   release [v,ov,iv] []):=by rw[asa]):PG X (alw o i pos) (acW to ti t):=by
 intro pins s σ H v u Q I r h;rw[ha];rw[adY (aEp (aoL (ho pins s σ H _ I h) ov x)) (aEp (agB (hi pins s1 σ H1 _ I1 q1) iv s2 ⟨y,H2,I2,r2,q2⟩))];rw[ant (aJv (aEp (agB (hs pins s2 σ H2 x y v ov iv u _ I2 r1 r2 r q2) _ s3 ⟨H3,I3,q3⟩))) (wpAny_release ⟨σ,H3,I3,q3⟩)]
abbrev V8 aQa(g:TG):TS:=an4 (te σ H (acF x (g x σ H1 D.nx)))
def N6{tg e:Expr}{te:TE}{g:TG}aQx(hg:PG X tg g)aS7
  aTv:PS X (anv [tg] e pos) (V8 te g):=by
 rw[ai0 D (wpAny_Assign_stores (aoL (he pins s σ H _ I h) v x) hs hw)];rw[Ω h1 (afu (hg pins s1 σ H1 x v _ I1 r1 q1) _ s2 q q)]
def V9 aNt aNg aPF{te:TE}{pos':Pos}aPf aRr aQx aTy aQf :
  PS X (anv [aad x pos'] e pos) (V8 te (JG i)):=by
 rw[ai0 D (wpAny_Assign_Name (aoL (he pins s σ H _ I h) v y) hs)];exact vg I1 hN hi hx r1 (λ s2 I2=>⟨_,H1,I2,q1⟩) hf
universe zE
section
variable {X:Cx} {pos:Pos}
universe zE
structure It where
 go:ajM aqT
 yld:aqb Hp aDo
 stop:ajM aqT
abbrev yD aRj aNz(b:Addr):Prop :=
 agr/\at9/\awz b/\(b∈X.ex\/asC b)/\(∀x c,ajU=agF->c≠b)/\ae8 aqI (p.1≠b)
def Inv.DH aNF aPD{σ:St}{H H':Hp}aNJ{b:Addr}aNa(hb:aJE b)(hn:aka b):yD X pins H' b:=by
 refine⟨hn,Nat.ne_of_gt (Nat.lt_of_lt_of_le I.lt hb),I.acK hb,b9 (Nat.le_trans I.sz hb),acE x c e z,NV p hp z⟩
 ·rw[adP v q (I.cell x c e) (absurd (Nat.lt_of_lt_of_le q.lt (by rw[Ω z hb])) (Nat.lt_irrefl _))]
 ·rw[ajQ (axg azg.1 (by rw[Ω z hb])) (Nat.lt_irrefl _)]
structure Turn aOO aNc(tg:Expr)(J:It)(fp:c9)(it:Addr)(tn:ajM avN):Prop where
 mem:it∈fp
 obj:∀i h,tn i h->∀b∈fp,∃o,aic=aaW/\∀v,o.data≠arV v
 keep:∀i h h',tn i h->(∀b∈fp,∀o,aic=aaW->ahd=aaW)->tn i h'
 item:∀aNo,X.prog=P->X.w=w->X.K=K->agX->∀aNr aNQ(E:abP),ahA auD (aF5 i->J.go i H →
  aes (model P w) X.A (pyNext (Δ it)) (λ r s1=>∃u,r=abF ∧
   ahS (model P w) X.A (letOwnedTupleGo tg (Δ it) u) (abg s2 (∃x H',axS s2/\at7/\J.yld i H x H'/\tn (i+1) s2.heap/\∀b∈fp,aka b)) E s1) E)
 done:∀aNo,X.prog=P->X.w=w->X.K=K->agX->∀aNr aNQ(E:abP),ahA auD (aF5 i->J.stop i H →
  aes (model P w) X.A (pyNext (Δ it)) (λ r s1=>YW r/\aeC H s1) E)
 self:∀(A:Around)aNr aND aQP,aF5 i->Q (Δ it) s->aes (model P w) A (pyIter (Δ it)) Q E
noncomputable abbrev TI:=St->Hp->aqJ (ai4 It)
abbrev PIE aRP(tg:Expr)(R:ai4 It)(itv:Value)(s2:Shared):Prop :=
 ∃(it:Addr) (fp:c9) (tn:ajM avN) (J:It) (H':Hp),itv=Δ it/\axS s2/\Turn X.prog X.w X.K tg J fp it tn/\tn 0 s2.heap/\(∀b∈fp,yD X pins H' b)/\R J H'
abbrev PI aNo(tg iter:Expr)(wi:TI):Prop :=
 ∀aNQ(R:ai4 It),z0->wi σ H R →
  ads (ag9 iter) (λ v s1=>ads (pyIter v) (PIE X pins σ tg R) s1) s
def CM aRD aNJ{tg:Expr}{it:Addr}aN1{o:Obj}{n:String}{vs:asT}aPO(ho:akH it o)(hc:o.cls=acr n)(hd:azu (agD vs))
    (hn:acs (["enumerate", "zip", "dict_itemiterator", "dict_reverseitemiterator", "odict_iterator", "itertools.zip_longest", "itertools.pairwise"].contains n))(hQ:Q () s):aes M A (letOwnedTupleGo tg (Δ it) u) Q E:=by
  unfold letOwnedTupleGo
  cases tg<;>first
    | rw[aA3 hQ]
    | (cases u<;>first
        | rw[aA3 hQ]
        | (refine adi (wpAny_load ho ?_)
           rw[hc, hd];rw[as8 (aes M A (ahi (["enumerate", "zip", "dict_itemiterator", "dict_reverseitemiterator", "odict_iterator", "itertools.zip_longest", "itertools.pairwise"].contains n && vs[0]? == c8 (rawInt _)) _ _) Q E) (al1 (by intro h; rw[hn, Bool.false_and] at h; cases h)) (wpAny_pure hQ)]))
abbrev Itl aNc aN2:It :=
 ⟨aei H (∃xs x,aqF/\amw),λ i H x H'=>H'=H/\∀xs,aqF->amw,aei H (∃xs,aqF/\asH i)⟩
abbrev Itt aNc aN2:It :=
 ⟨aei H (∃xs x,awT/\amw),λ i H x H'=>H'=H/\∀xs,awT->amw,aei H (∃xs,awT/\asH i)⟩
abbrev Zf aRH:It:=⟨aei _ (i<n),λ i H x H'=>H'=H/\x=η (lo+i),aei _ (n≤i)⟩
def Li aOP aQJ:aAn (Itl K a) (aqE (h.IsListIter it a i)) where
 mem:=Ξ
 obj:=λ i h st b hb=>by
  rw[aip e (b=it) ahm e]
  rw[afr o e c d st ⟨o,e,λ v z=>by rw[d] at z; cases z⟩]
 keep:=λ i h h' st k=>st.at λ o e=>at3 o e
 item:=by
  intro X hP hw hK hc i pins s σ H E I hf st hg;subst hP hw hK;obtain⟨xs,x,hq,hx⟩:=hg;rw[afj rv p hz (I.list hq)];obtain⟨u,hu,ru⟩:=rv.get hx;obtain⟨f0,f1,f2,f3,f4,f5⟩:=hf it Ξ;rw[ahV (wpAny_pyNext_list_item st p.isList (x:=u) aHT aIu) I1 (aeC H (akg s)) (I.turned (t':=s.toks) (λ b o hb e=>x9 (sb.2 b hb) e) f0 f1 f3 f4 f5)];rw[afr o e c d (id zj) (afT u (CM (s:=akg s) e c d d6 ⟨x,H,I1,ru,ah9 (alf ys (by rw[Ω (I.zR hy hq) hx])),zj,azp⟩))]
 done:=by
  intro X hP hw hK hc i pins s σ H E I hf st hg;subst hP hw hK;obtain⟨xs,hq,hx⟩:=hg;rw[afj rv p hz (I.list hq)];obtain⟨f0,f1,f2,f3,f4,f5⟩:=hf it Ξ;rw[alF hl rv.length (wpAny_pyNext_list_end (I.ok.hd hc) st p.isList (by rw[aer]) aAe)]
 self:=λ _ _ _ _ _ st h=>wpAny_pyIter_listiter st h
def HE aOP aQJ:aAn (Itt K a) (aqE (h.IsTupleIter it a i)) where
 mem:=Ξ
 obj:=λ i h st b hb=>by
  rw[aip e (b=it) ahm e]
  rw[afr o e c d st ⟨o,e,λ v z=>by rw[d] at z; cases z⟩]
 keep:=λ i h h' st k=>st.at λ o e=>at3 o e
 item:=by
  intro X hP hw hK hc i pins s σ H E I hf st hg;subst hP hw hK;obtain⟨xs,x,hq,hx⟩:=hg;rw[afj rv p hz (I.tuple hq)];obtain⟨u,hu,ru⟩:=rv.get hx
  obtain⟨f0,f1,f2,f3,f4,f5⟩:=hf it Ξ
  rw[ahV (wpAny_pyNext_tuple_item st (show s.heap.IsTuple a bN.toArray from p) (x:=u) aHT aIu) I1 (aeC H (akg s)) (I.turned (t':=s.toks) (λ b o hb e=>x9 (sb.2 b hb) e) f0 f1 f3 f4 f5)];rw[afr o e c d (id zj) (afT u (CM (s:=akg s) e c d d6 ⟨x,H,I1,ru,ah9 (alf ys (by rw[Ω (I.Lh hy hq) hx])),zj,azp⟩))]
 done:=by
  intro X hP hw hK hc i pins s σ H E I hf st hg;subst hP hw hK;obtain⟨xs,hq,hx⟩:=hg;rw[afj rv p hz (I.tuple hq)];obtain⟨f0,f1,f2,f3,f4,f5⟩:=hf it Ξ;rw[alF hl rv.length (wpAny_pyNext_tuple_end (I.ok.hd hc) st (show s.heap.IsTuple a bN.toArray from p) (by rw[aer]) aAe)]
 self:=λ _ _ _ _ _ st h=>wpAny_pyIter_tupleiter st h
def HF aOP{tg:Expr}(it:Addr)aRH:aAn (Zf lo n) (aqE (IsRangeIter h it (lo+aez i*1) (afp-aez i) 1)) where
 mem:=Ξ
 obj:=λ i h st b hb=>by
  rw[aip e (b=it) ahm e]
  rw[Lb _ st (λ v z=>by
   have z':Data.fields _=Data.cell v:=z
   cases z')]
 keep:=λ i h h' st k=>at3 _ st
 item:=by
  intro X hP hw hK hc i pins s σ H E I hf st hg;subst hP hw hK;obtain⟨f0,f1,f2,f3,f4,f5⟩:=hf it Ξ;rw[DB W (Walks.range (prog:=X.prog) (w:=X.w) (I.ok.hd hc) it lo 1 n) (W.item i s _ _ hg st (ais v h' tk hv zj kk))];rw[aht hv];rw[ahq I1 (aeC H (ahE s h' tk)) (I.turned (λ b o hb e=>kk b o ahm e) f0 f1 f3 f4 f5) (anl (CM (s:=ahE s h' tk) (n := "range_iterator") zj rfl rfl d6 ⟨η (lo+i),H,I1,aik t,akG rfl,zj,azp⟩))];rw[Int.mul_one]
 done:=by
  intro X hP hw hK hc i pins s σ H E I hf st hg;subst hP hw hK;obtain⟨f0,f1,f2,f3,f4,f5⟩:=hf it Ξ;exact wpAny_pyNext_range_end (I.ok.hd hc) st (by have:n≤i:=hg;omega) aAe
 self:=λ _ _ _ _ _ st h=>wpAny_pyIter_rangeiter st h
universe L2
namespace L2
open PySem PySem.Spec PyProof.Rows
section
variable {X:Cx} {tg:Expr}
abbrev Zg aNc(tl:TE):TI:=λ σ H R=>tl σ H (acF x (∃a,x=Δ a/\(∃xs,pO K H1 a xs)/\R (Itl K a) H1))
abbrev acY aNc(tl:TE):TI:=λ σ H R=>tl σ H (acF x (∃a,x=Δ a/\(∃xs,B6 K H1 a xs)/\R (Itt K a) H1))
def R6{l:Expr}{tl:TE}(hl:adz l tl):PI X tg l (Zg X.K tl):=by
 rw[ai0 R (aoL (hl pins s σ H _ I h) v x)];obtain⟨a,e,⟨xs,hq⟩,q⟩:=q1
 subst e;cases r1;rw[afj rv p hz (I1.list hq)];rw[avR (wpAny_pyIter_list p.isList ?_) ⟨s1.heap.objs.size,aEm,_,_,H1,rfl,I1.kept (t':=s1.toks) λ b o e=>afR e,Li a _,az7,aiu,q⟩]
 have e:b=s1.heap.objs.size:=ahm
 rw[adL e (I1.DH ack atq)]
def Wa{l:Expr}{tl:TE}(hl:adz l tl):PI X tg l (acY X.K tl):=by
 rw[ai0 R (aoL (hl pins s σ H _ I h) v x)];obtain⟨a,e,⟨xs,hq⟩,q⟩:=q1
 subst e;cases r1;rw[afj rv p hz (I1.tuple hq)];rw[avR (wpAny_pyIter_tuple (show s1.heap.IsTuple a bN.toArray from p) ?_) ⟨s1.heap.objs.size,aEm,_,_,H1,rfl,I1.kept (t':=s1.toks) λ b o e=>afR e,HE a _,az7,aiu,q⟩]
 have e:b=s1.heap.objs.size:=ahm
 rw[adL e (I1.DH ack atq)]
def Fz aOC{R:ai4 It}{E:abP}{lo hi:Int}{t u v:Tok}{tk:Nat}aNa(h1 : auW lo)(h2:lo<amY)(h3 : auW hi)(h4:hi<amY)
  (q:R (Zf lo (ah4 (hi-lo))) H):ahS (model X.prog X.w) X.A (pyIter aii) (PIE X pins σ tg R) E (ahE s (s.heap.push { cls:=acr "range",data:=agD #[η lo t,η hi u,η 1 v] }) tk):=by
 rw[ahV (wpAny_pyIter_range (IsRange.new ..) (small_one h1 h2 h3 h4) ?_) I1 (aeC H (ahE s (s.heap.push { cls:=acr "range",data:=agD #[η lo t,η hi u,η 1 v] }) tk)) (I.kept λ b o e=>afR e)]
 refine⟨(s.heap.push { cls:=acr "range",data:=agD #[η lo t,η hi u,η 1 v] }).objs.size,[(s.heap.push { cls:=acr "range",data:=agD #[η lo t,η hi u,η 1 v] }).objs.size],_,_,H,rfl,
  I1.kept (t':=tk) λ b o e=>afR e,HF _ lo (ah4 (hi-lo)),?_,aiu,q⟩
 ·rw[agw e1 (lo+aus*1=lo) Ξ e2 (afh (ah4 (hi-lo))-aus) (Builtin.Range.rangeSize lo hi 1) (by rw[rangeSize_one]; split<;>omega)]
  show IsRangeIter _ _ (lo+aus*1) (afh (ah4 (hi-lo))-aus) 1;rw[aeh e1 e2 azE]
 ·have e:b=(s.heap.push { cls:=acr "range",data:=agD #[η lo t,η hi u,η 1 v] }).objs.size:=ahm
  rw[adL e (I1.DH ack atq)]
abbrev Zh(ta:TA):TI:=λ σ H R=>ta σ H (acF vs (∃j:Int,vs=[η j] /\ auW j/\j<amY/\R (Zf 0 j.toNat) H1))
abbrev Zi(ta:TA):TI:=λ σ H R=>ta σ H (acF vs (∃i j:Int,vs=[η i,η j]/\(auW i/\i<amY /\ auW j/\j<amY)/\R (Zf i (ah4 (j-i))) H1))
def Lj{a:Expr}{ta:TA}{p pos:Pos}(hg:aFD X)(hm:aFu)(ha:PA X [a] ta)aRh:PI X tg (aet (aad "range" p) [a] [] pos) (Zh ta):=by
 rw[ai0 R (Call_ (uz I hg hm boot_range (aAu (aoL (ha pos pins s σ H _ I h) us vs) hs rfl)))];obtain⟨j,e,q1,q2,q⟩:=q1;subst e;cases r1 with
 | cons r rr =>
  cases rr;rw[adP t rfl r (call_range_1 (Fz I1 b6 b6 q1 q2 (aaF q)))]
def Lk{a b:Expr}{ta:TA}{p pos:Pos}(hg:aFD X)(hm:aFu)(ha:PA X [a,b] ta)aTd :
  PI X tg (aet (aad "range" p) [a,b] [] pos) (Zi ta):=by
 rw[ai0 R (Call_ (uz I hg hm boot_range (aAu (aoL (ha pos pins s σ H _ I h) us vs) (af1 hs RG) (by rw[ab2 RG]))))];obtain⟨i,j,e,⟨q1,q2,q3,q4⟩,q⟩:=q1;subst e;cases r1 with
 | cons r rr =>
  cases rr with
  | cons r' rr =>
   cases rr;rw[aht r];rw[adP t' rfl r' (call_range_2 (Fz I1 q1 q2 q3 q4 q))]
abbrev acZ(wi:TI)(g:TG)(tb:TS):TS:=an4 (wi σ H (acF J (∃W:ajM (aqb St aqT),(∃m,W 0 m σ H1)/\∀i m σ H,W i m σ H →
 (J.stop i H/\D.nx σ H)\/(J.go i H/\∃N:apd,(∀ σ' H',N σ' H'->∃m',m'<m/\W (i+1) m' σ' H')/\∀x H',J.yld i H x H'->g x σ H' (ahP σ2 (tb { D with nx:=N,ct:=N,bk:=D.nx } σ2 H2))))))
abbrev zS(fp:c9)aOT:x8:=fp.filterMap λ b=>agj (aic).map o (b,o)
def qE aO8 aOe aQo(hb:b∈fp)(e:aic=aaW):(b,o)∈zS fp h:=List.mem_filterMap.mpr ⟨b,hb,by rw[ab2 e]⟩
def Ll aO8 aOe{p:Addr×Obj}(hp:p∈zS fp h):p.1∈fp/\aFe p.1 p.2:=by
 rw[aBC b hb (List.mem_filterMap.mp hp)];cases q:aic with
 | none=>rw[q] at e; cases e
 | some o =>
  rw[q] at e;rw[au8 e' ((b,o)=p) e];subst e';rw[aab hb q]
def Inv.pinned aOC aO8 aQW(ho:∀b∈fp,∃o,ags/\∀v,o.data≠arV v):Inv X (pins++zS fp s.heap) σ H s :=
 I.JE (ahO ((aD9).elim (acz (I.pin p (aps z))) (acz (by
  rw[amf hb (Ll z)];obtain⟨f0,f1,f2,_⟩:=hf p.1 hb;obtain⟨o,e',d⟩:=ho p.1 hb;rw[e] at e'; cases e';exact⟨e,f0,f1,f2,d⟩))))
def Inv.vi{pins pl:x8}aOv aNJ(I:Inv X (pins++pl) σ H s):z0:=I.JE (ahO (I.pin p (aps (aJg hp))))
def Wb{iter:Expr}{body:amc}{wi:TI}{g:TG}{tb:TS}aOD aTm(hi:PI X tg iter wi)(hg:PG X tg g)(hb:HC X body tb)
  aQg:PS X (.For tg iter body [] pos) (acZ wi g tb):=by
 rw[ai0 D (wpAny_For (afu (hi pins s σ H _ I h) v s1 h1 (agB h1 itv s2 h2)) hs)];obtain⟨it,fp,tn,J,H2,e,I2,T,JH,f2,W,⟨m0,w0⟩,turn⟩:=h2;subst e;rw[ab4 HG (∀{H':Hp},(∀b∈fp,aka b)->∀b∈fp,yD X pins H' b) (λ hn b hb=>⟨hn b hb,(f2 b hb).2⟩) (codeAny_forLoop_any (λ n s'=>∃i σ' H',auz/\tn i s'.heap/\(∀b∈fp,aka b)/\W i n σ' H') ?_ m0 ⟨0,σ,H2,I2,JH,aqt (f2 b hb).1,w0⟩)];rintro n s3 ⟨i,σ3,H3,I3,Wc,Zj,w3⟩;rcases turn i n σ3 H3 w3 with⟨stop,qn⟩ | ⟨go,N,hN,step⟩
 ·refine aAJ (agB (T.done X rfl rfl rfl hc i pins s3 σ3 H3 X.xe I3 (HG Zj) Wc stop) r s4 ⟨hr,I4⟩);rw[adL hr (aJx σ3 H3 I4 qn)]
 ·refine aAJ (agB (T.item X rfl rfl rfl hc i pins s3 σ3 H3 X.xe I3 (HG Zj) Wc go) r s4 ⟨u,hr,h4⟩)
  subst hr
  refine aAJ (agB h4 _ s5 ⟨x,H5,I5,r5,y5,We,fr5⟩);rw[DB I5' (I5.pinned (HG fr5) (T.obj _ _ We)) (aAJ (agB (hg _ s5 σ3 H5 x u _ I5' r5 (step x H5 y5)) _ s6 ⟨σ6,H6,I6,q6⟩))];rw[ahV (aAJ (agB (hb _ s6 σ6 H6 _ I6 q6) f s7 q7)) again (∀{σ7:St}{H7:Hp},Inv X (pins++zS fp s5.heap) σ7 H7 s7->N σ7 H7->∃m,m<n/\∃i σ' H',auX X σ' H' s7/\tn i s7.heap/\(∀b∈fp,aka b)/\W i m σ' H') (λ{σ7 H7} I7 n7=>by
   obtain⟨m',hm,w7⟩:=hN σ7 H7 n7;refine⟨m',hm,i+1,σ7,H7,I7.vi,T.keep _ _ _ We λ b hb o e=>(I7.pin (b,o) (aps (aps (qE hb e)))).1,aiu,w7⟩;obtain⟨o,e,d⟩:=T.obj _ _ We b hb;exact(I7.pin (b,o) (aps (aps (qE hb e)))).2.1)]
  cases f with
  | next=>rw[asQ σ7 H7 I7 n7 q7 (again I7 n7)]
  | cont=>rw[asQ σ7 H7 I7 n7 q7 (again I7 n7)]
  | brk=>rw[afr σ7 H7 I7 q7 q7 ⟨σ7,H7,I7.vi,q7⟩]
  | ret v=>obtain⟨x7,σ7,H7,I7,r7,q7⟩:=q7; exact⟨x7,σ7,H7,I7.vi,r7,q7⟩
universe zE
universe L2
namespace L2
open PySem PySem.Spec PyProof.Rows
noncomputable abbrev R2:=V->aDB
abbrev m4 aNo(f:av1)(r:R2):Prop :=
 ∀aNQ(x y:V)(v u:Value)aOB,ahA (RelV x v) (ajH->r x y H Q →
  ads (f v u) (EP X pins σ Q) s)
abbrev UnR aNo(f:aoc aAR)(r:aDB):Prop :=
 ∀aQ6 aQv aOB,ahA (RelV x v) (r x H Q →
  ads (f v) (EP X pins σ Q) s)
abbrev gC aNo(f:Value)(r:ajm):Prop :=
 ∀aNQ aPs aOJ aOB,ahA ak6 (r xs H Q →
  ads (call f us) (EP X pins σ Q) s)
abbrev ac3 aNo(r:V->Hp->aqJ at4):Prop :=
 ∀aQ6 aQv(Q:at4),ahA (RelV x v) (r x H Q →
  ads (truthy v) (TP X pins σ Q) s)
abbrev Zk(r:R2)aRY:TE:=λ σ H Q=>ta σ H (acF x (tb σ H1 (ahP y (r x y H2 Q))))
abbrev tUn(r:aDB)(ta:TE):TE:=λ σ H Q=>ta σ H (acF x (r x H1 Q))
abbrev rI(C:Int->adj Int)(g:auN V):R2:=amX (∃i j,x=η i/\y=η j/\C i j/\Q (g i j) H)
abbrev U1(g:auN V):R2:=amX (∃i j,x=η i/\y=η j/\Q (g i j) H)
abbrev rU(g:Int->V):aDB:=λ x H Q=>∃i,x=η i/\Q (g i) H
section
variable {X:Cx} {a b c:Expr} {ta tb tc:TE} {pos:Pos}
def Wg aPv aPD aNJ aOv{R:V->aDo}aNa
  aTq aNN{f:av1}
  aTb :
  ads (ag9 a) (λ v s₁=>ads (ag9 b) (λ u s₂=>ads (f v u) Q s₂) s₁) s:=by
 rw[adY (ari s H _ I h v ⟨x,H1,I1,r1,q1⟩) (agB (atW _) u s2 ⟨y,H2,I2,r2,q2⟩)];exact hf v u s2 x y H2 I2 r1 r2 q2
def Zl{op:Operator}{r:R2}(ho:m4 X (binaryOp op) r)aPv:adz (.BinOp a op b pos) (Zk r ta tb):=by
 intro pins s σ H Q I h;exact wpAny_BinOp (Wg ha hb I h λ v u s2 x y H2 I2 rx ry q=>ho pins s2 σ H2 x y v u Q I2 rx ry q)
def Zm{op:UnaryOp}{r:aDB}(ho:UnR X (unaryOp op) r)(ha:anS):ar6 aGq op a (tUn r ta):=by
 intro pins s σ H Q I h;exact UnaryOp_ (afu (ha pins s σ H _ I h) v s1 ⟨x,H1,I1,r1,q1⟩ (ho pins s1 σ H1 x v Q I1 r1 q1))
def opI{f:av1}{C:Int->adj Int}{g:auN Int}
  (rule:∀aSC aND aQP,C i j->Q (aCm (g i j)) { s with toks:=s.toks+1 }->aes (model X.prog X.w) X.A (f (η i t) (η j u)) Q E) :
  aui (rI C (aei j (η (g i j)))):=by
 intro pins s σ H x y v u Q I rx ry h;obtain⟨i,j,rfl,rfl,hc,q⟩:=h;rw[aht rx];rw[adP t' rfl ry (rule i j t t' s _ _ hc ⟨η (g i j),H,afl,adE,q⟩)]
def Zo{f:av1}{g:auN Int}
  (rule:∀aSC aND aQP,Q (aCm (g i j)) { s with toks:=s.toks+1 }->aes (model X.prog X.w) X.A (f (η i t) (η j u)) Q E) :
  aui (atB j (η (g i j))):=by
 intro pins s σ H x y v u Q I rx ry h;rw[amB i j rfl h];rw[aht rx];rw[adP t' rfl ry (rule i j t t' s _ _ ⟨η (g i j),H,afl,adE,q⟩)]
def R7{f:av1}{g:aHE}
  (rule:∀aSC aND aQP,Q (aiW (g i j)) s->aes (model X.prog X.w) X.A (f (η i t) (η j u)) Q E) :
  aui (atB j (.bl (g i j))):=by
 intro pins s σ H x y v u Q I rx ry h;rw[amB i j rfl h];rw[aht rx];rw[adP t' rfl ry (rule i j t t' s _ _ (awR .bl (g i j) q))]
abbrev ac5(i j:Int):Prop:=0<j/\axT j
abbrev Wh(i j:Int):Prop:=(-(2 ^ 64)<i/\i<2 ^ 64)\/(-(2 ^ 64)<j/\j<2 ^ 64)
def Wh.ok{i j:Int}(h:Wh i j):IntMulOk i j:=by
 rcases h with⟨h1,h2⟩ | ⟨h1,h2⟩
 ·exact .of_left (intBits_le_64 h1 h2)
 ·exact .of_right (intBits_le_64 h1 h2)
def Wi:amr Add (atB j (η (i+j))):=Zo λ _ _ _ _ _ _ _ q=>add_int q
def Wj:amr Sub (atB j (η (i-j))):=Zo λ _ _ _ _ _ _ _ q=>sub_int q
def Wk:amr Mult (rI Wh (aei j (η (i*j)))):=opI λ _ _ _ _ _ _ _ hc q=>mul_int q hc.ok
def R8:amr FloorDiv (rI ac5 (aei j (η (i / j)))):=opI λ i j _ _ _ _ _ hc q=>by
 rw[d9 h1 (auk<j) hc.1 h2 (axT j) hc.2];exact floordiv_int b6 (by rw[Ω (Int.fdiv_eq_ediv_of_nonneg i b6) q]) (b4 (PyProof.noPylong_small b6))
def Wl:amr Mod (rI (abg j (0<j)) (aei j (η (i%j)))):=opI λ i j _ _ _ _ _ hc q=>by
 rw[ajE h1 (auk<j) hc (mod_int' b6 (by rw[Ω (Int.fmod_eq_emod_of_nonneg i b6) q]))]
def unI{f:aoc aAR}{g:Int->Int}
  (rule:∀aNV(t:Tok)aND aQP,Q (aCm (g i)) { s with toks:=s.toks+1 }->aes (model X.prog X.w) X.A (f (η i t)) Q E) :
  UnR X f (rU λ i=>η (g i)):=by
 intro pins s σ H x v Q I rx h;rw[adw i q h];rw[adP t rfl rx (rule i t s _ _ ⟨η (g i),H,afl,adE,q⟩)]
def Wm:UnR X (unaryOp .USub) (rU λ i=>η (-i)):=unI λ _ _ _ _ _ q=>neg_int q
universe zE
section
variable {X:Cx} {a b c:Expr} {ta tb tc:TE} {pos:Pos}
def N7 aOC aN0{k k':Bool}aNa(q:Q (.bl k) H)(e:k=k'):EP X pins σ Q (aiW k') s:=by
 subst e;exact awR .bl k q
def Zp:m4 X (compareOp .Lt) (atB j (.bl (an8 i j))):=R7 λ _ _ _ _ _ _ _ q=>lt_int q
def Zq:m4 X (compareOp .LtE) (atB j (.bl (aqo i j))):=R7 λ _ _ _ _ _ _ _ q=>le_int q
def Zr:m4 X (compareOp .Gt) (atB j (.bl (an8 j i))):=R7 λ _ _ _ _ _ _ _ q=>gt_int q
def Zs:m4 X (compareOp .GtE) (atB j (.bl (aqo j i))):=R7 λ _ _ _ _ _ _ _ q=>ge_int q
def Wn:m4 X (compareOp .Is) (amX (y=.bh/\Q (.bl (aeY x .bh)) H)):=by
 intro pins s σ H x y v u Q I rx ry h;rw[asX q h];cases ry;refine is_none_gen (N7 I q ?_)
 cases x<;>first
  | (cases rx; rfl)
  | (rw[aht rx];rfl)
def R9:m4 X (compareOp .IsNot) (amX (y=.bh/\Q (.bl (!(aeY x .bh))) H)):=by
 intro pins s σ H x y v u Q I rx ry h;rw[asX q h];cases ry;refine isnot_none_gen (N7 I q ?_)
 cases x<;>first
  | (cases rx; rfl)
  | (rw[aht rx];rfl)
def m4.or{f:av1}{r r':R2}(h:aui r)(h':aui r'):aui (amX (r x y H Q\/r' x y H Q)):=by
 intro pins s σ H x y v u Q I rx ry q;rcases q with q | q
 ·exact h pins s σ H x y v u Q I rx ry q
 ·exact h' pins s σ H x y v u Q I rx ry q
def ac6(b:Expr)aQu(h:op≠.In:=by decide)(h2:op≠.NotIn:=by decide):aDs:=by
 rw[d9 e1 (ai8 op CmpOp.In) (by cases op<;>first | rfl | rw[aoG h]) e2 (ai8 op CmpOp.NotIn) (by cases op<;>first | rfl | rw[aoG h2])]
 cases b<;>simp[behindInMarks,e1,e2]
def Sa aQu{r:R2}(ho:av2 r)aPv(hm:aDs):adz (ayb a [op] [b] pos) (Zk r ta tb):=by
 intro pins s σ H Q I h;exact wpAny_Compare1 (Wg ha hb I h λ v u s2 x y H2 I2 rx ry q=>ho pins s2 σ H2 x y v u Q I2 rx ry q) hm
abbrev U2(t:TE):TT:=ahL (t σ H λ x H'=>∃k,x=.bl k/\ajl k)
def Se aQu{r:R2}(ho:av2 r)aPv(hm:aDs):api (ayb a [op] [b] pos) (U2 (Zk r ta tb)):=by
 intro pins s σ H Q I h
 refine wpAny_isTrue_Compare1 (afu (ha pins s σ H _ I h) v s1 ⟨x,H1,I1,r1,q1⟩ (fO (atW _) λ u s2 ⟨y,H2,I2,r2,q2⟩ =>
  agB (ho pins s2 σ H2 x y v u _ I2 r1 r2 q2) c s3 ⟨z,H3,I3,r3,k,e,q3⟩)) hm
 subst e;cases r3;exact wpAny_truthy_bool ⟨H3,I3,q3⟩
abbrev N8(r r':R2)(ta tb tc:TE):TE:=λ σ H Q=>ta σ H (acF x (tb σ H1 (ahP y (r x y H2 λ z H3=>∃k,z=.bl k ∧
 (ahi k (tc σ H3 λ w' H4=>r' y w' H4 Q) (Q (ako .bl) H3))))))
def N9{op Wq:CmpOp}{r r':R2}(ho:av2 r)(JD:m4 X (compareOp Wq) r')aPv(hc:adz c tc)
  aTr:adz (ayb a [op,Wq] [b,c] pos) (N8 r r' ta tb tc):=by
 intro pins s σ H Q I h
 refine Compare_chain (afu (ha pins s σ H _ I h) v s1 ⟨x,H1,I1,r1,q1⟩ (chain_link (fO (atW _) λ u s2 ⟨y,H2,I2,r2,q2⟩ =>
  agB (ho pins s2 σ H2 x y v u _ I2 r1 r2 q2) d s3 ⟨z,H3,I3,r3,k,e,q3⟩))) hm
 subst e;cases r3;refine wpAny_truthy_bool ?_;cases k with
 | false=>exact ite_ff (aa9 (.bl false) H3 I3 q3)
 | true=>exact ite_tt (chain_last (afu (hc pins s3 σ H3 _ I3 q3) w' s4 ⟨z',H4,I4,r4,q4⟩ (JD pins s4 σ H4 y z' u w' Q I4 r2 r4 q4)))
abbrev Wr aNc(x:V)aNz(k:Bool):Prop :=
 match x with
 | .bh=>acs k
 | .bl b=>k=b
 | η i=>k=(i != 0)
 | b5 y=>afi y.length/\k=(aae y.length != 0)
 | .YI y=>afi y.size/\k=(aae y.size != 0)
 | Δ p=>(aw2 (pO K H p xs) (k=axt))\/(aw2 (B6 K H p xs) (k=axt))\/∃kvs,H p=alZ/\k=aEZ
 | _=>False
def HH aOd aPX:(! vs.isEmpty)=aEZ:=by
 cases r<;>rfl
def zT{xs:g8}{bN:x6}(r:awo):aL8=axt:=by
 cases r<;>simp
def zU:aez sizeLine<2 ^ 63:=by rw[sizeLine_eq];decide
def Ws:ac3 X (λ x H Q=>∃k,Wr X.K x H k/\Q k H):=by
 intro pins s σ H x v Q I rx h;obtain⟨k,e,q⟩:=h;rw[aev hl zU hs (sizeLine=16777216) sizeLine_eq];cases x with
 | bh =>
  cases rx;have e':acs k:=e;rw[adL e' (truthy_none ⟨H,I,q⟩)]
 | bl b =>
  cases rx;have e':k=b:=e;rw[adL e' (wpAny_truthy_bool ⟨H,I,q⟩)]
 | int i =>
  rw[aht rx];have e':k=(i != 0):=e;rw[adL e' (PySem.P.truthy_int ⟨H,I,q⟩)]
 | str y =>
  rw[aht rx];obtain⟨hy,e'⟩:afi y.length/\k=(aae y.length != 0):=e;rw[adL e' (PySem.P.truthy_str b6 ⟨H,afl,q⟩)]
 | YI y =>
  rw[aht rx];obtain⟨hy,e'⟩:afi y.size/\k=(aae y.size != 0):=e;rw[adL e' (PySem.W.truthy_bytes b6 ⟨H,afl,q⟩)]
 | ref p =>
  cases rx;have e':(aw2 (pO X.K H p xs) (k=axt))\/(aw2 (B6 X.K H p xs) (k=axt))\/∃kvs,H p=alZ/\k=aEZ:=e;rcases e' with⟨xs,hx,e'⟩ | ⟨xs,hx,e'⟩ | ⟨kvs,hx,e'⟩
  ·subst e';rw[afj r pl hz (I.list hx)];rw[alF hlen r.length (wpAny_truthy_list pl.isList (by simp only[List.size_toArray];omega) ⟨H,afl,by rw[Ω (zT r) q]⟩)]
  ·subst e';rw[afj r pl hz (I.tuple hx)];rw[alF hlen r.length (truthy_tuple pl (by simp only[List.size_toArray];omega) ⟨H,afl,by rw[Ω (zT r) q]⟩)]
  ·subst e';obtain⟨hz,hS,vs,r,m⟩:asK/\aiI (p == sysModules)/\∃vs,amx/\s.heap.DictOf ajz p vs:=I.cR p _ hx;rw[ajE hlen aM4 aJS (wpAny_truthy_dict hS m b6 ⟨H,afl,by rw[Ω (HH r) q]⟩)]
 | _=>exact(show False from e).elim
def Oa(ha:anS)(he:∀whole,isTrue a X.env whole=(do let v ← whole; standAt a.pos; aou [v] (truthy v))) :
  api a (ahL (ta σ H λ x H'=>∃k,Wr X.K x H' k/\ajl k)):=by
 intro pins s σ H Q I h;exact isTrue_plain (afu (ha pins s σ H _ I h) v s1 ⟨x,H1,I1,r1,q1⟩ (Ws pins s1 σ H1 x v Q I1 r1 q1)) (he _)
def vals1{x:V}aOK(r:asG [x]):∃u,us=[u]/\at7:=by
 cases r with
 | cons r1 r2=>cases r2; exact anl r1
def vals2{x y:V}aOK(r:asG [x,y]):∃u w',us=[u,w']/\at7/\aBV y:=by
 cases r with
 | cons r1 r2 =>
  cases r2 with
  | cons r3 r4=>cases r4; exact amD _ r1 r3
def Lm aOz:arF "max" (auL i j (xs=[η i,η j]) (Q (η (aEU (j > i) i)) H)):=by
 intro pins s σ H xs us Q I r h;rw[axR i j q h];obtain⟨u,w',rfl,⟨t,rfl⟩,⟨t',rfl⟩⟩:=vals2 r;refine max_two_ints (I.ok.hd hc) λ h' tk k=>⟨_,H,I.kept k,?_,q⟩
 by_cases hj:j > i
 ·rw[aml hj hj];exact adE
 ·rw[aF0,aF0]; exact adE
def Ln aOz:arF "min" (auL i j (xs=[η i,η j]) (Q (η (aEU (j<i) i)) H)):=by
 intro pins s σ H xs us Q I r h;rw[axR i j q h];obtain⟨u,w',rfl,⟨t,rfl⟩,⟨t',rfl⟩⟩:=vals2 r;refine min_two_ints (I.ok.hd hc) λ h' tk k=>⟨_,H,I.kept k,?_,q⟩
 by_cases hj:j<i
 ·rw[aml hj hj];exact adE
 ·rw[aF0,aF0]; exact adE
def Lo:gC X (acr "int") (λ xs H Q=>(∃i,xs=[η i]/\Q (η i) H)\/∃k,xs=[.bl k]/\Q (η (if k then 1 else 0)) H):=by
 intro pins s σ H xs us Q I r h;rcases h with⟨i,rfl,q⟩ | ⟨k,rfl,q⟩
 ·rw[asQ u rfl t rfl (vals1 r) (call_int_int ⟨η i,H,I,adE,q⟩)]
 ·rw[anf u r1 r];cases r1;exact call_int_bool ⟨η (if k then 1 else 0),H,afl,adE,q⟩
universe zE
universe L2
namespace L2
open PySem PySem.Spec PyProof.Rows
structure HI aOT(x dx C:Addr)(mA:ac0):Prop where
 obj:h.get? x=c8 (PySem.W.instObj C dx)
 ns:h.Ns1 dx mA
 ne:dx≠x
def Lp aOe{dx:Addr}{mA:ac0}(n:h.Ns1 dx mA):∃od,aFe dx od/\∀name,PySem.W.lookIn name od=c8 aGN:=by
 obtain⟨o,es,ep,ho,hd,hk,_,hm⟩:=n;rw[ab8 o ho (f6 name)];have e:=hm name;unfold nsFind findBy at e;rw[← Array.find?_toList] at e;unfold PySem.W.lookIn
 rw[afG hd];split
 ·rename_i y q;rw[g9 q e (congrArg some e)]
 ·rename_i q;rw[q] at e
  rw[d9 a (acs aLE) (by
   rw[List.any_eq_false];intro y hy;obtain⟨z,t,ac7⟩:=hk y (Array.mem_toList_iff.mp hy);simp[DictEntry.refKey,ac7]) a' (¬(b8 aLE)) (by rw[aD6 a])]
  rw[asO a' (congrArg some e)]
def HI.look aOe{x dx C:Addr}{mA:ac0}(I:HI h x dx C mA):∃od,PySem.W.InstAt h x (PySem.W.instObj C dx) C (some od)/\∀name,PySem.W.lookIn name od=c8 aGN :=
 let⟨od,ho,hl⟩:=Lp I.ns
 ⟨od,agY I.obj rfl ho,hl⟩
section
variable {prog:Program} {w:World} {A:Around} {E:abP} {s:Shared} {K:Fg} {x dx C f:Addr} {mA:ac0} {name:Str} {v:Value}
def get_map{expr:Bool}aNN aSj(hg:aD7 K C name)(hh:aJc K C)
  (ha:aln (Δ C) name=as2)(hv:aGN=aeJ)(hv':aLS v)(h:Q v { s with toks:=s.toks+1 }) :
  ao9 (getAttr (Δ x) name expr):=by
 rw[aq7 od J hl I.look (PySem.W.get_value X J aJh.1 (PySem.W.findObj_own hh ha rfl (af1 hl hv)) hv' h)]
def Ob aUg aSj(hg:aD7 K C name)
  (hf:aln (Δ C) name=aBn f)(ht:aEt K (Δ f))(hv:YW aGN)(h:Q (Δ f,[Δ x]) s) :
  ao9 (getMethod (Δ x) name pl):=by
 rw[aq7 od J hl I.look (PySem.W.method_fn X J aJh.1 aJh.2 hf (beq_iff_eq.mp ht) (by show t6 ((PySem.W.lookIn name od).map (·.isSome)) false; rw[hl,hv]; rfl) h)]
def Sf{ns:acC}aPO aSj
  (hs:aln (Δ C) "__setattr__" = c8 (aI7 adX))(hp:b8 (PySem.W.plainOver K C))(ht:PySem.W.takerIn K C name=as2)(hh:aJc K C)
  (hw:aJT ns)(hsz:afi ns.length)
  (h:∀h',HI h' x dx C (arH y y name aeJ (mA y))->Heap.SameBut dx s.heap h'->Q () (ahE s h' (s.toks+2))) :
  ao9 (setAttr (Δ x) name v):=by
 rw[ana od J hl I.look (PySem.W.set_plain X J hs (PySem.W.osa_open (s:={ s with toks:=s.toks+1 }) (r:=none) X J hp ht (f6 b)))];obtain⟨cd,hc,hd'⟩:=PySem.W.any_some hh;rw[ab4 hx (akH x ⟨Δ C,some dx,.plain,#[]⟩) I.obj (adi (aq9 (adi (adi (wpAny_loadPart hx (adi (PySem.W.Looks.here (s:={ s with toks:=s.toks+1 }) (PySem.W.looks_clsIn X hc) ?_)))))))];rw[hd'];rw[adY (wpAny_pure (a:=some dx) (adi (aq9 aJ7))) (wpAny_nsSet1 (s:={ s with toks:=s.toks+1 }) I.ns (atl Sh RG))];obtain⟨oD,esD,epD,hoD,hdD,hcD⟩:=Sh.count (PySem.Within.cons name v hw);rw[ant (adi (wpAny_lookBehind hoD (by rw[Ω hdD (pastItsLine_dict (ai5 hcD (by rw[ahX zE])))]) ?_)) (aq9 (h _ ⟨x9 (RG.2 _ (Ne.symm I.ne)) I.obj,Sh,I.ne⟩ RG))]
def Oc{R:aHF}{vs:x6}{kw:arf}(X:apG)(hm:b8 (PySem.W.makesIn K C))
  (hi:aln (Δ C) "__init__" = c8 (aib f))(hf:PySem.W.typeIn K (Δ f)=aa2 acr "function")
  (h:codeAny ahK (A.under (adX "type.__call__" ⟨Δ C::vs,kw⟩)) (.call (Δ f) ⟨Δ afv::vs,kw⟩) (PySem.W.InitBack afv R)
   (ahB s ((au0).push aC4))) :
  ark ahK A (.call (Δ C) ⟨vs,kw⟩) R s:=by
 obtain⟨hh,g,d,t,os⟩:=s;exact PySem.W.make_core (PySem.W.makes_of X hm) (PySem.W.looks_findIn X hi) (λ self=>PySem.W.bind_fn X self hf) (b4 rfl) h
universe zE
abbrev pG aOq(v:V):anM->anM
 | []=>[(f,v)]
 | (g,x)::r=>if g=f then(g,v)::r else(g,x)::pG f v r
def xV(f g:Str)(v:V):∀fs:anM,ahs aIr g=akI g f aeJ (fs.lookup g)
 | []=>by
  show List.lookup g [(f,v)]=_;rw[age (g=f)]
  ·have hb:aey (g == f):=beq_iff_eq.mpr h;simp only[List.lookup,hb,avL]
  ·have hb:ai8 g f:=aI3;simp only[List.lookup,hb,aov]
 | (k,x)::r=>by
  have ih:=xV f g v r
  rw[show pG f v ((k,x)::r)=(if k=f then(k,v)::r else(k,x)::pG f v r) from rfl]
  by_cases hk:k=f
  ·rw[ak2 hk];rw[age (g=k)]
   ·have hb:aey (g == k):=beq_iff_eq.mpr h;simp only[List.lookup,hb,af5 (h.trans hk)]
   ·have hb:ai8 g k:=aI3;simp only[List.lookup,hb,al1 (λ e:g=f=>h (e.trans hk.symm))]
  ·rw[afZ hk];rw[age (g=k)]
   ·have hb:aey (g == k):=beq_iff_eq.mpr h;simp only[List.lookup,hb,al1 (λ e:g=f=>hk (h.symm.trans e))]
   ·have hb:ai8 g k:=aI3;simp only[List.lookup,hb];exact ih
def wG aOq(v:V):∀fs:anM,f∈aeS (aIr).map/\∀g,g∈aEN->g∈aeS (aIr).map
 | []=>⟨d7 pG,λ g h=>anP⟩
 | (k,x)::r=>by
  obtain⟨i1,i2⟩:=wG f v r;rw[show pG f v ((k,x)::r)=(if k=f then(k,v)::r else(k,x)::pG f v r) from rfl]
  by_cases hk:k=f
  ·rw[ak2 hk];subst hk;rw[aab Ξ (λ g h=>azC)]
  ·rw[afZ hk];rw[avH ?_ g h]
   ·rw[Ω zC (aha i1)]
   ·rw[zC] at h ⊢;rcases asF with e | e
    ·exact List.mem_cons.mpr (b4 e)
    ·exact aha (i2 g e)
def xW aOq(v:V):∀fs:anM,ag4 aIr (fs.length+1)
 | []=>d7 pG
 | (k,x)::r=>by
  have ih:=xW f v r
  rw[show pG f v ((k,x)::r)=(if k=f then(k,v)::r else(k,x)::pG f v r) from rfl]
  by_cases hk:k=f
  ·rw[aKZ,zE,zE]; omega
  ·rw[aK1,zE,zE]; omega
def p6.zk aNI{o:amZ}(r:p6 aeJ o):∃u,o=abF/\ahY:=by
 cases o with
 | none=>exact(ajZ False).elim
 | some u=>exact afT u r
def p6.none_of{o:amZ}(r:p6 none o):YW o:=by
 cases o with
 | none=>rfl
 | some u=>exact(ajZ False).elim
def Lq aNI aN1(r:ahY):aLS u:=by
 cases v with
 | bh=>cases (ajZ (u=Value.none)); rfl
 | bl b=>cases (ajZ (u=Value.bool b)); rfl
 | int i=>rw[amf t (ajZ (∃t,u=azK))]; cases e; rfl
 | str x=>rw[amf t (ajZ (∃t,u=azL))]; cases e; rfl
 | YI b=>rw[amf t (ajZ (∃t,u=Value.bytes b t))]; cases e; rfl
 | YJ b=>rw[amf t (ajZ (∃t,u=Value.float b t))]; cases e; rfl
 | ref a=>cases (ajZ (u=aol)); rfl
 | ty n=>cases (ajZ (u=Value.type n)); rfl
section
variable {P:Program} {w:World} {H H':Hp} {h h':Heap} {a C dx:Addr} {fs NJ:anM}
def DJ(cR:akz)aQY:∃mA,HI h a dx C mA/\(∀f,p6 asV (mA f))/\aJT aEN/\fs.length≤1000/\H dx=aDk:=by
 obtain⟨d,z,ne,ob,mA,n,r,q⟩:=(show iu P w H h a (aa7 C dx fs) from cR a _ e)
 exact⟨mA,⟨ob,n,ne⟩,r,q,z,d⟩
universe zE
structure JI aP5:Prop where
 pg:aD7 K C Str.empty
 hd:aJc K C
 po:b8 (PySem.W.plainOver K C)
 sa:aln (Δ C) "__setattr__" = c8 (aI7 adX)
def JI.get aNE aN3(c:asp)aOq:aD7 K C f:=c.pg
abbrev uA aP5 aOq:Prop:=aln (Δ C) f=as2
def uA.Zt aNE aN3 aO9(n:uA K C f):PySem.W.takerIn K C f=as2:=by
 rw[atd PySem.W.takerIn (ahG (aln (Δ C) f) as2 n)]
structure Con aP5 aOq(v:V)aO5:Prop where
 at_:aln (Δ C) f=am5 u
 rel:ahY
 get:aIY K u = some none
 cp:acs (PySem.W.copiedNames.contains f)
structure Meth aP5(m:Str)(f:Addr):Prop where
 at_:aln (Δ C) m=aBn f
 fn:aEt K (Δ f)
 kp:b8 (PySem.W.keepIn K (Δ f))
section
variable {X:Cx} {pins:x8} {σ:St} {H:Hp} {s:Shared} {a C dx:Addr} {fs:anM} {f:Str} {v:V} {A:Around} {E:abP}
def HJ aPo aNN aNa aQY(c:aHG)(n:uA X.K C f)(l:asV=aeJ)
  (h:∀u s',arJ->ahY->Q u s'):aes (model X.prog X.w) A (getAttr (Δ a) f b) Q E:=by
 obtain⟨mA,O,r,_,_,_⟩:=DJ I.cR e;rw[aq7 u hu ru (p6.zk (v:=v) (o:=mA f) (by rw[abQ l (r f)])) (get_map I.Fy O (c.get f) c.hd n hu (Lq ru) (h u _ afl ru))]
def HK{m:Str}{g:Addr}aUg aNa aQY(c:aHG)(k:Meth X.K C m g)(l:YW (fs.lookup m))
  (h:Q (Δ g,[Δ a]) s):aes (model X.prog X.w) A (getMethod (Δ a) m pl) Q E:=by
 obtain⟨mA,O,r,_,_,_⟩:=DJ I.cR e;rw[ajE hn (YW (mA m)) (p6.none_of (by rw[abQ l (r m)])) (Ob I.Fy O (c.get m) k.at_ k.fn hn h)]
def HL aQw aPO aNa aQY(c:aHG)(n:uA X.K C f)(hl:ayq)aOU
  (h:∀s',aeC (upd H a (aa7 C dx (pG f y fs))) s'->Q () s'):aes (model X.prog X.w) A (setAttr (Δ a) f u) Q E:=by
 obtain⟨mA,O,r,wi,_,ho⟩:=DJ I.cR e
 rw[ab4 hz (afi (acL aEN)) (by rw[zK,sizeLine_eq];omega) (Sf I.Fy O c.sa c.po n.Zt c.hd wi hz λ h' O' sb=>h _ ?_)];have hd:∃o,h'.get? dx=aaW:=let⟨o,_,_,e',_⟩:=O'.ns; ⟨o,e'⟩;rw[avR (I.write (x:=a) (e:=dx) (by rw[azJ]) (b9 ho) (λ b q hb z=>x9 (sb.2 b hb) z) hd ?_) ⟨by rw[Ω (aQ O.ne) ho],?_,O.ne,O'.obj,_,O'.ns,f6 g,ab7 g hg⟩]
 ·rw[aeq (xW f y fs)]
 ·show p6 (ahs (pG f y fs) g) (akI g f abF (mA g));rw[xV]
  by_cases q:g=f
  ·rw[aml q q];exact ry
  ·rw[aeh (if_neg q) (if_neg q) (r g)]
 ·by_cases q:g=f
  ·rw[aeN q (wG f y fs).1]
  ·refine(wG f y fs).2 g (wi g (acz (hg ?_)));show YW (akI g f abF (mA g));rw[asO q z]
def Inv.made aNa:Inv X pins σ (af3 (upd H s.heap.objs.size (.own afv)) afv (aa7 C s.heap.objs.size []))
  (ahB s ((au0).push aC4)):=by
 rw[agw e1 (t6 ((au0).get? s.heap.objs.size) PySem.W.emptyDict) (aAq s.heap) e2 (((au0).push aC4).get? afv) (c8 aC4) (by
  rw[avQ (Heap.get?_push_size au0 (o:=aC4) rfl) Heap.size_push])]
 rw[avK e3 ((au0).Ns s.heap.objs.size awO) ⟨PySem.W.emptyDict,#[],_,e1,rfl,(ayE e he he),apM⟩ I1 (I.laid (a:=s.heap.objs.size) (o:=.own afv) (h':=au0) (t':=s.toks) (λ b u q=>afR q) ack (arU e1)) (I1.laid (a:=afv) (o:=aa7 C s.heap.objs.size []) (t':=s.toks) (λ b u q=>afR q) (Nat.le_of_eq (Heap.size_push _ _)) ?_)];rw[ahq ne (s.heap.objs.size≠afv) (aLR _) ⟨af1 (aQ ne) bG,aog,ne,e2,awO,(Heap.Ns1.of_empty e3).at λ o q=>afR q,λ _=>True.intro,aAX y hy rfl hy⟩]
def Si aSu aPZ aPF aO9 aOD aNJ aNN(hb:attributeBase e f env (ayd e)=ayd e)
  (h:aes ahK A (ayd e) (λ o s₁=>ahS ahK A (getAttr o f true) Q E s₁) E):ao9 (ayd (asB e f pos)) :=
 Attribute_any_ h (af1 arm_eval_Attribute hb)
universe zE
abbrev ac8 aNc(ta:TE)aOq:TE:=λ σ H Q=>ta σ H (acF x (∃a C dx fs v,x=Δ a/\H1 a=auy/\asp/\uA K C f/\asV=aeJ/\apj v))
abbrev ac9 aNc(ta tv:TE)aOq:TS:=an4 (tv σ H (acF y (ta σ H1 (ahP x (∃a C dx fs,x=Δ a/\H2 a=auy/\asp/\uA K C f/\ayq ∧
 D.nx σ (af3 H2 a (aa7 C dx (pG f y fs))))))))
section
variable {X:Cx} {o e value:Expr} {f:Str} {pos pos' B7:Pos} {ta tv:TE}
def Wt(he:adz e ta)(hb:am4 e f (ag9 e)=ag9 e):ar6 asB e f (ac8 X.K ta f):=by
 intro pins s σ H Q I h;refine Si hb (amq (he pins s σ H _ I h) u ⟨x,H1,I1,rx,a,C,dx,fs,v,ex,ea,c,n,l,q⟩);subst ex;obtain rfl:u=aol:=rx;exact HJ I1 ea c n l λ u' s2 I2 ru=>⟨v,H1,I2,ru,q⟩
def Wu(ha:adz o ta)(hv:adz value tv)(hs:axB value (c8 (asB o f pos'))=aoo):PS X (anv [asB o f pos'] value pos) (ac9 X.K ta tv f):=by
 intro pins s σ H D I h;refine plainObj_wpAny_Assign_Attribute (afu (hv pins s σ H _ I h) u s1 ⟨y,H1,I1,ry,q⟩ (agB (ha pins s1 σ H1 _ I1 q) ov s2 ⟨x,H2,I2,rx,a,C,dx,fs,ex,ea,c,n,l,q2⟩)) hs;subst ex;obtain rfl:ov=aol:=rx;exact HL I2 ea c n l ry λ s3 I3=>⟨σ,_,I3,q2⟩
universe zE
section
variable {X:Cx} {pins:x8} {σ:St} {H:Hp} {s:Shared} {A:Around} {E:abP} {Q:abP} {c:Value} {b:Bool}
inductive zV aNc aNz:V->adj Value where
 | bh:zV K H .bh (acr "NoneType")
 | bl(x:Bool):zV K H (.bl x) (acr "bool")
 | int aNV:zV K H (η i) (acr "int")
 | str aNM:zV K H (b5 x) (acr "str")
 | YJ(x:UInt64):zV K H (.YJ x) (acr "float")
 | lst aNx{xs:g8}(e:H a=afN):zV K H (Δ a) aj2
 | ko aNx{o:Obj}{xs:g8}(e:H a=ab1 .ko o (ς xs)):zV K H (Δ a) aj2
 | tup aNx{xs:g8}(e:H a=ak7):zV K H (Δ a) ap7
 | dK aNx aPE aPV:zV K H (Δ a) aHH
 | dT aNx aPk aRM:zV K H (Δ a) aHH
 | ins{a C dx:Addr}{fs:anM}aQY(cl:asp)(ha:aln (Δ C) "__class__" = c8 aG4)
   (hn:aIY K ap4 = c8 (aDT adX))(htk:PySem.W.takesIn K ap4=aly)
   (hm:aJW C aCd=aly):zV K H (Δ a) (Δ C)
universe zE
universe L2
namespace L2
open PySem PySem.Spec PyProof.Rows
structure jA aNW(A:Around):Prop where
 hd:YW A.handled
 dp:A.depth+3*k+5<recursionLimit
 un:A.units+16*k+200<cLine
def jA.mono aQ2 aSX aQ3:jA j A:=⟨r.hd,by rw[aeq r.dp],by rw[aeq r.un]⟩
def jA.deeper aNf aOy(r:jA (k+1) A)(env:Env):jA k (A.deeper env) :=
 ⟨r.hd,by have:=r.dp;show A.depth+1+3*k+5<_;omega,by have:=r.un;show A.units+3+16*k+200<_;omega⟩
def HM aOy aN3 aOK{kw:arf}:(A.under (adX "type.__call__" ⟨Δ C::us,kw⟩)).depth=A.depth+1:=by
 first | rfl | simp[Around.under,Code.weight,Code.isCreation,Code.isGuard,Code.isCaller,Code.frames,Code.isFrame,guardIds]
def HN aOy aN3 aOK{kw:arf}:(A.under (adX "type.__call__" ⟨Δ C::us,kw⟩)).units=A.units+1:=by
 first | rfl | simp[Around.under,Code.cUnits,Code.frames,Code.isFrame]
def jA.make aNf aOy(r:jA (k+1) A)aNK aOJ(kw:arf):jA k (A.under (adX "type.__call__" ⟨Δ C::us,kw⟩)) :=
 ⟨r.hd,by have:=r.dp;rw[ahX HM],by have:=r.un;rw[ahX HN]⟩
def jA.depth aNf aSX:A.depth<recursionLimit:=by rw[aeq r.dp]
def jA.units aNf aSX:A.units+64<cLine:=by rw[aeq r.un]
abbrev Od:TA:=λ _ H Q=>Q [] H
abbrev CN(ta:TE)(tr:TA):TA:=λ σ H Q=>ta σ H (acF x (tr σ H1 (ahP xs (Q (x::xs) H2))))
section
variable {X:Cx} {e:Expr} {es:ab5} {te:TE} {t:TA} {pos:Pos}
def uB:PA X [] Od:=λ _ _ _ _ H Q I h=>Calls.spliced_nil ⟨[],H,I,abT,h⟩
def o7(ha:atP)(hr:aww t)aSe:PA X (e::es) (CN te t):=by
 intro pos pins s σ H Q I h;rw[hs];show aes _ _ (spliced (aku::ajy es)) _ _;rw[ant (au5 (ari s H _ I h u ⟨x,H1,I1,r1,q1⟩)) (afu (hr pos pins s1 σ H1 _ I1 q1) us s2 ⟨xs,H2,I2,r2,q2⟩ ⟨x::xs,H2,I2,aaT r1 r2,q2⟩)]
abbrev ada(t:TA):TE:=ahL (t σ H (acF xs (aq4/\∀p,ax2 p->Q (Δ p) (af3 H1 p (f9 xs)))))
abbrev adb(t:TA):TE:=ahL (t σ H (acF xs (aq4/\∀p,ax2 p->Q (Δ p) (af3 H1 p (ς xs)))))
def Wv{x1}(h:aww t):ar6 arG es x1 (ada t):=by
 intro pins s σ H Q I hq;refine wpAny_Tuple_spliced (afu (h pos pins s σ H _ I hq) us s1 ⟨xs,H1,I1,r,z,q⟩ (aik (by rw[abQ r.length z])));rw[ahq hf aL0 atq (aa9 (Δ s1.heap.objs.size) (af3 H1 s1.heap.objs.size (f9 xs)) (I1.laid (t':=s1.toks) (λ b u e=>afR e) ack ?_) (q _ hf))];exact⟨z,us,r,ae7 _ azE _ rfl⟩
def Ww(h:aww t):adz (.List es pos) (adb t):=by
 intro pins s σ H Q I hq;refine wpAny_List_spliced (afu (h pos pins s σ H _ I hq) us s1 ⟨xs,H1,I1,r,z,q⟩ (aik (by rw[abQ r.length z])));rw[ahq hf aL0 atq (aa9 (Δ s1.heap.objs.size) (af3 H1 s1.heap.objs.size (ς xs)) (I1.laid (t':=s1.toks) (λ b u e=>afR e) ack ?_) (q _ hf))];exact⟨z,us,0,r,azE⟩
universe zE
noncomputable abbrev Sp:=g8->Hp->VK->adj XK
noncomputable abbrev Hw:=afJ->Hp->Shared->XK->abP
structure HP aOO aP4 aQ8 aND aNz:Prop where
 frames:t6 A.frames outer
 mod:Mod K mg base
 bs:∀b o,base.get? b=aaW->ags/\agr
 RD:base.objs.size≤s.heap.objs.size
 yC:s.heap.FunFrames base outer
 VX:an0 aow agr
 cR:qD P w H s.heap
 bare:aMY
abbrev CE(outer:afJ)aOO aNz aND aOB aO5 aPg:Prop :=
 ∃v H',s'.os=s.os/\axm/\Un aow [] H H' s.heap s'.heap/\qD P w H' s'.heap/\ahY/\ajl v
abbrev CR(CX:Hw)(outer:afJ)aOO aNz aND aOB(E:XK)(r:Result)aPg:Prop :=
 match r with
 | .ok (.ret u)=>CE outer P w H s Q u s'
 | .ok _=>False
 | .error e=>CX outer H s E e s'
structure pH aOO aP4(CX:Hw)aNW(f:Addr)aRy(ps:acC)(sp:Sp):Prop where
 len:∀vs H Q E,aDM->aKd
 run:∀aQ8 aND aNz(args:Args)aOJ aOX aOB(E:XK),jA k A->HP P w K mg base A outer s H->BindsTo s fd args avE->atI->aDM →
  ark (model P w) A (.call (Δ f) args) (CR CX outer P w H s Q E) s
def pH.mono aPq{CX:Hw}aQ2 aRI{sp:Sp}(F:pH P w K mg base CX j f fd ps sp)aQ3 :
  pH P w K mg base CX k f fd ps sp:=⟨F.len,λ A outer s H args us vs Q E hr=>F.run A outer s H args us vs Q E (hr.mono h)⟩
def pH.imp aPq{CX:Hw}aNf aRI{sp sp':Sp}(F:pH P w K mg base CX k f fd ps sp)
  (h:∀vs H Q E,sp' vs H Q E->aDM):pH P w K mg base CX k f fd ps sp' :=
 ⟨λ vs H Q E q=>F.len vs H Q E (h _ _ _ _ q),λ A outer s H args us vs Q E hr he hb hv hs=>F.run A outer s H args us vs Q E hr he hb hv (h _ _ _ _ hs)⟩
def HP.make aPq aOy aPy aNJ aNu(e:HP P w K mg base A outer s H)aNK aOJ(kw:arf) :
  HP P w K mg base (A.under (adX "type.__call__" ⟨Δ C::us,kw⟩)) outer s H:=⟨by first | exact e.frames | (simpa[Around.under,Code.envs,Code.isFrame,pushEnvs] using e.frames),e.mod,e.bs,e.RD,e.yC,e.VX,e.cR,e.bare⟩
section
variable {X:Cx} {pins:x8} {σ:St} {H:Hp} {s s':Shared}
def Inv.Zu aNa:HP X.prog X.w X.K X.mg X.base X.A X.stack s H :=
 ⟨I.ok.frames,I.ok.mod,I.bs,aD1 I.sz,I.stack,I.DF,I.cR,I.bare⟩
def Inv.after aN0 aN1 aNa(h:CE X.stack X.prog X.w H s Q u s'):EP X pins σ Q u s':=by
 obtain⟨v,H',os,bare,un,cR,r,q⟩:=h;obtain⟨hh,g,d,t,os'⟩:=s';obtain rfl:os'=s.os:=os;exact⟨v,H',I.call (h':=hh) (g':=g) (d':=d) (t':=t) (ch:=[]) un cR bare (ayE b z z),r,q⟩
universe zE
abbrev Binds aNc aRy(ps:acC)(ds:x6):Prop :=
 ∀aND aOJ,apG->aGh (us++ds)->BindsTo s fd (aiQ us) (ps.zip (us++ds))
def Binds.all aNE{fd:FuncData}{ps:acC}(h:∀us:x6,aKc->bindArgs fd (aiQ us)=amy avE):aut:=λ s us _ hl=>by
 rw[als zI hl (.of_eq (h us hl))]
abbrev Passes(CX:Hw)aNo(E:XK):Prop:=∀(pins:x8)aQD aND aRE,ahA (CX X.stack H s E e s') (X.xe e s')
section
variable {X:Cx} {CX:Hw} {k:Nat} {f C:Addr} {fd:FuncData} {ps:acC} {sp:Sp} {Lr:g8} {ds:x6} {E:XK} {x m:Str} {p pos apos:Pos} {e o:Expr} {es:ab5} {ta:TE} {t:TA}
structure Mk aNc(C f:Addr):Prop where
 makes:b8 (PySem.W.makesIn K C)
 init:aln (Δ C) "__init__" = c8 (aib f)
 fn:aEt K (Δ f)
 kp:b8 (PySem.W.keepIn K (Δ C))
universe zE
section
variable {X:Cx} {CX:Hw} {k:Nat} {f C:Addr} {fd:FuncData} {ps ks:acC} {sp:Sp} {E:XK} {x m:Str} {p pos apos ago:Pos} {e o:Expr} {es:ab5} {kws:aq6} {te ta:TE} {t tk:TA} {nm:Option Str}
structure ade aNc aRy(ps ks:acC)(g:x6->x6->x6)(gV:g8->g8->g8):Prop where
 to:∀aND(us ws:x6),apG->aGh (g us ws)->BindsTo s fd ⟨us,ks.zip ws⟩ (ps.zip (g us ws))
 rel:∀aOr aOK{zs:g8}{ws:x6},atI->Vals zs ws->auT (gV vs zs) (g us ws)
variable {g:x6->x6->x6} {gV:g8->g8->g8}
universe zE
structure aK(N P:acC)(sc:Scope):Prop where
 kind:sc.kind=anj
 co:aMn
 gen:aMo
 nd:N.Nodup
 pre:N.take P.length=P
 par:anZ P (am6=ani \/ am6=agG)
 Wx:∀y∈sc.names,y.2≠amA
def CO aRu:∀{binds:arf}{m:ac0},(∀v,(x,v)∉binds)->aE1 binds m x=m x
 | [],_,_=>rfl
 | (n,v)::r,m,h=>by
  rw[acu bindL (CO λ w hw=>h w (aha hw))];split
  ·have:x≠n:=by rintro rfl;exact h v List.mem_cons_self
   simp[this]
  ·rfl
def CP aRu:∀{binds:arf}{m:ac0},(∀v,(x,v)∉binds)->aE2 binds m x=m x
 | [],_,_=>rfl
 | (n,v)::r,m,h=>by
  rw[acu bindC (CP λ w hw=>h w (aha hw))];split
  ·rfl
  ·have:x≠n:=by rintro rfl;exact h v List.mem_cons_self
   simp[this]
def CQ aRu aQ0:∀{P:acC}{vs:x6}aNt{m:ac0},P.Nodup->ahf P x->aIf->kindOf x=ani →
  aE1 aye m x=aeJ
 | [],_,_,_,_,h,_,_=>anP
 | _::_,[],_,_,_,_,h,_=>anP
 | p::P,w::vs,0,m,nd,h1,h2,hk=>by
  simp at h1 h2; subst h1;subst h2;show aE1 ((p,w)::aye) m p=_;rw[af7 bindL (CO λ v hv=>aEa.1 aMj.1) aKZ];simp
 | p::P,w::vs,i+1,m,nd,h1,h2,hk=>by
  rw[anA (aE1 ((p,w)::aye) m x=_) bindL];exact CQ (i:=i) aEa.2 aHU (aaF h2) hk
def CS aRu aQ0:∀{P:acC}{vs:x6}aNt{m:ac0},P.Nodup->ahf P x->aIf->kindOf x≠ani →
  aE2 aye m x=aeJ
 | [],_,_,_,_,h,_,_=>anP
 | _::_,[],_,_,_,_,h,_=>anP
 | p::P,w::vs,0,m,nd,h1,h2,hk=>by
  simp at h1 h2; subst h1;subst h2;show aE2 ((p,w)::aye) m p=_;rw[af7 bindC (CP λ v hv=>aEa.1 aMj.1) aK1];simp
 | p::P,w::vs,i+1,m,nd,h1,h2,hk=>by
  rw[anA (aE2 ((p,w)::aye) m x=_) bindC];exact CS (i:=i) aEa.2 aHU (aaF h2) hk
abbrev start(N:acC)aOX:St:=vs.map some++apn (N.length-vs.length) none
abbrev lp(CX:Hw)aOO aP4(N:acC)(qual:Str)(scope:Scope)(f:Addr)(cd:Value)aPr:Cx where
 prog:=P
 w:=w
 K:=K
 mg:=mg
 base:=base
 A:=A.deeper (envOfC qual scope s.heap.objs.size f cd)
 N:=N
 s₀:=s
 H₀:=H
 env:=envOfC qual scope s.heap.objs.size f cd
 outer:=outer
 stack:=aya
 ex:=[]
 calm:=true
 fn:=λ _=>true
 pn:=[]
 xe:=λ e s'=>ahS (model P w) (A.deeper (envOfC qual scope s.heap.objs.size f cd)) (leaving (envOfC qual scope s.heap.objs.size f cd) e) (abg s'' (CX outer H s E e s'')) (λ e' s''=>CX outer H s E e' s'') s'
def FA{sc:Scope}aM9 aNg(h:am6=agG):∃c,ahs (cellsFrom n sc.names []) x=agF:=by
 rw[alF q (PySem.W.cellsFrom_some sc.names n [] (b4 h)) (Option.isSome_iff_exists.mp q)]
def Ls{CX:Hw}aPq aPC aRx aRn aOy aPy{s s1:Shared}aNu aOM aOK aOr
  aSD(hd:YW A.handled)(e0:HP P w K mg base A outer s H)(hl:aKd)(r:atI)
  (x:InCallC s s.heap.objs.size (bindL (envOfC qual scope s.heap.objs.size f cd).kindOf avE awO) (cellsFrom afv scope.names []) (bindC (envOfC qual scope s.heap.objs.size f cd).kindOf avE awO) s1) :
  Inv (lp CX P w K mg base N qual scope f cd A outer s H E) [] (start N vs) H s1:=by
 have p7:axc N.length:=by rw[aiL (aEe S.pre) List.length_take];omega
 rw[axR h1 tk hk x.done];rw[ahq Zv (∀b:Addr,b∉(lp CX P w K mg base N qual scope f cd A outer s H E).ex) (ayE b z (axU b ([]:c9) z)) ⟨⟨e0.mod,S.kind,rfl,rfl,ack,adW y z c h1 h2,ab7 y hy,acE y c _ h,λ _=>hd,Around.frames_deeper e0.frames,b9 (akG rfl),aAX b z z (Zv b),e0.bs,e0.RD,agi _ _ (Zv b),aAX b z z (Zv b),e0.yC,e0.VX⟩,
  rfl,e0.bare,Un.kept hk,apc x.toInCall.ns (ais i y v h1 h2 h3),λ y c h=>⟨_,x.cell y c h⟩,e0.cR.fresh ack,NV y c h,ayE p hp (axU p ([]:x8) hp),e0.cR.kept hk,?_⟩]
 ·exact name_of_addr x.apart (PySem.mem_of_lookup h1) (PySem.mem_of_lookup h2)
 ·have hy:axh y agG\/axh y aoB:=hy;rcases hy with hy | hy
  ·exact FA hy
  ·rw[aoG (S.Wx _ (PySem.mem_of_lookup hy))]
 ·exact Nat.le_of_lt (x.above y c aLY)
 ·rw[d9 hi (i<vs.length) (by
   unfold start at h2;by_cases hi:i<vs.length
   ·exact hi
   ·rw[aDW awi] at h2;rw[List.getElem?_replicate] at h2;split at h2<;>cases h2) ha aIf (by
   unfold start at h2;rw[axa awi,zJ] at h2;cases e:vs[i]? with
   | none=>rw[e] at h2; cases h2
   | some a=>rw[e] at h2; cases h2; rfl)]
  obtain⟨u,hu,rv⟩:=r.get ha
  rw[d9 hp (ahf ps y) (by
   rw[← S.pre,List.getElem?_take_of_lt b6];exact h1) ndP ps.Nodup (by rw[abQ S.pre (S.nd.sublist (List.take_sublist _ _))])]
  rw[ab8 u rv ?_];rcases S.par y (List.mem_of_getElem? hp) with k | k
  ·exact b4 ⟨k,CQ ndP hp hu k⟩
  ·rw[amf c (FA (n:=afv) k)];rw[amn (b9 ⟨b4 k,c,e,?_⟩) q (x.cell y c e)];rw[g9 (CS ndP hp hu (by show scope.names.lookup y≠_; rw[k];decide)) q q]
 ·exact e0.cR.fresh (Nat.le_of_lt (x.above y c aLY))
 ·unfold start;show _=N.length;rw[List.length_append,zK,List.length_replicate];omega
def Zw{CX:Hw}aPq aNf{f:Addr}{name qual:Str}{params:Arguments}{body:amc}aQL{dV kV doc pm lg ct oc:Value}{an od:asU}
  {U3:aHy}aPC{sp:Sp}(lk:t6 (K.lookup f) ⟨oc,od,.func (PySem.W.fnOf name qual params body scope dV kV doc pm an lg ct),U3⟩)(Lg:b8 (PySem.W.codeIn K lg qual))aSD
  (len:∀vs H Q E,aDM->aKd)
  (Zx:∀aQ8 aND aNz aOX aOB(E:XK),jA k (A.deeper (envOfC qual scope s.heap.objs.size f lg))->aDM →
   ∃t,HC (lp CX P w K mg base N qual scope f lg A outer s H E) body t/\t { nx:=abg H' (ajl .bh),rt:=Q } (start N vs) H) :
  pH P w K mg base CX (k+1) f (PySem.W.fnOf name qual params body scope dV kV doc pm an lg ct) ps sp:=by
 rw[ac4 len (λ A outer s H args us vs Q E hr e0 hb r U4=>?_)];have hl:=len _ _ _ _ U4;rw[d9 KX apG (e0.mod.YL.keeps (amT (e0.bs b o e).1)) lim s.heap.NoLimit (e0.mod.nolimit.keeps (amT (e0.bs b o e).1))]
 rw[ab4 JJ (∀y∈avE,axh y.1 ani \/ (axh y.1 agG/\aky (ahs (cellsFrom afv scope.names []) y.1))) (fun⟨n,v⟩ hy=>by
  rcases S.par n (List.of_mem_zip hy).1 with q | q
  ·exact b4 q
  ·exact ald q (PySem.W.cellsFrom_some _ _ _ (b4 q))) (codeAny_call_function hr.depth (KX _ _ lk) rfl S.co S.gen rfl (PySem.W.codeRec_of KX Lg) (hb _ _ _ _ ?_))]
 refine wpAny_newFunctionEnv_cells S.kind JJ (acE env he s1 x);subst he;rw[ac4 (lim.keeps x.toInCall.keep) (codeAny_func ?_)];obtain⟨t,ht,hq⟩:=Zx A outer s H vs Q E (hr.deeper _) U4;rw[ab4 I (Inv (lp CX P w K mg base N qual scope f lg A outer s H E) [] (start N vs) H s1) (Ls S hr.hd e0 hl r x) (wpAny_mono (ht [] s1 (start N vs) H _ I hq) (NV fl s' hs) λ e s' hs=>hs)]
 have fin:∀{σ':St}{H':Hp}aNI aN1,Inv (lp CX P w K mg base N qual scope f lg A outer s H E) [] σ' H' s'->ahY->ajl v->CE outer P w H s Q u s' :=
  λ{σ' H' v u} J rv q=>⟨v,H',J.os,J.bare,J.base,J.cR,rv,q⟩
 cases fl with
 | ret u =>
  obtain⟨v,σ',H',J,rv,q⟩:=hs;exact fin J rv q
 | next =>
  rw[asQ σ' H' J q hs (fin (v:=V.bh) (u:=Value.none) J rfl q)]
 | brk =>
  obtain⟨_,_,_,q⟩:=hs;rw[anb q]
 | cont =>
  obtain⟨_,_,_,q⟩:=hs;rw[anb q]
universe L2
namespace L2
open PySem PySem.Spec PyProof.Rows
section
variable {X:Cx} {x:Str} {p pos:Pos} {e:Expr} {es:ab5} {t:TA} {id T:String} {r:ajm}
abbrev tCB(r:ajm)(t:TA):TE:=ahL (t σ H (acF vs (r vs H1 Q)))
def zW(hc:arF id r)aRs(hv:aqY=aa2 adX id)aQM aRb
  aPT:adz (aet (aad x p) (e::es) [] pos) (tCB r t):=by
 rw[ai0 Q (au6 (uz I hg hm hv ?_ hn HQ))];exact PyProof.Rows.callWith_builtin1 (afu (ha pos pins s σ H _ I h) us s1 ⟨vs,H1,I1,r1,q1⟩ (hc pins s1 σ H1 vs us Q I1 r1 q1)) he p7
def CT(hc:gC X (acr T) r)aRs(hv:aqY=aa2 acr T)aQM aRb
  aPT:adz (aet (aad x p) (e::es) [] pos) (tCB r t):=by
 rw[ai0 Q (au6 (uz I hg hm hv ?_ hn HQ))];exact aAu (afu (ha pos pins s σ H _ I h) us s1 ⟨vs,H1,I1,r1,q1⟩ (hc pins s1 σ H1 vs us Q I1 r1 q1)) he p7
universe zE
universe L2
namespace L2
open PySem PySem.Spec PyProof.Rows
section
variable {κ:Type} [am7]
abbrev nj aQU:apV:=amt (kvs.find? (arK (afD=k))).map
abbrev putK aQU(v:V):afO :=
 ahi (kvs.any (adR kv (afD=k))) (kvs.map (λ kv=>if afD=k then(afD,v) else kv)) (kvs++[(k,v)])
abbrev vj aQU:afO:=kvs.filter (aiY kv afD k)
def vm{p:κ×V}{r:afO}{k:κ}(e:p.1=k):t6 (nj (p::r) k) p.2:=asY nj e
def vn{p:κ×V}{r:afO}{k:κ}(e:¬p.1=k):nj (p::r) k=nj r k:=asY nj e
def FC aN4:∀kvs:afO,(kvs.any (adR kv (afD=k)))=agc alP
 | []=>rfl
 | p::r=>by
  rw[List.any_cons];rw[awZ]
  ·simp only[vm e,aMz,Bool.true_or,Option.isSome_some]
  ·rw[vn e,aMs,Bool.false_or]; exact FC k r
def rX aQU(v:V):ag4 awS (kvs.length+1):=by
 unfold putK;split
 ·rw[ahX zK]
 ·rw[List.length_append,zE,zF]; omega
def p6.nK{o:apV}{u:amZ}(r:p6 o u):o.isSome=u.isSome:=by
 cases o with
 | none=>cases u with
  | none=>rfl
  | some _=>exact(ajZ False).elim
 | some _=>cases u with
  | none=>exact(ajZ False).elim
  | some _=>rfl
def p6.getD{o:apV}{u:amZ}{d:V}{d':Value}(r:p6 o u)(rd:RelV d d'):RelV (o.getD d) (u.getD d'):=by
 cases o with
 | none=>cases u with
  | none=>exact rd
  | some _=>exact(ajZ False).elim
 | some _=>cases u with
  | none=>exact(ajZ False).elim
  | some _=>exact r
def KV.val aPX aN4:p6 alP aH9:=by
 unfold KV at r
 induction r with
 | nil=>exact True.intro
 | @cons p q ps qs h t ih =>
  rw[amv h]
  rw[ah3 p.1 k]
  ·rw[d9 e' (q.1=k) aAW b (t6 (aEL (q::qs)) q.2) (asY valueAt e')]
   rw[aeh (vm e) b h2]
  ·rw[alC e' (¬q.1=k) z (e (h1.trans z)) b (aEL (q::qs)=aEL qs) (asY valueAt e')]
   rw[aeh (vn e) b ih]
def KV.any aPX aN4:(kvs.any (adR kv (afD=k)))=vs.any (arK (afD=k)):=by
 unfold KV at r
 induction r with
 | nil=>rfl
 | cons h t ih=>rw[List.any_cons,List.any_cons,ih,h.1]
def KV.Wy aPX aN4 aQw aOU :
  KV (aoj kv (if afD=k then(afD,y) else kv)) (vs.map λ kv=>if afD=k then(afD,u) else kv):=by
 unfold KV at r ⊢
 induction r with
 | nil=>rw[akp]
 | @cons p q ps qs h t ih =>
  rw[zC,zC]
  refine aaT ?_ ih;rw[amv h]
  rw[ah3 p.1 k]
  ·rw[if_pos e,af5 aAW]; rw[aab h1 ry]
  ·rw[akU,apB z (e (h1.trans z))]; rw[aab h1 h2]
def KV.put aPX aN4 aQw aOU:KV (avh k y) (stored vs k u):=by
 unfold putK stored;rw[r.any k];rw[ahT e (vs.any (arK (afD=k)))]
 ·rw[aml e e];exact r.Wy k ry
 ·rw[aeh akU akU (Paired.snoc r (ah9 ry))]
def KV.drop aPX aN4:KV (vj kvs k) (without vs k):=by
 unfold KV at r ⊢;unfold vj without
 induction r with
 | nil=>rw[akp]
 | @cons p q ps qs h t ih =>
  rw[amv h];rw[List.filter_cons,List.filter_cons];rw[awZ]
  ·rw[d9 a (¬(b8 (ag8 (p.1≠k)))) (d7 e) b (¬(b8 (ag8 (q.1≠k)))) (d7 aAW)]
   rw[aeh (if_neg a) (if_neg b) ih]
  ·rw[alC e' (¬q.1=k) z (e (h1.trans z)) a (b8 (ag8 (p.1≠k))) (d7 e)]
   have b:b8 (ag8 (q.1≠k)):=d7 e'
   rw[aml a b]
   exact aaT ⟨h1,h2⟩ ih
def KV.length aPX:aM4:=aJS
def FD aQU:ag4 (vj kvs k) kvs.length:=List.length_filter_le _ _
universe zE
def rY aOl aOW aN1(r:aGT):b8 ((cH P w).is k u):=by
 cases k with
 | inl i=>rw[amf t (ajZ (∃t,u=azK))];rw[adL e (Fu P w i t)]
 | inr x=>rw[amf t (ajZ (∃t,u=azL))];rw[adL e (Fv P w x t)]
def CU aOl:∀{ks:ajX}aOK,asG aF6->ItemsAre (cH P w) ks us
 | [],_,r=>by rw[zD] at r; cases r; rw[akp]
 | k::ks,_,r=>by
  rw[zC] at r;cases r with
  | cons h t=>exact aaT (rY h) (CU t)
noncomputable abbrev KT aNz:anQ->adj awa:=Paired λ p q=>p.1=q.1/\H q.2.1=apy (p.1.map kV)/\RelV p.2 q.2.2
def KT.val aNu aPk aRo(k:ajX):p6 alP (amt (aIe).map):=by
 induction r with
 | nil=>exact True.intro
 | @cons p q ps qs h t ih =>
  obtain⟨h1,_,h2⟩:=h;rw[awZ]
  ·rw[d9 e' (q.1=k) aAW b (t6 (atKey (q::qs) k) q.2) (asY atKey e')]
   rw[aeh (vm e) b h2]
  ·rw[alC e' (¬q.1=k) z (e (h1.trans z)) b (atKey (q::qs) k=atKey qs k) (asY atKey e')]
   rw[aeh (vn e) b ih]
def KT.Wy aNu aPk aRo(k:ajX)aQw aOU :
  KT H (aoj kv (if afD=k then(afD,y) else kv)) (xs.map (putAt k u)):=by
 induction r with
 | nil=>rw[akp]
 | @cons p q ps qs h t ih =>
  rw[zC,zC]
  refine aaT ?_ ih;obtain⟨h1,h2,h3⟩:=h;unfold putAt;rw[awZ]
  ·rw[if_pos e,af5 aAW]; rw[Lb h1 h2 ry]
  ·rw[akU,apB z (e (h1.trans z))]; rw[Lb h1 h2 h3]
def KT.put aNu aPk aRo(k:ajX){b:Addr}aQw(hb:H b=aCV)aOU :
  KT H (avh k y) (storedH xs k b u):=by
 have e:(kvs.any (adR kv (afD=k)))=agc aIe:=by
  rw[FC,(r.val k).nK,Option.isSome_map]
 unfold putK storedH;rw[e]
 by_cases q:aky aIe
 ·rw[aml q q];exact r.Wy k ry
 ·rw[aeh (if_neg q) (if_neg q) (Paired.snoc r ⟨rfl,hb,ry⟩)]
def KT.keeps{H H':Hp}aPk aRo(ht:∀b ys,H b=apy ys->alW=apy ys):awr H' :=
 Paired.NY r λ _ _ z=>⟨z.1,ht _ _ z.2.1,z.2.2⟩
section
variable {P:Program} {w:World} {H:Hp} {h:Heap} {a:Addr}
def U5{u:HO}aPn(e:Rd H a u):iu P w H h a u:=e.ok ok
def vo aPE aPn(e:aw3 .dK):asK/\ar3/\∃vs,amx/\h.DictOf (cH P w) a vs :=
 show iu P w H h a (.dK kvs) from U5 ok e
def vp aPE aPn aPV:asK/\ar3/\∃vs,amx/\h.DictOf (cH P w) a vs:=vo ok (b4 e)
def uC{ks:ajX}aPn(e:H a=apy aF6):(tupleKind (cH P w)).is h ks a:=by
 obtain⟨_,bN,r,o,h1,h2,n,h3⟩:=(show iu P w H h a (f9 aF6) from ok a _ e)
 exact⟨o,bN.toArray,n,h1,h2,h3,aaF (CU r)⟩
def xX aPk aPn(e:aw3 .dT):asK/\ar3 ∧
  aw2 (awr H) (h.DictOfH (tupleKind (cH P w)) a xs):=by
 obtain⟨z,y,xs,r,o,es,ep,h1,h2,h3,h4,h5⟩:=(show iu P w H h a (.dT kvs) from U5 ok e)
 refine⟨z,y,xs,r,o,es,ep,h1,h2,h3,h4,ab7 x hx,h5⟩
 rw[ajE all (∀{l:anQ}{m:awa},KT H l m->anZ m ((tupleKind (cH P w)).is h x.1 x.2.1)) (by
  intro l m q
  induction q with
  | nil=>intro x hx; exact nomatch hx
  | @cons p q ps qs hq t ih =>
   intro x hx;rcases aL6 with e | hx
   ·rw[adL e (uC ok (by rw[abQ hq.1 hq.2.1]))]
   ·exact ih x hx) (all r x hx)]
def Zy aPk aPn aRM:asK/\ar3 ∧
  aw2 (awr H) (h.DictOfH (tupleKind (cH P w)) a xs):=xX ok (b4 e)
universe zE
abbrev rZ aPJ(y:V)(r:apV):Prop :=
 (∃kvs k,aw3 .dK/\y=akD/\r=alP)\/∃kvs k b,aw3 .dT/\y=Δ b/\H b=aCV/\r=alP
abbrev DK aPJ(y v:V)(H':Hp):Prop :=
 (∃kvs k,H a=alZ/\y=akD/\aFd/\H'=aiP a .dK awS) ∨
 ∃kvs k b,H a=aAg/\y=Δ b/\H b=aCV/\aFd/\H'=aiP a .dT awS
def rZ.k aNu aNx aPE aOW aPV:rZ H a akD alP:=b4 (aa9 kvs k (b4 e) rfl)
def rZ.t aQS aPk{k:ajX}aRM(eb:H b=aCV):rZ H a (Δ b) alP:=b9 ⟨kvs,k,b,b4 e,rfl,eb,rfl⟩
def DK.k aNu aNx aPE aOW aNI aPV(hl:aFd):DK H a akD v (aiP a .dK awS):=b4 (auK kvs k e hl rfl)
def DK.t aQS aPk{k:ajX}aNI aRM(eb:H b=aCV)(hl:aFd) :
  DK H a (Δ b) v (aiP a .dT awS):=b9 ⟨kvs,k,b,e,rfl,eb,hl,rfl⟩
section
variable {X:Cx} {pins:x8} {σ:St} {H:Hp} {s:Shared} {a:Addr} {y v:V} {u r:Value} {o:apV} {A:Around} {E:abP}
def Inv.big aNa:ava sysModules:=by
 rw[ajE h (ava mainGlobals) (aJo).lt (Nat.lt_trans d6 h)]
def Lu aNN aSr(g:rZ H a y aeJ)aOU(h:∀w' s',arJ->aBV v->aIt) :
  aes (model X.prog X.w) A (getItem (Δ a) u) Q E:=by
 rcases g with⟨kvs,k,e,ey,l⟩ | ⟨kvs,k,b,e,ey,eb,l⟩
 ·subst ey;obtain⟨z,hd,vs,rel,dd⟩:=vo I.cR e;rw[aq7 w' hw B8 (p6.zk (v:=v) (o:=aH9) (by rw[Ω l amd])) (wpAny_getItem_of (rY ry) dd.mapOf hw (h w' _ afl B8))]
 ·subst ey;cases (ahG u (Value.ref b) ry)
  obtain⟨z,hd,xs,rel,dd⟩:=xX I.cR e;obtain⟨w',hw,B8⟩:=p6.zk (v:=v) (o:=amt (aIe).map) (by rw[Ω l amd]);rw[ana p hp Lv (Option.map_eq_some_iff.mp hw) (wpAny_getItem_heap axd azl dd hp ?_)];rw[Ω Lv (h w' _ afl B8)]
def adh aNN aRQ aOU(h:∀s',arJ->Q (aiW o.isSome) s') :
  aes (model X.prog X.w) A (compareOp .In u (Δ a)) Q E:=by
 rcases g with⟨kvs,k,e,ey,l⟩ | ⟨kvs,k,b,e,ey,eb,l⟩
 ·subst ey;rw[al6 z hd vs rel dd (vo I.cR e) (wpAny_in_of (rY ry) hd dd.mapOf ?_)];rw[aq5 (amd).nK l (h _ afl)]
 ·subst ey;cases (ahG u (Value.ref b) ry)
  rw[al6 z hd xs rel dd (xX I.cR e) (wpAny_in_heap axd azl hd dd ?_)];rw[adS q (amd).nK Option.isSome_map q]
  rw[aq5 q l (h _ afl)]
def Sj aNN aRQ aOU(h:∀s',arJ->Q (aiW (! o.isSome)) s') :
  aes (model X.prog X.w) A (compareOp .NotIn u (Δ a)) Q E:=by
 rcases g with⟨kvs,k,e,ey,l⟩ | ⟨kvs,k,b,e,ey,eb,l⟩
 ·subst ey;rw[al6 z hd vs rel dd (vo I.cR e) (wpAny_notIn_of (rY ry) hd dd.mapOf ?_)];rw[aq5 (amd).nK l (h _ afl)]
 ·subst ey;cases (ahG u (Value.ref b) ry)
  rw[al6 z hd xs rel dd (xX I.cR e) (wpAny_notIn_heap axd azl hd dd ?_)];rw[adS q (amd).nK Option.isSome_map q]
  rw[aq5 q l (h _ afl)]
def vq aQ1 aOF{ob:HO}aNa(mu:Y0 (H a))(hs:Heap.SameBut a s.heap h')(he:∃q,t6 (h'.get? a) q)(new:iu X.prog X.w (upd H a ob) h' a ob) :
  aeC (upd H a ob) (ahE s h' t') :=
 I.write (x:=a) (e:=a) mu (b4 rfl) (λ b q hb z=>x9 (hs.2 b hb) z) he new
def DL aOl{H':Hp}aQ1 aPE{vs:axX}(z:asK)(hd:ar3)(rel:amx)(dd:h'.DictOf (cH P w) a vs) :
  iu P w H' h' a (.dK kvs):=⟨z,hd,vs,rel,dd⟩
def Lw{H':Hp}aPO aSr(g:DK H a y v H')aOU(rv:RelV v r)(h:∀s',atN->Q () s') :
  aes (model X.prog X.w) A (setItem (Δ a) u r) Q E:=by
 rcases g with⟨kvs,k,e,ey,l,eH⟩ | ⟨kvs,k,b,e,ey,eb,l,eH⟩
 ·subst ey eH;obtain⟨z,hd,vs,rel,dd⟩:=vp I.cR e
  rw[ajs hz aKb (by rw[aEJ z]) hl (afi (acL awS)) (by rw[aeq (rX kvs k v)]) (wpAny_setItem_pairs (hsz:=hz) (rY ry) dd λ h' Lx hs=>h _ ?_)];have he:∃q,t6 (h'.get? a) q:=let⟨q,_,_,hq,_⟩:=Lx; aDm;exact vq I (by rw[azJ]) hs he (DL hl hd (rel.put k rv) Lx)
 ·subst ey eH;cases (ahG u (Value.ref b) ry)
  obtain⟨z,hd,xs,rel,dd⟩:=Zy I.cR e
  rw[ajs hz aq4 (by rw[abQ (Paired.length rel) z]) hl (afi (acL awS)) (by rw[aeq (rX kvs k v)]) (wpAny_setItem_heap (hsz:=hz) axd azl dd λ h' Lx hs=>h _ ?_)];obtain⟨q,es,ep,hq,h2,h3,h4,_,h5⟩:=Lx;refine vq I (by rw[azJ]) hs aDm ⟨hl,hd,_,(rel.put k eb rv).keeps (NV c ys ec),q,es,ep,hq,h2,h3,h4,h5⟩;rw[ab9 (YZ ec e (λ z=>nomatch z)) ec]
universe zE
section
variable {X:Cx} {pins:x8} {σ:St} {H:Hp} {s:Shared} {a:Addr} {kvs:agP} {k:Key} {u:Value} {A:Around} {E:abP}
def YN aPO aNa aPV(ry:aGT)(l:aky alP)(h:∀s',aeC (aiP a .dK (vj kvs k)) s'->Q () s') :
  aes (model X.prog X.w) A (delItem (Δ a) u) Q E:=by
 rw[al6 z hd vs rel dd (vp I.cR e) (wpAny_delItem_slot dd.typeIs d6 PySem.F.slot_dict_delitem
  (call_meetsIn PySem.F.slot_dict_delitem dd.typeIs PySem.F.entry_dict_delitem (PySem.F.args_dict_delitem_2 _ _) (meets_dict_delitem_pairs ajz a (rY ry)) ⟨vs,dd,by rw[aEJ z],by rw[abQ (amd).nK l],λ h' Lx hs=>h _ ?_⟩))]
 have he:∃q,t6 (h'.get? a) q:=let⟨q,_,_,hq,_⟩:=Lx; aDm;exact vq I (by rw[azJ]) hs he (DL (aq2 (FD kvs k) z) hd (rel.drop k) Lx)
def U6 aNI{more:x6}aNN aNa aPV(ry:aGT)(l:alP=aeJ)(hm:more=[]\/∃x,more=[x])
  (h:∀w' s',aeC (aiP a .dK (vj kvs k)) s'->aBV v->aIt):aes (model X.prog X.w) A (call (adX "dict.pop") (Δ a::u::more)) Q E:=by
 obtain⟨z,hd,vs,rel,dd⟩:=vp I.cR e;obtain⟨w',hw,B8⟩:=p6.zk (v:=v) (o:=aH9) (by rw[abQ l amd])
 rw[ajs hp (aky (keyPart u)) (by
  cases k with
  | inl i=>obtain⟨t,q⟩:=(show ∃t,u=azK from ry);subst q;rfl
  | inr x=>obtain⟨t,q⟩:=(show ∃t,u=azL from ry);subst q;rfl) ha (argsOk "dict.pop" (aiQ (Δ a::u::more))) (by
  rcases hm with q | ⟨x,q⟩
  ·rw[adL q (PySem.F.args_dict_pop_2 _ _)]
  ·rw[adL q (PySem.F.args_dict_pop_3 _ _ _)]) (call_meetsIn PySem.F.slot_dict_pop dd.typeIs PySem.F.entry_dict_pop ha (meets_dict_pop_there ajz a (rY ry) more hm hp)
  ⟨vs,w',dd,by rw[aEJ z],hw,λ h' Lx hs=>h w' _ ?_ B8⟩)]
 have he:∃q,t6 (h'.get? a) q:=let⟨q,_,_,hq,_⟩:=Lx; aDm;exact vq I (by rw[azJ]) hs he (DL (aq2 (FD kvs k) z) hd (rel.drop k) Lx)
def Wz{r:Value}aNN aNa aPV(ry:aGT)(l:YW alP)(h:∀s',arJ->Q r s') :
  aes (model X.prog X.w) A (call (adX "dict.pop") [Δ a,u,r]) Q E:=by
 obtain⟨z,hd,vs,rel,dd⟩:=vp I.cR e;rw[d9 hn (YW aH9) (p6.none_of (by rw[abQ l amd])) hp (aky (keyPart u)) (by
  cases k with
  | inl i=>obtain⟨t,q⟩:=(show ∃t,u=azK from ry);subst q;rfl
  | inr x=>obtain⟨t,q⟩:=(show ∃t,u=azL from ry);subst q;rfl)]
 exact call_meetsIn PySem.F.slot_dict_pop dd.typeIs PySem.F.entry_dict_pop (PySem.F.args_dict_pop_3 _ _ _) (meets_dict_pop_default ajz a (rY ry) hd hp r) ⟨vs,dd,hn,h _ afl⟩
def Zz aNN aNa(e:aw3 .dK)(h:∀t s',arJ->Q (η kvs.length t) s'):aes (model X.prog X.w) A (call (adX "len") [Δ a]) Q E:=by
 rw[al6 z hd vs rel dd (vo I.cR e) (call_len_dict hd dd (by rw[← rel.length]; rw[sizeLine_eq] at z;omega) ?_)];rw[aEJ (h _ _ afl)]
universe zE
def FE aPK aNx{y:V}{o:apV}aNa(g:aDC):s.TypeIs (Δ a) "dict" := by
 rcases g with⟨kvs,k,e,_,_⟩ | ⟨kvs,k,b,e,_,_,_⟩
 ·obtain⟨_,_,vs,_,dd⟩:=vo I.cR e;exact dd.typeIs
 ·obtain⟨_,_,xs,_,dd⟩:=xX I.cR e;exact dd.typeIs
section
variable {X:Cx} {o i e value:Expr} {pos pos' B7:Pos} {td ty tv:TE}
universe zE
def FG aOl aNu aOT(hb:sysModules<h.objs.size):iu P w H (h.push (alo aHH (.dict #[]))) h.objs.size (.dK []) :=
 ⟨aog,beq_eq_false_iff_ne.mpr (Ne.symm (Nat.ne_of_lt hb)),[],abT,Heap.DictOf.new h⟩
abbrev WA:TE:=λ _ H Q=>∀p,akt->Q (Δ p) (aiP p .dK [])
section
variable {X:Cx} {pos:Pos}
def Oe:adz (.Dict [] [] pos) WA:=λ pins s σ H Q I h =>
 wpAny_Dict_empty (aa9 aii _ (I.laid (a:=s.heap.objs.size) (o:=.dK []) (t':=s.toks) (λ _ _ q=>afR q) ack (FG s.heap I.big)) (h _ (akM ack)))
universe zE
abbrev DN:aCK->St->Hp->aqJ (ai4 (ae5 V V))
 | [],_,H,Q=>Q [] H
 | (tk,tv)::r,σ,H,Q=>tk σ H (acF x (tv σ H1 (ahP y (DN r σ H2 λ ps H3=>Q ((x,y)::ps) H3))))
noncomputable abbrev VV:ae5 V V->adj (ae5 Value Value):=Paired λ p q=>RelV p.1 q.1/\RelV p.2 q.2
abbrev ZA aNo(pos:Pos)(keys:aBL)(values:ab5)(Sk:aCK):Prop :=
 ∀aNQ(Q:ai4 (ae5 V V)),z0->DN Sk σ H Q →
  ads (evalPairs (pairTrees keys values X.env pos)) (λ vs s'=>∃ps H',atN/\VV ps vs/\ajl ps) s
def Sn aNF aOD:ZA X pos [] [] []:=λ pins s σ H Q I h=>pairTrees_nil_walk ⟨[],H,I,abT,h⟩
def Of aNF aOD{k v:Expr}{ks:aBL}{vs:ab5}{tk tv:TE}{Sk:aCK}(hk:adz k tk)(hv:adz v tv)(hr:ZA X pos ks vs Sk) :
  ZA X pos (aeK::ks) (v::vs) ((tk,tv)::Sk):=λ pins s σ H Q I h =>
 pairTrees_cons_walk (afu (hk pins s σ H _ I h) u s1 ⟨x,H1,I1,rx,q1⟩ (fO (hv pins s1 σ H1 _ I1 q1) λ w2 s2 ⟨y,H2,I2,ry,q2⟩ =>
  afu (hr pins s2 σ H2 _ I2 q2) ws s3 ⟨ps,H3,I3,rel,q3⟩ ⟨(x,y)::ps,H3,I3,aaT ⟨rx,ry⟩ rel,q3⟩))
abbrev qF(kvs more:agP):agP:=more.foldl (λ acc kv=>putK acc afD kv.2) kvs
def KV.merge:∀{more:agP}{rs:axX}aPE{vs:axX},KV more rs->amx->KV (qF kvs more) (merged vs rs):=by
 intro more rs kvs vs r;unfold KV at r
 induction r generalizing kvs vs with
 | nil=>intro q;exact q
 | @cons p q ps qs h t ih =>
  intro r0
  rw[ajE e (KV (avh p.1 p.2) (stored vs q.1 q.2)) (by
   have:=r0.put p.1 h.2;rw[abQ h.1 this]) (ih e)]
def ub:∀(more kvs:agP),ag4 (qF kvs more) (kvs.length+more.length)
 | [],kvs=>by show kvs.length≤kvs.length+0;omega
 | p::r,kvs=>by
  rw[ain (ub r (avh p.1 p.2)) (rX kvs p.1 p.2)];show ag4 (qF (avh p.1 p.2) r) _;rw[ahX zE]
def zX aOl:∀aPE{ws:ae5 Value Value},VV (aoj kv (kV afD,kv.2)) ws->∃rs,Carries (cH P w) ws rs/\KV kvs rs
 | [],_,r=>by rw[zD] at r; cases r; rw[Lb [] True.intro abT]
 | p::kvs,_,r=>by
  rw[zC] at r;cases r with
  | @cons a b as bs h t =>
   obtain⟨rs,c,q⟩:=zX (P:=P) (w:=w) t;rw[afF b1 b2 b ⟨(p.1,b2)::rs,afT (rY h.1) c,azy h.2 q⟩]
abbrev ZB(Sk:aCK):TE:=ahL (∀p,akt->DN Sk σ (aiP p .dK []) (ahP ps (H2 p=aa2 .dK []/\∃kvs:agP,ps=kvs.map (λ kv=>(kV afD,kv.2))/\kvs.length≤15/\Q (Δ p) (af3 H2 p (.dK (qF [] kvs))))))
def So aNF aOD{keys:aBL}{values:ab5}{Sk:aCK}(h:ZA X pos keys values Sk)(Og:b8 aL1)(hl:aM5)(h0:agx keys)
  (h15:keys.length≤15):ar6 .Dict keys values (ZB Sk):=by
 intro pins s σ H Q I q;rw[aos hn (akM (Nat.le_refl s.heap.objs.size)) I1 (I.laid (a:=s.heap.objs.size) (o:=.dK []) (h':=s.heap.push { cls:=aHH,data:=.dict #[] }) (t':=s.toks) (λ _ _ q=>afR q) ack (FG s.heap I.big)) (wpAny_Dict_walk (knd:=ajz) Og hl h0 h15 (agB (h pins _ σ _ _ I1 (q _ hn)) ws s2 ⟨ps,H2,I2,rel,e,kvs,ep,lk,q2⟩))];subst ep;obtain⟨rs,c,rk⟩:=zX (P:=X.prog) (w:=X.w) rel;obtain⟨z,hd,vs0,r0,dd⟩:=vp I2.cR e;cases r0;rw[an1 rs c dd (λ h' Lx hs=>aa9 aii _ ?_ q2)]
 have hz:afi (acL (qF [] kvs)):=by
  rw[adS h1 (ub kvs []) zF h1];rw[ahX sizeLine_eq]
 have he:∃q,t6 (h'.get? s.heap.objs.size) q:=let⟨q,_,_,hq,_⟩:=Lx; aDm;exact vq I2 (by rw[azJ]) hs he (DL hz hd (rk.merge abT) Lx)
structure M1 aNo(o:Expr)(m:Str)(apos:Pos)aP0(cW:Pos):Prop where
 base:am4 o m ag1=ag1
 qA:aey ((arL [e]).all (λ x=>! x.1) && (aIk).all (λ x=>x.1.isSome)
  && an8 (ahb ([e]:ab5)+ahb ([]:aq6)+(if ([]:aq6).isEmpty then 0 else 1)) 30)
 line:ap5
 trees:arL [e]=[aku]
structure M2 aNo(o:Expr)(m:Str)(apos:Pos)(e f:Expr)(cW:Pos):Prop where
 base:am4 o m ag1=ag1
 qA:aey ((arL [e,f]).all (λ x=>! x.1) && (aIk).all (λ x=>x.1.isSome)
  && an8 (ahb ([e,f]:ab5)+ahb ([]:aq6)+(if ([]:aq6).isEmpty then 0 else 1)) 30)
 line:ap5
 trees:arL [e,f]=[aku,avd f]
abbrev WB aPJ:Prop:=(∃kvs,aw3 .dK)\/∃kvs,aw3 .dT
def wH aPK aNx aNa(d:WB H a) :
  s.TypeIs (Δ a) "dict" /\ (∀b,aol=Δ b->∃ob,apL ob/\YW ob.dict)/\ar3:=by
 rcases d with⟨kvs,e⟩ | ⟨kvs,e⟩
 ·obtain⟨_,hd,vs,_,dd⟩:=vo I.cR e;rw[ab8 dd.typeIs (ab7 b q) hd];cases q;obtain⟨ob,_,_,h1,h2,_⟩:=dd;rw[Lb ob h1 h2.2.1]
 ·obtain⟨_,hd,xs,_,dd⟩:=xX I.cR e;rw[ab8 dd.typeIs (ab7 b q) hd];cases q;obtain⟨ob,_,_,h1,h2,_⟩:=dd;rw[Lb ob h1 h2.2.1]
section
variable {X:Cx} {pins:x8} {σ:St} {H:Hp} {s:Shared} {a:Addr} {y d:V} {u r:Value} {o:apV} {A:Around} {E:abP}
def WC aNN aRQ aOU(h:∀w' s',arJ->aBV (o.getD .bh)->aIt) :
  aes (model X.prog X.w) A (call (adX "dict.get") [Δ a,u]) Q E:=by
 rcases g with⟨kvs,k,e,ey,l⟩ | ⟨kvs,k,b,e,ey,eb,l⟩
 ·subst ey;rw[al6 z hd vs rel dd (vo I.cR e) (call_meetsIn PySem.F.slot_dict_get dd.typeIs PySem.F.entry_dict_get (aLF _) (meets_dict_get ajz a (rY ry) hd) (apc dd.mapOf (h _ _ afl ?_)))];rw[aeN l ((amd).getD rfl)]
 ·subst ey;cases (ahG u (Value.ref b) ry)
  rw[al6 z hd xs rel dd (xX I.cR e) (call_meetsIn PySem.F.slot_dict_get dd.typeIs PySem.F.entry_dict_get (aLF _) (meetsH_dict_get (tupleKind ajz) a b hd) ⟨axd,k,xs,azl,dd,h _ _ afl ?_⟩)]
  rw[aeN l ((amd).getD rfl)]
def WD aNN aRQ aOU(rd:RelV d r)(h:∀w' s',arJ->aBV (o.getD d)->aIt) :
  aes (model X.prog X.w) A (call (adX "dict.get") [Δ a,u,r]) Q E:=by
 rcases g with⟨kvs,k,e,ey,l⟩ | ⟨kvs,k,b,e,ey,eb,l⟩
 ·subst ey;rw[al6 z hd vs rel dd (vo I.cR e) (call_meetsIn PySem.F.slot_dict_get dd.typeIs PySem.F.entry_dict_get (PySem.F.args_dict_get_3 _ _ _) (meets_dict_get_default ajz a (rY ry) hd r) (apc dd.mapOf (h _ _ afl ?_)))];rw[aeN l ((amd).getD rd)]
 ·subst ey;cases (ahG u (Value.ref b) ry)
  rw[al6 z hd xs rel dd (xX I.cR e) (call_meetsIn PySem.F.slot_dict_get dd.typeIs PySem.F.entry_dict_get (PySem.F.args_dict_get_3 _ _ _) (meetsH_dict_get_default (tupleKind ajz) a b hd r) ⟨axd,k,xs,azl,dd,h _ _ afl ?_⟩)]
  rw[aeN l ((amd).getD rd)]
universe zE
abbrev WE(td ty:TE):TE:=ahL (td σ H (acF x (∃a,x=Δ a/\WB H1 a/\ty σ H1 (ahP y (∃o,rZ H2 a y o/\Q (o.getD .bh) H2)))))
abbrev WG(td ty tx:TE):TE:=ahL (td σ H (acF x (∃a,x=Δ a/\WB H1 a/\ty σ H1 (ahP y (tx σ H2 λ z H3=>∃o,rZ H3 a y o/\Q (o.getD z) H3)))))
abbrev WH(td ty:TE):TE:=ahL (td σ H (acF x (∃a,x=Δ a/\WB H1 a/\ty σ H1 (ahP y (∃kvs k v,H2 a=alZ/\y=akD/\alP=aeJ/\Q v (af3 H2 a (.dK (vj kvs k))))))))
abbrev WI(td ty tx:TE):TE:=ahL (td σ H (acF x (∃a,x=Δ a/\WB H1 a/\ty σ H1 (ahP y (tx σ H2 λ z H3=>∃kvs k,H3 a=alZ/\y=akD ∧
 (∀v,alP=aeJ->Q v (af3 H3 a (.dK (vj kvs k))))/\(YW alP->Q z H3))))))
section
variable {X:Cx} {o e f:Expr} {apos cW:Pos} {td ty tx:TE}
def Oh aSJ aRt(m:M1 X o "get" apos e cW):azi aGn [e] (WE td ty):=by
 intro pins s σ H Q I h;refine wpAny_Call_method m.base m.qA m.line PySem.F.plainAttrs_dict PySem.F.slot_dict_get PySem.F.type_dict_get (auJ u ⟨x,H1,I1,rx,a,ex,d,q1⟩);subst ex;obtain rfl:u=aol:=rx;obtain⟨t1,t2,_⟩:=wH I1 d;rw[ab8 t1 t2 ?_];rw[m.trees];rw[ant (aAx rfl (au5 (afu aIx iv s2 ⟨y,H2,I2,ry,ov,g,q2⟩ (Calls.spliced_nil ?_)))) (WC hu I2 g ry λ w' s3 I3 B8=>⟨_,H2,I3,B8,q2⟩)]
def Oi aSJ aRt(hf:adz f tx)(m:M2 X o "get" apos e f cW):azi aGn [e,f] (WG td ty tx):=by
 intro pins s σ H Q I h
 refine wpAny_Call_method m.base m.qA m.line PySem.F.plainAttrs_dict PySem.F.slot_dict_get PySem.F.type_dict_get (auJ u ⟨x,H1,I1,rx,a,ex,d,q1⟩)
 subst ex
 obtain rfl:u=aol:=rx;obtain⟨t1,t2,_⟩:=wH I1 d
 rw[ab8 t1 t2 ?_];rw[m.trees]
 rw[ant (aAx rfl (au5 (fO aIx λ iv s2 ⟨y,H2,I2,ry,q2⟩ =>
  au5 (afu (hf pins s2 σ H2 _ I2 q2) fv s3 ⟨z,H3,I3,rz,ov,g,q3⟩ (Calls.spliced_nil ?_))))) (WD hu I3 g ry rz λ w' s4 I4 B8=>⟨_,H3,I4,B8,q3⟩)]
def Oj aRt(m:M1 X o "pop" apos e cW):azi aGo [e] (WH td ty):=by
 intro pins s σ H Q I h;refine wpAny_Call_method m.base m.qA m.line PySem.F.plainAttrs_dict PySem.F.slot_dict_pop PySem.F.type_dict_pop (auJ u ⟨x,H1,I1,rx,a,ex,d,q1⟩);subst ex;obtain rfl:u=aol:=rx;obtain⟨t1,t2,_⟩:=wH I1 d;rw[ab8 t1 t2 ?_];rw[anI m.trees (aAx rfl (au5 (afu aIx iv s2 ⟨y,H2,I2,ry,kvs,k,v,ea,ey,l,q2⟩ (Calls.spliced_nil ?_))))];rw[adL ey (U6 I2 ea ry l (b4 rfl) λ w' s3 I3 B8=>⟨v,_,I3,B8,q2⟩)]
def Ol aRt(hf:adz f tx)(m:M2 X o "pop" apos e f cW):azi aGo [e,f] (WI td ty tx):=by
 intro pins s σ H Q I h
 refine wpAny_Call_method m.base m.qA m.line PySem.F.plainAttrs_dict PySem.F.slot_dict_pop PySem.F.type_dict_pop (auJ u ⟨x,H1,I1,rx,a,ex,d,q1⟩)
 subst ex
 obtain rfl:u=aol:=rx;obtain⟨t1,t2,_⟩:=wH I1 d
 rw[ab8 t1 t2 ?_]
 rw[anI m.trees (aAx rfl (au5 (fO aIx λ iv s2 ⟨y,H2,I2,ry,q2⟩ =>
  au5 (afu (hf pins s2 σ H2 _ I2 q2) fv s3 ⟨z,H3,I3,rz,kvs,k,ea,ey,q3,q4⟩ (Calls.spliced_nil ?_)))))]
 subst ey;cases l:alP with
 | some v=>exact U6 I3 ea ry l (b9 (akG fv)) λ w' s4 I4 B8=>⟨v,_,I4,B8,q3 v l⟩
 | none=>exact Wz I3 ea ry l λ s4 I4=>⟨z,H3,I4,rz,q4 l⟩
universe zE
section
variable {X:Cx} {pins:x8} {σ:St} {H:Hp} {s:Shared} {a:Addr} {kvs:agP} {A:Around} {E:abP}
universe zE
section
variable {X:Cx} {pins:x8} {σ:St} {H:Hp} {s:Shared} {a:Addr} {y:V} {u:Value} {A:Around} {E:abP}
universe zE
universe L2
namespace HT
open PySem PyProof.Rows
section
open PySem.SeqAt
open PySem.AutoSeq1 (wpAny_loadPart')
open PySem.MeetsSeq PySem.MeetsSeq2 PySem.MeetsSeq3
universe zE
section
variable {prog:Program} {w:World} {A:Around} {E:abP} {s:Shared}
def Sq{t b:Addr}{vs ws:x6}aNN(ht:aEX t vs.toArray)(hb:aEX b ws.toArray)(hv:agx vs)
  (h1:ws=[]->Q (Δ t) s)(h2:agx ws->Q aii (ahB s (s.heap.push { cls:=ap7,data:=ahx (vs++ws).toArray })))
  (hsz:afi (vs.length+ws.length)):ao9 (binaryOp .Add (Δ t) (Δ b)):=by
 obtain⟨⟨cls,dd,data,sl⟩,ho,hc,n,hd⟩:=id ht;obtain⟨⟨agp,ZC,data2,sl2⟩,NL,hc2,n2,Sr⟩:=id hb;simp only at hc hd hc2 Sr;subst hc hd hc2 Sr
 have e:vs.toArray++ws.toArray=asq (vs++ws):=Ξ
 by_cases hw:ws=[]
 ·exact concat_meets (alN ho) (alN NL) noFill_tuple_add seq_tuple_add PySem.F.slot_tuple_add PySem.F.entry_tuple_add (aLA _)
   (tuple_addW1 t b vs.toArray ws.toArray n n2 dd ZC sl sl2 (aaF hv) (d7 hw)) ⟨ho,NL,h1 hw⟩
 ·refine concat_meets (alN ho) (alN NL) noFill_tuple_add seq_tuple_add PySem.F.slot_tuple_add PySem.F.entry_tuple_add (aLA _)
   (tuple_addW2 t b vs.toArray ws.toArray n n2 dd ZC sl sl2 (aaF hv) (aaF hw) (by rw[aJr]; exact hsz)) ⟨ho,NL,?_⟩
  rw[alL (h2 hw)]
abbrev lh(n d:Nat):acG->Nat
 | none=>d
 | aeJ=>if v<0 then ah4 (v+afp) else min v.toNat n
def zY(n d:Nat):lh n d none=d:=rfl
def JK(n d k:Nat):lh n d (aBd k)=min k n:=by
 show(if auj<0 then ah4 (auj+afp) else min (auj).toNat n)=min k n;rw[aAQ (if_neg b6)]
def WJ(n d:Nat)(hd:d≤n)(o:acG):lh n d o≤n:=by
 cases o with
 | none=>exact hd
 | some v =>
  show(if v<0 then ah4 (v+afp) else min v.toNat n)≤n;by_cases hv:v<0
  ·rw[ahX (if_pos hv)]
  ·rw[asO hv (Nat.min_le_right _ _)]
def JL(v:Int)(n d:Nat):(if v<0 then max (v+afp) 0 else min v afp)=afh (lh n d aeJ):=by
 show(if v<0 then max (v+afp) 0 else min v afp)=afh (if v<0 then ah4 (v+afp) else min v.toNat n);by_cases hv:v<0
 ·simp only[if_pos hv];omega
 ·simp only[if_neg hv];omega
def HR aPi aNd:Builtin.Slice.sliceAdjust lo hi 1 afp=(afh (lh n 0 lo),afh (lh n n hi)):=by
 have h1:¬(ar8<0):=b6
 unfold Builtin.Slice.sliceAdjust
 simp only[h1,if_false];refine Prod.ext ?_ ?_
 ·cases lo with
  | none=>rfl
  | some v=>exact JL v n 0
 ·cases hi with
  | none=>rfl
  | some v=>exact JL v n n
def HS(i j:Nat):aIZ aDd (aae j)=j-i:=by
 unfold Builtin.Slice.slicePlaces
 have h1:ar8 > 0:=b6
 simp only[h1,if_true,Int.ediv_one];split<;>omega
def zZ aQ0{o:acG}{Q:acG->am0}(p:IsPart v o)(h:Q o s):ao9 (Builtin.Slice.slicePartIndex v):=by
 cases p with
 | none=>exact slicePart_none h
 | int i t=>exact slicePart_int h
def wI{sl:Addr}aUs aM9{Q:Int×Int×Nat->am0}aTn(pu:IsPart vu hi)
  (h:Q (afh (lh n 0 lo),1,lh n n hi-lh n 0 lo) s):ao9 (Builtin.Slice.sliceApplied (Δ sl) (pure afp)):=by
 obtain⟨os,ZD,hcs,hds⟩:=id hs;unfold Builtin.Slice.sliceApplied Builtin.Slice.sliceFields;rw[adY (adi (adi (wpAny_field ZD hds (x:=vl) rfl (adi (wpAny_field ZD hds (x:=vu) rfl (adi (wpAny_field ZD hds (x:=aaY) rfl apz))))))) (adi (slicePart_none ?_))];show aes _ _ (ahi (ar8 == 0) _ _) _ _
 rw[afZ d6];refine adi (zZ pl (adi (zZ pu (adi apz))))
 show aes _ _ (match Builtin.Slice.sliceAdjust lo hi 1 afp with | (lo,hi)=>pure (lo,ar8,aIZ lo hi)) _ _
 rw[HR lo hi n];rw[as8 (aes _ _ (pure (afh (lh n 0 lo),ar8,aIZ (afh (lh n 0 lo)) (afh (lh n n hi)))) _ _) HS aAP]
def Om(xs:asT)(i k:Nat):asq ((List.range k).filterMap (aCQ m xs[(ah4 (aDd+anR*1))]?))=asq ((xs.toList.drop i).take k):=by
 have e:(aCQ m xs[(ah4 (aDd+anR*1))]?)=λ m=>xs[i+m]? := by
  funext m
  rw[aAh (ah4 (aDd+anR*1)=i+m) b6]
 rw[e];rw[aiL (pick_run xs i k) List.filterMap_map];have e2:((λ x=>xs[x]?) ∘ λ x=>i+x)=λ m=>xs[i+m]? := rfl;rw[e2] at this;rw[this]
def vv{t sl:Addr}{items:asT}aUs aNN(ht:aEX t items)aTn(pu:IsPart vu hi)
  (hw:¬(amH=0/\atJ=items.size))
  (h:Q aii (ahB s (s.heap.push { cls:=ap7,data:=ahx ((items.toList.drop amH).take (atJ-amH)).toArray })))
  (hsz:afi items.size):ao9 (getItem (Δ t) (Δ sl)):=by
 rw[d9 JM (sizeOk (ahx ((items.toList.drop amH).take (atJ-amH)).toArray)) (by
  show afi ((items.toList.drop amH).take (atJ-amH)).toArray.size;rw[List.size_toArray,List.length_take,List.length_drop,Array.length_toList];omega) hj (atJ≤items.size) (WJ _ _ ack hi)];obtain⟨os,ZD,hcs,hds⟩:=id hs;have hTs:s.TypeIs (Δ sl) "slice" := ⟨os,ZD,hcs⟩;unfold getItem
 try with_reducible refine aMy
 first | refine adi apz | skip
 rw[adY (adi (wpAny_sequenceKey ht.typeIs d6 ?_)) (adi (wpAny_callSpecial?_slot (name:=Str.ofString "__getitem__") ht.typeIs PyProof.Rows.slot_tuple_getitem
  (wpAny_call_entry PyProof.Rows.slot_tuple_getitem ht.typeIs entry_tuple_getitem ?_ (args_tuple_getitem _ _))))]
 show aes _ _ (Builtin.Tuple.tupleItemsOf (Δ t) >>= _) _ _;rw[adY (adi (tupleItemsOf_ ht ?_)) (adi (wpAny_typeOf hTs ?_))];rw[ak2 d6];rw[ahV (adi (wI hs pl pu ?_)) hno (¬(aey (afh amH == 0 && ar8 == 1 && (atJ-amH) == items.size))) (by
  intro q;rw[aEu Bool.and_eq_true q];rw[d9 q1 (afh amH=0) (eq_of_beq q.1.1) q2 (atJ-amH=items.size) (eq_of_beq q.2)];exact hw aCa)]
 show aes _ _ (ahi (afh amH == 0 && ar8 == 1 && (atJ-amH) == items.size) _ _) _ _;rw[if_neg hno,Om]
 first
  | exact aDR m _ (aEg aHb)
  | exact aDR m _ (aEg (adi (aq9 aHb)))
  | exact adi (aDR m _ (aEg (aq9 aHb)))
  | exact adi (aDR m _ (aEg aHb))
universe zE
universe HT
namespace L2
open PySem PySem.Spec PyProof.Rows
noncomputable abbrev TO:=St->Hp->aqJ (ai4 acG)
abbrev PO aNo(e:aA6)(t:TO):Prop :=
 ∀aNQ(Q:ai4 acG),z0->an5 →
  ads (evalPart e X.env) (λ u s'=>∃o H',atN/\IsPart u o/\ajl o) s
abbrev Ss:TO:=λ _ H Q=>Q none H
abbrev ZE(t:TE):TO:=ahL (t σ H (acF x (∃i,x=η i/\apj awc)))
section
variable {X:Cx} {e:Expr} {te:TE} {lo hi:aA6} {tl th:TO} {pos p2:Pos}
def Su:PO X none Ss:=by
 intro pins s σ H Q I h;rw[Ω evalPart_none (wpAny_pure ⟨none,H,I,aaY,h⟩)]
def Sv(h:atP):PO X aHI (ZE te):=by
 intro pins s σ H Q I hw;rw[anI evalPart_some (aoL (h pins s σ H _ I hw) u x)];rw[adw i q q1];rw[afF t rfl r1 ⟨awc,H1,I1,η i t,q⟩]
abbrev Oo aNo(r:V->acG->auP):Prop :=
 ∀aQ6(v vl vu:Value)aPi(sl:Addr)aOB,ahA (RelV x v) (s.heap.IsSliceOf sl vl vu aaY->IsPart vl lo->IsPart vu hi->r x lo hi H Q →
  ∃T id,typeLookup (acr T) "__getitem__" = amy (aa2 adX id)/\s.TypeIs v T/\ads (getItem v (Δ sl)) (EP X pins σ Q) s)
def Oo.or aT5(h':Oo X r'):Oo X (λ x lo hi H Q=>r x lo hi H Q\/r' x lo hi H Q):=by
 intro pins s σ H x v vl vu lo hi sl Q I rx hs pl pu q;rcases q with q | q
 ·exact h pins s σ H x v vl vu lo hi sl Q I rx hs pl pu q
 ·exact h' pins s σ H x v vl vu lo hi sl Q I rx hs pl pu q
abbrev tSl(r:V->acG->auP)aQa(tl th:TO):TE:=ahL (te σ H (acF x (tl σ H1 (ahP l (th σ H2 λ u H3=>r x l u H3 Q)))))
def Oq{r:V->acG->auP}(hr:Oo X r)aQx(hl:PO X lo tl)(hu:PO X hi th):ar6 alw e (ayT lo hi none p2) (tSl r te tl th):=by
 intro pins s σ H Q I h;rw[adY (Subscript_ (aoL (he pins s σ H _ I h) v x)) (wpAny_Slice (afu (hl pins s1 σ H1 _ I1 q1) vl s2 ⟨l,H2,I2,pl,q2⟩ (agB (hu pins s2 σ H2 _ I2 q2) vu s3 ⟨u,H3,I3,pu,q3⟩)))];rw[evalPart_none];rw[ahV apz I4 (ard H3 s3 (s3.heap.push (alo av5 (agD #[vl,vu,aaY])))) (I3.kept (t':=s3.toks) aAb)];obtain⟨T,id,hT,ht,hg⟩:=hr pins (ahB s3 (s3.heap.push (alo av5 (agD #[vl,vu,aaY])))) σ H3 x v vl vu l u s3.heap.objs.size Q I4 r1 aLL pl pu q3;show ads (subscriptTail e (ayT lo hi none p2) v (Δ s3.heap.objs.size)) (EP X pins σ Q) (ahB s3 (s3.heap.push (alo av5 (agD #[vl,vu,aaY]))));exact tail_any (ops:=[Δ s3.heap.objs.size,v]) ht hT hg aar
abbrev DP aPs aPi:g8:=(ax4 aqD).take (ay9-aqD)
def xY aPs aPi:aBc (acL aCO):=by
 rw[af7 DP List.length_take List.length_drop];omega
abbrev adl aNc:V->acG->auP:=λ x lo hi H Q=>∃a xs,x=Δ a/\awT ∧
 ¬(aqD=0/\ay9=xs.length)/\∀p,akt->Q (Δ p) (ayD p aCO)
def WK:Oo X (adl X.K):=by
 intro pins s σ H x v vl vu lo hi sl Q I rx hs pl pu h;obtain⟨a,xs,rfl,hx,hw,q⟩:=h;cases rx;rw[afj r ht hz (I.tuple hx)]
 rw[ahq hlen (aJ2 xs.length) (by rw[Ω List.size_toArray r.length.symm]) ⟨"tuple",_,PyProof.Rows.slot_tuple_getitem.lookup,ht.typeIs,?_⟩];rw[ahn (HT.vv ht hs pl pu (by rw[Ω hlen hw]) ?_ (by rw[Ω hlen hz])) hlen]
 refine aa9 aii _ (I.laid (t':=s.toks) (o:=f9 aCO) aAb ack ?_) (q _ (akM ack));exact⟨aq2 (xY xs lo hi) hz,_,(r.drop aqD).take (ay9-aqD),IsTup.new _ _⟩
abbrev U7 aNc:R2:=amX (∃a b xs ys,x=Δ a/\y=Δ b/\awT/\B6 K H b ys/\agx xs/\afi aKr ∧
 (ys=[]->Q (Δ a) H)/\(agx ys->∀p,akt->Q (Δ p) (ayD p (xs++ys))))
def Vals.DQ aO0(r:ak6):us=[]↔xs=[]:=by
 cases r with
 | nil=>simp
 | cons _ _=>simp
def Sx:amr Add (U7 X.K):=by
 intro pins s σ H x y v u Q I rx ry h;obtain⟨a,b,xs,ys,rfl,rfl,ha,hb,hx,hz,q1,q2⟩:=h;cases rx;cases ry;obtain⟨bN,r1,p1,_⟩:=I.tuple ha;obtain⟨FH,r2,p2,_⟩:=I.tuple hb;rw[avR (HT.Sq p1 p2 (acz (hx (r1.DQ.mp z))) (acz (aa9 (Δ a) H I (q1 (r2.DQ.mp z)))) (f6 z) (by rw[aq5 r1.length r2.length hz])) (aa9 aii _ (I.laid (t':=s.toks) (o:=f9 (xs++ys)) aAb ack ?_) (q2 (λ w=>z (r2.DQ.mpr w)) _ (akM ack)))];exact⟨by rw[Ω List.length_append hz],_,aKi,IsTup.new _ _⟩
universe zE
universe L2
namespace L2
open PySem PySem.Spec PyProof.Rows
abbrev Hx aNd aNV:aec:=asS (0≤i) (au9 (i<n) (some i.toNat)) (au9 (-afp≤i) (some (ah4 (i+n))))
abbrev Ly aNq aP1 aNV:aFY:=agj (avi i).bind j xs[j]?
def DR aM9 aNy{j:Nat}(h:t6 (Hx n i) j):t6 (seqIndex? i n) j/\j<n /\ -afp≤i/\i<n:=by
 rw[ajd Hx];by_cases h0:0≤i
 ·rw[amg h0 h];rw[akZ (i<n)]
  ·rw[amg h1 h];rw[au8 e (i.toNat=j) h];exact⟨af1 (seqIndex_of h0 h1) e,b6,b6,h1⟩
  ·rw[if_neg h1] at h; cases h
 ·rw[if_neg h0] at h;by_cases h1 : -afp≤i
  ·rw[amg h1 h];rw[au8 e (ah4 (i+n)=j) h];exact⟨af1 (seqIndex_neg b6 h1) e,b6,h1,b6⟩
  ·rw[if_neg h1] at h; cases h
def JN aNq aQy aNy{v:α}(h:az5=aeJ):∃j,t6 (seqIndex? i xs.length) j/\acn xs j v/\axk j /\ -aA2≤i/\aqw:=by
 rw[ajd Ly];cases e:avi i with
 | none=>rw[amW]; cases h
 | some j =>
  rw[amW];rw[afr h1 h2 h3 h4 (DR e) ⟨j,h1,h,h2,h3,h4⟩]
abbrev JO(b:Expr):Prop:=∀o i,subscripted b false o i=operate [o,i] (getItem o i)
abbrev Sy aNo(r:R2):Prop :=
 ∀(value slice:Expr)aNQ(x y:V)(v u:Value)aOB,ahA (RelV x v) (ajH->r x y H Q →
  subscripted slice false v u=operate [v,u] (getItem v u)->ads (subscriptTail value slice v u) (EP X pins σ Q) s)
abbrev DU aNo(id:String)aRZ:Prop :=
 ∀aQ6 aPs aQv aOJ aOB,ahA (RelV x v) (ak6->r x xs H Q →
  ads (call (adX id) (v::us)) (EP X pins σ Q) s)
section
variable {X:Cx} {a b:Expr} {ta tb:TE} {pos:Pos}
def Sy.or{r r':R2}(h:Sy X r)(h':Sy X r'):Sy X (amX (r x y H Q\/r' x y H Q)):=by
 intro value slice pins s σ H x y v u Q I rx ry q hs;rcases q with q | q
 ·exact h value slice pins s σ H x y v u Q I rx ry q hs
 ·exact h' value slice pins s σ H x y v u Q I rx ry q hs
def ZF{r:R2}(hr:Sy X r)aPv(hs:JO b):ar6 alw a b (Zk r ta tb):=by
 intro pins s σ H Q I h;exact Subscript_ (Wg ha hb I h λ v u s2 x y H2 I2 rx ry q=>hr a b pins s2 σ H2 x y v u Q I2 rx ry q (hs _ _))
abbrev adm aNc:R2:=amX (∃p xs i v,x=Δ p/\y=η i/\pO K H p xs/\az5=aeJ/\Q v H)
abbrev adn aNc:R2:=amX (∃p xs i v,x=Δ p/\y=η i/\B6 K H p xs/\az5=aeJ/\Q v H)
def Sz:Sy X (adm X.K):=by
 intro value slice pins s σ H x y v u Q I rx ry h hs;obtain⟨p,xs,i,z,rfl,rfl,hq,he,q⟩:=h;cases rx;rw[aht ry];rw[afj r pl hz (I.list hq)];obtain⟨j,h1,h2,h3,h4,h5⟩:=JN he;obtain⟨w,ew,B8⟩:=r.get h2
 rw[aaa hl r.length hn zU];have fin:EP X pins σ Q w s:=⟨z,H,I,B8,q⟩
 by_cases h0:0≤i
 ·rw[ajE hj (i.toNat=j) (by
   rw[g9 (seqIndex_of h0 h5) h1 aqU]) (item_listR pl.isList h0 b6 (by rw[hj];simpa using ew) fin hs)]
 ·rw[ajE hj (ah4 (i+aMg)=j) (by
   rw[seqIndex_neg b6 h4] at h1;rw[List.size_toArray,← hl];exact aqU) (subscriptTail_builtinR (x:=w) pl.isList.typeIs slot_list_getitem.lookup
   (wpAny_getItem_list_neg (Q:=λ r s'=>r=w/\EP X pins σ Q r s') pl.isList b6 aKM b6 (by rw[hj];simpa using ew) (ah9 fin)) hs)]
def r6:Sy X (adn X.K):=by
 intro value slice pins s σ H x y v u Q I rx ry h hs;obtain⟨p,xs,i,z,rfl,rfl,hq,he,q⟩:=h;cases rx;rw[aht ry];rw[afj r pl hz (I.tuple hq)];obtain⟨j,h1,h2,h3,h4,h5⟩:=JN he;obtain⟨w,ew,B8⟩:=r.get h2
 rw[aaa hl r.length hn zU];rw[ajE fin (EP X pins σ Q w s) ⟨z,H,I,B8,q⟩ (subscriptTail_builtinR (x:=w) pl.typeIs slot_tuple_getitem.lookup
  (getItem_tuple (j:=j) (Q:=λ r s'=>r=w/\EP X pins σ Q r s') pl b6 b6 (by rw[List.size_toArray,← hl];exact h1) (aaF ew) (ah9 fin)) hs)]
def HU(bN:x6)(n j:Nat)aO5:Obj.mapSeq (·.setIfInBounds j u) (aoH (ahx bN.toArray n))=aoH (ahx (asq (bN.set j u)) n):=by
 simp[Obj.mapSeq]
def Inv.lst aOC aOi{xs:g8}aNa(h:H p=afN) :
  ∃(bN:x6) (n:Nat),awo/\akH p (aoH (ahx bN.toArray n))/\aq4:=by
 rw[aen z bN n r e (I.cR p _ h) ⟨bN,n,r,e,z⟩]
def Inv.WL aOC aOi{xs ys:g8}{bN its':x6}{n n':Nat}{f:Obj->Obj}aNa(h:H p=afN)
  (ho:akH p (aoH (ahx bN.toArray n)))(hf:f (aoH (ahx bN.toArray n))=aoH (ahx its'.toArray n'))(r:Vals ys its')(hz:aES)(t:Nat) :
  aeC (ar2 ys) (ahE s (aJY f) t):=by
 rw[ab4 e ((aJY f).get? p=aom aj2 (ahx its'.toArray n')) (by
  rw[Heap.get?_update_self f ho (by rw[hf]<;>rfl),hf]) (I.write (x:=p) (e:=p) (by rw[h]; trivial) (b4 rfl) (λ b u hb q=>x9 (Heap.get?_update_other _ _ (Ne.symm hb)) q) (arU e) ?_)];exact⟨hz,its',n',r,e⟩
abbrev U8:V->V->V->Hp->aqJ aqT:=λ o i v H Q=>∃p xs k j,o=Δ p/\i=η k/\H p=afN/\t6 (avi k) j/\Q (ar2 (xs.set j v))
def set_list:HD X U8:=by
 intro pins s σ H o i v ov iv u Q I ro ri rv h;obtain⟨p,xs,k,j,rfl,rfl,hp,hj,q⟩:=h;cases ro;rw[aht ri];obtain⟨bN,n,r,ho,hz⟩:=I.lst hp;obtain⟨h1,h2,h3,h4⟩:=DR hj;rw[aaa hl r.length hn zU]
 have I':ard (ar2 (xs.set j v)) s (aJY (Obj.mapSeq (·.setIfInBounds j u))) :=
  I.WL hp ho (HU bN n j u) (r.set rv j) (by rw[Ω List.length_set hz]) s.toks
 by_cases h0:0≤k
 ·rw[ajE hk (k.toNat=j) (by
   rw[g9 (seqIndex_of h0 h4) h1 aqU]) (PySem.W.ki_setAt ho h0 b6 (by rw[List.size_toArray,← hl];exact h4) (by rw[hk]; rw[Lb _ I' q]))]
 ·rw[ajE hk (ah4 (k+aMg)=j) (by
   rw[seqIndex_neg b6 h3] at h1;rw[List.size_toArray,← hl];exact aqU) (PySem.W.ki_setBack ho b6 (by rw[List.size_toArray,← hl];exact h3) b6 (by rw[hk]; rw[Lb _ I' q]))]
def DV aPi aNd:(sliceBounds lo hi none n).1=afh (HT.lh n 0 lo)/\(sliceBounds lo hi none n).2.1=afh (HT.lh n n hi)/\(sliceBounds lo hi none n).2.2=1:=by
 refine ah7 ?_ ?_
 ·cases lo with
  | none=>simp[sliceBounds,HT.lh]
  | some i =>
   simp only[sliceBounds,HT.lh,Option.getD_none,show ar8 > 0 by decide,if_true]
   rw[age (i<0)]
   ·simp only[h,if_true]<;>omega
   ·simp only[h,if_false]<;>omega
 ·cases hi with
  | none=>simp[sliceBounds,HT.lh]
  | some i =>
   simp only[sliceBounds,HT.lh,Option.getD_none,show ar8 > 0 by decide,if_true]
   rw[age (i<0)]
   ·simp only[h,if_true]<;>omega
   ·simp only[h,if_false]<;>omega
def B9(bN:x6)aPi:slicePick bN.toArray lo hi none=asq ((bN.drop (aJX 0 lo)).take (aJX bN.length hi-aJX 0 lo)):=by
 obtain⟨h1,h2,h3⟩:=DV lo hi bN.toArray.size;rw[ajN slicePick h1 h2 h3];simp only[sliceRange_one,pick_run,List.size_toArray]<;>rfl
abbrev WM aNc:V->acG->auP:=λ x lo hi H Q=>∃a xs,x=Δ a/\aqF/\∀p,akt->Q (Δ p) (ar2 aCO)
def SA:Oo X (WM X.K):=by
 intro pins s σ H x v vl vu lo hi sl Q I rx hs pl pu h;rw[amB a xs hx h];cases rx;rw[afj r ht hz (I.list hx)];have hlen:=r.length;refine⟨"list",_,slot_list_getitem.lookup,ht.isList.typeIs,?_⟩;refine wpAny_getItem_list_slice ht.isList hs pl pu aaY Ξ ?_ aKM;rw[B9,← hlen];refine aa9 aii _ (I.laid (t':=s.toks) (o:=ς aCO) aAb ack ?_) (q _ (akM ack));exact⟨aq2 (xY xs lo hi) hz,_,0,(r.drop aqD).take (ay9-aqD),azE⟩
def DW:aGl (auL p ys (xs=[Δ p]) ((pO X.K H p ys\/B6 X.K H p ys)/\Q aHl H)):=by
 intro pins s σ H xs us Q I r h;rw[amB p ys hq h]
 rw[anf u rx r];cases rx;have hn:=zU;rcases hq with hq | hq
 ·rw[afj r' pl hz (I.list hq)];rw[alF hlen r'.length (Calls.call_len_list pl.isList (by simp only[List.size_toArray]<;>omega) ⟨aHl,H,afl,⟨s.toks+1,by rw[aD2 hlen]⟩,q⟩)]
 ·rw[afj r' pl hz (I.tuple hq)];rw[alF hlen r'.length (len_tuple pl (by simp only[List.size_toArray]<;>omega) ⟨aHl,H,afl,⟨s.toks+1,by rw[aD2 hlen]⟩,q⟩)]
def gC.or{f:Value}{r r':ajm}(h:gC X f r)(h':gC X f r'):gC X f (λ xs H Q=>r xs H Q\/r' xs H Q):=by
 intro pins s σ H xs us Q I rs q;rcases q with q | q
 ·exact h pins s σ H xs us Q I rs q
 ·exact h' pins s σ H xs us Q I rs q
def DX:gC X aj2 (auL p ys (xs=[Δ p]) ((pO X.K H p ys\/B6 X.K H p ys)/\∀l,ahW l->Q (Δ l) (aud ys))):=by
 intro pins s σ H xs us Q I r h;rw[amB p ys hq h]
 rw[anf u rx r];cases rx
 have fin:∀(bN:x6),avq ys->aES->∀(h':Heap)(c':Nat),(∀b o',apL o'->t6 ahd o') →
   t6 (h'.get? s.heap.objs.size) { cls:=aj2,dict:=none,data:=ahx bN.toArray c',slots:=#[] }->EP X pins σ Q aii (akg s):=λ bN r' hz h' c' kp e =>
  aa9 aii _ (I.laid (t':=s.toks) kp ack (show iu X.prog X.w _ h' _ (ς ys) from⟨hz,bN,c',r',e⟩)) (q _ (akM ack))
 rcases hq with hq | hq
 ·rw[afj r' pl hz (I.list hq)];have hlen:=r'.length;obtain⟨o,ho,hc,n,hd⟩:=pl.isList;exact call_list_seq p (b4 rfl) ho hc hd (λ h' c' kp e=>fin bN r' hz h' c' kp e) (by simp only[List.size_toArray]<;>omega)
 ·rw[afj r' pl hz (I.tuple hq)];have hlen:=r'.length;obtain⟨o,ho,hc,n,hd⟩:=pl;exact call_list_seq p (b9 rfl) ho hc hd (λ h' c' kp e=>fin bN r' hz h' c' kp e) (by simp only[List.size_toArray]<;>omega)
def Ca:gC X ap7 (auL p ys (xs=[Δ p]) ((pO X.K H p ys/\∀l,ahW l->Q (Δ l) (ayD l ys))\/(B6 X.K H p ys/\Q (Δ p) H))):=by
 intro pins s σ H xs us Q I r h;rw[axR p ys h h];rw[anf u rx r];cases rx;rcases h with⟨hq,q⟩ | ⟨hq,q⟩
 ·rw[afj r' pl hz (I.list hq)];rw[DB hlen r'.length (call_tuple_list pl.isList (ab7 h' kp) (by simp only[List.size_toArray]<;>omega))]
  have I1:aeC H (akg s):=I.kept (t':=s.toks) kp
  have I2:ard (ayD h'.objs.size ys) s (h'.push (alo ap7 (ahx bN.toArray))) :=
   I1.laid (t':=s.toks) (λ b o e=>afR e) ack (show iu X.prog X.w _ _ _ (f9 ys) from⟨hz,bN,r',IsTup.new _ _⟩)
  exact aa9 (Δ h'.objs.size) _ I2 (q _ atq)
 ·rw[afj r' pl hz (I.tuple hq)];exact call_tuple_same pl (aa9 (Δ p) H I q)
abbrev tyV aSY(x:V)aNz:Prop:=match x with
 | b5 _=>T = "str"
 | η _=>T = "int"
 | Δ p=>(T = "list" /\ ∃xs,pO K H p xs)\/(T = "tuple" /\ ∃o,K.lookup p=aaW/\o.cls=ap7 /\ YW o.dict) ∨
   (T = "dict" /\ ((∃kvs,H p=alZ)\/∃kvs,H p=aAg))\/(T = "set" /\ ∃S n,H p=ab1 afq S n)
 | _=>False
def Ot aOC{T:String}{x:V}aQ0 aNa(r:RelV x v)(ty:tyV X.K T x H) :
  s.TypeIs v T/\∀a,v=Δ a->∃ob,akH a ob/\YW ob.dict:=by
 cases x with
 | str z =>
  rw[aht r];cases (show T = "str" from ty)
  rw[aab (typeIs_str s z t) (λ _ e=>nomatch e)]
 | int i =>
  rw[aht r];cases (show T = "int" from ty)
  rw[aab (typeIs_int s i t) (λ _ e=>nomatch e)]
 | ref p =>
  cases r;rcases ty with⟨rfl,xs,hq⟩ | ⟨rfl,o,hk,hc,hd⟩ | ⟨rfl,hk⟩ | ⟨rfl,S,n,hk⟩
  ·obtain⟨bN,_,pl,_⟩:=I.list hq;rw[avH pl.isList.typeIs a e];cases e;obtain⟨o,n,e,c,hd,_⟩:=pl;rw[Lb o e hd]
  ·rw[avH ⟨o,I.Fy p o hk,hc⟩ a e];cases e;rw[Lb o (I.Fy _ o hk) hd]
  ·have z:∃o,akH p o/\o.ExactDict:=by
    rcases hk with⟨kvs,hk⟩ | ⟨kvs,hk⟩
    ·obtain⟨_,_,_,_,o,_,_,e,ex,_⟩:=I.cR p _ hk;rw[Lb o e ex]
    ·obtain⟨_,_,_,_,o,_,_,e,ex,_⟩:=I.cR p _ hk;rw[Lb o e ex]
   rw[apx o e ex z ⟨o,e,ex.1⟩ (ab7 a e2)];cases e2;rw[Lb o e ex.2.1]
  ·obtain⟨o,_,_,_,e,ex,_⟩:=I.cR p _ hk;rw[avH ⟨o,e,ex.1⟩ a e2];cases e2;rw[Lb o e ex.2.1]
 | _=>rw[anb ty]
abbrev adp aSY aRZ(to:TE):TE:=ahL (to σ H (acF x (tyV K T x H1/\r x [] H1 Q)))
abbrev tBM aSY aRZ(to:TE)(t:TA):TE:=ahL (to σ H (acF x (tyV K T x H1/\t σ H1 (ahP xs (r x xs H2 Q)))))
variable {o e:Expr} {es:ab5} {to:TE} {t:TA} {name:Str} {apos cW:Pos} {T id:String} {r:V->ajm}
def WN aTB aUh(ho:aCI)
  aRe aQj:azi aGG [] (adp X.K T r to):=by
 rw[ai0 Q (aI0 nZ (auJ v ⟨x,H1,I1,r1,ty,q1⟩))];rw[afF h1 h2 (Ot I1 r1 ty) ⟨T,id,pa,slot,WO,h1,h2,Calls.callWith_builtin rfl (PySem.evalArgs_none (hm pins s1 σ H1 x [] v [] Q I1 r1 abT q1))⟩]
def ZG aTB aUh(ho:aCI)aQM
  aRe
  aS0
  aQj aTO :
  azi aGG (e::es) (tBM X.K T r to t):=by
 rw[ai0 Q (wpAny_Call_method_late nY Ou nZ rfl (auJ v ⟨x,H1,I1,r1,ty,q1⟩))];rw[amv (Ot I1 r1 ty)]
 refine⟨T,id,pa,slot,WO,h1,h2,?_⟩;have hA:=ha cW pins s1 σ H1 _ I1 q1;rw[hs] at hA ⊢;rw[ant (aAx (by show aiI (false || aeS (arL es).any); rw[Aa]<;>rfl) ?_) (afu hA us s2 ⟨vs,H2,I2,r2,q2⟩ (hm pins s2 σ H2 x vs v us Q I2 r1 r2 q2))]
universe zE
universe L2
namespace L2
open PySem PySem.Spec PyProof.Rows
abbrev ZH aNo(id:String)aRZ:Prop :=
 ∀aQ6 aPs aQv aOJ aOB,ahA (RelV x v) (ak6->r x xs H Q →
  ads (call (adX id) (v::us)) (EP X pins σ Q) s)
def Vals.one:∀{x:V}aOK,asG [x]->∃u,us=[u]/\at7
 | _,_,aaT r abT=>anl r
def Vals.zero:∀aOK,asG []->us=[]
 | _,abT=>rfl
def Vals.dropLast aO0(h:ak6):Vals xs.dropLast us.dropLast:=by
 induction h with
 | nil=>rw[akp]
 | cons r t ih =>
  cases t with
  | nil=>rw[akp]
  | cons q t'=>exact aaT r ih
def Vals.eraseIdx:∀aO0 aNr,ak6->auT (xs.eraseIdx i) (us.eraseIdx i)
 | _,_,_,abT=>abT
 | _,_,0,aaT _ t=>t
 | _,_,i+1,aaT r t=>aaT r (Vals.eraseIdx i t)
def Vals.reverse aO0(h:ak6):Vals xs.reverse us.reverse:=by
 induction h with
 | nil=>rw[akp]
 | cons r t ih=>rw[aeh List.reverse_cons List.reverse_cons (Vals.append ih (aaT r abT))]
def Vals.rep aO0(h:ak6):av9 k (Vals (azt xs) (azt us))
 | 0=>abT
 | k+1=>by
  rw[List.replicate_succ,List.replicate_succ,List.flatten_cons,List.flatten_cons];exact Vals.append h (Vals.rep h k)
def HV aNq(l:afK):l.eraseIdx (l.length-1)=l.dropLast:=by
 induction l with
 | nil=>rfl
 | cons a r ih =>
  cases r with
  | nil=>rfl
  | cons b r =>
   have e:aw1 a (b::r)-1=(aw1 b r-1)+1:=by
    rw[d9 h1 (aw1 a (b::r)=r.length+2) rfl h2 (aw1 b r=r.length+1) rfl];omega
   rw[e,List.eraseIdx_cons_succ,ih]
   all_goals rfl
def CV aNq:∀(l:afK)aNr,ag4 (l.eraseIdx i) l.length
 | [],_=>ack
 | _::_,0=>apA
 | _::r,i+1=>Nat.succ_le_succ (CV r i)
def foldl_rep(bN:x6):∀aNW(acc:x6),
  List.foldl (λ x1 x2=>x1++x2) acc.toArray (aIQ bN.toArray)=asq (acc++azt bN)
 | 0,acc=>Ξ
 | k+1,acc=>by
  rw[agw e (acc.toArray++bN.toArray=asq (acc++bN)) Ξ e2 ((acc++bN)++azt bN) (acc++(apn (k+1) bN).flatten) (by
   rw[List.replicate_succ,List.flatten_cons,List.append_assoc])]
  rw[← e2,← foldl_rep bN k (acc++bN),← e,List.replicate_succ,List.foldl_cons]
section
variable {X:Cx} {pins:x8} {σ:St} {H:Hp} {s:Shared} {l b:Addr} {xs ys zs:g8}
def Inv.Ov{bN its':x6}aM9{f:asT->asT}aOF aNa(hH:H l=afN)
  (e:akH l (aoH (ahx bN.toArray n)))(hf:f bN.toArray=its'.toArray)(hv:Vals ys its')(hz:aES) :
  aeC (aud ys) (ahE s (s.heap.update l (Obj.mapSeq f)) t'):=by
 rw[adS q (PySem.IsL.update e f) hf q];refine I.write (x:=l) (e:=l) (by rw[Ω hH trivial]) (b4 rfl) (λ b' u hb hu=>x9 (Heap.get?_update_other s.heap (Obj.mapSeq f) (Ne.symm hb)) hu) (arU q) ?_;exact⟨hz,its',_,hv,q⟩
def Inv.WQ{bN:x6}aOF aNa(hv:avq ys)(hz:aES) :
  aeC (upd H s.heap.objs.size (ς ys)) (ahE s (s.heap.push { cls:=aj2,data:=ahx bN.toArray }) t') :=
 I.laid (λ _ _ q=>afR q) ack ⟨hz,bN,0,hv,azE⟩
def Inv.fresh aNa:aL4:=akM ack
def Inv.DY aNa(hH:H l=afN):aq4/\∃(bN:x6) (n:Nat),awo/\ax3 bN.length/\akH l (aoH (ahx bN.toArray n)):=by
 rw[aen z bN n r e (I.cR l _ hH) ⟨z,bN,n,r,r.length,e⟩]
def FI aM9(h:afi n):acs (Builtin.List.listTooLong n):=by
 unfold Builtin.List.listTooLong;exact decide_eq_false b6
universe zE
section
variable {X:Cx}
abbrev JP:V->ajm:=λ x vs H Q=>∃l xs y,x=Δ l/\vs=[y]/\H l=afN/\xs.length<sizeLine/\Q .bh (aud (xs++[y]))
def CW:ZH X "list.append" JP:=by
 intro pins s σ H x vs v us Q I rx rv h;obtain⟨l,xs,y,rfl,rfl,hH,hz,q⟩:=h;cases rx;rw[adw u ru rv.one];obtain⟨z,bN,n,r,hl,e⟩:=I.DY hH;rw[avR (call_meets F.slot_list_append (ah7 _ e) F.entry_list_append (F.args_list_append_2 _ _) (PySem.list_append l bN.toArray n u (by rw[aBk])) (aik e)) (aa9 .bh _ (I.Ov (its':=bN++[u]) hH e Ξ (r.append (aaT ru abT)) ?_) q)];rw[aLI];omega
abbrev JQ:V->ajm:=λ x vs H Q=>∃l b xs zs,x=Δ l/\vs=[Δ b]/\H l=afN/\H b=akF zs/\afi (xs.length+zs.length)/\Q .bh (aud (xs++zs))
def Lz:ZH X "list.extend" JQ:=by
 intro pins s σ H x vs v us Q I rx rv h;obtain⟨l,b,xs,zs,rfl,rfl,hH,hB,hz,q⟩:=h;cases rx;rw[adw u ru rv.one];cases ru;obtain⟨z,bN,n,r,hl,e⟩:=I.DY hH;obtain⟨z2,FH,n2,r2,Ow,e2⟩:=I.DY hB
 rw[ajs hsz (afi aMV) (by rw[aJr];omega) Ox (¬(aey (aL8 && aLB aMV))) (by
  rw[aeh (FI hsz) Bool.and_false Bool.false_ne_true]) (call_meets F.slot_list_extend (alN e) F.entry_list_extend (F.args_list_extend_2 _ _)
  (AutoSeq1.list_extend_list_list_0 l bN.toArray n b FH.toArray n2 Ox (by rw[aBk]) b6) ⟨e,e2,?_⟩)]
 refine aa9 .bh _ (I.Ov (its':=bN++FH) hH e Ξ (r.append r2) ?_) q;rw[aLT]
abbrev ZI:V->ajm:=λ x vs H Q=>∃l xs y,x=Δ l/\vs=[]/\H l=afN/\acn xs (arj 1) y/\Q y (aud xs.dropLast)
def WR:ZH X "list.pop" ZI:=by
 intro pins s σ H x vs v us Q I rx rv h;obtain⟨l,xs,y,rfl,rfl,hH,hy,q⟩:=h;cases rx;have hus:=rv.zero;subst hus;obtain⟨z,bN,n,r,hl,e⟩:=I.DY hH;obtain⟨u,hu,ru⟩:=r.get hy
 rw[ab4 hy' (acn bN.toArray (bN.toArray.size-1) u) (by
  show acn bN.toArray (bN.length-1) u;rw[aq5 Array.getElem?_toList hl hu]) (call_meets F.slot_list_pop (ah7 _ e) F.entry_list_pop (F.args_list_pop_1 _) (MeetsSeq.list_pop_last l bN.toArray n u hy' (by rw[aBk])) (aik e))]
 refine⟨y,_,I.Ov (its':=bN.dropLast) hH e ?_ r.dropLast ?_,ru,q⟩
 ·show aLw (bN.toArray.size-1) bN.dropLast.toArray;rw[List.size_toArray,List.eraseIdxIfInBounds_toArray,HV]
 ·rw[ahX List.length_dropLast]
abbrev Oy:V->ajm:=λ x vs H Q=>∃l xs i k y,x=Δ l/\vs=[η i]/\H l=afN /\ -(2 ^ 63)≤i/\i<2 ^ 63/\seqIndex? i xs.length=aeK/\acn xs k y/\Q y (aud (xs.eraseIdx k))
def Oz:ZH X "list.pop" Oy:=by
 intro pins s σ H x vs v us Q I rx rv h;obtain⟨l,xs,i,k,y,rfl,rfl,hH,h1,h2,hk,hy,q⟩:=h;cases rx;rw[adw u ru rv.one];rw[aht ru]
 obtain⟨z,bN,n,r,hl,e⟩:=I.DY hH;rw[ana w hw B8 (r.get hy) (call_meets F.slot_list_pop (alN e) F.entry_list_pop (F.args_list_pop_2 _ _)
  (MeetsSeq.list_pop_at l bN.toArray n i t k w (fitsIndex_both h1 h2) (by rw[List.size_toArray,← hl];exact hk) (by rw[abQ Array.getElem?_toList hw]) (by rw[aBk])) (aik e))]
 refine⟨y,_,I.Ov (its':=bN.eraseIdx k) hH e ?_ (r.eraseIdx k) ?_,B8,q⟩
 ·show aLw k (asq (bN.eraseIdx k));rw[List.eraseIdxIfInBounds_toArray]
 ·rw[aeq (CV xs k)]
abbrev SD:R2:=amX (∃l b xs zs,x=Δ l/\y=Δ b/\H l=afN/\H b=akF zs/\afi (xs.length+zs.length)/\∀p,akt->Q (Δ p) (ar2 (xs++zs)))
def WS:amr Add SD:=by
 intro pins s σ H x y v u Q I rx ry h;obtain⟨l,b,xs,zs,rfl,rfl,hH,hB,hz,q⟩:=h;cases rx;cases ry;obtain⟨z,bN,n,r,hl,e⟩:=I.DY hH;obtain⟨z2,FH,n2,r2,Ow,e2⟩:=I.DY hB;rw[ahV (PySem.P.add_list e e2 ?_ (by rw[aJr];omega)) ea (bN.toArray++FH.toArray=asq (bN++FH)) Ξ]
 rw[aeN ea (aa9 (Δ _) _ (I.WQ (t':=s.toks) (r.append r2) (by rw[aLT])) (q _ I.fresh))]
abbrev ZJ:R2:=amX (∃l k xs,x=Δ l/\y=η k/\H l=afN /\ -(2 ^ 63)≤k/\k<2 ^ 63/\afi aKL ∧
 ∀p,akt->Q (Δ p) (ar2 (aD5 xs).flatten))
def SE aNq aP1 aNW:(aIQ xs).flatten.length=k*xs.length:=by
 induction k with
 | zero=>simp
 | succ k ih=>rw[List.replicate_succ,List.flatten_cons,List.length_append,ih,Nat.succ_mul,Nat.add_comm]
def WT:amr Mult ZJ:=by
 intro pins s σ H x y v u Q I rx ry h;obtain⟨l,k,xs,rfl,rfl,hH,h1,h2,hz,q⟩:=h;cases rx;rw[aht ry]
 obtain⟨z,bN,n,r,hl,e⟩:=I.DY hH
 rw[d9 hlen (afi aKH) (by rw[List.size_toArray,← hl];exact hz) adq (¬aKH > (2 ^ 63-1) / 8) (by
  have:aez sizeLine≤(2 ^ 63-1) / 8:=d6
  omega)]
 rw[d9 adr (¬(aey (! Builtin.List.listFitsIndex k))) (by
  rw[aD6 (fitsIndex_both h1 h2)]) Ox (¬(b8 (aLB aKH))) (by
  rw[aD6 (FI hlen)])]
 rw[ab4 WU (List.foldl (λ x1 x2=>x1++x2) #[] (apn (ahi bN.toArray.isEmpty 0 k.toNat) bN.toArray)=(aD5 bN).flatten.toArray) (by
  have f0:av9 m (List.foldl (λ x1 x2=>x1++x2) #[] (aEy bN.toArray)=(aEy bN).flatten.toArray):=λ m=>by
   have:=foldl_rep bN m [];rw[g9 zH this this]
  rw[f0];cases bN with
  | nil=>simp
  | cons a r'=>rw[afZ Ξ]) (wpAny_binaryOp_repeat_ref (T := "list") (U := "int") d6 (alN e) (λ s'=>typeIs_int s' k t) noFill_list_mul F.fills_int_mul F.slot_int_rmul repeat_list F.slot_int_index.lookup
  (call_meets F.slot_int_rmul (typeIs_int s k t) F.entry_int_rmul (F.args_int_rmul_2 _ _) (int___rmul___int_list k t l bN.toArray n)
   (ajC e (alN e) (call_meets F.slot_list_mul (ah7 _ e) F.entry_list_mul (F.args_list_mul_2 _ _) (AutoListH.list___mul___list_int_3 l bN.toArray n k t adr adq Ox) (aik e)))))]
 rw[aeN WU (aa9 (Δ _) _ (I.WQ (t':=s.toks) (r.rep k.toNat) (by rw[aeh SE Nat.mul_comm hz])) (q _ I.fresh))]
universe zE
section
variable {prog:Program} {w:World} {A:Around} {E:abP} {s:Shared}
universe zE
section
variable {X:Cx}
universe zE
universe L2
namespace Att
open PySem PySem.W PySem.Calls PyProof.Rows
def yE{P:Params}aOe:∀aOj(vs:x6),WellAll P h vs aMA->aCz:=by
 intro ns
 induction ns with
 | nil =>
  intro vs w;rw[zD] at w;cases w;rw[akp]
 | cons n ns ih =>
  intro vs w;rw[zC] at w;cases w with
  | cons a b =>
   cases a;exact aaT _ _ (ih _ b)
def LA{l:OpenLaw}aM9 aSK{P:Params}aOe{args:List WData}{vals:x6}
  (kG:b8 (l.row.toRowW.claim.pre args))(Fs:WellAll P h vals args) :
  ∃a vs ns,vals=[aol]/\args=[WData.list aMA]/\ajv=aom aj2 aB6/\aCz/\aFz n:=by
 rw[d9 hsh (b8 (WShape.hasAll [] args [ao1 η])) (pre_splitW kG).1 hc (b8 (l.pre.holds [] { args:=args })) (pre_splitW kG).2];rw[abY d r h1 h2 (hasAllW_cons hsh)];obtain rfl:=hasAllW_nil h2;rw[adw xs h3 (hasW_list h1)];rw[alk ns (items_int h3)]
 have hlen:aFz n:=by
  unfold OpenLaw.pre at hc
  have h4:b8 ((WTm.not (.lt (.lit (η afp)) (.len (.arg 0)))).holds [] { args:=[ao1 avv] }):=by
   have h4:=(holds_andW hc).1;rw[g9 hn h4 h4]
  rw[adS h5 (condW_of h4 (w_not (w_lt w_lit (w_len_list (w_arg rfl))))) zK h5];rw[ahV (Nat.le_of_not_lt (f6 q)) q' (afp<afh ns.length) b6]
  first
   | (rw[g9 (decide_eq_true q') h5 (absurd h5 d6)])
   | (simp at h5; omega)
 cases Fs with
 | cons w1 w2 =>
  cases w2;cases w1 with
  | list ho Og=>exact⟨_,_,ns,rfl,rfl,ho,yE ns _ Og,hlen⟩
def LB(l:OpenLaw)(args:List WData):b8 (l.row.toRowW.claim.post args arC args) :=
 postW_of (r:=l.row.toRowW) (X:=(true == true))
  (show b8 (WShape.has [] arC aiW) by first | rfl | decide | simp[WShape.has,WShape.arms,WShape.armsAll])
  (show(WTm.eq .res (.lit arC)).value [] { args:=args,res:=aa2 aiW true,after:=args }=alB aiW (true == true) from w_eq_bool (w_res rfl) w_lit) rfl
def FJ{l:OpenLaw}aM9{q:Program}aUt{YP:World->avN}{d:DefRec}
  aSK aUb
  (call:∀(w:World)(s₀ s₁:Shared)(mg mb:ac0)(fa:Addr)(o:Obj)(pm cd doc:Value)aN2(vs:x6)aOj,
   Ground q loose [] XP w s₀ mg mb s₁.heap->YP w s₁.heap →
   s₁.heap.get? fa=aaW->azu (.func (docDef d.name d.params d.body d.scope pm cd doc))->s₁.heap.CodeRec cd d.name->mg d.name=aH0 →
   s₁.heap.get? a=aom aj2 aB6->aCz->aFz n->s₁.gens=#[] →
   ark (model l.prog w) callerA (.call (Δ fa) (aiQ [Δ a])) (λ r s'=>r=.ok (.ret arC)/\aKI/\aLn/\axm) s₁) :
  WalkO q loose XP YP l.row.toRowW d [] (λ f vs=>PySem.call f vs):=by
 intro w s₀ s₁ mg mb G Y fa o pm cd doc dV kV ho hd Lg hD WV hg args vals as kG agv hrd Fs hlo;obtain rfl:dV=aaY:=Dflts.none hD hdf;obtain rfl:kV=aaY:=Dflts.noKw hD;obtain⟨a,vs,ns,rfl,rfl,WW,hints,hlen⟩:=LA hn kG Fs;refine enter_call (codeAny_mono (call w s₀ s₁ mg mb fa o pm cd doc a vs ns G Y ho (fd_plain hd) Lg WV WW hints hlen hg) (NV r s' hq));rw[afr rfl h2 h3 h4 hq ⟨b4 ⟨arC,arC,[],rfl,apM,arC,LB l _,λ _=>⟨List.Pairwise.nil,abg hm (nomatch hm)⟩⟩,h2,h3,h4⟩]
section
variable {prog:Program} {w:World} {A:Around} {E:abP} {s:Shared} {K:Frag}
abbrev adu aOT(L d:Addr):x8:=agj (aJf).filterMap a (if a=L\/a=d then none else agj (ajv).map o (a,o))
universe zE
universe Att
namespace L2
open PySem PySem.Spec PyProof.Rows
def CY:∀{vs:x6}aOV,aCz->Vals al3 vs
 | _,_,abT=>abT
 | _,_,aaT n t h=>aaT awG (CY h)
abbrev WX aNz:Prop:=∀b,agr\/∃o xs,H b=ab1 .ko o (ς xs)
def OA aOP{mg mb:ac0}{CX:Hw}aNf{fa a:Addr}{fd:FuncData}aNg{sp:Sp}{s₁:Shared}{vs:x6}aOV
  (KX:K.In s₁.heap)(LC:s₁.heap.Ns mainGlobals mg)(hb:s₁.heap.Ns builtinsNs mb)(SF:∀x:Str,ar0 -> mb x=aqY)(adv:s₁.heap.NoLimit)(hg:s₁.gens=#[])
  (ha:s₁.heap.get? a=aom aj2 aB6)(hi:aCz)(hl:afi ns.length)(hr:jA k callerA)
  (F:∀base:Heap,aF3->aH3->pH P w K mg base CX k fa fd [x] sp)(ZK:∀aND aO5,BindsTo s fd (aiQ [u]) [(x,u)])
  (U4:∀H:Hp,WX H->pO K H a al3->sp [Δ a] H (λ v _=>v=afE) λ _ _ _=>False)
  (hCX:∀H e s',CX [] H s₁ (λ _ _ _=>False) e s'->False) :
  ark (model P w) callerA (.call (Δ fa) (aiQ [Δ a])) (λ r s'=>r=.ok (.ret arC)/\aKI/\aLn/\axm) s₁:=by
 rw[aaa rv (CY hi) adx hi.length]
 have core:∀H:Hp,WX H->pO K H a al3->qD P w H s₁.heap->(∀b,H b≠none->b=a)->(H a≠none->YW aFE) →
   ark (model P w) callerA (.call (Δ fa) (aiQ [Δ a])) (λ r s'=>r=.ok (.ret arC)/\aKI/\aLn/\axm) s₁:=by
  intro H hO hS cR hA hK;rw[d9 JR (∀aQo,s₁.heap.get? b=aaW->agr->(DC s₁.heap H).get? b=aaW) (λ e n=>NZ e n) Zv (∀aQo aQN,s₁.heap.get? b=aaW->azu (.dict es ep)->agr) (λ{b o es ep} e d=>by
   cases q:H b with
   | none=>rfl
   | some u =>
    have e':b=a:=hA b (by rw[af2 q]);rw[akS e' ha e]; cases e;have d':Data.seq vs.toArray _=Data.dict es ep:=d;cases d')]
  rw[d9 nsK (∀{b:Addr}{m:ac0},s₁.heap.Ns b m->(DC s₁.heap H).Ns b m) (λ{b m} ⟨o,es,ep,e,d,r⟩=>⟨o,es,ep,JR e (Zv e d),d,r⟩) hKb (K.In (DC s₁.heap H)) (amT (JR (KX b o e) (by
   cases q:H b with
   | none=>rfl
   | some u =>
    have e':b=a:=hA b (by rw[af2 q])
    rw[akS e' (hK (by rw[af2 q])) e]; cases e)))]
  rw[ajs hM (Mod K mg (DC s₁.heap H)) ⟨hKb,nsK LC,⟨mb,nsK hb,SF⟩,let⟨mc,h1,h2⟩:=adv; ⟨mc,nsK h1,h2⟩⟩ e0 (HP P w K mg (DC s₁.heap H) callerA [] s₁ H) ⟨rfl,hM,amT (RS e),Nat.le_of_eq (Lf _ _),trivial,ayE b hb (axU b ([]:c9) hb),cR,.of_eq hg⟩ (codeAny_mono ((F _ hKb (nsK LC)).run callerA [] s₁ H (aiQ [Δ a]) [Δ a] [Δ a] _ _ hr e0 (ZK s₁ (Δ a)) (aaT rfl abT) (U4 H hO hS)) (NV r s' h))];cases r with
  | error e=>exact(hCX H e s' h).elim
  | ok fl =>
   cases fl with
   | next=>rw[anb h]
   | brk=>rw[anb h]
   | cont=>rw[anb h]
   | ret u =>
    obtain⟨v,H',os,bare,un,WY,r',q⟩:=h;rw[aip q' (v=afE) q q'];obtain rfl:u=Value.bool true:=r';rw[an1 rfl (OldK.of_keep (NV b o e)) os bare];cases q:H b with
    | none=>exact un.keep b o e q (by intro z; rw[ajQ (axU b ([]:c9) z) Ξ]) Ξ
    | some u =>
     rcases hO b with z | ⟨ob,xs,z⟩
     ·rw[q] at z; cases z
     ·have z2:=un.ni b ob _ z;obtain⟨e1,_⟩:=cR b _ z;obtain⟨e2,_⟩:=WY b _ z2;rw[e] at e1; cases e1;exact e2
 cases hk:aFE with
 | some o =>
  rw[adS e (KX a o hk) ha e];cases e;refine core awO (λ _=>b4 rfl) (b9 ⟨_,vs.toArray,_,hk,rfl,rfl,rfl,by rw[aD2 adx]; exact hl,aaF rv⟩) (agi u z (by have z':(none:Option HO)=abF:=z; cases z')) (aAX b z rfl z) λ z=>absurd rfl z
 | none =>
  refine core (arH b b a (ab1 .ko (aoH aB6) (ς al3)) none) (f6 b) (b4 (ald (aoH aB6) aeO)) (NV b u z) (ab7 b z) λ _=>hk
  ·rw[akY (b=a)]
   ·exact b9 (apc _ (if_pos hb))
   ·exact b4 aK0
  ·rw[akY (b=a)]
   ·have z':=(aGm (if_pos hb)) z;cases z';subst hb;exact⟨ha,by rw[ak4 hl],vs,_,rv,ha⟩
   ·have z':=(aGm aK0) z;cases z'
  ·rw[akY (b=a)]
   ·exact hb
   ·rw[ajQ aK0 z]
universe L2
namespace L2
open PySem PySem.Spec PyProof.Rows
universe L2
namespace L2
open PySem PySem.Spec PyProof.Rows
structure OB aNc(x qual:Str)(st:Stmt)(f:Addr)aRy:Prop where
 ex:∃(oc:Value) (od:asU) (kV doc pm:Value) (an:asU) (lg ct:Value) (U3:aHy),
  fd=PySem.W.fnOf x qual (mj st) (gx st) (av st) aaY kV doc pm an lg ct/\t6 (K.lookup f) ⟨oc,od,.func fd,U3⟩/\b8 (PySem.W.codeIn K lg qual)
 kp:b8 (PySem.W.keepIn K (Δ f))
section
variable {P:Program} {w:World} {K:Fg} {mg:ac0} {base:Heap}
def OB.binds aSQ aRI aUz
  (h:∀aUq(lg ct:Value)aOJ,aKc->bindArgs (PySem.W.fnOf x qual (mj st) (gx st) (av st) aaY kV doc pm an lg ct) (aiQ us)=amy avE):aut:=by
 obtain⟨oc,od,kV,doc,pm,an,lg,ct,U3,rfl,lk,Lg⟩:=F.ex;exact .all (h kV doc pm an lg ct)
def uD aSQ{f:Addr}{oc:Value}{od an:asU}{U3:aHy}{kV doc pm lg ct:Value}(l:t6 (K.lookup f) ⟨oc,od,.func (PySem.W.fnOf x qual (mj st) (gx st) (av st) aaY kV doc pm an lg ct),U3⟩)
  (c:b8 (PySem.W.codeIn K lg qual))aTP:OB K x qual st f (PySem.W.fnOf x qual (mj st) (gx st) (av st) aaY kV doc pm an lg ct):=⟨⟨oc,od,kV,doc,pm,an,lg,ct,U3,rfl,l,c⟩,k⟩
universe zE
def CZ aM9(h:n≤1000):n<sizeLine:=apt h
section
variable {X:Cx}
def pv aNr aNg aOD aS5 aON
  aSb:adz (aad x pos) (Y5 i):=N1 hN hv hd Lg
universe zE
def FK{A B:Prop}(h:B):ahi false A B:=by
 rw[Ω alj h]
def FL{A B:Prop}(h:A):ahi true A B:=by
 rw[Ω aeO h]
abbrev lN(H H':Hp):Prop:=∀b o,H b=aaW->alW=aaW
def lN.refl aNz:lN H H:=λ _ _ h=>h
def lN.trans{H H1 H2:Hp}(a:lN H H1)(b:lN H1 H2):lN H H2:=λ c o h=>b c o (a c o h)
def lN.free{H H':Hp}(e:lN H H'){l:Addr}(h:H' l=Option.none):H l=Option.none:=by
 cases q:H l with
 | none=>rfl
 | some o =>
  rw[e l o q] at h;cases h
universe L2
namespace L2
open PySem PySem.Spec PyProof.Rows
section
variable {X:Cx}
def LD:aGl (auL a kvs (xs=aCL a) (H a=alZ/\Q aHg H)):=by
 intro pins s σ H xs us Q I r h;rw[amB a kvs ha h];rw[anf u ru r];cases ru;exact Zz I (b4 ha) λ t s' I'=>⟨aHg,H,I',awG,q⟩
universe zE
section
variable {κ:Type} [am7]
universe zE
universe L2
universe zE
end
mutual
section
namespace L2
open PySem PySem.Spec PyProof.Rows
abbrev wJ(env:Env):axz->aoz->aoz
 | [],acc=>acc
 | (n,k)::r,acc=>wJ env r (if aey (ajr k) then(n,(aEq).getD 0)::acc else acc)
def uE aPZ:∀(l:axz)(acc:aoz),(ae8 l (p.2=amA->∃c,avZ p.1)) →
  (forIn l acc fun(x:Str×NameKind) (cs:aoz)=>(if aey (ajr x.2) then do let a ← cellOf env x.1; pure (ForInStep.yield ((x.1,a)::cs)) else amy (ForInStep.yield cs):Sem (ForInStep aoz)))=amy (wJ env l acc)
 | [],acc,_=>rfl
 | (n,k)::r,acc,h=>by
  rw[List.forIn_cons];rw[ahT hk (ajr k)]
  ·obtain⟨c,hc⟩:=h (n,k) List.mem_cons_self aiS;rw[agw B5 (avZ n) hc e1 (cellOf env n) (pure c) (by rw[acu cellOf B5])]
   simp only[hk,if_true,e1];show(forIn r ((n,c)::acc) _:Sem _)=_;rw[DB ih (uE (env:=env) r ((n,c)::acc) (ahO (h p (aha hp)))) (ih.trans ?_)];show _=amy (wJ env r (if aey (ajr k) then(n,(aEq).getD 0)::acc else acc));rw[if_pos hk,B5];rfl
  ·have hk':aiI (ajr k):=aiS
   rw[aFc hk'];show(forIn r acc _:Sem _)=_;rw[DB ih (uE (env:=env) r acc (ahO (h p (aha hp)))) (ih.trans ?_)];show _=amy (wJ env r (if aey (ajr k) then(n,(aEq).getD 0)::acc else acc))
   rw[afZ hk]
def Ab aPZ aQL(h:ae8 scope.names (p.2=amA->∃c,avZ p.1)):closureFor scope env=amy (wJ env scope.names []):=by
 unfold closureFor;have:=uE (env:=env) scope.names [] h;show((forIn scope.names ([]:aoz) (fun(x:Str×NameKind) (cs:aoz)=>(if aey (ajr x.2) then do let a ← cellOf env x.1; pure (ForInStep.yield ((x.1,a)::cs)) else amy (ForInStep.yield cs):Sem (ForInStep aoz))):Sem aoz) >>= λ r=>pure r)=_;rw[ab2 this]
def wK aPZ aNg aN7:∀{l:axz}{acc:aoz},(ae8 l (p.2=amA->∃c,avZ p.1))->(∀c,acc.lookup x=agF->avZ x) →
  ahs (wJ env l acc) x=agF->avZ x
 | [],acc,_,ha,h=>ha c h
 | (n,k)::r,acc,hl,ha,h=>by
  refine wK (l:=r) (ahO (hl p (aha hp))) ?_ h;intro c' B5;rw[ahT hk (ajr k)]
  ·rw[amg hk B5];rw[anc c0 hc0 (hl (n,k) List.mem_cons_self aiS) hc0 (env.cells.lookup n=some c0) hc0];rw[aJy B5];cases hx:x == n with
   | true =>
    rw[hx] at B5;rw[hc0] at B5
    have e:x=n:=aHV
    rw[aeh e hc0 B5]
   | false =>
    rw[g9 hx B5 (ha c' B5)]
  ·rw[g9 aK1 B5 (ha c' B5)]
def Ac aPZ aNg:∀{l:axz}{acc:aoz},(aJ6 x∈l\/∃c,acc.lookup x=agF)->∃c,ahs (wJ env l acc) x=agF
 | [],acc,h=>by
  rcases h with h | h
  ·exact nomatch h
  ·exact h
 | (n,k)::r,acc,h=>by
  show ∃c,ahs (wJ env r (if aey (ajr k) then(n,(aEq).getD 0)::acc else acc)) x=agF
  refine Ac (l:=r) ?_;rcases h with h | ⟨c,h⟩
  ·rcases asF with e | h
   ·injection e with e1 e2;subst e1 e2;right;rw[af5 (by rfl),List.lookup_cons];simp
   ·exact b4 h
  ·right;rw[ahT hk (ajr k)]
   ·rw[if_pos hk,List.lookup_cons];cases hx:x == n with
    | true=>exact adE
    | false=>rw[aab c h]
   ·rw[afZ hk];rw[aab c h]
abbrev gX aNo(scope:Scope)(N:acC)aNK(fp:c9)aND aNz:Cx :=
 { X with N:=N,s₀:=s,H₀:=H,env:=compEnvC scope aCB C X.env,outer:=X.stack,stack:=X.stack,ex:=fp,fn:=λ _=>false,pn:=[],xe:=anY }
abbrev uc aPG(σ:St):St:=nq.map λ o=>match o with
 | awc=>(σ[i]?).join
 | none=>none
structure dt aNo(scope:Scope)(N:acC)aPG:Prop where
 kind:scope.kind=anj
 OC:aJ1 y (y.2≠arV)
 names:aJ1 y (y.2=.local -> axh y.1 ani)
 free:aJ1 y (y.2=amA->(apD y.1 agG\/apD y.1 aoB))
 len:nq.length=N.length
 nq:∀aPP aNM aNr,acn N j x->anK nq j i->aoK/\aJ6 x∈scope.names/\axh x aoB
def vw aPZ:∀{names:axz}aNg{k:NameKind},names.lookup x=aeK →
  ahs (names.map fun(n,k)=>if (ajr k && env.scope.kind == anj && env.kindOf n == agG) then(n,NameKind.cell) else(n,k)) x=aeK\/(k=amA ∧
   ahs (names.map fun(n,k)=>if (ajr k && env.scope.kind == anj && env.kindOf n == agG) then(n,NameKind.cell) else(n,k)) x=agG)
 | [],_,_,h=>anP
 | (n,k')::r,x,k,h=>by
  have ih:=@vw env r x k;show List.lookup x ((if aey (aIO && env.kindOf n == agG) then(n,NameKind.cell) else(n,k'))::_)=_\/_/\List.lookup x ((if aey (aIO && env.kindOf n == agG) then(n,NameKind.cell) else(n,k'))::_)=_;cases hx:x == n with
  | true =>
   simp only[List.lookup_cons,hx] at h;cases h;rw[ahT hc (aIO && env.kindOf n == agG)]
   ·right;rw[ak2 hc];rw[aI2 hc];rw[aab (aaF hc.1.1) (by rw[aD4 hx])]
   ·left;rw[afZ hc];rw[aD4 hx]
  | false =>
   simp only[List.lookup_cons,hx] at h;rw[ahT hc (aIO && env.kindOf n == agG)]
   ·rw[ak2 hc]; rw[aD4 hx]; exact ih h
   ·rw[afZ hc];rw[aD4 hx]; exact ih h
def qD.but aOl aNu{h h':Heap}aN3 aPn(hn:ahW C)(hs:Heap.SameBut C h h'):qD P w H h':=agi u e (by
 refine(ok b u e).vf (λ c v hc q=>x9 (hs.2 c ?_) q) (abg q q) λ _ _ q=>q
 rintro rfl;rcases hc with rfl | hc
 ·rw[hn] at e; cases e
 ·rw[hn] at hc; cases hc)
abbrev Ad aNo(ifs:ab5)(t:TT):Prop :=
 ∀aNQ(Q:at4),z0->an5 →
  ads (forIn ifs true λ c r=>if b8 r then do let ok ← isTrue c X.env (ag9 c); pure aMk else amy (ForInStep.yield r)) (TP X pins σ Q) s
abbrev ZL:TT:=λ _ H Q=>Q true H
def OD aNF:Ad X [] ZL:=λ pins s σ H Q I h=>wpAny_tests_nil ⟨H,I,h⟩
def OE aNF{c:Expr}{t:TT}(h:api c t):Ad X [c] t:=λ pins s σ H Q I hw=>wpAny_tests_one (h pins s σ H Q I hw)
abbrev C0(J:It)(g:TG)(tt:TT)aQa(acc:Addr)(Q:aqT)aQD:Prop :=
 ∃W:ajM (aqb g8 apd),(∃m,W 0 m [] σ H)/\∀i m ys σ' H',W i m ys σ' H' →
  (J.stop i H'/\Q H') ∨
  (J.go i H'/\∀x H2,J.yld i H' x H2->g x σ' H2 λ σ3 H3=>tt σ3 H3 λ b H4 =>
   if b8 b then te σ3 H4 λ y H5=>H5 acc=akF ys/\ys.length<sizeLine/\∃m',m'<m/\W (i+1) m' (ys++[y]) σ3 (af3 H5 acc (ς (ys++[y])))
   else ∃m',m'<m/\W (i+1) m' ys σ3 H4)
abbrev OF aPG(wi:TI)(g:TG)(tt:TT)aQa:TE:=λ σ H Q =>
 wi σ H (acF J (∀acc,ax2 acc->C0 J g tt te acc (Q (Δ acc)) azz (af3 H1 acc (ς []))))
def r9 aSu aOy{R:aHF}aNJ{elt target iter:Expr}{ifs:ab5}aQL aOD{it acc:Value}aPZ(I:ajM am0)
  (turn:∀n s,I n s->aes ahK A (pyNext it) (λ r s₁=>match r with
   | none=>R (.ok .next) s₁
   | aeJ=>ahS ahK A (letOwnedTupleGo target it v) (abg s₁' (ahS ahK A (assign target env v) (λ _ s₂ =>
     ahS ahK A (forIn ifs true λ c r=>if b8 r then do let ok ← isTrue c env (ayd c); pure aMk else amy (ForInStep.yield r)) (λ ok s₃ =>
      if b8 ok then ahS ahK A (ayd elt) (λ x s₄ =>
       ahS ahK A (call (adX "list.append") [acc,x]) (abg s₅ (∃m,m<n/\I m s₅)) anY s₄) anY s₃
      else ∃m,m<n/\I m s₃) anY s₂) anY s₁')) anY s₁) anY)
  aNd(h:I n s) :
  ark ahK A (.compLoop (.ListComp elt [⟨target,iter,ifs,0⟩] scope pos) 0 it acc env) R s:=by
 refine codeAny_loop rfl I (NV n s hI) n h;show aes _ A ((compTurn (.ListComp elt [⟨target,iter,ifs,0⟩] scope pos) 0 it acc env).onRaise (λ x=>do noteFrame x env; theTreesLotGoes x)) _ _;rw[ahn (wpAny_noted ?_) compTurn_list];refine aJv (adi (wpAny_mono (turn n s hI) (NV r s₁ h₁) λ _ _ h'=>h'.elim));cases r with
 | none=>rw[aA3 h₁]
 | some v =>
  rw[adY (adi (wpAny_mono h₁ (NV _ s₁' h₁') λ _ _ h'=>h'.elim)) (adi (wpAny_mono h₁' (λ _ s₂ h₂=>adi (wpAny_mono h₂ (NV ok s₃ h₃) λ _ _ h'=>h'.elim)) λ _ _ h'=>h'.elim))];cases ok with
  | false=>rw[aA3 (ah9 h₃)]
  | true =>
   exact adi (adi (wpAny_mono h₃ (λ x s₄ h₄=>adi (wpAny_mono h₄ (λ _ s₅ h₅=>aq9 (wpAny_pure (ah9 h₅))) λ _ _ h'=>h'.elim)) λ _ _ h'=>h'.elim))
section
variable {X:Cx} {scope:Scope} {N:acC} {nq:aeI}
def dt.cells(ok:auI)(xo:X.Ok):ae8 scope.names (p.2=amA->∃c,X.env.cells.lookup p.1=agF):=λ p hp e=>xo.has p.1 (ok.free p hp e)
def HW aOC aO8{h1:Heap}{tk:Nat}(co:auI)aQW(DZ:∀b∈fp,ava b)
  (LC:h1.Ns afv awO)(hk:∀b o,(aqa ([]:x6)).get? b=aaW->aF1=aaW) :
  Inv (gX X scope N afv fp (ahB s (aqa ([]:x6))) (upd H s.heap.objs.size (ς []))) [] azz (upd H s.heap.objs.size (ς []))
   (ahE s h1 tk):=by
 have cells:=aEO;rw[d9 look (∀x c,ahs aCB x=agF->ajU=agF) (λ x c e=>wK cells (λ c h=>anP) e) I1 (aeC (upd H s.heap.objs.size (ς [])) (ahE s (aqa ([]:x6)) s.toks)) (I.WQ (t':=s.toks) abT aog)];rw[d9 agy (∀b o,ags->aC6) (amT (aiB ajp)) fne (an0 ara (b∈X.env.locals::X.fs)) I.DD];rw[ahq Ae (aII ([]:x6)=afv) (Heap.size_push ..) ⟨⟨I.ok.mod,co.kind,I.ok.glob,I.ok.blt,?_,?_,?_,λ x c h=>(nomatch h),I.ok.hd,I.ok.frames,b4 rfl,?_,?_,?_,?_,?_,?_,?_⟩,rfl,I.bare,Un.kept hk,?_,?_,?_,?_,?_,?_,?_⟩]
 ·show aII ([]:x6)≤afv;rw[Ω Ae ack]
 ·intro x y c e1 e2;exact I.ok.inj x y c (look x c e1) (look y c e2)
 ·intro x hx;rw[apI (Ac (b4 ?_)) hx ((aFx aGj) x=agG\/(aFx aGj) x=aoB) hx key (∀(l:axz),(∀y∈l,y.2≠arV)->(ahs (l.map fun(n,k)=>if (ajr k && aAI anj && X.env.kindOf n == agG) then(n,NameKind.cell) else(n,k)) x=agG ∨
    ahs (l.map fun(n,k)=>if (ajr k && aAI anj && X.env.kindOf n == agG) then(n,NameKind.cell) else(n,k)) x=aoB)->aJ6 x∈l) (by
   intro l
   induction l with
   | nil=>intro _ h; rw[ao2]
   | cons p r ih =>
    obtain⟨n,k⟩:=p;intro hn h;rw[d9 hn' (∀y∈r,y.2≠arV) (alf y (hn y (aha hy))) hkc (k≠arV) (hn (n,k) List.mem_cons_self)];rw[zC] at h;rw[ahT hc (ajr k && aAI anj && X.env.kindOf n == agG)]
    ·rw[ane];rw[amg hc h];rw[aJy h];cases hx:x == n with
     | true =>
      have e:x=n:=aHV
      rw[aI2 hc]
      have ek:k=amA:=aaF hc.1.1
      rw[e,ek];rw[aJs]
     | false =>
      rw[g9 hx h (aha (ih hn' h))]
    ·rw[ane];rw[if_neg hc] at h;rw[aJy h];cases hx:x == n with
     | true =>
      rw[hx] at h
      have e:x=n:=aHV
      rcases h with h | h
      ·rw[ajQ aMt hkc]
      ·rw[au8 ek (k=amA) h];rw[e,ek];rw[aJs]
     | false =>
      rw[g9 hx h (aha (ih hn' h))])]
  exact key scope.names co.OC hx
 ·intro b hb;obtain⟨f0,f1,f2,f3,f4,f5⟩:=hf b hb;rw[aab (aiB (Nat.lt_succ_of_lt (DZ b hb))) (λ x c e=>f4 x c (look x c e))]
 ·intro b o e;exact I1.bs b o e
 ·rw[as8 (X.base.objs.size≤aII ([]:x6)) Ae (Nat.le_succ_of_le (aD1 I.sz))]
 ·intro b o e hb;obtain⟨f0,f1,f2,f3,f4,f5⟩:=hf b hb;rcases f3 with z | z
  ·exact I.ok.N0 b o e z
  ·rw[ajQ (aqO ajp (aD1 z)) (Nat.lt_irrefl _)]
 ·intro b hb hm;obtain⟨f0,f1,f2,f3,f4,f5⟩:=hf b hb;rcases List.mem_cons.mp (fne b hm) with z | z
  ·exact f1 z
  ·exact f2 z
 ·exact I1.stack
 ·exact I1.DF
 ·rw[ab8 awO LC (ais j x v e1 e2 e3)];rw[anh uc e2 zJ e2];cases ec:nq[j]? with
  | none=>rw[ec] at e2; cases e2
  | some o =>
   rw[ec] at e2;cases o with
   | none=>cases aMh
   | some i =>
    rw[d9 e2' ((σ[i]?).join=aeJ) aMh ady aDH (by
     cases q:σ[i]? with
     | none=>rw[q] at e2'; cases e2'
     | some z=>rw[q] at e2'; rw[ahG z aeJ e2'])]
    obtain⟨c1,c2,c3⟩:=co.nq j x i e1 ec;rw[alv m hn hl I.loc kx (apD x agG\/apD x aoB) (co.free (x,amA) c2 rfl)];obtain⟨u,ru,lk⟩:=hl i x v c1 ady (b9 kx)
    rw[ab8 u ru ?_];rcases lk with⟨k1,_⟩ | ⟨k1,c,hc,xU⟩
    ·rcases kx with z | z<;>(rw[k1] at z; cases z)
    ·refine b9 ⟨?_,c,?_,?_⟩
     ·rcases vw (env:=X.env) c3 with z | ⟨_,z⟩
      ·exact b9 z
      ·exact b4 z
     ·obtain⟨c',B5⟩:=Ac (env:=X.env) (x:=x) (l:=scope.names) (acc:=[]) (b4 c2);rw[aiL (look x c' B5) hc];cases this;exact B5
     ·rw[agl oc ho hd xU oc (hk _ _ aCr) hd]
 ·intro x c e;rw[afr v oc ho hd (I.cell x c (look x c e)) ⟨v,oc,hk _ _ aCr,hd⟩]
 ·show YW (upd H s.heap.objs.size (ς []) afv);rw[ab9 aMl (akM apA)]
 ·intro x c e;exact I1.m3 x c (look x c e)
 ·intro p hp;rw[ajQ (axU p ([]:x8) hp) Ξ]
 ·exact I1.cR.kept hk
 ·show acL azz=N.length;rw[agC uc zK co.len]
def comp_back aPD{σ σ':St}aQH aO8{h2:Heap}aQW
  (J:Inv (gX X scope N afv fp (ahB s (aqa ([]:x6))) (upd H s.heap.objs.size (ς []))) [] σ' H' s')
  (hs:aJU afv s'.heap):ard H' s' h2:=by
 have u1:Un ara fp H (upd H s.heap.objs.size (ς [])) s.heap (aqa ([]:x6)) :=
  Un.laid (λ b u e=>afR e) ack I.fresh
 rw[ajg u2 (Un ara fp (upd H s.heap.objs.size (ς [])) H' (aqa ([]:x6)) s'.heap) J.base u3 (u1.trans u2)];rw[ajs hn (aka afv) J.free old (∀b o,ags->aF2=s'.heap.get? b) (amT (hs.2 b (aiB (Nat.lt_succ_of_lt ajp)))) (I.U0 (s':=ahB s' h2) (ch:=fp) J.os ⟨ais b o e n h1 ZM,ais b o e n h1 ZM,u3.free,alQ e h1,u3.oZ,u3.ni,u3.o4⟩ (J.cR.but hn hs) J.bare aiu)]
 ·rw[aeh (apE ((ahB s' h2:Shared).heap.get? b=aF2)) (old b o e) (u3.keep b o e n h1 ZM)]
 ·rw[afk sl q (u3.slot b o e n h1 ZM) sl (by rw[aeh (apE ((ahB s' h2:Shared).heap.get? b=aF2)) (old b o e) q])]
 ·rw[afk o' q (u3.there b o e h1) o' (by rw[aeh (apE ((ahB s' h2:Shared).heap.get? b=aF2)) (old b o e) q])]
 ·obtain⟨f0,f1,f2,f3,f4,f5⟩:=hf b hb;exact⟨f3,f1,f4,f5⟩
variable {elt iter tg:Expr} {ifs:ab5} {wi:TI} {g:TG} {tt:TT} {te:TE} {pos:Pos}
def FN aOC{it:Addr}aO8{tn:ajM avN}{J:It}{Q:aDo}{RR:aoc (Addr->aHF)}
  aRl aNa(T:Turn X.prog X.w X.K tg J fp it tn)(st:aF5 0)(hf:auD)
  (hg:∀C s0 H0,PG (gX X scope N C fp s0 H0) tg g)(hi:∀C s0 H0,Ad (gX X scope N C fp s0 H0) ifs tt)(he:∀C s0 H0,PE (gX X scope N C fp s0 H0) elt te)
  (hw:∀acc,ahW acc->C0 J g tt te acc (Q (Δ acc)) azz (aiP acc ς []))
  (hR:∀(H':Hp)aPg(σ':St),Inv (gX X scope N afv fp (ahB s (aqa ([]:x6))) (upd H s.heap.objs.size (ς []))) [] σ' H' s' →
   ajl aii->RR aii afv (.ok .next) s') :
  ads (newList []) (λ acc s₃=>ads (newFunctionEnv scope X.env.globals aCB [] X.env.qual none aaY (some X.env)) (λ ZN s₄ =>
   ark (model X.prog X.w) X.A (.compStart (.ListComp elt [⟨tg,iter,ifs,0⟩] scope pos) 0 (Δ it) acc { ZN with scope:=aGj }) (RR acc ZN.locals) s₄) s₃) s:=by
 rw[ab4 DZ (∀b∈fp,ava b) (aqt (by
  obtain⟨o,e,_⟩:=T.obj _ _ st b hb;rw[at5])) (wpAny_newObj_type (wpAny_newFunctionEnv co.OC (by intro y hy; simp at hy) (NV h₁ WZ W4) co.kind))];dsimp only at WZ W4 ⊢;have Ae:aII ([]:x6)=afv:=Heap.size_push ..
 rw[Ae] at WZ W4 ⊢
 rw[d9 hk (∀b o,(aqa ([]:x6)).get? b=aaW->h₁.get? b=aaW) (λ b o e =>
  W4.extBut b o (by have:=ajp;rw[g9 Ae this (Nat.ne_of_lt this)]) (afR e)) hk0 (∀b o,ags->h₁.get? b=aaW) (amT (hk b o (afR e)))];rw[ajg st1 (tn 0 h₁) (T.keep _ _ _ st λ b _ o e=>hk0 b o e) J1 (HW (tk:=s.toks+ahb ([]:arf)) co I hf DZ (h1:=h₁) (aaF WZ) hk)];generalize LF:gX X scope N afv fp (ahB s (aqa ([]:x6))) (upd H s.heap.objs.size (ς []))=Xc at J1 hR
 rw[agw eP (Xc.prog=X.prog) (by rw[azk]) eW Xc.w X.w (by rw[azk])]
 rw[agw eK (Xc.K=X.K) (by rw[azk]) eA Xc.A X.A (by rw[azk])]
 rw[agw ec (b8 Xc.calm) (by rw[abQ LF ud]) eE Xc.env (compEnvC scope aCB afv X.env) (by rw[azk])]
 rw[d9 ex (Xc.xe=anY) (by rw[azk]) hg' (PG Xc tg g) (by rw[abQ LF (hg _ _ _)])]
 rw[d9 hi' (Ad Xc ifs tt) (by rw[abQ LF (hi _ _ _)]) he' (PE Xc elt te) (by rw[abQ LF (he _ _ _)])]
 have HG:∀{H':Hp},(∀b∈fp,aka b)->∀b∈fp,yD Xc [] H' b:=λ{H'} hn b hb=>by
  obtain⟨f0,f1,f2,f3,f4,f5⟩:=hf b hb;refine⟨hn b hb,?_,?_,b4 ?_,?_,?_⟩
  ·rw[Ω eE (aiB (Nat.lt_succ_of_lt (DZ b hb)))]
  ·rw[← LF];show b∉ara;intro hm;rcases List.mem_cons.mp (I.DD b hm) with z | z
   ·exact f1 z
   ·exact f2 z
  ·rw[abQ LF hb]
  ·intro x c e;rw[g9 eE e (f4 x c (wK aEO (λ c h=>anP) e))]
  ·intro p hp;rw[← LF] at hp;rw[ajQ (axU p ([]:x8) hp) Ξ]
 obtain⟨W,⟨m0,w0⟩,turn⟩:=hw s.heap.objs.size I.fresh
 rw[d9 fr0 (∀b∈fp,YW (upd H s.heap.objs.size (ς []) b)) (aqt (by
  rw[aeN (aQ (aiB (DZ b hb))) (hf b hb).1])) loop (∀sx:Shared,sx=ahE s h₁ (s.toks+ahb ([]:arf)) →
   ark (model X.prog X.w) X.A (.compLoop (.ListComp elt [⟨tg,iter,ifs,0⟩] scope pos) 0 (Δ it) aii (compEnvC scope aCB afv X.env)) (RR aii afv) sx) (by
  rintro sx rfl;refine r9 (λ n s'=>∃i ys σ' H',Inv Xc [] σ' H' s'/\tn i s'.heap/\(∀b∈fp,aka b)/\W i n ys σ' H') ?_ m0 ⟨0,[],azz,_,J1,st1,fr0,w0⟩;rintro n s3 ⟨i,ys,σ3,H3,I3,Wc,Zj,w3⟩;rcases turn i n ys σ3 H3 w3 with⟨stop,qn⟩ | ⟨go,step⟩
  ·rw[aiL (T.done Xc eP eW eK ec i [] s3 σ3 H3 anY I3 (HG Zj) Wc stop) eA];refine agB this r s4 ⟨hr,I4⟩;rw[adL hr (hR H3 s4 σ3 I4 qn)]
  ·rw[aiL (T.item Xc eP eW eK ec i [] s3 σ3 H3 anY I3 (HG Zj) Wc go) eA];refine agB this r s4 ⟨u,hr,h4⟩
   subst hr
   refine agB h4 _ s5 ⟨x,H5,I5,r5,y5,We,fr5⟩;rw[aaa I5' (I5.pinned (HG fr5) (T.obj _ _ We)) a1 (hg' _ s5 σ3 H5 x u _ I5' r5 (step x H5 y5))];rw[eP,eW,eA,eE,ex] at a1;rw[amn (agB a1 _ s6 ⟨σ6,H6,I6,q6⟩) a2 (hi' _ s6 σ6 H6 _ I6 q6)];rw[eP,eW,eA,eE,ex] at a2;rw[ahV (agB a2 b s7 ⟨H7,I7,q7⟩) again (∀{σ8:St}{H8:Hp}{s8:Shared}{zs:g8},Inv Xc ([]++zS fp s5.heap) σ8 H8 s8->(∃m',m'<n/\W (i+1) m' zs σ8 H8)->∃m,m<n/\∃i ys σ' H',Inv Xc [] σ' H' s8/\tn i s8.heap/\(∀b∈fp,aka b)/\W i m ys σ' H') (λ{σ8 H8 s8 zs} I8 ⟨m',hm,w8⟩=>by
    refine⟨m',hm,i+1,zs,σ8,H8,I8.vi,T.keep _ _ _ We λ b hb o e=>(I8.pin (b,o) (aps (aps (qE hb e)))).1,aiu,w8⟩;obtain⟨o,e,d⟩:=T.obj _ _ We b hb;exact(I8.pin (b,o) (aps (aps (qE hb e)))).2.1)]
   cases b with
   | false =>
    rw[als alj q7 (again I7 q7)]
   | true =>
    rw[aeO] at q7 ⊢;have a3:=he' _ s7 σ6 H7 _ I7 q7;rw[eP,eW,eA,eE,ex] at a3;rw[amn (agB a3 v s8 ⟨y,H8,I8,r8,q1,q2,q3⟩) a4 (CW (X:=Xc) _ s8 σ6 H8 aii [y] aii [v] (abg H' (∃m',m'<n/\W (i+1) m' (ys++[y]) σ6 H')) I8 rfl (aaT r8 abT) ⟨_,ys,y,rfl,rfl,q1,q2,q3⟩)];rw[eP,eW,eA,ex] at a4;exact afu a4 _ s9 ⟨_,H9,I9,_,q9⟩ (again I9 q9))]
 exact codeAny_compStart_list (loop _ rfl) (T.self X.A 0 _ _ _ st1 (loop _ rfl))
def SG aUw
  aTg
  aQg:adz (.ListComp elt [⟨tg,iter,ifs,0⟩] scope pos) (OF nq wi g tt te):=by
 intro pins s σ H Q I h;rw[eval_ListComp];rw[adY (wpAny_comprehension_free (use:=none) rfl hs (Ab aEO) co.kind co.names ?_) (afu (zm pins s σ H _ I h) v s1 h1 (agB h1 itv s2 h2))];obtain⟨it,fp,tn,J,H2,e,I2,T,JH,f2,w⟩:=h2;subst e;refine FN (RR:=λ acc C=>compPost (model X.prog X.w) X.A X.xe none (EP X pins σ Q) acc C) co ud I2 T JH f2 (λ C=>hg C fp) (λ C=>hi C fp) (λ C=>he C fp) w (adW H' s' σ' J' q);obtain⟨m,hn,_⟩:=J'.loc;rw[Lb m hn (λ h' sd=>aa9 (Δ _) H' (comp_back I2 f2 J' sd) q)]
def HX aNt{y:Str}{py OG:Pos}aUw
  aTg
  aPf(hy:ahf X.N y)(hx:aIR y)aS4
  aS8
  aQg:PS X (anv [aad y py] (.ListComp elt [⟨tg,iter,ifs,0⟩] scope pos) OG) (V8 (OF nq wi g tt te) (JG i)):=by
 intro pins s σ H D I h
 rw[anI (exec_Assign_Name_used _ _ _ _ hsw) (aJv aJ7)];show wpAny _ _ (do let _ ← comprehension (.ListComp elt [⟨tg,iter,ifs,0⟩] scope pos) scope X.env _ (newList []) false (ag9 iter) (c8 (asN (aad y py)))) _ _ s;rw[adY (adi (wpAny_mono (wpAny_comprehension_free (use:=c8 (asN (aad y py))) (Q:=abg s' (SP X pins D .next s')) rfl hs (Ab aEO) co.kind co.names ?_) (λ _ s' hq=>aq9 (wpAny_pure hq)) λ _ _ e=>e)) (afu (zm pins s σ H _ I h) v s1 h1 (agB h1 itv s2 h2))];obtain⟨it,fp,tn,J,H2,e,I2,T,JH,f2,w⟩:=h2;subst e
 refine FN (Q:=acF v (JG i v σ H1 D.nx)) (RR:=λ acc C=>compPost (model X.prog X.w) X.A X.xe (c8 (asN (aad y py))) (abg s' (SP X pins D .next s')) acc C) co ud I2 T JH f2 (λ C=>hg C fp) (λ C=>hi C fp) (λ C=>he C fp) w (adW H' s' σ' J' q)
 obtain⟨m,hn,_⟩:=J'.loc;have B:=comp_back (h2:=s'.heap) I2 f2 J' (Heap.SameBut.refl ..);show ahS _ _ (aE0 (aad y py) aB1) _ _ _;rw[d9 hnC (aka aC9) J'.free hCL (axb aC9) (Nat.ne_of_gt (Nat.lt_succ_of_lt I2.lt))]
 rw[ab4 hCc (∀x c,ajU=agF->c≠aC9) (λ x c e z=>by
  obtain⟨v,q'⟩:=I2.cell x c e;have:=q'.lt;rw[g9 z this (absurd this (Nat.not_lt.mpr apA))]) (wpAny_assign_Name (CL (s:=ahB s' s'.heap) B hN hy hx (v:=aB1) rfl (NV s3 I3 ⟨a,hsb,ha⟩) hf))]
 have hCa:aC9≠a:=by
  rcases ha with z | z
  ·rw[Ω z hCL]
  ·exact adD (hCc y a z e.symm)
 rw[ab8 m (hn.sameBut hsb hCa) (ab7 h' sd)];rw[an1 _ H' (I3.turned (t':=s3.toks) (it:=aC9) (λ b o hb e=>x9 (sd.2 b hb) e) hnC hCL (b9 (Nat.le_succ_of_le I2.sz)) hCc (NV p hp z)) q];have:=Heap.lt_size (I2.pin p hp).1
 rw[g9 z this (absurd this (Nat.not_lt.mpr apA))]
universe zE
universe L2
universe zE
end
mutual
section
namespace L2
open PySem PySem.Spec PyProof.Rows
structure XS aOO(outer:afJ)aNz aND(e:Addr)(cls:Value)(H':Hp)aPg:Prop where
 os:s'.os=s.os
 bare:axm
 ZO:∃(B:Heap) (a0:Value),Heap.FlyingW B outer e cls a0 s'.heap/\qD P w H' B/\(∀b o,ags->agr->b∉aow->aGt=aaW) ∧
  ∀b o,ags->b∉aow->∃o',t6 aGt o'
 slot:∀b o,ags->agr->b∈aow->∃sl,t6 (s'.heap.get? b) (aEV o sl)
 free:∀b o,ags->agr->aka b
 oZ:∀b xs,H b=ak7->alW=ak7
 ni:∀b o u,H b=ab1 .ko o u->alW=ab1 .ko o u
 o4:∀b ps,H b=aa2 .uy ps->∃more,alW=alB .uy (ps++more)
abbrev rS aOO:Hw:=λ outer H s E ev s'=>∃(e:Addr) (cls:Value) (H':Hp),ev=Δ e/\XS P w outer H s e cls H' s'/\E cls none H'
def XS.un aOl aPy aQH{e:Addr}{cls:Value}aSg:Un aow [] H H' s.heap s'.heap:=by
 obtain⟨B,a0,f,cR,k1,k2⟩:=x.ZO;refine⟨λ b o q n hb _=>f.1 b o (k1 b o q n hb),λ b o q n hb _=>x.slot b o q n hb,λ b o q n _=>x.free b o q n,alQ q _,x.oZ,x.ni,x.o4⟩;rw[akY (b∈aow)]
 ·obtain⟨_,o',ho,_⟩:=f.2.2.1.mem hb;rw[aab o' ho]
 ·rw[afk o' ho (k2 b o q hb) o' (f.1 b o' ho)]
def XS.cR aOl aPy aQH{e:Addr}{cls:Value}aSg:qD P w H' s'.heap:=by
 obtain⟨B,a0,f,cR,k1,k2⟩:=x.ZO;exact cR.kept (agi o q (f.1 b o q))
def SH aPq{N:acC}aRx aRn aOy aPy aNJ aNu aOM :
  Passes (rS P w) (lp (rS P w) P w K mg base N qual scope f cd A outer s H E) E:=by
 intro pins σ H1 s1 ev s2 I h;obtain⟨e,cls,H2,rfl,x,q⟩:=h;obtain⟨B,a0,fl,cR,k1,k2⟩:=x.ZO;have SI:(A.deeper (envOfC qual scope s.heap.objs.size f cd)).frames=c8 aya:=I.ok.frames;show ahS (model P w) (A.deeper (envOfC qual scope s.heap.objs.size f cd)) (leaving (envOfC qual scope s.heap.objs.size f cd) (Δ e)) _ _ s2;rw[apI (wpAny_leaves_onW SI rfl fl (atl fl' up)) hL (∀b o,ags->aC6) (agi o q (aAL q)) nf (∀b o,ags->b∉aow->b∉atY) (λ b o q hb hm=>by
  rw[anh rL hm List.filterMap_cons hm];rcases aL7 with z | z
  ·exact hL b o q z
  ·exact hb z)]
 rw[ahq nx (∀b:Addr,b∉([]:c9)) (λ b z=>aqV z) (auK e cls H2 ⟨x.os.trans I.os,x.bare,⟨B,a0,fl',cR,aCJ,alQ q hb⟩,aCJ,alQ q n,λ b xs q=>x.oZ b xs (aEY b q),λ b o u q=>x.ni b o u (aA7 b u q),aiw ps⟩ q)]
 ·exact k1 b o (I.base.keep b o q n hb (nx b)) (I.base.free b o q n (nx b)) (nf b o q hb)
 ·rw[adP o1 q1 (I.base.there b o q (nx b)) (k2 b o1 q1 (nf b o q hb))]
 ·rw[anc sl q1 (I.base.slot b o q n hb (nx b)) hm (b∈atY) (by
   rw[agC rL List.filterMap_cons (aha hb)])]
  obtain⟨sl2,q2⟩:=x.slot b _ q1 (I.base.free b o q n (nx b)) hm;obtain⟨_,o3,q3,W5⟩:=fl.2.2.1.mem hm
  rw[q2] at q3;cases q3;rw[afk NM q4 (up b _ q2 W5) NM q4]
 ·rw[adP o1 q1 (I.base.there b o q (nx b)) (x.free b o1 q1 (I.base.free b o q n (nx b)))]
 ·obtain⟨m1,e1⟩:=I.base.o4 b ps q;rw[afk m2 e2 (x.o4 b _ e1) (m1++m2) (af1 e2 Array.append_assoc)]
structure SJ aQX aNM aNK:Prop where
 name:mg x=aC5
 exc:PySem.W.excIn K C [acr "ValueError",acr "Exception",aB2,aCd] "ValueError.__new__" = true
def SJ.own aNE{mg:ac0}aNg aN3 aOe(X:auH x C)(KX:aHL):OwnCls x C [acr "ValueError",acr "Exception",aB2,aCd] "ValueError.__new__" mg h:=by
 have q:=X.exc;rw[ac4 X.name ?_];unfold PySem.W.excIn at q;split at q
 ·rename_i dd cd sl ho;split at q
  ·rename_i C' bm k0 k1 k2 k3 n k5 hm hs;simp only[Bool.and_eq_true,beq_iff_eq,Bool.not_eq_true'] at q;obtain⟨⟨⟨⟨⟨rfl,rfl⟩,ZP⟩,ht⟩,cR⟩,hni⟩:=q;obtain⟨nm,bs,mro,ns,qn,hd,sn,sub,ab,col,del⟩:=cd;dsimp only at hm ZP cR hni;subst hm ZP
   rw[aip tw (sl=#[k0,k1,k2,k3,aa2 adX "ValueError.__new__",k5]) (by
    obtain⟨l⟩:=sl;simp only at hs;rw[hs]) tw];exact⟨bm,ns,nm,qn,bs,hd,sn,sub,ab,col,dd,k0,k1,k2,k3,k5,_,KX _ _ ho,.of_isNs (PySem.W.isNs_of_in KX cR),PySem.W.nsMap_none_of_in KX cR hni,PySem.W.tail_of_in KX ht⟩
  ·cases q
 ·cases q
abbrev W6 aNK(E:XK)(ta:TA):TS:=an4 (ta σ H (acF vs (aKb/\E (Δ C) none H1)))
def FO aPq{N:acC}aRx aRn aOy aPy aNJ aNu aOM
  aNg aN3{np cW pos:Pos}{e₀:Expr}{rest:ab5}{ta:TA}(M:auH x C)(hh:YW (A.deeper (envOfC qual scope s.heap.objs.size f cd)).handled)
  (hg:Gl (lp (rS P w) P w K mg base N qual scope f cd A outer s H E) x)(ha:PA (lp (rS P w) P w K mg base N qual scope f cd A outer s H E) (e₀::rest) ta)
  aON
  aS2
  aUc :
  PS (lp (rS P w) P w K mg base N qual scope f cd A outer s H E) (.Raise (c8 (aet (aad x np) (e₀::rest) [] cW)) none pos) (W6 C E ta):=by
 intro pins s1 σ H1 D I h;have O:=M.own I.Fy;obtain⟨tl,Nn,nm,q,bs,hdct,sn,sub,ab,col,dd,k0,k1,k2,k3,k5,mN,hC,hN,hni,T⟩:=(M.own (I.ok.mod.YL)).obj;rw[apQ FB PySem.F.excBase_ValueError Aa (aiF (backTo cW (starEach (e₀::rest) (envOfC qual scope s.heap.objs.size f cd))).any) (by
  rw[he]; show aiI (false || aeS (aLk).any); rw[ab2 p7]) (wpAny_Raise_call_subT (C:=C) (nm:=nm) (q:=q) (N:=Nn) (bs:=bs) (bm:=tl) (hdct:=hdct) (sn:=sn) (sub:=sub) (ab:=ab) (col:=col) (dd:=dd) (k0:=k0) (k1:=k1) (k2:=k2) (k3:=k3) (k5:=k5)
  FB (mN:=mN) (T.hasType FB.hasBase) hh Aa hni (vh I hg M.name (ah9 ?_) hd))]
 rw[aaa hA (ha cW pins s1 σ H1 _ I h) hA' hA];show ahS (model P w) (A.deeper (envOfC qual scope s.heap.objs.size f cd)) (evalArgs (Δ C) true (backTo cW (starEach (e₀::rest) (envOfC qual scope s.heap.objs.size f cd))) []) _ _ s1;have hA2:ahS (model P w) (A.deeper (envOfC qual scope s.heap.objs.size f cd)) (spliced (backTo cW (starEach (e₀::rest) (envOfC qual scope s.heap.objs.size f cd)))) (AP (lp (rS P w) P w K mg base N qual scope f cd A outer s H E) pins σ _) _ s1:=hA
 rw[he] at hA2 ⊢;rw[avR (Calls.evalArgs_plain (wpAny_mono hA2 (NV us s2 ⟨vs,H2,I2,r2,hlen,q2⟩) λ _ _ y=>y)) ⟨rfl,by rw[abQ r2.length hlen],I2.bk _ _ hC,hN.keeps I2.bk,T.keeps I2.bk,atl e mk⟩];rw[agw L0 (s.heap.objs.size<s2.heap.objs.size) I2.lt SI (A.deeper (envOfC qual scope s.heap.objs.size f cd)).frames (c8 aya) I2.ok.frames];rw[d9 FF (s2.heap.FunFrames base aya) I2.stack DZ (∀env∈aya,∀b,env.frame=akd->b∈atY) (λ env he b hb=>List.mem_filterMap.mpr ⟨env,he,hb⟩)];show ahS (model P w) (A.deeper (envOfC qual scope s.heap.objs.size f cd)) (leaving (envOfC qual scope s.heap.objs.size f cd) (Δ e)) _ _ (akg s2);rw[apI (wpAny_leaves_madeW (base:=PySem.W.hideAll s2.heap atY) SI rfl (agi o q (PySem.W.of_hideAll _ q)) (PySem.W.funFrames_hide FF DZ) mk (ais h2 t x1 x2 x3 x4)) nx (∀b:Addr,b∉([]:c9)) (λ b z=>aqV z) hL (∀b o,ags->aC6) (agi o q (aAL q))]
 rw[d9 nf (∀b o,ags->b∉aow->b∉atY) (λ b o q hb hm=>by
  rw[anh rL hm List.filterMap_cons hm];rcases aL7 with z | z
  ·exact hL b o q z
  ·exact hb z) W7 (∀b o,H2 b=aaW->b∉atY) (λ b o q hm=>by
  rw[aiL (I2.DF b hm) q];cases this)]
 rw[ahq agJ (∀b y,H2 b=aa2 .own y->b∉atY) (agi y q (W7 b _ q)) (auK e (Δ C) H2 ⟨I2.os,I2.bare,⟨_,Δ t,x1,aiw o,aCJ,alQ q hb⟩,aCJ,λ b o q n=>I2.base.free b o q n (nx b),I2.base.oZ,I2.base.ni,I2.base.o4⟩ q2)]
 ·refine(I2.cR b o q).vf (λ c v hc z=>aD8 z ?_) (abg z z) λ _ _ z=>z;rcases hc with rfl | hc
  ·exact W7 _ _ q
  ·exact W7 _ _ hc
 ·exact aD8 (I2.base.keep b o q n hb (nx b)) (nf b o q hb)
 ·rw[afk o' q' (I2.base.there b o q (nx b)) o' (aD8 q' (nf b o q hb))]
 ·rw[anc sl q1 (I2.base.slot b o q n hb (nx b)) hm (b∈atY) (by
   rw[agC rL List.filterMap_cons (aha hb)])]
  obtain⟨_,o3,q3,W5⟩:=FF.mem hm
  rw[q1] at q3;cases q3;rw[afk NM q4 (x4 b _ (mk.keeps _ _ q1) W5) NM q4]
universe L2
universe zE
section
namespace L2
open PySem PySem.Spec PyProof.Rows
abbrev FP(e C:Addr):HO:=agj .ext h (∃ob vs,aFe e ob/\aDI/\aDg)
noncomputable abbrev Cx.tr aNo(pn:x8)(E:abP):Cx:={ X with pn:=pn,xe:=E }
abbrev vx(CX:Hw)aOm:Prop:=∀(pins:x8)aQD aND aRE,ahA (CX X.stack H s (Ex σ) e s') (X.xe e s')
abbrev W8(sp:Sp)(Lr:g8)aPW(t:TA):TE:=ahL (t σ H (acF vs (sp (vs++Lr) H1 Q (Ex σ))))
abbrev W9 aNK(m:Str)(sp:Sp)(Lr:g8)aPW(ta:TE)(t:TA):TE:=λ σ H Q=>ta σ H (acF x (∃a dx fs,x=Δ a/\H1 a=auy/\YW (fs.lookup m) ∧
 t σ H1 (ahP vs (sp (x::(vs++Lr)) H2 Q (Ex σ)))))
section
variable {X:Cx} {CX:Hw} {k:Nat} {f C:Addr} {fd:FuncData} {ps:acC} {sp:Sp} {Lr:g8} {ds:x6} {Ex:St->XK} {x m:Str} {p pos apos:Pos} {e o:Expr} {es:ab5} {ta:TE} {t:TA}
def JS aOC aN0 aOK aOr aQ9(hr:aCe)aSA
  aNa(r:atI)(h:sp (vs++Lr) H Q (Ex σ)):ads (call (Δ f) us) (EP X pins σ Q) s:=by
 rw[ajs r2 (auT (vs++Lr) (us++ds)) (r.append hd) hl (aGh (us++ds)) (by rw[abQ r2.length (F.len _ _ _ _ h)]) (aFh (codeAny_mono (F.run X.A X.stack s H (aiQ us) (us++ds) (vs++Lr) Q (Ex σ) hr I.Zu (hb s us I.Fy hl) r2 h) (NV r s' hq)))];cases r with
 | error e=>exact hx pins σ H s e s' I hq
 | ok fl =>
  cases fl with
  | ret u=>exact I.after hq
  | next=>rw[anb hq]
  | brk=>rw[anb hq]
  | cont=>rw[anb hq]
def OH aQ9(hr:aCe)(hg:ajS)(hm:ayU=aib f)(hk:b8 (PySem.W.keepIn X.K (Δ f)))aSA
  aQM aRm aPT :
  adz (aet (aad x p) (e::es) [] pos) (W8 sp Lr Ex t):=by
 intro pins s σ H Q I h;rw[adY (au6 (vh I hg hm ?_ HQ)) (PySem.W.callWith_K (h₀:=X.base) I.ok.mod.YL hk (afu (ha pos pins s σ H _ I h) us s1 ⟨vs,H1,I1,r,q⟩ (aik I1.Fy)) he p7)];exact JS F hr hb hd hx I1 r q
def OI{pl:aGr}(he:adz o ta)(c:aHG)(hm:Meth X.K C m f)aQ9(hr:aCe)aSA aQM
  aTk
  aSZ :
  adz (aet (ao0 m) (e::es) [] pos) (W9 C m sp Lr Ex ta t):=by
 intro pins s σ H Q I h
 refine PySem.W.methodCall_KW (pl:=pl) (amq (he pins s σ H _ I h) u ⟨x,H1,I1,rx,a,dx,fs,ex,ea,l,q⟩) ht
 subst ex
 obtain rfl:u=aol:=rx;rw[adY (HK I1 ea c hm l ?_) (PySem.W.callWith_K (first:=[Δ a]) (h₀:=X.base) I.ok.mod.YL hm.kp (afu (ha pos pins s1 σ H1 _ I1 q) us s2 ⟨vs,H2,I2,r,q2⟩ (aik I2.Fy)) B3 p7)]
 exact JS (us:=Δ a::us) (vs:=Δ a::vs) F hr hb hd hx I2 (aaT rfl r) q2
universe zE
def XS.next aOl aPy aQH{e:Addr}{cls a0:Value}{B h':Heap}aSg
  (f:Heap.FlyingW B outer e cls a0 s'.heap)(cR:qD P w H' B)(k1:∀b o,ags->agr->b∉aow->aGt=aaW)(k2:∀b o,ags->b∉aow->∃o',t6 aGt o')
  (f':Heap.FlyingW B outer e cls a0 h')(up:s'.heap.UpToSlots h'):XS P w outer H s e cls H' (akg s'):=by
 refine⟨x.os,x.bare,⟨B,a0,f',cR,k1,k2⟩,aCJ,x.free,x.oZ,x.ni,x.o4⟩;obtain⟨sl,q1⟩:=x.slot b o q n hb;obtain⟨_,o3,q3,W5⟩:=f.2.2.1.mem hb;rw[q1] at q3;cases q3;rw[afk NM q4 (up b _ q1 W5) NM q4]
def XS.OJ aNF aPD{σ:St}aQH{e C:Addr}aNa(x:XS X.prog X.w X.stack H s e (Δ C) H' s')(B3:aHt)(hdct:∃ob vs,t6 (s'.heap.get? e) ob/\aDI/\aDg) :
  aka e/\aeC (af3 H' e (FP e C)) s':=by
 obtain⟨B,a0,f,cR,k1,k2⟩:=id x.ZO;rw[d9 hBe (YW aGs) f.2.1 ZQ (aka e) (by
  cases q:H' e with
  | none=>rfl
  | some u =>
   have h1:=cR.lt q
   have:∃o,aGs=aaW:=by
    have z:=cR e u q;cases u with
    | lst xs=>obtain⟨_,_,_,_,z⟩:=z;rw[aeM z]
    | tup xs=>obtain⟨_,_,_,o,z,_⟩:=z;rw[aeM z]
    | dK kvs=>obtain⟨_,_,_,_,o,_,_,z,_⟩:=z;rw[aeM z]
    | dT kvs=>obtain⟨_,_,_,_,o,_,_,z,_⟩:=z;rw[aeM z]
    | set S n=>obtain⟨o,_,_,_,z,_⟩:=z;rw[aeM z]
    | ins C dx fs=>rw[aI8 z z z]
    | own y=>obtain⟨_,z⟩:=z;rw[aeM z]
    | xd fs=>obtain⟨_,⟨_,_,_,z,_⟩,_⟩:=z;rw[aeM z]
    | Fx lo hi=>obtain⟨_,_,_,z⟩:=z;rw[aeM z]
    | ko ob u=>obtain⟨z,_⟩:=z;rw[aeM z]
    | uy ps=>rw[aeM (ahG aGs ak3 z)]
    | met f y=>rw[aeM (ahG aGs ak3 z)]
    | ext φ=>obtain⟨_,⟨_,z⟩,_⟩:=z;rw[aeM z]
   rw[aq3 o z this hBe z];cases z)]
 rw[anq ob he hc hd hdct]
 rw[alC hnf (e∉ara) hm (by
  obtain⟨_,o3,q3,W5⟩:=f.2.2.1.mem hm;rw[he] at q3;cases q3;exact W5 vs hd) new (∀b o,ags->b≠e) (λ b o q z=>by
  subst z;rw[aq3 o' q' (k2 b o q hnf) hBe q'];cases q')]
 rw[ajg UX (∀b o,H b=aaW->b≠e) (agi o q (by
  have se:∃o',apL o':=by
   have z:=awd o q;cases o with
   | lst xs=>obtain⟨_,_,_,_,z⟩:=z;rw[aeM z]
   | tup xs=>obtain⟨_,_,_,o,z,_⟩:=z;rw[aeM z]
   | dK kvs=>obtain⟨_,_,_,_,o,_,_,z,_⟩:=z;rw[aeM z]
   | dT kvs=>obtain⟨_,_,_,_,o,_,_,z,_⟩:=z;rw[aeM z]
   | set S n=>obtain⟨o,_,_,_,z,_⟩:=z;rw[aeM z]
   | ins C dx fs=>rw[aI8 z z z]
   | own y=>obtain⟨_,z⟩:=z;rw[aeM z]
   | xd fs=>obtain⟨_,⟨_,_,_,z,_⟩,_⟩:=z;rw[aeM z]
   | Fx lo hi=>obtain⟨_,_,_,z⟩:=z;rw[aeM z]
   | ko ob u=>obtain⟨z,_⟩:=z;rw[aeM z]
   | uy ps=>rw[aeM (show apL _ from z)]
   | met f y=>rw[aeM (show apL _ from z)]
   | ext φ=>obtain⟨_,⟨_,z⟩,_⟩:=z;rw[aeM z]
  rw[adP o' z se (new b o' z)])) u x.un];rw[ac4 ZQ (I.U0 (ch:=[]) x.os ⟨u.keep,u.slot,adW b o q n z,u.there,aiw xs,alQ v q,aiw ps⟩ (aiw o) x.bare (ayE b z z))]
 ·rw[ab9 (new b o q) (u.free b o q n z)]
 ·rw[ab9 (UX b _ q) (u.oZ b xs q)]
 ·rw[ab9 (UX b _ q) (u.ni b o v q)]
 ·rw[afk m q' (u.o4 b ps q) m (by rw[ab9 (UX b _ q) q'])]
 ·have WY:=x.cR
  rw[akY (b=e)]
  ·rw[azS];cases q;rw[ab8 (ajP ob he hc hd) ⟨ob,he⟩ (acE h1 h2 p k)];rw[aen ob' vs' z1 z2 z3 p ⟨ob',vs',k _ z1,z2,z3⟩]
  ·rw[ayx ao3 q ((WY b o q).vf (λ _ _ _ z=>z) (ab7 c z) (NV c xs z))]
   ·rw[ab9 (λ zz=>by rw[zz,ZQ] at z; cases z) z]
   ·rw[ab9 (λ zz=>by rw[zz,ZQ] at z; cases z) z]
abbrev U9 aNc(Cb:Addr)(iy iN:Nat)(nx:apd):St->XK:=λ σ cls _ H'=>∃C,cls=Δ C/\PySem.W.exmOne K (Δ C) (Δ Cb)=aly ∧
 ∀e,aka e->nx ((σ.set iy (aib e)).set iN none) (af3 H' e (FP e C))
section
variable {X:Cx}
def Xa{x n y:Str}{Cb:Addr}{iy iN:Nat}aTF{tb:(St->XK)->TS}aOl(eP:X.prog=P)(eW:X.w=w)
  (B3:aHt)(SI:aJZ)(ud:agX)aPf
  (hx:ajS)(hm:ayU=aib Cb)(hy:acn X.N iy y)(ly:avC y)(hn:acn X.N iN n)(ln:avC n)
  (hb:∀(pn:x8)(Et:abP)aPW,vx (rS P w) aIi Ex->HC aIi body (tb Ex))
  aTt :
  PS X (.Try body [aJ3 (ab1 aad x np) aCn [anv [aad y py] (aad n YO) apos] SK] [] [] pos) (an4 (tb (U9 X.K Cb iy iN D.nx) D σ H)):=by
 subst eP eW;rw[ai0 D (wpAny_Try_except ?_)];have JJ:=I.ok.kind
 have I0:Inv (X.tr aqI (λ e s₁=>ads (noteFrame e X.env) (abg s₂ (ads (setFlight e none) (abg s₃ (ads (handleBy e X.env [aJ3 (ab1 aad x np) aCn [anv [aad y py] (aad n YO) apos] SK]) (SP X pins D) s₃)) s₂)) s₁)) [] σ H s :=
  ⟨⟨I.ok.mod,I.ok.kind,I.ok.glob,I.ok.blt,I.ok.above,I.ok.inj,I.ok.has,I.ok.Y2,I.ok.hd,I.ok.frames,I.ok.stk,I.ok.exf,I.ok.bs,I.ok.RD,I.ok.N0,I.ok.RU,I.ok.yC,I.ok.VX⟩,I.os,I.bare,I.base,I.loc,I.cell,I.free,I.m3,ahO (I.pin p (aaF hp)),I.cR,I.len⟩
 rw[ab4 back (∀{CK:x8}{σ':St}{H':Hp}{s':Shared}{Et:abP},Inv (X.tr aqI Et) CK σ' H' s'->auz) (λ{CK σ' H' s' Et} J =>
  ⟨⟨J.ok.mod,J.ok.kind,J.ok.glob,J.ok.blt,J.ok.above,J.ok.inj,J.ok.has,J.ok.Y2,J.ok.hd,J.ok.frames,J.ok.stk,J.ok.exf,J.ok.bs,J.ok.RD,J.ok.N0,J.ok.RU,J.ok.yC,J.ok.VX⟩,J.os,J.bare,J.base,J.loc,J.cell,J.free,J.m3,ahO (J.pin p (aJg hp)),J.cR,J.len⟩) (wpAny_mono (hb aqI _ (U9 X.K Cb iy iN D.nx) ?_ [] s σ H D I0 h) (NV f s1 q) λ _ _ z=>z)]
 ·
  intro CK σ1 H1 s1 ev s2 J1 q;obtain⟨e,cls,H2,rfl,x2,C,rfl,hex,qn⟩:=q;have J1:=back J1;obtain⟨B,a0,fl,cR,k1,k2⟩:=id x2.ZO
  have hfs:X.A.frames=c8 aKs:=af1 J1.ok.frames B3
  rw[show(X.tr aqI _).stack=aKs from B3] at fl k1 k2 x2
  show ahS (model X.prog X.w) X.A (noteFrame (Δ e) X.env) _ _ s2
  rw[adY (wpAny_looks_onW hfs SI fl (NV h3 held up3)) (wpAny_landsW held (NV h4 fl4 up4))];rw[aev x4 (x2.next fl cR k1 k2 fl4 (up3.trans up4)) x4' (XS X.prog X.w X.stack H1 s1 e (Δ C) H2 (ahB s2 h4)) (by rw[Ω B3 x4])]
  obtain⟨oe,vs,he,hc,hd,_⟩:=fl4.first
  obtain⟨_,J4⟩:=XS.OJ J1 x4' B3 (ajP oe he hc hd);refine wpAny_handleBy_cons (codeAny_handlers_test (Calls.Name_function_global J4.ok.kind hx (Calls.loadGlobal_global (by rw[Ω J4.ok.glob (J4.mod.glob.keeps J4.bk)]) hm ?_) ZR)) (by intro q; cases q)
  rw[ab4 LT (PySem.W.Looks (model X.prog X.w) h4 (typeOf (Δ e)) (Δ C)) (by
   rw[← hc];exact(aIG (PySem.W.Looks.ld he)) .now) (PySem.W.Looks.here (PySem.W.exm_one J4.Fy LT hex) ?_)];rw[aeO]
  rw[adY (codeAny_handlers_suite_as ?_) (lands_againW fl4 (NV h5 fl5 up5))];rw[aev x5 (x4.next fl4 cR k1 k2 fl5 up5) x5' (XS X.prog X.w X.stack H1 s1 e (Δ C) H2 (ahB s2 h5)) (by rw[Ω B3 x5])]
  obtain⟨oe5,vs5,he5,hc5,hd5,_⟩:=fl5.first
  obtain⟨ZQ,J5⟩:=XS.OJ J1 x5' B3 ⟨oe5,vs5,he5,hc5,hd5⟩;rw[adY (vg J5 hN hn (b4 ln) (v:=Δ e) rfl (ab7 s6 J6) (b9 ln)) (wpAny_execs_cons (wpAny_Assign_Name ?_ OK))];rw[alv m6 hn6 hl6 J6.loc hlen (iN < σ1.length) (by rw[aeN J1.len (List.getElem?_eq_some_iff.mp hn).1])]
  obtain⟨u6,ru6,lk6⟩:=hl6 iN n (Δ e) hn (agK (List.getElem?_set_self hlen)) (b4 ln);cases ru6
  rw[ab4 hm6 (m6 n=aib e) (by
   rcases lk6 with⟨_,z⟩ | ⟨k,_⟩
   ·exact z
   ·have ln':apD n ani := ln;rcases k with k | k<;>(rw[ln'] at k; cases k)) (wpAny_Name (wpAny_loadName_local JJ ln hn6 hm6 ?_) hdn)];rw[adY (vg J6 hN hy (b4 ly) (v:=Δ e) rfl (ab7 s7 J7) (b9 ly)) (wpAny_execs_nil ?_)];rw[ana m7 hn7 hl7 (id J7.loc) (wpAny_nameGoes_keeps ln hn7 (by rw[ab2 JJ]) (acE h8 v8 hn8 Xb))]
  have J8:auX X ((σ1.set iy (aib e)).set iN none) (af3 H2 e (FP e C)) (ahE s7 h8 (s7.toks+1)):=by
   have K7:=J7.weak (σ':=(σ1.set iy (aib e)).set iN none) Ξ (λ i v hv=>by
    by_cases hi:i=iN
    ·subst hi;rw[apq (aaF hlen) hv];cases hv
    ·rw[aqR (Ne.symm hi) hv];by_cases Va:i=iy
     ·subst Va
      have l2:i < σ1.length:=by rw[aeN J1.len (List.getElem?_eq_some_iff.mp hy).1]
      rw[apq l2 hv];rw[Ω (aAA (aaF l2)) hv]
     ·rw[aqR (Ne.symm Va) hv];rw[aeh (aAE (Ne.symm Va)) (aAE (Ne.symm hi)) hv])
   rw[alv m FQ hlm (id K7.loc) em (m=m7) (by
    obtain⟨o1,es1,ep1,ho1,hd1,_,f1⟩:=id FQ;obtain⟨o2,es2,ep2,NL,Sr,_,f2⟩:=id hn7;rw[ho1] at NL;cases NL;rw[hd1] at Sr
    injection Sr with Sr _;subst Sr
    funext z
    rw[← f1 z,← f2 z])]
   subst em;rw[ahq tracked (qD X.prog X.w (af3 H2 e (FP e C)) h8) (K7.cR.but K7.free Xb) ⟨K7.ok,K7.os,K7.bare,⟨ais b o q n hb hx,ais b o q n hb hx,K7.base.free,alQ q hx,K7.base.oZ,K7.base.ni,K7.base.o4⟩,apc hn8 (ais j z v e1 e2 e3),NV z c q,K7.free,K7.m3,asd,tracked,K7.len⟩]
   ·exact x9 (Xb.2 b (aiB (axg q K7.ok.above))) (K7.base.keep b o q n hb hx)
   ·rw[afk sl q1 (K7.base.slot b o q n hb hx) sl (x9 (Xb.2 b (aiB (axg q K7.ok.above))) q1)]
   ·rw[afk o' q1 (K7.base.there b o q hx) o' (x9 (Xb.2 b (aiB (axg q K7.ok.above))) q1)]
   ·obtain⟨u,ru,lk⟩:=hlm j z v e1 e2 e3
    rw[ab8 u ru ?_];rcases lk with⟨kk,mz⟩ | ⟨kk,c,B5,xU⟩
    ·rw[ahV (b4 (aik kk)) hz (z≠n) (λ ez=>by
      subst ez;have:=zQ hN e1 hn;subst this;rw[apq (aaF hlen) e2];cases e2)]
     show(akI z n v8 (m z))=abF;rw[asO hz mz]
    ·exact b9 ⟨kk,c,B5,xU.sameBut Xb (K7.RV z c B5)⟩
   ·rw[afk v xU (K7.cell z c q) v (xU.sameBut Xb (K7.RV z c q))]
   ·rw[aen q1 q2 q3 q4 q5 (K7.pin p hp) ⟨x9 (Xb.2 p.1 q3) q1,q2,q3,q4,q5⟩]
  exact⟨_,_,J8,qn e ZQ⟩
 ·cases f with
  | next =>
   rw[asQ σ' H' J qq q (aJx σ' H' aHM qq)]
  | brk=>rw[afr σ' H' J qq q ⟨σ',H',aHM,qq⟩]
  | cont=>rw[afr σ' H' J qq q ⟨σ',H',aHM,qq⟩]
  | ret v=>obtain⟨v',σ',H',J,r,qq⟩:=q; exact⟨v',σ',H',aHM,r,qq⟩
universe zE
universe L2
universe zE
end
mutual
section
namespace L2
open PySem PySem.Spec PyProof.Rows
inductive PV where
 | bh | bl(b:Bool) | int aNV | str aNM | lst aOk | tup aOk | obj aNd
 | m5 aOj
mutual
noncomputable def PV.lO aNd:alA PV
 | ς xs=>avM n
 | f9 xs=>avM n
 | ο m=>an8 m n
 | .bh=>true
 | .bl _=>true
 | η _=>true
 | b5 _=>true
 | .m5 _=>true
noncomputable def PV.rN aNd:alA d5
 | []=>true
 | x::xs=>PV.lO n x && avM n
end
inductive MO where
 | gone
 | lst aOk
 | bP(kvs:ae2)
 | LG(kvs:ae5 ajX PV)
 | km(kvs:ae2)
 | ins aNK(fs:ajD)
 | exc aNK
noncomputable abbrev bb:=List MO
noncomputable abbrev fk:=asy PV
noncomputable abbrev lim:Nat:=16000000
def sf aM9(h:n≤lim):afi n:=by rw[Ω sizeLine_eq (ad0 h)]
def Af aM9(h:n<lim):n<sizeLine:=by rw[Ω sizeLine_eq (Nat.lt_of_lt_of_le h d6)]
section
variable (K:Fg) (ι:c9) (S:Hp)
mutual
noncomputable def bj:PV->adj V
 | .bh,v=>v=.bh
 | .bl b,v=>v=.bl b
 | η i,v=>v=η i
 | b5 x,v=>v=b5 x
 | ς xs,v=>∃a vs,v=Δ a/\S a=awk/\bg xs vs
 | f9 xs,v=>∃a vs,v=Δ a/\S a=apy vs/\bg xs vs
 | ο n,v=>∃a,v=Δ a/\alb
 | .m5 ns,v=>∃a,v=Δ a/\pO K S a al3
noncomputable def bg:d5->adj g8
 | [],vs=>vs=[]
 | x::xs,vs=>∃v r,vs=v::r/\bj x v/\bg xs r
end
abbrev dI aOd(kvs:aki)(bY:afO):Prop:=Paired (fun(p:κ×PV) (q:κ×V)=>p.1=q.1/\aj0 p.2 q.2) kvs bY
universe zE
structure Up aRC(ι':c9)(S':Hp):Prop where
 ix:∀aNd aN2,alb->acn ι' n a
 sm:aDD
structure Ext aRv(ι':c9)(S' H':Hp):Prop extends ash where
 pre:ι'.take ι.length=ι
 fr:∀b u,H b=abF->b∉ι->YW (S b)->alW=abF/\b∉ι'/\YW (S' b)
def Ext.refl aRw:Ext ι S H ι S H:=⟨⟨λ _ _ h=>h,lN.refl S⟩,List.take_length,λ _ _ h1 h2 h3=>⟨h1,h2,h3⟩⟩
def Ext.trans{ι ι1 ι2:c9}{S S1 S2 H H1 H2:Hp}(a:Ext ι S H ι1 S1 H1)(b:Ext ι1 S1 H1 ι2 S2 H2):Ext ι S H ι2 S2 H2 :=
 ⟨⟨λ n x h=>b.ix n x (a.ix n x h),a.sm.trans b.sm⟩,by
  rw[ain a.pre b.pre]
  have hl:ι.length≤ι1.length:=by rw[← h1];rw[aer]
  rw[← h2,List.take_take,Nat.min_eq_left hl] at h1
  exact h1,λ c u h1 h2 h3=>by
  rw[aq7 k1 k2 k3 (a.fr c u h1 h2 h3) (b.fr c u k1 k2 k3)]⟩
def Up.push aPh aN2:Up ι S (ι++[a]) S:=by
 rw[ac4 (NV n x h) (lN.refl S)];have hl:n < ι.length:=arW;rw[Ω (List.getElem?_append_left hl) h]
def Rd.mono{S S':Hp}(h:aDD)aNx{u:HO}(r:Rd S a u):Rd S' a u:=by
 rcases r with r | ⟨o,r⟩
 ·exact b4 (h _ _ r)
 ·exact ald o (h _ _ r)
def pO.mono aNE{S S':Hp}(h:aDD)aNx aOr(q:pO K S a vs):pO K S' a vs:=by
 rcases q with q | q
 ·exact b4 (q.mono h)
 ·exact b9 q
section
variable {K:Fg}
mutual
theorem bj.vy aQK aUR(hs:aDD):∀aQ7,aed->bj K ι' S' x v
 | .bh,v,h=>anU
 | .bl b,v,h=>anU
 | η i,v,h=>anU
 | b5 x,v,h=>anU
 | ς xs,v,h=>by
  rw[bj] at h ⊢;rw[aen a vs e q r h (ajP a e (hs _ _ q) (bg.vy hi hs xs vs r))]
 | f9 xs,v,h=>by
  rw[bj] at h ⊢;rw[aen a vs e q r h (ajP a e (hs _ _ q) (bg.vy hi hs xs vs r))]
 | ο n,v,h=>by
  rw[bj] at h ⊢;rw[agl a e q h a e (hi _ _ q)]
 | .m5 ns,v,h=>by
  rw[bj] at h ⊢;rw[agl a e q h a e (q.mono hs)]
theorem bg.vy aQK aUR(hs:aDD):∀aOk aOX,aee->awQ
 | [],vs,h=>asz bg h
 | x::xs,vs,h=>by
  rw[bg] at h ⊢;rw[aen v r e h1 h2 h ⟨v,r,e,bj.vy hi hs x v h1,bg.vy hi hs xs r h2⟩]
end
def bj.up aQK(e:ash)aRR:bj K ι' S' x v:=bj.vy e.ix e.sm x v h
def bj.mono aQE(e:ajL)aRR:bj K ι' S' x v:=bj.vy e.ix e.sm x v h
def bg.up aQK(e:ash)aRS:awQ:=bg.vy e.ix e.sm xs vs h
def bg.mono aQE(e:ajL)aRS:awQ:=bg.vy e.ix e.sm xs vs h
def dI.up aOd aQK(e:ash)aPj:dI K ι' S' kvs bY :=
 Paired.NY h λ _ _ z=>awC z (z.2.up e)
def dI.mono aOd aQE(e:ajL)aPj:dI K ι' S' kvs bY :=
 Paired.NY h λ _ _ z=>awC z (z.2.mono e)
mutual
theorem bj.lO aPh:∀aQ7,aed->b8 (PV.lO ι.length x)
 | .bh,v,h=>rfl
 | .bl b,v,h=>rfl
 | η i,v,h=>rfl
 | b5 x,v,h=>rfl
 | ς xs,v,h=>by
  rw[bj] at h;rw[anq a e q r h];rw[Ω PV.lO (bg.rN xs vs r)]
 | f9 xs,v,h=>by
  rw[bj] at h;rw[anq a e q r h];rw[Ω PV.lO (bg.rN xs vs r)]
 | ο n,v,h=>by
  rw[bj] at h;obtain⟨a,e,q⟩:=h;rw[Ω PV.lO (decide_eq_true (List.getElem?_eq_some_iff.mp q).1)]
 | .m5 ns,v,h=>rfl
theorem bg.rN aPh:∀aOk aOX,aee->b8 (avM ι.length)
 | [],vs,h=>rfl
 | x::xs,vs,h=>by
  rw[bg] at h;obtain⟨v,r,e,h1,h2⟩:=h;rw[PV.rN,bj.lO x v h1,bg.rN xs r h2]; rfl
end
mutual
theorem bj.cut aPh aM9:∀aQ7,b8 (PV.lO n x)->aed->bj K aF7 S x v
 | .bh,v,b,h=>anU
 | .bl _,v,b,h=>anU
 | η i,v,b,h=>anU
 | b5 x,v,b,h=>anU
 | ς xs,v,b,h=>by
  rw[bj] at h ⊢;rw[PV.lO] at b;rw[aen a vs e q r h (ajP a e q (bg.cut xs vs b r))]
 | f9 xs,v,b,h=>by
  rw[bj] at h ⊢;rw[PV.lO] at b;rw[aen a vs e q r h (ajP a e q (bg.cut xs vs b r))]
 | ο m,v,b,h=>by
  rw[bj] at h ⊢;rw[PV.lO] at b;rw[agl a e q h a e (by rw[Ω (List.getElem?_take_of_lt (of_decide_eq_true b)) q])]
 | .m5 ns,v,b,h=>by
  rw[als bj h h]
theorem bg.cut aPh aM9:∀aOk aOX,b8 (avM n)->aee->bg K aF7 S xs vs
 | [],vs,b,h=>asz bg h
 | x::xs,vs,b,h=>by
  rw[bg] at h ⊢;rw[aEu PV.rN b];rw[aen v r e h1 h2 h ⟨v,r,e,bj.cut x v b.1 h1,bg.cut xs r b.2 h2⟩]
end
variable {ι:c9} {S:Hp}
def bg.nil:anB [] []:=agK bg
def bg.cons aNv aNh aNI aOr(h:aed)(t:aee):auV (x::xs) (v::vs):=by
 rw[aeN bg (ae7 v vs h t)]
def bg.kn aNv aNP(h:bg K ι S (x::xs) vs):∃v r,vs=v::r/\aed/\anB xs r:=by
 rw[g9 bg h h]
def bg.length:∀aNP,aee->ax3 vs.length
 | [],vs,h=>by rw[bg] at h;subst h; rfl
 | x::xs,vs,h=>by
  obtain⟨v,r,rfl,_,h2⟩:=h.kn;simp[bg.length h2]
def bg.get:∀aNP aNt aNv,aee->amw->∃v,aIf/\aed
 | [],vs,i,x,h,e=>aqV e
 | y::xs,vs,i,x,h,e=>by
  rw[abY v r h1 h2 h.kn];cases i with
  | zero=>simp at e;subst e;exact afT v h1
  | succ i =>
   rw[agl w q1 q2 (bg.get (i:=i) h2 (aaF e)) w (aaF q1) q2]
def bg.append:∀aR0{vs ws:g8},aee->anB ys ws->auV (xs++ys) (vs++ws)
 | [],ys,vs,ws,h,t=>by rw[bg] at h;rw[adL h t]
 | x::xs,ys,vs,ws,h,t=>by
  rw[abY v r h1 h2 h.kn];exact aaT h1 (bg.append h2 t)
def bg.one aRR:anB [x] [v]:=aaT h abT
def bg.set:∀aNP aOn aNr,aed->aee->auV (xs.set i x) (vs.set i v)
 | [],vs,x,v,i,h,t=>by rw[bg] at t;rw[adL t abT]
 | y::xs,vs,x,v,i,h,t=>by
  rw[abY w r h1 h2 t.kn];cases i with
  | zero=>exact aaT h h2
  | succ i=>exact aaT h1 (bg.set i h h2)
def bg.drop:∀aNP aNd,aee->auV (xs.drop n) (vs.drop n)
 | xs,vs,0,h=>h
 | [],vs,n+1,h=>by rw[bg] at h;rw[adL h abT]
 | x::xs,vs,n+1,h=>by
  rw[abY v r h1 h2 h.kn];exact bg.drop n h2
def bg.take:∀aNP aNd,aee->auV (xs.take n) (vs.take n)
 | xs,vs,0,h=>by rw[amm abT]
 | [],vs,n+1,h=>by rw[bg] at h;rw[adL h abT]
 | x::xs,vs,n+1,h=>by
  rw[abY v r h1 h2 h.kn];exact aaT h1 (bg.take n h2)
def bg.reverse:∀aNP,aee->anB xs.reverse vs.reverse
 | [],vs,h=>by rw[bg] at h;rw[adL h abT]
 | x::xs,vs,h=>by
  rw[abY v r h1 h2 h.kn];rw[List.reverse_cons,List.reverse_cons];exact(bg.reverse h2).append (.one h1)
def bg.dropLast aRS:anB xs.dropLast vs.dropLast:=by
 rw[List.dropLast_eq_take,List.dropLast_eq_take,h.length]; exact h.take _
def bg.eraseIdx:∀aNP aNr,aee->auV (xs.eraseIdx i) (vs.eraseIdx i)
 | [],vs,i,h=>by rw[bg] at h;rw[adL h abT]
 | x::xs,vs,i,h=>by
  rw[abY v r h1 h2 h.kn];cases i with
  | zero=>exact h2
  | succ i=>exact aaT h1 (bg.eraseIdx i h2)
def bg.rep aRS:av9 k (anB (azt xs) (azt vs))
 | 0=>abT
 | k+1=>by
  rw[List.replicate_succ,List.replicate_succ,List.flatten_cons,List.flatten_cons];exact h.append (bg.rep h k)
def dI.length aOd aPj:kvs.length=bY.length:=aMF
def bj.ky aNI:aj0 .bh v↔v=.bh:=atL
def bj.fu aPo aNI:aw6 .bl b (v=.bl b):=atL
def bj.bC aNy aNI:aw6 η i (v=η i):=atL
def bj.tB aNg aNI:aw6 b5 x (v=b5 x):=atL
def bj.ml aNh aNI:aw6 ς xs (∃a vs,v=Δ a/\S a=awk/\aee):=atL
def bj.gy aNh aNI:aw6 f9 xs (∃a vs,v=Δ a/\S a=apy vs/\aee):=atL
def bj.vz aOV aNI:aw6 .m5 ns (∃a,v=Δ a/\pO K S a al3):=atL
def bj.eZ aM9 aNI:aw6 ο n (∃a,v=Δ a/\alb):=atL
universe zE
def C1 aNq:∀{l:afK},l.Nodup->∀{n m:Nat}(h1:atk n)(h2:atk m),l[n]=l[m]->n=m
 | [],_,n,m,h1,h2,e=>aqV h1
 | x::l,nd,n,m,h1,h2,e=>by
  rw[List.nodup_cons] at nd;cases n with
  | zero =>
   cases m with
   | zero=>rfl
   | succ m =>
    simp only[List.getElem_cons_zero,List.getElem_cons_succ] at e;rw[afS (aoP (List.getElem_mem _)) nd.1]
  | succ n =>
   cases m with
   | zero =>
    simp only[List.getElem_cons_zero,List.getElem_cons_succ] at e;rw[afS (aoP (List.getElem_mem _)) nd.1]
   | succ m =>
    rw[aFA List.getElem_cons_succ];rw[C1 nd.2 aHU (aaF h2) e]
abbrev qG aNc aRv aN2:adj MO
 | .gone=>∃o,H a=aaW
 | ς xs=>aqy/\∃vs,H a=awk/\aee
 | .bP kvs=>aqy/\∃bY,H a=awh .dK/\akx
 | .LG kvs=>aqy/\∃bY,H a=awh .dT/\akx
 | .km kvs=>∃ob bY,S a=agz/\H a=agz/\akx
 | aa7 C fs=>aqy/\∃dx yF,H a=c8 (aa7 C dx yF)/\aIv
 | YX C=>aqy/\H a=c8 (FP a C)
structure cw aNc aRC aNi aNz:Prop where
 sub:lN S H
 len:aAB ι.length
 nd:ι.Nodup
 ob:∀aNd aN2(o:MO),alb->asj->awV
abbrev Slots aNc aRC(ρ:fk)(σ:St):Prop :=
 ρ.length=σ.length/\∀aNr aNO,anK ρ i x->∃v,aDH/\aed
section
variable {K:Fg} {ι ι':c9} {S S' H H':Hp} {M M':bb} {ρ:fk} {σ:St}
def qG.there aNx aOh(h:awV):∃u,H a=abF:=by
 cases o with
 | gone=>exact h
 | lst xs=>obtain⟨_,vs,e,_⟩:=h;rw[aeM e]
 | bP xs=>obtain⟨_,vs,e,_⟩:=h;rw[aeM e]
 | LG xs=>obtain⟨_,vs,e,_⟩:=h;rw[aeM e]
 | km xs=>rw[aI8 e h e]
 | ins C fs=>obtain⟨_,dx,vs,e,_⟩:=h; rw[aeM e]
 | exc C=>obtain⟨_,e⟩:=h;rw[aeM e]
def qG.up aNx aOh(h:awV)(e:ash)(hs:aqy->YW (S' a))(hh:H' a=H a):qG K ι' S' H' a o:=by
 cases o with
 | gone=>rw[afk u q h u avx]
 | lst xs=>rw[afr z vs q r h ⟨hs z,vs,avx,r.up e⟩]
 | bP xs=>rw[afr z vs q r h ⟨hs z,vs,avx,r.up e⟩]
 | LG xs=>rw[afr z vs q r h ⟨hs z,vs,avx,r.up e⟩]
 | km xs=>rw[aen ob vs z q r h (ajP ob (e.sm _ _ z) avx (r.up e))]
 | ins C fs=>rw[aen z dx vs q r h ⟨hs z,dx,vs,avx,r.up e⟩]
 | exc C=>rw[afk z q h (hs z) avx]
def Slots.mono(s:ao7)(e:ajL):Slots K ι' S' ρ σ:=awC s (λ i x h=>by
 rw[agl v h1 h2 (s.2 i x h) v h1 (h2.mono e)])
def Slots.set(s:ao7)aRR aNr:Slots K ι S (ρ.set i ad5) aHA:=by
 rw[ac4 (d7 s.1) (NV j y hj)]
 by_cases hij:i=j
 ·subst hij;rw[ak1 hl (i<acL (ρ.set i ad5)) (List.getElem?_eq_some_iff.mp hj).1 List.length_set hl];rw[apq hl hj];cases hj;rw[Lb v (agK (aAA (by rw[abQ s.1 hl]))) h]
 ·rw[aqR hij hj];rw[agl w h1 h2 (s.2 j y hj) w (by rw[Ω (List.getElem?_set_ne hij) h1]) h2]
def cw.addr aOs aM9 aNx(h:alb):∃o,asj/\awV:=by
 have hl:aoC n:=by rw[← s.len];exact arW
 rw[Lb M[n] asA (s.ob n a _ h asA)]
def cw.at aOs aM9 aOh(h:asj):∃a,alb/\awV:=by
 have hl:n < ι.length:=by rw[aeN s.len arW]
 rw[Lb ι[n] asA (s.ob n _ o asA h)]
def cw.fresh aOs aOi(h:akt):p∉ι:=λ hm=>by
 rw[aBC n hn (List.getElem_of_mem hm)];obtain⟨o,_,q⟩:=s.addr (List.getElem?_eq_some_iff.mpr ⟨hn,e⟩);rw[aq3 u z q.there h z]; cases z
def cw.uF aOs aOi(h:akt):aC8:=s.sub.free h
def cw.tree aOs aOi{o:HO}(h:akt):cw K ι (upd S p o) M (anN p)/\Ext ι S H ι (upd S p o) (anN p):=by
 have hS:=s.uF h
 rw[d9 sm (lN S (upd S p o)) (agi u q (by rw[ab9 (bW q hS) q])) up (Up ι S ι (upd S p o)) ⟨λ _ _ h=>h,sm⟩];rw[ac4 ⟨aiw u,s.len,s.nd,adW n a u h1 h2⟩ ⟨up,List.take_length,adW b u h1 h2 h3⟩]
 ·rw[akY (b=p)]
  ·subst hb;rw[als bG q q]
  ·rw[als ao3 q (s.sub b u q)]
 ·have dQ:a≠p:=λ z=>s.fresh h (aqQ z h1);exact(atO n a u).up up (acz (by rw[anF z])) (aQ dQ)
 ·have dQ:=bW h1 h;rw[Lb (by rw[anF h1]) h2 (by rw[anF h3])]
def cw.side aOs aOi{o:HO}(h:akt):cw K ι S M (anN p)/\Ext ι S H ι S (anN p):=by
 rw[ac4 ⟨aiw u,s.len,s.nd,adW n a u h1 h2⟩ ⟨⟨λ _ _ h=>h,lN.refl S⟩,List.take_length,adW b u h1 h2 h3⟩]
 ·rw[ab9 (bW (s.sub b u q) h) (s.sub b u q)]
 ·have dQ:a≠p:=λ z=>s.fresh h (aqQ z h1);exact(atO n a u).up ⟨λ _ _ h=>h,lN.refl S⟩ (acz z) (aQ dQ)
 ·have dQ:=bW h1 h;rw[Lb (by rw[anF h1]) h2 h3]
def cw.enter aOs aOi aOh(hp:p∉ι)(h:qG K ι S H p o):cw K (ι++[p]) S (M++[o]) H:=by
 refine⟨s.sub,aBo,?_,adW n a u h1 h2⟩
 ·rw[List.nodup_append];rw[ab8 s.nd Ξ (acE a ha b hb)];rw[List.mem_singleton] at hb;rw[adL hb (acz (hp (z ▸ ha)))]
 ·by_cases hn:n < ι.length
  ·rw[List.getElem?_append_left hn] at h1;rw[axa (by rw[abQ s.len hn])] at h2;exact(atO n a u).up (.push p) (acz z) rfl
  ·rw[aip e1 (n=ι.length) (by
    have:=aIT.1;rw[ayc];omega) e1];simp at h1;rw[aia s.len h2 h2];subst h1; rw[adL h2 (h.up (.push _) (acz z) rfl)]
def cw.new aOs aOi{u:HO}aOh(h:akt)(ho:qG K ι S (at8 p) p o):cw K (ι++[p]) S (M++[o]) (at8 p)/\Ext ι S H (ι++[p]) S (at8 p):=by
 rw[ac4 ((s.side h).1.enter (s.fresh h) ho) ⟨.push p,Ξ,adW b v h1 h2 h3⟩];have dQ:=bW h1 h;rw[Lb (by rw[anF h1]) (aeU h2 dQ) h3]
def cw.inj aOs{n m:Nat}aNx(h1:alb)(h2:acn ι m a):n=m:=by
 obtain⟨l1,e1⟩:=aIT;rw[adP l2 e2 aIU (C1 s.nd l1 l2 aMw)]
def cw.put aOs aM9 aNx{u:HO}aOh(h:alb)(hS:aqy)(ho:qG K ι S (at8 a) a o):cw K ι S (arw o) (at8 a)/\Ext ι S H ι S (at8 a):=by
 rw[ac4 ⟨aiw v,aBo,s.nd,adW m b v h1 h2⟩ ⟨⟨λ _ _ h=>h,lN.refl S⟩,List.take_length,adW b v h1 h2 h3⟩]
 ·rw[ab9 (bW q hS) (s.sub b v q)]
 ·by_cases hm:n=m
  ·rw[akS hm h h1]; cases h1
   have hl:aoC n:=by
    have:=aIU.1;simpa using this
   rw[apq hl h2];cases h2;exact ho
  ·rw[aqR hm h2];have dQ:b≠a:=λ z=>hm (s.inj h (z ▸ h1));exact(atO m b v).up ⟨λ _ _ h=>h,lN.refl S⟩ (acz z) (aQ dQ)
 ·have dQ:b≠a:=acz (h2 (aqQ z h));rw[Lb (by rw[anF h1]) h2 h3]
def cw.freeze aOs aM9 aNx aNh(h:alb)(hM:aAo) :
  ∃S',cw K ι S' (arw .gone) H/\Ext ι S H ι S' H/\bj K ι S' (ς xs) (Δ a):=by
 obtain⟨hS,vs,hH,hr⟩:=s.ob n a _ h hM
 rw[asZ sm (lN S (af3 S a (ς vs))) (agi u q (by rw[ab9 (bW q hS) q])) up (Up ι S ι (af3 S a (ς vs))) ⟨λ _ _ h=>h,sm⟩ ⟨af3 S a (ς vs),⟨aiw u,aBo,s.nd,adW m b v h1 h2⟩,⟨up,List.take_length,adW b v h1 h2 h3⟩,bj.ml.mpr (ae7 a vs bG (hr.up up))⟩]
 ·rw[akY (b=a)]
  ·rw[azS]; cases q; exact hH
  ·rw[g9 ao3 q (s.sub b u q)]
 ·by_cases hm:n=m
  ·rw[akS hm h h1]; cases h1;have hl:aoC n:=aIV.1;rw[apq hl h2];cases h2;rw[aeM hH]
  ·rw[aqR hm h2];have dQ:b≠a:=λ z=>hm (s.inj h (z ▸ h1));exact(atO m b v).up up (acz (by rw[anF z])) rfl
 ·have dQ:b≠a:=acz (h2 (aqQ z h));rw[Lb h1 h2 (by rw[anF h3])]
universe zE
inductive Res(α:Type) where
 | ok(a:α)aNi
 | exc aP2 aNi
 | bad
abbrev Res.bind aOa:alG->(α->bb->aqd)->aqd
 | .ok a M,f=>f a M
 | YX c M,_=>YX c M
 | c6,_=>c6
@[simp] def Res.ag aOa{a:α}aNb aQn:(aBF a).bind f=f a M:=rfl
@[simp] def Res.OL aOa aN7 aNb aQn:(Res.exc c M:alG).bind f=YX c M:=rfl
@[simp] def Res.ZS aOa aQn:(Res.bad:alG).bind f=c6:=rfl
abbrev Res.opt aNq(o:aFY)aNi:alG:=match o with
 | some a=>.ok a M
 | none=>c6
@[simp] def Res.Ag aNq{a:α}aNb:Res.opt (some a) M=.ok a M:=rfl
@[simp] def Res.OM aNq aNb:Res.opt (none:aFY) M=c6:=rfl
abbrev cz aOa aUx(Ex:XK)aRv(Q:aIm):adj alG
 | .ok x M'=>∀ ι' S' H' v,ajL->atQ->Rp ι' S' x v->ajl v
 | YX c M'=>∀ ι' S' H',ajL->atQ->Ex (Δ c) none H'
 | c6=>False
section
variable {α β γ δ:Type} {K:Fg} {Rp:c9->Hp->α->aCt} {Rq:c9->Hp->γ->adj δ} {Ex:XK} {ι ι':c9} {S S' H H':Hp} {Q Q':aIm} {P:ai4 δ} {r:alG}
def cz.up(h:cz K Rp Ex ι S H Q r)(e:ajL):cz K Rp Ex ι' S' H' Q r:=by
 cases r with
 | ok x M=>exact λ ι1 S1 H1 v e1 s1 r1=>h ι1 S1 H1 v (e.trans e1) s1 r1
 | exc c M=>exact λ ι1 S1 H1 e1 s1=>h ι1 S1 H1 (e.trans e1) s1
 | bad=>exact h
def cz.bind{f:α->bb->Res γ}(h:cz K Rq Ex ι S H P (r.bind f))
  (g:∀ ι1 S1 M1 H1 x v,Ext ι S H ι1 S1 H1->cw K ι1 S1 M1 H1->Rp ι1 S1 x v->cz K Rq Ex ι1 S1 H1 P (f x M1)->apj v):cz K Rp Ex ι S H Q r:=by
 cases r with
 | ok x M=>exact λ ι1 S1 H1 v e1 s1 r1=>g ι1 S1 M H1 x v e1 s1 r1 (cz.up h e1)
 | exc c M=>exact h
 | bad=>exact h
universe zE
abbrev tG aOa aUx aPW(d:fk->bb->alG)aQD(Q:aIm):Prop :=
 ∃ ι S M ρ,adO/\ao7/\cz K Rp (Ex σ) ι S H Q abO
noncomputable abbrev DE:=fk->bb->afm
noncomputable abbrev DA:=fk->bb->Res d5
noncomputable abbrev DT:=fk->bb->Res Bool
noncomputable abbrev gW aNc:c9->Hp->PV->adj V:=λ ι S x v=>aed
noncomputable abbrev RpA aNc:c9->Hp->d5->adj g8:=λ ι S x v=>anB x v
noncomputable abbrev NN:c9->Hp->Bool->adj Bool:=λ _ _ x v=>v=x
structure VE aOm aP0 aNH:Prop where
 out:adz e (ayM d)
structure VT aOm aP0(d:DT):Prop where
 out:api e (tG X.K NN Ex d)
structure VW aOm aP0(d:DT):Prop where
 out:aqN e (tG X.K NN Ex d)
structure VA aOm(es:ab5)(d:DA):Prop where
 out:aww (tG X.K (RpA X.K) Ex d)
def PE.imp aNF aPF{t t':TE}(h:adz e t)aQi:adz e t':=λ pins s σ H Q I hw=>h pins s σ H Q I (i σ H Q hw)
def PT.imp aNF aPF{t t':TT}(h:api e t)aQi:api e t':=λ pins s σ H Q I hw=>h pins s σ H Q I (i σ H Q hw)
def PW.imp aNF aPF{t t':TT}(h:aqN e t)aQi:aqN e t':=λ w pins s σ H Q I hw=>h w pins s σ H Q I (i σ H Q hw)
def PA.imp aNF{es:ab5}{t t':TA}(h:aww t)aQi:aww t':=λ pos pins s σ H Q I hw=>h pos pins s σ H Q I (i σ H Q hw)
def VW.vt aNF aQs aPF{d:DT}(h:VW X Ex e d):VT X Ex e d:=⟨PW.pt h.out⟩
universe L2
universe zE
end
mutual
section
namespace L2
open PySem PySem.Spec PyProof.Rows
section
variable {X:Cx} {Ex:St->XK} {a b c e:Expr} {es:ab5} {da db dc d:DE} {ds:aeG} {pos:Pos}
abbrev ae aNr:DE:=λ ρ M=>match ρ[i]? with
 | am5 x=>.ok x M
 | _=>c6
def aa aNr aNg aS5
  aON aSb:adk (aad x pos) (ae i):=⟨by
 refine PE.imp (N1 hN hv hd Lg) λ σ H Q h=>?_;obtain⟨ι,S,M,ρ,aV,sl,w⟩:=h;rw[agI ae];cases q:ρ[i]? with
 | none=>rw[ak9 q]
 | some o =>
  cases o with
  | none=>rw[ak9 q]
  | some y =>
   rw[q] at w;rw[agl v h1 h2 (sl.2 i y q) v h1 (akX v h2)]⟩
abbrev dC aNO:DE:=abg M (.ok x M)
def ON aOn(h:adz e (tC v))(r:∀ ι S,bj X.K ι S x v):adk e (dC x):=⟨by
 refine PE.imp h λ σ H Q hh=>?_
 obtain⟨ι,S,M,ρ,aV,sl,w⟩:=hh
 exact akX v (r ι S)⟩
def aq aNy{j}:amF ano (η i) j (Θ i):=aBG VY am3
def lq aPo{j}:amF ano (aiW b) j (dC (.bl b)):=aBG Y6 (bj.fu.mpr rfl)
def cO{j}:amF ano aaY j (dC .bh):=aBG VZ (bj.ky.mpr rfl)
def ay aNg{j}:amF ano (b5 x) j (t8 x):=aBG N2 (bj.tB.mpr rfl)
def p8 aNg aNy{t:Tok}(hm:ayU=ab1 η i t)(hg:ajS:=by rfl)aON:adk (aad x pos) (Θ i) :=
 aBG (JF hg hm (v:=η i) awG hd) am3
abbrev fF:aeG->DA
 | []=>abg M (.ok [] M)
 | d::ds=>aBv (abO).bind (fF ds ρ M1).bind xs (.ok (x::xs) M2)
noncomputable abbrev LH aNc aNd:c9->Hp->d5->adj g8:=λ ι S x v=>anB x v/\x.length=n
structure VN aOm(es:ab5)aO6:Prop where
 out:aww (tG X.K (al4 X.K) Ex (fF ds))
def aj:VN X Ex [] []:=⟨by
 refine PA.imp uB (acE σ H Q h)
 obtain⟨ι,S,M,ρ,aV,sl,w⟩:=h
 exact akX [] (akG abT)⟩
def af(ha:ar9)(hr:ao8 es)aSe:VN X Ex (e::es) (d::ds):=⟨by
 refine PA.imp (o7 ha.out hr.out hs) (acE σ H Q h)
 obtain⟨ι,S,M,ρ,aV,sl,w⟩:=h
 refine⟨ι,S,M,ρ,aV,sl,adG (gW X.K) w (λ ι1 S1 M1 H1 x v e1 s1 r1 w1=>?_)⟩;refine⟨ι1,S1,M1,ρ,s1,afH,adG (al4 X.K) w1 (λ ι2 S2 M2 H2 xs vs e2 s2 r2 w2=>?_)⟩
 exact w2 ι2 S2 H2 (v::vs) afs s2 ⟨aaT (aoi e2) r2.1,d7 r2.2⟩⟩
abbrev rT aNG aOk aNi:afm:=asS aGW (if b8 live then .ok adM (M++[ς xs]) else .ok (ς xs) M) c6
def n0{ι:c9}aRa aOM aN0 aPz aNP aNE aQz(r:aee)(w:aph (rT live xs M)) :
  aKb/\∀p,akt->Q (Δ p) (ar2 vs):=by
 rw[agI rT];split at w
 ·rw[ap0];rw[avH (by rw[abQ r.length (sf hl)]) p hp];split at w
  ·have hS:=aV.uF hp;obtain⟨s2,e2⟩:=aV.new (u:=ς vs) (o:=ς xs) hp ⟨hS,vs,bG,r⟩;refine w _ _ _ _ e2 s2 (avc p ?_);rw[← aV.len];simp
  ·rw[adP s2 e2 (aV.tree (o:=ς vs) hp) (w _ _ _ _ e2 s2 (bj.ml.mpr (ae7 p vs bG (r.mono e2))))]
 ·rw[abZ]
@[simp] def bT aPL(h:aGW):aum xs=.ok (ς xs) M:=by rw[af7 rT avL aKO]
@[simp] def lr aPL(h:aGW):rT true xs M=.ok adM (M++[ς xs]):=by rw[af7 rT avL aeO]
abbrev gI aO6:DE:=awn (alc).bind (.ok (f9 xs) M1)
abbrev bS aNG aO6:DE:=awn (alc).bind (rT live xs M1)
def fJ{x1}(h:ao8 es)(hn:ds.length≤1000:=by exact aI4):amF arG es x1 (gI ds):=⟨by
 refine PE.imp (Wv h.out) λ σ H Q hh=>?_
 obtain⟨ι,S,M,ρ,aV,sl,w⟩:=hh
 refine⟨ι,S,M,ρ,aV,sl,adG (al4 X.K) w (λ ι1 S1 M1 H1 xs vs e1 s1 r1 w1=>?_)⟩;rw[avH (by rw[← ahb r1.1,r1.2];exact Nat.le_of_lt (CZ hn)) p hp];rw[adP s2 e2 (s1.tree (o:=f9 vs) hp) (w1 _ _ _ _ e2 s2 (bj.gy.mpr (ae7 p vs bG (r1.1.mono e2))))]⟩
def bE aNG(h:ao8 es):adk (.List es pos) (bS live ds):=⟨by
 refine PE.imp (Ww h.out) λ σ H Q hh=>?_
 obtain⟨ι,S,M,ρ,aV,sl,w⟩:=hh
 refine⟨ι,S,M,ρ,aV,sl,adG (al4 X.K) w (λ ι1 S1 M1 H1 xs vs e1 s1 r1 w1=>?_)⟩
 exact n0 s1 r1.1 w1⟩
abbrev iw aNi:aiK PV d5
 | ς xs=>agm
 | ο n=>match M[n]? with
  | afN=>agm
  | _=>none
 | _=>none
@[simp] def iX aNb aNh:alI (ς xs)=agm:=rfl
@[simp] def ZT aNb aNh:YW (alI (f9 xs)):=rfl
@[simp] def Ah aNb aM9:alI (ο n)=(match M[n]? with | afN=>agm | _=>none):=rfl
def fU aOI aNv aNh aNI aPe(h:anW=agm):∃p vs,v=Δ p/\H p=awk/\aee:=by
 cases x with
 | lst ys =>
  cases h;rw[abY p vs e q (bj.ml.mp r)];exact ae7 p vs aDj q
 | obj n =>
  rw[adw p e (bj.eZ.mp r)];obtain⟨o,e2,q⟩:=aV.addr e;simp only[Ah,e2] at h;cases o with
  | lst ys =>
   cases h;obtain⟨_,vs,h1,h2⟩:=q;exact ae7 p vs h1 h2
  | _=>cases h
 | _=>cases h
abbrev rO aNi aNO:apY d5:=match x with
 | f9 xs=>agm
 | .m5 ns=>c8 avv
 | x=>anW
@[simp] def p9 aNb aNh:an3 (ς xs)=agm:=rfl
@[simp] def OO aNb aNh:an3 (f9 xs)=agm:=rfl
@[simp] def ZU aNb aOV:an3 (.m5 ns)=c8 avv:=rfl
@[simp] def si aNb aM9:an3 (ο n)=(match M[n]? with | afN=>agm | _=>none):=rfl
def bg.ints aNw:∀ns:abE,anB (ns.map PV.int) al3
 | []=>abT
 | n::ns=>aaT am3 (bg.ints ns)
def vA aOI aNv aNh aNI aPe(h:azZ=agm) :
  ∃p vs,v=Δ p/\(pO K H p vs\/B6 K H p vs)/\aee:=by
 cases x with
 | tup ys =>
  cases h;rw[abY p vs e q (bj.gy.mp r)];exact ae7 p vs (b9 (.of aDj)) q
 | m5 ns =>
  cases h;rw[adw p e (bj.vz.mp r)];exact amD p (b4 (e.mono aV.sub)) (.ints ns)
 | lst ys =>
  rw[aen p vs e1 e2 q (fU aV r h) (ajP p e1 (b4 (.of e2)) q)]
 | obj n =>
  rw[aen p vs e1 e2 q (fU aV r h) (ajP p e1 (b4 (.of e2)) q)]
 | _=>cases h
noncomputable abbrev D2:=PV->PV->bb->afm
abbrev rP aNc(f:D2):R2:=amX (∃E ι S M p q,adO/\aj0 p x/\aj0 q y/\aph (f p q M))
abbrev aB(f:D2)aR1:DE:=aBv (da ρ M).bind (aC0).bind y (f x y M2)
def JT{f:D2}aNE aOv aN0(h:tG K (gW K) Ex (aB f da db) σ H Q):Zk (rP K f) (tG K (gW K) Ex da) (tG K (gW K) Ex db) σ H Q:=by
 obtain⟨ι,S,M,ρ,aV,sl,w⟩:=h;refine⟨ι,S,M,ρ,aV,sl,arZ w (λ ι1 S1 M1 H1 x v e1 s1 r1 w1=>?_)⟩;refine⟨ι1,S1,M1,ρ,s1,afH,arZ w1 (λ ι2 S2 M2 H2 y u e2 s2 r2 w2=>?_)⟩;exact⟨_,ι2,S2,M2,x,y,s2,aoi e2,r2,w2⟩
def bf{op:Operator}{f:D2}(ho:m4 X (binaryOp op) (ami f))aQl:adk (.BinOp a op b pos) (aB f da db):=⟨PE.imp (Zl ho ha.out hb.out) λ _ _ _ h=>JT h⟩
def m4.imp{f:av1}{r r':R2}(h:aui r)(i:∀x y H Q,r' x y H Q->r x y H Q):aui r':=λ pins s σ H x y v u Q I rx ry q=>h pins s σ H x y v u Q I rx ry (i x y H Q q)
abbrev lQ(C:aHE)(g:auN PV):D2:=λ x y M=>match x,y with
 | η i,η j=>if b8 (C i j) then .ok (g i j) M else c6
 | _,_=>c6
@[simp] def ZV{C:aHE}{g:auN PV}aPx(h:b8 (C i j)):lQ C g (η i) (η j) M=.ok (g i j) M:=by unfold lQ;simp[h]
def og aNE{C:aHE}{g:auN PV}{x y:V}aNu aN0(h:rP K (lQ C g) x y H Q) :
  ∃i j,x=η i/\y=η j/\b8 (C i j)/\∃ ι S M,adO/\∀v,aj0 (g i j) v->Q v H:=by
 obtain⟨E,ι,S,M,p,q,aV,rx,ry,w⟩:=h;cases p with
 | int i =>
  cases q with
  | int j =>
   rw[aaa hx aKw hy aFl];rw[avt lQ];split at w
   ·rw[arv];exact⟨i,j,hx,hy,hc,ι,S,M,aV,λ v hv=>akX v hv⟩
   ·rw[abZ]
  | _=>rw[abZ]
 | _=>rw[abZ]
abbrev Xd:D2:=lQ (abg _ true) (aei j (η (i-j)))
abbrev dR:D2:=lQ (abg j (ag8 (0<j/\axT j))) (aei j (η (i / j)))
abbrev cx:D2:=lQ (abg j (ag8 (0<j))) (aei j (η (i%j)))
def SM:amr Sub (ami Xd):=Wj.imp (apl (by
 obtain⟨i,j,rfl,rfl,_,ι,S,M,aV,k⟩:=og h;exact aa9 i j rfl (k _ am3)))
def gM:amr FloorDiv (ami dR):=R8.imp (apl (by
 obtain⟨i,j,rfl,rfl,hc,ι,S,M,aV,k⟩:=og h;exact aoZ i j rfl (show 0<j/\axT j from aL3) (k _ am3)))
def cI:amr Mod (ami cx):=Wl.imp (apl (by
 obtain⟨i,j,rfl,rfl,hc,ι,S,M,aV,k⟩:=og h;exact aoZ i j rfl aL3 (k _ am3)))
abbrev small aNV:Bool:=ag8 (-(2 ^ 64)<i/\i<2 ^ 64)
abbrev dn aNG:D2:=λ x y M=>match x,y with
 | η i,η j=>.ok (η (i+j)) M
 | f9 xs,f9 ys=>if acs xs.isEmpty/\aKr≤lim then .ok (f9 (xs++ys)) M else c6
 | x,y=>match anW,alI y with
  | agm,atm=>rT live (xs++ys) M
  | _,_=>c6
@[simp] def vB aPz aPx:dn live (η i) (η j) M=.ok (η (i+j)) M:=rfl
@[simp] def qa aPz aR0 aNb:dn live (ς xs) (ς ys) M=rT live (xs++ys) M:=rfl
def HY aNE aPz{x y:V}aNu aN0(h:rP K (dn live) x y H Q) :
  (∃i j,x=η i/\y=η j/\Q (η (i+j)) H)\/U7 K x y H Q\/SD x y H Q:=by
 obtain⟨E,ι,S,M,p,q,aV,rx,ry,w⟩:=h
 rw[avV lists (∀aR0,aur=agm->t6 (alI q) ys->aph (rT live (xs++ys) M)->SD x y H Q) (λ{xs ys} h1 h2 w=>by
  rw[abY l vs e1 r1 (fU aV rx h1)];rw[abY b us e2 r2 (fU aV ry h2)];rw[afF w1 w2 (n0 aV aKi w) ⟨l,b,vs,us,rfl,rfl,e1,e2,aaF w1,w2⟩]) other ((dn live p q M=match aur,alI q with | agm,atm=>rT live (xs++ys) M | _,_=>c6)->SD x y H Q) e (by
  rw[e] at w;cases h1:aur with
  | none=>rw[ak9 h1]
  | some xs =>
   cases h2:alI q with
   | none=>rw[h1,h2] at w;rw[abZ]
   | some ys=>rw[aoO h1 h2 w (lists h1 h2 w)])]
 cases p with
 | int i =>
  cases q with
  | int j=>exact b4 ⟨i,j,aKw,aFl,ap9⟩
  | _=>exact b9 (b9 aK3)
 | tup xs =>
  cases q with
  | tup ys =>
   refine b9 (b4 ?_);rw[avt dn];split at w
   ·rw[arv]
    rw[abY l vs e1 r1 (bj.gy.mp rx)];rw[abY b us e2 r2 (bj.gy.mp ry)];refine⟨l,b,vs,us,rfl,rfl,.of (aV.sub _ _ e1),.of (aV.sub _ _ e2),f6 z,?_,f6 z,NV _ p hp⟩
    ·subst z;have:=r1.length;cases xs with
     | nil=>cases hc.1
     | cons _ _=>rw[ayc]
    ·rw[aq5 r1.length r2.length (sf hc.2)]
    ·subst z;have:=r2.length;cases ys with
     | nil =>
      rw[g9 zI w (akX _ rx)]
     | cons _ _=>rw[ayc]
    ·rw[adP s2 e2 (aV.tree (o:=f9 (vs++us)) hp) (w _ _ _ _ e2 s2 (bj.gy.mpr (ae7 p _ bG ((aKi).mono e2))))]
   ·rw[abZ]
  | _=>exact b9 (b9 aK3)
 | _=>exact b9 (b9 (other (by cases q<;>rfl)))
def bO aNG:amr Add (ami (dn live)):=(Wi.or (Sx.or WS)).imp (apl (by
 rcases HY h with⟨i,j,hx,hy,q⟩ | h | h
 ·exact b4 ⟨i,j,hx,hy,q⟩
 ·exact b9 (b4 h)
 ·exact b9 (b9 h)))
abbrev la aNG:D2:=λ x y M=>match x,y with
 | η i,η j=>if aey (small i || small j) then .ok (η (i*j)) M else c6
 | x,η k=>match anW with
  | agm=>apw (axI k/\k<amY /\ -amY<k/\aKL≤lim) (rT live (aD5 xs).flatten M)
  | none=>c6
 | _,_=>c6
@[simp] def FR aPz aPx(h:aey (small i || small j)):la live (η i) (η j) M=.ok (η (i*j)) M:=by unfold la;simp only[avL]
def lu aNG:amr Mult (ami (la live)):=(Wk.or WT).imp (apl (by
 obtain⟨E,ι,S,M,p,q,aV,rx,ry,w⟩:=h
 have rep:∀{k:Int},q=η k->(la live p q M=match aur with
  | agm=>apw (axI k/\k<amY /\ -amY<k/\aKL≤lim) (rT live (aD5 xs).flatten M)
  | none=>c6)->ZJ x y H Q:=λ{k} e1 e2=>by
  rw[akS e1 e2 w];cases h1:aur with
  | none=>rw[ak9 h1]
  | some xs =>
   rw[h1] at w;rw[abY l vs e3 r1 (fU aV rx h1)];dsimp only at w;split at w
   ·rw[arv];rw[apC w1 w2 (n0 aV (r1.rep k.toNat) w) hy aFl];subst hy;refine⟨l,k,vs,rfl,rfl,e3,?_,?_,?_,w2⟩
    ·rw[aeq hc.2.2.1]
    ·rw[aeq hc.2.1]
    ·rw[abQ r1.length (sf hc.2.2.2)]
   ·rw[abZ]
 cases q with
 | int j =>
  cases p with
  | int i =>
   left;rw[avt la];split at w
   ·rw[arv];refine⟨i,j,aKw,aFl,?_,ap9⟩;rcases Bool.or_eq_true_iff.mp hc with z | z
    ·exact b4 aMa
    ·exact b9 aMa
   ·rw[abZ]
  | _=>exact b9 (rep rfl rfl)
 | _=>cases p<;>exact w.elim))
universe zE
universe L2
universe zE
section
namespace L2
open PySem PySem.Spec PyProof.Rows
abbrev nu aOa(f:aiK α β):aiK afK aGK
 | []=>some []
 | x::xs=>match f x,ajG f with
  | anD,atm=>c8 (y::ys)
  | _,_=>none
abbrev leaf:aiK PV PyData
 | .bh=>some aaY
 | .bl b=>aa2 aiW b
 | η i=>agO
 | b5 x=>ahi (PyData.canLay0 (b5 x)) (akL x) none
 | _=>none
abbrev flat aNi:ajM (aiK PV PyData)
 | 0,x=>leaf x
 | k+1,x=>match x with
  | ς xs=>(ajG (flat M k)).map ao1
  | f9 xs=>(ajG (flat M k)).map awb
  | ο n=>match M[n]? with
   | afN=>(ajG (flat M k)).map ao1
   | _=>none
  | x=>leaf x
def JU aNw aOe aOn aN1 aR2(r:aed)(ru:ahY)(e:t6 (leaf x) d):Reads h u d []/\axx/\d.depth=0:=by
 cases x with
 | bh =>
  cases e;cases aKP;cases ru;exact afT aaY rfl
 | bl b =>
  cases e;cases aBg;cases ru;exact afT (aiW b) rfl
 | int i =>
  cases e;cases aFF;rw[afF t rfl ru (afT (η i t) rfl)]
 | str z =>
  rw[aFA leaf];split at e
  ·rw[arv];cases e;cases aFG;rw[afF t rfl ru (ah7 (b5 z t) hc)]
  ·cases e
 | _=>cases e
def qb aNw aOe aNf{f:aiK PV PyData}
  (ih:∀x v u d,aed->ahY->t6 (f x) d->(∃as,Reads h u d as)/\axx/\aBB k) :
  ∀aOk aOX aOJ(ds:aFi),aee->atI->t6 (ajG f) ds->(∃as,ReadsAll h us ds as)/\aJd ds/\PyData.depthAll ds≤k
 | [],vs,us,ds,r,ru,e=>by
  rw[bg] at r;subst r;cases ru;cases e;exact afT (arU abT) aog
 | x::xs,vs,us,ds,r,ru,e=>by
  rw[abY v r' h1 h2 r.kn];cases ru with
  | cons q1 q2 =>
   rw[nu] at e;cases e1:f x with
   | none=>rw[e1] at e; cases e
   | some y =>
    cases e2:ajG f with
    | none=>rw[e1,e2] at e; cases e
    | some ys =>
     rw[e1,e2] at e;cases e;obtain⟨⟨as,a1⟩,a2,a3⟩:=ih x v _ y h1 q1 e1
     obtain⟨⟨bs,b1⟩,b2,b3⟩:=qb ih xs r' _ ys h2 q2 e2;rw[ab8 (arU (aaT a1 b1)) ?_ ?_]
     ·rw[PyData.canLayAll0,a2,b2]; rfl
     ·rw[Ω PyData.depthAll (Nat.max_le.mpr ⟨a3,b3⟩)]
def mm aOl aOI aOe aQz(cR:akz) :
  ∀aNW aQ7 aO5(d:PyData),aed->ahY->t6 (flat M k x) d->(∃as,Reads h u d as)/\axx/\aBB k
 | 0,x,v,u,d,r,ru,e=>by
  rw[agl h1 h2 h3 (JU (h:=h) r ru e) (arU h1) h2 (Nat.le_of_eq h3)]
 | k+1,x,v,u,d,r,ru,e=>by
  rw[aev ih (mm aV cR k) lst (∀aNx aNP,v=Δ a->H a=awk->aee->t6 ((ajG (flat M k)).map ao1) d->(∃as,Reads h u d as)/\axx/\aBB (k+1)) (λ{a xs vs} ev eH hr e=>by
   subst ev;cases ru;obtain⟨_,bN,n,hv,hg⟩:=cR a _ eH;cases e2:ajG (flat M k) with
   | none=>rw[asi]; cases e
   | some ds =>
    rw[asi];cases e;obtain⟨⟨as,a1⟩,a2,a3⟩:=qb ih xs vs bN ds hr hv e2;rw[Lb (arU (ao1 hg rfl rfl (aaF a1))) (by rw[Ω PyData.canLay0 a2]) (by rw[Ω PyData.depth (Nat.succ_le_succ a3)])])]
  cases x with
  | lst xs =>
   rw[anq a ev eS hr (bj.ml.mp r)];exact lst ev (aV.sub _ _ eS) hr e
  | tup xs =>
   rw[abY a vs eS hr (bj.gy.mp r)];cases ru;obtain⟨_,bN,hv,o,hg,hc,n,hd⟩:=cR a _ (aV.sub _ _ eS);have e:t6 ((ajG (flat M k)).map PyData.tuple) d:=e;cases e2:ajG (flat M k) with
   | none=>rw[asi]; cases e
   | some ds =>
    rw[asi];cases e;obtain⟨⟨as,a1⟩,a2,a3⟩:=qb ih xs vs bN ds hr hv e2;rw[Lb (arU (awb hg hc hd (aaF a1))) (by rw[Ω PyData.canLay0 a2]) (by rw[Ω PyData.depth (Nat.succ_le_succ a3)])]
  | obj n =>
   obtain⟨a,ev,ei⟩:=bj.eZ.mp r;obtain⟨o,eM,mo⟩:=aV.addr ei;simp only[flat,eM] at e;cases o with
   | lst xs =>
    obtain⟨_,vs,eH,hr⟩:=mo;exact lst ev eH hr e
   | _=>cases e
  | _ =>
   rw[agl h1 h2 h3 (JU (h:=h) r ru e) (arU h1) h2 b6]
noncomputable abbrev deep:Nat:=10
section
variable {X:Cx} {Ex:St->XK} {a b c e:Expr} {es:ab5} {da db dc d:DE} {ds:aeG} {pos:Pos}
abbrev dX aR3:D2:=λ x y M=>match ao5 x,ao5 y with
 | some p,some q=>.ok (.bl (ail (PyData.eqv p q) (PyData.eqv p q))) M
 | _,_=>c6
def JV aNE aN5{x y:V}aNu aN0(h:rP K (dX neg) x y H Q) :
  ∃ ι S M p q d1 d2,adO/\aj0 p x/\aj0 q y/\t6 (ao5 p) d1/\t6 (ao5 q) d2/\Q (.bl (ail (PyData.eqv d1 d2) (PyData.eqv d1 d2))) H:=by
 obtain⟨E,ι,S,M,p,q,aV,rx,ry,w⟩:=h;rw[agI dX];cases e1:ao5 p with
 | none=>rw[ak9 e1]
 | some d1 =>
  cases e2:ao5 q with
  | none=>rw[e1,e2] at w;rw[abZ]
  | some d2 =>
   rw[e1,e2] at w;exact⟨ι,S,M,p,q,d1,d2,aV,rx,ry,e1,e2,ayH⟩
def bX aOf:aqs Eq (dX false):=by
 intro pins s σ H x y v u Q I rx ry h;obtain⟨ι,S,M,p,q,d1,d2,aV,px,py,e1,e2,w⟩:=JV h;obtain⟨⟨as,a1⟩,a2,a3⟩:=mm aV I.cR deep p x v d1 px rx e1;obtain⟨⟨bs,b1⟩,b2,b3⟩:=mm aV I.cR deep q y u d2 py ry e2;exact SeqAt.compareEq_reads a1 b1 a2 b2 (by have:=Nat.min_le_left d1.depth d2.depth;have:d1.depth≤10:=a3;omega) (awR .bl _ w)
def jG aOf:aqs NotEq (dX true):=by
 intro pins s σ H x y v u Q I rx ry h;obtain⟨ι,S,M,p,q,d1,d2,aV,px,py,e1,e2,w⟩:=JV h;obtain⟨⟨as,a1⟩,a2,a3⟩:=mm aV I.cR deep p x v d1 px rx e1;obtain⟨⟨bs,b1⟩,b2,b3⟩:=mm aV I.cR deep q y u d2 py ry e2;exact SeqAt.compareNe_reads a1 b1 a2 b2 (by have:=Nat.min_le_left d1.depth d2.depth;have:d1.depth≤10:=a3;omega) (awR .bl _ w)
abbrev kq:aiK PV Key
 | η i=>aa2 b4 i
 | b5 x=>aa2 b9 x
 | _=>none
abbrev JW:aiK PV ajX
 | f9 xs=>ajG kq
 | _=>none
abbrev jq aOd [am7] (kvs:aki)aN4:akQ:=amt (kvs.find? (arK (afD=k))).map
abbrev nv aOd [am7] (kvs:aki)aN4(v:PV):aki :=
 if kvs.any (arK (afD=k)) then kvs.map (λ kv=>if afD=k then(afD,v) else kv) else kvs++[(k,v)]
abbrev ue aOd [am7] (kvs:aki)aN4:aki:=kvs.filter (aiY kv afD k)
def mF aNw aOn aOW(r:aed)(e:kq x=aeK):v=akD:=by
 cases x with
 | int i=>cases e; exact aFF
 | str z=>cases e; exact aFG
 | _=>cases e
def wL aNw:∀aNP{ks:ajX},aee->t6 (ajG kq) ks->vs=aF6
 | [],vs,ks,r,e=>by rw[bg] at r;subst r; cases e; rfl
 | x::xs,vs,ks,r,e=>by
  rw[abY v r' h1 h2 r.kn];rw[nu] at e;cases e1:kq x with
  | none=>rw[e1] at e; cases e
  | some k =>
   cases e2:ajG kq with
   | none=>rw[e1,e2] at e; cases e
   | some ks' =>
    rw[e1,e2] at e;cases e;rw[zC,← mF h1 e1,← wL h2 e2]
def dI.val aNw aOd [am7] aPj aN4 :
  (YW anT/\YW (nj bY k))\/∃x v,anT=ad5/\nj bY k=aeJ/\aed:=by
 induction h with
 | nil=>exact awt rfl
 | @cons p q kvs bY r t ih =>
  obtain⟨r1,r2⟩:=r;rw[awZ]
  ·refine b9 ⟨p.2,q.2,asY jq e,agK (vm (r1 ▸ e)),r2⟩
  ·have e':¬q.1=k:=r1 ▸ e
   have h1:jq (p::kvs) k=anT:=asY jq e
   rw[aeh h1 (vn e') ih]
def dI.any aNw aOd [am7] aPj aN4:kvs.any (arK (afD=k))=bY.any (arK (afD=k)):=by
 induction h with
 | nil=>rfl
 | cons r t ih=>rw[List.any_cons,List.any_cons,r.1,ih]
def dI.put aNw aOd [am7] aPj aN4 aOn(r:aed):dI K ι S (nv kvs k x) (putK bY k v):=by
 unfold nv putK;rw[h.any k];split
 ·induction h with
  | nil=>rw[akp]
  | @cons p q kvs bY r' t ih =>
   rw[zC,zC]
   refine aaT ?_ ?_
   ·rw[awZ]
    ·rw[aml e (r'.1 ▸ e)];rw[aab r'.1 r]
    ·rw[aeh akU (if_neg (r'.1 ▸ e)) r']
   ·rename_i hq;clear ih hq
    induction t with
    | nil=>rw[akp]
    | @cons p q kvs bY r' t ih =>
     rw[zC,zC]
     refine aaT ?_ ih;rw[awZ]
     ·rw[aml e (r'.1 ▸ e)];rw[aab r'.1 r]
     ·rw[aeh akU (if_neg (r'.1 ▸ e)) r']
 ·induction h with
  | nil=>exact azy r abT
  | cons r' t ih =>
   rename_i hq;refine aaT r' (ih ?_);intro z;exact hq (by rw[List.any_cons,z,Bool.or_true])
def dI.drop aNw aOd [am7] aPj aN4:dI K ι S (ue kvs k) (vj bY k):=by
 unfold ue vj
 induction h with
 | nil=>rw[akp]
 | @cons p q kvs bY r t ih =>
  rw[List.filter_cons,List.filter_cons,← r.1];split
  ·exact aaT r ih
  ·exact ih
abbrev getD aNi(x k:PV):apY akQ:=match x with
 | ο n=>match M[n]? with
  | aCU=>(kq k).map (jq kvs)
  | aa2 .LG kvs=>(JW k).map (jq kvs)
  | aa2 .km kvs=>(kq k).map (jq kvs)
  | _=>none
 | _=>none
def FT aOI{x k:PV}{v y:V}{o:akQ}aPe(ry:aj0 k y)(h:getD M x k=aaW) :
  ∃p ov,v=Δ p/\WB H p/\rZ H p y ov/\((YW o/\YW ov)\/∃z w,t6 o z/\t6 ov w/\aj0 z w):=by
 cases x with
 | obj n =>
  rw[adw p ei (bj.eZ.mp r)];obtain⟨mo,eM,q⟩:=aV.addr ei;simp only[getD,eM] at h;cases mo with
  | bP kvs =>
   obtain⟨_,bY,eH,rk⟩:=q;rw[ane];cases ek:kq k with
   | none=>rw[azw]; cases h
   | some kk =>
    rw[azw];cases h;have:=mF ry ek
    subst this
    refine aoZ p (nj bY kk) (b4 ⟨bY,b4 eH⟩) (rZ.k eH) ?_;rcases aK4 with⟨h1,h2⟩ | ⟨z,w,h1,h2,h3⟩
    ·exact b4 ⟨h1,h2⟩
    ·exact b9 ⟨z,w,h1,h2,h3⟩
  | LG kvs =>
   obtain⟨_,bY,eH,rk⟩:=q;rw[ane];cases k with
   | tup xs =>
    rw[abY b vs eS hr (bj.gy.mp ry)];simp only[JW] at h;cases ek:ajG kq with
    | none=>rw[azw]; cases h
    | some kk =>
     rw[azw];cases h;have:=wL hr ek
     subst this
     refine aoZ p (nj bY kk) (ald bY (b4 eH)) (rZ.t eH (aV.sub _ _ eS)) ?_;rcases aK4 with⟨h1,h2⟩ | ⟨z,w,h1,h2,h3⟩
     ·exact b4 ⟨h1,h2⟩
     ·exact b9 ⟨z,w,h1,h2,h3⟩
   | _=>cases h
  | km kvs =>
   obtain⟨ob,bY,_,eH,rk⟩:=q;rw[ane];cases ek:kq k with
   | none=>rw[azw]; cases h
   | some kk =>
    rw[azw];cases h;have:=mF ry ek
    subst this
    refine aoZ p (nj bY kk) (b4 ⟨bY,ald ob eH⟩) (b4 (aa9 bY kk (ald ob eH) rfl)) ?_;rcases aK4 with⟨h1,h2⟩ | ⟨z,w,h1,h2,h3⟩
    ·exact b4 ⟨h1,h2⟩
    ·exact b9 ⟨z,w,h1,h2,h3⟩
  | _=>cases h
 | _=>cases h
abbrev mG aR3:D2:=λ x y M=>match an3 y with
 | atm=>match ao5 x,nu (flat M deep) ys with
  | some p,some qs=>.ok (.bl (ail (qs.any (akK q q p)) (qs.any (akK q q p)))) M
  | _,_=>c6
 | none=>match getD M y x with
  | aaW=>.ok (.bl (ail o.isSome o.isSome)) M
  | none=>c6
def OP aR3 aOf aQu
  (hL:∀aNJ{c x:Value}{xs:aFi}aR2{as bs:c9}aNN(rc:aE3 c (ao1 xs) as)aUi(hd:axx)
   aS3,ads (compareOp op x c) Q s)
  (hT:∀aNJ{c x:Value}{xs:aFi}aR2{as bs:c9}aNN(rc:aE3 c (awb xs) as)aUi(hd:axx)
   aS3,ads (compareOp op x c) Q s)
  (hD:∀aPD aNJ aOv aOi aQw{o:apV}aNN,ahA (rZ H p y o) (ajH->(∀s',arJ->Q (aiW (ail o.isSome o.isSome)) s') →
   ads (compareOp op u (Δ p)) Q s)):av2 (ami (mG neg)):=by
 intro pins s σ H x y v u Q I rx ry h;obtain⟨E,ι,S,M,p,q,aV,px,py,w⟩:=h;rw[agI mG];cases e1:an3 q with
 | some ys =>
  rw[az9];cases e2:ao5 p with
  | none=>rw[aCA]
  | some d =>
   cases e3:nu (flat M deep) ys with
   | none=>rw[e2,e3] at w;rw[abZ]
   | some qs =>
    rw[e2,e3] at w;have fin:=ayH;obtain⟨⟨as,a1⟩,a2,a3⟩:=mm aV I.cR deep p x v d px rx e2;rw[abY l vs hq rs (vA aV py e1)];cases ry
    have room:au4 1+min aJB d.depth<cLine:=by have:=Nat.min_le_right aJB d.depth;have:aBB 10:=a3;omega
    rcases hq with hq | hq
    ·rw[afj rv pl hz (I.list hq)];obtain⟨⟨bs,b1⟩,b2,b3⟩:=qb (mm aV I.cR deep) ys vs bN qs rs rv e3;obtain⟨o,n,ho,hc,_,hd⟩:=pl;exact hL (ao1 ho hc hd (aaF b1)) a1 b2 a2 room (awR .bl _ fin)
    ·rw[afj rv pl hz (I.tuple hq)];obtain⟨⟨bs,b1⟩,b2,b3⟩:=qb (mm aV I.cR deep) ys vs bN qs rs rv e3;obtain⟨o,ho,hc,n,hd⟩:=pl;exact hT (awb ho hc hd (aaF b1)) a1 b2 a2 room (awR .bl _ fin)
 | none =>
  rw[az9];cases e2:getD M q p with
  | none=>rw[aCA]
  | some o =>
   rw[e2] at w;have fin:=ayH;obtain⟨l,ov,rfl,_,g,hh⟩:=FT aV py px e2;cases ry
   have eo:o.isSome=ov.isSome:=by
    rcases hh with⟨h1,h2⟩ | ⟨z,w',h1,h2,_⟩
    ·rw[h1,h2]; rfl
    ·rw[h1,h2]; rfl
   rw[g9 eo fin (hD I g rx λ s' I'=>aa9 (.bl _) H I' fin)]
def iz aOf:aqs In (mG false) :=
 OP false hu (λ rc rx SN hd hu h=>SeqAt.in_list_reads rc rx SN hd hu h) (λ rc rx SN hd hu h=>SeqAt.in_tuple_reads rc rx SN hd hu h) λ I g ry h=>adh b6 I g ry h
def qH aOf:aqs NotIn (mG true) :=
 OP true hu (λ rc rx SN hd hu h=>SeqAt.notIn_list_reads rc rx SN hd hu h) (λ rc rx SN hd hu h=>SeqAt.notIn_tuple_reads rc rx SN hd hu h) λ I g ry h=>Sj b6 I g ry h
abbrev HZ:D2:=lQ (abg _ true) (aei j (.bl (an8 i j)))
abbrev ZW:D2:=lQ (abg _ true) (aei j (.bl (aqo i j)))
abbrev Hy:D2:=lQ (abg _ true) (aei j (.bl (an8 j i)))
abbrev ZX:D2:=lQ (abg _ true) (aei j (.bl (aqo j i)))
def wM:aqs Lt HZ:=Zp.imp (apl (by
 obtain⟨i,j,rfl,rfl,_,ι,S,M,aV,k⟩:=og h;exact aa9 i j rfl (k _ (bj.fu.mpr rfl))))
def Ia:aqs LtE ZW:=Zq.imp (apl (by
 obtain⟨i,j,rfl,rfl,_,ι,S,M,aV,k⟩:=og h;exact aa9 i j rfl (k _ (bj.fu.mpr rfl))))
def sj:aqs Gt Hy:=Zr.imp (apl (by
 obtain⟨i,j,rfl,rfl,_,ι,S,M,aV,k⟩:=og h;exact aa9 i j rfl (k _ (bj.fu.mpr rfl))))
def OQ:aqs GtE ZX:=Zs.imp (apl (by
 obtain⟨i,j,rfl,rfl,_,ι,S,M,aV,k⟩:=og h;exact aa9 i j rfl (k _ (bj.fu.mpr rfl))))
abbrev uf:alA PV
 | .bh=>true
 | _=>false
def C2 aNw aOn(r:aed):aeY v .bh=uf x:=by
 cases x with
 | bh=>cases aKP; rfl
 | bl b=>cases aBg; rfl
 | int i=>cases aFF; rfl
 | str z=>cases aFG; rfl
 | lst xs=>obtain⟨p,vs,rfl,_⟩:=bj.ml.mp r;rfl
 | tup xs=>obtain⟨p,vs,rfl,_⟩:=bj.gy.mp r;rfl
 | obj n=>obtain⟨p,rfl,_⟩:=bj.eZ.mp r;rfl
 | m5 n=>obtain⟨p,rfl,_⟩:=bj.vz.mp r;rfl
abbrev sk aR3:D2:=λ x y M=>match y with
 | .bh=>.ok (.bl (ail (uf x) (uf x))) M
 | _=>c6
def mP:aqs Is (sk false):=Wn.imp (apl (by
 obtain⟨E,ι,S,M,p,q,aV,rx,ry,w⟩:=h;cases q with
 | bh =>
  rw[ac4 (bj.ky.mp ry) ?_];rw[Ω (C2 rx) ayH]
 | _=>rw[abZ]))
def tD:aqs IsNot (sk true):=R9.imp (apl (by
 obtain⟨E,ι,S,M,p,q,aV,rx,ry,w⟩:=h;cases q with
 | bh =>
  rw[ac4 (bj.ky.mp ry) ?_];rw[Ω (C2 rx) ayH]
 | _=>rw[abZ]))
def lR aQu{f:D2}aSL aQl(hm:aDs:=by rfl):adk (ayb a [op] [b] pos) (aB f da db):=⟨PE.imp (Sa ho ha.out hb.out hm) λ _ _ _ h=>JT h⟩
abbrev jr aNi:aiK PV Bool
 | .bh=>some false
 | .bl b=>akd
 | η i=>c8 (i != 0)
 | b5 x=>au9 (x.length≤lim) (c8 (aae x.length != 0))
 | ς xs=>aLa
 | f9 xs=>aLa
 | .m5 ns=>some ! ns.isEmpty
 | ο n=>match M[n]? with
  | afN=>aLa
  | aCU=>some aEZ
  | _=>none
def isEmpty_eq aOa aQy{ys:aGK}(h:ax3 ys.length):xs.isEmpty=ys.isEmpty:=by cases xs<;>cases ys<;>simp_all
def OR aOI aOn{k:Bool}aPe(h:jr M x=aeK):Wr K v H k:=by
 cases x with
 | bh=>cases aKP; cases h; rfl
 | bl b=>cases aBg; cases h; rfl
 | int i=>cases aFF; cases h; rfl
 | str z =>
  cases aFG;simp only[jr] at h;split at h
  ·cases h;rw[ap0];exact akG (sf hl)
  ·cases h
 | lst xs =>
  rw[abY p vs e q (bj.ml.mp r)];cases h;exact b4 ⟨vs,.of aDj,agK (isEmpty_eq q.length)⟩
 | tup xs =>
  rw[abY p vs e q (bj.gy.mp r)];cases h;exact b9 (b4 ⟨vs,.of aDj,agK (isEmpty_eq q.length)⟩)
 | m5 ns =>
  rw[adw p e (bj.vz.mp r)];cases h;exact b4 (apc (e.mono aV.sub) (agK (isEmpty_eq (Ξ:ns.length=acL al3))))
 | obj n =>
  rw[adw p e (bj.eZ.mp r)];obtain⟨o,eM,q⟩:=aV.addr e;simp only[jr,eM] at h;cases o with
  | lst xs =>
   cases h;obtain⟨_,vs,e,q⟩:=q;exact b4 ⟨vs,.of e,agK (isEmpty_eq q.length)⟩
  | bP xs =>
   cases h;obtain⟨_,vs,e,q⟩:=q;exact b9 (b9 ⟨vs,e,agK (isEmpty_eq q.length)⟩)
  | _=>cases h
abbrev fw aNH:DT:=ag0 (abO).bind (Res.opt (jr M1 x) M1)
def bI aPp(he:∀whole,isTrue a X.env whole=(do let v ← whole; standAt a.pos; aou [v] (truthy v)):=by rw[asa]):VT X Ex a (fw da):=⟨by
 refine PT.imp (Oa ha.out he) (acE σ H Q h);obtain⟨ι,S,M,ρ,aV,sl,w⟩:=h;refine⟨ι,S,M,ρ,aV,sl,adG (gW X.K) w (λ ι1 S1 M1 H1 x v e1 s1 r1 w1=>?_)⟩;cases e:jr M1 x with
 | none=>rw[g9 e w1 w1.elim]
 | some k =>
  rw[e] at w1
  rw[Lb k (OR s1 r1 e) (w1 ι1 S1 H1 k afs s1 rfl)]⟩
abbrev aW aNH:DT:=ag0 (abO).bind (match x with
 | .bl k=>.ok k M1
 | _=>c6)
def Xe aNE aOv{Q:at4}{t:TE}(h:tG K NN Ex (aW d) σ H Q)(hd:∀Q',tG K (gW K) Ex d σ H Q'->t σ H Q'):U2 t σ H Q:=by
 obtain⟨ι,S,M,ρ,aV,sl,w⟩:=h;rw[adY (hd _ ⟨ι,S,M,ρ,aV,sl,?_⟩) (arZ w (λ ι1 S1 M1 H1 x v e1 s1 r1 w1=>?_))];cases x with
 | bl k=>rw[Lb k (bj.fu.mp r1) (w1 ι1 S1 H1 k afs s1 rfl)]
 | _=>rw[agW]
def aJ aQu{f:D2}aSL aQl(hm:aDs:=by rfl) :
  VT X Ex (ayb a [op] [b] pos) (af4 f da db):=⟨PT.imp (Se ho ha.out hb.out hm) λ σ H Q h=>Xe h λ Q' h'=>JT h'⟩
abbrev D0(f g:D2)(da db dc:DE):DE:=aBv (da ρ M).bind (aC0).bind y ((f x y M2).bind λ z M3=>match z with
 | afE=>(dc ρ M3).bind λ w M4=>g y w M4
 | ako .bl=>.ok (ako .bl) M3
 | _=>c6)
def OS{f g:D2}aNE aOv aN0(h:tG K (gW K) Ex (D0 f g da db dc) σ H Q):N8 (rP K f) (rP K g) (tG K (gW K) Ex da) (tG K (gW K) Ex db) (tG K (gW K) Ex dc) σ H Q:=by
 obtain⟨ι,S,M,ρ,aV,sl,w⟩:=h;refine⟨ι,S,M,ρ,aV,sl,arZ w (λ ι1 S1 M1 H1 x v e1 s1 r1 w1=>?_)⟩;refine⟨ι1,S1,M1,ρ,s1,afH,arZ w1 (λ ι2 S2 M2 H2 y u e2 s2 r2 w2=>?_)⟩;refine⟨_,ι2,S2,M2,x,y,s2,aoi e2,r2,arZ w2 (λ ι3 S3 M3 H3 z t e3 s3 r3 w3=>?_)⟩;cases z with
 | bl k =>
  rw[ab8 k (bj.fu.mp r3) ?_];cases k with
  | false=>exact FK (w3 ι3 S3 H3 _ afs s3 (bj.fu.mpr rfl))
  | true =>
   refine FL ⟨ι3,S3,M3,ρ,s3,(afH).mono (e2.trans e3),arZ w3 (λ ι4 S4 M4 H4 c t4 e4 s4 r4 w4=>?_)⟩;exact⟨_,ι4,S4,M4,y,c,s4,bj.mono (e3.trans e4) r2,r4,w4⟩
 | _=>exact w3.elim
def OT{op Wq:CmpOp}{f g:D2}aSL(JD:m4 X (compareOp Wq) (ami g))aQl(hc:adk c dc)
  aTr:adk (ayb a [op,Wq] [b,c] pos) (D0 f g da db dc):=⟨PE.imp (N9 ho JD ha.out hb.out hc.out hm) λ _ _ _ h=>OS h⟩
variable {ta tb tc:DT} {rest:ab5}
abbrev lx(ta tb:DT):DT:=λ ρ M=>aj4 (ta ρ M).bind k (ahi k (tb ρ M1) (.ok false M1))
abbrev Ai(ta tb:DT):DT:=λ ρ M=>aj4 (ta ρ M).bind k (if b8 k then .ok true M1 else tb ρ M1)
abbrev tY(ta:DT):DT:=λ ρ M=>aj4 (ta ρ M).bind k (.ok (! k) M1)
def ie(h:aDt):VW X Ex (ahH .And [a] pos) ta:=⟨RX h.out⟩
def lz(h:aDt):VW X Ex (ahH .Or [a] pos) ta:=⟨V0 h.out⟩
def iA(ha:aDt)(hb:VW X Ex (ahH .And akw pos) tb):VW X Ex (ahH .And (a::akw) pos) (lx ta tb):=⟨by
 refine PW.imp (V1 ha.out hb.out) (acE σ H Q h);obtain⟨ι,S,M,ρ,aV,sl,w⟩:=h;refine⟨ι,S,M,ρ,aV,sl,adG NN w (λ ι1 S1 M1 H1 x v e1 s1 r1 w1=>?_)⟩;cases r1;cases x with
 | false=>exact FK (w1 ι1 S1 H1 false afs s1 rfl)
 | true=>exact aHP⟩
def o8(ha:aDt)(hb:VW X Ex (ahH .Or akw pos) tb):VW X Ex (ahH .Or (a::akw) pos) (Ai ta tb):=⟨by
 refine PW.imp (Y7 ha.out hb.out) (acE σ H Q h);obtain⟨ι,S,M,ρ,aV,sl,w⟩:=h;refine⟨ι,S,M,ρ,aV,sl,adG NN w (λ ι1 S1 M1 H1 x v e1 s1 r1 w1=>?_)⟩;cases r1;cases x with
 | true=>exact FL (w1 ι1 S1 H1 true afs s1 rfl)
 | false=>exact aHO⟩
def mQ(ha:aDt):VT X Ex (aGq .Not a pos) (tY ta):=⟨by
 refine PT.imp (V2 ha.out) (acE σ H Q h)
 obtain⟨ι,S,M,ρ,aV,sl,w⟩:=h
 refine⟨ι,S,M,ρ,aV,sl,adG NN w (λ ι1 S1 M1 H1 x v e1 s1 r1 w1=>?_)⟩;cases r1
 exact ajI rfl⟩
abbrev JX aR1:DE:=ag0 (da ρ M).bind (match x with
 | afE=>aC0
 | ako .bl=>.ok (ako .bl) M1
 | _=>c6)
abbrev OU aR1:DE:=ag0 (da ρ M).bind (match x with
 | ako .bl=>aC0
 | afE=>.ok afE M1
 | _=>c6)
def Ib{op}(h:akv):adk (ahH op [a] pos) da:=⟨V3 h.out⟩
def Xf aPp(hb:adk (ahH .And akw pos) db):amF ahH .And (a::akw) (JX da db):=⟨by
 rw[amR (V4 ha.out hb.out) (λ ι1 S1 M1 H1 x v e1 s1 r1 w1=>?_)];cases x with
 | bl k =>
  rw[ab8 k (bj.fu.mp r1) ?_];cases k with
  | false=>exact FK (ajI (bj.fu.mpr rfl))
  | true=>exact aHP
 | _=>rw[agW]⟩
def Vb aPp(hb:adk (ahH .Or akw pos) db):amF ahH .Or (a::akw) (OU da db):=⟨by
 rw[amR (Y9 ha.out hb.out) (λ ι1 S1 M1 H1 x v e1 s1 r1 w1=>?_)];cases x with
 | bl k =>
  rw[ab8 k (bj.fu.mp r1) ?_];cases k with
  | true=>exact FL (ajI (bj.fu.mpr rfl))
  | false=>exact aHO
 | _=>rw[agW]⟩
abbrev Ic(tc:DT)aR1:DE:=λ ρ M=>aj4 (tc ρ M).bind k (ahi k (da ρ M1) aC0)
def vC(hc:VT X Ex c tc)aQl:adk (.IfExp c a b pos) (Ic tc da db):=⟨by
 refine PE.imp (N3 hc.out ha.out hb.out) λ σ H Q h=>?_;obtain⟨ι,S,M,ρ,aV,sl,w⟩:=h;refine⟨ι,S,M,ρ,aV,sl,adG NN w (λ ι1 S1 M1 H1 x v e1 s1 r1 w1=>?_)⟩;cases r1;cases x with
 | true=>exact aHP
 | false=>exact aHO⟩
universe zE
universe L2
universe zE
end
mutual
section
namespace L2
open PySem PySem.Spec PyProof.Rows
section
variable {X:Cx} {Ex:St->XK} {a b c e o:Expr} {es:ab5} {da db dc d lL:DE} {ds:aeG} {pos apos cW:Pos}
def SO aOf:Sy X (amX (∃p v,x=Δ p/\rZ H p y aeJ/\Q v H)):=by
 intro value slice pins s σ H x y v u Q I rx ry h hs;rw[amB p z g h];cases rx;exact tail_any (FE I g) PySem.F.slot_dict_getitem.lookup (Lu b6 I g ry λ w' s3 I3 B8=>⟨z,H,I3,B8,q⟩) hs
abbrev aO:D2:=λ x y M=>match azZ with
 | agm=>match y with
  | η i=>Res.opt az5 M
  | _=>c6
 | none=>match getD M x y with
  | am5 z=>.ok z M
  | _=>c6
def OV aNw aNP aNy aNv(r:aee)(h:az5=ad5):∃v,Ly vs i=aeJ/\aed:=by
 unfold Ly at h ⊢;rw[← r.length];cases e:avi i with
 | none=>rw[amW]; cases h
 | some j =>
  rw[g9 e h (r.get h)]
def adH aOf:Sy X (ami aO):=by
 have base:=(Sz (X:=X)).or (r6.or (SO hu));intro value slice pins s σ H x y v u Q I rx ry h hs;refine base value slice pins s σ H x y v u Q I rx ry ?_ hs;obtain⟨E,ι,S,M,p,q,aV,px,py,w⟩:=h;rw[agI aO];cases e1:an3 p with
 | some xs =>
  rw[az9];cases q with
  | int i =>
   dsimp only at w;cases e2:az5 with
   | none=>rw[aCA]
   | some z =>
    rw[e2] at w;rw[abY l vs hq rs (vA aV px e1)];obtain⟨z',h1,h2⟩:=OV rs e2;have fin:=akX z' h2;rcases hq with hq | hq
    ·exact b4 ⟨l,vs,i,z',rfl,bj.bC.mp py,hq,h1,fin⟩
    ·exact b9 (b4 ⟨l,vs,i,z',rfl,bj.bC.mp py,hq,h1,fin⟩)
  | _=>rw[abZ]
 | none =>
  rw[az9];cases e2:getD M p q with
  | none=>rw[aCA]
  | some oo =>
   cases oo with
   | none=>rw[aCA]
   | some z =>
    rw[e2] at w;obtain⟨l,ov,rfl,_,g,hh⟩:=FT aV px py e2;rcases hh with⟨h1,_⟩ | ⟨z',w',h1,h2,h3⟩
    ·cases h1
    ·cases h1;rw[adL h2 (b9 (b9 (ae7 l w' g (akX w' h3))))]
def ax aOf aQl(hs:JO b:=by intro _ _; rfl):amF alw a b (aB aO da db):=⟨PE.imp (ZF (adH hu) ha.out hb.out hs) λ _ _ _ h=>JT h⟩
noncomputable abbrev DO:=fk->bb->Res acG
noncomputable abbrev RpO:c9->Hp->acG->adj acG:=λ _ _ x v=>v=x
structure VO aOm(e:aA6)(d:DO):Prop where
 out:PO X e (tG X.K RpO Ex d)
def PO.imp{e:aA6}{t t':TO}(h:PO X e t)aQi:PO X e t':=λ pins s σ H Q I hw=>h pins s σ H Q I (i σ H Q hw)
abbrev fG:DO:=abg M (.ok none M)
abbrev kj aNH:DO:=ag0 (abO).bind (match x with
 | η i=>.ok awc M1
 | _=>c6)
def gO:VO X Ex none fG:=⟨by
 refine PO.imp Su (acE σ H Q h)
 obtain⟨ι,S,M,ρ,aV,sl,w⟩:=h
 exact akX none rfl⟩
def gz(h:ar9):VO X Ex aHI (kj d):=⟨by
 refine PO.imp (Sv h.out) (acE σ H Q h);obtain⟨ι,S,M,ρ,aV,sl,w⟩:=h;refine⟨ι,S,M,ρ,aV,sl,adG (gW X.K) w (λ ι1 S1 M1 H1 x v e1 s1 r1 w1=>?_)⟩;cases x with
 | int i=>rw[Lb i asW (ajI rfl)]
 | _=>rw[agW]⟩
abbrev pI aOk aPi:d5:=(ax4 aqD).take (ay9-aqD)
def bg.pI aNw aNP(r:aee)aPi:auV (pI xs lo hi) (DP vs lo hi):=by
 unfold L2.pI DP;rw[aeN r.length ((r.drop _).take _)]
abbrev FU aNG aNO aPi aNi:afm:=match x with
 | f9 xs=>if aqD=0/\ay9=xs.length then c6 else .ok (f9 (pI xs lo hi)) M
 | x=>match anW with
  | agm=>rT live (pI xs lo hi) M
  | none=>c6
abbrev adI aNc aNG:V->acG->auP:=λ x lo hi H Q=>∃E ι S M p,adO/\aj0 p x/\aph (FU live p lo hi M)
def Oo.imp aT5(i:∀x lo hi H Q,r' x lo hi H Q->r x lo hi H Q):Oo X r':=λ pins s σ H x v vl vu lo hi sl Q I rx hs pl pu q=>h pins s σ H x v vl vu lo hi sl Q I rx hs pl pu (i _ _ _ _ _ q)
def adJ aNG:Oo X (adI X.K live):=(SA.or WK).imp λ x lo hi H Q h=>by
 obtain⟨E,ι,S,M,p,aV,px,w⟩:=h
 rw[avV lists (∀aNh,aur=agm->cz X.K (gW X.K) E ι S H Q (rT live (pI xs lo hi) M)->WM X.K x lo hi H Q) (λ{xs} h1 w=>by
  rw[abY l vs e1 r1 (fU aV px h1)];rw[afF w1 w2 (n0 aV (r1.pI lo hi) w) (ae7 l vs (.of e1) w2)]) other ((FU live p lo hi M=match aur with | agm=>rT live (pI xs lo hi) M | none=>c6)->WM X.K x lo hi H Q) e (by
  rw[e] at w;cases h1:aur with
  | none=>rw[ak9 h1]
  | some xs=>rw[g9 h1 w (lists h1 w)])]
 cases p with
 | tup xs =>
  right;rw[avt FU];split at w
  ·rw[abZ]
  ·rw[arv];rw[abY l vs e1 r1 (bj.gy.mp px)];rw[apN (aoZ l vs (.of (aV.sub _ _ e1)) (by rw[abQ r1.length hc]) asd) s2 e2 (aV.tree (o:=f9 (DP vs lo hi)) hp) (w _ _ _ _ e2 s2 (bj.gy.mpr (ae7 p _ bG ((r1.pI lo hi).mono e2))))]
 | _=>exact b4 aK3
abbrev C3 aNG(da:DE)(dl dh:DO):DE:=aBv (da ρ M).bind (dl ρ M1).bind lo ((dh ρ M2).bind λ hi M3=>FU live x lo hi M3)
def mH aNG{lo hi:aA6}{dl dh:DO}{p2:Pos}aQA(hl:VO X Ex lo dl)(hh:VO X Ex hi dh):amF alw e (ayT lo hi none p2) (C3 live d dl dh):=⟨by
 rw[amR (Oq (adJ live) he.out hl.out hh.out) (λ ι1 S1 M1 H1 x v e1 s1 r1 w1=>?_)]
 refine⟨ι1,S1,M1,ρ,s1,afH,adG RpO w1 (λ ι2 S2 M2 H2 l l' e2 s2 r2 w2=>?_)⟩;cases r2;refine⟨ι2,S2,M2,ρ,s2,ayF,adG RpO w2 (λ ι3 S3 M3 H3 h h' e3 s3 r3 w3=>?_)⟩;cases r3
 exact⟨_,ι3,S3,M3,x,s3,aIz,w3⟩⟩
abbrev D3 aNO aNi:afm:=match x with
 | ο n=>match M[n]? with
  | afN=>.ok (ς xs) (arw .gone)
  | _=>.ok x M
 | x=>.ok x M
abbrev D4 aNH:DE:=ag0 (abO).bind (D3 x M1)
def wN(h:ar9):adk e (D4 d):=⟨by
 refine PE.imp h.out λ σ H Q hh=>?_;obtain⟨ι,S,M,ρ,aV,sl,w⟩:=hh;refine⟨ι,S,M,ρ,aV,sl,adG (gW X.K) w (λ ι1 S1 M1 H1 x v e1 s1 r1 w1=>?_)⟩;have keep:cz X.K (gW X.K) (Ex σ) ι1 S1 H1 Q (.ok x M1)->apj v:=λ w=>w ι1 S1 H1 v afs s1 r1;cases x with
 | obj n =>
  simp only[D3] at w1;cases eM:M1[n]? with
  | none=>rw[g9 eM w1 (keep w1)]
  | some o =>
   rw[eM] at w1;cases o with
   | lst xs =>
    rw[adw p ei (bj.eZ.mp r1)];rw[asQ S' s2 e2 r2 (s1.freeze ei eM) (w1 _ _ _ _ e2 s2 r2)]
   | _=>exact keep w1
 | _=>exact keep w1⟩
noncomputable abbrev D1:=d5->bb->afm
abbrev rC aNc(f:D1):ajm:=λ vs H Q=>∃E ι S M xs,adO/\aee/\aph (f xs M)
def gC.imp{f:Value}{r r':ajm}(h:gC X f r)(i:∀xs H Q,r' xs H Q->r xs H Q):gC X f r':=λ pins s σ H xs us Q I rs q=>h pins s σ H xs us Q I rs (i _ _ _ q)
abbrev aw(f:D1)aO6:DE:=awn (alc).bind (f xs M1)
def JY{f:D1}aNE aOv aN0(h:tG K (gW K) Ex (aw f ds) σ H Q):tCB (rC K f) (tG K (al4 K) Ex (fF ds)) σ H Q:=by
 obtain⟨ι,S,M,ρ,aV,sl,w⟩:=h;refine⟨ι,S,M,ρ,aV,sl,adG (al4 K) w (λ ι1 S1 M1 H1 x v e1 s1 r1 w1=>?_)⟩;exact⟨_,ι1,S1,M1,x,s1,r1.1,w1⟩
def bz{f:D1}aNg aRN{p:Pos}(hc:arF id (aqe f))(hm:awL)(hv:aqY=aa2 adX id)aRd aRb
  aPT:adk (aet (aad x p) (e::es) [] pos) (aw f ds):=⟨PE.imp (zW hc hg hm hv ha.out hn HQ he p7) λ _ _ _ h=>JY h⟩
def ff{f:D1}aNg{T:String}{p:Pos}(hc:gC X (acr T) (aqe f))(hm:awL)(hv:aqY=aa2 acr T)aRd aRb
  aPT:adk (aet (aad x p) (e::es) [] pos) (aw f ds):=⟨PE.imp (CT hc hg hm hv ha.out hn HQ he p7) λ _ _ _ h=>JY h⟩
def bg.ju aNw aNv aOr(h:bg K ι S [x] vs):∃v,vs=[v]/\aed:=by
 rw[abY v r h1 h2 h.kn];rw[bg] at h2;subst h2;exact afT v h1
def bg.zo aNw aQB aOr(h:bg K ι S [x,y] vs):∃v w,vs=[v,w]/\aed/\aj0 y w:=by
 rw[abY v r h1 h2 h.kn];rw[adw w h3 h2.ju];exact ae7 v w h1 h3
abbrev cu:D1:=apb (match xs with
 | [x]=>match azZ with
  | atm=>.ok aHl M
  | none=>match x with
   | ο n=>match M[n]? with
    | aCU=>.ok aHg M
    | _=>c6
   | _=>c6
 | _=>c6)
def bt:aGl (aqe cu):=(DW.or LD).imp λ vs H Q h=>by
 obtain⟨E,ι,S,M,xs,aV,r,w⟩:=h;rw[agI cu]
 match xs,r,w with
 | [],r,w=>rw[abZ]
 | x::y::z,r,w=>rw[abZ]
 | [x],r,w =>
  rw[adw v r1 r.ju];dsimp only at w;cases e1:azZ with
  | some ys =>
   rw[e1] at w;rw[abY p vs hq rs (vA aV r1 e1)];refine b4 (ae7 p vs hq ?_);rw[aER ap9]
  | none =>
   rw[az9];cases x with
   | obj n =>
    rw[adw p ei (bj.eZ.mp r1)];obtain⟨o,eM,q⟩:=aV.addr ei;rw[avt eM];cases o with
    | bP kvs =>
     obtain⟨_,bY,eH,rk⟩:=q;refine b9 (ae7 p bY eH ?_);rw[abQ rk.length ap9]
    | _=>rw[abZ]
   | _=>rw[abZ]
abbrev kX aNG:D1:=apb (match xs with
 | [x]=>match azZ with
  | atm=>rT live ys M
  | none=>c6
 | _=>c6)
def kH aNG:gC X aj2 (aqe (kX live)):=DX.imp λ vs H Q h=>by
 obtain⟨E,ι,S,M,xs,aV,r,w⟩:=h;rw[agI kX]
 match xs,r,w with
 | [],r,w=>rw[abZ]
 | x::y::z,r,w=>rw[abZ]
 | [x],r,w =>
  rw[adw v r1 r.ju];dsimp only at w;cases e1:azZ with
  | none=>rw[ak9 e1]
  | some ys =>
   rw[e1] at w;rw[abY p vs hq rs (vA aV r1 e1)];exact ae7 p vs hq (n0 aV rs w).2
abbrev D5:D1:=apb (match xs with
 | [x]=>match anW with
  | atm=>.ok (f9 ys) M
  | none=>match x with
   | f9 ys=>.ok (f9 ys) M
   | _=>c6
 | _=>c6)
def FV:gC X ap7 (aqe D5):=Ca.imp λ vs H Q h=>by
 obtain⟨E,ι,S,M,xs,aV,r,w⟩:=h;rw[agI D5]
 match xs,r,w with
 | [],r,w=>rw[abZ]
 | x::y::z,r,w=>rw[abZ]
 | [x],r,w =>
  rw[adw v r1 r.ju];dsimp only at w;cases e1:anW with
  | some ys =>
   rw[e1] at w;rw[abY p vs eH rs (fU aV r1 e1)];rw[apN (agY p vs (b4 ⟨.of eH,ab7 l hl⟩)) s2 e2 (aV.tree (o:=f9 vs) hl) (w _ _ _ _ e2 s2 (bj.gy.mpr (ae7 l _ bG (rs.mono e2))))]
  | none =>
   rw[az9];cases x with
   | tup ys =>
    rw[abY p vs e q (bj.gy.mp r1)];exact agY p vs (ald (.of aDj) (akX _ r1))
   | _=>rw[abZ]
abbrev vD:D1:=apb (match xs with
 | [η i]=>.ok (η i) M
 | [.bl b]=>.ok (η (if b then 1 else 0)) M
 | _=>c6)
def Aj:gC X (acr "int") (aqe vD):=Lo.imp λ vs H Q h=>by
 obtain⟨E,ι,S,M,xs,aV,r,w⟩:=h;rw[agI vD];split at w
 ·rw[adw v r1 r.ju];cases asW;exact b4 (anl ap9)
 ·rw[adw v r1 r.ju];cases bj.fu.mp r1;exact b9 (anl ap9)
 ·rw[abZ]
abbrev SQ:D1:=apb (match xs with
 | [η i,η j]=>.ok (η (aEU (j > i) i)) M
 | _=>c6)
abbrev Ie:D1:=apb (match xs with
 | [η i,η j]=>.ok (η (aEU (j<i) i)) M
 | _=>c6)
def LJ aOz:arF "max" (aqe SQ):=(Lm hc).imp λ vs H Q h=>by
 obtain⟨E,ι,S,M,xs,aV,r,w⟩:=h;rw[agI SQ];split at w
 ·rw[abY v u r1 r2 r.zo];cases asW;cases aFk;exact agY _ _ ap9
 ·rw[abZ]
def C4 aOz:arF "min" (aqe Ie):=(Ln hc).imp λ vs H Q h=>by
 obtain⟨E,ι,S,M,xs,aV,r,w⟩:=h;rw[agI Ie];split at w
 ·rw[abY v u r1 r2 r.zo];cases asW;cases aFk;exact agY _ _ ap9
 ·rw[abZ]
noncomputable abbrev DM:=PV->d5->bb->afm
abbrev rM aNc(f:DM):V->ajm:=λ v vs H Q=>∃E ι S M x xs,adO/\aed/\aee/\aph (f x xs M)
def DU.imp aRN{r r':V->ajm}(h:DU X id r)(i:∀x xs H Q,r' x xs H Q->r x xs H Q):DU X id r':=λ pins s σ H x xs v us Q I rx rs q=>h pins s σ H x xs v us Q I rx rs (i _ _ _ _ q)
abbrev gD(f:DM)(lL:DE)aO6:DE:=ag0 (lL ρ M).bind (match aDw with
 | ak3=>ajj (fF ds ρ M1).bind xs (f x xs M2)
 | none=>c6)
def mI{f:DM}{name:Str}aRN aTC aT6(ha:ao8 (e::es))
  aRe
  aS0
  aQj aTO :
  adk (aet aGG (e::es) [] cW) (gD f lL ds):=⟨by
 rw[amR (ZG PySem.F.plainAttrs_list slot WO hm ho.out ha.out nY Ou nZ hs Aa) (λ ι1 S1 M1 H1 x v e1 s1 r1 w1=>?_)];cases e2:aDw with
 | none=>rw[azb]
 | some ys =>
  rw[e2] at w1
  rw[abY p vs eH rs (fU s1 r1 e2)];refine⟨b4 ⟨rfl,vs,.of eH⟩,ι1,S1,M1,ρ,s1,afH,adG (al4 X.K) w1 (λ ι2 S2 M2 H2 xs us e3 s2 r2 w2=>?_)⟩
  exact⟨_,ι2,S2,M2,x,xs,s2,aoi e3,r2.1,w2⟩⟩
def Xg{f:DM}{name:Str}aRN aTC aT6
  aRe aQj:adk (aet aGG [] [] cW) (gD f lL []):=⟨by
 rw[amR (WN PySem.F.plainAttrs_list slot WO hm ho.out nY nZ) (λ ι1 S1 M1 H1 x v e1 s1 r1 w1=>?_)];cases e2:aDw with
 | none=>rw[azb]
 | some ys =>
  rw[e2] at w1
  rw[abY p vs eH rs (fU s1 r1 e2)]
  rw[aab (b4 ⟨rfl,vs,.of eH⟩) ⟨_,ι1,S1,M1,x,[],s1,r1,abT,w1⟩]⟩
abbrev Cc aNO aNi(k:aqb d5 afm):afm:=match x with
 | ο n=>match M[n]? with
  | afN=>k n xs
  | _=>c6
 | _=>c6
def vE aNE aOM{ι:c9}aRa aOn aN0{k:aqb d5 afm}aPe(w:aph (Cc x M k)) :
  ∃n p xs vs,v=Δ p/\acn ι n p/\aAo/\H p=awk/\aC8/\aee/\aph (k n xs):=by
 cases x with
 | obj n =>
  rw[adw p ei (bj.eZ.mp r)];obtain⟨o,eM,q⟩:=aV.addr ei;simp only[Cc,eM] at w;cases o with
  | lst xs =>
   rw[afr hS vs eH rs q ⟨n,p,xs,vs,rfl,ei,eM,eH,hS,rs,w⟩]
  | _=>rw[abZ]
 | _=>rw[abZ]
def tE aOI aM9 aOi{ys:d5}{us:g8}aQz aUI(r:anB ys us):cw K ι S (al5 n ys) (ar2 us)/\Ext ι S H ι S (ar2 us) :=
 aV.put hi hS ⟨hS,us,bG,r⟩
abbrev fm:DM:=λ x as M=>match as with
 | [y]=>Cc x M λ n xs=>aoF (xs.length<lim) .ok .bh (ajR n (xs++[y]))
 | _=>c6
def jH:DU X "list.append" (arI fm):=DU.imp (r:=JP) CW λ v vs H Q h=>by
 obtain⟨E,ι,S,M,x,xs,aV,r,rs,w⟩:=h;rw[agI fm];split at w
 ·rw[adw u r1 rs.ju];obtain⟨n,p,ys,us,rfl,hi,eM,eH,hS,rr,w⟩:=aDJ;split at w
  ·rw[ap0];rw[apN ⟨p,us,u,rfl,rfl,eH,by rw[abQ rr.length (Af hl)],?_⟩ sp ep (tE aV hi hS (rr.append (.one r1))) (w ι S _ _ ep sp (bj.ky.mpr rfl))]
  ·rw[abZ]
 ·rw[abZ]
abbrev zp:DM:=λ x as M=>match as with
 | [y]=>Cc x M λ n xs=>match alI y with
  | atm=>aoF (aKr≤lim) .ok .bh (ajR n (xs++ys))
  | none=>c6
 | _=>c6
def Ig:DU X "list.extend" (arI zp):=DU.imp (r:=JQ) Lz λ v vs H Q h=>by
 obtain⟨E,ι,S,M,x,xs,aV,r,rs,w⟩:=h;rw[agI zp];split at w
 ·rw[adw u r1 rs.ju];obtain⟨n,p,ys,us,rfl,hi,eM,eH,hS,rr,w⟩:=aDJ;split at w
  ·rename_i zs hz;rw[abY b ws eb rb (fU aV r1 hz)];split at w
   ·rw[ap0];rw[apN ⟨p,b,us,ws,rfl,rfl,eH,eb,by rw[aq5 rr.length rb.length (sf hl)],?_⟩ sp ep (tE aV hi hS (rr.append rb)) (w ι S _ _ ep sp (bj.ky.mpr rfl))]
   ·rw[abZ]
  ·rw[abZ]
 ·rw[abZ]
abbrev OW:DM:=λ x as M=>match as with
 | []=>Cc x M λ n xs=>match xs[(arj 1)]? with
  | anD=>.ok y (al5 n xs.dropLast)
  | none=>c6
 | _=>c6
def SR:DU X "list.pop" (arI OW):=DU.imp (r:=ZI) WR λ v vs H Q h=>by
 obtain⟨E,ι,S,M,x,xs,aV,r,rs,w⟩:=h;rw[agI OW];split at w
 ·rw[bg] at rs
  subst rs;obtain⟨n,p,ys,us,rfl,hi,eM,eH,hS,rr,w⟩:=aDJ;split at w
  ·rename_i y hy;obtain⟨z,h1,h2⟩:=rr.get hy;rw[rr.length] at h1;rw[apN ⟨p,us,z,rfl,rfl,eH,h1,?_⟩ sp ep (tE aV hi hS rr.dropLast) (w ι S _ _ ep sp h2)]
  ·rw[abZ]
 ·rw[abZ]
universe zE
universe L2
universe zE
section
namespace L2
open PySem PySem.Spec PyProof.Rows
inductive Out where
 | nx aQt
 | rt aNO aNi
 | bk aQt
 | ct aQt
 | exc aP2 aQt
 | bad
noncomputable abbrev DS:=fk->bb->Out
abbrev iY aNc aPW aRv(D:Ends):aiO
 | .nx ρ M=>∀ ι' S' H' σ',ajL->cw K ι' S' M H'->Slots K ι' S' ρ σ'->D.nx σ' H'
 | .bk ρ M=>∀ ι' S' H' σ',ajL->cw K ι' S' M H'->Slots K ι' S' ρ σ'->D.bk σ' H'
 | .ct ρ M=>∀ ι' S' H' σ',ajL->cw K ι' S' M H'->Slots K ι' S' ρ σ'->D.ct σ' H'
 | YX c ρ M=>∀ ι' S' H' σ',ajL->cw K ι' S' M H'->Slots K ι' S' ρ σ'->Ex σ' (Δ c) none H'
 | .rt x M=>∀ ι' S' H' v,ajL->cw K ι' S' M H'->bj K ι' S' x v->D.rt v H'
 | c6=>False
def iY.up aNE aQs{ι ι':c9}{S H S' H':Hp}{D:Ends}{o:Out}(h:iY K Ex ι S H D o)(e:ajL):iY K Ex ι' S' H' D o:=by
 cases o with
 | nx ρ M=>exact aIy
 | bk ρ M=>exact aIy
 | ct ρ M=>exact aIy
 | exc c ρ M=>exact aIy
 | rt x M=>exact λ ι1 S1 H1 v e1 s1 l1=>h ι1 S1 H1 v (e.trans e1) s1 l1
 | bad=>exact h
abbrev tS aNc aPW(d:DS):TS:=an4 (∃ ι S M ρ,adO/\ao7/\iY K Ex ι S H D abO)
structure VS aOm(st:Stmt)(d:DS):Prop where
 out:awB (tS X.K Ex d)
structure Hz aOm(st:amc)(d:DS):Prop where
 out:HC X st (tS X.K Ex d)
def PS.imp aNF aO3{t t':TS}(h:awB t)aTJ:awB t':=λ pins s σ H D I hw=>h pins s σ H D I (i D σ H hw)
def HC.imp aNF{st:amc}{t t':TS}(h:HC X st t)aTJ:HC X st t':=λ pins s σ H D I hw=>h pins s σ H D I (i D σ H hw)
abbrev Res.out aNq(r:alG)(ρ:fk)(f:α->bb->Out):Out:=match r with
 | .ok x M=>f x M
 | YX c M=>YX c ρ M
 | c6=>c6
@[simp] def Res.eu aNq{x:α}aNb aSv:(aBF x).out ρ f=f x M:=rfl
@[simp] def Res.SS aNq aN7 aNb aSv:(Res.exc c M:alG).out ρ f=YX c ρ M:=rfl
@[simp] def Res.ab6 aNq aSv:(Res.bad:alG).out ρ f=c6:=rfl
def iY.res aOa aNE{Rp:c9->Hp->α->aCt}aQs aRw{D:Ends}aQQ{r:alG}{f:α->bb->Out}{Q:aIm}(sl:ao7)(h:iY K Ex ι S H D (r.out ρ f))
  (g:∀ ι1 S1 M1 H1 x v,Ext ι S H ι1 S1 H1->cw K ι1 S1 M1 H1->Rp ι1 S1 x v->iY K Ex ι1 S1 H1 D (f x M1)->apj v):cz K Rp (Ex σ) ι S H Q r:=by
 cases r with
 | ok x M=>exact λ ι1 S1 H1 v e1 s1 r1=>g ι1 S1 M H1 x v e1 s1 r1 (iY.up h e1)
 | exc c M=>exact λ ι1 S1 H1 e1 s1=>h ι1 S1 H1 σ e1 s1 afH
 | bad=>exact h
section
variable {X:Cx} {Ex:St->XK} {a b c e o:Expr} {es:ab5} {da db dc d lL:DE} {ds:aeG} {pos pos' apos cW:Pos} {st:Stmt} {rest:amc} {s1 s2:DS} {tc:DT}
abbrev fe:DS:=λ ρ M=>.nx ρ M
abbrev aF(s1 s2:DS):DS:=λ ρ M=>match azX with
 | .nx ρ' M'=>s2 ρ' M'
 | o=>o
def aN:Hz X Ex [] fe:=⟨HC.imp RY λ D σ H h=>by
 obtain⟨ι,S,M,ρ,aV,sl,w⟩:=h
 exact akX σ sl⟩
def Xh aNE{D:Ends}aOv(h:tS K Ex (aF s1 s2) D σ H):Zb (tS K Ex s1) (tS K Ex s2) D σ H:=by
 obtain⟨ι,S,M,ρ,aV,sl,w⟩:=h;refine⟨ι,S,M,ρ,aV,sl,?_⟩;rw[agI aF];cases q:azX with
 | nx ρ' M' =>
  rw[g9 q w (λ ι1 S1 H1 σ1 e1 s1 l1=>⟨ι1,S1,M',ρ',s1,l1,iY.up w e1⟩)]
 | _=>rw[g9 q w w]
def ai(h1:VS X Ex st s1)(h2:Hz X Ex rest s2):Hz X Ex (st::rest) (aF s1 s2):=⟨HC.imp (N4 h1.out h2.out) λ _ _ _ h=>Xh h⟩
def ak(h1:VS X Ex st s1):Hz X Ex [st] s1:=⟨RZ h1.out⟩
abbrev bQ aNH:DS:=λ ρ M=>akn (abO).out _ (.nx ρ M1)
def bu aQA aT8:aqM (.Expr e pos) (bQ d):=⟨PS.imp (R0 he.out hs) λ D σ H h=>by
 obtain⟨ι,S,M,ρ,aV,sl,w⟩:=h
 refine⟨ι,S,M,ρ,aV,sl,iY.res (Rp:=gW X.K) sl w λ ι1 S1 M1 H1 x v e1 s1 r1 w1=>?_⟩
 exact w1 ι1 S1 H1 σ afs s1 afH⟩
abbrev bJ aNH:DS:=λ ρ M=>akn (abO).out x (.rt x M1)
def aP aQA:aqM (.Return aHI pos) (bJ d):=⟨PS.imp (V5 he.out) λ D σ H h=>by
 obtain⟨ι,S,M,ρ,aV,sl,w⟩:=h
 refine⟨ι,S,M,ρ,aV,sl,iY.res (Rp:=gW X.K) sl w λ ι1 S1 M1 H1 x v e1 s1 r1 w1=>?_⟩
 exact w1 ι1 S1 H1 v afs s1 r1⟩
abbrev ZY:DS:=abg M (.rt .bh M)
abbrev bx(tc:DT)(s1 s2:DS):DS:=λ ρ M=>akn (tc ρ M).out k (ahi k (s1 ρ M1) (s2 ρ M1))
def bo{xs ys:amc}(hc:VT X Ex c tc)(h1:Hz X Ex xs s1)(h2:Hz X Ex ys s2):aqM (.If c xs ys pos) (bx tc s1 s2):=⟨PS.imp (Zd hc.out h1.out h2.out) λ D σ H h=>by
 obtain⟨ι,S,M,ρ,aV,sl,w⟩:=h;refine⟨ι,S,M,ρ,aV,sl,iY.res (Rp:=NN) sl w λ ι1 S1 M1 H1 x v e1 s1 r1 w1=>?_⟩;cases r1;cases x with
 | true=>exact aHP
 | false=>exact aHO⟩
noncomputable abbrev DG:=PV->aiK fk fk
abbrev tgD aNc(g:DG):TG:=λ v σ H Q=>∃ ι S M ρ x ρ',adO/\ao7/\aed/\t6 (g x ρ) ρ'/\∀ ι' S' H' σ',ajL->cw K ι' S' M H'->Slots K ι' S' ρ' σ'->aHq
structure VG aNo(tg:Expr)(g:DG):Prop where
 out:PG X tg (tgD X.K g)
def PG.imp{tg:Expr}{t t':TG}(h:PG X tg t)aTz:PG X tg t':=λ pins s σ H v u Q I r hw=>h pins s σ H v u Q I r (i v σ H Q hw)
abbrev gN aNr:DG:=λ x ρ=>c8 (ρ.set i ad5)
def aR aNr aNg aPf aTe
  aQf:VG X (aad x pos) (gN i):=⟨PG.imp (R4 hN hi hx hf) λ v σ H Q h=>by
 obtain⟨ι,S,M,ρ,x,ρ',aV,sl,r,e,k⟩:=h;cases e
 exact k ι S H _ afs aV (sl.set r i)⟩
noncomputable abbrev Vc:=d5->aiK fk fk
abbrev adK aNc(g:Vc):R1:=λ vs σ H Q=>∃ ι S M ρ xs ρ',adO/\ao7/\aee/\t6 (g xs ρ) ρ'/\∀ ι' S' H' σ',ajL->cw K ι' S' M H'->Slots K ι' S' ρ' σ'->aHq
structure VGs aNo(ts:ab5)(g:Vc):Prop where
 out:RF X ts (adK X.K g)
def RF.imp{ts:ab5}{t t':R1}(h:RF X ts t)aTz:RF X ts t':=λ pins s σ H v u Q I r hw=>h pins s σ H v u Q I r (i v σ H Q hw)
abbrev m8:Vc:=λ xs ρ=>match xs with
 | []=>some ρ
 | _=>none
abbrev dH(g:DG)(gs:Vc):Vc:=λ xs ρ=>match xs with
 | x::r=>(g x ρ).bind (gs r)
 | []=>none
def kz:VGs X [] m8:=⟨RF.imp R5 λ vs σ H Q h=>by
 obtain⟨ι,S,M,ρ,xs,ρ',aV,sl,r,e,k⟩:=h;cases xs with
 | nil =>
  rw[bg] at r;cases e;rw[aab r (k ι S H _ afs aV sl)]
 | cons x xs=>cases e⟩
def cP{g:DG}{gs:Vc}(h1:VG X e g)(h2:VGs X es gs)aTi:VGs X (e::es) (dH g gs):=⟨RF.imp (N5 h1.out h2.out hs) λ vs σ H Q h=>by
  obtain⟨ι,S,M,ρ,xs,ρ',aV,sl,r,e,k⟩:=h;cases xs with
  | nil=>cases e
  | cons x xs =>
   rw[abY v vr r1 r2 r.kn];have e:t6 ((g x ρ).bind (gs xs)) ρ':=e;cases e1:g x ρ with
   | none=>rw[e1] at e; cases e
   | some ρ1 =>
    rw[ayx e1 e ⟨v,vr,rfl,ι,S,M,ρ,x,ρ1,aV,sl,r1,e1,λ ι1 S1 H1 σ1 ex1 s1 l1=>?_⟩]
    exact⟨ι1,S1,M,ρ1,xs,ρ',s1,l1,r2.mono ex1,e,λ ι2 S2 H2 σ2 Xi s2 l2=>k ι2 S2 H2 σ2 (ex1.trans Xi) s2 l2⟩⟩
abbrev gT aNd(gs:Vc):DG:=λ x ρ=>match x with
 | f9 xs=>akI xs.length n (gs xs ρ) none
 | _=>none
def mR aNf{gs:Vc}aM9 aOz(h:VGs X es gs)aTl:VG X (arG es k pos) (gT n gs):=⟨PG.imp (V6 hc h.out hn B3) λ v σ H Q h=>by
  obtain⟨ι,S,M,ρ,x,ρ',aV,sl,r,e,k⟩:=h;cases x with
  | tup xs =>
   rw[aFA gT];split at e
   ·rw[ap0];rw[abY p vs eS rs (bj.gy.mp r)];exact⟨p,vs,rfl,.of (aV.sub _ _ eS),by rw[aER hl],ι,S,M,ρ,xs,ρ',aV,sl,rs,e,k⟩
   ·cases e
  | _=>cases e⟩
abbrev bR aNr aNH:DS:=λ ρ M=>akn (abO).out x (.nx (ρ.set i ad5) M1)
def aZ aNr aNg aPf aQA aTe aTy
  aQf:aqM (anv [aad x pos'] e pos) (bR i d):=⟨PS.imp (V9 hN hi hx he.out hs hf) λ D σ H h=>by
 obtain⟨ι,S,M,ρ,aV,sl,w⟩:=h
 refine⟨ι,S,M,ρ,aV,sl,iY.res (Rp:=gW X.K) sl w λ ι1 S1 M1 H1 x v e1 s1 r1 w1=>?_⟩
 exact ajI ((afH).set r1 i)⟩
abbrev Cd aNH(g:DG):DS:=λ ρ M=>akn (abO).out x (match g x ρ with
 | some ρ'=>.nx ρ' M1
 | none=>c6)
def wO{tg:Expr}{g:DG}aQA(hg:VG X tg g)aS7
  aTv:aqM (anv [tg] e pos) (Cd d g):=⟨PS.imp (N6 he.out hg.out hs hw h1) λ D σ H h=>by
 obtain⟨ι,S,M,ρ,aV,sl,w⟩:=h;refine⟨ι,S,M,ρ,aV,sl,iY.res (Rp:=gW X.K) sl w λ ι1 S1 M1 H1 x v e1 s1 r1 w1=>?_⟩;cases e2:g x ρ with
 | none=>rw[azb]
 | some ρ' =>
  rw[e2] at w1
  exact⟨ι1,S1,M1,ρ,x,ρ',s1,afH,r1,e2,w1⟩⟩
universe zE
universe L2
universe zE
end
mutual
section
namespace L2
open PySem PySem.Spec PyProof.Rows
noncomputable abbrev D6:=apY (Nat×MO)
abbrev vF(w:D6)aNi:Prop:=match w with
 | none=>True
 | ahU n o=>asj
@[simp] def ZZ aNb:vF none M:=trivial
@[simp] def Z0 aM9 aOh aNb:vF (ahU n o) M↔asj:=Iff.rfl
abbrev Walks aNc(J:It)aOk(w:D6)aRC:Prop :=
 ∀aNr ι' S' M' H',ash->atQ->az6 →
  (∀x,amw->J.go i H'/\∀v H2,J.yld i H' v H2->∃ ι2 S2,Ext ι' S' H' ι2 S2 H2/\cw K ι2 S2 M' H2/\bj K ι2 S2 x v)/\(asH i->J.stop i H')
noncomputable abbrev DI:=fk->bb->Res (d5×D6)
noncomputable abbrev RpI aNc:c9->Hp->(d5×D6)->adj It:=λ ι S r J=>Walks K J r.1 r.2 ι S
structure VI aOm(tg iter:Expr)(d:DI):Prop where
 out:PI X tg iter (tG X.K (RpI X.K) Ex d)
def PI.imp aNF{tg iter:Expr}{t t':TI}(h:PI X tg iter t)(i:∀ σ H R,t' σ H R->t σ H R):PI X tg iter t':=λ pins s σ H R I hw=>h pins s σ H R I (i σ H R hw)
section
variable {X:Cx} {Ex:St->XK} {a b c e o:Expr} {es:ab5} {da db dc d lL:DE} {ds:aeG} {pos pos' apos cW:Pos} {st:Stmt} {rest:amc} {s1 s2:DS} {tc:DT} {tg iter:Expr} {di:DI} {g:DG}
abbrev iL aNH:DI:=ag0 (abO).bind (match x with
 | ς xs=>.ok (xs,none) M1
 | ο n=>match M1[n]? with
  | afN=>.ok (xs,aIj) M1
  | _=>c6
 | _=>c6)
def Ak aNw aOi aNh{w:D6}(h:∀ ι' S' M' H',ash->atQ->az6->∃vs,pO K H' p vs/\awQ):Walks K (Itl K p) xs w ι S:=by
 intro i ι' S' M' H' up aV hc;rw[apx vs hq rs (h ι' S' M' H' up aV hc) (ab7 x hx) (λ hl=>⟨vs,hq,by rw[aER hl]⟩)];rw[apx v hv r (rs.get hx) ⟨vs,v,hq,hv⟩ (NV u H2 y)];rw[asX y y];rw[aiL (y vs hq) hv];cases this;exact⟨ι',S',afs,aV,r⟩
def cv(h:aLh):VI X Ex tg iter (iL d):=⟨by
 refine PI.imp (R6 h.out) (acE σ H R hh);obtain⟨ι,S,M,ρ,aV,sl,w⟩:=hh;refine⟨ι,S,M,ρ,aV,sl,adG (gW X.K) w (λ ι1 S1 M1 H1 x v e1 s1 r1 w1=>?_)⟩;cases x with
 | lst xs =>
  rw[abY p vs eS rs (bj.ml.mp r1)];refine ajC p ⟨vs,.of (s1.sub _ _ eS)⟩ (ajI (Ak λ ι2 S2 M2 H2 up s2 _=>?_));rw[Lb vs (.of (s2.sub _ _ (up.sm _ _ eS))) (rs.up up)]
 | obj n =>
  rw[adw p ei (bj.eZ.mp r1)];obtain⟨o,eM,q⟩:=s1.addr ei;simp only[eM] at w1;cases o with
  | lst xs =>
   obtain⟨_,vs,eH,rs⟩:=q;refine ajC p ⟨vs,.of eH⟩ (ajI (Ak λ ι2 S2 M2 H2 up s2 hc=>?_));obtain⟨_,Z1,FW,Vd⟩:=s2.ob n p _ (up.ix _ _ ei) hc;rw[Lb Z1 (.of FW) Vd]
  | _=>rw[agW]
 | _=>rw[agW]⟩
abbrev iT aNH:DI:=ag0 (abO).bind (match x with
 | f9 xs=>.ok (xs,none) M1
 | _=>c6)
def OX(h:aLh):VI X Ex tg iter (iT d):=⟨by
 refine PI.imp (Wa h.out) (acE σ H R hh);obtain⟨ι,S,M,ρ,aV,sl,w⟩:=hh;refine⟨ι,S,M,ρ,aV,sl,adG (gW X.K) w (λ ι1 S1 M1 H1 x v e1 s1 r1 w1=>?_)⟩;cases x with
 | tup xs =>
  rw[abY p vs eS rs (bj.gy.mp r1)];refine ajC p ⟨vs,.of (s1.sub _ _ eS)⟩ (ajI (λ i ι2 S2 M2 H2 up s2 _=>?_));rw[ajg hq (B6 X.K H2 p vs) (.of (s2.sub _ _ (up.sm _ _ eS))) Vd (rs.up up)];rw[ac4 (ab7 x hx) (λ hl=>⟨vs,hq,by rw[abQ Vd.length hl]⟩)];rw[apx v hv r (Vd.get hx) ⟨vs,v,hq,hv⟩ (NV u H3 y)];rw[asX y y];rw[aiL (y vs hq) hv];cases this;exact⟨ι2,S2,afs,s2,r⟩
 | _=>rw[agW]⟩
abbrev Fx aRH:d5:=(alq).map (aCQ k (η (lo+auj)))
def C5 aNw aRH:Walks K (Zf lo n) (Fx lo n) none ι S:=by
 intro i ι' S' M' H' up aV _;rw[ac4 (ab7 x hx) (λ hl=>by(have hl:n≤i:=asz Fx hl); exact hl)];rw[anh Fx hx zJ hx];by_cases hi:i<n
 ·rw[List.getElem?_range hi] at hx;cases hx;rw[ac4 hi (NV v H2 y)];rw[afF rfl rfl y ⟨ι',S',afs,aV,am3⟩]
 ·rw[aob awi] at hx;cases hx
abbrev Al aO6:DI:=awn (alc).bind (match xs with
 | [η j]=>aoF (auW j/\j<amY) .ok (Fx 0 j.toNat,none) M1
 | _=>c6)
def lS{p:Pos}(hm:aFu)(ha:ao8 [a])(hg:aFD X := by rfl)aRh:VI X Ex tg (aet (aad "range" p) [a] [] pos) (Al ds):=⟨by
 refine PI.imp (Lj hg hm ha.out hs) (acE σ H R hh)
 obtain⟨ι,S,M,ρ,aV,sl,w⟩:=hh
 refine⟨ι,S,M,ρ,aV,sl,adG (al4 X.K) w (λ ι1 S1 M1 H1 xs vs e1 s1 r1 w1=>?_)⟩;split at w1
 ·rename_i j;rw[adw v r2 r1.1.ju];cases aFk;split at w1
  ·rename_i hb;exact⟨j,rfl,hb.1,hb.2,ajI (C5 0 _)⟩
  ·rw[agW]
 ·rw[agW]⟩
abbrev YQ aO6:DI:=awn (alc).bind (match xs with
 | [η i,η j]=>aoF (auW i/\i<amY /\ auW j/\j<amY) .ok (Fx i (ah4 (j-i)),none) M1
 | _=>c6)
def LK{p:Pos}(hm:aFu)(ha:ao8 [a,b])(hg:aFD X := by rfl)aTd :
  VI X Ex tg (aet (aad "range" p) [a,b] [] pos) (YQ ds):=⟨by
 refine PI.imp (Lk hg hm ha.out hs RG) (acE σ H R hh)
 obtain⟨ι,S,M,ρ,aV,sl,w⟩:=hh
 refine⟨ι,S,M,ρ,aV,sl,adG (al4 X.K) w (λ ι1 S1 M1 H1 xs vs e1 s1 r1 w1=>?_)⟩;split at w1
 ·rename_i i j;rw[abY v u r2 r3 r1.1.zo];cases aFk;cases bj.bC.mp r3;split at w1
  ·rename_i hb;exact ae7 i j hb (ajI (C5 i _))
  ·rw[agW]
 ·rw[agW]⟩
open Classical in
noncomputable def wQ(w:D6)(g:DG)(s1:DS):d5->fk->bb->Out
 | [],ρ,M=>.nx ρ M
 | x::xs,ρ,M=>match g x ρ with
  | none=>c6
  | some ρ1=>match s1 ρ1 M with
   | .nx ρ' M'=>apw (vF w M') (wQ w g s1 xs ρ' M')
   | .ct ρ' M'=>apw (vF w M') (wQ w g s1 xs ρ' M')
   | .bk ρ' M'=>.nx ρ' M'
   | .rt x M'=>.rt x M'
   | YX c ρ' M'=>YX c ρ' M'
   | c6=>c6
abbrev jt(di:DI)(g:DG)(s1:DS):DS:=λ ρ M=>(auC).out ρ λ r M1=>open Classical in apw (vF r.2 M1) (wQ r.2 g s1 r.1 ρ M1)
def dY{body:amc}aTm(hi:VI X Ex tg iter di)(hg:VG X tg g)(hb:Hz X Ex body s1)aQg :
  aqM (.For tg iter body [] pos) (jt di g s1):=⟨by
 refine PS.imp (Wb hp hc hi.out hg.out hb.out hs) (acE D σ H h)
 obtain⟨ι,S,M,ρ,aV,sl,w⟩:=h
 refine⟨ι,S,M,ρ,aV,sl,iY.res (Rp:=RpI X.K) sl w λ ι1 S1 M1 H1 r J e1 OY wk w1=>?_⟩;rw[aEc xs wt r wk w1];split at w1
 ·rename_i hc1
  refine⟨λ i m σ' H'=>m=arj i/\aBc i/\∃ ι' S' M' ρ',Ext ι1 S1 H1 ι' S' H'/\cw X.K ι' S' M' H'/\Slots X.K ι' S' ρ' σ'/\vF wt M'/\iY X.K Ex ι1 S1 H1 D (wQ wt g s1 (xs.drop i) ρ' M'),
   ⟨xs.length,Ξ,aog,ι1,S1,M1,ρ,afs,OY,afH,hc1,aaF w1⟩,?_⟩
  rintro i m σ' H' ⟨rfl,hi',ι',S',M',ρ',ex,pJ,NK,hck,ww⟩;obtain⟨wgo,wst⟩:=wk i ι' S' M' H' ex.toUp pJ hck
  by_cases se:aqw
  ·right;obtain⟨go,yl⟩:=wgo xs[i] aLz;rw[aLy,wQ] at ww;rw[an1 go (ahP σ2 (∃ ι' S' M' ρ',Ext ι1 S1 H1 ι' S' H2/\cw X.K ι' S' M' H2/\Slots X.K ι' S' ρ' σ2/\vF wt M'/\iY X.K Ex ι1 S1 H1 D (wQ wt g s1 (ax4 (i+1)) ρ' M'))) (λ σ2 H2 q=>ae7 (arj (i+1)) b6 se q) (NV v H2 y)];obtain⟨ι2,S2,Xi,Xj,r2⟩:=yl v H2 y;cases eg:g xs[i] ρ' with
   | none=>rw[g9 eg ww ww.elim]
   | some ρ1 =>
    rw[ayx eg ww ⟨ι2,S2,M',ρ',xs[i],ρ1,Xj,NK.mono Xi,r2,eg,λ ι3 S3 H3 σ3 ex3 Xk NM=>?_⟩];refine⟨ι3,S3,M',ρ1,Xk,NM,?_⟩;have OZ:=ex.trans (Xi.trans ex3);dsimp only at ww;cases eb:s1 ρ1 M' with
    | nx ρ4 M4 =>
     rw[alm eb ww ww];split at ww
     ·rename_i Z2;exact λ ι4 S4 H4 σ4 JZ yG SU=>⟨ι4,S4,M4,ρ4,aA8,yG,SU,Z2,ww⟩
     ·rw[aFX]
    | ct ρ4 M4 =>
     rw[alm eb ww ww];split at ww
     ·rename_i Z2;exact λ ι4 S4 H4 σ4 JZ yG SU=>⟨ι4,S4,M4,ρ4,aA8,yG,SU,Z2,ww⟩
     ·rw[aFX]
    | bk ρ4 M4 =>
     rw[g9 eb ww (λ ι4 S4 H4 σ4 JZ yG SU=>ww ι4 S4 H4 σ4 aA8 yG SU)]
    | rt x M4 =>
     rw[g9 eb ww (λ ι4 S4 H4 σ4 JZ yG SU=>ww ι4 S4 H4 σ4 aA8 yG SU)]
    | exc c ρ4 M4 =>
     rw[g9 eb ww (λ ι4 S4 H4 σ4 JZ yG SU=>ww ι4 S4 H4 σ4 aA8 yG SU)]
    | bad=>rw[g9 eb ww ww.elim]
  ·left
   rw[aip e (i=xs.length) b6 e]
   rw[List.drop_length,wQ] at ww;rw[aab (wst ack) (ww ι' S' H' σ' ex pJ NK)]
 ·rw[agW]⟩
abbrev Res.xZ aOa:alG->(α->bb->aqd)->aqd
 | .ok a M,f=>f a M
 | YX _ _,_=>c6
 | c6,_=>c6
@[simp] def Res.FX aOa{a:α}aNb aQn:(aBF a).xZ f=f a M:=rfl
noncomputable abbrev O0:St->XK:=λ _ _ _ _=>False
abbrev D7 aPG(ρ:fk):fk:=nq.map λ o=>match o with
 | awc=>(ρ[i]?).join
 | none=>none
def Slots.nq aNw aQQ(sl:ao7)aPG:Slots K ι S aIN azz:=by
 rw[ac4 (aeU D7 uc) (NV i x h)];rw[ajd D7];unfold uc;rw[zJ] at h ⊢;cases ec:nq[i]? with
 | none=>rw[ec] at h; cases h
 | some o =>
  rw[ec] at h;cases o with
  | none=>cases h
  | some j =>
   rw[au8 h' ((ρ[j]?).join=ad5) h];cases q:ρ[j]? with
   | none=>rw[q] at h'; cases h'
   | some z =>
    rw[q] at h';rw[aip YR (z=ad5) h' YR];rw[agl v h1 h2 (sl.2 j x q) v (d7 h1) h2]
open Classical in
noncomputable def rB(w:D6)(g:DG)(tc:DT)aNH:d5->fk->bb->d5->Res d5
 | [],_,M,acc=>.ok acc M
 | x::xs,ρ,M,acc=>match g x ρ with
  | none=>c6
  | some ρ1=>aj4 (tc ρ1 M).xZ k (if b8 k then ajj (d ρ1 M1).xZ y (apw (vF w M2/\acc.length<lim) (rB w g tc d xs ρ1 M2 (acc++[y])))
   else apw (vF w M1) (rB w g tc d xs ρ1 M1 acc))
open Classical in
noncomputable def dN aNG aPG(di:DI)(g:DG)(tc:DT)aNH:DE:=λ ρ M=>aj4 (auC).bind r (if vF r.2 M1 then ajj (rB r.2 g tc d r.1 aIN M1 []).xZ ys (rT live ys M2) else c6)
structure SV aNo(ifs:ab5)(t:DT):Prop where
 out:Ad X ifs (tG X.K NN O0 t)
abbrev yH:DT:=abg M (.ok true M)
def Ad.imp{ifs:ab5}{t t':TT}(h:Ad X ifs t)aQi:Ad X ifs t':=λ pins s σ H Q I hw=>h pins s σ H Q I (i σ H Q hw)
def gP:SV X [] yH:=⟨Ad.imp OD λ σ H Q h=>by
 obtain⟨ι,S,M,ρ,aV,sl,w⟩:=h
 exact akX true rfl⟩
def jI(h:VT X O0 c tc):SV X [c] tc:=⟨OE h.out⟩
def LM aQE aNb aOM aN0 aPz aNP aNE aOi(h0:akt)(ex:ajL)(aV:cw K ι' S' M H')(hp:H' p=awk)(hi:p∉ι')(hS:YW (S' p))(r:awQ)
  (w:aph (rT live xs M)):ajl (Δ p):=by
 have ne:∀b u,H b=abF->b≠p:=agi u q (bW q h0);rw[agI rT];split at w
 ·split at w
  ·refine w (ι'++[p]) S' H' _ ⟨⟨λ n a h=>(Up.push (S:=S') p).ix n a (ex.ix n a h),ex.sm⟩,?_,adW b u q1 q2 q3⟩ (aV.enter hi ⟨hS,vs,hp,r⟩) (avc p (by rw[← aV.len];simp))
   ·rw[aev h1 ex.pre hl (ι.length≤ι'.length) (by rw[← h1];rw[aer])]
    rw[aLr hl h1]
   ·rw[agl k1 k2 k3 (ex.fr b u q1 q2 q3) k1 (aeU k2 (ne b u q1)) k3]
  ·rw[ajs sm (lN S' (af3 S' p (ς vs))) (agi u q (by rw[ab9 (bW q hS) q])) up (Up ι' S' ι' (af3 S' p (ς vs))) ⟨λ _ _ h=>h,sm⟩ (w ι' (af3 S' p (ς vs)) H' _ ⟨⟨ex.ix,ex.sm.trans sm⟩,ex.pre,adW b u q1 q2 q3⟩ ⟨aiw u,aV.len,aV.nd,adW n a u h1 h2⟩ (bj.ml.mpr (ae7 p vs bG (r.up up))))]
   ·rw[agl k1 k2 k3 (ex.fr b u q1 q2 q3) k1 k2 (by rw[ab9 (ne b u q1) k3])]
   ·rw[akY (b=p)]
    ·rw[azS]; cases q; exact hp
    ·rw[g9 ao3 q (aV.sub b u q)]
   ·have dQ:a≠p:=λ z=>hi (aqQ z h1);exact(aV.ob n a u h1 h2).up up (acz (by rw[anF z])) rfl
 ·rw[abZ]
variable {scope:Scope} {N:acC} {nq:aeI} {elt:Expr} {ifs:ab5}
def J0 aNE aPz aOv aN0(h:tG K (gW K) Ex (dN live nq di g tc d) σ H Q) :
  OF nq (tG K (RpI K) Ex di) (tgD K g) (tG K NN O0 tc) (tG K (gW K) O0 d) σ H Q:=by
 obtain⟨ι,S,M,ρ,aV,sl,w⟩:=h
 refine⟨ι,S,M,ρ,aV,sl,adG (RpI K) w (λ ι1 S1 M1 H1 r J e1 OY wk w1=>?_)⟩;rw[aEc xs wt r wk w1];split at w1
 ·rename_i hc1;intro acc O1;rw[aaa hSa (OY.uF O1) hia (OY.fresh O1)];obtain⟨Z3,adQ⟩:=OY.side (o:=ς []) O1
  refine⟨λ i m ys σ' H'=>m=arj i/\aBc i/\∃ ι' S' M' ρ' RH,Ext ι1 S1 H1 ι' S' H'/\atQ/\Slots K ι' S' ρ' σ'/\H' acc=akF ys/\acc∉ι'/\YW (S' acc)/\bg K ι' S' RH ys/\vF wt M' ∧
    cz K (gW K) (Ex σ) ι1 S1 H1 Q (ajj (rB wt g tc d (xs.drop i) ρ' M' RH).xZ ys (rT live ys M2)),
   ⟨xs.length,Ξ,aog,ι1,S1,M1,aIN,[],adQ,Z3,(afH).nq nq,bG,hia,hSa,abT,hc1,aaF w1⟩,?_⟩
  rintro i m ys σ' H' ⟨rfl,hi',ι',S',M',ρ',RH,ex,pJ,NK,hl1,Ow,hl3,rs,hck,ww⟩;obtain⟨wgo,wst⟩:=wk i ι' S' M' H' ex.toUp pJ hck
  by_cases se:aqw
  ·right;obtain⟨go,yl⟩:=wgo xs[i] aLz;rw[aLy,rB] at ww;rw[ac4 go (NV v H2 y)];obtain⟨ι2,S2,Xi,Xj,r2⟩:=yl v H2 y;cases eg:g xs[i] ρ' with
   | none=>rw[g9 eg ww ww.elim]
   | some ρ1 =>
    rw[ayx eg ww ⟨ι2,S2,M',ρ',xs[i],ρ1,Xj,NK.mono Xi,r2,eg,λ ι3 S3 H3 σ3 ex3 Xk NM=>?_⟩];have adT:=Xi.trans ex3;refine⟨ι3,S3,M',ρ1,Xk,NM,?_⟩;dsimp only at ww;cases et:tc ρ1 M' with
    | exc c M4=>rw[g9 et ww ww.elim]
    | bad=>rw[g9 et ww ww.elim]
    | ok k M4 =>
     rw[et] at ww;intro ι4 S4 H4 k' JZ yG rk;cases rk;rw[aaa SW (adT.trans JZ) adU (ex.trans SW)];rw[alv f1 f2 f3 (SW.fr acc _ hl1 Ow hl3) ww (cz K (gW K) (Ex σ) ι1 S1 H1 Q (ajj (if b8 k then(d ρ1 M4).xZ λ y M2=>open Classical in apw (vF wt M2/\RH.length<lim) (rB wt g tc d (ax4 (i+1)) ρ1 M2 (RH++[y])) else open Classical in apw (vF wt M4) (rB wt g tc d (ax4 (i+1)) ρ1 M4 RH)).xZ ys (rT live ys M2))) ww];cases k with
     | false =>
      rw[ax7 alj ww (FK ⟨arj (i+1),b6,rfl,se,ι4,S4,M4,ρ1,RH,adU,yG,NM.mono JZ,f1,f2,f3,rs.mono SW,?_⟩)];split at ww
      ·rename_i Z2; rw[aab Z2 ww]
      ·rw[aFX]
     | true =>
      rw[ax7 aeO ww (FL ⟨ι4,S4,M4,ρ1,yG,NM.mono JZ,?_⟩)];cases ed:d ρ1 M4 with
      | exc c M5=>rw[g9 ed ww ww.elim]
      | bad=>rw[g9 ed ww ww.elim]
      | ok yv M5 =>
       rw[ed] at ww;intro ι5 S5 H5 u ex5 SX r5;rw[aaa Xl (SW.trans ex5) Xm (ex.trans Xl)];rw[alv f1 f2 f3 (Xl.fr acc _ hl1 Ow hl3) ww (cz K (gW K) (Ex σ) ι1 S1 H1 Q (ajj (open Classical in apw (vF wt M5/\RH.length<lim) (rB wt g tc d (ax4 (i+1)) ρ1 M5 (RH++[yv]))).xZ ys (rT live ys M2))) ww];split at ww
       ·rename_i hc5
        refine⟨f1,by rw[aER (Af hc5.2)],arj (i+1),b6,rfl,se,ι5,S5,M5,ρ1,RH++[yv],?_,?_,NM.mono (JZ.trans ex5),bG,f2,f3,(rs.mono Xl).append (.one r5),hc5.1,ww⟩
        ·rw[ab8 Xm.toUp Xm.pre (adW b u q1 q2 q3)];rw[agl k1 k2 k3 (Xm.fr b u q1 q2 q3) (by rw[ab9 (bW q1 O1) k1]) k2 k3]
        ·refine⟨agi v q (by rw[ab9 (bW q f3) (SX.sub b v q)]),SX.len,SX.nd,adW n a v h1 h2⟩;have dQ:a≠acc:=λ z=>f2 (aqQ z h1);exact(SX.ob n a v h1 h2).up ⟨λ _ _ h=>h,lN.refl _⟩ (acz z) (aQ dQ)
       ·rw[aFX]
  ·left
   rw[aip e (i=xs.length) b6 e]
   rw[List.drop_length,rB] at ww;rw[aab (wst ack) (LM O1 ex pJ hl1 Ow hl3 rs ww)]
 ·rw[agW]
def fL aNG aRl aUA
  aTh
  aQg:adk (.ListComp elt [⟨tg,iter,ifs,0⟩] scope pos) (dN live nq di g tc d):=⟨PE.imp (SG (g:=tgD X.K g) (tt:=tG X.K NN O0 tc) (te:=tG X.K (gW X.K) O0 d) co ud zm.out (λ C fp s0 H0=>(hg C fp s0 H0).out) (λ C fp s0 H0=>(hi C fp s0 H0).out) (λ C fp s0 H0=>(he C fp s0 H0).out) hs) λ _ _ _ h=>J0 h⟩
def lT aNG aNr{y:Str}{py OG:Pos}aRl aPf aUA
  aTh
  aS4
  (hy:ahf X.N y:=by rfl)(hx:aIR y:=by first | exact avw | exact aBf)
  aS8
  aQg:aqM (anv [aad y py] (.ListComp elt [⟨tg,iter,ifs,0⟩] scope pos) OG) (bR i (dN live nq di g tc d)):=⟨PS.imp (HX (g:=tgD X.K g) (tt:=tG X.K NN O0 tc) (te:=tG X.K (gW X.K) O0 d) co ud zm.out (λ C fp s0 H0=>(hg C fp s0 H0).out) (λ C fp s0 H0=>(hi C fp s0 H0).out) (λ C fp s0 H0=>(he C fp s0 H0).out) hN hy hx hsw hf hs) λ D σ H h=>by
  obtain⟨ι,S,M,ρ,aV,sl,w⟩:=h;rw[ant (J0 ⟨ι,S,M,ρ,aV,sl,iY.res (Rp:=gW X.K) sl w λ ι1 S1 M1 H1 x v e1 s1 r1 w1=>?_⟩) (ajI ((afH).set r1 i))]⟩
universe zE
universe L2
universe zE
section
namespace L2
open PySem PySem.Spec PyProof.Rows
abbrev NO aNc aNd aNe:Sp:=λ vs H Q E=>vs.length=n/\∃ ι S M xs,adO/\aee/\aph (g xs M)
abbrev Out.res:Out->afm
 | .nx _ M=>.ok .bh M
 | .rt x M=>.ok x M
 | YX c _ M=>YX c M
 | _=>c6
@[simp] def Out.Xn aNT:(Out.nx ρ M).res=.ok .bh M:=rfl
@[simp] def Out.Xo aNv aNb:(Out.rt x M).res=.ok x M:=rfl
@[simp] def Out.SY aN7 aNT:(Out.exc c ρ M).res=YX c M:=rfl
abbrev fQ aNd(d:DS):D1:=apb (d (aFj++apn (n-xs.length) none) M).res
section
variable {P:Program} {w:World} {K:Fg} {mg:ac0} {base:Heap}
def FY aPh aNP{N:acC}(r:aee):Slots K ι S (aFj++apn (N.length-xs.length) none) (start N vs):=by
 unfold start;have hl:=r.length;rw[ac4 (d7 hl) (NV i x h)]
 by_cases hi:aqw
 ·rw[axa awi,zJ] at h;rw[axa (by simpa[← hl] using hi),zJ];cases e:xs[i]? with
  | none=>rw[amW]; cases h
  | some y =>
   rw[amW];cases h;rw[agl v h1 h2 (r.get e) v (by rw[ab2 h1]) h2]
 ·rw[aDW awi] at h;rw[List.getElem?_replicate] at h;split at h<;>cases h
def D8 aSQ aRc aPC aNf{d:DS}aUz(S:asf)
  (hb:∀(lg:Value)aPr,aHB qual →
   auU (lp (rS P w) P w K mg base N qual (av st) f lg A outer s H E)) :
  pH P w K mg base (rS P w) (k+1) f fd ps (NO K ps.length (fQ N.length d)):=by
 obtain⟨oc,od,kV,doc,pm,an,lg,ct,U3,rfl,lk,Lg⟩:=F.ex;refine Zw lk Lg S (λ vs H Q E h=>h.1) λ A outer s H vs Q E hr U4=>apc (hb lg A outer s H E hr).out ?_;obtain⟨hl,ι,S',M,xs,aV,r,w'⟩:=U4;refine⟨ι,S',M,_,aV,FY r,?_⟩;unfold fQ at w';cases q:d (aFj++apn (N.length-xs.length) none) M with
 | nx ρ M'=>rw[g9 q w' (λ ι1 S1 H1 σ1 e1 s1 _=>w' ι1 S1 H1 .bh e1 s1 (bj.ky.mpr rfl))]
 | rt y M'=>rw[g9 q w' (λ ι1 S1 H1 v e1 s1 r1=>w' ι1 S1 H1 v e1 s1 r1)]
 | exc c ρ M'=>rw[g9 q w' (λ ι1 S1 H1 σ1 e1 s1 _=>w' ι1 S1 H1 e1 s1)]
 | bk ρ M'=>rw[g9 q w' w'.elim]
 | ct ρ M'=>rw[g9 q w' w'.elim]
 | bad=>rw[g9 q w' w'.elim]
abbrev MO.lO aNd:alA MO
 | .gone=>true
 | ς xs=>avM n
 | .bP kvs=>kvs.all λ kv=>PV.lO n kv.2
 | .LG kvs=>kvs.all λ kv=>PV.lO n kv.2
 | .km kvs=>kvs.all λ kv=>PV.lO n kv.2
 | aa7 _ fs=>fs.all λ kv=>PV.lO n kv.2
 | YX _=>true
def dI.lO aOd aPh aPj:aey (kvs.all λ kv=>PV.lO ι.length kv.2):=by
 induction h with
 | nil=>rfl
 | cons r t ih=>rw[List.all_cons,ih,bj.lO _ _ r.2]; rfl
def dI.cut aOd aPh aM9 aPj(hb:aey (kvs.all λ kv=>PV.lO n kv.2)):dI K aF7 S kvs bY:=by
 induction h with
 | nil=>rw[akp]
 | cons r t ih =>
  rw[aEu List.all_cons hb];exact aaT (awC r (bj.cut _ _ hb.1 r.2)) (ih hb.2)
def qG.lO aRw aNx aOh(h:awV):b8 (o.lO ι.length):=by
 cases o with
 | gone=>rfl
 | lst xs=>obtain⟨_,vs,_,r⟩:=h;exact bg.rN _ _ r
 | bP kvs=>obtain⟨_,vs,_,r⟩:=h;exact r.lO
 | LG kvs=>obtain⟨_,vs,_,r⟩:=h;exact r.lO
 | km kvs=>obtain⟨_,_,_,_,r⟩:=h;exact r.lO
 | ins C fs=>obtain⟨_,dx,vs,_,r⟩:=h; exact r.lO
 | exc C=>rfl
def qG.cut aRw aNx aOh aM9(h:awV)(hb:b8 (o.lO n)):qG K aF7 S H a o:=by
 cases o with
 | gone=>exact h
 | lst xs=>rw[afr z vs e r h ⟨z,vs,e,bg.cut _ _ hb r⟩]
 | bP kvs=>rw[afr z vs e r h ⟨z,vs,e,aGv⟩]
 | LG kvs=>rw[afr z vs e r h ⟨z,vs,e,aGv⟩]
 | km kvs=>rw[aen ob vs z e r h (ajP ob z e aGv)]
 | ins C fs=>rw[aen z dx vs e r h ⟨z,dx,vs,e,aGv⟩]
 | exc C=>exact h
open Classical in
noncomputable def Ce aNi:afm->afm
 | .ok x M'=>if aAS=M/\aFb x then .ok x M else c6
 | YX c M'=>if aAS=M then YX c M else c6
 | c6=>c6
abbrev trunc aNe:D1:=apb (Ce M (g xs M))
def J2{M M':bb}aNv(h:aAS=M)(hb:aFb x):Ce M (.ok x M')=.ok x M:=by rw[aj3 Ce (if_pos ⟨h,hb⟩)]
def O2{M M':bb}aN7(h:aAS=M):Ce M (YX c M')=YX c M:=by rw[aj3 Ce avL]
@[simp] def YS aNb aNv(hb:aFb x):Ce M (.ok x M)=.ok x M:=J2 List.take_length hb
@[simp] def Z4 aNb aN7:Ce M (YX c M)=YX c M:=O2 List.take_length
@[simp] def Z5 aNb:Ce M c6=c6:=rfl
def J3 aQE{M M':bb}aQz(pJ:atQ)(ex:ajL)(h:aAS=M):cw K ι S' M H'/\Ext ι S H ι S' H':=by
 rw[ac4 ⟨pJ.sub,aV.len,aV.nd,adW n a o h1 h2⟩ ⟨⟨λ _ _ h=>h,ex.sm⟩,List.take_length,adW b u q1 q2 q3⟩]
 ·rw[d9 hn (aoC n) aIU.1 ZM (acn M' n o) (by rw[← h,List.getElem?_take_of_lt hn] at h2; exact h2)]
  rw[aaa m1 (pJ.ob n a o (ex.ix n a h1) ZM) m2 (aV.ob n a o h1 h2).lO];have:=m1.cut m2
  rw[g9 ex.pre this this]
 ·rw[agl k1 k2 k3 (ex.fr b u q1 q2 q3) k1 q2 k3]
def LN aM9 aOZ aOr aNu aN0 aOM(h:NO K n (trunc g) vs H Q E):NO K n g vs H Q E:=by
 obtain⟨hl,ι,S,M,xs,aV,r,w'⟩:=h;refine⟨hl,ι,S,M,xs,aV,r,?_⟩;unfold trunc at w';cases q:g xs M with
 | bad=>rw[g9 q w' w']
 | ok x M' =>
  rw[q] at w'
  simp only[Ce] at w';split at w'
  ·rw[arv];intro ι1 S1 H1 v e1 s1 r1;obtain⟨s2,e2⟩:=J3 aV s1 e1 hc.1;refine w' ι S1 H1 v e2 s2 ?_;have:=bj.cut (n:=M.length) x v hc.2 r1;rw[← aV.len,e1.pre] at this;rw[aqc]
  ·exact w'.elim
 | exc c M' =>
  rw[q] at w'
  simp only[Ce] at w';split at w'
  ·rw[arv];intro ι1 S1 H1 e1 s1;rw[adP s2 e2 (J3 aV s1 e1 hc) (w' ι S1 H1 e2 s2)]
  ·exact w'.elim
universe zE
structure gE aOO aP4 aNW aNM aNd aNe:Prop where
 ex:∃f fd ps,pH P w K mg base (rS P w) k f fd ps (NO K n g)/\mg x=aib f/\b8 (PySem.W.keepIn K (Δ f))/\aut
section
variable {P:Program} {w:World} {K:Fg} {mg:ac0} {base:Heap}
def gE.mono aQ2 aNg aM9 aOZ aT2 aQ3:gE P w K mg base k x n g:=by
 rw[aen f fd ps F r F.ex ⟨f,fd,ps,ayf,r⟩]
def gE.trunc aNf aNg aM9 aOZ(F:gE P w K mg base k x n g):gE P w K mg base k x n (trunc g):=by
 rw[aen f fd ps F r F.ex ⟨f,fd,ps,F.imp λ _ _ _ _ h=>LN h,r⟩]
structure bK aQX aNM aRp:Prop where
 ex:∃f fd,OB K x x st f fd/\mg x=aib f/\aut
def gE.of aNg aO3 aPC aNf{d:DS}aSw
  (hb:∀aQk aPr,aHB x →
   auU (lp (rS P w) P w K mg base N x (av st) f lg A outer s H E)):gE P w K mg base (k+1) x ps.length (fQ N.length d):=by
 rw[aen f fd F hm hB D.ex ⟨f,fd,ps,D8 F S (hb f),hm,F.kp,hB⟩]
universe zE
structure Good0 aOm:Prop where
 hu:ajF
 calm:agX
 ps:vx (rS X.prog X.w) X Ex
 nd:X.N.Nodup
structure Good aOm:Prop extends aun where
 own:PassesOwn (model X.prog X.w) X.A X.env X.xe
def Good.gg aNF aQs(G:Good X Ex):aun:=G.toGood0
def zq aPq aPC aRx aRn aOy aPy aNJ aNu aOM aNf aSD
  aR7:aCi (lp (rS P w) P w K mg base N qual scope f cd A outer s H E) :=
 ⟨ajC hr.units (λ pins σ H s e s' I h=>SH pins σ H s e s' I h) S.nd,PassesOwn.leaving⟩
def aM aNF aQs(G:aun)aQL{N:acC}aN3 aO8 aNJ aNu(nd:N.Nodup):Good (gX X scope N C fp s H) O0 :=
 ⟨⟨G.hu,G.calm,λ pins σ H s e s' I h=>by obtain⟨_,_,_,_,_,z⟩:=h;exact z.elim,nd⟩,PassesOwn.never⟩
section
variable {X:Cx} {Ex:St->XK} {a b c e o:Expr} {es:ab5} {da db dc d lL:DE} {ds:aeG} {pos pos' apos cW:Pos} {k n:Nat} {x m:Str} {g:D1}
def aC{p:Pos}(F:gE X.prog X.w X.K X.mg X.base k x n g)(hr:aCe)(G:aun)aRd(hn:ds.length=n:=by rfl)aRm
  aPT:adk (aet (aad x p) (e::es) [] pos) (aw g ds):=⟨by
 obtain⟨f,fd,ps,F,hm,hk,hb⟩:=F.ex;refine PE.imp (OH F hr hg hm hk hb abT G.ps ha.out HQ he p7) λ σ H Q h=>?_
 obtain⟨ι,S,M,ρ,aV,sl,w⟩:=h
 refine⟨ι,S,M,ρ,aV,sl,adG (al4 X.K) w (λ ι1 S1 M1 H1 xs vs e1 s1 r1 w1=>?_)⟩;rw[aeN zI ⟨by rw[← ahb r1.1,r1.2,hn],ι1,S1,M1,xs,s1,r1.1,w1⟩]⟩
universe zE
noncomputable abbrev RpU:c9->Hp->Unit->adj Unit:=λ _ _ _ _=>True
abbrev dJ:ay3->fk->bb->Res Unit
 | [],_,M=>.ok () M
 | none::r,ρ,M=>dJ r ρ M
 | aHK::r,ρ,M=>ao4 (abO).bind (match x with
  | η i=>ahi (small i) (dJ r ρ M1) c6
  | _=>c6)
structure VJ aOm(es:ab5)(ps:ay3):Prop where
 out:∀aNQ(Q:ai4 Unit)(acc:Str)aNd,z0->tG X.K RpU Ex (dJ ps) σ H Q →
 aFS (ps.length*2000)≤n->n≤1000000->Joins (model X.prog X.w) X.A X.xe (aAY es) acc (λ out s₁=>out.length≤n/\∃H',axS s₁/\ajl ()) s
section
variable {X:Cx} {Ex:St->XK} {a b c e:Expr} {es:ab5} {d:DE} {ds:aeG} {ps:ay3} {pos pos' cW:Pos}
def fV:VJ X Ex [] []:=⟨λ pins s σ H Q acc n I h hl hn=>by
 obtain⟨ι,S,M,ρ,aV,sl,w⟩:=h
 exact⟨aCp,H,I,akX () trivial⟩⟩
def cA aNg{j}(h:VJ X Ex es ps)(hx:x.length≤2000:=by decide)(he:aAY (ano (b5 x) j pos::es)=ag9 (ano (b5 x) j pos)::aAY es:=by rfl):VJ X Ex (ano (b5 x) j pos::es) (none::ps):=⟨λ pins s σ H Q acc n I hw hl hn=>by
 rw[he];rw[zE] at hl;rw[ab4 e1 (aso acc x=aFS x.length) (strLen_append _ _) (Calls.Constant_str (amD x ?_ ?_))]
 ·rw[e1,sizeLine_eq];omega
 ·exact h.out pins _ σ H Q (acc++x) n afl hw (by rw[ahX e1]) hn⟩
def LO aNy(h:axI i):i.natAbs.log2<1920:=by
 rw[aoe h h]
 have hn:i.natAbs<2 ^ 64:=b6
 by_cases h0:i.natAbs=0
 ·rw[h0];decide
 ·exact aqO ((Nat.log2_lt h0).mpr hn) d6
def fg{v:Expr}(hv:atj v)(h:VJ X Ex es ps)(he:aAY (aJR v (-1) none pos::es)=ag9 (aJR v (-1) none pos)::aAY es:=by rfl):VJ X Ex (aJR v (-1) none pos::es) (aHK::ps):=⟨λ pins s σ H Q acc n I hw hl hn=>by
 rw[he];rw[zE] at hl;refine FormattedValue_plain ?_
 obtain⟨ι,S,M,ρ,aV,sl,w⟩:=hw;refine amq (hv.out pins s σ H (acF x (∃i,x=η i/\axI i/\tG X.K RpU Ex (dJ ps) σ H1 Q)) I ⟨ι,S,M,ρ,aV,sl,adG (gW X.K) w (λ ι1 S1 M1 H1 x v e1 s1 r1 w1=>?_)⟩) u ⟨x,H1,I1,rx,i,ex,hs,q⟩
 ·cases x with
  | int i =>
   dsimp only at w1;split at w1
   ·rename_i hs;exact⟨i,asW,hs,ι1,S1,M1,ρ,s1,afH,w1⟩
   ·rw[agW]
  | _=>rw[agW]
 ·subst ex;rw[aht rx];have Z6:=LO hs
  rw[ajs hlen (ag4 aDa 1921) (by rw[Ω PySem.ofString_length (int_text_length_le d6 Z6)]) e1 (aso acc aDa=aFS (acL aDa)) (strLen_append _ _) (formatField_int_small Z6 (amD aDa ?_ ?_))]
  ·rw[e1,sizeLine_eq];omega
  ·exact h.out pins _ σ H1 Q (acc++aDa) n (I1.tok _) q (by rw[ahX e1]) hn⟩
def SZ aUj(h:VJ X Ex (v₁::aGD) ps)(hp:aoI:=by decide):adz (.JoinedStr (v₁::aGD) pos) (ahL (tG X.K RpU Ex (dJ ps) σ H (abg H' (∀z,ajl (b5 z))))):=by
 intro pins s σ H Q I hw
 refine wpAny_JoinedStr ?_;have:=h.out pins s σ H _ Str.empty 1000000 I hw (by have:Str.empty.length=0:=rfl;omega) ack
 rw[ab4 mono (∀(parts:asx aAR)(acc:Str)aND(Q1 Q2:Str->am0),(∀o s,Q1 o s->Q2 o s)->Joins (model X.prog X.w) X.A X.xe parts acc Q1 s->Joins (model X.prog X.w) X.A X.xe parts acc Q2 s) (by
  intro parts
  induction parts with
  | nil=>intro acc s Q1 Q2 hq h; exact hq _ _ h
  | cons p r ih =>
   intro acc s Q1 Q2 hq h;exact afu h v s1 ⟨y,t,e1,e2,e3⟩ ⟨y,t,e1,e2,ih _ _ _ _ hq e3⟩) (mono _ _ _ _ _ (NV o s1 ⟨h1,H',I1,q⟩) this)]
 refine⟨by rw[ahX sizeLine_eq],b5 o,H',I1.tok _,adE,q o⟩
universe zE
abbrev cm aNK(ps:ay3):DS:=λ ρ M=>akn (dJ ps ρ M).out _ (YX C ρ M1)
abbrev Ih aNK aO6:DS:=λ ρ M=>akn (alc).out _ (YX C ρ M1)
section
variable {P:Program} {w:World} {K:Fg} {mg:ac0} {base:Heap} {N:acC} {qual:Str} {scope:Scope} {f:Addr} {cd:Value} {A:Around} {outer:afJ} {s:Shared} {H:Hp} {E:XK} {x:Str} {C:Addr} {np cW pos adV:Pos} {k:Nat}
def cF aUj{ps:ay3}(M:auH x C)aR7(h:VJ (lp (rS P w) P w K mg base N qual scope f cd A outer s H E) (λ _=>E) (v₁::aGD) ps)
  aTa(hp:aoI:=by decide)aON :
  VS (lp (rS P w) P w K mg base N qual scope f cd A outer s H E) (λ _=>E) (.Raise (c8 (aet (aad x np) [.JoinedStr (v₁::aGD) adV] [] cW)) none pos) (cm C ps):=⟨by
 refine PS.imp (FO M hr.hd hg (o7 (SZ h hp) uB) hd) (acE D σ H h)
 obtain⟨ι,S,M,ρ,aV,sl,w'⟩:=h
 refine⟨ι,S,M,ρ,aV,sl,iY.res (Rp:=RpU) sl w' λ ι1 S1 M1 H1 x v e1 s1 r1 w1=>?_⟩;intro z
 rw[aab (by show afi 1;rw[sizeLine_eq];decide) (w1 ι1 S1 H1 σ afs s1 afH)]⟩
def O3{e₀:Expr}{rest:ab5}aOG(M:auH x C)aR7(h:VN (lp (rS P w) P w K mg base N qual scope f cd A outer s H E) (λ _=>E) (e₀::rest) ds)
  aTa(hn:ds.length≤1000:=by decide)aON
  aS2
  aUc :
  VS (lp (rS P w) P w K mg base N qual scope f cd A outer s H E) (λ _=>E) (.Raise (c8 (aet (aad x np) (e₀::rest) [] cW)) none pos) (Ih C ds):=⟨by
 refine PS.imp (FO M hr.hd hg h.out hd he p7) (acE D σ H h)
 obtain⟨ι,S,M,ρ,aV,sl,w'⟩:=h
 refine⟨ι,S,M,ρ,aV,sl,iY.res (Rp:=al4 K) sl w' λ ι1 S1 M1 H1 x v e1 s1 r1 w1=>?_⟩
 rw[aab (by rw[← ahb r1.1,r1.2];exact Nat.le_of_lt (CZ hn)) (w1 ι1 S1 H1 σ afs s1 afH)]⟩
universe zE
universe L2
universe zE
end
mutual
section
namespace L2
open PySem PySem.Spec PyProof.Rows
def Inv.J9 aPK aQ1 aOF aO8 aOr aQW
  aTS(kf:∀b∈fp,∃o,ahd=aaW)(new:iu X.prog X.w (upd H s.heap.objs.size (f9 vs)) h' s.heap.objs.size (f9 vs)) :
  aeC (upd H s.heap.objs.size (f9 vs)) (ahE s h' t'):=by
 rw[d9 hp aL4 (akM ack) UY (∀b u,H b=abF->b∉fp) (λ b u e z=>by rw[(hf b z).1] at e; cases e)]
 rw[ab4 np (∀b o,ags->aC6) (amT (aiB ajp)) (I.step (g':=s.gens) (d':=s.drawn) (ch:=fp) aiu (λ b o _ _ hc e _=>k b o hc e) (λ b o _ _ hc e _=>⟨o.slots,k b o hc e⟩) (λ b o hc e n=>by rw[ab9 (np b o e) n])
  (λ b o hc e=>⟨o,k b o hc e⟩) (λ b xs e=>by rw[ab9 (bW e hp) e]) (λ b o u e=>by rw[ab9 (bW e hp) e]) (λ b ps e=>⟨#[],by rw[aQ (bW e hp),e];simp⟩) (ab7 m hm) (NV b u e) I.bare)]
 ·obtain⟨f0,f1,f2,f3,f4,f5⟩:=hf b hb;exact⟨f3,f1,f4,f5⟩
 ·rw[aen o es ep ho r hm ⟨o,es,ep,k _ o (acz ((hf _ z).2.1 rfl)) ho,r⟩]
 ·rw[akY (b=s.heap.objs.size)]
  ·rw[akS hb bG e];cases e;exact new
  ·rw[ayx ao3 e ((awd u e).vf (λ c v hc q=>k c v ?_ q) (λ c q=>by rw[ab9 (bW q hp) q]) λ c xs q=>by rw[ab9 (bW q hp) q])]
   rcases hc with z | z
   ·rw[Ω z (UY b u e)]
   ·exact UY c _ z
def Inv.Ka aPK aQ1 aOF aO8 aQW
  aTS:aeC H (ahE s h' t'):=by
 rw[ab4 UY (∀b u,H b=abF->b∉fp) (λ b u e z=>by rw[(hf b z).1] at e; cases e) (I.step (g':=s.gens) (d':=s.drawn) (ch:=fp) aiu (λ b o _ _ hc e _=>k b o hc e) (λ b o _ _ hc e _=>⟨o.slots,k b o hc e⟩) (λ b o hc e n=>n)
  (λ b o hc e=>⟨o,k b o hc e⟩) (λ b xs e=>e) (λ b o u e=>e) (λ b ps e=>⟨#[],by rw[awJ]⟩) (ab7 m hm) (NV b u e) I.bare)]
 ·obtain⟨f0,f1,f2,f3,f4,f5⟩:=hf b hb;exact⟨f3,f1,f4,f5⟩
 ·rw[aen o es ep ho r hm ⟨o,es,ep,k _ o (acz ((hf _ z).2.1 rfl)) ho,r⟩]
 ·refine(awd u e).vf (λ c v hc q=>k c v ?_ q) (λ c q=>q) λ c xs q=>q;rcases hc with z | z
  ·rw[Ω z (UY b u e)]
  ·exact UY c _ z
abbrev Ite aNc aN2:It :=
 ⟨aei H (∃xs x,aqF/\amw),λ i H v H'=>∃p,akt/\v=Δ p/\∀xs,aqF->∃x,amw/\H'=ayD p [η i,x],aei H (∃xs,aqF/\asH i)⟩
def LP aOP{elts:ab5}{x1}{B7:Pos}(a e it:Addr)(dQ:e≠it) :
  Turn P w K (arG elts x1 B7) (Ite K a) [e,it] e (aqE (∃old,IsEnum h e it (aez i) old/\h.IsListIter it a i)) where
 mem:=Ξ
 obj:=λ i h ⟨old,he,zm⟩ b hb=>by
  rcases aEk with rfl | hb
  ·rw[Lb _ he (λ v z=>by cases z)]
  ·rw[aip eb (b=it) ahm eb];rw[afr o e c d zm ⟨o,e,λ v z=>by rw[d] at z; cases z⟩]
 keep:=λ i h h' ⟨old,he,zm⟩ k=>⟨old,k e Ξ _ he,zm.at λ o q=>at3 o q⟩
 item:=by
  intro X hP hw hK hc i pins s σ H E I hf st hg;subst hP hw hK
  obtain⟨old,he,zm⟩:=st;obtain⟨xs,x,hq,hx⟩:=hg
  rw[afj rv p hz (I.list hq)];rw[ana u hu ru (rv.get hx) (wpAny_pyNext_enum_item he zm p.isList (x:=u) aHT dQ λ h1 he1 Z7 Xp NP k1=>anl (wpAny_letOwnedTupleGo_enum he1 (NV h2 YT sb2)))];rw[d9 O4 (ava e) (Heap.lt_size he) Ii (aJU e h1) sb2];rw[d9 ht2 (aLJ=aom ap7 (ahx #[aCm i,u])) (x9 (Ii.2 _ aMH) Xp) I1 (aeC (upd H s.heap.objs.size (f9 [η i,x])) (ahE s h2 (s.toks+1))) (by
   refine I.J9 (fp:=[e,it]) hf (alQ hb q) aiu ?_
   ·rw[alC n1 (b≠e) z (hb (d7 z)) n2 (b≠it) (acz (hb (d7 z)))];exact x9 (Ii.2 b n1) (k1 b o n1 n2 q)
   ·rcases aEk with rfl | hb
    ·rw[aeM YT]
    ·rw[aip eb (b=it) ahm eb]
     obtain⟨o,q,_⟩:=Z7;rw[aab o (x9 (Ii.2 b axK) q)]
   ·exact⟨by show afi 2;rw[sizeLine_eq];decide,[aCm i,u],aaT adE (aaT ru abT),ae7 _ ht2 _ rfl⟩)]
  have hp:=akM (Nat.le_refl s.heap.objs.size);refine⟨aii,_,I1,rfl,agY s.heap.objs.size hp (alf ys (ah7 x (by rw[Ω (I.zR hy hq) hx]))),⟨u,?_,?_⟩,aiu⟩
  ·have:afh (i+1)=aDd+1:=by push_cast; rfl
   rw[Ω this YT]
  ·exact Z7.at λ o q=>x9 (Ii.2 it axK) q
  ·have:aC6:=by
    rcases aEk with rfl | hb
    ·exact aMG
    ·rw[aip eb (b=it) ahm eb]
     obtain⟨o,q,_⟩:=zm;exact aAL q
   rw[aeN (aQ this) (hf b hb).1]
 done:=by
  intro X hP hw hK hc i pins s σ H E I hf st hg;subst hP hw hK;obtain⟨old,he,zm⟩:=st;obtain⟨xs,hq,hx⟩:=hg;rw[afj rv p hz (I.list hq)];rw[DB hl rv.length (wpAny_pyNext_enum_end (I.ok.hd hc) he zm p.isList (by rw[aer]) λ h' eb=>ah9 ?_)];exact I.Ka (t':=s.toks) (fp:=[e,it]) hf λ b o hb q=>eb b o (acz (hb (d7 z))) q
 self:=λ _ _ _ _ _ ⟨old,he,zm⟩ h=>wpAny_pyIter_enum he h
section
variable {X:Cx} {Ex:St->XK} {a:Expr} {d:DE} {pos p B7:Pos} {elts:ab5} {x1:Nat}
abbrev ug aOk:d5:=agj (xs.zipIdx).map q (f9 [η q.2,q.1])
def LQ aNh aNt{y:PV}(h:ahf (ug xs) y):∃x,amw/\y=f9 [η i,x]:=by
 rw[ajd ug];rw[zJ,List.getElem?_zipIdx] at h;cases e:xs[i]? with
 | none=>rw[amW]; cases h
 | some x=>rw[amW]; cases h; exact afT x Ξ
abbrev iE aNH:DI:=ag0 (abO).bind (match x with
 | ς xs=>.ok (ug xs,none) M1
 | ο n=>match M1[n]? with
  | afN=>.ok (ug xs,aIj) M1
  | _=>c6
 | _=>c6)
def Am aNw{q:Addr}aNh aTc:Walks K (Ite K q) (ug xs) w ι S:=by
 intro i ι' S' M' H' up aV hc;rw[apx vs hq rs (h ι' S' M' H' up aV hc) (ab7 y hy) (λ hl=>⟨vs,hq,by rw[← rs.length]; simpa[ug] using hl⟩)];obtain⟨x,hx,rfl⟩:=LQ hy;rw[apx v hv r (rs.get hx) ⟨vs,v,hq,hv⟩ (NV u H2 y)];rw[axR p hp y y];obtain⟨z,hz,rfl⟩:=y vs hq;rw[hv] at hz;cases hz;rw[afF s2 e2 (aV.tree (o:=f9 [η i,v]) hp) ⟨ι',_,e2,s2,bj.gy.mpr (ae7 p _ bG (aaT am3 (.one (r.mono e2))))⟩]
def Kb(h:atj a)(hm:axw "enumerate")(hg:Gl X "enumerate" := by rfl)aRh:VI X Ex (arG elts x1 B7) (aet (aad "enumerate" p) [a] [] pos) (iE d):=⟨by
 intro pins s σ H R I hw
 obtain⟨ι,S,M,ρ,aV,sl,w⟩:=hw;rw[ab4 A1 (PA X [a] (CN (ayM d) Od)) (o7 h.out uB (by rw[ab2 hs])) (au6 (uz I hg hm (u:=acr "enumerate") (by first | rfl | decide) ?_ d6 d6))]
 refine aAu (amq (A1 pos pins s σ H (acF vs (∃q,vs=[Δ q]/\(∃xs,pO X.K H1 q xs)/\R (Ite X.K q) H1)) I ?_) us ⟨vs,H1,I1,r1,q,ev,⟨xs,hq⟩,k⟩) (by rw[ab2 hs]) rfl
 ·refine⟨ι,S,M,ρ,aV,sl,adG (gW X.K) w (λ ι1 S1 M1 H1 x v e1 s1 r1 w1=>?_)⟩;cases x with
  | lst xs =>
   rw[abY q vs eS rs (bj.ml.mp r1)];refine ajC q ⟨vs,.of (s1.sub _ _ eS)⟩ (ajI (Am λ ι2 S2 M2 H2 up s2 _=>?_));rw[Lb vs (.of (s2.sub _ _ (up.sm _ _ eS))) (rs.up up)]
  | obj n =>
   rw[adw q ei (bj.eZ.mp r1)];obtain⟨o,eM,mo⟩:=s1.addr ei;simp only[eM] at w1;cases o with
   | lst xs =>
    obtain⟨_,vs,eH,rs⟩:=mo;refine ajC q ⟨vs,.of eH⟩ (ajI (Am λ ι2 S2 M2 H2 up s2 hc=>?_));obtain⟨_,Z1,FW,Vd⟩:=s2.ob n q _ (up.ix _ _ ei) hc;rw[Lb Z1 (.of FW) Vd]
   | _=>rw[agW]
  | _=>rw[agW]
 ·subst ev
  rw[anf u ru r1];cases ru;rw[afj rv pl hz (I1.list hq)];rw[adY (call_enumerate_list pl.isList (adW h' he zm hsz kp)) (wpAny_pyIter_enum he ?_)];rw[aaa hp (aAy (Nat.le_refl s1.heap.objs.size)) hp1 (aAy (Nat.le_succ s1.heap.objs.size))]
  refine⟨aEx 1,[aEx 1,s1.heap.objs.size],_,_,H1,rfl,I1.kept (t':=s1.toks) kp,LP q _ _ aMl,⟨aaY,he,zm⟩,aiu,k⟩;rcases aEk with rfl | hb
  ·exact I1.DH apA hp1
  ·have eb:b=s1.heap.objs.size:=ahm
   rw[adL eb (I1.DH ack hp)]⟩
universe zE
universe L2
universe zE
section
namespace L2
open PySem PySem.Spec PyProof.Rows
abbrev Kc(scope sc:Scope)(XN N:acC)aPG:Bool :=
 aif (scope.kind=anj) (scope.names.all (λ y=>!(y.2 == arV))) && scope.names.all (λ y=>!(y.2 == .local) || (scope.names.lookup y.1 == ani)) &&
 scope.names.all (λ y=>!(y.2 == amA) || (aJD y.1 agG) || (aJD y.1 aoB)) && aeY nq.length N.length &&
 agj (List.range N.length).all j (match N[j]?,nq[j]? with
  | ad5,am5 i=>(XN[i]? == ad5) && scope.names.any (λ y=>y.1 == x && y.2 == amA) && (scope.names.lookup x == aoB)
  | _,_=>true)
def dt.of aNF{scope sc:Scope}(XN N:acC)aPG(hX:X.N=XN)(hk:∀x,apD x am6)(h:b8 (Kc scope sc XN N nq)):auI:=by
 subst hX;rw[ajd Kc];rw[aI2 h];obtain⟨⟨⟨⟨⟨h1,h2⟩,h3⟩,h4⟩,h5⟩,h6⟩:=h;refine⟨aL2,NV y hy e,NV y hy e,NV y hy e,of_decide_eq_true h5,adW j x i e1 e2⟩
 ·have:=List.all_eq_true.mp h2 y hy;rw[aia e this this]
 ·rw[aiL (List.all_eq_true.mp h3 y hy) e];simpa using this
 ·rw[aiL (List.all_eq_true.mp h4 y hy) e];rw[hk];simpa[or_comm] using this
 ·have hj:j<N.length:=(List.getElem?_eq_some_iff.mp e1).1;have:=List.all_eq_true.mp h6 j (List.mem_range.mpr hj);rw[e1,e2] at this;simp only[Bool.and_eq_true,beq_iff_eq,List.any_eq_true] at this;obtain⟨⟨a1,⟨y,a2,a3⟩⟩,a4⟩:=this;rw[Lb a1 (by rw[aq5 a3.1 a3.2 a2]) a4]
abbrev Ij(scope sc:Scope):Scope:={ scope with names:=scope.names.map fun(n,k)=>if (ajr k && aJD n agG) then(n,NameKind.cell) else(n,k) }
def LR aNF{scope sc:Scope}{N:acC}aN3 aO8 aNJ aNu(hk:∀x,apD x am6)(hf:X.env.scope.kind=anj)aNM :
  (gX X scope N C fp s H).env.kindOf x=(aFx (Ij scope sc)) x:=by
 show(aFx aGj) x=_;unfold relabel Ij;simp only[hk,hf];simp only[apE (aey (ScopeKind.function == ScopeKind.function)),Bool.and_true]
section
variable {X:Cx} {Ex:St->XK} {a b c e o:Expr} {es:ab5} {da db dc d lL:DE} {ds:aeG} {pos pos' apos cW:Pos}
abbrev rQ aNH:DE:=ag0 (abO).bind (match x with
 | η i=>.ok (η (-i)) M1
 | _=>c6)
def An aPp:amF aGq .USub a (rQ da):=⟨by
 rw[amR (Zm Wm ha.out) (λ ι1 S1 M1 H1 x v e1 s1 r1 w1=>?_)];cases x with
 | int i=>rw[Lb i asW (ajI am3)]
 | _=>rw[agW]⟩
def FZ aPK aPh aNb{ys:d5}aOr{bN:x6}aOn aN1 aR2{qs:aFi}aOf aNa(aV:cw X.K ι S M H)
  (rs:bg X.K ι S ys vs)(rv:avq vs)(px:bj X.K ι S x v)(rx:ahY)(e1:t6 (ao5 x) d)(e2:t6 (nu (flat M deep) ys) qs) :
  (∀y,y∈bN.toArray->SeqAt.EqAt X.A.in1 s y u (PyData.eqv (axf y) d))/\bN.map (λ y=>axf y)=qs:=by
 obtain⟨⟨as,a1⟩,a2,a3⟩:=mm aV I.cR deep x v u d px rx e1
 obtain⟨⟨bs,b1⟩,b2,b3⟩:=qb (mm aV I.cR deep) ys vs bN qs rs rv e2
 have b1':ReadsAll s.heap bN.toArray.toList qs bs:=aaF b1
 rw[ac4 (SeqAt.items_eqAt b1' a1 b2 a2 (by have:=Nat.min_le_right aJB d.depth;have:aBB 10:=a3;omega)) ?_];exact SeqAt.readsAll_map qs bN bs b2 b1
abbrev countP:DM:=λ x as M=>match as with
 | [y]=>match anW,ao5 y with
  | agm,aHK=>match ajG (flat M deep) with
   | some qs=>.ok (η (qs.countP (akK q q d))) M
   | none=>c6
  | _,_=>c6
 | _=>c6
def wR aOf:DU X "list.count" (arI countP):=by
 intro pins s σ H x xs v us Q I rx rs h;obtain⟨E,ι,S,M,p,ps,aV,r,rr,w⟩:=h;rw[agI countP];split at w
 ·rw[adw z r1 rr.ju]
  rw[anf u ru rs];split at w
  ·rename_i ys d h1 h2;split at w
   ·rename_i qs h3
    rw[abY l vs eH rl (fU aV r h1)];cases rx;rw[afj rv pl hz (I.list (.of eH))]
    obtain⟨q1,q2⟩:=FZ hu I aV rl rv r1 ru h2 h3;obtain⟨⟨cls,dd,data,sl⟩,n,ho,hc,hd0,hd⟩:=id pl;simp only at hc hd hd0
    subst hc hd;rw[ahV (call_meets PySem.F.slot_list_count pl.isList.typeIs PySem.F.entry_list_count (PySem.F.args_list_count_2 _ _) (SeqAt.list_countAt l _ n dd sl u _) ⟨ho,q1,?_⟩) e (aez (List.countP (akK y (axf y) d) bN.toArray.toList)=qs.countP (akK q q d)) (by
     rw[← q2,List.countP_map]; rfl)]
    rw[aeN e ⟨η _,H,afl,adE,ap9⟩]
   ·rw[abZ]
  ·rw[abZ]
 ·rw[abZ]
abbrev pK:DM:=λ x as M=>match as with
 | [y]=>match anW,ao5 y with
  | agm,aHK=>match ajG (flat M deep) with
   | some qs=>match qs.findIdx? (akK q q d) with
    | some j=>.ok (η j) M
    | none=>c6
   | none=>c6
  | _,_=>c6
 | _=>c6
def wU aOf:DU X "list.index" (arI pK):=by
 intro pins s σ H x xs v us Q I rx rs h;obtain⟨E,ι,S,M,p,ps,aV,r,rr,w⟩:=h;rw[agI pK];split at w
 ·rw[adw z r1 rr.ju]
  rw[anf u ru rs];split at w
  ·rename_i ys d h1 h2;split at w
   ·rename_i qs h3;split at w
    ·rename_i j h4
     rw[abY l vs eH rl (fU aV r h1)];cases rx;rw[afj rv pl hz (I.list (.of eH))]
     obtain⟨q1,q2⟩:=FZ hu I aV rl rv r1 ru h2 h3;obtain⟨⟨cls,dd,data,sl⟩,n,ho,hc,hd0,hd⟩:=id pl;simp only at hc hd hd0
     subst hc hd;rw[alv hj ht hno (List.findIdx?_eq_some_iff_getElem.mp h4) hlen (bN.length=qs.length) (by rw[← q2];simp)]
     rw[apQ NQ rv.length at' (∀(m:Nat)(h:m<bN.length),PyData.eqv (axf bN[m]) d=PyData.eqv (qs[m]' b6) d) (λ m h=>by
      have:aor qs m (axf bN[m]):=by rw[← q2,zJ,List.getElem?_eq_getElem h]; rfl
      rw[List.getElem?_eq_getElem b6] at this;rw[Option.some.inj this]) (call_meets PySem.F.slot_list_index pl.isList.typeIs PySem.F.entry_list_index (PySem.F.args_list_index_2 _ _) (SeqAt.list_indexAt l _ n dd sl u (akK y (axf y) d) j (asz hlen hj) ?_ ?_ ?_) ⟨ho,q1,?_⟩)]
     ·rw[aeq sizeLine_eq]
     ·simp only[List.getElem_toArray];rw[Ω (at' j b6) ht]
     ·intro m hm se;rw[aj3 List.getElem_toArray (at' m (aaF hm))];simpa using hno m se
     ·exact⟨η _,H,afl,adE,ap9⟩
    ·rw[abZ]
   ·rw[abZ]
  ·rw[abZ]
 ·rw[abZ]
universe zE
def cn:bootBuiltins "len" = aa2 adX "len":=ac1
def S6:bootBuiltins "max" = aa2 adX "max":=ac1
def Ke:bootBuiltins "min" = aa2 adX "min":=ac1
def S7:bootBuiltins "any" = aa2 adX "any":=ac1
def iZ:bootBuiltins "list" = aa2 acr "list":=ac1
def LS:bootBuiltins "tuple" = aa2 acr "tuple":=ac1
def Kf:bootBuiltins "int" = aa2 acr "int":=ac1
universe L2
universe zE
section
namespace L2
open PySem PySem.Spec PyProof.Rows
structure lP aP5 aOq:Prop where
 cl:asp
 no:uA K C f
abbrev qc aOq(v:PV):ajD->ajD
 | []=>[(f,v)]
 | (g,x)::r=>if g=f then(g,v)::r else(g,x)::qc f v r
def dI.lookup aNw{fs:ajD}{yF:anM}(h:aIv)aOq :
  (YW asV/\YW (yF.lookup f))\/∃x v,asV=ad5/\yF.lookup f=aeJ/\aed:=by
 induction h with
 | nil=>exact awt rfl
 | @cons p q fs yF r t ih =>
  rw[aAz r1 r2 r p1 p2 p];rw[aEc q1 q2 q r1 r2];subst r1;rw[List.lookup_cons,List.lookup_cons];cases e:f == p1 with
  | true=>exact b9 (aa9 p2 q2 rfl r2)
  | false=>exact ih
def dI.pG aNw{fs:ajD}{yF:anM}(h:aIv)aOq aOn(r:aed):dI K ι S (qc f x fs) (pG f v yF):=by
 induction h with
 | nil=>exact azy r abT
 | @cons p q fs yF r' t ih =>
  rw[aAz p1 p2 p q1 q2 q];rw[aEc r1 r2 r' r1 r2]
  subst r1;show dI K ι S (if p1=f then(p1,x)::fs else(p1,p2)::qc f x fs) (if p1=f then(p1,v)::yF else(p1,q2)::L2.pG f v yF);rw[ah3 p1 f]
  ·rw[aml e e];exact azy r t
  ·rw[aeh akU akU (azy r2 ih)]
abbrev RI aNK aNO aNi:apY (Nat×ajD):=match x with
 | ο n=>match M[n]? with
  | ab1 aa7 C' fs=>akI C' C aH4 none
  | _=>none
 | _=>none
def mn aN3 aM9 aNb{fs:ajD}(h:M[n]? = ab1 aa7 C fs):RI C (ο n) M=aH4:=aeU RI h
def D9 aOI aOn aN3 aM9{fs:ajD}aPe(h:RI C x M=aH4) :
  ∃a dx yF,v=Δ a/\alb/\H a=c8 (aa7 C dx yF)/\aqy/\aIv:=by
 cases x with
 | obj m =>
  rw[adw p ei (bj.eZ.mp r)];obtain⟨o,eM,q⟩:=aV.addr ei;simp only[RI,eM] at h;cases o with
  | ins C' gs =>
   rw[ane];split at h
   ·rename_i ec;cases h;subst ec;rw[aen hS dx yF eH rr q ⟨p,dx,yF,rfl,ei,eH,hS,rr⟩]
   ·cases h
  | _=>cases h
 | _=>cases h
section
variable {X:Cx} {Ex:St->XK} {a b c e o value:Expr} {es:ab5} {da db dc d dv lL:DE} {ds:aeG} {pos pos' apos cW:Pos} {C:Addr} {f:Str}
abbrev cc aNK aOq aNH:DE:=ag0 (abO).bind (match RI C x M1 with
 | ahU _ fs=>Res.opt asV M1
 | none=>c6)
def bA(h:lP X.K C f)aPp(hb:am4 a f (ag9 a)=ag9 a:=by rfl):amF asB a f (cc C f da):=⟨by
 refine PE.imp (Wt ha.out hb) λ σ H Q hh=>?_;obtain⟨ι,S,M,ρ,aV,sl,w⟩:=hh;refine⟨ι,S,M,ρ,aV,sl,adG (gW X.K) w (λ ι1 S1 M1 H1 x v e1 s1 r1 w1=>?_)⟩;cases e2:RI C x M1 with
 | none=>rw[azb]
 | some p =>
  obtain⟨n,fs⟩:=p
  rw[alm e2 w1 w1];obtain⟨p,dx,yF,rfl,ei,eH,hS,rr⟩:=D9 s1 r1 e2;rcases rr.lookup f with⟨k1,_⟩ | ⟨y,u,k1,k2,k3⟩
  ·rw[g9 k1 w1 w1.elim]
  ·rw[k1] at w1
   exact⟨p,C,dx,yF,u,rfl,eH,h.cl,h.no,k2,w1 ι1 S1 H1 u afs s1 k3⟩⟩
abbrev gF aNK aOq(lL dv:DE):DS:=λ ρ M=>akn (aDx).out y ((aCE).out ρ λ x M2=>match RI C x M2 with
 | aH4=>aoF ayq .nx ρ (M2.set n (aa7 C aDz))
 | none=>c6)
def fo(h:lP X.K C f)(ho:asb)(hv:adk value dv)(hs:axB value (c8 (asB o f pos'))=aoo:=by rfl):aqM (anv [asB o f pos'] value pos) (gF C f lL dv):=⟨by
 refine PS.imp (Wu ho.out hv.out hs) (acE D σ H hh);obtain⟨ι,S,M,ρ,aV,sl,w⟩:=hh;refine⟨ι,S,M,ρ,aV,sl,iY.res (Rp:=gW X.K) sl w λ ι1 S1 M1 H1 y u e1 s1 r1 w1=>?_⟩;refine⟨ι1,S1,M1,ρ,s1,afH,iY.res (Rp:=gW X.K) afH w1 λ ι2 S2 M2 H2 x v e2 s2 r2 w2=>?_⟩;cases e3:RI C x M2 with
 | none=>rw[g9 e3 w2 w2.elim]
 | some p =>
  obtain⟨n,fs⟩:=p
  rw[alm e3 w2 w2];split at w2
  ·rw[ap0];obtain⟨p,dx,yF,rfl,ei,eH,hS,rr⟩:=D9 s2 r2 e3;rw[apN ⟨p,C,dx,yF,rfl,eH,h.cl,h.no,by rw[abQ rr.length hl],?_⟩ s3 e4 (s2.put (u:=aa7 C dx (pG f u yF)) (o:=aa7 C aDz) ei hS ⟨hS,dx,_,bG,rr.pG f (aoi e2)⟩) (w2 _ _ _ σ e4 s3 ((ayF).mono e4))]
  ·exact w2.elim⟩
universe zE
structure HA aOO aP4 aNW aNK(m:Str)aNd aNe:Prop where
 ex:∃f fd ps,pH P w K mg base (rS P w) k f fd ps (NO K n g)/\Meth K C m f/\asp/\aut
structure F0 aOO aP4 aNW aNM aNK aNd aNe:Prop where
 ex:∃f fd ps,pH P w K mg base (rS P w) k f fd ps (NO K n g)/\Mk K C f/\mg x=aC5/\aut
section
variable {P:Program} {w:World} {K:Fg} {mg:ac0} {base:Heap} {C:Addr} {m x:Str} {n:Nat} {g g':D1}
def HA.mono aQ2 aTU aQ3:HA P w K mg base k C m n g:=by
 rw[aen f fd ps F r F.ex ⟨f,fd,ps,ayf,r⟩]
def F0.mono aQ2 aTV aQ3:F0 P w K mg base k x C n g:=by
 rw[aen f fd ps F r F.ex ⟨f,fd,ps,ayf,r⟩]
structure C6 aP5(m q:Str)aRp:Prop where
 ex:∃f fd,OB K m q st f fd/\Meth K C m f/\asp/\aut
structure C7 aQX aNM aNK(q:Str)aRp:Prop where
 ex:∃f fd,OB K "__init__" q st f fd/\Mk K C f/\mg x=aC5/\aut
def HA.of{q:Str}aO3 aPC aNf{d:DS}aT9
  aUL:HA P w K mg base (k+1) C m ps.length (fQ N.length d):=by
 obtain⟨f,fd,F,hm,hc,hB⟩:=D.ex;exact⟨f,fd,ps,D8 F S (hb f),hm,hc,hB⟩
def F0.of{q:Str}aO3 aPC aNf{d:DS}aTX
  aUL:F0 P w K mg base (k+1) x C ps.length (fQ N.length d):=by
 obtain⟨f,fd,F,hm,hc,hB⟩:=D.ex;exact⟨f,fd,ps,D8 F S (hb f),hm,hc,hB⟩
universe zE
section
variable {X:Cx} {Ex:St->XK} {a b c e o:Expr} {es:ab5} {da d lL:DE} {ds:aeG} {pos apos p:Pos} {C:Addr} {m x:Str} {n k:Nat} {g:D1}
abbrev F5 aNK(m:Str)aNe(lL:DE)aO6:DE:=ag0 (lL ρ M).bind (match RI C x M1 with
 | ahU _ fs=>match fs.lookup m with
  | ak3=>c6
  | none=>ajj (fF ds ρ M1).bind xs (g (x::xs) M2)
 | none=>c6)
def Ea{pl:aGr}(F:HA X.prog X.w X.K X.mg X.base k C m n g)(hr:aCe)(G:aun)(ho:asb)(ha:ao8 (e::es))aUd
  aTk
  aSZ :
  adk (aet (ao0 m) (e::es) [] pos) (F5 C m g lL ds):=⟨by
 obtain⟨f,fd,ps,F,hm,hc,hb⟩:=F.ex;rw[amR (OI ho.out hc hm F hr hb abT G.ps ha.out B3 p7 ht) (λ ι1 S1 M1 H1 x v e1 s1 r1 w1=>?_)];cases e2:RI C x M1 with
 | none=>rw[azb]
 | some q =>
  obtain⟨j,fs⟩:=q
  rw[alm e2 w1 w1];obtain⟨q,dx,yF,rfl,ei,eH,hS,rr⟩:=D9 s1 r1 e2;rcases rr.lookup m with⟨k1,k2⟩ | ⟨y,u,k1,k2,k3⟩
  ·rw[ayx k1 w1 ⟨q,dx,yF,rfl,eH,k2,ι1,S1,M1,ρ,s1,afH,adG (al4 X.K) w1 (λ ι2 S2 M2 H2 xs vs e3 s2 r2 w2=>?_)⟩];rw[aeN zI ⟨by rw[zE,← ahb r2.1,r2.2,hn],ι2,S2,M2,_,s2,aaT (aoi e3) r2.1,w2⟩]
  ·rw[g9 k1 w1 w1.elim]⟩
abbrev sq aNK aNe aO6:DE:=awn (alc).bind (ajj (g (ο M1.length::xs) (M1++[aa7 C []])).bind r (match r with
 | .bh=>.ok (ο M1.length) M2
 | _=>c6))
def C8{CX:Hw}aRI{sp:Sp}aOM aOC aN0 aOK aOr(M:Mk X.K C f)aQ9 aSE(hb:Binds X.K fd ps [])
  (hx:∀(pins:x8)aNz aND aRE,ahA (CX X.stack H s E e s') (X.xe e s'))aNa(r:atI)
  (h:∀x dx,ahW x->ahW dx->dx≠x->sp (Δ x::vs) (af3 (aiP dx .own x) x (aa7 C dx [])) (ahP v (v=.bh/\Q (Δ x) H2)) E) :
  ads (call (Δ C) us) (EP X pins σ Q) s:=by
 rw[aaa hq (h afv s.heap.objs.size (akM apA) (akM ack) (aLR _)) I2 (Inv.made (C:=C) I)];rw[d9 r2 (auT (V.ref afv::vs) (aA0::us)) (aaT rfl r) hl (aGh (aA0::us++[])) (by
  rw[adS e r2.length (F.len _ _ _ _ hq) e];rw[Ω zI e.symm])]
 rw[adS SF (hb _ (aA0::us) I2.Fy hl) zI SF]
 refine aFh (Oc (f:=f) I.Fy M.makes M.init (beq_iff_eq.mp M.fn) (codeAny_mono (F.run _ X.stack _ _ (aiQ (aA0::us)) (aA0::us) _ _ E (hr.make C us [])
  (I2.Zu.make C us []) SF r2 hq) (NV r s' wV)))
 cases r with
 | error e=>exact hx pins _ _ e s' I2 wV
 | ok fl =>
  cases fl with
  | ret u =>
   obtain⟨v,H',I3,rv,ev,q3⟩:=I2.after wV;subst ev;rw[aab rv (aa9 (V.ref afv) H' I3 q3)]
  | next=>rw[anb wV]
  | brk=>rw[anb wV]
  | cont=>rw[anb wV]
def C9 aOI aOM aN0 aNP aQz(r:aee)(hn:vs.length+1=n)
  (w:aph (ajj (g (adM::xs) (M++[aa7 C []])).bind r (match r with | .bh=>.ok adM M2 | _=>c6))) :
  ∀x dx,ahW x->ahW dx->dx≠x->NO K n g (Δ x::vs) (af3 (aiP dx .own x) x (aa7 C dx [])) (ahP v (v=.bh/\Q (Δ x) H2)) E:=by
 intro x dx hx ZR dQ;rw[anc s1 e1 (aV.side (o:=.own x) ZR) hx1 (YW (upd H dx (.own x) x)) (by rw[ab9 axK hx])]
 have hS:=s1.uF hx1
 rw[apC s2 e2 (s1.new (u:=aa7 C dx []) (o:=aa7 C []) hx1 ⟨hS,dx,[],bG,abT⟩) e12 (e1.trans e2)]
 rw[ahq hi (acn (ι++[x]) M.length x) (by rw[← aV.len];simp) ⟨af1 zE hn,ι++[x],S,_,_,s2,aaT (avc x hi) (r.mono e12),arZ (w.up e12) (λ ι1 S1 M1 H1 y v ex sm rp wk=>?_)⟩];cases y with
 | bh=>rw[aab (bj.ky.mp rp) (wk ι1 S1 H1 _ afs sm (avc x (ex.ix _ _ hi)))]
 | _=>exact wk.elim
def Kg(F:F0 X.prog X.w X.K X.mg X.base k x C n g)aSE(G:aun)aRd aUd aRm
  aPT:adk (aet (aad x p) (e::es) [] pos) (sq C g ds):=⟨by
 obtain⟨f,fd,ps,F,M,hm,hb⟩:=F.ex;intro pins s σ H Q I h
 obtain⟨ι,S,M',ρ,aV,sl,w⟩:=h;rw[adY (au6 (vh I hg hm ?_ HQ)) (PySem.W.callWith_K (h₀:=X.base) I.ok.mod.YL M.kp (afu (ha.out pos pins s σ H (acF vs (∀x dx,ax2 x->ax2 dx->dx≠x->NO X.K n g (Δ x::vs) (af3 (af3 H1 dx (.own x)) x (aa7 C dx [])) (ahP v (v=.bh/\Q (Δ x) H2)) (Ex σ))) I ?_) us s1 ⟨vs,H1,I1,r,q⟩ (aik I1.Fy)) he p7)]
 ·refine⟨ι,S,M',ρ,aV,sl,adG (al4 X.K) w (λ ι1 S1 M1 H1 xs vs e1 s1 r1 w1=>?_)⟩;exact C9 s1 r1.1 (by rw[← ahb r1.1,r1.2,hn]) w1
 ·exact C8 M F hr hb (λ pins H s e s' I h=>G.ps pins σ H s e s' I h) I1 r q⟩
def O5(F:F0 X.prog X.w X.K X.mg X.base k x C 1 g)aSE(G:aun)(hg:ajS:=by rfl)aRm:adk (aet (aad x p) [] [] pos) (sq C g []):=⟨by
 obtain⟨f,fd,ps,F,M,hm,hb⟩:=F.ex;intro pins s σ H Q I h
 obtain⟨ι,S,M',ρ,aV,sl,w⟩:=h;rw[ant (au6 (vh I hg hm ?_ HQ)) (PySem.W.callWith_K0 I.Fy M.kp (C8 (us:=[]) M F hr hb (λ pins H s e s' I h=>G.ps pins σ H s e s' I h) I abT (C9 aV abT rfl w)))]⟩
universe zE
section
variable {X:Cx} {Ex:St->XK} {a b c e o i value:Expr} {es:ab5} {da db dc d dv di lL:DE} {ds:aeG} {pos pos' apos cW:Pos}
def set_dict aSJ:HD X (λ o i v H Q=>∃a H',o=Δ a/\DK H a i v H'/\Q H'):=by
 intro pins s σ H o i v ov iv u Q I ro ri rv h;rw[amB p H' g h];cases ro;exact Lw hu I g ri rv λ s' I'=>⟨H',I',q⟩
abbrev yI(x k y:PV)aNi:Option bb:=match x with
 | ο n=>match M[n]? with
  | afN=>match k with
   | η j=>agj (avi j).map m (ajR n (xs.set m y))
   | _=>none
  | aCU=>match kq k with
   | some kk=>au9 (kvs.length<lim) (c8 (adA n .bP (nv kvs kk y)))
   | none=>none
  | aa2 .LG kvs=>match JW k with
   | some kk=>au9 (kvs.length<lim) (c8 (adA n .LG (nv kvs kk y)))
   | none=>none
  | _=>none
 | _=>none
def O6 aR5{S H:Hp}{M M':bb}{x k y:PV}{v kv u:V}{Q:aqT}aPe(rk:aj0 k kv)(ry:aj0 y u)(h:t6 (yI x k y M) M')
  (hQ:∀H',cw K ι S M' H'->Ext ι S H ι S H'->Q H'):U8 v kv u H Q\/∃a H',v=Δ a/\DK H a kv u H'/\Q H':=by
 cases x with
 | obj n =>
  rw[adw p ei (bj.eZ.mp r)];obtain⟨o,eM,q⟩:=aV.addr ei;simp only[yI,eM] at h;cases o with
  | lst xs =>
   rw[ane];cases k with
   | int j =>
    rw[ane];obtain⟨hS,vs,eH,rr⟩:=q;cases e:avi j with
    | none=>rw[amW]; cases h
    | some m =>
     rw[amW];cases h;rw[adP s2 e2 (tE aV ei hS (rr.set m ry)) (b4 ⟨p,vs,j,m,rfl,bj.bC.mp rk,eH,by rw[abQ rr.length e],hQ _ s2 e2⟩)]
   | _=>cases h
  | bP kvs =>
   rw[ane];obtain⟨hS,bY,eH,rr⟩:=q;cases e:kq k with
   | none=>rw[amW]; cases h
   | some kk =>
    rw[alm e h h];split at h
    ·rw[ap0];cases h;have:=mF rk e;subst this;rw[adP s2 e2 (aV.put (u:=.dK (putK bY kk u)) (o:=.bP (nv kvs kk y)) ei hS ⟨hS,_,bG,rr.put kk ry⟩) (b9 (amD p (DK.k eH (by rw[abQ rr.length (Af hl)])) (hQ _ s2 e2)))]
    ·cases h
  | LG kvs =>
   rw[ane];obtain⟨hS,bY,eH,rr⟩:=q;cases k with
   | tup ks =>
    rw[abY b vs eS rs (bj.gy.mp rk)];simp only[JW] at h;cases e:nu kq ks with
    | none=>rw[amW]; cases h
    | some kk =>
     rw[alm e h h];split at h
     ·rw[ap0];cases h;have:=wL rs e;subst this;rw[adP s2 e2 (aV.put (u:=.dT (putK bY kk u)) (o:=.LG (nv kvs kk y)) ei hS ⟨hS,_,bG,rr.put kk ry⟩) (b9 (amD p (DK.t eH (aV.sub _ _ eS) (by rw[abQ rr.length (Af hl)])) (hQ _ s2 e2)))]
     ·cases h
   | _=>cases h
  | _=>cases h
 | _=>cases h
abbrev fx(lL di dv:DE):DS:=λ ρ M=>akn (aDx).out y ((aCE).out ρ λ x M2=>(di ρ M2).out ρ λ k M3=>match yI x k y M3 with
 | some M4=>.nx ρ M4
 | none=>c6)
def HD.or{t t':R3}(h:HD X t)(h':HD X t'):HD X (λ o i v H Q=>t o i v H Q\/t' o i v H Q):=by
 intro pins s σ H o i v ov iv u Q I ro ri rv q;rcases q with q | q
 ·exact h pins s σ H o i v ov iv u Q I ro ri rv q
 ·exact h' pins s σ H o i v ov iv u Q I ro ri rv q
def cS aOf(ho:asb)(hi:adk i di)(hv:adk value dv)
  (ha:∀v,aE0 (alw o i pos') v=(do
   let ov ← aou [v] ag1
   let iv ← aou [v,ov] (ag9 i)
   standAt pos'
   aou [v,ov,iv] (setItem ov iv v)
   release [v,ov,iv] []):=by rw[asa])
  (hs:swapsWithSole [alw o i pos'] value pos.line X.env=aoo:=by rfl)(hw:aJt [alw o i pos'] value=aK2:=by rfl)
  (h1:amt (au2 [alw o i pos']).map=[asN (alw o i pos')]:=by rfl):aqM (anv [alw o i pos'] value pos) (fx lL di dv):=⟨by
 refine PS.imp (N6 hv.out (V7 ho.out hi.out (set_list.or (set_dict b6)) ha) hs hw h1) (acE D σ H hh);obtain⟨ι,S,M,ρ,aV,sl,w⟩:=hh;refine⟨ι,S,M,ρ,aV,sl,iY.res (Rp:=gW X.K) sl w λ ι1 S1 M1 H1 y u e1 s1 r1 w1=>?_⟩;refine⟨ι1,S1,M1,ρ,s1,afH,iY.res (Rp:=gW X.K) afH w1 λ ι2 S2 M2 H2 x v e2 s2 r2 w2=>?_⟩;refine⟨ι2,S2,M2,ρ,s2,ayF,iY.res (Rp:=gW X.K) ayF w2 λ ι3 S3 M3 H3 k kv e3 s3 r3 w3=>?_⟩;cases e4:yI x k y M3 with
 | none=>rw[g9 e4 w3 w3.elim]
 | some M4 =>
  rw[g9 e4 w3 (O6 s3 (bj.mono e3 r2) r3 aIz e4 λ H' s' e'=>w3 _ _ _ σ e' s' ((sl.mono (e1.trans (e2.trans e3))).mono e'))]⟩
universe zE
universe L2
universe zE
end
mutual
section
namespace L2
open PySem PySem.Spec PyProof.Rows
abbrev bools:aiK d5 amb
 | []=>some []
 | .bl b::r=>(bools r).map (b::·)
 | _::_=>none
def Dc aNw:∀aNP{bs:amb},aee->t6 (bools xs) bs->vs=aKx
 | [],vs,bs,r,e=>by rw[bg] at r;subst r; cases e; rfl
 | x::xs,vs,bs,r,e=>by
  rw[abY v r' h1 h2 r.kn];cases x with
  | bl b =>
   rw[bools] at e;cases e2:bools xs with
   | none=>rw[asi]; cases e
   | some cs =>
    rw[asi];cases e;rw[zC,Dc h2 e2,bj.fu.mp h1]
  | _=>cases e
def wW aNq(f:aza)aP1:bools (xs.map λ x=>.bl (f x))=c8 (xs.map f):=by
 induction xs with
 | nil=>rfl
 | cons x xs ih=>rw[zC,bools,ih]; rfl
section
variable {X:Cx} {Ex:St->XK} {a b c e o:Expr} {es:ab5} {da db dc d lL:DE} {ds:aeG} {pos pos' apos cW:Pos}
abbrev ag7:D1:=apb (match xs with
 | [x]=>match (anW).bind bools with
  | some bs=>.ok (.bl (bs.all id)) M
  | none=>c6
 | _=>c6)
abbrev S8:D1:=apb (match xs with
 | [x]=>match (anW).bind bools with
  | some bs=>.ok (.bl (bs.any id)) M
  | none=>c6
 | _=>c6)
def O7{bs:amb}{bN:x6}(rv:avq aKx)aNr aQv(h:aqp bN.toArray):v=aiW (bs.getD i false):=by
 have h':aqp bN:=azC
 rw[adS hl rv.length zK hl]
 have hi:i<bs.length:=by rw[aeN hl (List.getElem?_eq_some_iff.mp h').1]
 obtain⟨u,h1,h2⟩:=rv.get (i:=i) (x:=.bl bs[i]) (by rw[zJ,List.getElem?_eq_getElem hi];rfl)
 rw[h'] at h1;cases h1;rw[aDU hi];exact h2
def LU{bs:amb}:(List.range bs.length).any (λ i=>bs.getD i false)=bs.any id:=by
 induction bs with
 | nil=>rfl
 | cons b bs ih =>
  rw[zE,List.range_succ_eq_map,List.any_cons,List.any_map,List.any_cons,← ih];rfl
def Xq aPK{l:Addr}{bs:amb}aNa aOz(eH:H l=aiV aKx){f:String}{k:Bool}aN0
  (call:∀aNN,ahS (model X.prog X.w) X.A.in1 (pyIter (Δ l)) (λ it s₂=>∃I fp wr n P St tr,it=Δ I/\PySem.Walks X.prog X.w X.A.in1 I fp wr n P St/\St 0 s₂.heap/\TruthOf X.prog X.w X.A.in1 P tr ∧
   n=bs.length/\tr=(λ i=>bs.getD i false)/\∀h' tk,(∀b o,b∉wr->s₂.heap.get? b=aaW->ahd=aaW)->Q (aiW k) (ahE s₂ h' tk)) X.xe s →
   ads (call (adX f) [Δ l]) Q s)(q:Q (.bl k) H):ads (PySem.call (adX f) [Δ l]) (EP X pins σ Q) s:=by
 rw[afj rv pl hz (I.list (.of eH))];rw[apI (call (wpAny_pyIter_list pl.isList ?_)) dQ (l≠s.heap.objs.size) (by
  obtain⟨o,n,ho,_⟩:=pl;exact aAL ho) hlen (aJ2 bs.length) (by have:=rv.length;rw[ayc]; simp[this])]
 refine⟨s.heap.objs.size,_,_,_,_,_,λ i=>bs.getD i false,rfl,PySem.Walks.list (A:=X.A.in1) (I.ok.hd hc) s.heap.objs.size l dQ bN.toArray,⟨az7,pl.isList.at λ o e=>afR e⟩,?_,hlen,rfl,atl tk hk⟩
 ·intro i v s2 Q' E' hP hQ;have:=O7 rv i v hP;rw[adL this (wpAny_truthy_bool hQ)]
 ·refine aa9 (.bl k) H ?_ q
  refine I.kept (t':=tk) (amT (hk b o ?_ (afR e)));intro hb
  have:b=s.heap.objs.size:=ahm
  exact Nat.ne_of_lt ajp this
def LV aOz:arF "any" (aqe S8):=by
 intro pins s σ H xs us Q I rs h;obtain⟨E,ι,S,M,ys,aV,r,w⟩:=h;rw[agI S8];split at w
 ·split at w
  ·rename_i x bs hb;rw[adw v r1 r.ju];rw[adw u ru (vals1 rs)];obtain⟨zs,h1,h2⟩:=Option.bind_eq_some_iff.mp hb;rw[abY l vs eH rr (fU aV r1 h1)];cases ru;rw[ax7 (Dc rr h2) eH (Xq I hc eH (λ{Q} h=>call_any_walk (wpAny_mono h (λ it s2 ⟨I1,fp,wr,n,P,St,tr,e1,e2,e3,e4,e5,e6,e7⟩=>⟨I1,fp,wr,n,P,St,tr,e1,e2,e3,e4,atl tk hk⟩) λ _ _ z=>z)) ayH)];subst e5 e6;rw[Ω LU (e7 h' tk hk)]
  ·rw[abZ]
 ·rw[abZ]
universe zE
universe L2
universe zE
section
namespace L2
open PySem PySem.Spec PyProof.Rows
abbrev ya:aiK d5 abE
 | []=>some []
 | η i::r=>(ya r).map (i::·)
 | _::_=>none
def ints_map aOj:t6 (ya avv) ns:=by
 induction ns with
 | nil=>rfl
 | cons n ns ih=>rw[zC,ya,ih]; rfl
def F6 aNw:∀aNP aOV,aee->t6 (ya xs) ns->vs=al3
 | [],vs,bs,r,e=>by rw[bg] at r;subst r; cases e; rfl
 | x::xs,vs,bs,r,e=>by
  rw[abY v r' h1 h2 r.kn];cases x with
  | int b =>
   rw[ya] at e;cases e2:ya xs with
   | none=>rw[asi]; cases e
   | some cs =>
    rw[asi];cases e;rw[zC,F6 h2 e2,bj.bC.mp h1]
  | _=>cases e
abbrev LW aOj:Nat:=acL (firstMet (λ i=>ns.getD i 0) ns.length)
section
variable {X:Cx} {Ex:St->XK} {a:Expr} {da:DE} {pos:Pos}
def yb:∀aOV{bN:x6},avq al3->IntsAre bN ns
 | [],_,r=>by cases r; rw[akp]
 | n::ns,_,r=>by
  cases r with
  | cons h t =>
   rw[adP k rfl h (aaT n k (yb t))]
def LX aOz:gC X (acr "set") (auL p ns (xs=aCL p) (pO X.K H p al3/\ns.length<4000/\∀q S,ahW q->Q (Δ q) (upd H q (afq S (LW ns))))):=by
 intro pins s σ H xs us Q I r h;obtain⟨p,ns,rfl,hq,hl,q⟩:=h;rw[anf u ru r];cases ru;rw[afj rv pl hz (I.list hq)];rw[adS hlen rv.length zK hlen];rw[ahV (PySem.call_set_list (items:=bN.toArray) (ns:=ns) (I.ok.hd hc) pl.isList (aaF (yb rv)) (by unfold scanBound; simp only[List.size_toArray];omega) (acE h' tk hS hk)) e1 (aJ2 ns.length) (d7 hlen)]
 rw[e1] at hS
 exact aa9 aii _ (I.laid (t':=tk) (amT (hk b o ajp e)) ack (show iu X.prog X.w _ _ _ (afq _ (LW ns)) from hS)) (q _ _ (akM ack))
def LY:aGl (λ xs H Q=>∃p S n,xs=aCL p/\H p=ab1 afq S n/\Q (η n) H):=by
 intro pins s σ H xs us Q I r h;obtain⟨p,S,n,rfl,hp,q⟩:=h;rw[anf u ru r];cases ru;obtain⟨o,es,ep,t,ho,hex,hd,O4,_,hb,hf,hn⟩:=(show s.heap.SetOf (intKind X.prog X.w) p S n from I.cR p _ hp)
 subst hn
 unfold scanBound at hb;exact PySem.call_len_set ho hex hd hf b6 ⟨η es.size,H,afl,adE,q⟩
abbrev zr aNH:DE:=ag0 (abO).bind (match (aDw).bind ya with
 | some ns=>aoF (ns.length<4000) .ok (η (LW ns)) M1
 | none=>c6)
def LZ{p q pos':Pos}aOz aPp(Xr:axw "len")(Xs:axw "set")(Xu:Gl X "len" := by rfl)(Z8:Gl X "set" := by rfl)
  (he:aDA=aqx::ajn []:=by rfl)(p7:aiF (backTo pos' (ajn [])).any:=by rfl)(Z9:aiF (ajy []).any:=by rfl) :
  adk (aet (aad "len" p) [aet (aad "set" q) [a] [] pos'] [] pos) (zr da):=⟨by
 rw[avK A1 (PA X [a] (CN (ayM da) Od)) (o7 ha.out uB he) A2 (CT (p:=q) (pos:=pos') (LX hc) Z8 Xs (ac1:bootBuiltins "set" = aa2 acr "set") A1 d6 d6 he p7) (PE.imp (zW LY Xu Xr ac1 (o7 A2 uB rfl) d6 d6 rfl Z9) λ σ H Q h=>?_)];obtain⟨ι,S,M,ρ,aV,sl,w⟩:=h;refine⟨ι,S,M,ρ,aV,sl,adG (gW X.K) w (λ ι1 S1 M1 H1 y v e1 s1 r1 w1=>?_)⟩;cases e2:(iw M1 y).bind ya with
 | none=>rw[azb]
 | some ns =>
  rw[e2] at w1;obtain⟨zs,h1,h2⟩:=Option.bind_eq_some_iff.mp e2;rw[abY l vs eH rr (fU s1 r1 h1)];rw[alm (F6 rr h2) eH w1];split at w1
  ·rw[ap0];rw[apN (aoZ l ns (.of eH) hl (λ z S' hz=>auK z S' _ aeO ?_)) s2 x2 (s1.side (o:=afq S' (LW ns)) hz) (w1 ι1 S1 _ _ x2 s2 am3)]
  ·rw[agW]⟩
abbrev qd:DE:=abg M (.ok adM (M++[.bP []]))
def tF:adk (.Dict [] [] pos) qd:=⟨PE.imp Oe λ σ H Q h p hp=>by
 obtain⟨ι,S,M,ρ,aV,sl,w⟩:=h;rw[adP s1 x1 (aV.new (u:=.dK []) (o:=.bP []) hp ⟨aV.uF hp,[],aeO,abT⟩) (w _ _ _ _ x1 s1 (avc p (by rw[← aV.len,aDW ack]; simp)))]⟩
universe zE
universe L2
universe zE
section
namespace L2
open PySem PySem.Spec PyProof.Rows
abbrev uh aNO aNi:apY (Nat×ae2):=match x with
 | ο n=>match M[n]? with
  | aCU=>anx
  | _=>none
 | _=>none
def fc aM9 aNb aQ4 aO2:uh (ο n) M=anx:=aeU uh h
def nw aOI aOn aOQ aPe(h:uh x M=anx) :
  ∃a bY,v=Δ a/\alb/\H a=awh .dK/\aqy/\akx/\x=ο n:=by
 cases x with
 | obj m =>
  rw[adw p ei (bj.eZ.mp r)];obtain⟨o,eM,q⟩:=aV.addr ei;simp only[uh,eM] at h;cases o with
  | bP xs =>
   cases h;rw[afr hS bY eH rk q ⟨p,bY,rfl,ei,eH,hS,rk,rfl⟩]
  | _=>cases h
 | _=>cases h
section
variable {X:Cx} {Ex:St->XK} {a b c e f o:Expr} {es:ab5} {da db dc d lL dk dx:DE} {ds:aeG} {pos pos' apos cW:Pos}
abbrev wX(lL dk:DE):DE:=ag0 (lL ρ M).bind (match alR with
 | ak3=>ajj (dk ρ M1).bind y (match aIC,asv with
  | ahU _ kvs,aeK=>.ok ((anT).getD .bh) M2
  | _,_=>c6)
 | none=>c6)
abbrev lU(lL dk dx:DE):DE:=ag0 (lL ρ M).bind (match alR with
 | ak3=>ajj (dk ρ M1).bind y ((dx ρ M2).bind λ z M3=>match aID,asv with
  | ahU _ kvs,aeK=>.ok ((anT).getD z) M3
  | _,_=>c6)
 | none=>c6)
abbrev qI(lL dk:DE):DE:=ag0 (lL ρ M).bind (match alR with
 | ak3=>ajj (dk ρ M1).bind y (match aIC,asv with
  | anx,aeK=>match anT with
   | aeJ=>.ok v (M2.set n (.bP (ue kvs k)))
   | none=>c6
  | _,_=>c6)
 | none=>c6)
abbrev wY(lL dk dx:DE):DE:=ag0 (lL ρ M).bind (match alR with
 | ak3=>ajj (dk ρ M1).bind y ((dx ρ M2).bind λ z M3=>match aID,asv with
  | anx,aeK=>match anT with
   | aeJ=>.ok v (M3.set n (.bP (ue kvs k)))
   | none=>.ok z M3
  | _,_=>c6)
 | none=>c6)
def Eb aOI aOn{q:Nat×ae2}aPe(h:t6 (uh x M) q):∃p,v=Δ p/\WB H p:=by
 obtain⟨p,bY,rfl,_,eH,_⟩:=nw aV r h;exact afT p (b4 ⟨bY,b4 eH⟩)
def Kh aOI aM9 aOi{ys:ae2}{us:agP}aQz aUI(r:dI K ι S ys us):cw K ι S (M.set n (.bP ys)) (aiP p .dK us)/\Ext ι S H ι S (aiP p .dK us) :=
 aV.put hi hS ⟨hS,us,bG,r⟩
def F7 aOf aRk(m:M1 X o "get" apos e cW:=by exact aHv):adk (aet aGn [e] [] cW) (wX lL dk):=⟨by
 rw[amR (Oh b6 ho.out he.out m) (λ ι1 S1 M1 H1 x v e1 s1 r1 w1=>?_)];cases q1:alR with
 | none=>rw[awp]
 | some q =>
  rw[q1] at w1;rw[adw p hd (Eb s1 r1 q1)];refine⟨p,rfl,hd,ι1,S1,M1,ρ,s1,afH,adG (gW X.K) w1 (λ ι2 S2 M2 H2 y u e2 s2 r2 w2=>?_)⟩;cases q2:aIC with
  | none=>rw[g9 q2 w2 w2.elim]
  | some nk =>
   obtain⟨n,kvs⟩:=nk;cases q3:asv with
   | none=>rw[aoO q2 q3 w2 w2.elim]
   | some k =>
    rw[q2,q3] at w2
    obtain⟨p',bY,ep,ei,eH,hS,rk,_⟩:=nw s2 (aoi e2) q2;cases ep;have ek:=mF r2 q3
    subst ek
    rw[ab8 _ (.k eH) ?_]
    dsimp only at w2;rcases aBH with⟨z1,z2⟩ | ⟨x',v',z1,z2,rr⟩
    ·rw[z1] at w2;rw[Ω z2 (w2 ι2 S2 H2 _ afs s2 (bj.ky.mpr rfl))]
    ·rw[z1] at w2
     rw[Ω z2 (w2 ι2 S2 H2 _ afs s2 rr)]⟩
def sr aOf aRk(hf:adk f dx)(m:M2 X o "get" apos e f cW:=by exact aHv):adk (aet aGn [e,f] [] cW) (lU lL dk dx):=⟨by
 rw[amR (Oi b6 ho.out he.out hf.out m) (λ ι1 S1 M1 H1 x v e1 s1 r1 w1=>?_)];cases q1:alR with
 | none=>rw[awp]
 | some q =>
  rw[q1] at w1;rw[adw p hd (Eb s1 r1 q1)];refine⟨p,rfl,hd,ι1,S1,M1,ρ,s1,afH,adG (gW X.K) w1 (λ ι2 S2 M2 H2 y u e2 s2 r2 w2=>?_)⟩;refine⟨ι2,S2,M2,ρ,s2,ayF,adG (gW X.K) w2 (λ ι3 S3 M3 H3 z t e3 s3 r3 w3=>?_)⟩;cases q2:aID with
  | none=>rw[g9 q2 w3 w3.elim]
  | some nk =>
   obtain⟨n,kvs⟩:=nk;cases q3:asv with
   | none=>rw[aoO q2 q3 w3 w3.elim]
   | some k =>
    rw[q2,q3] at w3
    obtain⟨p',bY,ep,ei,eH,hS,rk,_⟩:=nw s3 aIz q2;cases ep;have ek:=mF r2 q3
    subst ek
    rw[ab8 _ (.k eH) ?_]
    dsimp only at w3;rcases aBH with⟨z1,z2⟩ | ⟨x',v',z1,z2,rr⟩
    ·rw[z1] at w3;rw[Ω z2 (w3 ι3 S3 H3 _ afs s3 r3)]
    ·rw[z1] at w3
     rw[Ω z2 (w3 ι3 S3 H3 _ afs s3 rr)]⟩
def qe aOf aRk(m:M1 X o "pop" apos e cW:=by exact aHv):adk (aet aGo [e] [] cW) (qI lL dk):=⟨by
 rw[amR (Oj ho.out he.out m) (λ ι1 S1 M1 H1 x v e1 s1 r1 w1=>?_)];cases q1:alR with
 | none=>rw[awp]
 | some q =>
  rw[q1] at w1;rw[adw p hd (Eb s1 r1 q1)];refine⟨p,rfl,hd,ι1,S1,M1,ρ,s1,afH,adG (gW X.K) w1 (λ ι2 S2 M2 H2 y u e2 s2 r2 w2=>?_)⟩;cases q2:aIC with
  | none=>rw[g9 q2 w2 w2.elim]
  | some nk =>
   obtain⟨n,kvs⟩:=nk;cases q3:asv with
   | none=>rw[aoO q2 q3 w2 w2.elim]
   | some k =>
    rw[q2,q3] at w2
    obtain⟨p',bY,ep,ei,eH,hS,rk,_⟩:=nw s2 (aoi e2) q2;cases ep;have ek:=mF r2 q3
    subst ek
    dsimp only at w2;rcases aBH with⟨z1,z2⟩ | ⟨x',v',z1,z2,rr⟩
    ·rw[g9 z1 w2 w2.elim]
    ·rw[z1] at w2;rw[apN ⟨bY,k,v',eH,rfl,z2,?_⟩ s4 x4 (Kh s2 ei hS (rk.drop k)) (w2 ι2 S2 _ _ x4 s4 rr)]⟩
def Ao aOf aRk(hf:adk f dx)(m:M2 X o "pop" apos e f cW:=by exact aHv):adk (aet aGo [e,f] [] cW) (wY lL dk dx):=⟨by
 rw[amR (Ol ho.out he.out hf.out m) (λ ι1 S1 M1 H1 x v e1 s1 r1 w1=>?_)];cases q1:alR with
 | none=>rw[awp]
 | some q =>
  rw[q1] at w1;rw[adw p hd (Eb s1 r1 q1)];refine⟨p,rfl,hd,ι1,S1,M1,ρ,s1,afH,adG (gW X.K) w1 (λ ι2 S2 M2 H2 y u e2 s2 r2 w2=>?_)⟩;refine⟨ι2,S2,M2,ρ,s2,ayF,adG (gW X.K) w2 (λ ι3 S3 M3 H3 z t e3 s3 r3 w3=>?_)⟩;cases q2:aID with
  | none=>rw[g9 q2 w3 w3.elim]
  | some nk =>
   obtain⟨n,kvs⟩:=nk;cases q3:asv with
   | none=>rw[aoO q2 q3 w3 w3.elim]
   | some k =>
    rw[q2,q3] at w3
    obtain⟨p',bY,ep,ei,eH,hS,rk,_⟩:=nw s3 aIz q2;cases ep;have ek:=mF r2 q3
    subst ek
    dsimp only at w3;refine auK bY k eH (ab7 v' hv) (f6 hv)
    ·rcases aBH with⟨z1,z2⟩ | ⟨x',v'',z1,z2,rr⟩
     ·rw[z2] at hv; cases hv
     ·rw[z2] at hv;cases hv;rw[z1] at w3;rw[adP s4 x4 (Kh s3 ei hS (rk.drop k)) (w3 ι3 S3 _ _ x4 s4 rr)]
    ·rcases aBH with⟨z1,z2⟩ | ⟨x',v'',z1,z2,rr⟩
     ·rw[g9 z1 w3 (w3 ι3 S3 H3 _ afs s3 r3)]
     ·rw[z2] at hv; cases hv⟩
universe zE
universe L2
universe zE
section
namespace L2
open PySem PySem.Spec PyProof.Rows
def cw.Xv aOI aOi{u:HO}aOs(hp:p∉ι)(hS:aC8):cw K ι S M (at8 p):=by
 refine⟨aiw o,s.len,s.nd,adW n a o h1 h2⟩
 ·rw[ab9 (bW q hS) (s.sub b o q)]
 ·have dQ:a≠p:=λ z=>hp (aqQ z h1);exact(atO n a o).up ⟨λ _ _ h=>h,lN.refl S⟩ (acz z) (aQ dQ)
def vG:∀(more kvs:agP),af0 (kvs.map (·.1)++more.map (·.1))->qF kvs more=kvs++more
 | [],kvs,_=>d7 qF
 | p::r,kvs,h=>by
  rw[agw h1 (¬(aey (kvs.any (adR kv (afD=p.1))))) (by
   rw[List.any_eq_true];rintro⟨q,hq,e⟩;rw[g9 List.nodup_append h (h.2.2 q.1 (List.mem_map_of_mem hq) p.1 Ξ (of_decide_eq_true e))]) h2 (qF kvs (p::r)) (qF (avh p.1 p.2) r) rfl];rw[h2,putK,if_neg h1,vG r _ azC];simp
section
variable {X:Cx} {Ex:St->XK} {v:Expr} {d:DE} {pos p kp:Pos} {keys:aBL} {values:ab5} {yc:aCu}
noncomputable abbrev du aNM:Key:=Sum.inr x
abbrev Cf(yc:aCu):DE:=awn (fF aJ8 ρ M).bind (.ok (ο M1.length) (M1++[.bP ((apJ q (du q.1)).zip xs)]))
structure VP aOm(pos:Pos)(keys:aBL)(values:ab5)(yc:aCu):Prop where
 out:ZA X pos keys values (apJ q (tC (b5 q.1),ayM q.2))
def Ec:VP X Ex pos [] [] []:=⟨Sn⟩
def jv{k:Str}{j}(hv:atj v)(hr:VP X Ex pos keys values yc):VP X Ex pos (c8 (ano (b5 k) j kp)::keys) (v::values) ((k,d)::yc):=⟨Of N2 hv.out hr.out⟩
def Ki aNE aQQ:∀(yc:aCu){ι:c9}aRa{Q:ai4 (ae5 V V)},adO->ao7 →
  cz K (RpA K) (Ex σ) ι S H (λ vs H'=>ajl ((apJ q (V.str q.1)).zip vs)) (fF aJ8 ρ M)->DN (apJ q (tC (b5 q.1),tG K (gW K) Ex q.2)) σ H Q
 | [],ι,S,H,M,Q,aV,sl,w=>akX [] abT
 | (k,d)::r,ι,S,H,M,Q,aV,sl,w=>by
  refine⟨ι,S,M,ρ,aV,sl,arZ w (λ ι1 S1 M1 H1 x v e1 s1 r1 w1=>?_)⟩;rw[ant (Ki r s1 afH (adG (RpA K) w1 (λ ι2 S2 M2 H2 xs vs e2 s2 r2 w2=>?_))) (w2 ι2 S2 H2 (v::vs) afs s2 (aaT (aoi e2) r2))]
def Kj aNw:∀{ks:ajX}aNP,aee->dI K ι S (ks.zip xs) (ks.zip vs)
 | [],xs,vs,_=>abT
 | k::ks,[],vs,h=>by rw[bg] at h;rw[adL h abT]
 | k::ks,x::xs,vs,h=>by
  rw[abY v r h1 h2 h.kn];exact azy h1 (Kj h2)
def Ed(h:VP X Ex pos keys values yc)(Og:b8 aL1:=by rfl)(hl:aM5:=by rfl)(h0:agx keys:=by exact List.cons_ne_nil _ _)(h15:keys.length≤15:=by exact aI4)(hk:yc.length≤15:=by exact aI4)
  (hn:af0 (apJ q (du q.1)):=by rw[aw8]):amF .Dict keys values (Cf yc):=⟨by
 refine PE.imp (So h.out Og hl h0 h15) (ais σ H Q hh a ha);obtain⟨ι,S,M,ρ,aV,sl,w⟩:=hh;rw[apC s0 x0 (aV.side (o:=.dK []) ha) hai (aV.fresh ha)];rw[DB haS (aV.uF ha) (Ki yc s0 sl ?_)];rw[agI Cf];cases ed:fF aJ8 ρ M with
 | bad=>rw[ak9 ed]
 | exc c M2=>rw[g9 ed w (λ ι2 S2 H2 e2 s2=>w ι2 S2 H2 (x0.trans e2) s2)]
 | ok xs M2 =>
  rw[ed] at w;intro ι2 S2 H2 vs e2 s2 r2;obtain⟨f1,f2,f3⟩:=e2.fr a _ bG hai haS
  rw[asZ hlen (∀(yc:aCu)aOX,(apJ q (V.str q.1)).zip vs=agj ((apJ q (du q.1)).zip vs).map kv (kV afD,kv.2)) (by
   intro yc
   induction yc with
   | nil=>intro vs;rfl
   | cons q r ih =>
    intro vs;cases vs with
    | nil=>rfl
    | cons v vs=>simp only[zC,List.zip_cons_cons,ih vs];rfl) ad1 (∀(ks:ajX)aOX,(aeS (ks.zip vs).map).Sublist ks) (by
   intro ks
   induction ks with
   | nil=>intro vs;exact List.Sublist.slnil
   | cons k r ih =>
    intro vs;cases vs with
    | nil=>exact List.nil_sublist _
    | cons v vs=>exact(ih vs).cons₂ k) ⟨f1,(apJ q (du q.1)).zip vs,hlen yc vs,?_,?_⟩]
  ·rw[List.length_zip,zK];omega
  ·have zt:anp ((apJ q (du q.1)).zip vs).map:=hn.sublist (ad1 _ _);rw[vG _ _ (aaF zt),zH];have s3:cw X.K ι2 S2 M2 (af3 H2 a (.dK ((apJ q (du q.1)).zip vs))):=s2.Xv f2 f3;rw[apQ e3 (x0.trans e2) Ow (ι.length≤ι2.length) (by have:=e3.pre; rw[← this];rw[aer]) (w (ι2++[a]) S2 _ _ ⟨⟨λ n b hb=>(Up.push (S:=S2) a).ix n b (e3.ix n b hb),e3.sm⟩,?_,adW b u q1 q2 q3⟩ (s3.enter f2 ⟨f3,_,bG,Kj r2⟩) (avc a (by rw[← s2.len];simp)))]
   ·rw[aLr Ow e3.pre]
   ·rw[alv k1 k2 k3 (e3.fr b u q1 q2 q3) hb (b≠a) (acz (by rw[z,ha] at q1; cases q1))]
    rw[Lb (by rw[Ω (aQ hb) k1]) (aeU k2 hb) k3]⟩
universe zE
universe L2
universe zE
end
mutual
section
namespace L2
open PySem PySem.Spec PySem.Calls PyProof.Rows PySem.W Builtin Builtin.ObjectAttr Builtin.Getset_descriptor
def F8:entryFor table "BaseException.__getattribute__" = some Builtin.«object.__getattribute__» :=
 entryFor_alias (id' := "object.__getattribute__") aEM (by first | rfl | rw[aw8]) ac1 aEM
def F9:plainId "BaseException.__getattribute__" = true:=ac1
def Ga:splitId "BaseException.__getattribute__" = some ("BaseException","__getattribute__"):=ac1
def Ap:builtinKind "BaseException.__getattribute__" = some .slot:=ac1
def Ik(self:Value):bindSpecial (aLs adX) self=pure (aLs adX,[self]):=by
 rw[d9 h1 (withoutEnding? "BaseException.__getattribute__" "#opaque" = none) ac1 h2 (withoutEnding? "BaseException.__getattribute__" "#data" = none) ac1]
 simp only[bindSpecial,typeOf,builtinType,h1,h2,Ap]; rfl
structure Gb aP5:Prop where
 ga:aln (Δ C) "__getattribute__" = c8 (aLq adX)
 gt:aln (Δ C) "__getattr__" = some none
 cl:aln (Δ C) "__class__" = c8 aG4
 gn:aIY K ap4 = c8 (aDT adX)
 tk:PySem.W.takesIn K ap4=aly
 mo:aJW C aCd=aly
 mb:aJW C aB2=aly
 ci:aky (PySem.W.clsIn K C)
section
variable {K:Fg} {C e:Addr} {prog:Program} {w:World} {A:Around} {E:abP} {s:Shared}
def Cg aQZ{M:Model}aOe(KX:aHL):Looks M h (ObjectAttr.find (Δ e) (Δ C) "__class__") (.bind aGY ap4):=by
 rw[akR L1 (aJK M M X.cl) L2 (looks_specialIn (M:=M) KX X.gn) L3 (looks_takesIn (M:=M) KX X.tk)];exact L1.andThen (L2.andThen ((aIG (show Looks M h (dataDescriptor? aG4 (aDT adX)) (ahU aGY ap4) from L3.andThen .now)) (Looks.tag .now)))
def Il aQZ aR8{tp:Value}{R:aHF}(h:R (.ok (.ret (Δ C))) s) :
  ark ahK A (.call aGY (aiQ [ap4,Δ e,tp])) R s:=by
 obtain⟨hh,g,dr,t,os⟩:=s;rw[aos L0 (LT ahK) L1 (looks_mroIn (M:=ahK) KX X.mo) (codeAny_call_builtin KF.slot_gs.plain KF.entry_gs (KF.slot_gs.check _ _ _ _ _ _ _ _ KF.type_class (KF.args_gs _ _ _) ?_))];unfold Builtin.«getset_descriptor.__get__» descrGet;rw[anI dga_obj (adi apz)];unfold descrGetter descrCheckInstance descrNameAndClass isInstance;simp only[KF.owner_class]
 repeat lk
 rw[ac4 (Code.quiet_builtin _ ac1) (codeAny_builtin KF.entry_class ?_)];unfold Builtin.«object.__class__» shownTypeOf
 repeat lk
 exact h
def L4(a b:Value):argsOk "BaseException.__getattribute__" (aiQ [a,b]):=by
 unfold argsOk
 kernel_rfl
def L5 aQZ aR8{b:Value}aPO(h:Q () s) :
  ao9 (checkBuiltinCall "BaseException.__getattribute__" (aiQ [Δ e,b])):=by
 obtain⟨hh,g,dr,t,os⟩:=s;rw[aaa L0 (LT ahK) L1 (looks_mroIn (M:=ahK) KX X.mb)];have LI:Looks ahK hh (isInstance (Δ e) aB2) true:=L0.andThen L1;simp only[checkBuiltinCall,Ap,Ga];refine adi (LI.at ?_);rw[aFc Bool.not_true];have ha:=L4 (Δ e) b;cases ad2:Manifest.signature? "BaseException.__getattribute__" with
 | none=>exact aAP
 | some sig =>
  simp only[argsOk,ad2] at ha;have h2:Bind.checkArgs "BaseException.__getattribute__" sig (aiQ [Δ e,b])=pure ():=ha;rw[as8 (ahS _ _ (Bind.checkArgs "BaseException.__getattribute__" sig (aiQ [Δ e,b])) Q E _) h2 aAP]
def L6 aQZ aR8{Q:amZ->am0}(h:Q aC5 { s with toks:=s.toks+1 }) :
  ao9 (getAttr? (Δ e) "__class__"):=by
 obtain⟨hh,g,dr,t,os⟩:=s;rw[aaa L0 (LT ahK) L1 (aJK M ahK X.ga)];rw[aaa L2 (aJK M ahK X.gt) L3 (Cg (e:=e) X (M:=ahK) KX)];unfold getAttr? getAttrBy? getAttrBy;refine adi (wpAny_mkText (adi (wpAny_attempt (wpAny_holding (adi (L0.at (adi (L1.at ?_))))))))
 dsimp only
 rw[al1 (by
  have:ai8 (Value.builtin "BaseException.__getattribute__") (Value.builtin "object.__getattribute__"):=d6
  rw[aeh this Bool.and_false Bool.false_ne_true])]
 unfold getAttrByItsOwn hookBefore
 rw[ahn aJ7 (af5 (show b8 (onTheHeap (Δ C)) from rfl))]
 rw[adY (L2.at ?_) (adi (wpAny_attempt aMy))];unfold callGetattribute boundAndCalled;rw[aKO,Ik];refine adi apz
 dsimp only;refine aFh (codeAny_call_builtin F9 F8 (L5 (s:=⟨hh,g,dr,t+1,os⟩) X KX LT ?_));rw[aoa Builtin.«object.__getattribute__» (wpAny_bind (m:=slotArgs "__getattribute__" 1 _) apz)];dsimp only;rw[adY (wpAny_bind (m:=attrName _) apz) (adi (L0.at ?_))];refine adi (L3.at ?_)
 dsimp only;show ahS _ _ (aou [Value.builtin "object.__class__"] (call aGY [ap4,Δ e,Δ C]) >>= ret) _ _ _
 rw[adY (aEp (aFh (Il (s:=⟨hh,g,dr,t+1,os⟩) X KX LT ?_))) apz];show ahS _ _ (handedOut (Δ C)) _ _ _
 exact aq9 aAP
def O8 aQZ:KitX K (Δ e) (Δ C) (λ h=>∃ob vs,aFe e ob/\aDI/\aDg) where
 ty:=λ _ _ _ (ajP ob h1 h2 _)=>h2 ▸ (aIG (Looks.ld h1)) .now
 it:=λ _ _ KX _=>by
  have hc:=X.ci
  unfold clsIn at hc;split at hc
  ·rename_i c' d' cd' NK ho;intro A' Q' E' s' k q;unfold isType loadHead;exact adi (wpAny_loadPart (k _ _ (KX _ _ ho)) (wpAny_pure q))
  ·cases hc
 ne:=λ h tp dd bN n sl KX htp=>by
  rw[DB hc X.ci (Bool.eq_false_iff.mpr (f6 q))];rw[aip e (C=tp) (Value.ref.inj (beq_iff_eq.mp q)) e];unfold clsIn at hc;split at hc
  ·rename_i c' d' cd' NK ho;have z:=(aGm (KX _ _ ho)) htp;cases z
  ·cases hc
 ca:=λ KX (ajP ob h1 h2 _) k=>L6 X KX (λ _=>h2 ▸ (aIG (Looks.ld h1)) .now) k
universe zE
universe L2
universe zE
section
namespace L2
open PySem PySem.Spec PyProof.Rows
section
variable {X:Cx} {Ex:St->XK} {a:Expr} {da:DE} {pos:Pos}
abbrev uG(uy:aj8)aNH:DE:=ag0 (abO).bind (match x with
 | ο n=>match M1[n]? with
  | aa2 YX C=>match aFn with
   | aeK=>.ok (.bl k) M1
   | none=>c6
  | _=>c6
 | _=>c6)
def Xw aPK{p C:Addr}aNa(h:H p=c8 (FP p C)):∃ob vs,akH p ob/\aDI/\aDg :=
 (show(∃ob vs,akH p ob/\aDI/\aDg)/\_ from I.cR p _ h).1
structure Gd aNc(T:Value)(uy:aj8):Prop where
 all:∀C k,aFn=aeK->Gb K C/\PySem.W.kitOne K (Δ C) T=aeK
def ye{T:V}aNg{p q:Pos}aN1{uy:aj8}(ht:RelV T u)(hT:Gd X.K u uy)(hu:∀u',RelV T u'->u'=u)(h2:avP (aad x q) T)aPp(Xr:aJP)(Xu:aJV X)
  (he:ajn [a,aad x q]=aqx::ajn [aad x q])(p7:aiF (ajy [aad x q]).any) :
  adk (aet (aad "isinstance" p) [a,aad x q] [] pos) (uG uy da):=⟨by
 rw[d9 A1 (PA X [a,aad x q] (CN (ayM da) (CN (tC T) Od))) (o7 ha.out (o7 h2 uB) he) hc (arF "isinstance" (λ vs H Q=>∃e C k,vs=[Δ e,T]/\H e=c8 (FP e C)/\aFn=aeK/\Q (.bl k) H)) (by
  intro pins s σ H xs us Q I r h;obtain⟨e,C,k,rfl,eH,ek,q⟩:=h;rw[abY u1 w' r1 r2 (vals2 r)];cases r1;rw[hu _ r2];rw[adP h1 h2 (hT.all C k ek) (PySem.W.kia_one (O8 h1) I.Fy (Xw I eH) h2 (λ z=>nomatch z) λ tk=>aa9 (.bl k) H afl q)])]
 rw[amR (zW hc Xu Xr ac1 A1 d6 d6 he p7) (λ ι1 S1 M1 H1 y v e1 s1 r1 w1=>?_)];cases y with
 | obj n =>
  rw[adw p ei (bj.eZ.mp r1)];obtain⟨o,eM,q⟩:=s1.addr ei;simp only[eM] at w1;cases o with
  | exc C =>
   dsimp only at w1;split at w1
   ·rename_i k hk;exact⟨p,C,k,rfl,q.2,hk,ajI (bj.fu.mpr rfl)⟩
   ·rw[agW]
  | _=>rw[agW]
 | _=>rw[agW]⟩
def Ee aNg{D:Addr}{p q:Pos}(uy:aj8)(hT:Gd X.K (Δ D) uy)aPp(Xr:aJP)(Xs:ayU=aib D)aTG aON
  aS6 :
  adk (aet (aad "isinstance" p) [a,aad x q] [] pos) (uG uy da) :=
 ye (T:=Δ D) rfl hT (abg h h) (JF Z8 Xs rfl hd) ha Xr Xu he p7
def Ta aNg{T:String}{p q:Pos}(uy:aj8)(hT:Gd X.K (acr T) uy)aPp(Xr:aJP)(Xs:awL)(hv2:aqY=aa2 acr T)aTG
  aSp
  aS6 :
  adk (aet (aad "isinstance" p) [a,aad x q] [] pos) (uG uy da) :=
 ye (T:=.ty T) rfl hT (abg h h) (RW Z8 Xs hv2 (v:=.ty T) rfl hn hd) ha Xr Xu he p7
structure ahe aNc(Ds:c9)(uy:aj8):Prop where
 all:∀C k,aFn=aeK->Gb K C/\PySem.W.kitAny K (Δ C) (Ds.map Value.ref)=aeK
universe zE
universe L2
universe zE
section
namespace L2
open PySem PySem.Spec PyProof.Rows
section
variable {X:Cx} {Ex:St->XK}
def Aq:bootBuiltins "ValueError" = aa2 acr "ValueError":=ac1
abbrev Ge(cs:c9)(iy iN:Nat)(s1:DS):DS:=λ ρ M=>match azX with
 | YX c ρ' M'=>aoF (b8 (cs.contains c)) .nx ((ρ'.set iy (agA M'.length)).set iN none) (M'++[YX c])
 | o=>o
def Slots.unset aNw aQQ(s:ao7)aNr:Slots K ι S (ρ.set i none) (σ.set i none):=by
 rw[ac4 (d7 s.1) (NV j x h)];rw[ah3 i j]
 ·rw[akS e List.getElem?_set_self' h];cases q:ρ[i]? with
  | none=>rw[q] at h; cases h
  | some z=>rw[q] at h; cases h
 ·rw[als aAD h (s.2 j x h)]
structure Catch aQX aNM(Cb:Addr)(cs:c9):Prop where
 name:mg x=aib Cb
 all:∀c∈cs,PySem.W.exmOne K (Δ c) (Δ Cb)=aly
def Xx{x n y:Str}{Cb:Addr}{cs:c9}(iy iN:Nat)aTF{s1:DS}(G:aun)(hC:Catch X.K X.mg x Cb cs)
  (hb:∀(pn:x8)(Et:abP)aPW,Good0 aIi Ex->Hz aIi Ex body s1)
  (B3:aHt:=by rfl)(SI:aJZ:=by rfl)(hx:ajS:=by rfl)(hy:acn X.N iy y:=by rfl)(ly:avC y := by rfl)(hn:acn X.N iN n:=by rfl)(ln:avC n := by rfl)
  aTt :
  aqM (.Try body [aJ3 (ab1 aad x np) aCn [anv [aad y py] (aad n YO) apos] SK] [] [] pos) (Ge cs iy iN s1):=⟨by
 refine PS.imp (Xa (P:=X.prog) (w:=X.w) (tb:=λ Ex=>tS X.K Ex s1) rfl rfl B3 SI G.calm G.nd hx hC.name hy ly hn ln (λ pn Et Ex' hp=>(hb pn Et Ex' ⟨G.hu,G.calm,hp,G.nd⟩).out) OK ZR hdn) (acE D σ H h);obtain⟨ι,S,M,ρ,aV,sl,w⟩:=h;refine⟨ι,S,M,ρ,aV,sl,?_⟩;rw[agI Ge];cases e:azX with
 | exc c ρ' M' =>
  rw[alm e w w];split at w
  ·rw[arv];intro ι1 S1 H1 σ1 e1 s1' sl1;refine ajC c (hC.all c (aaF hc)) (ab7 a ha);obtain⟨s2,x2⟩:=s1'.new (u:=FP a c) (o:=YX c) ha ⟨s1'.uF ha,bG⟩;refine w _ _ _ _ (e1.trans x2) s2 (Slots.unset (Slots.set (sl1.mono x2) (avc a (by rw[← s1'.len];simp)) iy) iN)
  ·rw[abZ]
 | nx ρ' M'=>rw[g9 e w w]
 | rt y M'=>rw[g9 e w w]
 | bk ρ' M'=>rw[g9 e w w]
 | ct ρ' M'=>rw[g9 e w w]
 | bad=>rw[g9 e w w]⟩
universe zE
universe L2
universe zE
section
namespace L2
open PySem PySem.Spec PyProof.Rows
abbrev less(S:Hp)aN2:Hp:=arH b b a none (S b)
def o9{S:Hp}{a b:Addr}(h:b≠a):less S a b=S b:=aov
def Dd{S:Hp}aNx:YW (less S a a):=aeO
def O9{S:Hp}{a b:Addr}{u:HO}(h:less S a b=abF):S b=abF:=by
 rw[ajd less];split at h
 ·cases h
 ·exact h
section
variable {K:Fg} {ι:c9} {S:Hp} {a:Addr} {ob:Obj} {bY:agP}
def pO.less aOi aOr aQp(q:pO K S p vs):pO K (less S a) p vs:=by
 rcases q with(q | ⟨o,q⟩) | q
 ·rw[ajE dQ (p≠a) (acz (by rw[z,ha] at q; cases q)) (b4 (b4 (by rw[Ω (o9 dQ) q])))]
 ·rw[ajE dQ (p≠a) (acz (by rw[z,ha] at q; cases q)) (b4 (ald o (by rw[Ω (o9 dQ) q])))]
 ·exact b9 q
mutual
theorem bj.less aQp:∀aQ7,aed->bj K ι (less S a) x v
 | .bh,v,h=>anU
 | .bl b,v,h=>anU
 | η i,v,h=>anU
 | b5 x,v,h=>anU
 | ς xs,v,h=>by
  rw[bj] at h ⊢
  rw[anq p e q r h]
  have dQ:p≠a:=λ z=>by rw[z,ha] at q; cases q
  exact ajP p e (by rw[Ω (o9 dQ) q]) (bg.less ha xs vs r)
 | f9 xs,v,h=>by
  rw[bj] at h ⊢
  rw[anq p e q r h]
  have dQ:p≠a:=λ z=>by rw[z,ha] at q; cases q
  exact ajP p e (by rw[Ω (o9 dQ) q]) (bg.less ha xs vs r)
 | ο n,v,h=>by
  rw[als bj h h]
 | .m5 ns,v,h=>by
  rw[bj] at h ⊢;rw[agl p e q h p e (q.less ha)]
theorem bg.less aQp:∀aOk aOX,aee->bg K ι (less S a) xs vs
 | [],vs,h=>asz bg h
 | x::xs,vs,h=>by
  rw[bg] at h ⊢;rw[aen v r e h1 h2 h ⟨v,r,e,bj.less ha x v h1,bg.less ha xs r h2⟩]
end
def dI.less aOd{kvs:aki}{kvv:afO}aQp(h:dI K ι S kvs kvv):dI K ι (less S a) kvs kvv:=by
 induction h with
 | nil=>rw[akp]
 | cons r t ih=>exact aaT (awC r (bj.less ha _ _ r.2)) ih
def qG.Ch aNu{b:Addr}aOh aQp(hb:b≠a)(h:qG K ι S H b o):qG K ι (aF8 a) (aiP a .dK bY) b o:=by
 rw[alC hn (YW (S b)->YW (L2.less S a b)) z (by rw[Ω (o9 hb) z]) hu (upd H a (.dK bY) b=H b) ao3];cases o with
 | gone=>rw[afk u q h u avy]
 | lst xs=>rw[afr z vs q r h ⟨hn z,vs,avy,bg.less ha _ _ r⟩]
 | bP xs=>rw[afr z vs q r h ⟨hn z,vs,avy,aF9⟩]
 | LG xs=>rw[afr z vs q r h ⟨hn z,vs,avy,aF9⟩]
 | km xs=>rw[aen ob' vs z q r h (ajP ob' (by rw[Ω (o9 hb) z]) avy aF9)]
 | ins C fs=>rw[aen z dx vs q r h ⟨hn z,dx,vs,avy,aF9⟩]
 | exc C=>rw[afk z q h (hn z) avy]
def cw.Ch aNb aNu aOQ aOs(hi:alb)(hM:ai2 .km) :
  ∃ob bY,S a=agz/\H a=agz/\cw K ι (aF8 a) (aqA .bP) (aiP a .dK bY):=by
 obtain⟨ob,bY,hS,hH,r⟩:=s.ob n a _ hi hM
 refine⟨ob,bY,hS,hH,aiw u,aBo,s.nd,adW m b o h1 h2⟩
 ·have hb:b≠a:=acz (by rw[z,Dd] at q; cases q)
  rw[Ω (aQ hb) (s.sub b u (O9 q))]
 ·by_cases hm:n=m
  ·rw[akS hm hi h1];cases h1;have hl:aoC n:=aIV.1;rw[apq hl h2];cases h2;exact⟨Dd,bY,bG,r.less hS⟩
  ·rw[aqR hm h2];have dQ:b≠a:=λ z=>hm (s.inj hi (z ▸ h1));exact(atO m b o).Ch hS dQ
def Slots.less aQQ aQp(s:ao7):Slots K ι (aF8 a) ρ σ:=awC s (λ i x h=>by
 rw[agl v h1 h2 (s.2 i x h) v h1 (bj.less ha _ _ h2)])
def Ext.Ch{ι0:c9}{S0 H0 H:Hp}aM9(e:Ext ι0 S0 H0 ι S H)(hi:acn ι0 n a)(h0:YW (S0 a)):Ext ι0 S0 H0 ι (aF8 a) (aiP a .dK bY):=by
 rw[ab8 ⟨e.ix,aiw u⟩ e.pre (adW b u q1 q2 q3)]
 ·rw[Ω (o9 (bW q h0)) (e.sm b u q)]
 ·rw[alv k1 k2 k3 (e.fr b u q1 q2 q3) hb (b≠a) (acz (q2 (aqQ z hi)))];rw[Lb (by rw[Ω (aQ hb) k1]) k2 (by rw[Ω (o9 hb) k3])]
def cw.Ar aNb aNu aOQ aOs(hi:alb)(hM:ai2 .bP)(ob:Obj) :
  ∃bY,aqy/\H a=awh .dK/\akx/\cw K ι (az2 S .ko (.dK bY)) (aqA .km) (upd H a (.ko ob (.dK bY)))/\Ext ι S H ι (az2 S .ko (.dK bY)) (upd H a (.ko ob (.dK bY))):=by
 obtain⟨hS,bY,hH,r⟩:=s.ob n a _ hi hM
 rw[asZ sm (lN S (az2 S .ko (.dK bY))) (agi u q (by rw[ab9 (bW q hS) q])) up (Up ι S ι (az2 S .ko (.dK bY))) ⟨λ _ _ h=>h,sm⟩ ⟨bY,hS,hH,r,⟨aiw u,aBo,s.nd,adW m b o h1 h2⟩,up,List.take_length,adW b u q1 q2 q3⟩]
 ·rw[akY (b=a)]
  ·subst hb;rw[als bG q q]
  ·rw[als ao3 q (s.sub b u q)]
 ·by_cases hm:n=m
  ·rw[akS hm hi h1];cases h1;have hl:aoC n:=aIV.1;rw[apq hl h2];cases h2;exact⟨ob,bY,bG,bG,r.up up⟩
  ·rw[aqR hm h2];have dQ:b≠a:=λ z=>hm (s.inj hi (z ▸ h1));exact(atO m b o).up up (acz (by rw[anF z])) (aQ dQ)
 ·have dQ:b≠a:=acz (q2 (aqQ z hi));rw[Lb (by rw[anF q1]) q2 (by rw[anF q3])]
universe zE
section
variable {X:Cx} {pins:x8} {σ:St} {H:Hp} {s:Shared} {a:Addr} {ob:Obj} {u:HO}
def Inv.Ch aNa(h:H a=ab1 .ko ob u)(hm:∀o v,X.H₀ a≠ab1 .ko o v):aeC (at8 a) s:=by
 rw[ahq dQ (∀b,agr->b≠a) (agi q z (by rw[z,h] at q; cases q)) ⟨I.ok,I.os,I.bare,⟨I.base.keep,I.base.slot,adW b o q n hx,I.base.there,aiw xs,alQ v q,aiw ps⟩,I.loc,I.cell,?_,NV x c q,asd,aiw o,I.len⟩]
 ·have:=I.base.free b o q n hx;rw[ab9 (dQ b this) this]
 ·have:=aEY b q
  have hb:b≠a:=acz (by rw[z,h] at this; cases this)
  rw[Ω (aQ hb) this]
 ·have hb:b≠a:=acz (by rw[g9 z q (hm o v q)])
  rw[Ω (aQ hb) (aA7 b v q)]
 ·rw[anc m e (I.base.o4 b ps q) hb (b≠a) (acz (by rw[z,h] at e; cases e))]
  rw[aab m (by rw[Ω (aQ hb) e])]
 ·rw[ab9 (dQ _ I.free) I.free]
 ·rw[ab9 (dQ _ (I.m3 x c q)) (I.m3 x c q)]
 ·rw[agl e n r azg e (by rw[ab9 (dQ _ n) n]) r]
 ·rw[d9 ho (∀c x,H c=auB->upd H a u c=auB) (λ c x z=>by rw[ab9 (λ y=>by rw[y,h] at z; cases z) z]) ht (∀c xs,H c=ak7->upd H a u c=ak7) (λ c xs z=>by rw[ab9 (λ y=>by rw[y,h] at z; cases z) z])]
  rw[akY (b=a)]
  ·rw[azS];cases q;exact(show apL ob/\iu X.prog X.w H s.heap b u from I.cR b _ h).2.vf (λ _ _ _ z=>z) (λ c z=>ho c _ z) ht
  ·rw[ao3] at q;exact(awd o q).vf (λ _ _ _ z=>z) (λ c z=>ho c _ z) ht
def Inv.Ar{o:Obj}aNa(h:H a=abF)(ho:akH a o)(h1:∀xs,u≠f9 xs)(h2:∀x,u≠.own x)(h3:∀ps,u≠.uy ps)(h4:∀o' v,u≠.ko o' v):aeC (upd H a (.ko o u)) s:=by
 rw[asZ dQ (∀b,agr->b≠a) (agi q z (by rw[z,h] at q; cases q)) ne2 (∀{b v},H b=aeJ->v≠u->b≠a) (λ{b v} q n z=>by rw[z,h] at q; cases q; exact n rfl) ⟨I.ok,I.os,I.bare,⟨I.base.keep,I.base.slot,adW b o q n hx,I.base.there,aiw xs,alQ v q,aiw ps⟩,I.loc,I.cell,?_,NV x c q,asd,aiw o',I.len⟩]
 ·have:=I.base.free b o q n hx;rw[ab9 (dQ b this) this]
 ·have:=aEY b q;rw[ab9 (ne2 this (acz (h1 xs z.symm))) this]
 ·have:=aA7 b v q;rw[ab9 (ne2 this (acz (h4 o v z.symm))) this]
 ·rw[afk m e (I.base.o4 b ps q) m (by rw[ab9 (ne2 e (acz (h3 _ z.symm))) e])]
 ·rw[ab9 (dQ _ I.free) I.free]
 ·rw[ab9 (dQ _ (I.m3 x c q)) (I.m3 x c q)]
 ·rw[agl e n r azg e (by rw[ab9 (dQ _ n) n]) r]
 ·rw[d9 JD (∀c x,H c=auB->upd H a (.ko o u) c=auB) (λ c x z=>by rw[ab9 (ne2 z (λ y=>h2 x y.symm)) z]) ht (∀c xs,H c=ak7->upd H a (.ko o u) c=ak7) (λ c xs z=>by rw[ab9 (ne2 z (λ y=>h1 xs y.symm)) z])]
  rw[akY (b=a)]
  ·rw[azS];cases q;rw[aab ho ((I.cR b _ h).vf (λ _ _ _ z=>z) (λ c z=>JD c _ z) ht)]
  ·rw[ao3] at q;exact(awd o' q).vf (λ _ _ _ z=>z) (λ c z=>JD c _ z) ht
universe zE
universe L2
universe zE
end
mutual
section
namespace L2
open PySem PySem.Spec PyProof.Rows
abbrev Itk aN2(ob:Obj):It :=
 ⟨aei H (∃bY k v,H a=agz/\atH (k,v)),λ i H x H'=>H'=H/\∀bY k v,H a=agz->atH (k,v)->x=akD,aei H (∃bY,H a=agz/\bY.length≤i)⟩
def KV.get{bY:agP}{vs:axX}(h:KV bY vs)aNt aOW aNI(e:atH (k,v)):∃u,ahf vs (k,u)/\ahY:=by
 induction h generalizing i with
 | nil=>simp at e
 | cons r t ih =>
  rename_i p q xs ys;cases i with
  | zero =>
   simp only[zA,Option.some.injEq] at e;subst e;obtain⟨q1,q2⟩:=q;rw[afF rfl r2 r (afT q2 r2)]
  | succ i =>
   simp only[zB] at e ⊢;exact ih e
def KV.len{bY:agP}{vs:axX}(h:KV bY vs):bY.length=vs.length:=aMF
def wZ aOl aNu aOe aNx{ob:Obj}{bY:agP}aQN aPn(e:H a=agz)aRi :
  ar3/\∃vs,KV bY vs/\h.DictAt (cH P w) a vs ep/\aFQ:=by
 obtain⟨h1,_,hs,vs,kv,o,es',ep',ho,hx,hd,hr⟩:=(show t6 ajv ob/\iu P w H h a (.dK bY) from ok a _ e)
 rw[h1] at ho;cases ho;rw[Pa] at hd;cases hd;refine ajP hs kv ⟨ob,es,h1,hx,Pa,hr⟩ ?_;have:=ahb hr.2.1
 simpa using this.symm
def L7 aOP aQJ{ob:Obj}aQN aRi:aAn (Itk a ob) (aqE (h.IsKeyIter it a i es.size ep)) where
 mem:=Ξ
 obj:=λ i h st b hb=>by
  rw[aip e (b=it) ahm e]
  rw[afr o e c d st ⟨o,e,λ v z=>by rw[d] at z; cases z⟩]
 keep:=λ i h h' st k=>by
  rw[agl o e r st o (at3 o e) r]
 item:=by
  intro X hP hw hK hc i pins s σ H E I hf st hg;subst hP hw hK
  obtain⟨bY,k,v,eH,hx⟩:=hg
  rw[anq hs kv da hl (wZ I.cR eH Pa)];obtain⟨u,hu,ru⟩:=kv.get hx
  obtain⟨f0,f1,f2,f3,f4,f5⟩:=hf it Ξ;rw[← hl] at st
  rw[ahV (wpAny_pyNext_dict_item st da hu (adW key h' hk zj sb)) I1 (aeC H (akg s)) (I.turned (t':=s.toks) (λ b o hb e=>x9 (sb.2 b hb) e) f0 f1 f3 f4 f5)];obtain⟨o,e,c,d⟩:=id zj
  rw[ak1 rk (RelV akD key) (by
   rcases eN (show ayo k key from hk) with⟨i,t,rfl,rfl⟩ | ⟨x,t,rfl,rfl⟩<;>exact awG) hl zj]
  exact afT key (CM (s:=akg s) e c d d6 ⟨akD,H,I1,rk,ah9 (λ Pb k' v' e1 e2=>by rw[eH] at e1; cases e1; rw[hx] at e2; cases e2; rfl),zj,azp⟩)
 done:=by
  intro X hP hw hK hc i pins s σ H E I hf st hg;subst hP hw hK;obtain⟨bY,eH,hx⟩:=hg;rw[anq hs kv da hl (wZ I.cR eH Pa)];obtain⟨f0,f1,f2,f3,f4,f5⟩:=hf it Ξ;rw[← hl] at st;exact wpAny_pyNext_dict_end (I.ok.hd hc) st da (aob (by rw[abQ kv.len hx])) aAe
 self:=λ _ _ _ _ _ st h=>wpAny_pyIter_keyiter st h
section
variable {X:Cx} {Ex:St->XK} {tg l iter e:Expr} {tl:TE} {d:DE} {st:Stmt} {s:DS} {di:DI}
abbrev Xy(tl:TE):TI:=λ σ H R=>tl σ H (acF x (∃a bY,x=Δ a/\H1 a=awh .dK/\∀ob,R (Itk a ob) (az2 H1 .ko (.dK bY))))
def Tb(hl:adz l tl):PI X tg l (Xy tl):=by
 rw[ai0 R (aoL (hl pins s σ H _ I h) v x)];rw[amB a bY eH q1];cases r1;obtain⟨hz,hs,vs,kv,o,es,ep,ho,hx,hd,hr⟩:=vp I1.cR eH;rw[ab4 da (s1.heap.DictAt ajz a vs ep) ⟨o,es,ho,hx,hd,hr⟩ (wpAny_pyIter_dict hs da ?_)];rw[d9 dQ (a≠s1.heap.objs.size) (aAL ho) I2 (ard H1 s1 (aAK (acr "dict_keyiterator") (agD #[Δ a,η 0 0,η vs.length 0,η ep 0]))) (I1.kept (t':=s1.toks) λ b o e=>afR e)];rw[aev I3 (I2.Ar (o:=o) eH aCr (λ _ z=>nomatch z) (λ _ z=>nomatch z) (λ _ z=>nomatch z) (λ _ _ z=>nomatch z)) hl aFQ (by have:=ahb hr.2.1;simpa using this.symm)]
 refine⟨s1.heap.objs.size,aEm,_,_,_,rfl,I3,L7 a _ hd,agY _ (aAq _) (by rw[ab2 hl]),aiu,q o⟩
 have e:b=s1.heap.objs.size:=ahm
 rw[adL e (I1.DH ack (by rw[ab9 axK atq]))]
abbrev w5:Key->PV
 | b4 i=>η i
 | b9 x=>b5 x
def As aNw(k:Key):aj0 (w5 k) akD:=by
 cases k with
 | inl i=>exact am3
 | inr x=>exact bj.tB.mpr rfl
abbrev Au aNH:DI:=ag0 (abO).bind (match alR with
 | anx=>.ok (aoj q (w5 q.1),arE .km) (M1.set n (.km kvs))
 | none=>c6)
def dI.get aNw aQ4{bY:agP}(h:akx)aNt aOW aNv(e:ahf kvs (k,x)):∃v,atH (k,v)/\aed:=by
 induction h generalizing i with
 | nil=>simp at e
 | cons r t ih =>
  rename_i p q xs ys;cases i with
  | zero =>
   simp only[zA,Option.some.injEq] at e;subst e;obtain⟨q1,q2⟩:=q;rw[afF rfl r2 r (afT q2 r2)]
  | succ i =>
   simp only[zB] at e ⊢;exact ih e
def Kk(h:aLh):VI X Ex tg iter (Au d):=⟨by
 refine PI.imp (Tb h.out) (acE σ H R hh);obtain⟨ι,S,M,ρ,aV,sl,w⟩:=hh;refine⟨ι,S,M,ρ,aV,sl,adG (gW X.K) w (λ ι1 S1 M1 H1 x v e1 s1 r1 w1=>?_)⟩;cases q1:alR with
 | none=>rw[awp]
 | some nk =>
  rw[aq3 n kvs nk q1 w1];obtain⟨a,bY,rfl,ei,eH,hS,rk,rfl⟩:=nw s1 r1 q1;refine ae7 a bY eH (f6 ob)
  have eM:M1[n]? = aa2 .bP kvs:=by
   rw[aJz uh q1 q1];split at q1
   ·rename_i z; cases q1; exact z
   ·cases q1
  obtain⟨Pb,hS',Ve,rk',s2,x2⟩:=s1.Ar ei eM ob;rw[eH] at Ve;cases Ve;rw[apI (w1 ι1 _ _ _ x2 s2 λ i ι' S' M' H' up pJ _=>?_) eS (S' a=agz) (up.sm a _ bG) FW (H' a=agz) (pJ.sub a _ eS)];rw[ac4 (ab7 y hy) (λ hl=>⟨bY,FW,by rw[← rk.length];simpa using hl⟩)]
  rw[zJ] at hy
  obtain⟨⟨k,z⟩,hk,rfl⟩:=Option.map_eq_some_iff.mp hy;obtain⟨v,hv,_⟩:=rk.get hk;rw[ac4 ⟨bY,k,v,FW,hv⟩ (NV u H2 yl)];rw[asX yl yl]
  rw[aeN (yl bY k v FW hv) ⟨ι',S',afs,pJ,As k⟩]⟩
universe zE
abbrev aac aNz(D:Ends):Ends where
 nx:=λ σ' H'=>∃a ob u,H' a=ab1 .ko ob u/\(∀o v,H a≠ab1 .ko o v)/\D.nx σ' (upd H' a u)
 rt:=λ v H'=>∃a ob u,H' a=ab1 .ko ob u/\(∀o v,H a≠ab1 .ko o v)/\D.rt v (upd H' a u)
def Pd aPK aNx aNa(h:∀o v,H a≠ab1 .ko o v):∀o v,X.H₀ a≠ab1 .ko o v:=λ o v z=>h o v (aA7 a v z)
def Tc aNF aO3{t:TS}(h:awB t):awB (an4 (t (aac H D) σ H)):=by
 intro pins s σ H D I q;refine wpAny_mono (h pins s σ H _ I q) (NV f s1 z) λ _ _ y=>y;cases f with
 | next =>
  obtain⟨σ',H',I',a,ob,u,e,nf,z⟩:=z;exact⟨σ',_,I'.Ch e (Pd I nf),z⟩
 | brk=>rw[aEj z z z.elim]
 | cont=>rw[aEj z z z.elim]
 | ret v =>
  obtain⟨v',σ',H',I',r,a,ob,u,e,nf,z⟩:=z;exact⟨v',σ',_,I'.Ch e (Pd I nf),r,z⟩
abbrev zOf(di:DI)aQt:apY (Nat×ae2):=match auC with
 | .ok r _=>match r.2 with
  | arE .km=>match M[n]? with
   | aa2 .bP _=>anx
   | _=>none
  | _=>none
 | _=>none
open Classical in
noncomputable def Gf aNd(kvs:ae2):Out->Out
 | .nx ρ M=>aoF (ai2 .km) .nx ρ (aqA .bP)
 | .rt x M=>aoF (ai2 .km) .rt x (aqA .bP)
 | _=>c6
abbrev rD(di:DI)(s:DS):DS:=λ ρ M=>match zOf di ρ M with
 | anx=>Gf n kvs (s ρ M)
 | none=>c6
def Td aQb aNT aOQ(h:zOf di ρ M=anx):∃ad4,M[n]? = aa2 .bP ad4:=by
 rw[ajd zOf];split at h
 ·split at h
  ·split at h
   ·rename_i q; cases h; rw[aeM q]
   ·cases h
  ·cases h
 ·cases h
def tH aNF aQs aO3{s:DS}aQb(h:VS X Ex st s):VS X Ex st (rD di s):=⟨by
 refine PS.imp (Tc h.out) (acE D σ H q);obtain⟨ι,S,M,ρ,aV,sl,w⟩:=q;refine⟨ι,S,M,ρ,aV,sl,?_⟩;rw[agI rD];cases ez:zOf di ρ M with
 | none=>rw[ak9 ez]
 | some nk =>
  obtain⟨n,kvs⟩:=nk
  rw[alm ez w w];obtain⟨ahg,e0⟩:=Td ez;obtain⟨a,hi,hS0,ahh,hH0,_⟩:=aV.at e0
  have nf:∀o v,H a≠ab1 .ko o v:=λ o v z=>by rw[hH0] at z; cases z
  cases es:s ρ M with
  | nx ρ' M' =>
   rw[es] at w
   rw[avt Gf];split at w
   ·rename_i hM;intro ι' S' H' σ' ex pJ NK;rw[aen ob bY eS eH s2 (pJ.Ch (ex.ix n a hi) hM) ⟨a,ob,_,eH,nf,w ι' _ _ σ' (ex.Ch hi hS0) s2 (NK.less eS)⟩]
   ·rw[abZ]
  | rt x M' =>
   rw[es] at w
   rw[avt Gf];split at w
   ·rename_i hM;intro ι' S' H' v ex pJ r';rw[aen ob bY eS eH s2 (pJ.Ch (ex.ix n a hi) hM) ⟨a,ob,_,eH,nf,w ι' _ _ v (ex.Ch hi hS0) s2 (bj.less eS _ _ r')⟩]
   ·rw[abZ]
  | bk ρ' M'=>rw[ak9 es]
  | ct ρ' M'=>rw[ak9 es]
  | exc c ρ' M'=>rw[ak9 es]
  | bad=>rw[ak9 es]⟩
universe L2
universe zE
section
namespace L2
open PySem PySem.Spec PyProof.Rows
def tZ:entryFor table "dict_itemiterator.__iter__" = some Builtin.«dict_keyiterator.__iter__» :=
 entryFor_alias (id' := "dict_keyiterator.__iter__") aEM rfl ac1 aEM
def rR aSu aOy{E:abP}aNJ{it d:Addr}{i n ep:Nat}{ok ov:Value}aNN(zm:IsItemIter s.heap it d i n ep ok ov)(h:Q (Δ it) s):ao9 (pyIter (Δ it)):=by
 have hT:s.TypeIs (Δ it) "dict_itemiterator" := alN zm;refine wpAny_pyIter_slot hT PySem.F.slot_dict_itemiterator_iter (wpAny_call_entry PySem.F.slot_dict_itemiterator_iter hT tZ ?_ (PySem.F.args_dict_itemiterator_iter_1 _));show aes _ _ (ret (Δ it)) _ _;rw[aA3 ⟨_,rfl,"dict_itemiterator",_,hT,PySem.F.slot_dict_itemiterator_next.lookup,h⟩]
abbrev Iti aN2(ob:Obj):It :=
 ⟨aei H (∃bY k v,H a=agz/\atH (k,v)),λ i H x H'=>∃p,akt/\x=Δ p/\∀bY k v,H a=agz->atH (k,v)->H'=ayD p [akD,v],aei H (∃bY,H a=agz/\bY.length≤i)⟩
abbrev Itv aN2(ob:Obj):It :=
 ⟨aei H (∃bY k v,H a=agz/\atH (k,v)),λ i H x H'=>H'=H/\∀bY k v,H a=agz->atH (k,v)->x=v,aei H (∃bY,H a=agz/\bY.length≤i)⟩
def Im aOP{elts:ab5}{x1}{B7:Pos}(a it:Addr){ob:Obj}aQN aRi :
  Turn P w K (arG elts x1 B7) (Iti a ob) [it] it (aqE (∃ok ov,IsItemIter h it a i es.size ep ok ov)) where
 mem:=Ξ
 obj:=λ i h ⟨ok,ov,st⟩ b hb=>by
  rw[aip e (b=it) ahm e]
  rw[Lb _ st (λ v z=>by cases z)]
 keep:=λ i h h' ⟨ok,ov,st⟩ k=>⟨ok,ov,at3 _ st⟩
 item:=by
  intro X hP hw hK hc i pins s σ H E I hf st hg;subst hP hw hK
  obtain⟨ok,ov,st⟩:=st;obtain⟨bY,k,v,eH,hx⟩:=hg
  rw[anq hs kv da hl (wZ I.cR eH Pa)];obtain⟨u,hu,ru⟩:=kv.get hx;rw[← hl] at st;rw[ab4 O4 (ava it) (Heap.lt_size st) (wpAny_pyNext_items_item st da hu λ key h1 hk he1 Xp NP k1=>anl (wpAny_letOwnedTupleGo_items he1 (NV h2 YT sb2)))];rw[agw Ii (aJU it h1) sb2 ht2 aLJ (aom ap7 (ahx #[key,u])) (x9 (Ii.2 _ aMH) Xp)]
  rw[d9 rk (RelV akD key) (by
   rcases eN (show ayo k key from hk) with⟨i,t,rfl,rfl⟩ | ⟨x,t,rfl,rfl⟩<;>exact awG) I1 (ard (upd H s.heap.objs.size (f9 [akD,v])) s h2) (by
   refine I.J9 (t':=s.toks) (fp:=[it]) hf (alQ hb q) aiu ?_
   ·have n1:b≠it:=λ z=>hb (d7 z);exact x9 (Ii.2 b n1) (k1 b o n1 q)
   ·rw[aip eb (b=it) ahm eb];rw[aeM YT]
   ·exact⟨by show afi 2;rw[sizeLine_eq];decide,[key,u],aaT rk (aaT ru abT),ae7 _ ht2 _ rfl⟩)]
  rw[adS hp (akM (Nat.le_refl s.heap.objs.size)) hl YT];refine⟨aii,_,I1,rfl,agY s.heap.objs.size hp (λ Pb k' v' e1 e2=>by rw[eH] at e1; cases e1; rw[hx] at e2; cases e2; rfl),⟨key,u,YT⟩,aiu⟩
  rw[aip eb (b=it) ahm eb];rw[aeN (aQ aMG) (hf b hb).1]
 done:=by
  intro X hP hw hK hc i pins s σ H E I hf st hg;subst hP hw hK;obtain⟨ok,ov,st⟩:=st;obtain⟨bY,eH,hx⟩:=hg;rw[anq hs kv da hl (wZ I.cR eH Pa)];rw[← hl] at st;exact wpAny_pyNext_items_end (I.ok.hd hc) st da (aob (by rw[abQ kv.len hx])) λ h' eb=>ah9 (I.Ka (t':=s.toks) (fp:=[it]) hf λ b o hb q=>eb b o (acz (hb (d7 z))) q)
 self:=λ _ _ _ _ _ ⟨ok,ov,st⟩ h=>rR st h
def L9 aOP aQJ{ob:Obj}aQN aRi:aAn (Itv a ob) (aqE (h.IsValIter it a i es.size ep)) where
 mem:=Ξ
 obj:=λ i h st b hb=>by
  rw[aip e (b=it) ahm e]
  rw[afr o e c d st ⟨o,e,λ v z=>by rw[d] at z; cases z⟩]
 keep:=λ i h h' st k=>by
  rw[agl o e r st o (at3 o e) r]
 item:=by
  intro X hP hw hK hc i pins s σ H E I hf st hg;subst hP hw hK;obtain⟨bY,k,v,eH,hx⟩:=hg;rw[anq hs kv da hl (wZ I.cR eH Pa)];obtain⟨u,hu,ru⟩:=kv.get hx;obtain⟨f0,f1,f2,f3,f4,f5⟩:=hf it Ξ;rw[← hl] at st;rw[ahV (wpAny_pyNext_values_item st da hu aIu) I1 (aeC H (akg s)) (I.turned (t':=s.toks) (λ b o hb e=>x9 (sb.2 b hb) e) f0 f1 f3 f4 f5)];obtain⟨o,e,c,d⟩:=id zj;rw[hl] at zj;exact afT u (CM (s:=akg s) e c d d6 ⟨v,H,I1,ru,ah9 (λ Pb k' v' e1 e2=>by rw[eH] at e1; cases e1; rw[hx] at e2; cases e2; rfl),zj,azp⟩)
 done:=by
  intro X hP hw hK hc i pins s σ H E I hf st hg;subst hP hw hK;obtain⟨bY,eH,hx⟩:=hg;rw[anq hs kv da hl (wZ I.cR eH Pa)];obtain⟨f0,f1,f2,f3,f4,f5⟩:=hf it Ξ;rw[← hl] at st;exact wpAny_pyNext_values_end (I.ok.hd hc) st da (aob (by rw[abQ kv.len hx])) aAe
 self:=λ _ _ _ _ _ st h=>wpAny_pyIter_valiter st h
section
variable {X:Cx} {Ex:St->XK} {tg o:Expr} {to:TE} {d:DE} {apos cW B7:Pos} {elts:ab5} {x1:Nat}
abbrev Kl(J:Addr->Obj->It)(tl:TE):TI:=λ σ H R=>tl σ H (acF x (∃a bY,x=Δ a/\H1 a=awh .dK/\∀ob,R (J a ob) (az2 H1 .ko (.dK bY))))
def Pe(ho:aCI)aTE:PI X (arG elts x1 B7) (aet (ao0 "items") [] [] cW) (Kl Iti to):=by
 intro pins s σ H R I h
 refine aI0 nZ (auJ v ⟨x,H1,I1,r1,a,bY,ex,eH,q⟩)
 subst ex;cases r1;obtain⟨hz,hs,vs,kv,o,es,ep,ho,hx,hd,hr⟩:=vp I1.cR eH;have dd:s1.heap.DictOf ajz a vs:=⟨o,es,ep,ho,hx,hd,hr⟩
 obtain⟨t1,t2,_⟩:=wH I1 (b4 ⟨bY,b4 eH⟩)
 refine⟨"dict","dict.items",PySem.F.plainAttrs_dict,PySem.F.slot_dict_items,PySem.F.type_dict_items,t1,t2,Calls.callWith_builtin rfl (PySem.evalArgs_none ?_)⟩;refine call_meetsIn PySem.F.slot_dict_items t1 PySem.F.entry_dict_items (PySem.F.args_dict_items_1 _) (meets_dict_items ajz a hs) (aik ⟨vs,dd⟩)
 rw[ab4 da ((aAK (acr "dict_items") (agD #[Δ a])).DictAt ajz a vs ep) ⟨o,es,aCr,hx,hd,hr⟩ (wpAny_pyIter_items (v:=s1.heap.objs.size) az7 da ?_)]
 generalize hh1:aAK (acr "dict_items") (agD #[Δ a])=h1
 rw[d9 hsz (h1.objs.size=aEx 1) (by rw[← hh1,Heap.size_push]) k1 (∀b u,aMZ=abF->aF1=abF) (agi u e (by rw[abQ hh1 (afR e)]))]
 rw[ajg I2 (ard H1 s1 (h1.push (alo (acr "dict_itemiterator") (agD #[aaY,ako aiW,Δ a,η 0 0,η vs.length 0,η ep 0,aaY,aaY])))) (I1.kept (t':=s1.toks) λ b o e=>afR (k1 b o e)) I3 (I2.Ar (o:=o) eH (afR (k1 a o ho)) (λ _ z=>nomatch z) (λ _ z=>nomatch z) (λ _ z=>nomatch z) (λ _ _ z=>nomatch z))]
 rw[asZ hl aFQ (by have:=ahb hr.2.1;simpa using this.symm) dQ (a≠h1.objs.size) (aiB (by rw[Ω hsz (Nat.lt_succ_of_lt (Heap.lt_size ho))])) ⟨h1.objs.size,[h1.objs.size],_,_,_,rfl,I3,Im a _ hd,⟨aaY,aaY,by rw[abQ hl azE]⟩,aiu,q o⟩]
 have e:b=h1.objs.size:=ahm
 rw[adL e (I1.DH (by rw[Ω hsz apA]) (by rw[ab9 axK (aAy (by rw[Ω hsz apA]))]))]
def Te(ho:aCI)aTA:PI X tg (aet (ao0 "values") [] [] cW) (Kl Itv to):=by
 intro pins s σ H R I h
 refine aI0 nZ (auJ v ⟨x,H1,I1,r1,a,bY,ex,eH,q⟩)
 subst ex;cases r1;obtain⟨hz,hs,vs,kv,o,es,ep,ho,hx,hd,hr⟩:=vp I1.cR eH;have dd:s1.heap.DictOf ajz a vs:=⟨o,es,ep,ho,hx,hd,hr⟩
 obtain⟨t1,t2,_⟩:=wH I1 (b4 ⟨bY,b4 eH⟩)
 refine⟨"dict","dict.values",PySem.F.plainAttrs_dict,PySem.F.slot_dict_values,PySem.F.type_dict_values,t1,t2,Calls.callWith_builtin rfl (PySem.evalArgs_none ?_)⟩;refine call_meetsIn PySem.F.slot_dict_values t1 PySem.F.entry_dict_values (PySem.F.args_dict_values_1 _) (meets_dict_values ajz a hs) (aik ⟨vs,dd⟩)
 rw[ab4 da ((aAK (acr "dict_values") (agD #[Δ a])).DictAt ajz a vs ep) ⟨o,es,aCr,hx,hd,hr⟩ (wpAny_pyIter_values (v:=s1.heap.objs.size) az7 da ?_)]
 generalize hh1:aAK (acr "dict_values") (agD #[Δ a])=h1
 rw[d9 hsz (h1.objs.size=aEx 1) (by rw[← hh1,Heap.size_push]) k1 (∀b u,aMZ=abF->aF1=abF) (agi u e (by rw[abQ hh1 (afR e)]))]
 rw[ajg I2 (ard H1 s1 (h1.push (alo (acr "dict_valueiterator") (agD #[Δ a,η 0 0,η vs.length 0,η ep 0])))) (I1.kept (t':=s1.toks) λ b o e=>afR (k1 b o e)) I3 (I2.Ar (o:=o) eH (afR (k1 a o ho)) (λ _ z=>nomatch z) (λ _ z=>nomatch z) (λ _ z=>nomatch z) (λ _ _ z=>nomatch z))]
 rw[asZ hl aFQ (by have:=ahb hr.2.1;simpa using this.symm) dQ (a≠h1.objs.size) (aiB (by rw[Ω hsz (Nat.lt_succ_of_lt (Heap.lt_size ho))])) ⟨h1.objs.size,[h1.objs.size],_,_,_,rfl,I3,L9 a _ hd,agY _ (aAq _) (by rw[ab2 hl]),aiu,q o⟩]
 have e:b=h1.objs.size:=ahm
 rw[adL e (I1.DH (by rw[Ω hsz apA]) (by rw[ab9 axK (aAy (by rw[Ω hsz apA]))]))]
abbrev qJ aNH:DI:=ag0 (abO).bind (match alR with
 | anx=>.ok (aoj q (f9 [w5 q.1,q.2]),arE .km) (M1.set n (.km kvs))
 | none=>c6)
abbrev Av aNH:DI:=ag0 (abO).bind (match alR with
 | anx=>.ok (aoj q q.2,arE .km) (M1.set n (.km kvs))
 | none=>c6)
def Km{n m:Nat}aNb aQ4(h:uh (ο m) M=anx):ai2 .bP:=by
 rw[ajd uh]
 rw[ane];split at h
 ·rename_i z; cases h; exact z
 ·cases h
def Aw(h:atj o)aTE:VI X Ex (arG elts x1 B7) (aet (ao0 "items") [] [] cW) (qJ d):=⟨by
 refine PI.imp (Pe h.out nY nZ) (acE σ H R hh);obtain⟨ι,S,M,ρ,aV,sl,w⟩:=hh;refine⟨ι,S,M,ρ,aV,sl,adG (gW X.K) w (λ ι1 S1 M1 H1 x v e1 s1 r1 w1=>?_)⟩;cases q1:alR with
 | none=>rw[awp]
 | some nk =>
  rw[aq3 n kvs nk q1 w1];obtain⟨a,bY,rfl,ei,eH,hS,rk,rfl⟩:=nw s1 r1 q1;refine ae7 a bY eH (f6 ob)
  obtain⟨Pb,hS',Ve,rk',s2,x2⟩:=s1.Ar ei (Km q1) ob;rw[eH] at Ve;cases Ve;rw[apI (w1 ι1 _ _ _ x2 s2 λ i ι' S' M' H' up pJ _=>?_) eS (S' a=agz) (up.sm a _ bG) FW (H' a=agz) (pJ.sub a _ eS)];rw[ac4 (ab7 y hy) (λ hl=>⟨bY,FW,by rw[← rk.length];simpa using hl⟩)]
  rw[zJ] at hy
  obtain⟨⟨k,z⟩,hk,rfl⟩:=Option.map_eq_some_iff.mp hy;rw[apx v hv rz ((rk.mono x2).get hk) ⟨bY,k,v,FW,hv⟩ (NV u H2 yl)];rw[axR p hp yl yl];rw[yl bY k v FW hv];rw[afF s3 x3 (pJ.tree (o:=f9 [akD,v]) hp) ⟨ι',_,x3,s3,bj.gy.mpr (ae7 p _ bG (aaT (As k) (.one ((bj.up up rz).mono x3))))⟩]⟩
def Tf(h:atj o)aTA:VI X Ex tg (aet (ao0 "values") [] [] cW) (Av d):=⟨by
 refine PI.imp (Te h.out nY nZ) (acE σ H R hh);obtain⟨ι,S,M,ρ,aV,sl,w⟩:=hh;refine⟨ι,S,M,ρ,aV,sl,adG (gW X.K) w (λ ι1 S1 M1 H1 x v e1 s1 r1 w1=>?_)⟩;cases q1:alR with
 | none=>rw[awp]
 | some nk =>
  rw[aq3 n kvs nk q1 w1];obtain⟨a,bY,rfl,ei,eH,hS,rk,rfl⟩:=nw s1 r1 q1;refine ae7 a bY eH (f6 ob)
  obtain⟨Pb,hS',Ve,rk',s2,x2⟩:=s1.Ar ei (Km q1) ob;rw[eH] at Ve;cases Ve;rw[apI (w1 ι1 _ _ _ x2 s2 λ i ι' S' M' H' up pJ _=>?_) eS (S' a=agz) (up.sm a _ bG) FW (H' a=agz) (pJ.sub a _ eS)];rw[ac4 (ab7 y hy) (λ hl=>⟨bY,FW,by rw[← rk.length];simpa using hl⟩)]
  rw[zJ] at hy
  obtain⟨⟨k,z⟩,hk,rfl⟩:=Option.map_eq_some_iff.mp hy;rw[apx v hv rz ((rk.mono x2).get hk) ⟨bY,k,v,FW,hv⟩ (NV u H2 yl)];rw[asX yl yl]
  rw[aeN (yl bY k v FW hv) ⟨ι',S',afs,pJ,bj.up up rz⟩]⟩
universe zE
universe L2
universe zE
end
mutual
section
namespace L2
open PySem PySem.Spec PyProof.Rows
section
variable {X:Cx} {Ex:St->XK}
def Ci aOz:gC X aj2 (auL a bY (xs=aCL a) (H a=awh .dK/\∀l,ahW l->Q (Δ l) (aud aDL))):=by
 intro pins s σ H xs us Q I r h;rw[amB a bY eH h]
 rw[anf u ru r];cases ru;obtain⟨hz,hs,vs,kv,dd⟩:=vp I.cR eH;obtain⟨ep,da⟩:=dd.dictAt;rw[DB hl kv.len (PySem.W.kdl_call (PySem.W.kdl_dict (knd:=ajz) (kvs:=vs) (ep:=ep) hs) (I.ok.hd hc) da (by rw[abQ hl hz]) λ h' tk acc c' kp e zm=>?_)]
 rw[asZ hv (∀(bY:agP)(vs:axX),KV bY vs->∀bN:x6,bN.length=vs.length->(∀aNr aQv,aqp bN->∃(k:Key) (x:Value),ahf vs (k,x)/\ayo k v)->avq aDL) (by
  intro bY vs kv
  induction kv with
  | nil=>intro bN hl _; cases bN with
   | nil=>rw[akp]
   | cons _ _=>cases hl
  | cons r t ih =>
   rename_i p q xs ys;intro bN hl hi;cases bN with
   | nil=>cases hl
   | cons z bN =>
    obtain⟨k,x,e1,e2⟩:=hi 0 z rfl;simp only[zA,Option.some.injEq] at e1;subst e1;obtain⟨r1,_⟩:=r;refine aaT ?_ (ih bN aCp λ i v h=>aaF (hi (i+1) v azC));dsimp only;rw[r1];rcases eN e2 with⟨i,t,rfl,rfl⟩ | ⟨x',t,rfl,rfl⟩<;>exact awG) aaf (Vals aDL acc.toList) (hv bY vs kv acc.toList (by rw[Ω Array.length_toList zm.1]) λ i v h=>zm.2 i v (by rw[abQ Array.getElem?_toList h])) (aa9 aii _ (I.laid (t':=tk) kp ack (show iu X.prog X.w _ h' _ (ς aDL) from⟨by rw[ak4 hz],acc.toList,c',aaf,by rw[Ω Array.toArray_toList e]⟩)) (q _ (akM ack)))]
abbrev m9 aNG:D1:=apb (match xs with
 | [x]=>match uh x M with
  | ahU _ kvs=>rT live (aoj q (w5 q.1)) M
  | none=>c6
 | _=>c6)
def Ma aNw:∀aQ4{bY:agP},akx->auV (aoj q (w5 q.1)) aDL:=by
 intro kvs bY h
 induction h with
 | nil=>rw[akp]
 | cons r t ih=>exact aaT (by dsimp only; rw[abQ r.1 (As _)]) ih
def oh aNG aOz:gC X aj2 (aqe (m9 live)):=(Ci hc).imp λ vs H Q h=>by
 obtain⟨E,ι,S,M,xs,aV,r,w⟩:=h;rw[agI m9]
 match xs,r,w with
 | [],r,w=>rw[abZ]
 | x::y::z,r,w=>rw[abZ]
 | [x],r,w =>
  rw[adw v r1 r.ju];dsimp only at w;cases q1:uh x M with
  | none=>rw[ak9 q1]
  | some nk =>
   rw[aq3 n kvs nk q1 w];obtain⟨a,bY,rfl,ei,eH,hS,rk,_⟩:=nw aV r1 q1;exact ae7 a bY eH (n0 aV (Ma rk) w).2
abbrev Ax:DM:=λ x as M=>match as with
 | [η i]=>Cc x M λ n xs=>match avi i with
  | some j=>match xs[j]? with
   | anD=>aoF (-(aae 9223372036854775808)≤i/\i<9223372036854775808) .ok y (ajR n (xs.eraseIdx j))
   | none=>c6
  | none=>c6
 | _=>c6
def Mb:DU X "list.pop" (arI Ax):=DU.imp (r:=Oy) Oz λ v vs H Q h=>by
 obtain⟨E,ι,S,M,x,xs,aV,r,rs,w⟩:=h;rw[agI Ax];split at w
 ·rename_i i;rw[adw u r1 rs.ju];cases asW;obtain⟨n,p,ys,us,rfl,hi,eM,eH,hS,rr,w⟩:=aDJ;split at w
  ·rename_i j hj;split at w
   ·rename_i y hy;split at w
    ·rename_i hb;obtain⟨z,hz,rz⟩:=rr.get hy;rw[adS hj' (DR hj).1 rr.length hj'];rw[apN ⟨p,us,i,j,z,rfl,rfl,eH,hb.1,hb.2,hj',hz,?_⟩ sp ep (tE aV hi hS (rr.eraseIdx j)) (w ι S _ _ ep sp rz)]
    ·rw[abZ]
   ·rw[abZ]
  ·rw[abZ]
 ·rw[abZ]
abbrev Gg:V->ajm:=λ x vs H Q=>∃l xs y,x=Δ l/\vs=[η 0,y]/\H l=afN/\xs.length<sizeLine/\Q .bh (aud (y::xs))
def Io:ZH X "list.insert" Gg:=by
 intro pins s σ H x vs v us Q I rx rv h;obtain⟨l,xs,y,rfl,rfl,hH,hz,q⟩:=h;cases rx;rw[abY u u2 ru ru2 (vals2 rv)];rw[aht ru];obtain⟨z,bN,n,r,hl,e⟩:=I.DY hH;rw[avR (call_meets PySem.F.slot_list_insert (ah7 _ e) PySem.F.entry_list_insert (PySem.F.args_list_insert_3 _ _ _) (AutoListH.list_insert_list_int_val_1 l bN.toArray n 0 t u2 d6 (by rw[aBk])) (aik e)) (aa9 .bh _ (I.Ov (its':=u2::bN) hH e Ξ (aaT ru2 r) ?_) q)];rw[ahX zE]
abbrev vH:DM:=λ x as M=>match as with
 | [η 0,y]=>Cc x M λ n xs=>aoF (xs.length<lim) .ok .bh (ajR n (y::xs))
 | _=>c6
def Ip:DU X "list.insert" (arI vH):=DU.imp (r:=Gg) Io λ v vs H Q h=>by
 obtain⟨E,ι,S,M,x,xs,aV,r,rs,w⟩:=h;rw[agI vH];split at w
 ·rw[abY u u2 r1 r2 rs.zo];cases asW;obtain⟨n,p,ys,us,rfl,hi,eM,eH,hS,rr,w⟩:=aDJ;split at w
  ·rw[ap0];rw[apN ⟨p,us,u2,rfl,rfl,eH,by rw[abQ rr.length (Af hl)],?_⟩ sp ep (tE aV hi hS (aaT r2 rr)) (w ι S _ _ ep sp (bj.ky.mpr rfl))]
  ·rw[abZ]
 ·rw[abZ]
universe zE
universe L2
universe zE
section
namespace L2
open PySem PySem.Spec PyProof.Rows
abbrev Itb aNc aN2 aNd:It :=
 ⟨aei H (i<n/\∃xs x,aqF/\acn xs (n-1-i) x),λ i H x H'=>H'=H/\∀xs,aqF->acn xs (n-1-i) x,aei _ (n≤i)⟩
def Pf aOP aQJ aNd:aAn (Itb K a n) (aqE (i≤n/\h.IsRevIter it a (afp-1-i))) where
 mem:=Ξ
 obj:=λ i h st b hb=>by
  rw[aip e (b=it) ahm e];obtain⟨_,o,e,c,d⟩:=st;rw[Lb o e (λ v z=>by rw[d] at z; cases z)]
 keep:=λ i h h' st k=>awC st (st.2.at λ o e=>at3 o e)
 item:=by
  intro X hP hw hK hc i pins s σ H E I hf st hg;subst hP hw hK;obtain⟨DZ,st⟩:=st;obtain⟨hi,xs,x,hq,hx⟩:=hg;rw[afj rv p hz (I.list hq)];obtain⟨u,hu,ru⟩:=rv.get hx
  obtain⟨f0,f1,f2,f3,f4,f5⟩:=hf it Ξ
  rw[ak1 e0 (afp-1-i=afh (n-1-i)) b6 e0 st];rw[ahV (wpAny_pyNext_rev_item st p.isList (x:=u) aHT aIu) I1 (aeC H (akg s)) (I.turned (t':=s.toks) (λ b o hb e=>x9 (sb.2 b hb) e) f0 f1 f3 f4 f5)];obtain⟨o,e,c,d⟩:=id zj
  rw[ak1 e2 (afh (n-1-i)-1=afp-1-afh (i+1)) b6 e2 zj]
  exact afT u (CM (s:=akg s) e c d d6 ⟨x,H,I1,ru,ah9 (alf ys (by rw[Ω (I.zR hy hq) hx])),⟨hi,zj⟩,azp⟩)
 done:=by
  intro X hP hw hK hc i pins s σ H E I hf st hg;subst hP hw hK;rw[anc DZ st st hg (n≤i) hg];obtain⟨f0,f1,f2,f3,f4,f5⟩:=hf it Ξ
  have e0:afp-1-i = -1:=b6
  rw[g9 e0 st (wpAny_pyNext_rev_end (I.ok.hd hc) st aAe)]
 self:=λ _ _ _ _ _ st h=>wpAny_pyIter_revIter st.2 h
section
variable {X:Cx} {Ex:St->XK} {a e tg:Expr} {d:DE} {pos p p2:Pos}
abbrev Pg aNH:DI:=ag0 (abO).bind (match x with
 | ς xs=>.ok (xs.reverse,none) M1
 | ο n=>match M1[n]? with
  | afN=>.ok (xs.reverse,aIj) M1
  | _=>c6
 | _=>c6)
def De aNw{q:Addr}aNh aTc:Walks K (Itb K q xs.length) xs.reverse w ι S:=by
 intro i ι' S' M' H' up aV hc;rw[apx vs hq rs (h ι' S' M' H' up aV hc) (ab7 x hx) (λ hl=>by show asH i; simpa using hl)]
 rw[ak1 hi aqw (aKf aLt.1) (List.getElem?_reverse hi) hx];rw[apx v hv r (rs.get hx) (ajP hi v hq hv) (NV u H2 y)]
 rw[asX y y]
 rw[aiL (y vs hq) hv];cases this;exact⟨ι',S',afs,aV,r⟩
def Xz(h:atj a)(hm:axw "reversed")(hg:Gl X "reversed" := by rfl)aRh:VI X Ex tg (aet (aad "reversed" p) [a] [] pos) (Pg d):=⟨by
 intro pins s σ H R I hw
 obtain⟨ι,S,M,ρ,aV,sl,w⟩:=hw;rw[ab4 A1 (PA X [a] (CN (ayM d) Od)) (o7 h.out uB (by rw[ab2 hs])) (au6 (uz I hg hm (u:=acr "reversed") (by first | rfl | decide) ?_ d6 d6))]
 refine aAu (amq (A1 pos pins s σ H (acF vs (∃q n,vs=[Δ q]/\(aw2 (pO X.K H1 q xs) (ax3 n))/\R (Itb X.K q n) H1)) I ?_) us ⟨vs,H1,I1,r1,q,n,ev,⟨xs,hq,hn⟩,k⟩) (by rw[ab2 hs]) rfl
 ·refine⟨ι,S,M,ρ,aV,sl,adG (gW X.K) w (λ ι1 S1 M1 H1 x v e1 s1 r1 w1=>?_)⟩;cases x with
  | lst xs =>
   rw[abY q vs eS rs (bj.ml.mp r1)];refine ae7 q xs.length ⟨vs,.of (s1.sub _ _ eS),rs.length.symm⟩ (ajI (De λ ι2 S2 M2 H2 up s2 _=>?_));rw[Lb vs (.of (s2.sub _ _ (up.sm _ _ eS))) (rs.up up)]
  | obj n =>
   rw[adw q ei (bj.eZ.mp r1)];obtain⟨o,eM,mo⟩:=s1.addr ei;simp only[eM] at w1;cases o with
   | lst xs =>
    obtain⟨_,vs,eH,rs⟩:=mo;refine ae7 q xs.length ⟨vs,.of eH,rs.length.symm⟩ (ajI (De λ ι2 S2 M2 H2 up s2 hc=>?_));obtain⟨_,Z1,FW,Vd⟩:=s2.ob n q _ (up.ix _ _ ei) hc;rw[Lb Z1 (.of FW) Vd]
   | _=>rw[agW]
  | _=>rw[agW]
 ·subst ev
  rw[anf u ru r1];cases ru;rw[afj rv pl hz (I1.list hq)];rw[DB hl rv.length (call_reversed_list pl.isList ?_)]
  have e0:afh bN.toArray.size-1=afp-1-aus:=by rw[aer]
  rw[e0];rw[ab4 hR ((s1.heap.push (revObj q (afp-1-aus))).IsRevIter s1.heap.objs.size q (afp-1-aus)) az7 (wpAny_pyIter_revIter (s:=ahB s1 (s1.heap.push (revObj q (afp-1-aus)))) hR ?_)]
  refine⟨s1.heap.objs.size,aEm,_,_,H1,rfl,I1.kept (t':=s1.toks) λ b o e=>afR e,Pf q _ n,⟨aog,hR⟩,aiu,k⟩
  have eb:b=s1.heap.objs.size:=ahm
  rw[adL eb (I1.DH ack atq)]⟩
abbrev tRv aNc aQa(ts:TO):TE:=ahL (te σ H (acF x (ts σ H1 (ahP k (k=azU/\∃a xs,x=Δ a/\pO K H2 a xs/\∀p,YW (H2 p)->Q (Δ p) (af3 H2 p (ς xs.reverse)))))))
def Ti{st:Expr}{te:TE}{ts:TO}aQx(hs:PO X (some st) ts):ar6 alw e (ayT none none (some st) p2) (tRv X.K te ts):=by
 intro pins s σ H Q I h
 rw[adY (Subscript_ (aoL (he pins s σ H _ I h) v x)) (wpAny_Slice ?_)];rw[evalPart_none]
 rw[adY apz (aq9 (agB (hs pins s1 σ H1 _ I1 q1) vk s2 ⟨k,H2,I2,pk,ek,q2⟩))];subst ek;rw[amB l xs hx q2];cases r1;have I4:ard H2 s2 (s2.heap.push (alo av5 (agD #[aaY,aaY,vk]))):=I2.kept (t':=s2.toks) aAb;rw[afj r ht hz (I4.list hx)];rw[aev hlen r.length hg (ads (getItem (Δ l) aB1) (EP X pins σ Q) (ahB s2 (s2.heap.push (alo av5 (agD #[aaY,aaY,vk]))))) (by
  rw[ahn (wpAny_getItem_list_slice ht.isList aLL aaY aaY pk Ξ ?_ aKM) PySem.W.krv_pick];refine aa9 (Δ _) _ (I4.laid (t':=s2.toks) (o:=ς xs.reverse) aAb ack ?_) (q _ (I4.cR.fresh ack));refine⟨by rw[Ω List.length_reverse hz],bN.reverse,0,Vals.reverse r,?_⟩;have:=Heap.get?_push_size (s2.heap.push (alo av5 (agD #[aaY,aaY,vk]))) (o:=aoH (ahx bN.toArray.toList.reverse.toArray)) rfl;rw[aqc])]
 show ads (subscriptTail e (ayT none none (some st) p2) (Δ l) aB1) (EP X pins σ Q) (ahB s2 (s2.heap.push (alo av5 (agD #[aaY,aaY,vk]))))
 exact tail_any (ops:=[Δ l,aB1]) ht.isList.typeIs slot_list_getitem.lookup hg aar
abbrev XA aNG aNO(k:acG)aNi:afm:=asS (k=azU) (match anW with
  | agm=>rT live xs.reverse M
  | none=>c6) c6
abbrev Kn aNG(da:DE)(dk:DO):DE:=aBv (da ρ M).bind (dk ρ M1).bind k (XA live x k M2)
def Tj aNG{st:Expr}{dk:DO}aQA(hk:VO X Ex (some st) dk):amF alw e (ayT none none (some st) p2) (Kn live d dk):=⟨by
 rw[amR (Ti he.out hk.out) (λ ι1 S1 M1 H1 x v e1 s1 r1 w1=>?_)]
 refine⟨ι1,S1,M1,ρ,s1,afH,adG RpO w1 (λ ι2 S2 M2 H2 l l' e2 s2 r2 w2=>?_)⟩;cases r2;unfold XA at w2;split at w2
 ·rename_i ek;cases h1:iw M2 x with
  | none=>rw[g9 h1 w2 w2.elim]
  | some xs =>
   rw[h1] at w2;rw[abY p vs eH rr (fU s2 (aoi e2) h1)];obtain⟨_,w3⟩:=n0 s2 rr.reverse w2;exact auK ek p vs (.of eH) w3
 ·exact w2.elim⟩
universe zE
universe L2
universe zE
section
noncomputable section
namespace Sb
open PySem L2
abbrev dF:D1:=acy 1 (bJ (aw (kX false) [(arS b7)]))
abbrev gY(dw:D1):D1:=acy 2 (bJ (dN false [none,none,akV] (iE b7) (gT 2 (dH (gN 0) (aqu 1))) (af4 (mG false) c7 (aw dw [f7])) b7))
abbrev iB(jJ:D1):D1:=aty 4 (jt (agk (ass jJ)) (gN 3) (bx (aW (aB (dX true) d8 f7)) (bJ d8) fe)) (dC .bh)
abbrev mq(dy:D1):D1:=acy 3 (bJ (aB (sk false) (aw dy [b7,f7,c7]) (dC .bh)))
abbrev jK(dw:D1):D1:=acy 2 (agf (agM akm aFp) (adC (dN false aoN (agk (awv dw)) (gN 0) (ajf b7 f7) b7)) (agf (ahc (dX false) (alp 1)) (adC (aaN [(alp 2),(alp 3)])) (adC (aaN [(alp 1)]))))
abbrev mr:D1:=acy 1 (bJ (agM akm aFa))
abbrev pb(jL:D1):D1:=aty 2 (bx (lx (fw (awv jL)) (af4 (mG false) (alp 3) (arS f7))) (adC (t8 "branch")) fe) (dC afW)
abbrev lA(oi mS:D1):D1:=aBz 2 (awv oi) (ayP mS)
abbrev jZ(bp:Addr)(oj dw:D1):D1:=acy 2 (agf (agM (aj9 b7) (Θ 0)) (Ih bp [(t8 "a yard has at least one piece")]) (amo Hy (aj9 b7) (Θ 16) (azr bp (c8 (Θ 16))) (jt (iL b7) (gN 1) (at0 oj (aw dw [f7])))))
abbrev j4(bp:Addr)(jJ:D1):D1:=acy 3 (jt (iL f7) (gN 2) (agE (bx (Ai (af4 HZ c7 (Θ 0)) (af4 Hy c7 (Θ 999))) (cm bp [none,ary,none,c8 (Θ 999)]) fe) (amo Hy (aB7 [c7]) (Θ 1) (azr bp ary) (bx (aW (aB Hy (ae9 (ass jJ)) (Θ 2))) (cm bp (aoM ary)) fe))))
abbrev jw(bp:Addr)(dw:D1):D1:=acy 4 (amo Hy aG2 (Θ 16) (azr bp (c8 (Θ 16))) (jt (iL f7) (aAi (gN 2)) (amo Hy (aB7 [(gI [c7,d8])]) (Θ 1) (cm bp [none,ary,none,c8 d8]) (agE (bx (Ai (aW (aB HZ d8 (Θ 0))) (aW (aB ZX d8 (aj9 b7)))) (azr bp (c8 d8)) fe) (bx (aW (aB (mG true) c7 (aw dw [(ayB b7)]))) (cm bp [none,c8 d8,none,ary]) fe)))))
abbrev lB(bU:Addr):D1:=atx 1 (gF bU "steps" b7 aqi) (gF bU "ahead" b7 aqi) (gF bU "is_out" b7 (aok .bl))
abbrev j5(bU:Addr):D1:=acy 1 (bJ (dN false ajw (agk (cc bU "steps" b7)) (gN 0) yH akm))
abbrev qK:D1:=acy 1 (bJ (gI [akm,(alp 2),(alp 1)]))
abbrev uH(qL lV:D1):D1:=aBz 6 (alY qL) (ae4 2 aqi (aju (jt (iE f7) (gT 2 (dH (gN 3) (aqu 4))) (jt (agk (aw lV [b7,f7,(aaN []),aGX,aB9])) (gN 5) (bQ (gD fm c7 [(gI [d8,(ae 5)])])))) (D4 c7)))
abbrev yg(qM dy lV:D1):D1:=acy 9 (amo (mG false) aau aHp (bJ (aaN [])) (ae4 5 aqi (aju (jt (agk (aw qM [(JC b7 aau),d8])) (gN 6) (ae4 7 (aB (dn false) c7 (awD [aau,d8,(ae 6)])) (agS 8 dy [b7,aau,(ae 6)] (bx (Ai (af4 (sk false) (ae 8) (dC .bh)) (af4 (mG false) (gI [(ae 6),(ae 8)]) f7)) (bQ (gD fm (ae 5) [agh])) (bQ (gD zp (ae 5) [(aw lV [b7,f7,agh,(ae 6),(ae 8)])])))))) (D4 (ae 5)))))
abbrev pL aOE(Ay:D1):D1:=atx 4 (aoX "found" (aw Ay [f7,c7])) (aoX "pieces" (aw (kX false) [f7])) (aid (aoX "signals" (aw (kX false) [c7])) (aoX "wait" d8) (aid (aoX "ticks" (Θ 0)) (aoX "locks" qd) (aid (aoX "lying" (dN true ajw (iL f7) (gN 0) yH (dC afW))) (aoX "greens" qd) (agE (aoX "falls" qd) (aoX "trains" qd)))))
abbrev j6 aOE(dO:D1):D1:=aty 2 (ayP dO) (wX aFr f7)
abbrev gQ aOE(dO fW:D1):D1:=atx 4 (bQ (alY dO)) (rD aHR (jt aHR (aAi (gN 2)) (bx (aW (ahc (mG false) (aw fW [d8]))) (bJ c7) fe))) (adC (dC .bh))
abbrev lC(fW cf:D1):D1:=acy 2 (bJ (aw fW [(alY cf)]))
abbrev mw(iP:Addr):D1:=acy 3 (agE (gF iP "until" b7 f7) (gF iP "near" b7 c7))
abbrev ji aOE(gZ fX fh xa dz:D1):D1:=aBz 4 (alY gZ) (agS 2 fX aw4 (aid (jt (iL c7) (gN 3) (at0 fh (JC d8 (dC (η 0))))) (jt (iL c7) (gN 3) (agE (fx aFr (JC d8 (dC (η 0))) f7) (fx aKF (JC d8 (dC (η 0))) (aw xa [(JC axA (JC d8 (dC (η 0)))),d8])))) (fx (afI "greens") (alY dz) f7)))
abbrev kI(iP aS aL:Addr)(gZ dz qN dA su fY fX:D1):D1:=aBz 4 (alY gZ) (agS 2 dz aw4 (agf (aB (dX true) (wX (afI "greens") c7) f7) (cm aS (aoM apF)) (avp (qI (afI "greens") c7) (agS 3 qN (agU c7) (bx (lx (af4 Hy (afI "wait") (Θ 0)) (Ai (aW (aB (sk true) d8 (dC .bh))) (fw (ass dA)))) (aoS (afI "falls") (sq iP su [(afw aKE (afI "wait")),d8])) (at0 fY (alY fX)))))))
abbrev vI(iP aL:Addr)(fY fX:D1):D1:=acy 2 (agE (aoX "ticks" (aB (dn false) aKE (Θ 1))) (jt (agk (aw (m9 false) [(afI "falls")])) (gN 1) (av8 (cc iP "until" (amO (afI "falls"))) aKE (avp (qI (afI "falls") f7) (at0 fY (alY fX))))))
abbrev nL aOE(om fh:D1):D1:=atx 2 (bQ (alY om)) (ayP fh) (aoS aKF (Ic (ap8 (amO aKF) (dC afW)) (t8 "branch") (dC afW)))
abbrev kJ aOE:D1:=acy 3 (jt (iL f7) (gN 2) (bQ (qI aFr alO)))
abbrev kr aOE:D1:=acy 2 (bJ (aBw aKD))
abbrev oq aOE:D1:=acy 2 (bJ (aoY (amO aKD)))
abbrev iC aOE(jM:D1):D1:=ax8 3 2 (amO aET) (adC (aw jM [axA,(JC c7 (dC (η 1))),alO]))
abbrev j7(bU aL:Addr)(dy:D1):D1:=ax9 4 2 (aiq (cc bU "steps" f7)) 3 (gI [(JC c7 (dC (η 2))),(aw dy [axA,alO,(JC c7 (dC (η 2)))])]) (agf (aB (mG false) d8 aET) (adC (gD pK aET [d8])) (adC (dC .bh)))
abbrev lD aOE(fZ:D1):D1:=aty 4 (rD aHR (jt aHR (aAi (gN 2)) (av8 (aCS fZ d8) f7 (bJ c7)))) (dC .bh)
abbrev j8 aQV:D1:=acy 2 (agf (ahc (mG true) (afI "trains")) (asn aS) (adC (amO (afI "trains"))))
abbrev mT aQV(dB:D1):D1:=acy 2 (avO (fw (aw dB [aKD,f7])) (asn aS))
abbrev mU aQV(dB:D1):D1:=acy 2 (avO (fw (aw dB [axA,f7])) (asn aS))
abbrev j9 aQV(dO jL:D1):D1:=aBz 2 (alY dO) (avO (fw (aw jL [(amO axA)])) (asn aS))
abbrev lW aQV(dB:D1):D1:=acy 2 (avO (fw (aw dB [aET,f7])) (asn aS))
abbrev cT:D1:=acy 2 (bJ (JX (ahc ZX (Θ 0)) (ahc HZ (aj9 b7))))
abbrev iS(eO aL:Addr)(fK:D1):D1:=acy 2 (agf (ahc (mG false) aFr) aIp (bx (aW (aB (sk true) (F5 aL "train_in" fK b7 [f7]) (dC .bh))) aIp fe))
abbrev tI(eO aS bU aL:Addr)(ou dA iU qO hE:D1):D1:=atx 5 (bQ (ass ou)) (avO (fw (ass dA)) (azr aS ary)) (agf (ahc (mG false) (afI "trains")) aIp (agS 3 iU [b7,f7,c7] (ae4 4 (sq bU qO []) (avp (aw hE [b7,aau,d8]) (aoS (afI "trains") aau)))))
abbrev Ef(i6 bU aL:Addr)(cf lX jM hE iU fZ:D1):D1:=acy 4 (agS 2 cf aw4 (ae4 3 (aiq aCC) (agE (bx (fw (cc bU "is_out" c7)) (asn i6) fe) (bx (fw (cc bU "ahead" c7)) (awx lX) (bx (fw (aw jM [axA,(JC d8 (dC (η 0))),ayI])) (gF bU "is_out" c7 (arp .bl)) (ayO hE [b7,c7,(aw iU [b7,f7,(ass fZ)])]))))))
abbrev vJ(eO bU aL:Addr)(cf:D1):D1:=acy 3 (agS 2 cf aw4 (aid (atZ (ae9 aCC) (Θ 1) (tY (fw (cc bU "is_out" c7))) aIp) (bQ (gD OW aCC [])) (av8 (ae9 aCC) (Θ 0) (bQ (qI (afI "trains") f7)))))
abbrev vK(iP i6 bU aL:Addr)(cf fY Az:D1):D1:=acy 4 (agS 2 cf aw4 (aid (bx (fw (cc bU "is_out" c7)) (asn i6) fe) (at0 fY (cc bU "ahead" c7)) (aid (gF bU "ahead" c7 aqi) (gF bU "steps" c7 (dN true ajw (Pg aCC) (gN 0) yH (awv Az))) (rD (Av (afI "falls")) (jt (Av (afI "falls")) (gN 3) (bx (aW (agM (cc iP "near" d8) f7)) (gF iP "near" d8 (dC .bh)) fe))))))
abbrev iD(iP i6 aL:Addr)(dA dz:D1):D1:=acy 5 (amo (sk false) c7 (dC .bh) (cm i6 (aoM apF)) (amo (mG false) c7 (afI "greens") (adC (JC (afI "greens") c7)) (agE (rD (qJ (afI "falls")) (jt (qJ (afI "falls")) (gT 2 (dH (gN 3) (aqu 4))) (atZ (aCS dz d8) c7 (Ai (ap8 (cc iP "near" aau) f7) (fw (ass dA))) (bJ d8)))) (cm i6 [none,apF,none,ary]))))
abbrev kA(bU aL:Addr)(dz fX lX:D1):D1:=atx 3 (bQ (wY (afI "greens") (ass dz) (dC .bh))) (bQ (wY (afI "falls") c7 (dC .bh))) (agE (gF bU "ahead" f7 (aw (kX true) [(ass fX)])) (ayP lX))
abbrev pd(bU:Addr)(fY:D1):D1:=ax8 3 2 (gD Ax (cc bU "ahead" f7) [(Θ 0)]) (avp (aCS fY (aaN [c7])) (bQ (gD vH (cc bU "steps" f7) [(Θ 0),c7])))
abbrev qP:D1:=aty 2 (bx (fw b7) (adC (JC b7 (ahc cx (aj9 b7)))) fe) (Θ 0)
abbrev tJ(AA:D1):D1:=ax9 3 2 (aB cx (afw (aw AA aw4) (aB (la false) (Θ 104729) (anr (Θ 1)))) (Θ 4294967291)) 2 (aB cx (aB (la false) c7 (Θ 48271)) (Θ 4294967279)) (adC (aB cx (aB (dn false) (aB (la false) (aB dR c7 (Θ 64)) (Θ 69621)) c7) (Θ 4294967231)))
abbrev ny:D1:=ax8 4 3 (dN false [none,akV,some 2,aHJ] (Al [(aj9 b7)]) (gN 0) (lx (ajf b7 f7) (af4 (mG false) c7 (arS (aB aO d8 b7)))) b7) (adC (Ic (fw d8) (JC d8 (dC (η 0))) (dC .bh)))
abbrev nz(dq:D1):D1:=ax9 11 2 aqi 3 (aaN []) (ae4 4 (Θ 0) (aju (jt (Al [(aB (dn false) (Θ 1) (azx f7 (Θ 8)))]) (gN 5) (agS 6 dq (agU (afw (anr (Θ 1)) (ae 5))) (ae4 7 aqi (agE (jt (Al [(afw (Θ 2) (aw vD [(aB HZ (aB cx (ae 6) (Θ 5)) (Θ 3))]))]) (gN 8) (agS 9 dq (agU (afw (afw (anr (Θ 10)) (aB (la false) (Θ 3) (ae 5))) (ae 8))) (ae4 10 (dN false (ars 7) (iL d8) (gN 0) (af4 (mG true) b7 f7) b7) (bx (lx (fw (ae 10)) (af4 HZ (aB cx (ae 9) (Θ 8)) (aoy (aaN [(Θ 7),(Θ 2),(Θ 2)]) 8))) (bQ (gD fm agh [(JC (ae 10) (aB cx (aB dR (ae 9) (Θ 8)) (aw Ie [(Θ 4),(ae9 (ae 10))])))])) (avp (gD fm agh [(aB cx (afw (aw dq (agU (anr (Θ 9)))) (aB (la false) (Θ 37) aau)) (Θ 1000))]) (bR 4 (aB (dn false) aau (Θ 1)))))))) (ae4 3 (afw (dN false (ars 3) (iL agh) (gN 0) (af4 (mG true) b7 f7) b7) (dN false (ars 7) (iL d8) (gN 0) (af4 (mG true) b7 f7) b7)) (bQ (gD fm c7 [(afw (gI [(JC (aaN [aFp,aFa]) (aB Xd (ae9 agh) (Θ 2)))]) (aw D5 [agh]))]))))))) (D4 c7)))
abbrev mx(dq cg:D1):D1:=ax8 9 3 aqi (agE (jt (Al [(aj9 c7)]) (gN 4) (jt (iT (arS (JC c7 aau))) (gN 5) (agS 6 dq (agU (afw (anr (aB (la false) (Θ 3) aau)) (aj9 d8))) (ae4 7 (aB (sk false) (aw cg [c7,aau,(ae 5)]) (dC .bh)) (bx (Ai (ap8 (aB cx (ae 6) (Θ 3)) (Θ 0)) (lx (fw agh) (ap8 (aB cx (ae 6) (Θ 3)) (Θ 1)))) (bQ (gD fm d8 [(gI [(ae 5),aau])])) fe))))) (ae4 8 (azx (anr (Θ 30)) (aB (dn false) (Θ 1) (aj9 d8))) (adC (C3 false (afw (C3 false d8 (kj (ae 8)) fG) (C3 false d8 fG (kj (ae 8)))) fG (kj (Θ 16))))))
abbrev qQ:D1:=acy 2 (agf (agM akm aFp) (adC (dN false aoN (iT (arS b7)) (gN 0) (ajf b7 f7) b7)) (adC (Ic (auS (alp 1)) (aaN [(alp 2),(alp 3)]) (aaN [(alp 1)]))))
abbrev uI(AB cg ow:D1):D1:=ax8 9 5 aqi (agf (aB (mG false) d8 aHp) (adC (D4 (ae 5))) (aju (jt (agk (aw AB [(ayB b7),aau])) (gN 6) (ae4 7 (aB (dn false) c7 (awD [d8,aau,(ae 6)])) (agS 8 cg [b7,d8,(ae 6)] (bx (Ai (af4 (sk false) (ae 8) (dC .bh)) (af4 (mG false) (gI [(ae 6),(ae 8)]) f7)) (bQ (gD fm (ae 5) [agh])) (bR 5 (aB (dn true) (ae 5) (aw ow [b7,f7,agh,(ae 8),(ae 6)]))))))) (D4 (ae 5))))
abbrev qR(ow:D1):D1:=acy 4 (ae4 2 (aaN []) (aju (jt (Al [aG2]) (gN 3) (bR 2 (aB (dn false) c7 (dN false (ars 3) (agk (aw ow [b7,f7,(aaN []),(aoY (ayB f7)),(aiq (ayB f7))])) (gN 0) yH (gI [f7,b7]))))) c7))
abbrev tK(uJ:D1):D1:=ax9 5 3 (dN true ajw (iL b7) (gN 0) yH (Ic (ap8 akm aFa) (dC afW) (dC .bh))) 4 (Cf [("pieces",b7),("signals",f7),("wait",c7),("points",d8),("green",(aaN [])),("now",(Θ 0))]) (aid (fx aau (t8 "routes") (alY uJ)) (fx aau (t8 "locks") (aB (la true) (aaN [(dC .bh)]) (aj9 b7))) (aid (fx aau (t8 "falls") qd) (fx aau aKn qd) (bJ aau)))
abbrev lE:D1:=aty 3 (rD aHQ (bR 2 (dN false [none,akV,aHJ] aHQ (gN 0) (aW (ahc (mG false) (dN false ajw (agk (aiq (aB aO (ahI "trains") b7))) (gN 0) yH akm))) b7))) (Ic (fw c7) alO (dC .bh))
abbrev qS(qT:D1):D1:=acy 2 (bJ (OU (aB (sk true) (amO axG) (dC .bh)) (aB (sk true) (alY qT) (dC .bh))))
abbrev qU:D1:=acy 2 (fx b7 (t8 "locks") (dN true aoN (agk axG) (gN 0) yH (Ic (aW (aB (dX false) b7 f7)) (dC .bh) b7)))
abbrev qf(ox:D1):D1:=acy 5 (ae4 2 (aoY (amO aq8)) (aid (bx (fw (aw S8 [(dN false (ars 0) (iL c7) (gN 0) yH (aw ox [f7,akm]))])) aHh fe) (jt (iL c7) (gN 3) (agE (fx axG (JC d8 (dC (η 0))) f7) (ae4 4 (JC avk (JC d8 (dC (η 0)))) (av8 aGX aFa (fx aKo (JC d8 (dC (η 0))) (JC (aaN [(t8 "branch"),(dC afW)]) (aw vD [(aB (mG false) (JC aau (dC (η 2))) (arS d8))]))))))) (aju (fx b7 aKC (afw axH (aaN [f7]))) (t8 "ok"))))
abbrev qV:D1:=acy 8 (agE (Cd (amO asM) (aAi (gN 2))) (ae4 4 aqi (aju (rD aHQ (jt aHQ (gN 5) (avb 6 (aoy ajY 5) 7 (aiq (aoD 6)) (atZ (aoY (ae 6)) (aaN []) (lx (tY (fw (JC (ae 6) (dC (η 2))))) (lx (ap8 (JC agh (dC (η 2))) c7) (ajf (aoD 7) d8))) (bQ (gD fm aau [(ae 5)])))))) (D4 aau))))
abbrev ka(oy cg oz:D1):D1:=acy 6 (agf (ahc (mG true) axH) aHi (aid (fx b7 aKC (dN false aoN (agk axH) (gN 0) (ajf b7 f7) b7)) (Cd (JC asM (aBw aq8)) (aAi (gN 2))) (agS 4 oy (agU (aBw aq8)) (ae4 5 (aB (sk false) (aw cg [avk,d8,c7]) (dC .bh)) (aju (bx (lx (af4 Hy (aof "wait") (Θ 0)) (Ai (fw aau) (fw (ae 5)))) (aoS alu (gI [(afw aK7 (aof "wait")),aau,(ae 5)])) (ayP oz)) (t8 "ok"))))))
abbrev qW(oz:D1):D1:=atx 2 (fx b7 (t8 "now") (aB (dn false) aK7 (Θ 1))) (jt (agk (aw (m9 false) [alu])) (gN 1) (bx (aW (aB ZW (aBw alu) aK7)) (avp (qI alu f7) (ayP oz)) fe)) aCc
abbrev kY(ox:D1):D1:=acy 2 (agf (agM (aBw avk) aFp) aHi (aid (bx (fw (alY ox)) aHh fe) (aoS aKo (JC (Cf [("straight",(t8 "branch")),("branch",(dC afW))]) (amO aKo))) aCc))
abbrev oA:D1:=aty 6 (jt (agk (afw axH (aw (m9 false) [alu]))) (gN 3) (av8 (aiq (ayB aq8)) f7 (ae4 4 (lU alu d8 (gI [(Θ 0),(aaN [c7]),(aok .bl)])) (bx (Ai (fw (JC aau (dC (η 2)))) (af4 (mG false) c7 aB9)) (aid (fx b7 aKC (dN false (ars 3) (agk axH) (gN 0) (ajf b7 f7) b7)) (bQ (wY alu d8 (dC .bh))) (agS 5 (kX false) [(aoY (ayB aq8))] (aju (fx axG (aiq (aoD 5)) (dC .bh)) (ae 5)))) fe)))) (dC .bh)
abbrev pe(cg oB:D1):D1:=acy 6 (agE (Cd (JC asM c7) (gT 2 (dH (gN 3) (aqu 4)))) (amo (sk true) (aw cg [avk,aau,d8]) (dC .bh) aHi (agf (ahc (mG false) ajY) aHh (agS 5 oB [b7,c7,f7] (amo (sk false) (ae 5) (dC .bh) aHj (aju (aoS ajY (aaN [(C3 false (ae 5) fG (kj (Θ 1))),(arS (ae 5)),(aok .bl)])) (t8 "ok")))))))
abbrev vL(cg oB:D1):D1:=ax9 6 2 (au7 ajY) 3 (aiq alO) (agE (bx (fw (JC c7 (dC (η 2)))) aHj fe) (agf (aB (dX true) (JC c7 (dC (η 1))) (aaN [])) (aid (fx axG (aiq (aiq (JC c7 (dC (η 1))))) (dC .bh)) (aoS ajY (aaN [(afw (C3 false (JC c7 (dC (η 1))) fG (kj (Θ 1))) alO),(arS (JC c7 (dC (η 1)))),(aok .bl)])) aCc) (agS 4 cg [avk,(JC d8 (dC (η 0))),ayI] (amo (sk false) aau (dC .bh) (aju (aoS ajY (aaN [alO,(aaN []),(arp .bl)])) (t8 "ok")) (ae4 5 (dC .bh) (amo (mG false) (gI [ayI,aau]) asM (bR 5 (aw oB [b7,(gD pK asM [(gI [ayI,aau])]),f7])) (amo (sk false) (ae 5) (dC .bh) aHj (aju (aoS ajY (aaN [(afw (C3 false (ae 5) fG (kj (Θ 1))) alO),(arS (ae 5)),(aok .bl)])) (t8 "ok")))))))))
abbrev qX:D1:=acy 3 (ae4 2 (au7 ajY) (aid (atZ (ae9 alO) (Θ 1) (tY (fw (JC c7 (dC (η 2))))) aHh) (aoS ajY (aaN [(C3 false alO fG (kj (rQ (Θ 1)))),(JC c7 (dC (η 1))),(JC c7 (dC (η 2)))])) (agf (agM (ae9 alO) (Θ 1)) (bQ (qI ajY f7)) aCc)))
abbrev qY:D1:=acy 7 (ae4 2 (au7 ajY) (aid (bx (fw (JC c7 (dC (η 2)))) aHj fe) (jt (iL (JC c7 (dC (η 1)))) (gN 3) (fx axG (JC d8 (dC (η 0))) (dC .bh))) (ae4 4 (dN false ajw (agk (Kn false alO (kj (rQ (Θ 1))))) (gN 0) yH (gI [akm,(alp 2),(alp 1)])) (aid (aoS ajY (aaN [aau,(aaN []),(aok .bl)])) (jt (agk (aw (m9 false) [alu])) (gN 5) (ae4 6 (aoy alu 5) (fx alu (ae 5) (gI [(aoD 6),(dN false aoN (agk (aoY (ae 6))) (gN 0) (ajf b7 f7) b7),(JC (ae 6) (dC (η 2)))])))) aCc))))
abbrev sv:D1:=ax8 5 4 (Cf [("set",(ae9 aq8)),("cancel",(ae9 aq8)),("throw",(ae9 avk))]) (agE (fx aau (t8 "enter") (ae9 asM)) (agf (ahc (mG false) aau) (adC (D0 ZW HZ (Θ 0) c7 (au7 aau))) (adC (OU (ahc (dX false) (t8 "tick")) (aB (mG false) d8 ajY)))))
abbrev qZ(xb Eg uK xf xg AD Iq AE AF:D1):D1:=acy 4 (agE (avO (fw (aw xb [b7,f7,c7,d8])) aHi) (agf (ahc (dX false) aBq) (adC (aw Eg (agU c7))) (agf (ahc (dX false) (t8 "cancel")) (adC (aw uK (agU c7))) (agf (ahc (dX false) aFq) (adC (aw xf (agU c7))) (agf (ahc (dX false) (t8 "enter")) (adC (aw xg [b7,d8,c7])) (agf (ahc (dX false) (t8 "tick")) (adC (aw AD [b7])) (agf (ahc (dX false) (t8 "go")) (adC (aw Iq (agU d8))) (agf (ahc (dX false) aBj) (adC (aw AE (agU d8))) (adC (aw AF (agU d8)))))))))))
abbrev pM(bp eO aS i6:Addr):D1:=ax9 2 1 (aaN [(aqf [azc,arN,arO,arP]),(aqf [arM,azd,arO,arP])]) 1 (anr (aaN [(aqf [arM,arN,aze,arP]),(aqf [arM,arN,arO,azf])])) (aju (bx (Ai (tY (fw (aqf [azc,azd,aze,azf]))) (ajf (aB7 [(arp .bl)]) (Θ 1))) (adC (t8 "wrong")) fe) (JC (aaN [(t8 "bad"),aJI,aJH,aJ0]) (gD pK f7 [(arp .bl)])))
abbrev kb(cg oy:D1):D1:=acy 4 (agE (Cd (amO asM) (aAi (gN 2))) (amo (sk false) (aw cg [avk,d8,c7]) (dC .bh) (adC (awD [(t8 "enter"),f7,(JC (aaN [(Θ 0),(Θ 101),(Θ 102),(Θ 103),(Θ 104)]) (aw Ie [(Θ 4),(ae9 ajY)]))])) (adC (dN false ajw (agk (alY oy)) (gN 0) yH (gI [(t8 "go"),(Θ 0),b7])))))
abbrev oC(dq jN:D1):D1:=acy 12 (agS 3 dq aw4 (agS 4 (m9 false) [(ahI "trains")] (avb 5 (Ic (fw aau) (JC aau (aB cx (aB dR d8 (Θ 16)) aG3)) (Θ 7)) 6 (aaN [aBq,aBq,(t8 "go"),(t8 "go"),(t8 "go"),aBj,aBj,(t8 "enter"),(t8 "cancel"),(t8 "tick"),aFq,(t8 "turn")]) (avb 7 (JC (ae 6) (aB cx (aB dR d8 (Θ 4)) (Θ 12))) 8 (Cf [("set",(ae9 axC)),("cancel",(ae9 axC)),("throw",(ae9 (ahI "pieces")))]) (ae4 9 (azx (anr (Θ 1)) (aw SQ [(Θ 1),aIK])) (aid (bx (lx (aW (agM (aB cx d8 (Θ 4)) (Θ 0))) aHN) (avb 10 (JC (ahI "green") (aB cx (aB dR d8 (Θ 64)) (ae9 (ahI "green")))) 11 (afw (aw jN [c7,(aiq (aoy axC 10))]) (aB (la false) (awD [(t8 "cancel"),(ae 10),(Θ 0)]) aHx)) (bx (fw azA) (adC (JC azA (aB cx (aB dR d8 (Θ 1024)) (ae9 azA)))) fe)) fe) (bx (lx (fw aKG) (lx (fw aau) (aW (agM (aB cx d8 (Θ 4)) (Θ 2))))) (ayw [(JC (aaN [(t8 "turn"),(t8 "go"),(t8 "turn"),(t8 "tick")]) (aB cx (aB dR d8 (Θ 64)) (Θ 4))),(Θ 0),(JC aau (aB cx (aB dR d8 (Θ 256)) aG3))]) fe) (agE (atZ agh (t8 "cancel") aHN (bR 9 (JC (ahI "green") (aB cx (aB dR d8 (Θ 64)) (ae9 (ahI "green")))))) (agf (agM (aB cx d8 (Θ 32)) (Θ 1)) (ae4 9 (JC (aaN [(rQ (Θ 1)),aIK,(afw (Θ 1000) (at1 32 (Θ 1000)))]) (aB cx (aB dR d8 ayj) (Θ 3))) (bR 5 (JC (aaN [(rQ (Θ 5)),(Θ 3),aKS]) (aB cx (aB dR d8 ayj) (Θ 3))))) (ayw [agh,(ae 9),(Ic aIL (ae 5) (JC (aaN [(Θ 0),(Θ 100),(Θ 101),(rQ (Θ 3))]) (aB cx (aB dR d8 (Θ 512)) (Θ 4))))])))))))))
universe Sb
universe zE
universe zE
end
mutual
section
noncomputable section
namespace Sb
open PySem L2
abbrev sy(bp eO aS i6:Addr)(mJ sA vM vN AG Ph AH AI sC:D1):D1:=acy 6 (ae4 4 (dC .bh) (aju (Ge [bp,aS,eO,i6] 4 5 (bx (auS aBq) (awx mJ) (bx (aru (t8 "cancel")) (awx sA) (bx (auS aFq) (awx vM) (bx (aru (t8 "enter")) (ayO vN [b7,d8,c7]) (bx (aru (t8 "tick")) (bQ (awv AG)) (bx (aru (t8 "go")) (ayQ Ph) (bx (auS aBj) (ayQ AH) (ayQ AI))))))))) (Ic (af4 (sk false) aau (dC .bh)) (t8 "ok") (aw sC [aau]))))
abbrev sD aOE(uL sE dq Eh sF:D1):D1:=acy 4 (agS 1 uL (agU (Θ 0)) (agS 2 sE [b7,(Θ 40),f7] (ae4 3 (azx (Θ 39) (Θ 4)) (ayw [(sq aL sF [(aw (kX false) [f7]),(aw (kX false) [c7]),d8]),(aw Eh [f7,c7,d8])]))))
abbrev uM(oE lY:D1):D1:=acy 6 (agS 5 oE [f7,c7,d8,aau] (adC (agM (aw lY [b7,c7,d8,aau]) (ae 5))))
abbrev q0:D1:=acy 5 (ae4 4 (lU (aKq f7) c7 (aaN [(aaN []),(aaN []),(aok .bl)])) (aju (atZ aB9 (aaN []) (af4 ZW (ae9 aGX) d8) (adC (dC .bh))) (afw (aaN [(aiq (aiq aGX))]) (dN false ajw (agk aB9) (gN 0) yH akm))))
abbrev uN aOE(dq oF vO oG q8 fK:D1):D1:=aty 10 (jt (YQ [(Θ 1),(ae9 (ae 5))]) (gN 6) (agE (jt (Al [(azx aHa (Θ 4))]) (gN 7) (agS 8 oF [b7,(afw (anr (aB (la false) (Θ 5) (ae 6))) agh),d8] (bx (Ai (ajf aHf aau) (af4 (mG true) (aoD 8) (gI [(t8 "go"),(t8 "turn")]))) (ayO vO [c7,d8,(aoD 8),(aoY (ae 8)),aHf]) fe))) (ae4 9 (dN false (ars 2) (agk (C3 false (ae 5) (kj (ae 6)) fG)) (gN 0) yH (F5 aL "lock_of" oG f7 [b7])) (aid (bx (Ai (af4 (sk false) (aoD 9) (dC .bh)) (ajf (zr (ae 9)) (Θ 1))) (aBD .bl) fe) (bx (Ai (tY (fw (aw vO [c7,d8,(t8 "go"),(Θ 0),aau]))) (ajf (aiq (F5 aL "where" q8 c7 [aau])) (aoy (ae 5) 6))) (aBD .bl) fe) (bx (aW (aB (dX true) (F5 aL "train_in" fK c7 [(aoy (ae 5) 6)]) aau)) (aBD .bl) fe))))) (arp .bl)
abbrev sG(xh dq oF oE lY uO AJ:D1):D1:=atx 10 (Cd (awv xh) (gT 2 (dH (gN 1) (aqu 2)))) (jt (Al [(azx (Θ 38) (Θ 21))]) (gN 3) (agE (Cd (aw oF [b7,(afw (Θ 60) (aB (la false) (Θ 2) d8)),c7]) (gT 3 (dH (gN 4) (dH (gN 5) (aqu 6))))) (ae4 7 (lU (ahI "trains") (ae 6) (aaN [(aaN []),(aaN []),(aok .bl)])) (agS 8 oE [c7,aau,(ae 5),(ae 6)] (agf (aB (dX true) (aw lY [f7,aau,(ae 5),(ae 6)]) (ae 8)) (aBD .bl) (atZ (ae 8) (t8 "ok") (lx (af4 (mG false) aau (gI [(t8 "enter"),(t8 "go")])) (ap8 (aoY agh) (aaN []))) (agS 9 uO [f7,c7,(ae 6),(ae9 (aoD 7))] (bx (lx (af4 (sk true) (ae 9) (dC .bh)) (tY (fw (aw AJ [b7,(afw (Θ 61) (aB (la false) (Θ 2) d8)),f7,c7,(ae 6),(ae 9)])))) (aBD .bl) fe)))))))) (adC (arp .bl))
universe Sb
universe zE
universe zE
section
namespace L2
open PySem
section
variable {ρ:fk} {M:bb}
@[simp] def az aNt:ae i ρ M=(match ρ[i]? with | am5 x=>.ok x M | _=>c6):=rfl
@[simp] def bq aNv:dC x ρ M=.ok x M:=rfl
@[simp] def aE:fF [] ρ M=.ok [] M:=rfl
@[simp] def au aNp aOG:fF (d::ds) ρ M=ao4 (abO).bind (ajj (fF ds ρ M1).bind xs (.ok (x::xs) M2)):=rfl
@[simp] def pf aOG:gI ds ρ M=aj4 (alc).bind xs (.ok (f9 xs) M1):=rfl
@[simp] def gA{l:Bool}aOG:bS l ds ρ M=aj4 (alc).bind xs (rT l xs M1):=rfl
@[simp] def aD{f:D2}{a b:DE}:aB f a b ρ M=ao4 (a ρ M).bind (ajj (b ρ M1).bind y (f x y M2)):=rfl
@[simp] def aY{f:D1}aOG:aw f ds ρ M=aj4 (alc).bind xs (f xs M1):=rfl
@[simp] def fq aNp:fw d ρ M=ao4 (abO).bind (Res.opt (jr M1 x) M1):=rfl
@[simp] def br aNp:aW d ρ M=ao4 (abO).bind (match x with | .bl b=>.ok b M1 | _=>c6):=rfl
@[simp] def jy{a b:DT}:lx a b ρ M=aj4 (a ρ M).bind k (ahi k (b ρ M1) (.ok false M1)):=rfl
@[simp] def sH{a b:DT}:Ai a b ρ M=aj4 (a ρ M).bind k (if b8 k then .ok true M1 else b ρ M1):=rfl
@[simp] def tL{a:DT}:tY a ρ M=aj4 (a ρ M).bind k (.ok (! k) M1):=rfl
@[simp] def xi{t:DT}{a b:DE}:Ic t a b ρ M=aj4 (t ρ M).bind k (ahi k (a ρ M1) (b ρ M1)):=rfl
@[simp] def xj{l:Bool}aNp{dl dh:DO}:C3 l d dl dh ρ M=ao4 (abO).bind (ajj (dl ρ M1).bind lo ((dh ρ M2).bind λ hi M3=>FU l x lo hi M3)):=rfl
@[simp] def lZ:fG ρ M=.ok none M:=rfl
@[simp] def oH aNp:kj d ρ M=ao4 (abO).bind (match x with | η i=>.ok awc M1 | _=>c6):=rfl
@[simp] def acd aNp:D4 d ρ M=ao4 (abO).bind (D3 x M1):=rfl
@[simp] def aag{f:DM}aNp aOG:gD f d ds ρ M=ao4 (abO).bind (match aDw with | ak3=>ajj (fF ds ρ M1).bind xs (f x xs M2) | none=>c6):=rfl
@[simp] def ad6:fe ρ M=.nx ρ M:=rfl
@[simp] def Tl{a b:DS}:aF a b ρ M=(match a ρ M with | .nx ρ' M'=>b ρ' M' | o=>o):=rfl
@[simp] def aah aNp:bQ d ρ M=akn (abO).out _ (.nx ρ M1):=rfl
@[simp] def ace aNp:bJ d ρ M=akn (abO).out x (.rt x M1):=rfl
@[simp] def aai:ZY ρ M=.rt .bh M:=rfl
@[simp] def acf{t:DT}{a b:DS}:bx t a b ρ M=akn (t ρ M).out k (ahi k (a ρ M1) (b ρ M1)):=rfl
@[simp] def Tn aNt aNp:bR i d ρ M=akn (abO).out x (.nx (ρ.set i ad5) M1):=rfl
@[simp] def acg aNp{g:DG}:Cd d g ρ M=akn (abO).out x (match g x ρ with | some ρ'=>.nx ρ' M1 | none=>c6):=rfl
@[simp] def afx aNt aNv:gN i x ρ=c8 (ρ.set i ad5):=rfl
@[simp] def ad7:yH ρ M=.ok true M:=rfl
@[simp] def YU aN3 aOG:Ih C ds ρ M=akn (alc).out _ (YX C ρ M1):=rfl
@[simp] def ag aOa{x:α}aQn:(aBF x).bind f=f x M:=rfl
@[simp] def Ag aNq{x:α}:Res.opt ad5 M=.ok x M:=rfl
@[simp] def OM aNq:(Res.opt none M:alG)=c6:=rfl
@[simp] def Xo aNv:(Out.rt x M).res=.ok x M:=rfl
@[simp] def Xn:(Out.nx ρ M).res=.ok .bh M:=rfl
@[simp] def SY aN7:(Out.exc c ρ M).res=YX c M:=rfl
universe zE
abbrev Pl:ajM (adj PV)
 | 0,x=>match x with
  | .bh=>True
  | η _=>True
  | b5 x=>aAF (b5 x)
  | _=>False
 | k+1,x=>match x with
  | .bh=>True
  | η _=>True
  | b5 x=>aAF (b5 x)
  | ς xs=>asm
  | f9 xs=>asm
  | _=>False
def mK aOa{f:aiK α β}{g:α->β}:∀aQy,(arl x (f x=c8 (g x)))->ajG f=c8 (xs.map g)
 | [],_=>rfl
 | x::xs,h=>by
  rw[af7 nu (h x Ξ) (mK (alf y (h y (aha hy))))];rfl
abbrev fi aNW aNO:PyData:=(flat [] k x).getD aaY
def kB aNb:∀aNW aNO,Pl k x->flat M k x=c8 (fi k x)
 | 0,x,h=>by
  cases x<;>simp_all [Pl,fi,flat,leaf]
 | k+1,x,h=>by
  cases x with
  | lst xs =>
   rw[avV h' asm h e (∀N:bb,flat N (k+1) (ς xs)=alB ao1 (xs.map (fi k))) N (by
    rw[aj3 flat (mK (alf y (kB k y (h' y hy))))];rfl)]
   rw[e,fi,e]; rfl
  | tup xs =>
   rw[avV h' asm h e (∀N:bb,flat N (k+1) (f9 xs)=alB awb (xs.map (fi k))) N (by
    rw[aj3 flat (mK (alf y (kB k y (h' y hy))))];rfl)]
   rw[e,fi,e]; rfl
  | _=>simp_all [Pl,fi,flat,leaf]
def jj aNf aRT:fi (k+1) (ς xs)=ao1 (xs.map (fi k)):=by
 have e:flat [] (k+1) (ς xs)=alB ao1 (xs.map (fi k)):=by
  rw[aj3 flat (mK (alf y (kB k y (h y hy))))];rfl
 rw[fi,e]; rfl
def jk aNf aRT:fi (k+1) (f9 xs)=awb (xs.map (fi k)):=by
 have e:flat [] (k+1) (f9 xs)=alB awb (xs.map (fi k)):=by
  rw[aj3 flat (mK (alf y (kB k y (h y hy))))];rfl
 rw[fi,e]; rfl
def xk aNf(ih:∀x y,Pl k x->Pl k y->(b8 (PyData.eqv (fi k x) (fi k y))↔x=y)):∀xs ys:d5,asm->(∀y∈ys,Pl k y)->(b8 (PyData.eqvAll (xs.map (fi k)) (ys.map (fi k)))↔xs=ys)
 | [],[],_,_=>aJG
 | [],y::ys,_,_=>aJG
 | x::xs,[],_,_=>aJG
 | x::xs,y::ys,hx,hy=>by
  rw[zC,zC,PyData.eqvAll,Bool.and_eq_true,ih x y (hx x Ξ) (hy y Ξ),xk ih xs ys (λ z hz=>hx z (d7 hz)) (λ z hz=>hy z (d7 hz))];simp
def fH aNf:fi k .bh=aaY:=by cases k<;>rfl
def fI aNf aNy:fi k (η i)=η i:=by cases k<;>rfl
def eG aNf aNg(h:aAF (b5 x)):fi k (b5 x)=b5 x:=by cases k<;>simp[fi,flat,leaf,h]
inductive Pk:ajM (adj PV)
 | bh aNf:Pk k .bh
 | int aNf aNV:Pk k (η i)
 | str aNf aNg(h:aAF (b5 x)):Pk k (b5 x)
 | lst aNf aRT:Pk (k+1) (ς xs)
 | tup aNf aRT:Pk (k+1) (f9 xs)
def Pl.pk aNf aNv(h:Pl k x):Pk k x:=by
 cases k with
 | zero =>
  cases x with
  | bh=>exact .bh
  | int i=>exact η i
  | str x=>exact b5 h
  | _=>exact h.elim
 | succ k =>
  cases x with
  | bh=>exact .bh
  | int i=>exact η i
  | str x=>exact b5 h
  | lst xs=>exact ς h
  | tup xs=>exact f9 h
  | _=>exact h.elim
def AK aNW:∀(x y:PV),Pl k x->Pl k y->(b8 (PyData.eqv (fi k x) (fi k y))↔x=y):=by
 induction k with
 | zero =>
  intro x y hx hy;cases hx.pk with
  | bh=>cases hy.pk with
   | bh=>rw[aFg fH]
   | int j=>rw[ai7 fH fI]
   | str h=>rw[ai7 fH (eG h)]
  | int i=>cases hy.pk with
   | bh=>rw[ai7 fH fI]
   | int j=>rw[aFg fI]
   | str h=>rw[ai7 fI (eG h)]
  | str h=>cases hy.pk with
   | bh=>rw[ai7 fH (eG h)]
   | int j=>rw[ai7 fI (eG h)]
   | str h'=>rw[ai7 (eG h) (eG h')]
 | succ k ih =>
  intro x y hx hy;cases hx.pk with
  | bh=>cases hy.pk with
   | bh=>rw[aFg fH]
   | int j=>rw[ai7 fH fI]
   | str h=>rw[ai7 fH (eG h)]
   | lst h=>rw[ayh fH h]
   | tup h=>rw[ayi fH h]
  | int i=>cases hy.pk with
   | bh=>rw[ai7 fH fI]
   | int j=>rw[aFg fI]
   | str h=>rw[ai7 fI (eG h)]
   | lst h=>rw[ayh fI h]
   | tup h=>rw[ayi fI h]
  | str h=>cases hy.pk with
   | bh=>rw[ai7 fH (eG h)]
   | int j=>rw[ai7 fI (eG h)]
   | str h'=>rw[ai7 (eG h) (eG h')]
   | lst h'=>rw[ayh (eG h) h']
   | tup h'=>rw[ayi (eG h) h']
  | lst h=>cases hy.pk with
   | bh=>rw[ayh fH h]
   | int j=>rw[ayh fI h]
   | str h'=>rw[ai7 (jj h) (eG h')]
   | lst h'=>rw[jj h,jj h',PyData.eqv,xk ih _ _ h h'];simp
   | tup h'=>rw[ayi (jj h) h']
  | tup h=>cases hy.pk with
   | bh=>rw[ayi fH h]
   | int j=>rw[ayi fI h]
   | str h'=>rw[ai7 (jk h) (eG h')]
   | lst h'=>rw[ayh (jk h) h']
   | tup h'=>rw[jk h,jk h',PyData.eqv,xk ih _ _ h h'];simp
def yh aPo{p:Prop} [Decidable p] (h:b8 b↔p):b=aK9:=by
 cases b<;>simp_all
def sI aN5 aQB aNb{p:Prop} [Decidable p] (hx:arx x)(hy:arx y)(h:x=y↔p):dX neg x y M=.ok (.bl (ail aK9 aK9)) M:=by
 rw[apH dX (kB deep x hx) (kB deep y hy)];rw[yh (x9 (AK deep x y hx hy) h)]
def ph aN5 aNq aQq aSc aSV [Decidable (a∈as)] {y:PV}aNb(hy:an3 y=c8 (as.map enc)) :
  mG neg anJ y M=.ok (.bl (ail (aea a as) (aea a as))) M:=by
 unfold mG
 rw[afG hy]
 rw[apu (kB deep _ (hp a)) (mK (g:=avW) λ z hz=>by
  obtain⟨b,_,rfl⟩:=List.mem_map.mp hz
  exact kB deep _ (hp b))]
 rw[aAh (((as.map enc).map avW).any (akK q q aHu)=aea a as) (by
  rw[ahn (yh ?_) List.any_eq_true];constructor
  ·rintro⟨q,hq,he⟩;rw[aiN z hz hq];rw[aiN b hb hz];have:=inj _ _ ((AK deep _ _ (hp b) (hp a)).mp he);rw[adL this hb]
  ·intro hm;rw[Lb _ (aja _ (aja a hm)) ((AK deep _ _ (hp a) (hp a)).mpr rfl)])]
def jO aNf aNV:Pl k (η i):=by cases k<;>trivial
def xl aNf:Pl k .bh:=by cases k<;>trivial
@[simp] def dU aN5 aPx:dX neg (η i) (η j) M=.ok (.bl (ail (aeY i j) (aeY i j))) M:=sI (jO i) (jO j) Ξ
@[simp] def vP aN5 aNy aOV aNb:mG neg (η i) (ς avv) M=.ok (.bl (ail (aea i ns) (aea i ns))) M:=ph (enc:=PV.int) (λ a=>jO a) (λ a b e=>by cases e; rfl) rfl
@[simp] def Gh aN5 aNy aOV aNb:mG neg (η i) (f9 avv) M=.ok (.bl (ail (aea i ns) (aea i ns))) M:=ph (enc:=PV.int) (λ a=>jO a) (λ a b e=>by cases e; rfl) rfl
def uP aNq{w:D6}{g:DG}{tc:DT}aNp aNb aRG(P:aza)(f:α->PV)(R:adj fk)(hc:vF w M) :
  ∀aP1(ρ:fk)(acc:d5),R ρ->(arl x (∀ ρ,R ρ->∃ ρ1,t6 (g (enc x) ρ) ρ1/\R ρ1/\tc ρ1 M=.ok (P x) M/\(b8 (P x)->d ρ1 M=.ok (f x) M)))->aFS xs.length≤lim →
   rB w g tc d aBe ρ M acc=.ok (acc++(xs.filter P).map f) M
 | [],ρ,acc,_,_,_=>d7 rB
 | x::xs,ρ,acc,hR,h,hl=>by
  obtain⟨ρ1,h1,h2,h3,h4⟩:=h x Ξ ρ hR;simp only[zE] at hl;rw[akP zC rB h1];rw[h3,Res.FX];cases hp:P x with
  | true =>
   rw[aeO,h4 hp,Res.FX,if_pos ⟨hc,b6⟩,uP enc P f R hc xs ρ1 _ h2 (alf y (h y (d7 hy))) (by rw[aer]),List.filter_cons_of_pos hp];simp
  | false =>
   rw[aKO,aFZ,uP enc P f R hc xs ρ1 _ h2 (alf y (h y (d7 hy))) b6,List.filter_cons_of_neg (d7 hp)]
def cj aNq aPz{nq:aeI}aQb{g:DG}{tc:DT}aNp aQm{w:D6}aQy aRG(P:aza)(f:α->PV)(R:adj fk)
  (hi:auC=.ok (aBe,w) M')(hc:az6)(hR:R aIN)(h:arl x (∀ ρ,R ρ->∃ ρ1,t6 (g (enc x) ρ) ρ1/\R ρ1/\tc ρ1 M'=.ok (P x) M'/\(b8 (P x)->d ρ1 M'=.ok (f x) M')))(hl:aGW) :
  dN live nq di g tc d ρ M=rT live ((xs.filter P).map f) M':=by
 unfold dN;rw[hi,ag,aFZ,uP enc P f R hc xs _ _ hR h aCp];rfl
def To aQb{g:DG}{s1:DS}aQm aNh{w:D6}(hi:auC=.ok (xs,w) M')(hc:az6):jt di g s1 ρ M=wQ w g s1 xs ρ M':=by
 rw[ajN jt hi Res.eu aFZ]
@[simp] def dZ aNp aQm aNh(h:abO=.ok (ς xs) M'):iL d ρ M=.ok (xs,none) M':=by rw[atd iL h]
def Ei aNp aQm aM9 aNh(h:abO=.ok (ο n) M')(hn:M'[n]? = afN):iL d ρ M=.ok (xs,aIj) M':=by rw[apH iL h ag]; rw[hn]
def Pj aNp aQm aNh(h:abO=.ok (f9 xs) M'):iT d ρ M=.ok (xs,none) M':=by rw[atd iT h]
abbrev pN aNe aOk aNi aNO:Prop:=∃G,g xs M=.ok x (M++G)
def pN.trunc aOZ aPL aNv(h:pN g xs M x)(hb:aFb x):trunc g xs M=.ok x M:=by
 rw[amf G h];rw[af7 L2.trunc e (J2 Ξ hb)]
universe L2
universe zE
section
namespace L2
open PySem
section
variable {Q:aiO} {ρ:fk} {M:bb} {s1 s2:DS} {d:DE} {t:DT}
abbrev Gi(Q:aiO)(s2:DS):aiO
 | .nx ρ M=>Q (s2 ρ M)
 | o=>Q o
def aH(h:Gi Q s2 azX):Q (aF s1 s2 ρ M):=by
 unfold aF;cases e:azX<;>rw[e] at h<;>exact h
def yi aNt aNO aQG(q:Q (.nx (ρ.set i ad5) M')):Q (bR i d ρ M):=by
 rw[agC bR h q]
def aX aNt aNO aQG(q:Q (s2 (ρ.set i ad5) M')):Q (aF (bR i d) s2 ρ M):=aH (yi x M' h q)
def ee(k:Bool)aPQ(h:t ρ M=.ok k M')(q1:b8 k->Q (s1 ρ M'))(q2:acs k->Q (s2 ρ M')):Q (bx t s1 s2 ρ M):=by
 rw[aop bx h];cases k with
 | true=>exact q1 rfl
 | false=>exact q2 rfl
def Gj aPQ(h:t ρ M=.ok true M')(q1:Q (s1 ρ M')):Q (bx t s1 s2 ρ M):=ee true M' h (λ _=>q1) nofun
def o5 aPQ(h:t ρ M=.ok false M')(q2:Q (s2 ρ M')):Q (bx t s1 s2 ρ M):=ee false M' h nofun (λ _=>q2)
def bw aNO aQG(q:Q (.rt x M')):Q (bJ d ρ M):=by
 rw[agC bJ h q]
def cG aNO aQG(q:Q (.nx ρ M')):Q (bQ d ρ M):=by
 rw[agC bQ h q]
def Df{g:DG}aNO(ρ':fk)aQG(hg:t6 (g x ρ) ρ')(q:Q (.nx ρ' M')):Q (Cd d g ρ M):=by
 rw[ajN Cd h Res.eu hg];exact q
def cX(q:Q (.nx ρ M)):Q (fe ρ M):=q
abbrev Body(w:D6)(R:fk->ay1)(Q:aiO):aiO
 | .nx ρ M=>vF w M/\R ρ M
 | .ct ρ M=>vF w M/\R ρ M
 | .bk ρ M=>Q (.nx ρ M)
 | o=>Q o
def Ir aNq{w:D6}{g:DG}aRG(R:afK->fk->ay1)aP1 aTu
  aS1 :
  ∀(post pre:afK)aQt,xs=pre++post->R pre ρ M->Q (wQ w g s1 (post.map enc) ρ M)
 | [],pre,ρ,M,e,h=>by rw[zI] at e;rw[adL e (k ρ M h)]
 | x::post,pre,ρ,M,e,h=>by
  obtain⟨ρ1,h1,h2⟩:=hs pre x post e ρ M h;rw[akP zC wQ h1];cases e2:s1 ρ1 M with
  | nx ρ' M' =>
   rw[e2] at h2;dsimp only;rw[Ω (if_pos h2.1) (Ir enc R xs k hs post (agT x) ρ' M' (by rw[awJ]) h2.2)]
  | ct ρ' M' =>
   rw[e2] at h2;dsimp only;rw[Ω (if_pos h2.1) (Ir enc R xs k hs post (agT x) ρ' M' (by rw[awJ]) h2.2)]
  | bk ρ' M'=>rw[g9 e2 h2 h2]
  | rt x M'=>rw[g9 e2 h2 h2]
  | exc c ρ' M'=>rw[g9 e2 h2 h2]
  | bad=>rw[g9 e2 h2 h2]
def gR aNq aQb{g:DG}aRG(R:afK->fk->ay1)aP1(w:D6)(M1:bb)(hi:auC=.ok (aBe,w) M1)(hc:vF w M1)(h0:R [] ρ M1)
  aS1 aTu:Q (jt di g s1 ρ M):=by
 rw[ajN jt hi Res.eu aFZ];exact Ir enc R xs k hs xs [] ρ M1 rfl h0
abbrev Fin(P:ato)(o:Out):Prop:=P o.res
def cN aM9 aNh{d:DS}aQc(h:Fin P (d (aFj++apn (n-xs.length) none) M)):P (fQ n d xs M):=h
def aT aQc aNv(h:P (.ok x M)):Fin P (.rt x M):=h
def fy aQc(h:P (.ok .bh M)):Fin P (.nx ρ M):=h
def cY aQc aN7(h:P (YX c M)):Fin P (YX c ρ M):=h
def aA(h:Q (s2 ρ M)):Gi Q s2 (.nx ρ M):=h
def cM aNv(h:Q (.rt x M)):Gi Q s2 (.rt x M):=h
def dG aN7(h:Q (YX c ρ M)):Gi Q s2 (YX c ρ M):=h
def bL aSF(hc:vF w M)(h:R ρ M):Body w R Q (.nx ρ M):=⟨hc,h⟩
def zv aSF aNv(h:Q (.rt x M)):Body w R Q (.rt x M):=h
def Pm aSF aN7(h:Q (YX c ρ M)):Body w R Q (YX c ρ M):=h
universe zE
@[simp] def Gk aNb aOh:acn (M++[o]) M.length o:=Ξ
@[simp] def Pn aNb{o o':MO}:(M++[o]).set M.length o'=M++[o']:=Ξ
def Ej aM9:∀aNh,(arl x (b8 (PV.lO n x)))->b8 (avM n)
 | [],_=>agK PV.rN
 | x::xs,h=>by rw[PV.rN,h x Ξ,Ej (alf y (h y (d7 hy)))]; rfl
def Ko aM9 aTZ:b8 (PV.lO n (ς xs)):=by rw[Ω PV.lO (Ej h)]
def zw aM9 aTZ:b8 (PV.lO n (f9 xs)):=by rw[Ω PV.lO (Ej h)]
@[simp] def ach aM9 aNy:b8 (PV.lO n (η i)):=aGg
@[simp] def aci aM9:b8 (PV.lO n .bh):=aGg
@[simp] def acj aM9 aNg:b8 (PV.lO n (b5 x)):=aGg
@[simp] def ad8 aM9 aPo:b8 (PV.lO n (.bl b)):=aGg
universe L2
universe zE
end
mutual
section
namespace L2
open PySem PySem.Spec PyProof.Rows
abbrev Gm aNc:Sp:=λ vs H Q E=>∃(a:Addr) (ns:abE),vs=aCL a/\pO K H a al3/\∀H',ajl afE
def aaj aNE aOZ(hg:∀ns M,∃M',g [.m5 ns] M=.ok afE M')aOr aNu aN0 aOM(h:Gm K vs H Q E):NO K 1 g vs H Q E:=by
 rw[amB a ns hS h];rw[amf M' (hg ns [])];refine⟨rfl,[],H,[],[.m5 ns],ajC (lN.refl H) List.nodup_nil (λ n a o h=>nomatch h),.one (bj.vz.mpr (afT a hS)),?_⟩;rw[e];intro ι' S' H' v _ _ r;rw[Ω aBg (q H')]
def Mc aNE aOZ(hg:∀ns,∃M',g [.m5 ns] []=.ok afE M')aOr aNu aN0 aOM(h:Gm K vs H Q E):NO K 1 g vs H Q E:=by
 rw[amB a ns hS h];rw[amf M' (hg ns)];refine⟨rfl,[],H,[],[.m5 ns],ajC (lN.refl H) List.nodup_nil (λ n a o h=>nomatch h),.one (bj.vz.mpr (afT a hS)),?_⟩;rw[e];intro ι' S' H' v _ _ r;rw[Ω aBg (q H')]
def ad9{p:adj Addr}{a b c d:Addr}(ha:p a)(hb:p b)(hc:p c)(hd:p d):anZ [a,b,c,d] (p x):=by
 intro x hx
 rw[aiC hx];rcases hx with rfl | rfl | rfl | rfl
 ·exact ha
 ·exact hb
 ·exact hc
 ·exact hd
def sJ{p:Addr->adj Bool}aT7(ha:p a x)(hb:p b y)(hc:p c z)(hd:p d u):∀C k,([(a,x),(b,y),(c,z),(d,u)]:aj8).lookup C=aeK->p C k:=by
 intro C k h;simp only[List.lookup] at h;split at h
 ·rw[awe]; cases h; rw[aD0 e ha]
 split at h
 ·rw[awe]; cases h; rw[aD0 e hb]
 split at h
 ·rw[awe]; cases h; rw[aD0 e hc]
 split at h
 ·rw[awe]; cases h; rw[aD0 e hd]
 cases h
def gE.bad aPq aNg aO3 aPC aNf aSw:gE P w K mg base (k+1) x ps.length (fQ N.length (abg _ c6)) :=
 gE.of D S λ f lg A outer s H E hr=>⟨λ pins s1 σ H1 D I h=>by
  obtain⟨_,_,_,_,_,_,h⟩:=h
  exact h.elim⟩
universe L2
universe zE
section
namespace L2
open PySem PySem.Spec PyProof.Rows PySem.W
section
variable {K:Fg} {hp:Heap} {mg:ac0} {x m q:Str} {st:Stmt} {ps:acC} {C:Addr}
inductive FnAt aNc(v:apY amZ)(x q:Str)(st:Stmt):Prop
 | mk{f:Addr}{oc kV dc pm cd ct:Value}{od an:asU}{sl:aHy}(a:v=aBn f)
  (l:t6 (K.lookup f) ⟨oc,od,.func (PySem.W.fnOf x q (mj st) (gx st) (av st) aaY kV dc pm an cd ct),sl⟩)(c:b8 (PySem.W.codeIn K cd q))aTP(j:aEt K (Δ f)):FnAt K v x q st
abbrev BO(x q:Str)aRp:Prop:=∀aUq(lg ct:Value)aOJ,aKc->bindArgs (PySem.W.fnOf x q (mj st) (gx st) (av st) aaY kV doc pm an lg ct) (aiQ us)=amy avE
def FnAt.de(h:FnAt K (nsIn K mainGlobals x) x x st)aTH(b:BO x x st ps:=by intro _ _ _ _ _ _ us hl; rcases us with _ | ⟨_,_ | ⟨_,_ | ⟨_,_ | ⟨_,_ | ⟨_,_ | ⟨_,_ | ⟨_,us⟩⟩⟩⟩⟩⟩⟩<;>first | rfl | cases hl | (simp at hl)):abU x st ps:=by
 rw[aen a l c k j h ⟨_,_,uD l c k,ajJ a,(uD l c k).binds b⟩]
def FnAt.me(h:FnAt K (findIn K (Δ C) m) m q st)(c:asp)(b:BO m q st ps:=by intro _ _ _ _ _ _ us hl; rcases us with _ | ⟨_,_ | ⟨_,_ | ⟨_,_ | ⟨_,_ | ⟨_,_ | ⟨_,us⟩⟩⟩⟩⟩⟩<;>first | rfl | cases hl | (simp at hl)):C6 K C m q st ps:=by
 rw[aen a l c' k j h ⟨_,_,uD l c' k,⟨a,j,k⟩,c,(uD l c' k).binds b⟩]
def FnAt.ini(h:FnAt K (findIn K (Δ C) "__init__") "__init__" q st)(mk:b8 (makesIn K C))(kc:b8 (keepIn K (Δ C)))(nm:mg x=aC5)(b:BO "__init__" q st ps:=by intro _ _ _ _ _ _ us hl; rcases us with _ | ⟨_,_ | ⟨_,_ | ⟨_,_ | ⟨_,_ | ⟨_,_ | ⟨_,us⟩⟩⟩⟩⟩⟩<;>first | rfl | cases hl | (simp at hl)):C7 K mg x C q st ps:=by
 rw[aen a l c k j h ⟨_,_,uD l c k,⟨mk,a,j,kc⟩,nm,(uD l c k).binds b⟩]
def FnAt.law{fa:Addr}(h:FnAt K (nsIn K mainGlobals "law") "law" "law" st)aTH(e:mg "law" = aH0):∃kV dc pm an cd ct,OB K "law" "law" st fa (PySem.W.fnOf "law" "law" (mj st) (gx st) (av st) aaY kV dc pm an cd ct):=by
 obtain⟨a,l,c,k,j⟩:=h;cases e.symm.trans (ajJ a);exact⟨_,_,_,_,_,_,uD l c k⟩
structure Tp aNc aNM aNK:Prop where
 a:nsIn K mainGlobals x=aBn C
 e1:findIn K (Δ C) "__getattribute__" = c8 (aLq adX)
 e2:findIn K (Δ C) "__getattr__" = some none
 e3:findIn K (Δ C) "__class__" = c8 aG4
 e4:mroIn K C aCd=aly
 e5:mroIn K C aB2=aly
 e6:b8 (isClsIn K C)
 eg:specialIn K ap4 "__get__" = c8 (aDT adX)
 et:takesIn K ap4=aly
def Tp.xc(h:Tp K x C):Gb K C:=⟨h.e1,h.e2,h.e3,h.eg,h.et,h.e4,h.e5,h.e6⟩
structure Md aNc aNM aNK:Prop where
 a:nsIn K mainGlobals x=aBn C
 pg:b8 (plainGet K C Str.empty)
 hd:b8 (hasDictIn K C)
 po:b8 (plainOver K C)
 sa:findIn K (Δ C) "__setattr__" = c8 (aI7 adX)
def Md.cl(h:Md K x C):asp:=⟨h.pg,h.hd,h.po,h.sa⟩
def Md.fd(h:Md K x C)aO9(n:findIn K (Δ C) f=as2):lP K C f:=⟨h.cl,n⟩
universe zE
structure Zn where
 P:Program
 w:World
 K:Fg
 mg:ac0
 base:Heap
noncomputable abbrev Fn(z:Zn):=gE z.P z.w z.K z.mg z.base
noncomputable abbrev Me(z:Zn):=HA z.P z.w z.K z.mg z.base
noncomputable abbrev In(z:Zn):=F0 z.P z.w z.K z.mg z.base
section
variable {P:Program} {w:World} {K:Fg} {mg:ac0} {base:Heap} {x m q:Str} {st:Stmt} {N ps:acC} {k j n:Nat} {d:DS} {C:Addr} {g:D1}
def iW{sc:Scope}(a:sc.kind=anj:=by rfl)(b:aMn:=by rfl)(c:aMo:=by rfl)(d:N.Nodup:=by rw[aw8])(e:N.take ps.length=ps:=by rfl)
  (f:anZ ps (am6=ani \/ am6=agG):=by rw[aw8])(g:∀y∈sc.names,y.2≠amA:=by rw[aw8]):aK N ps sc:=⟨a,b,c,d,e,f,g⟩
def gE.go aSw
  (hb:∀aQk aPr,aHB x->aCi (lp (rS P w) P w K mg base N x (av st) f lg A outer s H E) →
   auU (lp (rS P w) P w K mg base N x (av st) f lg A outer s H E)):gE P w K mg base (k+1) x ps.length (fQ N.length d):=gE.of D S λ f lg A outer s H E hr=>hb f lg A outer s H E hr (zq S hr)
def HA.go aT9
  aUK:HA P w K mg base (k+1) C m ps.length (fQ N.length d):=HA.of D S λ f lg A outer s H E hr=>hb f lg A outer s H E hr (zq S hr)
def F0.go aTX
  aUK:F0 P w K mg base (k+1) x C ps.length (fQ N.length d):=F0.of D S λ f lg A outer s H E hr=>hb f lg A outer s H E hr (zq S hr)
def aak aRc(F:OB K x q st f fd)(S:asf)
  (hb:∀(lg:Value)aPr,aDq->aCi (lp (rS P w) P w K mg base N q (av st) f lg A outer s H E) →
   auU (lp (rS P w) P w K mg base N q (av st) f lg A outer s H E)):pH P w K mg base (rS P w) (k+1) f fd ps (NO K ps.length (fQ N.length d)):=D8 F S λ lg A outer s H E hr=>hb lg A outer s H E hr (zq S hr)
def gE.up aT2 aSd:gE P w K mg base k x n g:=ayf
def HA.up aTU aSd:HA P w K mg base k C m n g:=ayf
def F0.up aTV aSd:F0 P w K mg base k x C n g:=ayf
universe zE
universe L2
universe zE
section
namespace Hd
open PySem PySem.Spec PyProof.Rows PySem.W L2
section
variable {K:Fg} {l:aGL} {e:En}
def Sat.at(h:Sat K l)aNr(hi:ahf l e):e.1 K=e.2:=h _ aLN
def Gn{f:alA Fg}(h:(eb f).1 K=(eb f).2):b8 (f K):=by
 have h':NW.b (c8 (f K))=NW.b aly:=h;injection h' with h1; injection h1
def Kp{f:aiK Fg Bool}{v:aKv}(h:(eo f v).1 K=(eo f v).2):f K=v:=by
 have h':NW.b (f K)=NW.b v:=h;injection h'
def yj{f:aHz}{v:apY amZ}(h:(ev f v).1 K=(ev f v).2):f K=v:=by
 have h':NW.v (f K)=NW.v v:=h;injection h'
def aal{g:aHz}{x q:Str}aO3(h:(ef g x q st).1 K=(ef g x q st).2):FnAt K (g K) x q st:=by
 have h':NW.f (NX K (g K) q)=NW.f (ahU (PySem.W.fnOf x q (mj st) (gx st) (av st) aaY aaY aaY aaY none aaY aaY) true):=h
 injection h' with h1;unfold NX at h1;split at h1
 ·rename_i f hf;split at h1
  ·rename_i a1 a2 fd a4 hl;injection h1 with h2;injection h2 with h3 h4;rw[aEu Bool.and_eq_true h4];obtain⟨⟨h5,h6⟩,h7⟩:=h4;obtain⟨n1,n2,n3,n4,n5,n6,n7,n8,n9,n10,n11,n12,n13,n14,n15⟩:=fd;simp only[PySem.W.fnOf,FuncData.mk.injEq] at h3;obtain⟨rfl,rfl,rfl,rfl,rfl,rfl,rfl,rfl,_,_,_,_,_,_,rfl⟩:=h3;exact .mk hf hl h5 h6 h7
  ·cases h1
 ·cases h1
def aam aNg aN3(h:Sat K (VL x C)):Tp K x C :=
 ⟨yj (alz 0),yj (alz 1),yj (alz 2),yj (alz 3),Kp (alz 4),Kp (alz 5),Gn (alz 6),yj (alz 7),Kp (alz 8)⟩
def aan aNg aN3(h:Sat K (YY x C)):Md K x C :=
 ⟨yj (alz 0),Gn (alz 1),Gn (alz 2),Gn (alz 3),yj (alz 4)⟩
variable {L:asx aGL} {g:aGL}
def All.at aPY(hi:ahf L g):Sat K g:=h _ aLN
def All.b aPY{f:alA Fg}(hi:ahf L [eb f]):b8 (f K):=Gn ((h.at i hi).at 0 rfl)
def All.o aPY{f:aiK Fg Bool}{v:aKv}(hi:ahf L [eo f v]):f K=v:=Kp ((h.at i hi).at 0 rfl)
def All.v aPY{f:aHz}{v:apY amZ}(hi:ahf L [ev f v]):f K=v:=yj ((h.at i hi).at 0 rfl)
def All.f aPY{g:aHz}{x q:Str}aO3(hi:ahf L [ef g x q st]):FnAt K (g K) x q st:=aal ((h.at i hi).at 0 rfl)
def All.x aPY aNg aN3(hi:aor L i (VL x C)):Tp K x C:=aam (h.at i hi)
def All.c aPY aNg aN3(hi:aor L i (YY x C)):Md K x C:=aan (h.at i hi)
universe zE
def XB{l:PySem.W.OpenLaw}{n k:Nat}{q:Program}aUt{d:DefRec}{CX:World->Hw}{sp:Fg->Sp}aNg{as:c9}{L:asx aGL}
  aSK(Sh:afi n)aUb(hr:jA k callerA)
  (F:∀(w:World)(mg:ac0)(fa:Addr)aOT aNc,aHL->auG->h.Ns mainGlobals mg->mg d.name=aH0 →
   ∃fd:FuncData,(∀aND aO5,BindsTo s fd (aiQ [u]) [(x,u)]) ∧
    ∀base:Heap,aF3->aH3->pH l.prog w K mg base (CX w) k fa fd [x] (sp K))
  (U4:∀aNc aPJ aOj,aFz n->WX H->pO K H a al3->sp K [Δ a] H (λ v _=>v=afE) λ _ _ _=>False)
  (hCX:∀(w:World)aNz aND aRE,CX w [] H s (λ _ _ _=>False) e s'->False) :
  PySem.W.WalkO q loose XP (hook as L).says l.row.toRowW d [] (λ f vs=>PySem.call f vs):=by
 refine Att.FJ hn hdf λ w s₀ s₁ mg mb fa o pm cd doc a vs ns G Y ho hd Lg WV WW hints hlen hg=>?_;obtain⟨K,KX,hK⟩:=Y;rw[aq7 fd hb hF (F w mg fa _ K KX hK G.T.g WV) (OA KX G.T.g G.T.b G.T.builtins G.T.nolimit hg WW hints (Nat.le_trans hlen Sh) hr hF hb (λ H hO hS=>U4 K H a ns hlen hO hS) λ H e s'=>hCX w H s₁ e s')]
universe Hd
universe zE
section
namespace Sb
open PySem L2
inductive Pc where
 | pl(j k:Int)
 | pt(t s b:Int)
abbrev Pc.js:Pc->abE
 | .pl j k=>[j,k]
 | .pt t s b=>[t,s,b]
abbrev Pc.enc:Pc->PV
 | .pl j k=>f9 [av6,η j,η k]
 | .pt t s b=>f9 [av4,η t,η s,η b]
noncomputable abbrev kK:=List Pc
noncomputable abbrev bH aNB:PV:=ς aEP
noncomputable abbrev Sg:=Int×Nat
abbrev cZ(s:Sg):PV:=f9 [η s.1,η s.2]
noncomputable abbrev cK(ss:aeT):PV:=ς (ss.map cZ)
noncomputable abbrev dM:=Nat×Int×Int
abbrev aI aNR:PV:=f9 [η s.1,η s.2.1,η s.2.2]
noncomputable abbrev bF aNL:PV:=ς aro
noncomputable abbrev Rt:=Nat×HB
abbrev Cj(r:Rt):PV:=f9 [η r.1,bF r.2]
noncomputable abbrev hZ(rs:afL):PV:=ς (rs.map Cj)
abbrev bM:aec->PV
 | none=>.bh
 | aCn=>η n
noncomputable abbrev gJ aOj:PV:=ς avv
noncomputable abbrev iM(ns:ae6):PV:=ς (ns.map alX)
abbrev Pc.at aNB aNd:Pc:=ps.getD n (.pl 0 0)
abbrev beyond aNB aOo aNU:aec:=agj (aod).find? k (aif (k≠a) (aea j (ad3 k).js))
abbrev vQ aN9 aNU:abE:=match p with
 | .pl a b=>[a,b].filter (aiY o o j)
 | .pt t s b=>if j=t then[s,b] else[t]
def Kq(s:Sg):arx (cZ s):=by
 intro y hy;rw[aiC hy];rcases hy with rfl | rfl<;>exact jO _
def Ek(a b:Sg)(h:cZ a=cZ b):a=b:=by
 rw[aAz a1 a2 a b1 b2 b];simp[cZ] at h;rw[amv h];subst h1
 have:a2=b2:=b6
 subst this;rfl
@[simp] def Tq aN5 aQd aM9{ss:aeT}aNb:mG neg (f9 [η j,η n]) ahJ M=.ok (.bl (ail (aea (j,n) ss) (aea (j,n) ss))) M:=by
 show mG neg (cZ (j,n)) _ M=_;exact ph (enc:=cZ) Kq Ek (a:=(j,n)) p9
@[simp] def jC aN9 aNi:dF ayy M=.ok (gJ p.js) M:=by cases p<;>rfl
@[simp] def afy aNb:dX false av6 av6 M=.ok afE M:=aar
@[simp] def afz aNb:dX false av4 av6 M=.ok (ako .bl) M:=aar
@[simp] def afA aNb:dX false av6 av4 M=.ok (ako .bl) M:=aar
@[simp] def afB aNb:dX false av4 av4 M=.ok afE M:=aar
def r6 aNh aNt aNv aNb(h:amw):agu (f9 xs) i=.ok x M:=by
 have hl:aqw:=arW;simp only[aO,OO,Ly,Hx];rw[aon,aon];simp[h]
def eX aNh aNt aNv aNb(h:amw):agu (ς xs) i=.ok x M:=by
 have hl:aqw:=arW;simp only[aO,p9,Ly,Hx];rw[aon,aon];simp[h]
@[simp] def vR aNv aPL:agu (f9 (x::xs)) 0=.ok x M:=r6 (i:=0) rfl
@[simp] def afC aQB aPL:agu (f9 (x::y::xs)) 1=.ok y M:=r6 (i:=1) rfl
@[simp] def Go{x y z:PV}aPL:agu (f9 (x::y::z::xs)) 2=.ok z M:=r6 (i:=2) rfl
@[simp] def aao{x y z u:PV}aPL:agu (f9 (x::y::z::u::xs)) 3=.ok u M:=r6 (i:=3) rfl
@[simp] def bZ aPL(h:aBZ):aum xs=.ok (ς xs) M:=bT (ad0 h)
def iQ aN9 aPM:jK dF [p.enc,η j] M=.ok (gJ (vQ p j)) M:=by
 cases p with
 | pl a b =>
  have e:=jC (.pl a b) M;rw[aFA Pc.enc];simp only[jK,fQ,Pc.enc]
  simp;rw[cj (xs:=[a,b]) (w:=none) (M':=M) PV.int (aiY o o j) PV.int (aiz [y,alK]) (by simp[e]; rfl) trivial aiH (ajK x) (ad0 (show 2≤3 by decide))]
  ·rw[ab2 (bZ (by rw[amm (ai5 (List.length_filter_le _ _) (show air 2 by decide))]))]
  ·rw[afF y rfl hρ ⟨_,rfl,adE,Ξ,λ _=>Ξ⟩]
 | pt t s b =>
  simp only[jK,fQ,Pc.enc];simp;by_cases h:j=t<;>simp[h,vQ]
def tM aOL aM9(h:aiG n):aor ps n (ad3 n):=by
 unfold Pc.at;rw[aDU h];rfl
def Iu aOL aM9(h:aiG n):ad3 n∈ps:=aJi (tM h)
def vS aOL aM9 aNb(h:aiG n):agu afa n=.ok (ad3 n).enc M:=eX (by rw[zJ,tM h]; rfl)
abbrev Po aNB aNU:ae6:=(aod).filter (adR k (j∈(ad3 k).js))
def Pp aNB:ug aEP=agj (aod).map k (f9 [η k,(ad3 k).enc]):=by
 refine aD3 i
 unfold ug
 rw[zJ,List.getElem?_zipIdx,zJ,zJ]
 rw[age (aiG i)]
 ·rw[tM h,aJp];simp
 ·rw[ayC,aob (by rw[aer])];rfl
def Dg aM9(h:air n):ag4 alq lim:=by
 rw[Ω List.length_range (ad0 h)]
def iO aNB aPM(hl:aoI):gY dF [afa,η j] M=.ok (iM azY) M:=by
 simp only[gY,fQ];simp;rw[cj (xs:=aod) (w:=none) (M':=M) (λ k=>f9 [η k,(ad3 k).enc]) (adR k (j∈(ad3 k).js)) (aCQ k (η k)) (λ ρ=>∃y z,ρ=[y,z,alK]) ?_ trivial (ah7 none none) (ajK x) (Dg hl)]
 ·rw[ab2 (bZ (by rw[amm (ai5 (List.length_filter_le _ _) (by rw[Ω List.length_range hl]))]))]
 ·unfold iE;simp[Pp]
 ·obtain⟨y,z,rfl⟩:=hρ;exact⟨_,rfl,alN _,Ξ,λ _=>Ξ⟩
def fR aNB aNd aPM(hl:aoI):iB (gY dF) [afa,η n,η j] M=.ok (auR n) M:=by
 have loop:∀(xs:ae6)(y:akQ),aF (wQ none (gN 3) (bx (aW (aB (dX true) d8 f7)) (bJ d8) fe) (xs.map alX)) (adC (dC .bh)) [aiM,abS n,alK,y] M=.rt (aiA (xs.find? (aiY k k n))) M:=by
  intro xs
  induction xs with
  | nil=>intro y;rfl
  | cons x xs ih =>
   intro y;rw[age (x=n)]
   ·subst h;have:=ih t7;simp[wQ] at this ⊢;rw[aqc]
   ·have h':¬aDc=n:=b6
    simp[wQ,h,h',bM]
 simp only[iB,fQ];have:=loop azY none;simp only[Tl] at this ⊢;rw[af2 (To (w:=none) (M':=M) (dZ (by rw[amm (iO ps j M hl)])) trivial)];rw[ayc];rw[this];simp[Po,beyond,Bool.and_comm]
universe Sb
universe zE
section
namespace Sb
open PySem L2
def XC aM9 aNR:b8 (PV.lO n amV):=zw (alS (by
 rw[aiC hx];rcases hx with rfl | rfl | rfl<;>simp))
def Pq aM9 aNL:b8 (PV.lO n an6):=Ko (alS (by
 obtain⟨s,_,rfl⟩:=List.mem_map.mp hx;exact XC s))
def aap aM9(r:Rt):b8 (PV.lO n (Cj r)):=zw (alS (by
 rw[aiC hx];rcases hx with rfl | rfl
 ·simp
 ·exact Pq _))
def vT aM9 aNq aQq(h:∀a,b8 (PV.lO n anJ))(as:afK):b8 (PV.lO n (ς (as.map enc))):=Ko (alS (by
 obtain⟨a,_,rfl⟩:=List.mem_map.mp hx;exact h a))
abbrev oI aOw:aqb HB (Int->ajM (asx HB))
 | 0,_,_,_=>[]
 | n+1,way,j,a=>if a∈asJ then[] else agj (aIH aDr) o (match auu with
  | none=>[way++[(a,j,o)]]
  | akd=>if (o,b)∈ss then[way++[(a,j,o)]] else oI ps ss n (way++[(a,j,o)]) o b)
def AL aN9 aNU:ag4 (vQ p j) 2:=by
 cases p with
 | pl a b=>exact List.length_filter_le _ _
 | pt t s b=>rw[am2 vQ]; split<;>simp
def nM aOL aQ5 aQd(h:beyond ps a j=akd):aiG b/\b≠a/\j∈(ad3 b).js:=by
 rw[ajd beyond];rw[ain (List.mem_of_find?_eq_some h) (List.find?_some h)];simp at h1 h2;rw[Lb h1 h2.1 h2.2]
def oJ aOa{f:α->aGK}aNf:∀aP1,(arl x (ag4 (f x) k))->ag4 (xs.flatMap f) (xs.length*k)
 | [],_=>Ξ
 | x::xs,h=>by
  rw[ain (h x Ξ) (oJ xs (alf y (h y (d7 hy))))];rw[List.flatMap_cons,List.length_append,zE,Nat.succ_mul];omega
abbrev ke aOw aRJ aNU aOo(o:Int):asx HB:=match auu with
  | none=>[way++[(a,j,o)]]
  | akd=>if (o,b)∈ss then[way++[(a,j,o)]] else oI ps ss n (way++[(a,j,o)]) o b
def l9 aOw aRJ aNU aOo:oI ps ss (n+1) way j a=if a∈asJ then[] else(aIH aDr) (ke ps ss n way j a):=rfl
def nN aOw:∀aRJ aNU aOo,ag4 (oI ps ss n way j a) (2 ^ n)
 | 0,way,j,a=>aog
 | n+1,way,j,a=>by
  rw[l9];split
  ·simp
  ·have h:∀o∈aDr,ag4 (ke ps ss n way j a o) (2 ^ n):=λ o _=>by
    have:=Nat.one_le_two_pow (n:=n)
    unfold ke;split
    ·rw[aqc]
    ·split
     ·rw[aqc]
     ·exact nN ps ss n _ _ _
   rw[ain (oJ _ h) (Nat.mul_le_mul_right (2 ^ n) (AL (ad3 a) j))];rw[ahX Nat.pow_succ]
def vU aOw aRJ aNU aOo(o:Int):ag4 (ke ps ss n way j a o) (2 ^ n):=by
 have:=Nat.one_le_two_pow (n:=n)
 unfold ke;split
 ·rw[aqc]
 ·split
  ·rw[aqc]
  ·exact nN ps ss n _ _ _
def Kr aM9(h:n≤20):2 ^ n≤1048576:=Nat.pow_le_pow_right d6 h
structure vV aNB(way:HB)aOo:Prop where
 qA:axc 16
 lt:aiG a
 nd:af0 asJ
 all:aho way (aiG s.1)
def vV.step aOL{way:HB}aQ5{j o:Int}(h:aDu)(ha:a∉asJ)(hb:auu=akd):vV ps (way++[(a,j,o)]) b:=by
 rw[an1 h.qA (nM hb).1 ?_ anV]
 ·rw[List.map_append,List.nodup_append];rw[ab8 h.nd Ξ (acE x hx y hy)];simp at hy;subst hy;rintro rfl;exact ha hx
 ·rcases aJn with hs | hs
  ·exact h.all s hs
  ·rw[axF hs hs h.lt]
def md:∀aM9{xs:ae6},xs.Nodup->(arl x (x<n))->asH n
 | 0,xs,_,hl=>by
  cases xs with
  | nil=>simp
  | cons x xs=>rw[ajQ (hl x Ξ) b6]
 | n+1,xs,h,hl=>by
  rw[d9 h1 (af0 (xs.erase n)) (h.erase n) h2 (anZ (xs.erase n) (x<n)) (alS (by
   rw[aev h3 (hl x (List.mem_of_mem_erase hx)) h4 (x≠n) (adD (by subst e; exact(h.not_mem_erase) hx))]
   omega))]
  rw[aaa h3 (md h1 h2) h4 (List.length_erase_le (a:=n) (l:=xs))];by_cases hm:n∈xs
  ·rw[List.length_erase_of_mem hm] at h3;omega
  ·rw[List.erase_of_not_mem hm] at h3;omega
def vV.len aOL{way:HB}{a:Nat}(h:aDu):avs way.length:=by
 have:=md h.nd (alS (by
  rw[aiN s hs hx];exact h.all s hs))
 simpa using this
abbrev Ks aNd aNe:Prop:=∀ps ss way j a M,aDu->ps.length+1≤way.length+n->n≤20->g [afa,ahJ,bF way,η j,η a] M=.ok (ς ((oI ps ss n way j a).map bF)) M
def Pr{way:HB}{a:Nat}aNb:aBI (η a) (ς (way.map (axl s s.1))) M=.ok (.bl (aea a asJ)) M:=by
 have e:(way.map (axl s s.1))=ax1 (way.map λ s=>aae (aez s.1)).map:=Ξ
 rw[e,vP]
 have:(aae a∈way.map λ s=>aae (aez s.1))↔a∈asJ:=by
  simp only[List.mem_map];constructor
  ·rintro⟨s,hs,h⟩;rw[Lb s hs b6]
  ·rintro⟨s,hs,h⟩;rw[Lb s hs b6]
 simp only[this];rfl
def Ps aNT{way:HB}aNr(h:ajx i aBX)(hl:air way.length):dN false ajw (agk (ae i)) (gN 0) yH akm ρ M=.ok (ς (way.map (axl s s.1))) M:=by
 rw[cj (xs:=way) (w:=none) (M':=M) aI (λ _=>true) (aua s s) (aiz [y]) (dZ (aoU h)) trivial aiH (ajK x) (ad0 hl)]
 ·rw[amK,bZ (by rw[ak4 hl])]
 ·rw[afF y rfl hρ (aa9 _ rfl adE (λ _=>atG))]
def XD aM9 aOZ(h:Ks n g):Ks (n+1) (ayL (yg (jK dF) (iB (gY dF)) g)):=by
 intro ps ss way j a M ok hn Sh;rw[aos hl ok.len hf ok.qA (pN.trunc ?_ (vT Pq _))];refine cN (P:=λ r=>∃G,r=.ok _ (M++G)) ?_;simp only[zC,zD,zE,zF,Nat.zero_add,Nat.reduceAdd,Nat.reduceSub,List.replicate,zG,zH]
 rw[ag6 DZ (aW (aB (mG false) aau aHp) [aiM,aoE,aBX,alK,aC3,none,none,none,none] M=.ok (aea a asJ) M) (by
  simp only[br,aD,az,zB,zA,ag];rw[Ps (way:=way) 2 rfl b6];rw[akT Pr]) (ayg _ _ DZ (f6 ha) ha)]
 ·rw[DB NR (of_decide_eq_true ha) (bw (ς []) M Ξ (cM (aT (aik []))))];rw[l9,if_pos NR];simp
 ·rw[DB NR (of_decide_eq_false ha) (cX (adg (acX adM (M++[ς []]) Ξ)))];rw[aeZ (aH (gR PV.int (aiT (∃y6 y7 y8,ρ=[aiM,aoE,aBX,alK,aC3,ahD,y6,y7,y8]/\M'=M++[ς ((ahM).map bF)])) aDr none _
   (dZ (aeU (vS ok.lt) iQ)) trivial aLl ?_ ?_))]
  ·rintro pre o post hx ρ M' ⟨y6,y7,y8,rfl,rfl⟩
   have kG:ag4 ahM (2*2 ^ n):=by
    rw[aev h1 (oJ pre λ o _=>vU ps ss n way j a o) h2 (pre.length≤2) (by
     have:=AL (ad3 a) j;rw[aia hx this this];omega)]
    exact ai5 h1 (Nat.mul_le_mul_right _ h2)
   rw[aaa Gp (vU ps ss n way j a o) Lv (Kr (n:=n) b6)]
   refine amh;rw[aeZ (acX (bF (way++[(a,j,o)])) (M++[ς ((ahM).map bF)]) (by simp[aI]; rw[bZ (by rw[aer])]; simp[aI]))]
   rw[aeZ (acX (aiA auu) (M++[ς ((ahM).map bF)]) (d7 (fR _ _ _ _ (show aoI by omega))))]
   rw[acB]
   rw[List.flatMap_append,List.flatMap_cons,List.flatMap_nil,zI];cases hb:auu with
   | none =>
    refine Gj (M++[ς ((ahM).map bF)]) aIw (cG .bh (M++[ς ((ahM++[way++[(a,j,o)]]).map bF)]) (by simp[fm,Cc,lim,-List.length_flatMap];omega) (agV (aa9 _ _ _ ?_)));simp[ke,hb]
   | some b =>
    refine ayg (aea (o,b) ss) (M++[ς ((ahM).map bF)]) aIw (f6 hs) hs
    ·rw[DB sd (of_decide_eq_true hs) (cG .bh (M++[ς ((ahM++[way++[(a,j,o)]]).map bF)]) (by simp[fm,Cc,lim,-List.length_flatMap];omega) (agV (aa9 _ _ _ ?_)))];simp[ke,hb,sd]
    ·rw[aaa sd (of_decide_eq_false hs) hg (h ps ss (way++[(a,j,o)]) o b (M++[ς ((ahM).map bF)]) (ok.step NR hb) (by rw[aer]) b6)];simp only[ke,hb,if_neg sd] at Gp ⊢;refine apg .bh (M++[ς ((ahM++oI ps ss n (way++[(a,j,o)]) o b).map bF)]) (agV (aa9 _ _ _ rfl));simp[bM,zp,Cc] at hg ⊢;rw[hg];simp[lim,-List.length_flatMap];omega
  ·rintro ρ' M' ⟨y6,y7,y8,rfl,rfl⟩;refine adg (bw (ς ((oI ps ss (n+1) way j a).map bF)) (M++[.gone]) ?_ (aT (akG [.gone])));rw[l9,if_neg NR];simp[D3]
universe Sb
universe zE
end
mutual
section
namespace Sb
open PySem L2
def aeb aNd:Fx 0 n=(alq).map (ahC (aez k) k):=by
 rw[aoa Fx (List.map_congr_left λ k _=>?_)];simp
def AM aNp aNT aM9(h:abO=.ok (η n) M)(hn:n≤100000):Al [d] ρ M=aw0 .ok (alq).map M:=by
 have e:fF [d] ρ M=.ok [η n] M:=by rw[au,h]; rfl
 rw[apH Al e ag]
 have h62:aae 2 ^ 62=4611686018427387904:=aKN
 rw[h62,if_pos aCa,Int.toNat_natCast,aeb]
def sl1 aN9 aNi:FU false p.enc akV none M=.ok (f9 (p.js.map η)) M:=by cases p<;>rfl
def nU aN9 aPM:qQ [p.enc,η j] M=.ok (gJ (vQ p j)) M:=by
 cases p with
 | pl a b =>
  simp only[qQ,fQ,Pc.enc]
  simp;rw[cj (xs:=[a,b]) (w:=none) (M':=M) PV.int (aiY o o j) PV.int (aiz [y,alK]) (Pj (sl1 (.pl a b) M)) trivial aiH (ajK x) (ad0 (show 2≤3 by decide))]
  ·rw[ab2 (bZ (by rw[amm (ai5 (List.length_filter_le _ _) (show air 2 by decide))]))]
  ·rw[afF y rfl hρ ⟨_,rfl,adE,Ξ,λ _=>Ξ⟩]
 | pt t s b =>
  simp only[qQ,fQ,Pc.enc];simp;by_cases h:j=t<;>simp[h,vQ]
def jF aNB aNd aPM(hl:aoI):ny [afa,η n,η j] M=.ok (auR n) M:=by
 rw[ajh ny (r=.ok (auR n) M)];simp only[zC,zD,zE,zF,Nat.zero_add,Nat.reduceAdd,Nat.reduceSub,List.replicate,zG,zH];rw[aga (iM ((aod).filter λ k=>aif (k≠n) (aea j (ad3 k).js))) M ?_]
 ·rw[cj (xs:=aod) (w:=none) (M':=M) (ahC (aez k) k) (λ k=>aif (k≠n) (aea j (ad3 k).js)) (ahC (aez k) k) (aiz [y,abS n,alK,aiM])
   (AM aCs b6) trivial aiH (axr x hx) (Dg hl)]
  ·rw[bZ (by rw[ak4 (ai5 (List.length_filter_le _ _) (by rw[Ω List.length_range hl]))])]
  ·rw[alk y hρ];rw[ahq hx' (aiG x) (List.mem_range.mp hx) ⟨_,rfl,adE,?_,λ _=>Ξ⟩];rw[ah3 x n]
   ·simp[e]
   ·have e':¬aDc=n:=b6
    simp[e,e',vS hx',sl1]
 ·rw[aeZ (bw (auR n) M ?_ (aT rfl))]
  have hb:beyond ps n j=((aod).filter λ k=>aif (k≠n) (aea j (ad3 k).js)).head? := by
   rw[acu beyond List.head?_filter]
  cases e:((aod).filter λ k=>aif (k≠n) (aea j (ad3 k).js)) with
  | nil=>rw[hb,e]; simp[jr,bM]
  | cons x xs =>
   rw[hb,e];simp[jr,bM];exact auq
abbrev Kt aNd aNe:Prop:=∀ps ss way j a M,aDu->ps.length+1≤way.length+n->n≤20->g [afa,ahJ,bF way,η a,η j] M=.ok (ς ((oI ps ss n way j a).map bF)) M
abbrev Ts aNe:Prop:=∀aN9 aPM,g [aLc,η j] M=.ok (gJ (vQ p j)) M
abbrev vW aNe:Prop:=∀aNB aNd aPM,aoI->g [afa,η n,η j] M=.ok (auR n) M
def XE aM9{go gb g:D1}(ho:Ts go)(RQ:vW gb)(h:Kt n g):Kt (n+1) (ayL (uI go gb g)):=by
 intro ps ss way j a M ok hn Sh;rw[aos hl ok.len hf ok.qA (pN.trunc ?_ (vT Pq _))];rw[ajh uI (∃G,r=.ok _ (M++G))];simp only[zC,zD,zE,zF,Nat.zero_add,Nat.reduceAdd,Nat.reduceSub,List.replicate,zG,zH];rw[aga adM (M++[ς []]) Ξ]
 rw[acB]
 rw[ag6 DZ (aW (aB (mG false) d8 aHp) [aiM,aoE,aBX,aC3,alK,ahD,none,none,none] (M++[ς []])=.ok (aea a asJ) (M++[ς []])) (by
  simp only[br,aD,az,zB,zA,ag];rw[Ps (way:=way) 2 rfl b6];rw[akT Pr]) (ayg _ _ DZ (f6 ha) ha)]
 ·rw[DB NR (of_decide_eq_true ha) (bw (ς []) (M++[.gone]) (d7 D3) (cM (aT (aik [.gone]))))];rw[l9,if_pos NR];simp
 ·rw[DB NR (of_decide_eq_false ha) (cX (akB (gR PV.int (aiT (∃y6 y7 y8 G,ρ=[aiM,aoE,aBX,aC3,alK,agA (aso M G),y6,y7,y8]/\M'=(M++G)++[ς ((ahM).map bF)])) aDr none (M++[ς []])
   (dZ (aeU (vS ok.lt) (ho (ad3 a) j))) trivial ⟨none,none,none,[],Ξ,Ξ⟩ ?_ ?_)))]
  ·rintro pre o post hx ρ M' ⟨y6,y7,y8,G,rfl,rfl⟩
   have kG:ag4 ahM (2*2 ^ n):=by
    rw[aev h1 (oJ pre λ o _=>vU ps ss n way j a o) h2 (pre.length≤2) (by
     have:=AL (ad3 a) j;rw[aia hx this this];omega)]
    exact ai5 h1 (Nat.mul_le_mul_right _ h2)
   rw[aaa Gp (vU ps ss n way j a o) Lv (Kr (n:=n) b6)]
   refine amh;generalize RJ:M++G=M1;rw[aeZ (acX (bF (way++[(a,j,o)])) (M1++[ς ((ahM).map bF)]) (by simp[aI]; rw[bZ (by rw[aer])]; simp[aI]))]
   rw[aeZ (acX (aiA auu) (M1++[ς ((ahM).map bF)]) (d7 (RQ ps a o _ b6)))]
   rw[acB]
   rw[List.flatMap_append,List.flatMap_cons,List.flatMap_nil,zI];cases hb:auu with
   | none =>
    refine Gj (M1++[ς ((ahM).map bF)]) aIw (cG .bh (M1++[ς ((ahM++[way++[(a,j,o)]]).map bF)]) (by simp[fm,Cc,lim,-List.length_flatMap];omega) (aqr _ _ _ G (agK RJ) ?_));simp[ke,hb,RJ]
   | some b =>
    refine ayg (aea (o,b) ss) (M1++[ς ((ahM).map bF)]) aIw (f6 hs) hs
    ·rw[DB sd (of_decide_eq_true hs) (cG .bh (M1++[ς ((ahM++[way++[(a,j,o)]]).map bF)]) (by simp[fm,Cc,lim,-List.length_flatMap];omega) (aqr _ _ _ G (agK RJ) ?_))];simp[ke,hb,sd,RJ]
    ·rw[aaa sd (of_decide_eq_false hs) hg (h ps ss (way++[(a,j,o)]) o b (M1++[ς ((ahM).map bF)]) (ok.step NR hb) (by rw[aer]) b6)];simp only[ke,hb,if_neg sd] at Gp ⊢
     refine yi (ο (M1.length+1)) ((M1++[ς ((ahM).map bF)])++[ς ((ahM++oI ps ss n (way++[(a,j,o)]) o b).map bF)]) ?_ (aqr (abS o) (c8 (bF (way++[(a,j,o)]))) aCY (G++[ς ((ahM).map bF)]) ?_ ?_)
     ·simp[bM] at hg ⊢;rw[hg];simp[dn];rw[af2 (lr (by simp[lim,-List.length_flatMap];omega))]
     ·rw[← List.append_assoc,RJ];simp
     ·rw[← List.append_assoc,RJ]
  ·rintro ρ' M' ⟨y6,y7,y8,G,rfl,rfl⟩;refine adg (bw (ς ((oI ps ss (n+1) way j a).map bF)) (M++G++[.gone]) ?_ (aT ⟨G++[.gone],agK List.append_assoc⟩));rw[l9,if_neg NR];generalize M++G=M1;simp[D3]
universe Sb
universe zE
section
namespace L2
open PySem
def AN aNq [BEq α] [LawfulBEq α] aQq aSc aSV aNb:countP (ς (as.map enc)) [anJ] M=.ok (η (as.count a)) M:=by
 rw[am2 countP]
 rw[apu (kB deep _ (hp a)) iX]
 rw[afG (mK (g:=avW) λ z hz=>by
  obtain⟨b,_,rfl⟩:=List.mem_map.mp hz
  exact kB deep _ (hp b))]
 have:((as.map enc).map avW).countP (akK q q aHu)=as.count a:=by
  rw[List.countP_map,List.countP_map];rw[aoa List.count (List.countP_congr (ab7 b _))];rw[aj3 Function.comp (AK deep _ _ (hp b) (hp a))];simp only[beq_iff_eq];rw[aab (adD (inj _ _ e)) (λ e=>agK e)]
 rw[this]
def gT2{i j:Nat}aQB{ρ:fk}:gT 2 (dH (gN i) (aqu j)) (f9 [x,y]) ρ=ab1 (ρ.set i ad5).set j anD:=rfl
universe L2
namespace Sb
open PySem L2
structure oK aOw:Prop where
 Pt:avs 1
 qA:axc 16
 Fx:ae8 ps (∀j∈p.js,0≤j/\j≤999)
 once:aCy
 two:∀j,ag4 (Po ps j) 2
 AO:ss.length≤16
 nd:ss.Nodup
 sg:aho ss (aiG s.2/\s.1∈(ad3 s.2).js)
abbrev Tt aNe:Prop:=∀aNB aPM,aoI->g [afa,η j] M=.ok (iM azY) M
abbrev El aNe:Prop:=∀aN9 aNi,g ayy M=.ok (gJ p.js) M
abbrev ra aNe aOk:Prop:=∀M,g xs M=.ok .bh M
def ij aN7{gp:D1}(hp:Tt gp)aOL(hl:aoI)(h2:∀j,ag4 (Po ps j) 2){js:abE}(hr:∀j∈js,0≤j/\j≤999)(hn:js.Nodup):ra (j4 c gp) [afa,gJ js]:=by
 intro M
 rw[ajh j4 (r=.ok .bh M)];simp only[zC,zD,zE,zF,Nat.zero_add,Nat.reduceAdd,Nat.reduceSub,List.replicate,zG,zH];refine gR PV.int (aiT (∃y2,ρ=[aiM,axi js,y2]/\M'=M)) js none M (dZ rfl) trivial aLj ?_ ?_
 ·rintro pre j post hx ρ M' ⟨y2,rfl,rfl⟩
  have hj:j∈js:=by rw[ak8]
  rw[anc r1 r2 (hr j hj) hc (js.count j≤1) (List.nodup_iff_count.mp hn j)];refine amh;rw[aeZ (aH (o5 M' ?_ (cX (akB (o5 M' ?_ (cX (adg (o5 M' ?_ (cX aHn)))))))))]
  ·simp[HZ,Hy];rw[afZ b6];simp[r2]
  ·simp[Hy,AN (enc:=PV.int) (λ a=>jO a) (λ a b e=>by cases e; rfl)];omega
  ·simp[hp ps j _ hl,cu,Hy];rw[aeq (h2 j)]
 ·rintro ρ' M' ⟨y2,rfl,rfl⟩;exact atF
def ig aN7{gc gj:D1}aPU(hc:ae8 ps (ra gc [afa,gJ p.js]))(hj:El gj):ra (jZ c gc gj) [afa]:=by
 intro M
 rw[ajh jZ (r=.ok .bh M)];simp only[zC,zD,zE,zF,Nat.zero_add,Nat.reduceAdd,Nat.reduceSub,List.replicate,zG,zH];have h1:=hg.Pt
 rw[DB h2 hg.qA (aH (o5 M ?_ (cX (akB (o5 M ?_ atE)))))]
 ·simp[cu];intro h;rw[aia h h1 h1]
 ·simp[cu,Hy];omega
 refine gR Pc.enc (aiT (∃y2,ρ=[aiM,y2]/\M'=M)) ps none M (dZ rfl) trivial aLj ?_ ?_
 ·rintro pre p post hx ρ M' ⟨y2,rfl,rfl⟩;refine amh;rw[aeZ (apg .bh M' aHn)];simp[hj p,hc p (by rw[ak8]) M']
 ·rintro ρ' M' ⟨y2,rfl,rfl⟩;exact atF
def gK aN7{gj:D1}aPU(hj:El gj):ra (jw c gj) [afa,ahJ]:=by
 intro M
 rw[ajh jw (r=.ok .bh M)];simp only[zC,zD,zE,zF,Nat.zero_add,Nat.reduceAdd,Nat.reduceSub,List.replicate,zG,zH];rw[DB h1 hg.AO (aH (o5 M ?_ atE))]
 ·simp[cu,Hy];omega
 refine gR cZ (aiT (∃y2 y3,ρ=[aiM,aoE,y2,y3]/\M'=M)) ss none M (dZ rfl) trivial (agY none none rfl) ?_ ?_
 ·rintro pre s post hx ρ M' ⟨y2,y3,rfl,rfl⟩
  have hs:s∈ss:=by rw[ak8]
  rw[anc r1 r2 (hg.sg s hs) hc (ss.count s≤1) (List.nodup_iff_count.mp hg.nd s)];have Y4:=AN (enc:=cZ) Kq Ek (a:=s) (as:=ss) (M:=M');obtain⟨j,n⟩:=s
  refine amh;rw[aeZ (aH (o5 M' ?_ (cX (akB (o5 M' ?_ (cX (adg (o5 M' ?_ (cX (agV (agY _ _ rfl)))))))))))]
  ·simp[cZ] at Y4 ⊢;rw[Y4];simp[Hy];omega
  ·dsimp only at r1;simp[HZ,ZX,cu];rw[afZ b6];rw[aer]
  ·simp[vS r1,hj (ad3 n)];exact r2
 ·rintro ρ' M' ⟨y2,y3,rfl,rfl⟩;exact atF
def jV{gp gs:D1}aQB(hp:ra gp [x])(hs:ra gs [x,y]):ra (lA gp gs) [x,y]:=by
 intro M;rw[ajh lA (r=.ok .bh M)];exact aH (cG .bh M (d7 (hp M)) (adg (cG .bh M (d7 (hs M)) atF)))
universe Sb
universe zE
section
namespace Sb
open PySem L2
abbrev cy(ss:aeT)aNW:Sg:=ss.getD k (0,0)
def vX{ss:aeT}aM9(h:ax5 n):aor ss n (cy ss n):=by
 unfold cy;rw[aDU h];rfl
def uQ{ss:aeT}aM9(h:ax5 n):cy ss n∈ss:=aJi (vX h)
def AQ{ss:aeT}aM9 aNb(h:ax5 n):agu ahJ n=.ok (cZ (cy ss n)) M:=eX (by rw[zJ,vX h]; rfl)
abbrev fuel:Nat:=17
abbrev pj aOw aNW:afL:=agj (oI ps ss fuel [] (cy ss k).1 (cy ss k).2).map w (k,w)
abbrev cJ aOw:afL:=(aIH (List.range ss.length)) (pj ps ss)
def Tu(ss:aeT):ug (ss.map cZ)=agj (List.range ss.length).map k (f9 [η k,cZ (cy ss k)]):=by
 refine aD3 i
 unfold ug
 rw[zJ,List.getElem?_zipIdx,zJ,zJ]
 rw[age (ax5 i)]
 ·rw[vX h,aJp];simp
 ·rw[ayC,aob (by rw[aer])];rfl
def tN aOw aNW:ag4 (pj ps ss k) 131072:=by
 rw[agC pj zK (nN ps ss fuel _ _ _)]
def XF aPU aNf(hk:ax5 k):vV ps [] (cy ss k).2:=⟨hg.qA,(hg.sg _ (uQ hk)).1,Ξ,Ξ⟩
abbrev oM aNe:Prop:=∀ps ss M,alJ->g [afa,ahJ] M=.ok (hZ aiU) M
def XG aM9(rs:afL):b8 (PV.lO n (hZ rs)):=vT aap rs
def nO aM9 aSS aNf(h:alq=aAm k):k<n/\pre.length<n:=by
 rw[ajg h1 (k∈alq) (by rw[af2 h]) h2 (aEe h)];simp at h1 h2
 omega
def pQ{gc gw:D1}(hc:∀ps ss,alJ->ra gc [afa,ahJ])(hw:Ks fuel gw):oM (ayL (uH gc gw)):=by
 intro ps ss M hg;refine pN.trunc ?_ (XG _);rw[ajh uH (∃G,r=.ok (hZ aiU) (M++G))];simp only[zC,zD,zE,zF,Nat.zero_add,Nat.reduceAdd,Nat.reduceSub,List.replicate,zG,zH];rw[DB hfs hg.AO (aH (cG .bh M (d7 (hc ps ss hg M)) (adg (acX adM (M++[ς []]) Ξ))))];rw[aeZ (aH (gR (aCQ k (PV.tup [η k,cZ (cy ss k)])) (aiT (∃y3 y4 y5,ρ=[aiM,aoE,ahD,y3,y4,y5]/\M'=M++[ς ((atV).map Cj)])) (List.range ss.length) none (M++[ς []])
  (by unfold iE;simp[Tu]) trivial aLl ?_ ?_))]
 ·rintro pre k post hx ρ M' ⟨y3,y4,y5,rfl,rfl⟩;rw[anc hk p7 (nO hx) kG (apv (acL atV)) (by
   have h1:=oJ pre λ k _=>tN ps ss k;omega)]
  rw[ab8 _ gT2 ?_];rw[acB];rw[DB hww (hw ps ss [] (cy ss k).1 (cy ss k).2 (M++[ς ((atV).map Cj)]) (XF hg hk) (by simp;have:=hg.qA;unfold fuel;omega) d6) (gR bF (λ vY ρ M'=>∃y5,ρ=[aiM,aoE,ahD,afc,c8 (cZ (cy ss k)),y5]/\M'=M++[ς ((atV++vY.map λ w=>(k,w)).map Cj)])
   (oI ps ss fuel [] (cy ss k).1 (cy ss k).2) none (M++[ς ((atV).map Cj)]) (dZ (by simp[cZ] at hww ⊢; exact hww)) trivial (anl Ξ) ?_ ?_)]
  ·rintro vY w Vf Pu ρ M' ⟨y5,rfl,rfl⟩
   rw[ahq Lv (vY.length≤131072) (by
    rw[adS h1 (nN ps ss fuel [] (cy ss k).1 (cy ss k).2) Pu h1];simp[fuel] at h1;omega) amh];rw[aeZ (apg .bh (M++[ς ((atV++agj (vY++[w]).map w (k,w)).map Cj)]) aHn)];simp[fm,Cc,Cj,lim,-List.length_flatMap];omega
  ·rintro ρ' M' ⟨y5,rfl,rfl⟩;refine agV (aa9 _ _ _ ?_);rw[List.flatMap_append,List.flatMap_cons,List.flatMap_nil,zI];rfl
 ·rintro ρ' M' ⟨y3,y4,y5,rfl,rfl⟩;exact adg (bw (hZ aiU) (M++[.gone]) (aeU D3 cJ) (aT (akG [.gone])))
def kD{gw:D1}(hw:Kt fuel gw):oM (qR gw):=by
 intro ps ss M hg;rw[ajh qR (r=.ok (hZ aiU) M)];simp only[zC,zD,zE,zF,Nat.zero_add,Nat.reduceAdd,Nat.reduceSub,List.replicate,zG,zH];rw[DB hfs hg.AO (acX (ς []) M Ξ)]
 rw[acB];have hi:Al [aG2] [aiM,aoE,akF [],none] M=aw0 .ok (List.range ss.length).map M:=AM aCs b6
 generalize Al [aG2]=di at hi ⊢
 refine aH (gR (ahC (aez k) k) (aiT (∃y3,ρ=[aiM,aoE,c8 (hZ atV),y3]/\M'=M)) (List.range ss.length) none M
  hi trivial aLj ?_ ?_)
 ·rintro pre k post hx ρ M' ⟨y3,rfl,rfl⟩;rw[anc hk p7 (nO hx) kG (apv (acL atV)) (by
   have h1:=oJ pre λ k _=>tN ps ss k;omega)]
  have Gp:=tN ps ss k;rw[aoJ];rw[DB hww (hw ps ss [] (cy ss k).1 (cy ss k).2 M' (XF hg hk) (by simp;have:=hg.qA;unfold fuel;omega) d6) (yi (hZ ((aIH (agT k)) (pj ps ss))) M' ?_ aHn)];rw[aD];simp only[az,zB,zA,ag]
  rw[cj (xs:=oI ps ss fuel [] (cy ss k).1 (cy ss k).2) (w:=none) (M':=M') bF (λ _=>true) (λ w=>Cj (k,w)) (aiz [y,afc]) (dZ (by simp[AQ hk,cZ] at hww ⊢; exact hww)) trivial aiH (axr x hx)
   (ad0 (nN ps ss fuel _ _ _))]
  ·rw[amK,bT (by rw[aqh (nN ps ss fuel _ _ _)]),ag,qa,bT (by simp[pj,lim,-List.length_flatMap] at Gp ⊢; omega)];simp[pj]
  ·rw[afF y rfl hρ (aa9 _ rfl adE (λ _=>d7 Cj))]
 ·rintro ρ' M' ⟨y3,rfl,rfl⟩;exact adg (bw (hZ aiU) M' (d7 cJ) (aT rfl))
universe Sb
universe zE
section
namespace L2
open PySem
def Tv{M G:bb}aOh:acn (M++o::G) M.length o:=Ξ
def Ku{M G:bb}{o o':MO}:(M++o::G).set M.length o'=M++o'::G:=Ξ
universe L2
namespace Sb
open PySem L2
abbrev vZ aOj(k:Int):Int:=ns.getD (ah4 (k%ns.length)) 0
abbrev iF aOj(k:Int):Int :=
 (aFT (awX+104729*(k+1))*48271%4294967279 / 64*69621+aFT (awX+104729*(k+1))*48271%4294967279)%4294967231
abbrev Gq aNe:Prop:=∀ns k M,g [.m5 ns,η k] M=.ok (η awX) M
abbrev my aNe:Prop:=∀ns k M,g [.m5 ns,η k] M=.ok (η azI) M
def pU:Gq qP:=by
 intro ns k M
 rw[ajh qP (r=.ok (η awX) M)];rw[age (ns=[])]
 ·subst h;rw[alV (o5 M (d7 jr) (cX (adg (bw (η 0) M rfl (aT ?_)))))];simp[vZ]
 ·rw[ag6 hl (0<ns.length) aLG (Gj M (aeU jr h) (bw (η awX) M ?_ (cM (aT rfl))))];rw[ain (aEb k b ns.length) (Int.emod_lt_of_pos k (b:=ns.length) b6)];simp[cu,cx,lQ,hl,aO,Ly,Hx];rw[aml h1 h2]
  have h3:ah4 (k%aae ns.length)<ns.length:=b6
  simp[h3,vZ]
def tu aOZ(h:Gq g):my (tJ g):=by
 intro ns k M
 rw[ajh tJ (r=.ok (η azI) M)];rw[aga (η (aFT (awX+104729*(k+1)))) M ?_]
 ·simp[h ns k M,cx,lQ,la,small]
 rw[aga (η (aFT (awX+104729*(k+1))*48271%4294967279)) M ?_]
 ·simp[cx,lQ,la,small]
 refine bw (η azI) M ?_ (aT rfl);simp[cx,dR,lQ,la,small,iF]
def uR aOj(k:Int):0≤azI:=Int.emod_nonneg _ d6
universe Sb
universe zE
section
namespace Sb
open PySem L2
abbrev cnt aNB aNU:Nat:=acL (ps.filter (adR p (j∈p.js)))
def Tw aNB aNU:acL azY=aDn:=by
 unfold Po cnt
 have:ps=(aod).map (Pc.at ps):=by
  rw[ahn (aD3 i) zJ];rw[age (aiG i)]
  ·rw[tM h,aJp]; rfl
  ·rw[ayC,aob (by rw[aer])]; rfl
 conv=>rhs; rw[this]
 rw[List.filter_map,zK];rfl
def Gr aNB aN9 aNU:cnt (ps++[p]) j=aDn+al8 j p.js 1 0:=by
 rw[af7 cnt List.filter_append List.length_append]
 congr 1
 by_cases h:j∈p.js<;>simp[h]
abbrev fresh(c:Int)aNr:Int:=(c+37*i)%1000
def Mf(c:Int)aNr:0≤awM/\awM≤999:=by
 unfold fresh;omega
def xm(c:Int){i k:Nat}(hi:i<27)(hk:k<27)(h:awM=fresh c k):i=k:=by
 rw[ajd fresh];omega
structure Mg(c:Int)aNB(loose:abE)(many:Nat):Prop where
 qA:many≤3*ps.length
 old:ae8 ps (∀j∈p.js,∃i,i<many/\j=awM)
 once:aCy
 two:∀j,aDn≤2
 lo:∀j∈loose,aDn≤1/\∃i,i<many/\j=awM
structure Mh(c:Int)(loose:abE)(m0 many:Nat)(ends:abE):Prop where
 nd:ends.Nodup
 le:m0≤many
 src:∀j∈ends,j∈loose\/∃i,m0≤i/\i<many/\j=awM
abbrev Pw:abE->Pc
 | [j,k]=>.pl j k
 | [t,s,b]=>.pt t s b
 | _=>.pl 0 0
def Tx{ends:abE}aSM:(aBW).js=ends:=by
 rcases ends with _ | ⟨a,_ | ⟨b,_ | ⟨d,_ | ⟨e,r⟩⟩⟩⟩
 ·rw[ao2]
 ·rw[ao2]
 ·rfl
 ·rfl
 ·rw[ao2]
def Px aOL aQd(h:ae8 ps (j∉p.js)):aDn=0:=by
 rw[af7 cnt List.length_eq_zero_iff List.filter_eq_nil_iff];intro p hp;simp[h p hp]
def Py{c:Int}aOL aSk aUv(hm:many≤3*(ps.length+1))(h24:many≤24)aSM :
  Mg c (ps++[aBW]) (ends.filter (adR j (j∉loose))++loose.filter (adR j (j∉ends))) many:=by
 rw[aev hj (Tx h) ko (∀i,m0≤i->i<many->cnt ps awM=0) (λ i h1 h2=>Px λ p hp hm=>by
  obtain⟨i',h3,h4⟩:=I.old p hp _ hm;rw[aeq (xm c b6 b6 h4)])]
 refine⟨by rw[Ω List.length_append hm],acE p hp j hm,asd,f6 j,ab7 j hm⟩
 ·rcases aD9 with hp | hp
  ·rw[agl i h1 h2 (I.old p hp j hm) i (aI9 h1) h2]
  ·rw[aiC hp];rw[akS hp hj hm];rcases E.src j hm with h1 | ⟨i,_,h1,h2⟩
   ·obtain⟨_,i,h2,h3⟩:=I.lo j h1;rw[Lb i (aI9 h2) h3]
   ·rw[Lb i h1 h2]
 ·rcases aD9 with hp | hp
  ·exact I.once p hp
  ·rw[aiC hp];subst hp;rw[Ω hj E.nd]
 ·rw[Gr,hj];have:=I.two j;split
  ·rename_i hm;rcases E.src j hm with h1 | ⟨i,h0,h1,rfl⟩
   ·rw[aeq (I.lo j h1).1]
   ·rw[ahX (ko i h0 h1)]
  ·omega
 ·rw[Gr,hj];rcases aJm with hm | hm
  ·rw[amv aJk]
   rw[aoe h2 h2];rcases E.src j h1 with h3 | ⟨i,h0,h3,rfl⟩
   ·rw[afS h3 h2]
   ·rw[ko i h0 h3,aKY];exact⟨b6,i,h3,rfl⟩
  ·rw[amv aJk];rw[aoe h2 h2];rw[afZ h2];rw[afr h3 i h4 h5 (I.lo j h1) ⟨h3,i,aI9 h4,h5⟩]
def Pz{c:Int}aSk aTp aQd(h1:j∈loose)(h2:j∉ends):Mh c loose m0 many (ends++[j]):=by
 rw[ab8 ?_ E.le (ab7 k hk)]
 ·rw[List.nodup_append];rw[ab8 E.nd Ξ (acE a ha b hb)];simp at hb;subst hb;rintro rfl;exact h2 ha
 ·rcases aLW with hk | hk
  ·exact E.src k hk
  ·rw[axF hk hk (b4 h1)]
def PB{c:Int}aOL aSk aUv(h24:many<24):Mh c loose m0 (many+1) (ends++[fresh c many]):=by
 have hn:fresh c many∉ends:=λ h=>by
  rcases E.src _ h with h1 | ⟨i,h0,h1,h2⟩
  ·obtain⟨_,i,h2,h3⟩:=I.lo _ h1;have:=xm c b6 (by rw[aeq E.le]) h3;rw[aeq E.le]
  ·rw[aeq (xm c b6 b6 h2)]
 rw[ab8 ?_ (Nat.le_succ_of_le E.le) (ab7 k hk)]
 ·rw[List.nodup_append];rw[ab8 E.nd Ξ (acE a ha b hb)];simp at hb;subst hb;rintro rfl;exact hn ha
 ·rcases aLW with hk | hk
  ·rcases E.src k hk with h1 | ⟨i,h0,h1,h2⟩
   ·exact b4 h1
   ·exact b9 ⟨i,h0,b6,h2⟩
  ·rw[axF hk hk (b9 ⟨many,E.le,b6,rfl⟩)]
structure Gs aNB:Prop where
 Pt:avs 1
 qA:axc 8
 Fx:ae8 ps (∀j∈p.js,0≤j/\j≤999)
 once:aCy
 two:∀j,ag4 (Po ps j) 2
def Mg.good{c:Int}aOL{loose:abE}{many:Nat}(I:Mg c ps loose many)(h1:avs 1)(h8:axc 8):aC1 :=
 ⟨h1,h8,λ p hp j hj=>by obtain⟨i,_,rfl⟩:=I.old p hp j hj; exact Mf c i,I.once,λ j=>by rw[Ω Tw (I.two j)]⟩
universe Sb
universe zE
end
mutual
section
namespace Sb
open PySem L2
def PC aNT{xs ys:abE}{i k:Nat}{y:PV}(hi:ajx i (axi xs))aTx(hl:aBZ) :
  dN false (aoM aeK) (agk (ae i)) (gN 0) (af4 (mG true) b7 f7) b7 ρ M=.ok (gJ (xs.filter (adR j (j∉ys)))) M:=by
 rw[cj (xs:=xs) (w:=none) (M':=M) PV.int (adR j (j∉ys)) PV.int (λ ρ=>∃z,ρ=[z,anD]) (dZ (aoU hi)) trivial ⟨none,aeU D7 hk⟩ (ajK x) (ad0 hl)]
 ·rw[bZ (by rw[ak4 (aq2 (List.length_filter_le _ _) hl)])]
 ·rw[alk z hρ];refine⟨_,rfl,adE,?_,λ _=>Ξ⟩;simp[ph (neg:=true) (enc:=PV.int) (λ a=>jO a) (λ a b e=>by cases e; rfl) hy]
def Tz aNT{xs ys:abE}{i k n:Nat}{y:PV}(hi:ajx i awF)(hn:auF n aFC)aTx(hl:aBZ) :
  dN false (aoM aeK) (agk (ae i)) (gN 0) (af4 (mG true) b7 f7) b7 ρ M=.ok (gJ (xs.filter (adR j (j∉ys)))) M:=by
 rw[cj (xs:=xs) (w:=ahU n (ς aFC)) (M':=M) PV.int (adR j (j∉ys)) PV.int (λ ρ=>∃z,ρ=[z,anD]) (Ei (aoU hi) hn) hn ⟨none,aeU D7 hk⟩ (ajK x) (ad0 hl)]
 ·rw[bZ (by rw[ak4 (aq2 (List.length_filter_le _ _) hl)])]
 ·rw[alk z hρ];refine⟨_,rfl,adE,?_,λ _=>Ξ⟩;simp[ph (neg:=true) (enc:=PV.int) (λ a=>jO a) (λ a b e=>by cases e; rfl) hy]
def TC{xs:abE}{n:Int}aNb(h:agx xs)(hn:0≤n):∃j∈xs,agu (gJ xs) (n%(if aA2<4 then(xs.length:Int) else 4))=.ok (η j) M:=by
 rw[d9 hl (axk 0) aLG hd (auk<(if aA2<4 then(xs.length:Int) else 4)) (by split<;>omega)]
 have hle:aBc (if aA2<4 then(xs.length:Int) else 4):=by split<;>omega
 generalize (if aA2<4 then(xs.length:Int) else 4)=d at hd hle;rw[ain (aEb n b d) (Int.emod_lt_of_pos n hd)];rw[aIW i hi h1];rw[hi]
 have h3:aqw:=b6
 rw[Lb xs[i] (List.getElem_mem h3) (eX (by rw[zJ,List.getElem?_eq_getElem h3];rfl))]
def TF{ends:abE}aNb aSM:∃z,agu (ς [av6,av4]) (aae ends.length-2)=.ok z M/\(aBW).enc=f9 (z::ends.map η):=by
 rcases ends with _ | ⟨a,_ | ⟨b,_ | ⟨d,_ | ⟨e,r⟩⟩⟩⟩
 ·rw[ao2]
 ·rw[ao2]
 ·rw[amU av6 auq]
 ·rw[amU av4 (eX (i:=1) rfl)]
 ·rw[ao2]
abbrev Kv aNe:Prop:=∀ns(b:Int) M,∃ps,aC1/\g [.m5 ns,η b] M=.ok afa M
def PD aM9{xs:abE}{z:Str}:b8 (PV.lO n (f9 (b5 z::aFC))):=zw (alS (by
 rcases aL6 with rfl | hx
 ·simp
 ·obtain⟨i,_,rfl⟩:=List.mem_map.mp hx;simp))
def XH aM9 aN9:b8 (PV.lO n p.enc):=by
 cases p with
 | pl j k=>exact PD (xs:=[j,k])
 | pt t s b=>exact PD (xs:=[t,s,b])
def iR{gm:D1}aPH:Kv (ayL (nz gm)):=by
 intro ns b M
 suffices h:∃ps G,aC1/\nz gm [.m5 ns,η b] M=.ok afa (M++G) by
  rw[afr ps G hg e h ⟨ps,hg,pN.trunc ⟨G,e⟩ (vT XH _)⟩]
 rw[ajh nz (∃ps G,aC1/\r=.ok afa (M++G))];simp only[zC,zD,zE,zF,Nat.zero_add,Nat.reduceAdd,Nat.reduceSub,List.replicate,zG,zH];rw[aga adM (M++[ς []]) Ξ];rw[aeZ (acX (ς []) (M++[ς []]) Ξ)]
 rw[aeZ (acX (η 0) (M++[ς []]) Ξ)]
 rw[acB];rw[aIW n hn (show 0≤1+iF ns b%8 by rw[aeq (uR ns b)])]
 rw[d9 hn8 (1≤n/\n≤8) (by rw[aeq (uR ns b)]) hi (Al [(aB (dn false) (Θ 1) (aB cx (aw gm (agU f7)) (Θ 8)))] [aiR .m5,arY,ahD,akF [],abS 0,none,none,none,none,none,none] (M++[ς []])
   = aw0 .ok (alq).map (M++[ς []])) (AM (by simp[hm ns b,cx,lQ,hn]) b6)]
 generalize Al [(aB (dn false) (Θ 1) (aB cx (aw gm (agU f7)) (Θ 8)))]=di at hi ⊢
 refine aH (gR (ahC (aez k) k) (aiT (∃y5 y6 y7 y8 y9 XI G ps loose many,ρ=[aiR .m5,arY,ahD,aGf,avG (aez many),y5,y6,y7,y8,y9,XI] ∧
   M'=M++ς aEP::G/\ps.length=pre.length/\loose.length≤3*pre.length/\Mg (akA (b+9)) ps loose many)) alq none (M++[ς []]) hi trivial ?_ ?_ ?_)
 ·exact⟨none,none,none,none,none,none,[],[],[],0,rfl,rfl,rfl,Ξ,⟨Ξ,Ξ,Ξ,d7 cnt,Ξ⟩⟩
 ·rintro pre k post hx ρ M' ⟨y5,y6,y7,y8,y9,XI,G,ps,loose,many,rfl,rfl,p7,hll,I⟩;obtain⟨hk,Z9⟩:=nO hx
  refine amh;generalize RJ:M++ς aEP::G=M1;rw[aeZ (acX (η (akA (b+1+k))) M1 (d7 aCZ))]
  rw[aeZ (acX (ο M1.length) (M1++[ς []]) Ξ)]
  rw[acB]
  obtain⟨n2,Sh,ahp⟩:∃n2:Nat,aae 2+(if akA (b+1+k)%5<3 then 1 else 0)=n2/\(n2=2\/n2=3):=by
   split
   ·exact afT 3 (b9 rfl)
   ·exact afT 2 (b4 rfl)
  have Va:Al [(afw (Θ 2) (aw vD [(aB HZ (aB cx (ae 6) (Θ 5)) (Θ 3))]))] [aiR .m5,arY,ahD,aGf,abS many,afc,abS (akA (b+1+k)),aKa,y8,y9,XI] (M1++[ς []])
    = aw0 .ok (List.range n2).map (M1++[ς []]):=AM (by
   simp[cx,HZ,lQ,vD]
   rw[← Sh]) b6
  generalize Al [(afw (Θ 2) (aw vD [(aB HZ (aB cx (ae 6) (Θ 5)) (Θ 3))]))]=di2 at Va ⊢
  refine aH (gR (ahC (aez k) k) (λ vY ρ M'=>∃y8 y9 XI ends qg,ρ=[aiR .m5,arY,ahD,aGf,avG (aez qg),afc,abS (akA (b+1+k)),aKa,y8,y9,XI] ∧
   M'=M1++[ς (ends.map η)]/\avr vY.length/\qg≤many+vY.length/\Mh (akA (b+9)) loose many qg ends) (List.range n2) none (M1++[ς []]) Va trivial ?_ ?_ ?_)
  ·exact⟨y8,y9,XI,[],many,rfl,rfl,rfl,ack,⟨Ξ,ack,Ξ⟩⟩
  ·rintro vY j Vf Pu ρ M' ⟨z8,z9,z10,ends,qg,rfl,rfl,O4,hmm,E⟩;rw[apC hj ahr (nO Pu) Ou I.qA];rw[aoJ]
   generalize Vg:akA (b+10+3*k+j)=pick
   rw[axW hpn (0≤pick) (by rw[abQ Vg (uR _ _)]) (η pick) (M1++[ς (ends.map η)]) (by simp[aCZ,la,small,Vg])];rw[aeZ (acX (gJ (loose.filter (adR j (j∉ends)))) (M1++[ς (ends.map η)]) (PC (ys:=ends) rfl rfl Ξ b6))];obtain⟨L,hLm⟩:∃L,loose.filter (adR j (j∉ends))=L:=adE;rw[hLm];rw[acB]
   have hif:∃t,lx (fw (ae 10)) (af4 HZ (aB cx (ae 9) (Θ 8)) (aoy (aaN [(Θ 7),(Θ 2),(Θ 2)]) 8)) [aiR .m5,arY,ahD,aGf,abS qg,afc,abS (akA (b+1+k)),aKa,alK,abS pick,axi L] (M1++[ς (ends.map η)])
     = .ok t (M1++[ς (ends.map η)])/\(b8 t->agx L):=by
    have hj3:j=0\/j=1\/j=2:=b6
    obtain⟨v,hv⟩:∃v:Int,∀M,agu (ς [η 7,η 2,η 2]) j=.ok (η v) M:=by
     rcases hj3 with rfl | rfl | rfl
     ·rw[aab 7 (λ M=>eX (i:=0) rfl)]
     ·rw[aab 2 (λ M=>eX (i:=1) rfl)]
     ·rw[aab 2 (λ M=>eX (i:=2) rfl)]
    cases L with
    | nil=>rw[Lb false (d7 jr) (nofun)]
    | cons x xs=>rw[Lb (an8 (pick%8) v) (by simp[jr,cx,lQ,HZ,hv]) (λ _=>Ξ)]
   rw[ana t ht dQ hif (ayg t _ ht (f6 ht) _)]
   ·obtain⟨x,hx,hix⟩:=TC (M:=M1++[ς (ends.map η)]) (dQ ht) (n:=pick / 8) b6;obtain⟨hx1,Pu⟩:=List.mem_filter.mp (hLm ▸ hx);rw[ahV (apg .bh (M1++[ς ((ends++[x]).map η)]) (agV ⟨_,_,_,ends++[x],qg,rfl,rfl,d7 O4,by rw[aer],Pz E hx1 (of_decide_eq_true Pu)⟩)) hd (auk<(if aae L.length<4 then(L.length:Int) else 4)) (by
     have:=aLo (dQ ht);split<;>omega)]
    simp[cu,Ie,dR,cx,lQ];rw[if_pos hd,ag,hix];simp[fm,Cc,lim];omega
   ·rw[alV (apg .bh (M1++[ς ((ends++[fresh (akA (b+9)) qg]).map η)]) (adg (yi (η (afh (qg+1))) (M1++[ς ((ends++[fresh (akA (b+9)) qg]).map η)]) Ξ (agV ⟨_,_,_,ends++[fresh (akA (b+9)) qg],qg+1,rfl,rfl,d7 O4,by rw[aer],PB I E b6⟩))))];simp[aCZ,la,small,cx,lQ,fm,Cc,fresh,lim];omega
  ·rintro ρ' M' ⟨z8,z9,z10,ends,qg,rfl,rfl,O4,hmm,E⟩;rw[List.length_range] at O4 hmm;rw[DB Ou I.qA (adg (acX (gJ (ends.filter (adR j (j∉loose))++loose.filter (adR j (j∉ends)))) (M1++[ς (ends.map η)]) ?_))]
   ·rw[aD,Tz (xs:=ends) (ys:=loose) (n:=M1.length) rfl Ξ rfl rfl b6,ag,PC (xs:=loose) (ys:=ends) rfl rfl Ξ b6,ag,qa,← List.map_append,bZ];rw[zK,List.length_append];rw[ain (List.length_filter_le (adR j (j∉loose)) ends) (List.length_filter_le (adR j (j∉ends)) loose)];omega
   ·rw[acB]
    rw[ana z hz1 hz2 (TF (M:=M1++[ς (ends.map η)]) (ends:=ends) b6) (apg .bh (M++ς ((ps++[aBW]).map Pc.enc)::(G++[ς (ends.map η)])) (agV ⟨_,_,_,_,_,_,G++[ς (ends.map η)],ps++[aBW],_,qg,rfl,rfl,d7 p7,?_,Py I E b6 b6 b6⟩))]
    ·simp[cu,Xd,lQ] at hz1 ⊢;rw[hz1,hz2];subst RJ;simp[D5,dn,fm,Cc,lim];rw[aon];rw[aer]
    ·rw[List.length_append];rw[ain (List.length_filter_le (adR j (j∉loose)) ends) (List.length_filter_le (adR j (j∉ends)) loose)]
     have h3:aso pre [k]=pre.length+1:=Ξ
     omega
 ·rintro ρ' M' ⟨y5,y6,y7,y8,y9,XI,G,ps,loose,many,rfl,rfl,p7,hll,I⟩;refine adg (bw afa (M++.gone::G) ?_ (aT ⟨ps,.gone::G,I.good ?_ ?_,rfl⟩))
  ·simp[D3]
  ·rw[p7];rw[aer]
  ·rw[p7];rw[aer]
universe Sb
universe zE
section
namespace Sb
open PySem L2
def PF aM9 aSS aNf(h:alq=aAm k):k=pre.length:=by
 have h1:acn alq pre.length k:=by rw[af2 h]
 rw[adS h2 (nO h).2 (List.getElem?_range h2) h1];exact(aqU).symm
def Mi aN9:p.js.length≤3:=by cases p<;>simp[Pc.js]
def XJ aM9(s:Sg):b8 (PV.lO n (cZ s)):=zw (alS (by
 rw[aiC hx];rcases hx with rfl | rfl<;>simp))
abbrev Kw aNe:Prop:=∀ns(b:Int) ps M,aC1->∃ss,alJ/\g [.m5 ns,η b,afa] M=.ok ahJ M
def Iv aNh aNf(h:aBc k):pI xs aeK none=xs.drop k:=by
 rw[ajN pI HT.JK HT.zY (Nat.min_eq_left h)];exact List.take_of_length_le Ξ
def Iw aNh aNf:aBQ aeK=xs.take k:=by
 rw[af7 pI HT.JK HT.zY];simp
def kU{gm gb:D1}aPH(hb:vW gb):Kw (ayL (mx gm gb)):=by
 intro ns b ps M hg;have hp8:=hg.qA
 suffices h:∃ss G,alJ/\mx gm gb [.m5 ns,η b,afa] M=.ok ahJ (M++G) by
  rw[afr ss G hg e h ⟨ss,hg,pN.trunc ⟨G,e⟩ (vT XJ _)⟩]
 rw[ajh mx (∃ss G,alJ/\r=.ok ahJ (M++G))];simp only[zC,zD,zE,zF,Nat.zero_add,Nat.reduceAdd,Nat.reduceSub,List.replicate,zG,zH];rw[aga adM (M++[ς []]) Ξ]
 rw[acB];have hi:Al [(aj9 c7)] [aiR .m5,arY,aiM,ahD,none,none,none,none,none] (M++[ς []])=aw0 .ok (aod).map (M++[ς []]):=AM aCs b6
 generalize Al [(aj9 c7)]=di at hi ⊢
 refine aH (gR (ahC (aez k) k) (aiT (∃y4 y5 y6 y7 ss,ρ=[aiR .m5,arY,aiM,ahD,y4,y5,y6,y7,none]/\M'=M++[ς (ss.map cZ)]/\ss.length≤3*pre.length/\ss.Nodup ∧
  aho ss (s.2<pre.length/\s.1∈(ad3 s.2).js))) aod none (M++[ς []]) hi trivial ⟨none,none,none,none,[],rfl,rfl,Ξ,Ξ,Ξ⟩ ?_ ?_)
 ·rintro pre k post hx ρ M' ⟨y4,y5,y6,y7,ss,rfl,rfl,hl,zt,hs⟩;obtain⟨hk,p7⟩:=nO hx
  rw[aaa hkp (PF hx) hjl (Mi (ad3 k))];refine amh
  rw[aeZ (gR PV.int (λ vY ρ M'=>∃y5 y6 y7 ss,ρ=[aiR .m5,arY,aiM,ahD,afc,y5,y6,y7,none]/\M'=M++[ς (ss.map cZ)]/\ss.length≤3*pre.length+vY.length/\ss.Nodup ∧
   aho ss ((s.2<pre.length/\s.1∈(ad3 s.2).js)\/(s.2=k/\s.1∈vY))) (ad3 k).js none (M++[ς (ss.map cZ)]) (Pj (aeU (vS hk) sl1)) trivial ⟨y5,y6,y7,ss,rfl,rfl,by rw[amm hl],zt,λ s h=>b4 (hs s h)⟩ ?_ ?_)]
  ·rintro vY j Vf Pu ρ M' ⟨z5,z6,z7,tt,rfl,rfl,PH,htn,hts⟩;rw[d9 hnj (ad3 k).js.Nodup (hg.once _ (Iu hk)) hjn (j∉vY) (by
    rw[aoO Pu List.nodup_append hnj (λ h=>hnj.2.2 j h j Ξ rfl)])]
   have ahw:vY.length<3:=by
    have:=aEe Pu;rw[ayc];omega
   rw[aoJ]
   generalize aef:akA (b+3*k+tt.length)=num;rw[aga (η num) (M++[ς aGa]) (by simp[aCZ,cu,la,small,aef])];rw[aeZ (acX (.bl (uf (auR k))) (M++[ς aGa]) (aeU (hb ps k j _ b6) sk))]
   rw[acB]
   rw[d9 WU (af0 (tt++[(j,k)])) (by
    rw[List.nodup_append]
    rw[ab8 htn Ξ (acE s NP s2 RG)];rw[aiC RG]
    subst RG;rintro rfl;rcases hts _ NP with h | h
    ·omega
    ·exact hjn h.2) hif (∃t,Ai (ap8 (aB cx (ae 6) (Θ 3)) (Θ 0)) (lx (fw agh) (ap8 (aB cx (ae 6) (Θ 3)) (Θ 1))) [aiR .m5,arY,aiM,ahD,afc,alK,abS num,alB .bl (uf (auR k)),none] (M++[ς aGa])=.ok t (M++[ς aGa])) (by
    rw[akZ (num%3=0)]
    ·rw[aab true (by simp[cx,lQ,h1])]
    ·rw[ahT h2 (uf (auR k))]
     ·rw[aab (aeY (num%3) 1) (by simp[cx,lQ,jr,h1,h2])]
     ·rw[aab false (by simp[cx,lQ,jr,h1,h2])])]
   obtain⟨t,ht⟩:=hif
   refine ayg t _ ht (f6 _) _
   ·refine apg .bh (M++[ς ((tt++[(j,k)]).map cZ)]) (agV ⟨_,_,_,tt++[(j,k)],rfl,rfl,by rw[aer],WU,anV⟩)
    ·simp[fm,Cc,lim,cZ];omega
    ·rcases aJn with h | h
     ·rcases hts s h with h | h
      ·exact b4 h
      ·exact ald h.1 (d7 h.2)
     ·rw[aiC h];rw[adL h (b9 (ah9 Ξ))]
   ·rw[alU (agV ⟨_,_,_,tt,rfl,rfl,by rw[aer],htn,anV⟩)];rcases hts s hs with h | h
    ·exact b4 h
    ·exact ald h.1 (d7 h.2)
  ·rintro ρ' M' ⟨z5,z6,z7,tt,rfl,rfl,PH,htn,hts⟩;refine agV ⟨_,_,_,_,tt,rfl,rfl,by rw[aer],htn,anV⟩;rw[aLI];rcases hts s hs with h | h
   ·rw[aab b6 h.2]
   ·rw[h.1];rw[aab b6 h.2]
 ·rintro ρ' M' ⟨y4,y5,y6,y7,ss,rfl,rfl,hl,zt,hs⟩;rw[List.length_range] at hl hs;rw[aIW sh hsh (aEb (akA (b+30)) b (1+aae ss.length))]
  rw[ab4 tw (sh≤ss.length) (by rw[aeq (Int.emod_lt_of_pos (akA (b+30)) (b:=1+aae ss.length) b6)]) (adg (acX (η sh) (M++[ς (ss.map cZ)]) ?_))]
  ·simp[aCZ,cu,cx,lQ];rw[aon,hsh]
  ·rw[acB]
   rw[ab4 Vh ((aFJ++aFK).Perm ss) (by
    rw[avQ (List.perm_append_comm (l₁:=aFJ) (l₂:=aFK)) List.take_append_drop]) (bw (cK ((aFJ++aFK).take 16)) (M++[ς (ss.map cZ)]) ?_ (aT ⟨_,[ς (ss.map cZ)],⟨hg.Pt,b6,hg.Fx,hg.once,hg.two,?_,?_,ab7 s h⟩,rfl⟩))]
   ·rw[alC e1 (∀M:bb,FU false adM (aBd sh) none (M++[ς (ss.map cZ)])=.ok (cK aFJ) (M++[ς (ss.map cZ)])) M (by
     simp only[FU,Ah,Gk];rw[Iv (by rw[amm tw]),← List.map_drop,bZ (by rw[aer])]) e2 (∀M:bb,FU false adM none (aBd sh) (M++[ς (ss.map cZ)])=.ok (cK aFK) (M++[ς (ss.map cZ)])) (λ M=>by
     simp only[FU,Ah,Gk];rw[Iw,← List.map_take,bZ (by rw[aer])])]
    have e3:∀aNi(xs:aeT),aBZ->FU false (cK xs) none (some 16) M=.ok (cK (xs.take 16)) M:=λ M xs hx=>by
     simp only[FU,iX];rw[apE (t6 (aBd 16) (afh 16)),Iw,← List.map_take,bZ (by rw[aer])]
    simp only[xj,aD,az,oH,lZ,bq,ag,zB,zA,e1,e2,qa];rw[← List.map_append,bZ (by rw[aer]),ag,e3 _ _ (by rw[aer])]
   ·rw[ahX List.length_take]
   ·exact((Vh.nodup_iff).mpr zt).sublist (List.take_sublist _ _)
   ·exact hs s (Vh.mem_iff.mp (List.mem_of_mem_take h))
universe Sb
universe zE
section
namespace Sb
open PySem L2 PyProof.Rows
structure Kx aN9(j o:Int):Prop where
 ne:o≠j
 mem:o∈p.js
 tip:p.js.length=3->p.js.headD 0=j\/p.js.headD 0=o
def TH{p:Pc}aUu(h:o∈vQ p j):Kx p j o:=by
 cases p with
 | pl a b =>
  rw[afF h1 h2 aEd ⟨aEh,h1,d7 Pc.js⟩]
 | pt t s b =>
  simp only[Pc.js,List.nodup_cons,List.mem_cons,List.not_mem_nil,or_false,not_or] at hn;rw[ajd vQ]
  rw[ane];split at h
  ·rw[awe];subst e;rw[aiC h];rw[ab8 ?_ (by rcases h with rfl | rfl<;>simp[Pc.js]) (λ _=>b4 rfl)]
   rcases h with rfl | rfl
   ·exact adD (hn.1.1 e.symm)
   ·exact adD (hn.1.2 e.symm)
  ·rw[awe];rw[aiC h];subst h;rw[Lb (acz (e z.symm)) (d7 Pc.js) (λ _=>b9 rfl)]
abbrev Chain aOw:Bool->Int->aec->adj HB
 | _,j,a,[]=>∀b,a=akd->(j,b)∈ss
 | f,j,a,(a',j',o)::r=>t6 a a'/\j'=j/\(acs f->(j,a')∉ss)/\aiG a'/\Kx (ad3 a') j o/\Chain ps ss false o (beyond ps a' o) r
def AR aQh(hn:aCy):∀aNd(way w:HB)aNU aOo(f:Bool),aDu->(acs f->(j,a)∉ss)->w∈oI ps ss n way j a →
  ∃r,w=way++r/\agx r/\Chain ps ss f j (some a) r/\att/\avs w.length
 | 0,way,w,j,a,f,ok,hf,h=>by simp[oI] at h
 | n+1,way,w,j,a,f,ok,hf,h=>by
  rw[l9] at h;split at h
  ·rw[ao2]
  rename_i ha;obtain⟨o,ho,hw⟩:=List.mem_flatMap.mp h;have hoo:=TH (hn _ (Iu ok.lt)) ho
  rw[d9 zt (anp (way++[(a,j,o)]).map) (by
   rw[List.map_append,List.nodup_append];rw[ab8 ok.nd Ξ (acE x hx y hy)];simp at hy;subst hy;rintro rfl;exact ha hx) hlen (avs (aso way [(a,j,o)])) (by
   have:=md (n:=ps.length) zt (alS (by
    rw[aiN s hs hx];rcases aJn with hs | hs
    ·exact ok.all s hs
    ·rw[axF hs hs ok.lt]))
   simpa using this)]
  unfold ke at hw;cases hb:auu with
  | none =>
   rw[hb] at hw;rw[aiC hw];subst hw;exact⟨[(a,j,o)],rfl,Ξ,⟨rfl,rfl,hf,ok.lt,hoo,by rw[Ω hb (nofun)]⟩,zt,hlen⟩
  | some b =>
   rw[alm hb hw hw];split at hw
   ·rename_i hs;rw[aiC hw];subst hw;exact⟨[(a,j,o)],rfl,Ξ,⟨rfl,rfl,hf,ok.lt,hoo,by rw[hb]; intro b' e; cases e; exact hs⟩,zt,hlen⟩
   ·rename_i hs;obtain⟨r,e,hr,hc,h1,h2⟩:=AR hn n (way++[(a,j,o)]) w o b false (ok.step ha hb) (λ _=>hs) hw;exact⟨(a,j,o)::r,by rw[awJ],Ξ,⟨rfl,rfl,hf,ok.lt,hoo,by rw[Ω hb hc]⟩,h1,h2⟩
structure Ky aOw(r:Rt):Prop where
 lt:ax5 r.1
 ne:agx r.2
 chain:Chain ps ss true (cy ss r.1).1 (some (cy ss r.1).2) r.2
 nd:anp r.2.map
 len:avs (ahb r.2)
def PJ aPU{r:Rt}(h:r∈aiU):Ky ps ss r:=by
 obtain⟨k,hk,h⟩:=List.mem_flatMap.mp h;have hk:=List.mem_range.mp hk;rw[aiN w hw h];obtain⟨r,e,h1,h2,h3,h4⟩:=AR hg.once fuel [] w (cy ss k).1 (cy ss k).2 true (XF hg hk) nofun hw;rw[zH] at e;subst e;exact⟨hk,h1,h2,h3,h4⟩
universe Sb
universe zE
end
mutual
section
namespace L2
open PySem
def xn aPt aN3 aO9{lL dv:DE}aNT(y:PV)(M1:bb)aNd(fs NJ:ajD)(h:aDx=.ok y M1)(ho:aCE=.ok (ο n) M1)(hn:M1[n]? = ab1 aa7 C fs)(hl:ayq)(hf:aDz=NJ)
  (q:Q (.nx ρ (M1.set n (aa7 C NJ)))):Q (gF C f lL dv ρ M):=by
 unfold gF;rw[h,Res.eu,ho,Res.eu,mn hn];dsimp only;rw[if_pos hl,hf];exact q
def mf aPt aN7 aO9{dv:DE}{ρ:fk}{M G G':bb}{fs:ajD}{s2:DS}(y:PV)(NJ:ajD)(h0:ajx 0 ahD)(h:dv ρ (M++aa7 c fs::G)=.ok y (M++aa7 c fs::G'))(hl:ayq)(hf:aDz=NJ)
  (q:Q (.nx ρ (M++aa7 c NJ::G'))):Q (gF c f b7 dv ρ (M++aa7 c fs::G)):=by
 refine xn y _ M.length fs NJ h (aoU h0) Ξ hl hf ?_;rw[Ω Ku q]
universe L2
namespace Sb
open PySem L2
abbrev XM(L:Nat)aOw(rs:afL)aR4:ajD :=
 [aoW,ap6,arA,aup,awW,("locks",ο (L+1)),("lying",ο (L+2)),aDi (L+3),aGJ (ο (L+4)),("trains",ο (L+5))]
abbrev kC aP2(L:Nat)aOw(rs:afL)aR4:bb :=
 [aa7 c (XM L ps ss rs wait),.bP [],ς (ps.map λ _=>afW),.bP [],.bP [],.bP []]
def jD aN7 aSG aPU aR4 aNi:pL c gr [adM,afa,ahJ,η wait] (M++[aa7 c []])=.ok .bh (M++kC c M.length ps ss aiU wait):=by
 rw[aaa Em hg.qA hss hg.AO];rw[ajh pL (r=.ok .bh (M++kC c M.length ps ss aiU wait))];simp only[zC,zD,zE,zF,Nat.zero_add,Nat.reduceAdd,Nat.reduceSub,List.replicate,zG,zH,zI];generalize hrs:aiU=rs
 rw[ag6 hly (∀N:bb,dN true ajw (iL f7) (gN 0) yH (dC afW) [ahD,aiM,aoE,abS wait] N=.ok (ο N.length) (N++[ς (ps.map λ _=>afW)])) (λ N=>by
  rw[cj (xs:=ps) (w:=none) (M':=N) Pc.enc (λ _=>true) (λ _=>afW) (aiz [y]) (dZ Ξ) trivial aiH (λ x _ ρ hρ=>by
   rw[afF y rfl hρ (aa9 _ rfl adE apM)]) (ad0 Em),amK,lr (by rw[aqh Em])]) (mf (M:=M) (G':=[]) (s2:=fe) (hZ rs) [aoW] rfl (aeU (hr ps ss _ hg) hrs) (by rw[ah5 0]) aar acw)];rw[adY (aH (mf (M:=M) (G':=[]) (s2:=fe) afa [aoW,ap6] rfl (by simp[kX];exact bZ (by rw[aer])) (by rw[ah5 1]) aar acw)) (aH (mf (M:=M) (G':=[]) (s2:=fe) ahJ [aoW,ap6,arA] rfl (by simp[kX];exact bZ (by rw[aer])) (by rw[ah5 2]) aar acw))]
 rw[adY (aH (mf (M:=M) (G':=[]) (s2:=fe) (η wait) [aoW,ap6,arA,aup] rfl (rfl) (by rw[ah5 3]) aar acw)) (aH (mf (M:=M) (G':=[]) (s2:=fe) (η 0) [aoW,ap6,arA,aup,awW] rfl (rfl) (by rw[ah5 4]) aar acw))];rw[adY (aH (mf (M:=M) (G':=[.bP []]) (s2:=fe) (ο (afU 1)) [aoW,ap6,arA,aup,awW,aCP] rfl aHW (by rw[ah5 5]) aar acw)) (aH (mf (M:=M) (G':=[.bP [],ς (ps.map λ _=>afW)]) (s2:=fe) (ο (afU 2)) [aoW,ap6,arA,aup,awW,aCP,aIB] rfl (by rw[af2 hly]) (by rw[ah5 6]) aar acw))];rw[adY (aH (mf (M:=M) (G':=[.bP [],ς (ps.map λ _=>afW),.bP []]) (s2:=fe) (ο (afU 3)) [aoW,ap6,arA,aup,awW,aCP,aIB,aDi (afU 3)] rfl aHW (by rw[ah5 7]) aar acw)) (aH (mf (M:=M) (G':=[.bP [],ς (ps.map λ _=>afW),.bP [],.bP []]) (s2:=fe) (ο (afU 4)) [aoW,ap6,arA,aup,awW,aCP,aIB,aDi (afU 3),aGJ (ο (afU 4))] rfl aHW (by rw[ah5 8]) aar acw))]
 exact mf (M:=M) (G':=[.bP [],ς (ps.map λ _=>afW),.bP [],.bP [],.bP []]) (s2:=fe) (ο (afU 5)) [aoW,ap6,arA,aup,awW,aCP,aIB,aDi (afU 3),aGJ (ο (afU 4)),("trains",ο (afU 5))] rfl aHW (by rw[ah5 9]) aar atF
universe Sb
universe zE
section
namespace Sb
open PySem L2
section
variable {κ:Type} [am7] {α:Type}
abbrev aG aPd:aFY:=amt (aEQ q (q.1=k)).map
abbrev cC aPd(v:α):agb :=
 if d.any (ala (q.1=k)) then d.map (λ q=>if q.1=k then(q.1,v) else q) else d++[(k,v)]
abbrev cD aPd:agb:=d.filter (aiY q q.1 k)
def lF aN4:YW (aG ([]:agb) k):=rfl
def eJ(q:κ×α)aPd:aG (q::d) k=akI q.1 k (some q.2) auO:=by
 rw[acu aG List.find?_cons];by_cases h:q.1=k<;>simp[h]
def Gu aRU:aG (d++[(k,v)]) k'=(auA).or (akI k k' aeJ none):=by
 induction d with
 | nil=>rw[zH,eJ,lF]; rfl
 | cons q d ih =>
  rw[zG,eJ,eJ,ih];by_cases h:q.1=k'<;>simp[h]
def PK aRU:aG (ar4 (if q.1=k then(q.1,v) else q)) k'=if k'=k then(auA).map (λ _=>v) else auA:=by
 induction d with
 | nil=>simp[lF]
 | cons q d ih =>
  rw[zC,eJ,eJ,ih]
  rw[age (q.1=k)]
  ·rw[aoR (k=k')]
   ·simp[h,h2]
   ·have h3:¬k'=k:=adD (h2 e.symm);simp[h,h2,h3]
  ·rw[aoR (q.1=k')]
   ·subst h2;simp[h]
   ·simp[h,h2]
def mem_keys aPd:k∈ai6↔aky auO:=by
 induction d with
 | nil=>simp[lF]
 | cons q d ih =>
  rw[zC,List.mem_cons,ih,eJ]
  rw[age (q.1=k)]
  ·simp[h]
  ·rw[afZ h];rw[aab (λ o=>o.elim (λ e=>absurd e.symm h) id) b9]
def any_keys aPd:b8 (d.any (ala (q.1=k)))↔k∈ai6:=by
 rw[List.any_eq_true];constructor
 ·rintro⟨q,hq,h⟩;exact aAp q hq (of_decide_eq_true h)
 ·intro h;rw[apm q hq e h];rw[Lb q hq aMz]
def eL aRU:aG (cC d k v) k'=akI k' k aeJ auA:=by
 unfold cC
 rw[ahT h (d.any (ala (q.1=k)))]
 ·rw[if_pos h,PK];rw[aoR (k'=k)]
  ·subst h2;have:=(mem_keys d k').mp ((axN k').mp h);rw[aeO,aeO];cases e:auA with
   | none=>rw[aia e this this]
   | some x=>rfl
  ·rw[arc,arc]
 ·rw[aov,Gu];rw[aoR (k'=k)]
  ·subst h2;have h3:¬(aky auA):=atD ((axN k').mpr ((mem_keys d k').mpr e));rw[aeO,aeO];cases e:auA with
   | none=>rfl
   | some x=>rw[aia e h3 h3]
  ·rw[arc,atX (h2 e.symm)];simp
def kg(d:agb)(k k':κ):aG (cD d k) k'=akI k' k none auA:=by
 unfold cD
 induction d with
 | nil=>simp[lF]
 | cons q d ih =>
  rw[List.filter_cons]
  rw[age (q.1=k)]
  ·rw[al1 (d7 h),ih,eJ];rw[aoR (k'=k)]
   ·rw[aml h2 h2]
   ·rw[arc,arc,atX (h2 (e.symm.trans h))]
  ·rw[af5 (d7 h),eJ,ih,eJ];rw[aoR (k'=k)]
   ·rw[if_pos h2,if_pos h2,aCf (e.trans h2)]
   ·rw[arc,arc]
def Mj aPd(v:α):aeS (cC d k v).map=al8 k ai6 ai6 (ai6++[k]):=by
 unfold cC
 rw[ahT h (d.any (ala (q.1=k)))]
 ·rw[avL,af5 ((axN k).mp h),List.map_map];refine List.map_congr_left λ q _=>?_;by_cases h2:q.1=k<;>simp[h2]
 ·rw[aov,aCf ((axN k).mpr e),List.map_append];rfl
def PL aRU:k'∈aeS (cC d k v).map↔k'=k\/k'∈ai6:=by
 rw[mem_keys,eL,mem_keys];by_cases h:k'=k<;>simp[h]
def sL aPd(k':κ):k'∈aeS (cD d k).map↔k'≠k/\k'∈ai6:=by
 rw[mem_keys,kg,mem_keys];by_cases h:k'=k<;>simp[h]
def tO aQT{v:α}(h:arz):anp (cC d k v).map:=by
 rw[Mj];split
 ·exact h
 ·rename_i hk;rw[List.nodup_append];rw[ab8 h Ξ (acE a ha b hb)];simp at hb;subst hb;rintro rfl;exact hk ha
def pq aQT(h:arz):anp (cD d k).map:=by
 unfold cD;have:(aeS (d.filter (aiY q q.1 k)).map).Sublist ai6:=aI5;exact h.sublist this
def Gv aQT{v:α}(h:k∉ai6):cC d k v=d++[(k,v)]:=by
 rw[acu cC (aCf ((axN k).mp e))]
def i7 aQT{v:α}(h:auO=aeJ):(k,v)∈d:=by
 rw[ajd aG];rw[aIS q hq e h];rw[ain (List.mem_of_find?_eq_some hq) (List.find?_some hq)];have h3:q.1=k:=aEh;obtain⟨a,b⟩:=q;cases h3; cases e;exact h1
def cL{d:agb}(hn:arz){q:κ×α}(h:q∈d):t6 (aG d q.1) q.2:=by
 induction d with
 | nil=>rw[ao2]
 | cons q' d ih =>
  rw[eJ];rw[aJJ zC hn];rcases asF with rfl | h
  ·simp
  ·rw[atX (hn.1 (by rw[Ω e (aja q h)])),ih hn.2 h]
universe zE
universe Sb
universe zE
section
namespace Sb
open PySem L2
abbrev ba aN8 aNk:HB:=(bB.getD r (0,[])).2
abbrev aU aN8 aNk:Nat:=(bB.getD r (0,[])).1
abbrev fz aN8 aNk:ae6:=aeS (afn).map
structure Tr where
 steps:HB
 ahead:HB
 out:Bool
structure Fl where
 u:Int
 ns:abE
 bd:Bool
structure Wd where
 locks:aeI
 points:atc
 green:ae6
 falls:alH
 now:Int
 trains:atM
structure TB where
 tr:Tr
 ob:Nat
 so:Nat
 ao:Nat
structure FB where
 u:Int
 nr:acG
 ob:Nat
structure Bx where
 locks:ajb
 lying:amb
 greens:ajb
 falls:aCv
 ticks:Int
 trains:aH2
structure gG aNd aN8:Prop where
 nd:aFy r (af0 ah0)
 lt:aFy r (ae8 ah0 (p<n))
 hd:aFy r (aFy r' (aqq=aIa->∃p,p∈ah0/\p∈fz bB r'))
abbrev bD(t:Tr):dM:=t.steps.headD (0,0,0)
structure Ck aN8(jl:atw)(locks:aeI)(t:Tr):Prop where
 ne:aCD
 nd:af0 aJC
 st:axJ (acn locks s.1 none)
 ah:awq->∃r k,aDh/\aoq::t.ahead=(afn).drop k/\avn (anK locks s.1 r)
 ot:b8 t.out->anG/\YW (jl aij ams)
abbrev Dj(t t':Tr):Prop:=(axJ (∀s'∈t'.steps,s.1≠s'.1))/\avn (∀s'∈t'.ahead,s.1≠s'.1)
abbrev kL aP6:Prop:=aks\/r∈ah6
structure Inv aNd aN8(jl:atw)aN6:Prop where
 ln:aIX n
 own:∀r,ah2->aDh/\ae8 ah0 (ans p = am5 r/\∀x t,abW=acv->avn (s.1≠p))
 lk:∀p r,ans p = am5 r->p∈ah0
 Cm:W.green.Nodup
 Iy:aG6
 NS:∀r∈W.green,r∉ah6
 xp:aG7
 tr:∀x t,abW=acv->Ck bB jl W.locks t
 dj:∀x y t t',abW=acv->t6 (aG W.trains y) t'->x≠y->Dj t t'
abbrev Eo aN8(nP:akb)aNk(q:FB):Fl:=⟨q.u,q.nr.toList,nP aqq⟩
abbrev AS(_:Int)aOt:Tr:=t.tr
section
variable {κ:Type} [am7] {α β:Type}
abbrev jB aQO(d:agb):ae5 κ β:=ar4 (q.1,g q.1 q.2)
def qh aQO(d:agb):aeS (jB g d).map=ai6:=by rw[apX jB]
def nQ aQO aN4:∀d:agb,aG (jB g d) k=(auO).map (g k)
 | []=>rfl
 | q::d=>by
  have ih:=nQ g k d
  unfold jB at ih ⊢
  rw[zC,eJ,eJ,ih]
  rw[age (q.1=k)]
  ·rw[azN]
  ·simp[h]
def qi aQO aN4(v:α)(d:agb):jB g (cC d k v)=cC (jB g d) k (g k v):=by
 unfold jB cC
 rw[aAh ((ar4 (q.1,g q.1 q.2)).any (ala (q.1=k))=d.any (ala (q.1=k))) (by rw[List.any_map]; rfl)];split
 ·rw[List.map_map,List.map_map]
  refine List.map_congr_left λ q _=>?_
  rw[age (q.1=k)]
  ·rw[azN]
  ·simp[h]
 ·simp
def xq aQO aN4(d:agb):jB g (cD d k)=cD (jB g d) k:=by
 unfold jB cD;rw[aEC];rfl
universe zE
structure oN aNd aN8(lM:akb)(nP:akb)aN6 aNZ:Prop where
 locks:∀p<n,aor W.locks p arD
 PM:af0 aEs
 PN:ae8 aEs (p<n)
 Iz:B.lying.length=n
 pn:W.points.length=n
 yJ:∀p<n,aDf->acn W.points p B.lying[p]?
 greens:∀s r,azH=af9↔aks/\aqq=s
 Cm:af0 aEo
 falls:W.falls=axO (Eo bB nP)
 ticks:B.ticks=W.now
 trains:W.trains=jB AS B.trains
section
variable {n:Nat} {bB:afL} {lM:akb} {nP:akb} {jl:atw} {W:Wd} {B:Bx}
def Inv.glt aNX aNn(h:aks):aDh:=(aih (b4 h)).1
def Inv.lock aNX{r p:Nat}aPu(hp:p∈ah0):ans p = am5 r:=((aih h).2 p hp).1
def Inv.one aNX(R:ai1){r r':Nat}aPu(h':atU)(e:aqq=aIa):r=r':=by
 obtain⟨p,h1,h2⟩:=R.hd r (aih h).1 r' (apW h').1 e;rw[adS e1 (aBJ h1) (I.lock h' h2) e1];cases e1;rfl
def oN.qj aO4:ah6=ajq:=by
 rw[S.falls,qh]
abbrev jP aNk aPA:aeI:=ayv l s (l.set s.1 af9) l
abbrev kZ aNk aPB:ajb:=ayv d s (cC d s.1 r) d
abbrev ic aNk aQe:aeI:=l.map (arH o o af9 none o)
abbrev dW aPB:ajb:=ayv d s (cD d s.1) d
abbrev mV(lM:akb)aPI aNL(l:atc):atc:=ayv l s (if lM s.1 then l.set s.1 (c8 (vd s)) else l) l
abbrev AU aPI aNL(l:amb):amb:=ayv l s (l.set s.1 (vd s)) l
def tP aNk:∀aPA,aGI (jP r w l)
 | [],l=>rfl
 | s::w,l=>by show acL (jP r w (l.set s.1 af9))=_;rw[af2 (tP r w)]
def xr(r p:Nat):∀aPA,atk p->(jP r w l)[p]? = al8 p ajV (am5 r) l[p]?
 | [],l,h=>d7 jP
 | s::w,l,h=>by
  show(jP r w (l.set s.1 af9))[p]? = _;rw[xr r p w _ azC,zC];rw[akZ (p∈ajV)]
  ·rw[if_pos h1,af5 (aha h1)]
  ·rw[afZ h1]
   rw[aoR (s.1=p)]
   ·subst h2;rw[if_pos Ξ,List.getElem?_set_self h]
   ·rw[atX ((aEr).elim (adD (h2 e.symm)) h1),aLM]
def xt(r p:Nat):∀aPB,aG (kZ r w d) p=al8 p ajV af9 (aG d p)
 | [],d=>d7 kZ
 | s::w,d=>by
  show aG (kZ r w (cC d s.1 r)) p=_;rw[xt r p w,zC,eL];rw[akZ (p∈ajV)]
  ·rw[if_pos h1,af5 (aha h1)]
  ·rw[afZ h1]
   rw[aoR (p=s.1)]
   ·subst h2;rw[aeO,if_pos Ξ]
   ·rw[arc,atX ((aEr).elim h2 h1)]
def mL aOA:∀aPB,aG (dW w d) p=al8 p ajV none (aG d p)
 | [],d=>d7 dW
 | s::w,d=>by
  show aG (dW w (cD d s.1)) p=_;rw[mL p w,zC,kg];rw[akZ (p∈ajV)]
  ·rw[if_pos h1,af5 (aha h1)]
  ·rw[afZ h1]
   rw[aoR (p=s.1)]
   ·subst h2;rw[aeO,if_pos Ξ]
   ·rw[arc,atX ((aEr).elim h2 h1)]
def AV aNk:∀aPB,arz->anp (kZ r w d).map
 | [],d,h=>h
 | s::w,d,h=>AV r w _ (tO h)
def uS:∀aPB,arz->anp (dW w d).map
 | [],d,h=>h
 | s::w,d,h=>uS w _ (pq h)
def Gw aM9 aNk aPB(hw:ae8 ajV (p<n))(h:ae8 ai6 (p<n)):ae8 (aeS (kZ r w d).map) (p<n):=by
 intro p hp
 rw[mem_keys,xt] at hp
 rw[akZ (p∈ajV)]
 ·exact hw p h1
 ·rw[if_neg h1,← mem_keys] at hp;exact h p hp
def AW aM9 aPB(h:ae8 ai6 (p<n)):ae8 (aeS (dW w d).map) (p<n):=by
 intro p hp
 rw[mem_keys,mL] at hp
 rw[akZ (p∈ajV)]
 ·rw[aia aKY hp hp]
 ·rw[if_neg h1,← mem_keys] at hp;exact h p hp
def qk(r p:Nat)aQe:(ic r l)[p]? = l[p]?.map (arH o o af9 none o):=by
 rw[acu ic zJ]
def uT aPI:∀aNL(l:atc),aGI (mV lM vd w l)
 | [],l=>rfl
 | s::w,l=>by
  show acL (mV lM vd w (if lM s.1 then l.set s.1 (c8 (vd s)) else l))=_;rw[uT vd w];split<;>simp
def AX aPI:∀aNL(l:amb),aGI (AU vd w l)
 | [],l=>rfl
 | s::w,l=>by
  show acL (AU vd w (l.set s.1 (vd s)))=_;rw[af2 (AX vd w)]
def Dh{lw lb:aoV}:∀aNL(l:atc)(b:amb),(aho w (b8 (lM s.1)->lw s=lb s))->l.length=b.length->(∀p<l.length,aDf->acn l p b[p]?) →
  ∀p<l.length,aDf->acn (mV lM lw w l) p (AU lb w b)[p]?
 | [],l,b,_,_,h=>h
 | s::w,l,b,hw,hl,h=>by
  show ∀p<l.length,aDf->acn (mV lM lw w (if lM s.1 then l.set s.1 (c8 (lw s)) else l)) p (AU lb w (b.set s.1 (lb s)))[p]?
  have ih:=Dh (lw:=lw) (lb:=lb) w (if lM s.1 then l.set s.1 (c8 (lw s)) else l) (b.set s.1 (lb s)) (ale (hw s (d7 hs))) (by split<;>simp[hl]) (by
   intro p hp IA
   have TK:atk p:=by split at hp<;>simpa using hp
   rw[ah3 s.1 p]
   ·subst e;rw[if_pos IA,List.getElem?_set_self TK,List.getElem?_set_self b6,hw s Ξ IA]
   ·rw[aAD];split
    ·rw[Ω aAD (h p TK IA)]
    ·exact h p TK IA)
  intro p hp;exact ih p (by split<;>simpa using hp)
def Ck.of{locks IB:aeI}{t:Tr}(h:Ck bB jl locks t)(h1:axJ (acn IB s.1 none))(h2:avn (IB[s.1]? = locks[s.1]?)):Ck bB jl IB t :=
 ⟨h.ne,h.nd,h1,adD (by rw[aen r k a b c (h.ah e) ⟨r,k,a,b,ale (by rw[Ω (h2 s hs) (c s hs)])⟩]),h.ot⟩
def Ck.al aSH(h:Ck bB jl locks t)aPb(hs:s∈t.ahead):∃r,anK locks s.1 r:=by
 obtain⟨r,_,_,_,c⟩:=h.ah (List.ne_nil_of_mem hs);rw[aab r (c s hs)]
def Dj.symm{t u:Tr}(h:Dj t u):Dj u t:=⟨λ s hs s' sd e=>h.1 s' sd s hs e.symm,λ s hs s' sd e=>h.2 s' sd s hs e.symm⟩
def AY{W W':Wd}aTY aNn(h:kL W' r):ah2:=h.imp (λ h=>hg.subset h) λ h=>hf.subset h
def Inv.put aNX{W':Wd}aUy(hl:W'.locks.length=W.locks.length)
  aTY(hk:av9 p (W'.locks[p]? = ans p \/ acn W'.locks p none))
  (hv:∀r,kL W' r->ae8 ah0 (W'.locks[p]? = ans p /\ avn (s.1≠p)))
  (hy:∀y u,y≠x->azD=abF->(aho u.ahead (W'.locks[s.1]? = ans s.1))/\Dj t u)(hx:Ck bB jl W'.locks t):Inv n bB jl W':=by
 rw[ahq get (∀y u,aG W'.trains y=abF->(y=x/\u=t)\/(y≠x/\azD=abF)) (λ y u h=>by
  rw[ht,eL] at h
  rw[ah3 y x]
  ·rw[amg e h]; cases h; exact awt e
  ·rw[g9 akU h (ald e h)]) ⟨by rw[Ω hl I.ln],λ r h=>⟨(aih (AY hg hf h)).1,λ p hp=>⟨by rw[Ω (hv r h p hp).1 (as4 (AY hg hf h))],NV y u hu⟩⟩,NV p r h,aMI,aMJ,
  λ r h h'=>I.NS r (hg.subset h) (hf.subset h'),by rw[Ω ht (tO I.xp)],NV y u hu,λ y z u u' hu hu' ne=>?_⟩]
 ·rcases aDG with⟨_,rfl⟩ | ⟨_,h'⟩
  ·exact(hv r h p hp).2
  ·exact((aih (AY hg hf h)).2 p hp).2 y u h'
 ·rcases hk p with e | e
  ·rw[g9 e h (I.lk p r h)]
  ·rw[amW]; cases h
 ·rcases aDG with⟨_,rfl⟩ | ⟨e,h'⟩
  ·exact hx
  ·refine(I.tr y u h').of anV (hy y u e h').1;rcases hk s.1 with e' | e'
   ·rw[aeN e' ((I.tr y u h').st s hs)]
   ·exact e'
 ·rcases aDG with⟨rfl,rfl⟩ | ⟨e,h1⟩
  ·rcases get z u' hu' with⟨rfl,_⟩ | ⟨e',h2⟩
   ·rw[aoG ne]
   ·exact(hy z u' e' h2).2
  ·rcases get z u' hu' with⟨rfl,rfl⟩ | ⟨e',h2⟩
   ·exact(hy y u e h1).2.symm
   ·exact I.dj y z u u' h1 h2 ne
def Inv.del aNX aNs:Inv n bB jl (aq1 W auc):=by
 have get:∀y u,aG auc y=abF->azD=abF:=λ y u h=>by
  rw[kg] at h;split at h
  ·cases h
  ·exact h
 exact⟨I.ln,λ r h=>⟨(aih h).1,λ p hp=>⟨((aih h).2 p hp).1,λ y u hu=>((aih h).2 p hp).2 y u aDG⟩⟩,I.lk,I.Cm,I.Iy,I.NS,pq I.xp,λ y u hu=>I.tr y u aDG,λ y z u u' h h'=>I.dj y z u u' (get y u h) (get z u' h')⟩
abbrev Ml aN8(lM:akb)aPI aP6:Wd :=
 { W with locks:=alx r afn,points:=mV lM vd afn W.points,green:=avB [r] }
abbrev setB aN8 aPI aNZ aNk:Bx :=
 { B with locks:=ank r afn,lying:=AU vd afn B.lying,greens:=cC B.greens aqq r }
def set_inv{vd:aoV}aPc aNn(hr:aDh)(dQ:agx afn)aTK
  (ht:∀x t,abW=acv->axJ (s.1∉ah0)):alT (Ml bB lM vd W r):=by
 rw[d9 hp0 (∃p,p∈ah0) (by
  unfold fz;cases e:afn with
  | nil=>rw[aCF]
  | cons s w=>rw[aab s.1 Ξ]) hold (∀r',atU->ae8 (fz bB r') (p∉ah0)) (λ r' h' p hp TK=>by
  rw[adS e1 (as4 h') (hf p TK) e1];cases e1)]
 rw[d9 aat (∀r',atU->r'≠r) (λ r' h' e=>by
  subst e;rw[adP p hp hp0 (hold _ h' p hp hp)]) hah (∀x t,abW=acv->avn (s.1∉ah0)) (λ x t h s hs hp=>by
  rw[aq3 r' e ((I.tr x t h).al hs) (hf _ hp) e];cases e)]
 have get:∀p<n,(alx r afn)[p]? = al8 p ah0 (am5 r) (ans p) := ahO (xr r p _ _ (by rw[Ω I.ln hp]))
 rw[asZ lt (∀p(o:aec),acn (alx r afn) p o->p<n) (λ p o h=>by
  have:=arW;rwa[tP,I.ln] at this) lt' (∀p(o:aec),acn W.locks p o->p<n) (λ p o h=>by
  rw[avQ arW I.ln]) ⟨by show acL (jP _ _ _)=_;rw[Ω tP I.ln],?_,?_,?_,I.Iy,?_,I.xp,?_,I.dj⟩]
 ·intro r' h'
  have h':atU\/r'=r:=by
   rcases h' with h' | h'
   ·rcases aLV with h' | h'
    ·exact b4 (b4 h')
    ·exact b9 (aaF h')
   ·exact b4 (b9 h')
  rcases h' with h' | rfl
  ·rw[ac4 (apW h').1 (λ p hp=>⟨?_,((apW h').2 p hp).2⟩)];show(alx r afn)[p]? = _;rw[aeh (get p (R.lt r' (apW h').1 p hp)) (al1 (hold r' h' p hp)) (as4 h')]
  ·rw[aab hr (λ p hp=>⟨by show(alx _ _)[p]? = _; rw[get p (R.lt _ hr p hp),if_pos hp],λ x t h s hs e=>hah x t h s hs (aoP hp)⟩)]
 ·intro p r' h;rw[ak1 h (anK (alx r afn) p r') h (get p (lt p _ h)) h];split at h
  ·rename_i hp;cases h;exact hp
  ·exact I.lk p r' h
 ·show af0 (avB [r]);rw[List.nodup_append];rw[ab8 I.Cm Ξ (acE a ha b hb)];rw[axF hb hb (aat a (b4 ha))]
 ·intro r' h' h2
  have h':r'∈avB [r]:=h';rcases aLV with h' | h'
  ·exact I.NS r' h' h2
  ·simp at h';exact aat r' (b9 h2) h'
 ·intro x t h;refine(I.tr x t h).of anV anV
  ·have e:=(I.tr x t h).st s hs;show(alx r afn)[s.1]? = _;rw[aeh (get s.1 (lt' _ _ e)) (al1 (ht x t h s hs)) e]
  ·rw[amf r' ((I.tr x t h).al hs)];show(alx r afn)[s.1]? = _;rw[get s.1 (lt' _ _ e),al1 (hah x t h s hs)]
def TL{lw lb:aoV}aPN aNn(hr:aDh)aTK(hl:aho afn (b8 (lM s.1)->lw s=lb s)) :
  amS (Ml bB lM lw W r) (setB bB lb B r):=by
 refine⟨?_,AV r _ _ S.PM,Gw r _ _ (R.lt r hr) S.PN,by show acL (AU _ _ _)=_;rw[Ω AX S.Iz],by show acL (mV _ _ _ _)=_;rw[Ω uT S.pn],?_,?_,tO S.Cm,S.falls,S.ticks,S.trains⟩
 ·intro p hp;show aor (alx r afn) p (aG (ank r afn) p);rw[xr _ _ _ _ (by rw[Ω I.ln hp]),xt,aFL p];split<;>rfl
 ·intro p hp;exact Dh afn W.points B.lying hl (af1 S.pn S.Iz) (ahO (S.yJ p (by rw[g9 S.pn hp hp]))) p (by rw[Ω S.pn hp])
 ·intro s r';show t6 (aG (cC B.greens aqq r) s) r'↔r'∈avB [r]/\aIa=s;rw[eL]
  rw[age (s=aqq)]
  ·subst h;rw[aeO];constructor
   ·intro e; cases e; simp
   ·rintro⟨h1,h2⟩;rcases aLU with h1 | h1
    ·obtain⟨p,hp,TK⟩:=R.hd r' (I.glt h1) r hr h2;rw[aiL (as4 (b4 h1)) (hf p TK)];cases this
    ·simp at h1; rw[h1]
  ·rw[aov,S.greens];constructor
   ·rintro⟨h1,h2⟩;rw[aab (d7 h1) h2]
   ·rintro⟨h1,h2⟩;rcases aLU with h1 | h1
    ·rw[aab h1 h2]
    ·simp at h1;subst h1; rw[afS h2.symm h]
def xu{s r' r:Nat}aPN aPu:t6 (aG aHC s) r'↔r'∈(W.green.filter (adR x (x≠r)))/\aIa=s:=by
 rw[kg,List.mem_filter];rw[ah3 s aqq]
 ·rw[ak2 e];constructor
  ·intro h; cases h
  ·rintro⟨⟨h1,h2⟩,h3⟩;rw[ajQ (I.one R (b4 h1) h (h3.trans e)) aEh]
 ·rw[akU,S.greens];constructor
  ·rintro⟨h1,h2⟩;rw[aab ⟨h1,decide_eq_true λ e'=>e (by rw[← h2,e'])⟩ h2]
  ·rintro⟨⟨h1,_⟩,h2⟩;rw[aab h1 h2]
def PQ aNX{r p:Nat}aPu(hp:p<n):ahZ[p]? = al8 p ah0 as2 (ans p) := by
 rw[qk];rw[akZ (p∈ah0)]
 ·rw[aBJ h1,aKY];simp
 ·rw[afZ h1];cases e:ans p with
  | none=>rfl
  | some o =>
   rw[Option.map_some];split
   ·rename_i e2;subst e2;rw[ajQ (I.lk p r e) h1]
   ·rfl
def Gx aPc aNn aPu{g:ae6}{f:alH}{t:Int}(hg:g.Sublist W.green)(hf:(aE5).Sublist ah6)(YV:r∉g)(SI:r∉aE5) :
  Inv n bB jl { W with locks:=ahZ,green:=g,falls:=f,now:=t }:=by
 rw[ahq old (∀r',r'∈g\/r'∈aE5->atU/\r'≠r) (λ r' h'=>by
  rcases h' with h' | h'
  ·rw[aab (b4 (hg.subset h')) (λ e=>YV (aoP h'))]
  ·rw[aab (b9 (hf.subset h')) (λ e=>SI (aoP h'))]) ⟨aeU ic I.ln,?_,?_,aMI,aMJ,λ r' h1 h2=>I.NS r' (hg.subset h1) (hf.subset h2),I.xp,?_,I.dj⟩]
 ·intro r' h';rw[amv (old r' h')];rw[ac4 (apW h1).1 (λ p hp=>⟨?_,((apW h1).2 p hp).2⟩)];show ahZ[p]? = _;rw[qk,as4 h1];simp[h2]
 ·intro p r' h';rw[ak1 h' (anK ahZ p r') h' qk h'];rw[aIS o ho e h'];split at e
  ·cases e
  ·rw[adL e (I.lk p r' ho)]
 ·intro x u hu;refine(I.tr x u hu).of anV anV
  ·show ahZ[s.1]? = _;rw[qk,(I.tr x u hu).st s hs];simp
  ·show ahZ[s.1]? = _;rw[amf r' ((I.tr x u hu).al hs)];rw[qk,e,Option.map_some];by_cases e2:(some r':aec)=af9
   ·rw[au8 e3 (r'=r) e2];rw[g9 e3 e (absurd rfl (((aih h).2 s.1 (I.lk _ _ e)).2 x u hu s hs))]
   ·rw[afZ e2]
def Gy aPN aNn aPu{g:ae6}{gs:ajb}{f:alH}{fb:aCv}{t:Int}(hg:∀s r,aG gs s=af9↔r∈g/\aqq=s)(hgn:af0 (gs.map (·.1)))(hfb:f=jB (Eo bB nP) fb) :
  oN n bB lM nP { W with locks:=ahZ,green:=g,falls:=f,now:=t } { B with locks:=aGV,greens:=gs,falls:=fb,ticks:=t }:=by
 refine⟨?_,uS _ _ S.PM,AW _ _ S.PN,S.Iz,S.pn,S.yJ,hg,hgn,hfb,rfl,S.trains⟩;intro p hp;show aor ahZ p (aG aGV p);rw[PQ I h hp,mL,aFL p];show(al8 p ah0 _ _)=c8 (al8 p ah0 _ _);split<;>rfl
abbrev rf aP6:Wd:=avg W ahZ green (W.green.filter (adR x (x≠r)))
abbrev v3 aN8 aNZ aNk:Bx:=avg B aGV greens aHC
def Gz{g:ae6}aNn:r∉g.filter (aiY x x r):=λ h=>of_decide_eq_true aEd.2 rfl
def IC aPc aNn(h:aks):alT (rf W r) :=
 Gx (t:=W.now) R I (b4 h) List.filter_sublist asE Gz (I.NS r h)
def ID aPN aNn(h:aks):amS (rf W r) (v3 bB B r):=by
 have:=Gy (fb:=B.falls) (t:=W.now) R I S (b4 h) (λ s r'=>xu (s:=s) (r':=r') R I S (b4 h)) (pq S.Cm) S.falls;have e2:=S.ticks;unfold rf v3;rw[← e2] at this;rw[abQ e2 this]
abbrev AZ aP6(u:Fl):Wd:={ W with green:=W.green.filter (aiY x x r),falls:=cC W.falls r u }
abbrev Kz aN8 aNZ aNk(u:FB):Bx:={ B with greens:=aHC,falls:=avz r u }
def PR aNX aNn{u:Fl}(h:aks):alT (AZ W r u):=by
 rw[ahq hm (∀r',r'∈aeS (cC W.falls r u).map↔r'=r\/r'∈ah6) (PL _ _ _) ⟨I.ln,?_,I.lk,I.Cm.sublist List.filter_sublist,tO I.Iy,?_,I.xp,I.tr,I.dj⟩]
 ·intro r' h';refine apW ?_;rcases h' with h' | h'
  ·exact b4 aJj.1
  ·rcases(hm r').mp h' with rfl | h'
   ·exact b4 h
   ·exact b9 h'
 ·intro r' h1 h2;rcases(hm r').mp h2 with rfl | h2
  ·exact Gz h1
  ·exact I.NS r' (List.mem_filter.mp h1).1 h2
def PU aPN aNn{u:FB}(h:aks):amS (AZ W r (Eo bB nP r u)) (Kz bB B r u) :=
 ⟨S.locks,S.PM,S.PN,S.Iz,S.pn,S.yJ,λ s r'=>xu R I S (b4 h),pq S.Cm,by show cC W.falls r _=jB _ (avz r u);rw[S.falls,qi],S.ticks,S.trains⟩
abbrev yk(f:alH)aPR aNk:Bool:=match aG f r with
 | abF=>aqo u.u t
 | none=>false
abbrev Mm(f:aCv)aPR aNk:Bool:=match aG f r with
 | abF=>aqo u.u t
 | none=>false
def GA aO4 aPR aNk:yk W.falls t r=Mm B.falls t r:=by
 unfold yk Mm;rw[S.falls,nQ];cases aG B.falls r<;>rfl
abbrev dD aP6:Wd:=if yk W.falls W.now r then avg W ahZ falls aue else W
abbrev hG aN8 aNZ aNk:Bx:=if Mm B.falls B.ticks r then avg B aGV falls amE else B
def xw{f:alH}{t:Int}aNn(h:b8 (yk f t r)):r∈aE5:=by
 rw[ajd yk];rw[mem_keys];cases e:aG f r with
 | none=>rw[amW]; cases h
 | some u=>rfl
def Di aPc aNn:alT (dD W r):=by
 unfold dD;split
 ·rename_i h;refine Gx (t:=W.now) R I (b9 (xw h)) asE aI5 (λ h'=>I.NS r h' (xw h)) (λ h'=>((sL _ _ _).mp h').1 rfl)
 ·exact I
def Mn aPN aNn:amS (dD W r) (hG bB B r):=by
 unfold dD hG;rw[GA S,S.ticks];split
 ·rename_i h;rw[← GA S] at h;have:=Gy (f:=aue) (fb:=amE) (t:=W.now) R I S (b9 (xw h)) (λ s r'=>aFM r') S.Cm (af1 S.falls xq);have e2:=S.ticks;rw[← e2] at this;rw[S.falls] at this ⊢;rw[abQ e2 this]
 ·exact S
def Dk aNn:(dD W r).now=W.now:=by unfold dD; split<;>rfl
abbrev v5 aN6:Wd:={ W with now:=amJ }
abbrev v7 aNZ:Bx:=apR ticks (B.ticks+1)
def zx aNX:alT (v5 W):=⟨I.ln,I.own,I.lk,I.Cm,I.Iy,I.NS,I.xp,I.tr,I.dj⟩
def KA aO4:amS (v5 W) (v7 B):=⟨S.locks,S.PM,S.PN,S.Iz,S.pn,S.yJ,S.greens,S.Cm,S.falls,by show B.ticks+1=amJ; rw[S.ticks],S.trains⟩
abbrev Due aN6:Prop:=amL W.falls (W.now<q.2.u)
abbrev rE aN6:Wd:=(ah6).foldl dD (v5 W)
abbrev GB aN8 aNZ:Bx:=(ajq).foldl (hG bB) (v7 B)
def xx(R:ai1):∀aQr,aew->alT (rs.foldl dD W)
 | [],W,I=>I
 | r::rs,W,I=>xx R rs _ (Di R I)
def xy(R:ai1):∀aQr aNZ,aew->aji->amS (rs.foldl dD W) (rs.foldl (hG bB) B)
 | [],W,B,I,S=>S
 | r::rs,W,B,I,S=>xy R rs _ _ (Di R I) (Mn R I S)
def PX aPc:alT (rE W):=xx R _ _ (zx I)
def PY aPN:amS (rE W) (GB bB B):=by
 unfold rE GB;rw[Ω S.qj (xy R _ _ _ (zx I) (KA S))]
def A0:∀aQr,aG6->(rs.foldl dD W).now=W.now/\amL (rs.foldl dD W).falls (q∈W.falls/\(q.1∈rs->W.now<q.2.u))
 | [],W,_=>ah9 (λ q hq=>⟨hq,Ξ⟩)
 | r::rs,W,hn=>by
  rw[List.foldl_cons]
  have aek:anp (dD W r).falls.map:=by
   unfold dD;split
   ·exact pq hn
   ·exact hn
  rw[amv (A0 rs (dD W r) aek)];rw[Dk] at h1 h2;rw[avH h1 q hq];obtain⟨h3,h4⟩:=h2 q hq;unfold dD at h3;split at h3
  ·have h5:=List.mem_filter.mp h3;rw[aab h5.1 (λ h=>(asF).elim (λ e=>absurd e (aEn h5)) h4)]
  ·rename_i hd;rw[ac4 h3 (λ h=>(asF).elim (f6 e) h4)];subst e;unfold yk at hd;rw[aia (cL hn h3) hd hd];omega
def PZ aNX:Due (rE W):=by
 rw[amv (A0 ah6 (v5 W) I.Iy)];intro q hq;have h3:=h2 q hq;rw[agC rE h1 (h3.2 (aja q h3.1))]
def P0(D:awE)aNn{u:Fl}(hw:W.now<u.u)(hr:r∉ah6):Due (AZ W r u):=by
 intro q hq
 have hq:q∈cC W.falls r u:=hq;show W.now<q.2.u;rw[Gv hr] at hq;rcases aLX with hq | hq
 ·exact D q hq
 ·rw[axF hq hq hw]
abbrev rg aN6 aOA:Wd:={ W with points:=aEI ((W.points.getD p none).map (!·)) }
abbrev A3 aNZ aOA:Bx:=apR lying (aJ9 (!(B.lying.getD p true)))
def Mo aNX aOY:alT (rg W p):=⟨I.ln,I.own,I.lk,I.Cm,I.Iy,I.NS,I.xp,I.tr,I.dj⟩
def Mp aO4 aOY(hp:p<n)(IA:aDf):amS (rg W p) (A3 B p):=by
 refine⟨S.locks,S.PM,S.PN,aeU A3 S.Iz,aeU rg S.pn,?_,S.greens,S.Cm,S.falls,S.ticks,S.trains⟩;intro q hq hqp;show acn (aEI ((W.points.getD p none).map (!·))) q (aJ9 (!(B.lying.getD p true)))[q]?;rw[ain (S.yJ p hp IA) (S.yJ q hq hqp)]
 have Mq:p<B.lying.length:=by rw[Ω S.Iz hp]
 rw[ah3 p q]
 ·subst e;rw[aAA (by rw[Ω S.pn hp]),List.getElem?_set_self Mq,List.getD_eq_getElem?_getD,h1,List.getD_eq_getElem?_getD,List.getElem?_eq_getElem Mq];rfl
 ·rw[aeh aAD aAD h2]
def Mr(D:awE)aOY:Due (rg W p):=D
def v9 aQe(p q:Nat):(aBi p)[q]? = l[q]? \/ acn (aBi p) q none:=by
 rw[age (p=q)]
 ·subst h;by_cases hl:atk p
  ·exact b9 (List.getElem?_set_self hl)
  ·left;rw[aob (by rw[aer]),ayC]
 ·exact b4 aLQ
def KB aO4(hl:aIX n){p q:Nat}(hq:q<n):aor (W.locks.set p none) q (aG (arb p) q):=by
 rw[kg]
 rw[age (q=p)]
 ·subst h;rw[aeO,aAA (by rw[Ω hl hq])]
 ·rw[aov,aAE (atD e.symm),S.locks q hq]
def Qa{d:ajb}aOY(h:amL ai6 (q<n)):amL (aeS (cD d p).map) (q<n):=ah1 (h q ((sL _ _ _).mp hq).2)
abbrev Dl aN8 aP6 aNs(old:HB):Wd :=
 { W with green:=W.green.filter (aiY y y r),falls:=aue,locks:=W.locks.set ((afn).headD (0,0,0)).1 none,trains:=amk (ah8 ((afn).take 1++old) ((afn).drop 1)) }
abbrev GC aN8 aNZ aNk aNs aOt:Bx :=
 { B with greens:=aHC,falls:=amE,locks:=arb ((afn).headD (0,0,0)).1,trains:=azP }
def GD aPc aNn aNm{old:HB}aPu(dQ:agx afn)(ho:∀t,abW=acv->t.steps=old)(hn:aG8->old=[]):alT (Dl bB W r x old):=by
 obtain⟨s0,w,ew⟩:∃s w,afn=s::w:=by
  cases e:afn with
  | nil=>rw[aCF]
  | cons s w=>rw[amU s w]
 rw[ajg hpc (ah0=ahQ::ajV) (by rw[atd fz ew]) zt (R.nd r (aih h).1)];rw[aJJ hpc zt];rw[d9 XO (ans ahQ = am5 r) (aBJ (by rw[af2 hpc])) hw (aho w (s.1∈ah0)) (ale (by rw[Ω hpc (aha (aja s hs))]))]
 have se:am9 ahQ:=aLu.1;have IE:aAk q (q≠ahQ) ((W.locks.set s0.1 none)[q]? = ans q) := ah1 (aAE (adD (hq e.symm)))
 rw[d9 hold (aho old (acn W.locks s.1 none)) (ale (by
  cases e:abW with
  | none=>rw[aia (hn e) hs hs]
  | some t=>exact(I.tr x t e).st s (by rw[Ω (ho t e) hs]))) Qb (anp ((s0::w).take 1++old).map) (by
  show af0 (ahQ::old.map (·.1));rw[List.nodup_cons];rw[ac4 awH ?_]
  ·rw[apm s hs e h];have:=hold s hs;rw[e,XO] at this;cases this
  ·cases e:abW with
   | none=>rw[af2 (hn e)]
   | some t=>rw[← ho t e];exact(I.tr x t e).nd)]
 rw[acu Dl ew]
 refine I.put (x:=x) rfl Ξ List.filter_sublist aI5 (λ p=>v9 _ _ _) (acE r' h' p hp) (acE y u ne hu) ⟨Ξ,Qb,?_,?_,Ξ⟩
 ·rw[avV YR (atU/\r'≠r) (by
   rcases h' with h' | h'
   ·rw[aab (b4 aJj.1) (aEn aJj)]
   ·rw[aab (b9 ((sL _ _ _).mp h').2) ((sL _ _ _).mp h').1]) hd (p∉ah0) TK (by
   rw[adS e1 (as4 YR.1) (aBJ TK) e1];cases e1;exact YR.2 rfl)]
  rw[aab (IE p (adD (hd (by rw[e,hpc];simp)))) (λ s hs e=>hd (aoP (hw s hs)))]
 ·rw[ab8 (ale (IE _ (adD (((aih h).2 ahQ (by rw[af2 hpc])).2 y u hu s hs e)))) (adW s hs s' sd e) (λ s hs s' sd e=>((aih h).2 s.1 (hw s hs)).2 y u hu s' sd e.symm)];rw[aev e0 ((I.tr y u hu).st s' sd) hs (s=s0\/s∈old) ayY]
  rcases hs with rfl | hs
  ·rw[← e,XO] at e0; cases e0
  ·cases e1:abW with
   | none=>rw[aia (hn e1) hs hs]
   | some t=>exact(I.dj x y t u e1 hu aHk).1 s (by rw[Ω (ho t e1) hs]) s' sd e
 ·intro s hs
  have hs:s=s0\/s∈old:=ayY
  show(W.locks.set s0.1 none)[s.1]? = _;rcases hs with rfl | hs
  ·exact aLD
  ·rcases v9 W.locks ahQ s.1 with e | e
   ·rw[alL (hold s hs)]
   ·exact e
 ·intro _;refine⟨r,0,(aih h).1,by rw[ab2 ew],anV⟩;have hs:s∈w:=hs;show(W.locks.set s0.1 none)[s.1]? = _;rw[Ω (IE _ (adD (zt.1 (aoP (aja s hs))))) (aBJ (hw s hs))]
def GF aPN aNn aNm{old:HB}{t:TB}aPu(ht:t.tr=ah8 ((afn).take 1++old) ((afn).drop 1)):amS (Dl bB W r x old) (GC bB B r x t) :=
 ⟨ahO (KB S I.ln hp),pq S.PM,Qa S.PN,S.Iz,S.pn,S.yJ,λ s r'=>xu R I S h,pq S.Cm,by show aue=jB _ amE;rw[S.falls,xq],S.ticks,by show av7=jB AS azP;rw[qi,S.trains,AS,ht]⟩
abbrev KC aO7(t:Tr):Wd :=
 avg W aCl trains (amk (ah8 (axq++t.steps) (t.ahead.drop 1)))
abbrev Vi aP7 aOA aOt:Bx:=avg B (arb p) trains azP
def Qc aPc aOc aOR(dQ:awq):alT (KC W x t):=by
 obtain⟨s0,w,ew⟩:∃s w,t.ahead=s::w:=by
  cases e:t.ahead with
  | nil=>rw[aCF]
  | cons s w=>rw[amU s w]
 have T:=azh;obtain⟨r,k,hr,hk,GG⟩:=T.ah dQ;rw[ew] at hk GG
 have zt:anp (s0::w).map:=by
  have h1:((afn).drop k |>.map (·.1)).Nodup:=by
   rw[aeN List.map_drop ((R.nd r hr).sublist (aJu _))]
  rw[← hk,zC,List.nodup_cons] at h1
  exact h1.2
 rw[aJJ zC zt];rw[aev XO (GG s0 Ξ) se (am9 ahQ) aLu.1];have IE:aAk q (q≠ahQ) ((W.locks.set s0.1 none)[q]? = ans q) := ah1 (aAE (adD (hq e.symm)))
 have Qb:anp ((s0::w).take 1++t.steps).map:=by
  show af0 (ahQ::aJC);rw[List.nodup_cons];rw[ac4 awH T.nd];rw[apm s hs e h];have:=T.st s hs;rw[e,XO] at this;cases this
 rw[acu KC ew]
 refine I.put (x:=x) rfl Ξ asE asE (λ p=>v9 _ _ _) (acE r' h' p hp) (acE y u ne hu) ⟨Ξ,Qb,?_,?_,Ξ⟩
 ·rw[adS h1 (((apW h').2 p hp).2 x t hx) ew h1];rw[aab (IE p (adD (h1 s0 Ξ e.symm))) (ale (h1 s (aha hs)))]
 ·have hd:=I.dj x y t u hx hu aHk;rw[Dj,ew] at hd;rw[ab8 (ale (IE _ (adD (hd.2 s0 Ξ s hs e.symm)))) (adW s hs s' sd e) (ale (hd.2 s (aha hs)))]
  have hs:s=s0\/ax6 s:=ayY
  rcases hs with rfl | hs
  ·have e0:=(I.tr y u hu).st s' sd;rw[← e,XO] at e0; cases e0
  ·exact hd.1 s hs s' sd e
 ·intro s hs
  have hs:s=s0\/ax6 s:=ayY
  show(W.locks.set s0.1 none)[s.1]? = _;rcases hs with rfl | hs
  ·exact aLD
  ·rcases v9 W.locks ahQ s.1 with e | e
   ·rw[alL (T.st s hs)]
   ·exact e
 ·intro _;refine⟨r,k+1,hr,?_,anV⟩
  ·rw[← List.drop_drop,← hk]; rfl
  ·have hs:s∈w:=hs;show(W.locks.set s0.1 none)[s.1]? = _;rw[Ω (IE _ (adD (zt.1 (aoP (aja s hs))))) (GG s (aha hs))]
def Qd aNX aO4 aOc{t':TB}(ht:t'.tr=ah8 (axq++t.steps) (t.ahead.drop 1)):amS (KC W x t) (Vi B x (t.ahead.headD (0,0,0)).1 t') :=
 ⟨ahO (KB S I.ln hp),pq S.PM,Qa S.PN,S.Iz,S.pn,S.yJ,S.greens,S.Cm,S.falls,S.ticks,by show av7=jB AS aqk;rw[qi,S.trains,AS,ht]⟩
abbrev IF aO7(t:Tr):Wd:=aq1 W (amk t)
abbrev XQ aP7 aOt:Bx:=aq1 B azP
def KD aO4 aNm{t:TB}:amS (IF W x t.tr) (XQ B x t) :=
 ⟨S.locks,S.PM,S.PN,S.Iz,S.pn,S.yJ,S.greens,S.Cm,S.falls,S.ticks,by show av7=jB AS azP; rw[qi,S.trains,AS]⟩
def KG aNX aNm{t t':Tr}aOR(ha:t'.ahead=t.ahead)(hs:aho t'.steps (ax6 s))(hT:Ck bB jl W.locks t'):alT (IF W x t'):=by
 rw[amn (I.put (W':=IF W x t') (x:=x) rfl rfl asE asE (λ p=>b4 rfl) (λ r' h' p hp=>ah9 (by rw[aeN ha (((apW h').2 p hp).2 x t hx)])) (λ y u ne hu=>aik aCb) hT) hd (I.dj x y t u hx hu aHk)];rw[aab (λ s h=>hd.1 s (hs s h)) (by rw[Ω ha hd.2])]
def TM aNX aOc aOR(ha:anG)(hb:YW (jl aij ams)):alT (IF W x aIh) :=
 KG I hx ha.symm (λ s h=>h) ⟨(azh).ne,(azh).nd,(azh).st,λ h=>absurd rfl h,λ _=>ah9 hb⟩
def GH{t:Tr}(h:aJQ 1)(dQ:aCD):agx t.steps.dropLast/\t.steps.dropLast.headD (0,0,0)=aoq:=by
 unfold bD;cases e:t.steps with
 | nil=>rw[aCF]
 | cons s w =>
  cases w with
  | nil=>rw[aia e h h]
  | cons s' w=>simp
def Qe aNX aOc aOR(h1:aJQ 1):alT (IF W x avl):=by
 have T:=azh;obtain⟨h2,h3⟩:=GH h1 T.ne;rw[d9 hm (aho t.steps.dropLast (ax6 s)) (λ s h=>(aLO).subset h) e (bD avl=aoq) h3];exact KG I hx rfl hm ⟨h2,T.nd.sublist ((aLO).map _),λ s h=>T.st s (hm s h),λ h=>by rw[alL (T.ah h)],λ h=>by rw[alL (T.ot h)]⟩
abbrev aav aO7:Wd:=aq1 W auc
abbrev aaw aP7:Bx:=aq1 B (cD B.trains x)
def TN aO4 aNm:amS (aav W x) (aaw B x) :=
 ⟨S.locks,S.PM,S.PN,S.Iz,S.pn,S.yJ,S.greens,S.Cm,S.falls,S.ticks,by show auc=jB AS (cD B.trains x); rw[xq,S.trains]⟩
abbrev flip aNR:dM:=(s.1,s.2.2,s.2.1)
abbrev Ft aPA:aeI:=ayv l s (aBi s.1) l
def wa:∀aPA,aGI (Ft w l)
 | [],l=>rfl
 | s::w,l=>by show acL (Ft w (aBi s.1))=_;rw[af2 (wa w)]
def zy aOA:∀aPA,atk p->(Ft w l)[p]? = al8 p ajV as2 l[p]?
 | [],l,h=>d7 Ft
 | s::w,l,h=>by
  show(Ft w (aBi s.1))[p]? = _;rw[zy p w _ azC,zC];rw[akZ (p∈ajV)]
  ·rw[if_pos h1,af5 (aha h1)]
  ·rw[afZ h1]
   rw[aoR (s.1=p)]
   ·subst h2;rw[if_pos Ξ,List.getElem?_set_self h]
   ·rw[atX ((aEr).elim (adD (h2 e.symm)) h1),aLM]
def Qf aPA aOA:(Ft w l)[p]? = l[p]? \/ acn (Ft w l) p none:=by
 rw[age (atk p)]
 ·rw[zy p w l h];split
  ·exact b9 rfl
  ·exact b4 rfl
 ·left;rw[aob (by rw[ahX wa]),ayC]
def KH aPA aOA(hp:p∉ajV):(Ft w l)[p]? = l[p]? := by
 rw[age (atk p)]
 ·rw[zy p w l h,if_neg hp]
 ·rw[aob (by rw[ahX wa]),ayC]
abbrev ui aNs(_:Nat)(u:Fl):Fl:=⟨u.u,u.ns.filter (aiY y y x),u.bd⟩
abbrev uj aNs(_:Nat)(u:FB):FB:={ u with nr:=akI u.nr ad5 none u.nr }
abbrev GI aO7(t:Tr):Wd :=
 { W with locks:=aFv,falls:=jB (ui x) W.falls,trains:=aCG }
abbrev Vj aP7(ah:HB)aOt:Bx:={ B with locks:=al7 ah,falls:=axO (uj x),trains:=azP }
def Qg aNX aOc aOR:alT (GI W x t):=by
 have T:=azh
 rw[d9 hm (∀s∈auY,∃s'∈t.steps,s.1=s'.1) (λ s h=>by
  rw[aiN s' h' h];exact ah7 s' (List.mem_reverse.mp h')) Qb (anp (auY).map) (by
  rw[List.map_map,apE (((·.1) ∘ flip:dM->Nat)=(·.1)),List.map_reverse]
  exact(List.reverse_perm _).nodup_iff.mpr T.nd)]
 rw[aoa GI (I.put (x:=x) rfl (wa _ _) asE (by rw[Ω qh asE]) (λ p=>Qf _ _ _) (acE r' h' p hp) (acE y u ne hu) ⟨?_,Qb,?_,λ h=>absurd rfl h,λ h=>by cases h⟩)]
 ·have YR:atU:=by
   rcases h' with h' | h'
   ·exact b4 h'
   ·right;have h':r'∈aeS (jB (ui x) W.falls).map:=h';rwa[qh] at h'
  rw[ac4 (KH _ _ _ awH) (ale (aqV hs))]
  rw[apm s hs e h];exact((apW YR).2 p hp).2 x t hx s hs e
 ·have hd:=I.dj x y t u hx hu aHk
  rw[ab8 (ale (KH _ _ _ awH)) (adW s hs s' sd e) (ale (aqV hs))]
  ·rw[apm s' sd e h];exact hd.2 s' sd s hs e
  ·rw[aq7 s2 h2 e2 (hm s hs) (hd.1 s2 h2 s' sd (e2.symm.trans e))]
 ·have:=T.ne;intro h;apply this;rw[ajE h2 (t.steps.reverse=[]) (List.map_eq_nil_iff.mp h) (List.reverse_eq_nil_iff.mp h2)]
 ·intro s hs
  obtain⟨s2,h2,e2⟩:=hm s hs;show aFv[s.1]? = _;rw[e2];rcases Qf t.ahead W.locks s2.1 with e | e
  ·rw[alL (T.st s2 h2)]
  ·exact e
def Qh aNX aO4 aOc{t':TB}(ht:t'.tr=ah8 auY []):amS (GI W x t) (Vj B x t.ahead t'):=by
 refine⟨asd,uS _ _ S.PM,AW _ _ S.PN,S.Iz,S.pn,S.yJ,S.greens,S.Cm,?_,S.ticks,by show av7=jB AS aqk;rw[qi,S.trains,AS,ht]⟩
 ·show aor aFv p (aG (al7 t.ahead) p);rw[zy _ _ _ (by rw[Ω I.ln hp]),mL,aFL p];split<;>rfl
 ·show jB (ui x) W.falls=jB _ (axO (uj x));rw[S.falls];rw[af7 jB List.map_map List.map_map];refine List.map_congr_left λ q _=>?_;obtain⟨r,u,o,ob⟩:=q;simp only[Function.comp,ui,uj,Eo];cases o with
  | none=>simp
  | some y=>by_cases e:y=x<;>simp[e]
def tQ{W':Wd}(D:awE)(hn:W'.now=W.now)(hf:∀q∈W'.falls,∃q'∈W.falls,q'.2.u=q.2.u):Due W':=ah1 (by
 rw[aBC q' h (hf q hq)];rw[hn,← e];exact D q' h)
def GJ(D:awE)aNn aNm{old:HB}:Due (Dl bB W r x old):=tQ D rfl (ah1 (ah7 q aJl.1))
def Qi(D:awE)aOc:Due (GI W x t):=tQ D rfl (ah1 (by
 rw[aiN q' h hq];exact ah7 q' h))
def Inv.lt aNX aOY{v:aec}(h:acn W.locks p v):p<n:=by
 rw[avQ arW I.ln]
def Inv.Qj aNX aOc(h:abW=acv):aC7:=by
 have:=md (n:=n) (I.tr x t h).nd (ahO (by
  rw[aiN s hs hp];exact I.lt ((I.tr x t h).st s hs)))
 simpa using this
def Inv.XR aPc aOc(h:abW=acv):aEA n:=by
 by_cases e:anG
 ·rw[awJ]
 ·obtain⟨r,k,hr,hk,_⟩:=(I.tr x t h).ah e;rw[aev h1 (md (n:=n) (R.nd r hr) (R.lt r hr)) h2 (ag4 (aoq::t.ahead) (acL afn)) (by rw[aeN hk (aJu _).length_le])]
  rw[anh fz h1 zK h1];rw[zE] at h2
  omega
def sM{t:Tr}(h:aCD):ax6 aoq:=by
 unfold bD;cases e:t.steps with
 | nil=>rw[afS e h]
 | cons s w=>simp
def GK:∀(d:atM),arz->(amL d (agx q.2.steps))->(amL d (∀q'∈d,q.1≠q'.1->Dj q.2 q'.2))->af0 (ar4 (bD q.2).1)
 | [],_,_,_=>Ξ
 | q::d,hn,hs,hd=>by
  rw[zC,List.nodup_cons] at hn ⊢;rw[ac4 awH (GK d hn.2 (λ q' h=>hs q' (d7 h)) λ a ha b hb=>hd a (d7 ha) b (d7 hb))];rw[apm q' wV e h];have dQ:q'.1≠q.1:=λ e'=>hn.1 (e' ▸ aja q' wV);exact(hd q' (d7 wV) q Ξ dQ).1 _ (sM (hs q' (d7 wV))) _ (sM (hs q Ξ)) e
def Inv.XT aNX:aDX n:=by
 rw[ajg hm (asP q (t6 (aG W.trains q.1) q.2)) (ah1 aBR) h1 (GK W.trains I.xp (ah1 (aqC (hm q hq)).ne) λ q hq q' wV dQ=>I.dj _ _ _ _ (hm q hq) (hm q' wV) dQ)]
 have:=md (n:=n) h1 (ahO (by
  rw[aiN q hq hp];exact I.lt ((aqC (hm q hq)).st _ (sM (aqC (hm q hq)).ne))))
 simpa using this
universe zE
universe Sb
universe zE
end
mutual
section
namespace Sb
open PySem L2
section
variable {α:Type}
abbrev encD(e:azm)(d:ay4):ae2:=ar4 ((alr q.1:Key),e q.1 q.2)
def Ep aQ5:((alr a:Key)=alr b)↔a=b:=by
 rw[ahX Sum.inl.injEq]
def gq(e:azm)aNW:∀d:ay4,jq (awg e) azF=(auO).map (e k)
 | []=>rfl
 | q::d=>by
  have ih:=gq e k d;unfold jq encD at ih ⊢
  rw[zC,List.find?_cons,eJ]
  rw[age (q.1=k)]
  ·rw[azN]
  ·rw[afZ h];have h':acs (aeY (alr q.1:Key) azF):=decide_eq_false λ e=>h (Ep.mp e);dsimp only;rw[Ω h' ih]
def sN(e:azm)aNW(v:α)(d:ay4):nv (awg e) azF (e k v)=aeV e (cC d k v):=by
 unfold nv cC encD
 have ha:(ar4 ((alr q.1:Key),e q.1 q.2)).any (arK (afD=azF))=d.any (ala (q.1=k)):=by
  rw[List.any_map]
  congr 1
  funext q
  exact decide_eq_decide.mpr Ep
 rw[ha];split
 ·rw[List.map_map,List.map_map]
  refine List.map_congr_left λ q _=>?_
  rw[age (q.1=k)]
  ·rw[azN]
  ·have h':¬((alr q.1:Key)=azF):=atD (Ep.mp e);rw[aAH aov (if_neg h')]
 ·simp
def ql(e:azm)aNW(d:ay4):ue (awg e) azF=aeV e (cD d k):=by
 unfold ue cD encD
 rw[aEC]
 congr 1
 refine List.filter_congr (ab7 q _)
 exact decide_eq_decide.mpr (not_congr Ep)
abbrev dP(e:azv)(d:ay8):ae2:=ar4 ((auf:Key),e q.1 q.2)
def zL{a b:Int}:((aFV:Key)=aFW)↔a=b:=agK Sum.inl.injEq
def i8 aSW:∀d:ay8,jq (dP e d) axV=(auO).map (e k)
 | []=>rfl
 | q::d=>by
  have ih:=i8 e k d;unfold jq dP at ih ⊢
  rw[zC,List.find?_cons,eJ]
  rw[age (q.1=k)]
  ·rw[azN]
  ·rw[afZ h];have h':acs (aeY (auf:Key) axV):=decide_eq_false λ e=>h (zL.mp e);dsimp only;rw[Ω h' ih]
def GL aSW(v:α)(d:ay8):nv (dP e d) axV (e k v)=dP e (cC d k v):=by
 unfold nv cC dP
 have ha:(ar4 ((auf:Key),e q.1 q.2)).any (arK (afD=axV))=d.any (ala (q.1=k)):=by
  rw[List.any_map]
  congr 1
  funext q
  exact decide_eq_decide.mpr zL
 rw[ha];split
 ·rw[List.map_map,List.map_map]
  refine List.map_congr_left λ q _=>?_
  rw[age (q.1=k)]
  ·rw[azN]
  ·have h':¬((auf:Key)=axV):=atD (zL.mp e);rw[aAH aov (if_neg h')]
 ·simp
def Dm aSW(d:ay8):ue (dP e d) axV=dP e (cD d k):=by
 unfold ue cD dP
 rw[aEC]
 congr 1
 refine List.filter_congr (ab7 q _)
 exact decide_eq_decide.mpr (not_congr zL)
def A4(e:azv)(d:ay8):acL (dP e d)=d.length:=d7 dP
def Ms{e:azv}aNm{t t':α}{d:ay8}(hn:arz)(h:aG d x=acv)(he:e x t'=e x t):dP e (cC d x t')=dP e d:=by
 unfold cC dP;rw[af5 ((axN x).mpr ((mem_keys d x).mpr (by rw[ab2 h]))),List.map_map];refine List.map_congr_left λ q hq=>?_;rw[aEf];by_cases e1:q.1=x
 ·have:=azj;rw[e1,h] at this;cases this;rw[if_pos e1,e1,he]
 ·rw[afZ e1]
def sO(e:azm)(d:ay4):acL (awg e)=d.length:=d7 encD
universe zE
section
variable {M:bb} {n:Nat} {kvs:ae2}
def uU aN5 aNv aOW aO2(hk:kq x=aeK):mG neg x (ο n) M=.ok (.bl (if neg then !(agc anT) else agc anT)) M:=by
 rw[apH mG si h];simp only[L2.getD,h,hk,Option.map_some]
def mW{x v:PV}aOW aO2 aUr:aO (ο n) x M=.ok v M:=by
 rw[apH aO si h];simp only[L2.getD,h,hk,Option.map_some,hv]
def wb aNh aNt aNv(h:aAo)(hx:amw):agu (ο n) i=.ok x M:=by
 have hl:aqw:=aLt.1;simp only[aO,si,h,Ly,Hx];rw[aon,aon];simp[hx]
def iG{k v:PV}{kk:Key}aO2(hk:t6 (kq k) kk)(hl:kvs.length<lim):yI (ο n) k v M=c8 (adA n .bP (nv kvs kk v)):=by
 simp only[yI,h,hk,if_pos hl]
def mM aNh aNt{v:PV}(h:aAo)(hi:aqw):yI (ο n) (η i) v M=c8 (ajR n (xs.set i v)):=by
 simp only[yI,h,Hx];rw[aon,aon];simp
def cU aOh(h:asj):aoC n:=arW
def get_set{o o':MO}(h:asj):acn (arw o') n o':=aAA (cU h)
def ar{m:Nat}{o':MO}(h:n≠m):(arw o')[m]? = M[m]? := aLQ
universe zE
def fA aPt{lL di dv:DE}aNT(y:PV)(M1:bb)aNO(M2:bb)(k:PV)(M3 M':bb)aTI aTs(q:Q (.nx ρ M')):Q (fx lL di dv ρ M):=by
 unfold fx;rw[hv,Res.eu,ho,Res.eu,hk,Res.eu,hp];exact q
def A5 aPt aN3{ps:ay3}aNT(h:dJ ps ρ M=.ok () M)(q:Q (YX C ρ M)):Q (cm C ps ρ M):=by
 rw[agC cm h q]
def oO aPt aNp aNT aP2 aPQ aTL:Q (bQ d ρ M):=by
 rw[agC bQ h q]
def KI aPt aNt aNp aNT aP2 aPQ aTL:Q (bR i d ρ M):=by
 rw[agC bR h q]
@[simp] def OL aOa aN7 aNb aQn:(Res.exc c M:alG).bind f=YX c M:=rfl
@[simp] def aax{a b:DE}aNT:JX a b ρ M=ao4 (a ρ M).bind (match x with | .bl k=>ahi k (b ρ M1) (.ok (ako .bl) M1) | _=>c6):=by
 unfold JX
 congr 1
 funext x M1
 cases x<;>try rfl
 rename_i k;cases k<;>rfl
@[simp] def KJ{a b:DE}aNT:OU a b ρ M=ao4 (a ρ M).bind (match x with | .bl k=>if b8 k then .ok afE M1 else b ρ M1 | _=>c6):=by
 unfold OU
 congr 1
 funext x M1
 cases x<;>try rfl
 rename_i k;cases k<;>rfl
@[simp] def aco aN5 aNy aNb:sk neg (η i) .bh M=.ok (.bl neg) M:=by cases neg<;>rfl
@[simp] def acp aN5 aNb:sk neg .bh .bh M=.ok (.bl ! neg) M:=by cases neg<;>rfl
@[simp] def acq aN5 aM9 aNb:sk neg (ο n) .bh M=.ok (.bl neg) M:=by cases neg<;>rfl
@[simp] def Qk aPx:HZ (η i) (η j) M=.ok (.bl (an8 i j)) M:=rfl
@[simp] def A6 aPx:ZW (η i) (η j) M=.ok (.bl (aqo i j)) M:=rfl
@[simp] def Ql aPx:Hy (η i) (η j) M=.ok (.bl (an8 j i)) M:=rfl
@[simp] def aay aPx:ZX (η i) (η j) M=.ok (.bl (aqo j i)) M:=rfl
universe Sb
universe zE
section
namespace Sb
open PySem L2
structure Cs where
 yd:Addr
 fa:Addr
 nt:Addr
 he:Addr
 tr:Addr
 rd:Addr
structure gH where
 ps:kK
 ss:aeT
 rs:afL
 wait:Int
inductive Tg where
 | yard
 | fall aNk
 | train aNs
 | steps aNs
 | ahead aNs
 | A7
abbrev tR aNC aPR:ajD :=
 [("found",hZ Y.rs),("pieces",ai9),("signals",atn),("wait",ayS),("ticks",η t),("locks",ο 1),("lying",ο 2),aDi 3,aGJ (ο 4),("trains",ο 5)]
abbrev o6(b:Bool):PV:=b5 (if b then "straight" else "branch")
abbrev fB:acG->PV
 | awc=>η i
 | none=>.bh
abbrev IG(u:FB):ajD:=[("until",η u.u),aCk (fB u.nr)]
abbrev k6 aOt:ajD:=[("steps",ο t.so),("ahead",ο t.ao),("is_out",.bl t.tr.out)]
abbrev eI:ajM (ajM PV):=abg r (η r)
abbrev eF:aqb FB PV:=abg u (ο u.ob)
abbrev eT:Int->TB->PV:=abg t ahy
structure ym(C:Cs)aOS aNs aOt:Prop where
 ot:o t.ob=anC x
 os:o t.so=ak0 x
 oa:o t.ao=af8 x
 mt:az0
 ms:aDp
 ma:auF t.ao (t.tr.ahead.map aI)
structure cV aNS(e:acG)aOS aNZ:Prop where
 y0:M[0]? = ab1 aa7 C.yd (tR Y B.ticks)
 y1:M[1]? = avA .bP eI B.locks
 y2:auF 2 (B.lying.map o6)
 y3:M[3]? = avA .bP eI B.greens
 y4:agg M 4 .bP ak5
 y5:agg M 5 .bP awl
 lo:∀i≤5,o i=.yard
 hi:∀i,axE i->o i=.A7
 yf:∀q∈B.falls,o q.2.ob=.fall q.1/\M[q.2.ob]? = aBM (IG q.2)
 yt:∀q∈B.trains,e≠some q.1->ym C o M q.1 q.2
structure gB aOS(o':adB)aPQ:Prop where
 len:aKe
 tag:∀i<M.length,o' i=o i
 out:∀i<M.length,o i=.A7->M'[i]? = M[i]?
def gB.refl{o:adB}aNb:apa M:=⟨ack,aCb,λ _ _ _=>rfl⟩
def gB.trans{o o1 o2:adB}{M M1 M2:bb}(a:arT o1 M1)(b:gB o1 M1 o2 M2):arT o2 M2 :=
 ⟨Nat.le_trans a.len b.len,aqE (x9 (b.tag i (aI6 h)) (a.tag i h)),λ i h1 h2=>x9 (b.out i (aI6 h1) (x9 (a.tag i h1) h2)) (a.out i h1 h2)⟩
def gB.set{o:adB}aNb aM9{v:MO}(h:o n≠.A7):apa (arw v):=⟨Ξ,aCb,λ i _ hi=>ar (atD (aoP hi))⟩
abbrev df(o:adB)aNd(g:Tg):adB:=arH i i n g (o i)
def hJ{o:adB}aM9{g:Tg}:df o n g n=g:=aeO
def lG{o:adB}{n i:Nat}{g:Tg}(h:i≠n):df o n g i=o i:=aov
def gB.push{o:adB}aNb{v:MO}{g:Tg}:arT (df o M.length g) (M++[v]):=⟨Ξ,aqE aCo,λ i h _=>List.getElem?_append_left h⟩
def iH{o:adB}{i j:Nat}{a b:Tg}(h1:o i=a)(h2:o j=b)(h:a≠b):i≠j:=atD (by rw[← h1,← h2,e])
section
variable {C:Cs} {Y:gH} {e:acG} {o:adB} {M:bb} {B:Bx} {ρ:fk}
def cV.gt aNA aNt{g:Tg}(hi:o i=g)(hg:g≠.yard):5<i:=by
 by_cases h5:i≤5
 ·rw[afS ((aGm (h.lo i h5)) hi).symm hg]
 ·omega
def cV.mv aNA{M':bb}{B':Bx}(hl:akO)(h0:M'[0]? = ab1 aa7 C.yd (tR Y B'.ticks))(h1:M'[1]? = avA .bP eI B'.locks)(h2:M'[2]? = aiV (B'.lying.map o6))
  (h3:M'[3]? = avA .bP eI B'.greens)(h4:M'[4]? = avA .bP eF B'.falls)(h5:agg M' 5 .bP (dP eT B'.trains))(hf:amL B'.falls (q∈B.falls))(ht:amL B'.trains (q∈B.trains))(hm:∀i,5<i->M'[i]? = M[i]?):cV C Y e o M' B' :=
 ⟨h0,h1,h2,h3,h4,h5,h.lo,aFP i (by rw[abQ hl hi]),λ q hq=>⟨(h.yf q (hf q hq)).1,x9 (hm _ (aqS (h.yf q (hf q hq)).1)) (h.yf q (hf q hq)).2⟩,λ q hq he=>by
  have T:=h.yt q (ht q hq) he
  exact aqm (x9 (hm _ (aqS T.ot)) T.mt) (x9 (hm _ (aqS T.os)) T.ms) (x9 (hm _ (aqS T.oa)) T.ma)⟩
def cV.ael aNA aPR:cV C Y e o (M.set 0 (aa7 C.yd (tR Y t))) (apR ticks t) :=
 h.mv Ξ (get_set h.y0) (ado h.y1) (ado h.y2) (ado h.y3) (ado h.y4) (ado h.y5) (abg h h) (abg h h) atC
def cV.aaz aNA(l:ajb):cV C Y e o (adA 1 .bP (encD eI l)) (ajt B l) :=
 h.mv Ξ atf (get_set h.y1) (ado h.y2) (ado h.y3) (ado h.y4) (ado h.y5) (abg h h) (abg h h) atC
def cV.put2 aNA(l:amb):cV C Y e o (ajR 2 (l.map o6)) (apR lying l) :=
 h.mv Ξ atf (ado h.y1) (get_set h.y2) (ado h.y3) (ado h.y4) (ado h.y5) (abg h h) (abg h h) atC
def cV.put3 aNA(l:ajb):cV C Y e o (adA 3 .bP (encD eI l)) (apR greens l) :=
 h.mv Ξ atf (ado h.y1) (ado h.y2) (get_set h.y3) (ado h.y4) (ado h.y5) (abg h h) (abg h h) atC
def cV.Vk aNA aNk:cV C Y e o (adA 4 .bP (aeV eF amE)) (apR falls amE) :=
 h.mv Ξ atf (ado h.y1) (ado h.y2) (ado h.y3) aKk (ado h.y5) (abg h aEd.1) (abg h h) atC
def cV.aaA aNA aNs:cV C Y e o (adA 5 .bP (dP eT (cD B.trains x))) (aq1 B (cD B.trains x)) :=
 h.mv Ξ atf (ado h.y1) (ado h.y2) (ado h.y3) (ado h.y4) aE7 (abg h h) (abg h aEd.1) atC
def cV.push aNA(v:MO)(g:Tg):cV C Y e (df o M.length g) (M++[v]) B:=by
 rw[alC a (∀aRV,ay6 M->ay6 (M++[v])) e (x9 (axa (cU e)) e) b (∀aRV,ay6 M->df o M.length g i=o i) (adD (lG (by rw[aeq (cU e)])))]
 exact⟨a h.y0,a h.y1,a h.y2,a h.y3,a h.y4,a h.y5,atA (x9 (lG (by rw[aeq (cU h.y5)])) (h.lo i hi)),atA (by
   rw[List.length_append,List.length_singleton] at hi;exact x9 aCo (h.hi i b6)),
  λ q hq=>⟨x9 (b (h.yf q hq).2) (h.yf q hq).1,a (h.yf q hq).2⟩,λ q hq he=>by
   have T:=h.yt q hq he
   exact⟨x9 (b T.mt) T.ot,x9 (b T.ms) T.os,x9 (b T.ma) T.oa,a T.mt,a T.ms,a T.ma⟩⟩
def ym.push aNm{t:TB}(T:awU)(v:MO)(g:Tg):ajO (df o M.length g) (M++[v]) t:=by
 rw[alC a (∀aRV,ay6 M->ay6 (M++[v])) e (x9 (axa (cU e)) e) b (∀aRV,ay6 M->df o M.length g i=o i) (adD (lG (by rw[aeq (cU e)])))];exact⟨x9 (b T.mt) T.ot,x9 (b T.ms) T.os,x9 (b T.ma) T.oa,a T.mt,a T.ms,a T.ma⟩
def ym.set aNm{t:TB}(T:awU)aNt{v:MO}{g:Tg}(hi:o i=g)(h1:g≠anC x)(h2:g≠ak0 x)(h3:g≠af8 x):ajO o (M.set i v) t :=
 aqm (akk (iH hi T.ot h1) T.mt) (akk (iH hi T.os h2) T.ms) (akk (iH hi T.oa h3) T.ma)
def cV.own(h:aqG)aNt{v:MO}(hi:o i=anC x\/o i=ak0 x\/o i=af8 x):cV C Y ad5 o (M.set i v) B:=by
 have g:∀{j:Nat}{g:Tg},o j=g->g≠anC x->g≠ak0 x->g≠af8 x->(M.set i v)[j]? = M[j]? := λ hj h1 h2 h3=>ar (by
  rcases hi with hi | hi | hi
  ·exact iH hi hj (Ne.symm h1)
  ·exact iH hi hj (Ne.symm h2)
  ·exact iH hi hj (Ne.symm h3))
 have y:∀j≤5,(M.set i v)[j]? = M[j]? := λ j hj=>axP (h.lo j hj) (nofun)
 refine⟨ayK 0 h.y0,ayK 1 h.y1,ayK 2 h.y2,ayK 3 h.y3,ayK 4 h.y4,ayK 5 h.y5,h.lo,λ j hj=>h.hi j (aaF hj),
  λ q hq=>⟨(h.yf q hq).1,x9 (axP (h.yf q hq).1 (nofun)) (h.yf q hq).2⟩,NV q hq he⟩
 rw[aev T (h.yt q hq he) hn (q.1≠x) (adD (he (agK e)))]
 exact aqm (x9 (g T.ot (adD (hn (Tg.train.inj e))) nofun nofun) T.mt) (x9 (g T.os nofun (adD (hn (Tg.steps.inj e))) nofun) T.ms) (x9 (axP T.oa (adD (hn (Tg.ahead.inj e)))) T.ma)
def cV.but aNY aNs:aqG:=⟨h.y0,h.y1,h.y2,h.y3,h.y4,h.y5,h.lo,h.hi,h.yf,λ q hq _=>avj q hq⟩
def cV.seen aNm{t t':TB}(h:aqG)(hn:aB0)(hx:aiZ=acv)(T:ajO o M t')(ho:t'.ob=t.ob):cV C Y none o M (aq1 B aqk):=by
 refine⟨h.y0,h.y1,h.y2,h.y3,h.y4,?_,h.lo,h.hi,h.yf,NV q hq _⟩
 ·rw[as8 (agg M 5 .bP (dP eT aqk)) (Ms hn hx (by show PV.obj t'.ob=PV.obj t.ob; rw[ho])) h.y5]
 ·have hq:q∈aqk:=hq
  rw[adS Qm (cL (tO hn) hq) eL Qm];rw[ah3 q.1 x]
  ·rw[amg e Qm];cases Qm;rw[alL T]
  ·rw[g9 akU Qm (h.yt q (i7 Qm) λ e'=>e (aMi).symm)]
def cV.aem aNm{t':TB}(h:aqG)(hn:aB0)(T:ajO o M t'):cV C Y none o (adA 5 .bP (dP eT aqk)) (aq1 B aqk):=by
 have T':=T.set (i:=5) (v:=.bP (dP eT aqk)) (asI 5) nofun nofun nofun;have g:∀i,5<i->(adA 5 .bP (dP eT aqk))[i]? = M[i]? := atC
 refine⟨atf,ado h.y1,ado h.y2,ado h.y3,ado h.y4,aE7,h.lo,aFP i awi,
  λ q hq=>⟨(h.yf q hq).1,x9 (g _ (aqS (h.yf q hq).1)) (h.yf q hq).2⟩,NV q hq _⟩
 have hq:q∈aqk:=hq
 rw[adS Qm (cL (tO hn) hq) eL Qm];rw[ah3 q.1 x]
 ·rw[amg e Qm];cases Qm;rw[alL T']
 ·rw[akU] at Qm;have T2:=h.yt q (i7 Qm) λ e'=>e (aMi).symm;exact⟨T2.ot,T2.os,T2.oa,x9 (g _ (aqS T2.ot)) T2.mt,x9 (g _ (aqS T2.os)) T2.ms,x9 (g _ (aqS T2.oa)) T2.ma⟩
def cV.keep aNA{M':bb}(hl:aKe)(h1:∀i<M.length,o i≠.A7->M'[i]? = M[i]?):cV C Y e o M' B:=by
 rw[d9 g (∀aNt{v:MO},aqp M->o i≠.A7->aqp M') (λ e hn=>ayk _ (cU e) hn e) y (∀aNt{v:MO},aqp M->i≤5->aqp M') (λ e hi=>g e (by rw[akc (h.lo _ hi)]))]
 exact⟨y h.y0 d6,y h.y1 d6,y h.y2 d6,y h.y3 d6,y h.y4 d6,y h.y5 d6,h.lo,aFP i (Nat.le_trans hl hi),λ q hq=>⟨(h.yf q hq).1,g (h.yf q hq).2 (by rw[akc (h.yf q hq).1])⟩,λ q hq he=>by
  have T:=h.yt q hq he
  exact aqm (g T.mt (by rw[akc T.ot])) (g T.ms (by rw[akc T.os])) (g T.ma (by rw[akc T.oa]))⟩
def cV.fld aNA aO9 aNv aNp aSx(hf:ahs (tR Y B.ticks) f=ad5):cc C.yd f d ρ M=.ok x M:=by
 unfold cc;rw[akP hd ag (mn h.y0)];rw[ab2 hf]
variable {t:Int}
def wc:amQ "found"=c8 ayz:=aar
def oP:amQ "pieces"=c8 ai9:=aar
def tT:amQ "signals"=c8 atn:=aar
def XU:amQ "wait"=abS Y.wait:=aar
def Er:amQ "ticks"=abS t:=aar
def zM:amQ "locks"=agA 1:=aar
def KL:amQ "lying"=agA 2:=aar
def wd:amQ "greens"=agA 3:=aar
def tU:amQ "falls"=agA 4:=aar
def qm:amQ "trains"=agA 5:=aar
def A9:YW (amQ "train_in"):=aar
def Mt:YW (amQ "lock_of"):=aar
def cV.met aNA{m:Str}aOZ aNp aOG aNh aSx(hf:YW (ahs (tR Y B.ticks) m))(ha:alc=.ok xs M):F5 C.yd m g d ds ρ M=g (ο 0::xs) M:=by
 unfold F5;rw[akP hd ag (mn h.y0)];rw[afG hf];rw[ha,ag]
abbrev ck aNV aNd:Bool:=aif (0≤i) (ag8 (i<n))
def GN aNh aNy:cT [ς xs,η i] M=.ok (.bl (axy i)) M:=by
 rw[ajh cT (r=.ok (.bl (axy i)) M)];refine bw (.bl (axy i)) M ?_ (aT rfl);by_cases h:0≤i<;>simp[cu,h,ck]
def jQ aNy(h : -1000≤i)(h2:aJL i):axI i:=by
 rw[aoa small (decide_eq_true (aik ?_))]
 ·have:aae (-(2 ^ 64)) = -18446744073709551616:=d6
  omega
 ·have:aae (2 ^ 64)=18446744073709551616:=d6
  omega
abbrev Sm aNV:Prop := -1000≤i/\aJL i
def Qn aNy{y:PV}aOH:dJ [none,apF,none] [anD,agO] M=.ok () M:=by
 have h:=jQ hi.1 hi.2;simp only[dJ,az,zB,zA,ag,h,if_true]
def Es aNh{nt yd:Addr}aO9 aNy aNA aOH(hf:ahs (tR Y B.ticks) f=afN) :
  fQ 2 (avO (fw (aw cT [(avo f),f7])) (asn nt)) [ο 0,η i] M=if axy i then .ok .bh M else YX nt M:=by
 refine cN (P:=λ r=>r=if axy i then .ok .bh M else YX nt M) ?_;rw[DB e (aiv [t9,agO] hf) (auM (axy i))]
 ·simp[e,GN,jr]
 ·rw[ahn (A5 (Qn hi) (cY ?_)) (al1 aiS)]
 ·rw[ahn (cX (fy ?_)) (af5 aiS)]
def jf aNy aNA aOH:mT C.nt C.yd cT [ο 0,η i] M=if apo i then .ok .bh M else afg:=by
 have:=Es (nt:=C.nt) (yd:=C.yd) h hi wc;rw[g9 zK this this]
def jg aNy aNA aOH:mU C.nt C.yd cT [ο 0,η i] M=aqB .ok .bh:=by
 have:=Es (nt:=C.nt) (yd:=C.yd) h hi oP;rw[g9 zK this this]
def iq aNy aNA aOH:lW C.nt C.yd cT [ο 0,η i] M=if aq0 i then .ok .bh M else afg:=by
 have:=Es (nt:=C.nt) (yd:=C.yd) h hi tT;rw[g9 zK this this]
abbrev sP:alA Pc
 | .pl _ _=>false
 | .pt _ _ _=>true
def kR aN9:mr ayy M=.ok (.bl (sP p)) M:=by
 rw[ajh mr (r=.ok (.bl (sP p)) M)];refine bw (.bl (sP p)) M ?_ (aT rfl);cases p<;>simp[Pc.enc,sP]
def iI aNy aM9(h:b8 (ck i n)):∃k:Nat,i=k/\k<n:=by
 rw[ajd ck];rw[ao2];rw[Lb i.toNat b6 b6]
def kt{k n:Nat}(h:k<n):b8 (ck auj n):=by
 unfold ck; rw[amm h]
abbrev eh aNB aOA:Bool:=sP (ad3 p)
abbrev pw aNV aNB:Bool:=ck i ps.length && eh ps i.toNat
def ip aNy{gc gp:D1}aNA aOH aSf aTw :
  j9 C.nt C.yd gc gp [ο 0,η i] M=if ap1 i then .ok .bh M else afg:=by
 rw[ajh j9 (r=if ap1 i then .ok .bh M else afg)];unfold pw
 rw[ahT ho (apr i)]
 ·rw[amg ho hc];rw[as9 k hk ho];rw[amn (aH (anE .bh M (d7 hc))) e (aiv [t9,afc] oP)];rw[anI ho (auM (eh Y.ps k))]
  ·simp[e,vS hk,hp,jr,eh]
  ·rw[ahV (A5 (Qn hi) (cY ?_)) hk (aGc k) aiS]
   rw[Int.toNat_natCast,hk]
   rfl
  ·rw[ahV (cX (fy ?_)) hk (b8 (eh Y.ps k)) aiS]
   rw[Int.toNat_natCast,hk]
   rfl
 ·have ho:acs (apr i):=awj
  rw[ho] at hc ⊢;rw[alV (oO C.nt M (d7 hc) (dG (cY ?_)))];rfl
def KM{rs:afL}aSB:acn rs r (aU rs r,ba rs r):=by
 unfold aU ba;rw[aDU h];rfl
def we{rs:afL}aSB:agu (hZ rs) r=.ok (f9 [η (aU rs r),bF (ba rs r)]) M:=eX (by rw[zJ,KM h]; rfl)
def mD aNn aNA aP3:kr C.yd [ο 0,η r] M=.ok (η aaE) M:=by
 rw[acm kr (q=.ok (η aaE) M)];rw[alF e (aiv [t9,aas] wc) (bw (η aaE) M (aeU e (we hr)) (aT rfl))]
def rV aNn aNA aP3:oq C.yd [ο 0,η r] M=.ok ahl M:=by
 rw[acm oq (q=.ok ahl M)];rw[alF e (aiv [t9,aas] wc) (bw ahl M (aeU e (we hr)) (aT rfl))]
def kQ{gb:D1}aUP aOo aNU:mq gb [ai9,η a,η j] M=.ok (.bl aCN) M:=by
 rw[acm mq (q=.ok (.bl aCN) M)];refine bw (.bl aCN) M ?_ (aT rfl);cases e:akJ a j<;>simp[hb,e,bM]
abbrev cq aNC aOg:Bool:=(akJ (cy Y.ss s).2 (cy Y.ss s).1).isNone
def jE{gb:D1}aPS aNA(hs:alM)aUQ:iC C.yd gb [ο 0,η s] M=.ok (.bl aiy) M:=by
 rw[acm iC (q=.ok (.bl aiy) M)];have e1:=aiv [t9,adN,none] tT;rw[DB e2 (aiv [t9,adN,c8 awf] oP) (acX awf M (aeU e1 (AQ hs)))];exact bw (.bl aiy) M (by simp[e2,cZ,hb,cq] at e2 ⊢) (aT rfl)
def Mu aNy{gc:D1}aNA aSf :
  j6 C.yd gc [ο 0,η i] M=aqB .ok (aiA (am1 i.toNat)):=by
 rw[acm j6 (q=aqB .ok (aiA (am1 i.toNat)))]
 rw[ahT ho (apr i)]
 ·rw[ho] at hc ⊢
  rw[as9 k hk ho];rw[amn (aH (cG .bh M (d7 hc) (aGk (aiA (am1 k))))) e (aiv [t9,afc] zM)];unfold wX;rw[apE (([PV.obj 0,PV.int ↑k].map some++apn (2 - ahb [PV.obj 0,PV.int ↑k]) none:fk)=[t9,afc]),e,ag,fc h.y1]
  simp only[az,zB,zA,ag]
  rw[fc h.y1];rw[aj3 kq gq];cases am1 k<;>rfl
 ·have ho:acs (apr i):=awj
  rw[als ho hc (aH (oO C.nt M (d7 hc) (dG (cY rfl))))]
universe zE
universe Sb
universe zE
end
mutual
section
namespace Sb
open PySem L2
def Ba aNb aM9 aOh(h:asj):arw o=M:=by
 refine aD3 i;rw[ah3 n i]
 ·subst e; rw[get_set h,h]
 ·rw[ar e]
def oQ aNb aM9{o o':MO}(h:asj):(arw o').set n o=M:=by
 rw[List.set_set,Ba h]
abbrev Th aNd(kvs:ae2)(Q:aiO):aiO
 | .nx ρ M=>ai2 .km/\Q (.nx ρ (aqA .bP))
 | .rt x M=>ai2 .km/\Q (.rt x (aqA .bP))
 | _=>False
def xA aPt aQb{s:DS}aQm aOQ aNh aO2(hi:auC=.ok (xs,arE .km) M')(hs:Th n kvs Q (s ρ M)):Q (rD di s ρ M):=by
 unfold rD zOf;rw[afG hi];rw[afG h];revert hs;cases s ρ M with
 | nx ρ M=>rintro⟨a,b⟩;rw[am2 Gf];rw[Ω (if_pos a) b]
 | rt x M=>rintro⟨a,b⟩;rw[am2 Gf];rw[Ω (if_pos a) b]
 | _=>exact False.elim
def Bb aNp aNT aOQ aO2 aQI:qJ d ρ M=.ok (aoj q (f9 [w5 q.1,q.2]),arE .km) (aqA .km):=by
 rw[ajN qJ hd ag (fc h)]
def TQ aNp aNT aOQ aO2 aQI:Av d ρ M=.ok (aoj q q.2,arE .km) (aqA .km):=by
 rw[ajN Av hd ag (fc h)]
def keys_eq aNp aNT aOQ aO2 aQI:Au d ρ M=.ok (aoj q (w5 q.1),arE .km) (aqA .km):=by
 rw[ajN Au hd ag (fc h)]
abbrev eTi(q:Int×TB):PV:=f9 [η q.1,ο q.2.ob]
abbrev eFi(q:Nat×FB):PV:=f9 [η q.1,ο q.2.ob]
def KN(d:aH2):(agj (dP eT d).map q (PV.tup [w5 q.1,q.2]))=d.map eTi:=by rw[apX dP]
def TR(d:aCv):(agj (awg eF).map q (PV.tup [w5 q.1,q.2]))=d.map eFi:=by rw[apX encD]
section
variable {C:Cs} {Y:gH} {e:acG} {o:adB} {M:bb} {B:Bx} {ρ:fk} {t:TB}
def xB aO9 aNv aNp(h:az0)(hd:abO=.ok ahy M)(hf:ahs (k6 t) f=ad5):cc C.tr f d ρ M=.ok x M:=by
 unfold cc;rw[akP hd ag (mn h)];rw[ab2 hf]
def rh:ahs (k6 t) (Str.ofString "steps")=agA t.so:=aar
def Eu:ahs (k6 t) (Str.ofString "ahead")=agA t.ao:=aar
def Qo:ahs (k6 t) (Str.ofString "is_out")=aa2 .bl t.tr.out:=aar
def Mv{tk:Int}aO9 aNv aNp(h:M[0]? = ab1 aa7 C.yd (tR Y tk))aSx(hf:ahs (tR Y tk) f=ad5):cc C.yd f d ρ M=.ok x M:=by
 unfold cc;rw[akP hd ag (mn h)];rw[ab2 hf]
def fS(h1:az0)(h2:aDp)(hl:ap3):j5 C.tr [ahy] M=.ok (iM (t.tr.steps.map (·.1))) M:=by
 rw[acm j5 (q=.ok (iM (t.tr.steps.map (·.1))) M)];rw[DB e (xB (ρ:=[af6]) (d:=b7) h1 rfl rh) (bw (iM (t.tr.steps.map (·.1))) M ?_ (aT rfl))];show dN false ajw (agk (cc C.tr "steps" b7)) (gN 0) yH akm [af6] M=_;rw[cj (xs:=t.tr.steps) (w:=ahU t.so (ς aqP)) (M':=M) aI (λ _=>true) (aua s s) (aiz [y]) (Ei e h2) h2 aiH (ajK x) (ad0 hl)]
 ·rw[amK];rw[af7 rT (af5 (by rw[aqh hl])) alj];rw[apX iM]
 ·rw[afF y rfl hρ (aa9 _ rfl adE atG)]
abbrev rj(d:aH2)(p:Int):acG:=aeS (aEQ q (p∈aAd)).map
def IH aNy{gc gu:D1}aNY aSf
  aUM(hl:aDK) :
  gQ C.yd gc gu [ο 0,η i] M=aqB .ok (fB (au3 i)):=by
 rw[acm gQ (q=aqB .ok (fB (au3 i)))]
 rw[ahT ho (apr i)]
 ·rw[ho] at hc ⊢;simp only[zC,zD,zE,zF,Nat.zero_add,Nat.reduceAdd,Nat.reduceSub,List.replicate,zG,zH,zI];rw[alV (cG .bh M (d7 hc) (adg (aH ?_)))];rw[adS hi (Bb h.y5 (aiv [t9,agO,none,none] qm)) KN hi];refine xA h.y5 hi ?_
  rw[ab4 hz (agg (auw .km) 5 .km awl) aE7 (gR eTi (aiT (∃y z,ρ=[t9,agO,y,z]/\M'=auw .km/\aEG (ala (i∈aAd)))) B.trains _ _ hi hz (aa9 none none rfl rfl) ?_ ?_)]
  ·rintro pre q post hx ρ M' ⟨y,z,rfl,rfl,kG⟩;refine amh
   have hq:q∈B.trains:=by rw[ak8]
   rw[aaa T (avj q hq) T' (T.set (i:=5) (v:=.km awl) (asI 5) nofun nofun nofun)]
   rw[DB e1 (hu q.2 _ T'.mt T'.ms (hl q hq)) (ee (aea i aAd) (auw .km) ?_ (f6 hk) (f6 hk))]
   ·rw[br,aD,az];dsimp only[List.set_cons_succ,List.set_cons_zero,zB,zA];rw[ag,aY,au,az];rw[ahk];rw[ag,aE,ag,ag,e1,ag];rw[ahG (iM (aeS q.2.tr.steps.map)) (ς ((aAd).map η)) (d7 iM),vP]
    rfl
   ·refine bw (η q.1) (auw .km) rfl (zv ⟨hz,cM (aT ?_)⟩);rw[aGP,aMX];unfold rj;rw[hx,List.find?_append,kG,List.find?_cons,hk];rfl
   ·refine cX (bL hz (aa9 _ _ rfl ?_));rw[List.find?_append,kG,List.find?_cons,hk];rfl
  ·rintro ρ' M' ⟨y,z,rfl,rfl,kG⟩;rw[ac4 hz (adg (bw .bh M (by rw[ab2 aGP]) (aT ?_)))];rw[af7 rj kG aMX];rfl
 ·have ho:acs (apr i):=awj
  rw[als ho hc (aH (oO C.nt M (d7 hc) (dG (cY rfl))))]
abbrev XV aNe aNd aNi(ti:akb):Prop:=aAk p (p<n) (∃x,g [ο 0,η p] M=.ok x M/\sk true x .bh M=.ok (.bl (ti p)) M)
def fN aOY{gt:D1}{ti:akb}aNY(ht:XV gt Y.ps.length M ti)(hp:amC)(hs:Sm p) :
  iS C.he C.yd gt [ο 0,η p] M=if aoQ p p then YX C.he M else .ok .bh M:=by
 rw[acm iS (q=if aoQ p p then YX C.he M else .ok .bh M)]
 simp only[zC,zD,zE,zF,Nat.zero_add,Nat.reduceAdd,Nat.reduceSub,List.replicate,zG,zH,zI];rw[DB e (aiv [t9,akq] zM) (aH (ee (agc (am1 p)) M ?_ (f6 hk) (f6 hk)))]
 ·simp[e];rw[uU h.y1 (k:=alr p) rfl,gq];simp
 ·have e3:=Qn (M:=M) (y:=ο 0) hs;rw[aop cm e3];refine dG (cY ?_);rw[hk,Bool.true_or,aeO]
 ·obtain⟨x,h1,h2⟩:=ht p hp;rw[DB e2 (h.met (ρ:=[t9,akq]) (g:=gt) (d:=b7) (ds:=[f7]) (xs:=[η p]) rfl A9 rfl) (cX (adg (ee (ti p) M ?_ (f6 jz) (f6 jz))))]
  ·show(af4 (sk true) (F5 C.yd "train_in" gt b7 [f7]) (dC .bh)) [t9,akq] M=_;rw[br,aD,e2,h1,ag,bq,ag,h2];rfl
  ·refine A5 (Qn hs) (cY ?_);rw[jz,Bool.or_true,aeO]
  ·rw[alU (fy ?_)];rw[hk,jz,Bool.or_false,alj]
abbrev Ew aN9 aNR:Bool:=match p with
 | .pl _ _=>true
 | .pt _ _ b=>!(aea b [s.2.1,s.2.2])
abbrev yn aNB aNR:Bool:=Ew (ad3 s.1) s
def KO aNR:FU false amV akV none M=.ok (f9 ([s.2.1,s.2.2].map η)) M:=rfl
def nD{gp:D1}aTw aN9 aNR:pb gp [p.enc,amV] M=.ok (o6 (Ew p s)) M:=by
 rw[acm pb (q=.ok (o6 (Ew p s)) M)];cases p with
 | pl a b =>
  rw[alV (o5 M ?_ (cX (adg (bw afW M rfl (aT rfl)))))];simp[hp,jr,sP]
 | pt t u b =>
  rw[ag6 e (aBI (η b) (f9 ([s.2.1,s.2.2].map η)) M=_) Gh (ee (aea b [s.2.1,s.2.2]) M ?_ (f6 hk) (f6 hk))]
  ·simp[hp,jr,sP];simp only[Pc.enc,aao,ag,KO];rw[awJ]
  ·refine ajB arB M (aT ?_);simp only[Ew,hk,o6];rfl
  ·rw[alU (adg (bw afW M rfl (aT ?_)))];simp only[Ew,hk,o6];rfl
abbrev sQ aNZ(ti:akb)aNL:Bool:=w.any λ s=>aoQ s.1 s.1
def II aNk aNL aNR(d:ajb):kZ r (w++[s]) d=cC (kZ r w d) s.1 r:=by rw[acu kZ List.foldl_append];rfl
def Mw aPI aNL aNR(l:amb):AU vd (w++[s]) l=(AU vd w l).set s.1 (vd s):=by rw[acu AU List.foldl_append];rfl
def iV aM9{l:ae6}(h:l.Nodup)(hl:anZ l (x<n)):l.length≤n:=md h hl
def kT aNy{gc gw gn gl gs:D1}{ti:akb}aNY aPa aQC(hss:Y.ss.length≤16)aUe
    (zt:af0 aEs)(se:∀p∈aEs, amC)(hly:aMP)(hgn:af0 aEo)(Ey:∀s∈aEo, alM)
    aTj
    (hw:∀r:Nat, adt->gw [ο 0, η r] M=.ok ahl M)
    aS9
    (hl:∀M p s, gl [aLc, amV] M=.ok (o6 (Ew p s)) M)
    aUN :
    (auh/\ji C.yd gc gw gn gl gs [ο 0, η i] M=afg)\/aAl r (i=r) (adt ∧
      ((b8 (sQ B ti aa8)/\ji C.yd gc gw gn gl gs [ο 0, η i] M=YX C.he M) ∨
       (acs (sQ B ti aa8)/\∃M', ji C.yd gc gw gn gl gs [ο 0, η i] M=.ok .bh M'/\cV C Y none o M' (setB Y.rs (yn Y.ps) B r)/\agR))):=by
  unfold ji
  rw[ahT ho (apo i)]
  · rw[ho] at hc
    obtain⟨r, rfl, hr⟩:=iI ho
    rw[adY (b9 ⟨r, rfl, hr, ?_⟩) (cN (P:=λ q=>(b8 (sQ B ti aa8)/\q=YX C.he M)\/(acs (sQ B ti aa8)/\∃M', q=.ok .bh M'/\cV C Y none o M' (setB Y.rs (yn Y.ps) B r)/\agR)) ?_)];simp only[zC, zD, zE, zF, Nat.zero_add, Nat.reduceAdd, Nat.reduceSub, List.replicate, zG, zH, zI];rw[adY (aH (anE .bh M (d7 hc))) (acX ahl M (d7 (hw r hr)))];rw[acB];rw[ag6 Mx (∀s∈aa8, aAv s.1) (λ s sd=>R.lt r hr s.1 (List.mem_map.mpr ⟨s, sd, rfl⟩)) (gR aI (aiT (∃y, ρ=[t9, aas, akW, y]/\M'=M/\acs (sQ B ti pre))) aa8 none M (dZ Ξ) trivial ⟨none, rfl, rfl, rfl⟩ ?_ ?_)]
    · rintro pre s post hx ρ M' ⟨y, rfl, rfl, kG⟩
      refine⟨_, rfl, ?_⟩
      rw[acB];rw[aaa NP (Mx s (by rw[ak8])) e (hn s.1 NP)];rw[ahT hh (aoQ s.1 s.1)]
      · rw[amg hh e]
        refine oO C.he M' ?_ (Pm (dG (cY (b4 (aGp ?_)))))
        · simp[aI, e]
        · rw[hx]; unfold sQ; rw[List.any_append, List.any_cons, hh]; simp
      · rw[if_neg hh] at e
        refine apg .bh M' (agV ⟨_, rfl, rfl, ?_⟩)
        · simp[aI, e]
        · unfold sQ at kG ⊢
          rw[List.any_append, kG, List.any_cons];simp only[Bool.not_eq_true] at hh;rw[ab2 hh]
    · rintro ρ' M' ⟨y, rfl, rfl, aaB⟩
      refine akB (gR aI (λ pre ρ M1=>∃y, ρ=[t9, aas, akW, y]/\cV C Y none o M1 { B with locks:=ank r pre, lying:=AU (yn Y.ps) pre B.lying }/\gB o M' o M1)
        aa8 none M' (dZ Ξ) trivial ⟨_, rfl, h, gB.refl⟩ ?_ ?_)
      · rintro pre s post hx ρ M1 ⟨y, rfl, h1, f1⟩
        refine⟨_, rfl, ?_⟩
        rw[acB];have NP:=Mx s (by rw[ak8])
        rw[d9 XX (∀p∈aM0, amC) (ahO (by
          obtain⟨s', sd, rfl⟩:=List.mem_map.mp hp;exact Mx s' (by rw[hx]; simp[sd]))) hlen (ag4 (ank r pre) 16) (by
          rw[aiL (iV (AV r pre _ zt) (Gw r pre _ XX se)) zK];omega)]
        rw[DB e1 (h1.fld (ρ:=[t9, aas, akW, anO]) (d:=b7) rfl zM) (aH (fA (η r) M1 (ο 1) M1 (η s.1) M1 (M1.set 1 (.bP (aeV eI (ank r (agT s))))) Ξ e1 atG ?_ acw))]
        · rw[aBy h1.y1 s.1 (by rw[sO]; show acL (ank r pre)<_; exact apt hlen), II]
          congr 3
          exact sN eI s.1 r _
        rw[aaa h2 (h1.aaz (ank r (agT s))) e2 (h2.fld (ρ:=[t9, aas, akW, anO]) (d:=b7) rfl KL)]
        rw[DB e3 (h2.fld (ρ:=[t9, aas, akW, anO]) (d:=b7) rfl oP) (fA (o6 (yn Y.ps s)) (M1.set 1 (.bP (aeV eI (ank r (agT s))))) (ο 2) (M1.set 1 (.bP (aeV eI (ank r (agT s))))) (η s.1) (M1.set 1 (.bP (aeV eI (ank r (agT s))))) ((M1.set 1 (.bP (aeV eI (ank r (agT s))))).set 2 (ς ((AU (yn Y.ps) (agT s) B.lying).map o6))) ?_ e2 atG ?_ (agV ⟨_, rfl, ?_, ?_⟩))]
        · rw[aY, au, aD, e3, ag]
          simp only[aD, az, bq, zB, zA, ag, au, aE];rw[ahG (aO amV (η 0) (M1.set 1 (.bP (aeV eI (ank r (agT s)))))) (.ok (η s.1) _) vR, ag, vS NP, ag, ag, hl]
          rfl
        · rw[mM h2.y2 (by simp; rw[AX, hly]; exact NP), Mw, List.map_set]
        · exact h2.put2 _
        · exact x9 (aBs (by rw[aot 1])) (aj7 (by rw[aot 2]))
      · rintro ρ' M1 ⟨y, rfl, h1, f1⟩
        rw[apQ e1 (h1.fld (ρ:=[t9, aas, akW, y]) (d:=b7) rfl wd) hlen (B.greens.length≤16) (by
          rw[aiL (iV hgn Ey) zK];omega) (adg (fA (η r) M1 (ο 3) M1 (η aaE) M1 (M1.set 3 (.bP (aeV eI (cC B.greens aaE r)))) Ξ e1 ?_ ?_ (fy (b9 (aFU aaB _ (h1.put3 _) (aBs (by rw[aot 3])))))))]
        · simp[hs M1 _ r h1 hr]
        · rw[aBy h1.y3 aaE (by rw[Ω sO (apt hlen)])]
          congr 3
          exact sN eI aaE r _
  · rw[ak1 ho auh awj ho hc]
    rw[adY (b4 ⟨ho, ?_⟩) (cN (P:=λ q=>q=afg) ?_)]
    exact aH (oO C.nt M (d7 hc) (dG (cY rfl)))
universe zE
universe Sb
universe zE
section
namespace Sb
open PySem L2
def Bc aNq [BEq α] [LawfulBEq α] aQq aSc aSV aNb(ha:a∈as):pK (ς (as.map enc)) [anJ] M=.ok (η (as.idxOf a)) M:=by
 rw[am2 pK]
 rw[apu (kB deep _ (hp a)) iX]
 rw[afG (mK (g:=avW) λ z hz=>by
  obtain⟨b,_,rfl⟩:=List.mem_map.mp hz
  exact kB deep _ (hp b))]
 have:(aCg ((as.map enc).map avW)) (akK q q aHu)=c8 (as.idxOf a):=by
  rw[List.findIdx?_map,List.findIdx?_map]
  have hf:(((akK q q aHu) ∘ avW) ∘ enc)=λ b=>b == a:=by
   funext b
   rw[aEf];rw[Bool.eq_iff_iff,AK deep _ _ (hp b) (hp a),beq_iff_eq];rw[aab (adD (inj _ _ e)) (λ e=>agK e)]
  rw[hf];have se:as.findIdx (λ b=>b == a)<as.length:=List.findIdx_lt_length_of_exists ⟨a,ha,Ξ⟩
  rw[ab2 (List.findIdx?_eq_some_of_exists ⟨a,ha,Ξ⟩)]
 rw[this]
section
variable {C:Cs} {Y:gH} {e:acG} {o:adB} {M:bb} {B:Bx} {ρ:fk} {t:TB}
abbrev cE aNC aNR:aec:=match awY with
 | akd=>al8 (s.2.2,b) Y.ss (aJO (s.2.2,b)) none
 | none=>none
def aaC(q:Int×aec):arx (f9 [η q.1,bM q.2]):=by
 intro y hy
 rw[aiC hy];rcases hy with rfl | rfl
 ·exact jO _
 ·cases q.2 with
  | none=>exact xl
  | some n=>exact jO _
def XY(a b:Int×aec)(h:PV.tup [η a.1,bM a.2]=PV.tup [η b.1,bM b.2]):a=b:=by
 rw[aAz a1 a2 a b1 b2 b];simp only[PV.tup.injEq,List.cons.injEq,PV.int.injEq,and_true] at h;rw[asX h2 h];cases a2<;>cases b2<;>simp only[bM] at h2<;>first | rfl | (cases h2; rfl) | cases h2 | (injection h2 with h3; have h4:=Int.ofNat.inj h3; subst h4; rfl)
def aaD aQd{b:aec}{ss:aeT}aNb:aBI (f9 [η j,bM b]) ahJ M=.ok (.bl (aea (j,b) (ss.map λ s=>(s.1,some s.2)))) M:=by
 have:=ph (neg:=false) (M:=M) (enc:=λ q:Int×aec=>PV.tup [η q.1,bM q.2]) aaC XY (a:=(j,b)) (as:=ss.map λ s=>(s.1,some s.2)) (y:=ahJ) (by
  show an3 (ς (ss.map cZ))=_;rw[p9,List.map_map]
  rfl)
 rw[aqc]
def KP aOu(h:agx w):aro[0]? = aAs (w.headD (0,0,0)):=by
 cases w with
 | nil=>rw[aoG h]
 | cons s w=>rfl
def ik{tk:Int}{gb:D1}(h0:M[0]? = ab1 aa7 C.yd (tR Y tk))(h1:az0)(h2:aDp)(dQ:aIb)
  aUP:j7 C.tr C.yd gb [ο 0,ahy] M=.ok aCR M:=by
 rw[acm j7 (q=.ok aCR M)];simp only[zC,zD,zE,zF,Nat.zero_add,Nat.reduceAdd,Nat.reduceSub,List.replicate,zG,zH,zI];rw[DB e1 (xB (ρ:=[t9,af6,none,none]) (d:=f7) h1 rfl rh) (acX (aI (bD t.tr)) M ?_)]
 ·rw[aD,e1,ag,bq,ag];exact wb (i:=0) h2 (KP dQ)
 rw[acB];generalize bD t.tr=s;rw[DB e2 (Mv (ρ:=[t9,af6,anO,none]) (d:=b7) h0 rfl oP) (acX (f9 [η s.2.2,aiA awY]) M ?_)]
 ·unfold gI;simp only[aI] at e2;simp only[au,aE,aD,az,bq,aY,zB,zA,ag,e2,aI,Go,vR,hb]
 rw[acB];rw[DB e3 (Mv (ρ:=[t9,af6,anO,apy [η s.2.2,aiA awY]]) (d:=b7) h0 rfl tT) (aH (ee (aea (s.2.2,awY) (Y.ss.map λ s=>(s.1,some s.2))) M ?_ (f6 hk) (f6 hk)))]
 ·simp only[br,aD,az,zB,zA,ag,e3,aaD]
 ·rw[aoe hk hk];rw[apm q hq eq hk]
  rw[d9 e4 (s.2.2=q.1) (by have:=congrArg Prod.fst eq;exact this.symm) e5 (t6 awY q.2) (by have:=congrArg Prod.snd eq;exact this.symm)]
  rw[ajs hm ((s.2.2,q.2)∈Y.ss) (by rw[Ω e4 hq]) hv (azR=aJO (s.2.2,q.2)) (by rw[agC cE e5 (if_pos hm)]) (bw (aiA azR) M ?_ (cM (aT rfl)))];rw[hv];rw[af7 gD e3 ag];simp only[au,aE,az,zB,zA,ag];rw[Ω e5 (Bc (enc:=cZ) Kq Ek (a:=(s.2.2,q.2)) hm)]
 ·rw[axe hk hk]
  rw[ab4 hv (YW azR) (by
   unfold cE;cases SF:awY with
   | none=>rfl
   | some b =>
    refine if_neg λ hm=>hk ?_;rw[Ω SF (aja (s.2.2,b) hm)]) (cX (adg (bw .bh M rfl (aT ?_))))];rw[ab2 hv]
abbrev kl aNC(d:aH2)aOg:acG:=aeS (aEQ q (t6 (cE Y (bD q.2.tr)) s)).map
def jX aPS{ga:D1}aNY(dQ:∀q∈B.trains,agx q.2.tr.steps)
  (ha:∀aOt M',aCM->aIo->aIn->aIb->ga [ο 0,ahy] M'=.ok aCR M') :
  lD C.yd ga [ο 0,η s] M=.ok (fB (kl Y B.trains s)) M:=by
 rw[acm lD (q=.ok (fB (kl Y B.trains s)) M)];simp only[zC,zD,zE,zF,Nat.zero_add,Nat.reduceAdd,Nat.reduceSub,List.replicate,zG,zH,zI];refine aH ?_;rw[adS hi (Bb h.y5 (aiv [t9,adN,none,none] qm)) KN hi];refine xA h.y5 hi ?_
 rw[ab4 hz (agg (auw .km) 5 .km awl) aE7 (gR eTi (aiT (∃y z,ρ=[t9,adN,y,z]/\M'=auw .km/\aEG (ala (t6 (cE Y (bD q.2.tr)) s)))) B.trains _ _ hi hz (aa9 none none rfl rfl) ?_ ?_)]
 ·rintro pre q post hx ρ M' ⟨y,z,rfl,rfl,kG⟩;refine amh
  have hq:q∈B.trains:=by rw[ak8]
  rw[aaa T (avj q hq) T' (T.set (i:=5) (v:=.km awl) (asI 5) nofun nofun nofun)]
  rw[DB e1 (ha q.2 _ atf T'.mt T'.ms (dQ q hq)) (ee (ag8 (t6 (cE Y (bD q.2.tr)) s)) (auw .km) ?_ (f6 hk) (f6 hk))]
  ·rw[br,aD,aY,au,az];dsimp only[List.set_cons_succ,List.set_cons_zero,zB,zA];rw[ag,au,az];rw[ahk];rw[ag,aE,ag,ag,ag,e1,ag,az];rw[ahk];rw[ag];cases hv:cE Y (bD q.2.tr) with
   | none =>
    rw[show bM none=.bh from rfl,aDO]
    rfl
   | some s' =>
    rw[show bM (some s')=η s' from rfl,dU]
    by_cases e2:s'=s
    ·subst e2;simp
    ·have e3:¬(aae s'=s):=b6
     simp[e2,e3]
  ·rw[ahn (bw (η q.1) (auw .km) rfl (zv ⟨hz,cM (aT ?_)⟩)) aGP];unfold kl;rw[hx,List.find?_append,kG,List.find?_cons,hk];rfl
  ·refine cX (bL hz (aa9 _ _ rfl ?_));rw[List.find?_append,kG,List.find?_cons,hk];rfl
 ·rintro ρ' M' ⟨y,z,rfl,rfl,kG⟩;rw[ac4 hz (adg (bw .bh M (by rw[ab2 aGP]) (aT ?_)))];rw[atd kl kG]
def il aNm aNA(hs:afQ):j8 C.nt C.yd [ο 0,η x] M=match aiZ with
  | acv=>.ok ahy M
  | none=>afg:=by
 rw[acm j8 (q=match aiZ with | acv=>.ok ahy M | none=>afg)]
 simp only[zC,zD,zE,zF,Nat.zero_add,Nat.reduceAdd,Nat.reduceSub,List.replicate,zG,zH,zI];rw[DB e1 (aiv [t9,t7] qm) (aH (auM (agc aiZ)))]
 ·rw[aCH];rw[ag,e1,ag,uU h.y5 (k:=ama) rfl,i8];simp
 ·have e3:=Qn (M:=M) (y:=ο 0) hs;rw[aop cm e3];refine dG (cY ?_);cases ht:aiZ with
  | none=>rfl
  | some t=>rw[aia ht hk hk]
 ·cases ht:aiZ with
  | none=>rw[aia ht hk hk]
  | some t =>
   rw[alU (aGk ahy)];rw[aD,e1,ag,az];rw[ahk];rw[Ω ag (avS h.y5 k ama (by rw[i8,ht]; rfl))]
def TU aNm{gu gc:D1}aNY(hn:aB0)(hl:aDK)
  (hc:gc [ο 0,η x] M=match aiZ with | acv=>.ok ahy M | none=>afg)
  aUM :
  lC gu gc [ο 0,η x] M=match aiZ with
  | acv=>.ok (iM (t.tr.steps.map (·.1))) M
  | none=>afg:=by
 rw[acm lC (q=match aiZ with | acv=>.ok (iM (t.tr.steps.map (·.1))) M | none=>afg)]
 simp only[zC,zD,zE,zF,Nat.zero_add,Nat.reduceAdd,Nat.reduceSub,List.replicate,zG,zH,zI];cases ht:aiZ with
 | none =>
  rw[ht] at hc;unfold bJ
  have:aw gu [aw gc [b7,f7]] [t9,t7] M=afg:=by
   simp[hc]
  rw[Ω this (cY rfl)]
 | some t =>
  rw[ht] at hc;rw[aaa hm (i7 ht) T (avj _ hm)];exact bw (iM (t.tr.steps.map (·.1))) M (aeU hc (hu t M T.mt T.ms (hl _ hm))) (aT rfl)
def Ez aNL aNR(d:ajb):dW (w++[s]) d=cD (dW w d) s.1:=by rw[acu dW List.foldl_append];rfl
def Dn aPt{lL dk:DE}aNT aOQ{y:PV}aOW(v:PV)aUl(hn:ai2 .bP)(hk:dk ρ M=.ok y M)(hy:asv=aeK)(hv:anT=aeJ)(q:Q (.nx ρ (adA n .bP (ue kvs k)))):Q (bQ (qI lL dk) ρ M):=by
 refine cG v (adA n .bP (ue kvs k)) ?_ q;unfold qI;rw[akP ho ag (fc hn)];rw[hk,ag,fc hn,hy];dsimp only;rw[hv]
def Dp aOu{xv:PV}{wt:D6}aNA aSO(hv:iL f7 [t9,some xv,none] M=.ok (aro,wt) M)(hc:vF wt M)
  (hk:∀(M1:bb) v,vF wt M1->vF wt (M1.set 1 v)):∃M',kJ C.yd [ο 0,xv] M=.ok .bh M'/\cV C Y e o M' (ajt B (al7 w))/\agR/\akO/\∀i,i≠1->M'[i]? = M[i]? := by
 rw[acm kJ (∃M',q=.ok .bh M'/\cV C Y e o M' (ajt B (al7 w))/\agR/\akO/\∀i,i≠1->M'[i]? = M[i]?)];simp only[zC,zD,zE,zF,Nat.zero_add,Nat.reduceAdd,Nat.reduceSub,List.replicate,zG,zH,zI];refine gR aI (λ pre ρ M1=>∃y,ρ=[t9,some xv,y]/\cV C Y e o M1 (ajt B (al7 pre))/\apa M1/\aAB M1.length/\vF wt M1/\∀i,i≠1->M1[i]? = M[i]?) w wt M hv hc ⟨none,rfl,h,gB.refl,rfl,hc,aCb⟩ ?_ ?_
 ·rintro pre s post hx ρ M1 ⟨y,rfl,h1,f1,l1,c1,g1⟩;rw[aoJ];rw[aev e1 (h1.fld (ρ:=[t9,some xv,anO]) (d:=b7) rfl zM) hs (s.1∉aM0) (λ hm=>by
   rw[hx,List.map_append,List.nodup_append] at hn;exact hn.2.2 s.1 hm s.1 Ξ rfl)]
  have hv:=hl s.1 (by rw[ak8]);rw[auZ v hv hv]
  refine Dn (k:=alr s.1) (y:=η s.1) (η v) e1 h1.y1 atG rfl ?_ (bL (hk _ _ c1) ⟨_,rfl,?_,aBs (by rw[aot 1]),by rw[Ω List.length_set l1],hk _ _ c1,atA (aBS (hi e.symm) (g1 i hi))⟩)
  ·rw[gq,mL,if_neg hs,hv]; rfl
  ·rw[aeh ql Ez (h1.aaz _)]
 ·rintro ρ' M1 ⟨y,rfl,h1,f1,l1,_,g1⟩;exact fy ⟨M1,rfl,h1,f1,l1,g1⟩
def pT aOu aNA aSO :
  ∃M',kJ C.yd [ο 0,an6] M=.ok .bh M'/\cV C Y e o M' (ajt B (al7 w))/\agR/\akO/\∀i,i≠1->M'[i]? = M[i]? :=
 Dp (wt:=none) h hn hl (dZ Ξ) trivial λ _ _ _=>trivial
def My aOu{a:Nat}aNA aSO(ha:auF a aro)(h1:a≠1) :
  ∃M',kJ C.yd [ο 0,ο a] M=.ok .bh M'/\cV C Y e o M' (ajt B (al7 w))/\agR/\akO/\∀i,i≠1->M'[i]? = M[i]? :=
 Dp (wt:=ahU a (ς aro)) h hn hl (Ei rfl ha) ha λ M1 v hc=>aBS (h1 e.symm) hc
def Vl aNy aOH(hr:ajx 1 agO):dJ (aoM apF) ρ M=.ok () M:=by
 have h:=jQ hi.1 hi.2;simp only[dJ,az,hr,ag,h,if_true]
def kS{u:Int}{v:PV}:mw C.fa [adM,η u,v] (M++[aa7 C.fa []])=.ok .bh (M++[aa7 C.fa [az3,aCk v]]):=by
 rw[acm mw (q=.ok .bh (M++[aa7 C.fa [az3,aCk v]]))];simp only[zC,zD,zE,zF,Nat.zero_add,Nat.reduceAdd,Nat.reduceSub,List.replicate,zG,zH,zI]
 rw[ag6 put (∀aPt aO9{dv:DE}{ρ:fk}(y:PV)(fs NJ:ajD),ajx 0 ahD->dv ρ (M++[aa7 C.fa fs])=.ok y (M++[aa7 C.fa fs])->ayq->aDz=NJ->Q (.nx ρ (M++[aa7 C.fa NJ]))->Q (gF C.fa f b7 dv ρ (M++[aa7 C.fa fs]))) (λ y fs NJ h0 h hl hf q=>by
  unfold gF;rw[h,Res.eu,az,h0,Res.eu,mn (C:=C.fa) (fs:=fs) Ξ];dsimp only;rw[if_pos hl,hf,Pn];exact q) (put (η u) [] [az3] rfl Ξ (by rw[ah5 0]) aar acw)];exact put v [az3] [az3,aCk v] rfl Ξ (by rw[ah5 1]) aar atF
def cV.fall aNY aNn{u:FB}(hr:r∉ajq)(hu:aAB u.ob) :
  cV C Y none (df o M.length (.fall r)) ((M++[MO.ins C.fa (IG u)]).set 4 (.bP (aeV eF (avz r u)))) (apR falls (avz r u)):=by
 rw[aev hp (h.push (aa7 C.fa (IG u)) (.fall r)) h5 (aoC 5) (cU h.y5)];have g:∀i,5<i->((M++[MO.ins C.fa (IG u)]).set 4 (.bP (aeV eF (avz r u))))[i]? = (M++[MO.ins C.fa (IG u)])[i]? := atC
 refine⟨ado hp.y0,ado hp.y1,ado hp.y2,ado hp.y3,get_set hp.y4,ado hp.y5,hp.lo,atA (hp.hi i awi),azW,NV q hq he⟩
 ·rw[ak1 hq (q∈avz r u) hq (Gv hr) hq];rcases aLX with hq | hq
  ·have:=hp.yf q hq;rw[aab this.1 (x9 (g _ (hp.gt this.1 nofun)) this.2)]
  ·simp at hq;subst hq;rw[hu];rw[aab hJ (x9 (g _ h5) Ξ)]
 ·have T:=hp.yt q hq he;exact aqm (x9 (g _ (hp.gt T.ot nofun)) T.mt) (x9 (g _ (hp.gt T.os nofun)) T.ms) (x9 (g _ (hp.gt T.oa nofun)) T.ma)
def pS aNy aUm{W:Wd}{jl:atw}{nP:akb}aNY aOH aPa(I:awN)(S:azo)(Mz:aEF)aUe
    aTj
    aUN
    (ht:∀M B' aOg, cV C Y none o M B'->B'.trains=B.trains->alM->gt [ο 0, η s] M=.ok (fB (kl Y B.trains s)) M)
    (hb:∀M B aOg, aeW->alM->an7 [ο 0, η s]=.ok (.bl aiy) M)
    (hf:∀aNi(u:Int)(v:PV), gf [adM, η u, v] (M++[aa7 C.fa []])=.ok .bh (M++[aa7 C.fa [("until", η u), ("near", v)]]))
    (hu:∀M B w, aeW->att->(∀p∈ajV, aky arD)->∃M', gu [ο 0, an6] M=.ok .bh M'/\cV C Y none o M' (ajt B (al7 w))/\agR/\akO/\∀i, i≠1->M'[i]? = M[i]?)
    (hw:∀M B aNk, aeW->adt->gw [ο 0, η r] M=.ok ahl M) :
    (auh/\kI C.fa C.nt C.yd gc gs gt gb gf gu gw [ο 0, η i] M=afg)\/aAl r (i=r) (adt ∧
      ((ar7/\kI C.fa C.nt C.yd gc gs gt gb gf gu gw [ο 0, η i] M=afg) ∨
       (aks/\((aey (akl 0 (agc (alD Y) || agQ))/\∃M', kI C.fa C.nt C.yd gc gs gt gb gf gu gw [ο 0, η i] M=.ok .bh M'/\cV C Y none (df o M.length (.fall r)) M' (Kz Y.rs B r (axu apK (alD Y)))/\gB o M (df o M.length (.fall r)) M')
          \/ aiI (akl 0 (agc (alD Y) || agQ))/\∃M', kI C.fa C.nt C.yd gc gs gt gb gf gu gw [ο 0, η i] M=.ok .bh M'/\cV C Y none o M' (v3 Y.rs B r)/\agR)))):=by
  unfold kI
  rw[ahT ho (apo i)]
  · rw[ho] at hc
    obtain⟨r, rfl, hr⟩:=iI ho
    rw[adY (b9 ⟨r, rfl, hr, ?_⟩) (cN (P:=λ q=>(ar7/\q=afg) ∨
       (aks/\((aey (akl 0 (agc (alD Y) || agQ))/\∃M', q=.ok .bh M'/\cV C Y none (df o M.length (.fall r)) M' (Kz Y.rs B r (axu apK (alD Y)))/\gB o M (df o M.length (.fall r)) M')
          \/ aiI (akl 0 (agc (alD Y) || agQ))/\∃M', q=.ok .bh M'/\cV C Y none o M' (v3 Y.rs B r)/\agR))) ?_)]
    simp only[zC, zD, zE, zF, Nat.zero_add, Nat.reduceAdd, Nat.reduceSub, List.replicate, zG, zH, zI];rw[adY (aH (anE .bh M (d7 hc))) (acX (η aaE) M (d7 (hs M B r h hr)))];rw[aA4 tw (XW r hr) e1 (aiv [t9, aas, avY, none] wd)]
    rw[ate aeo (wX (avo "greens") c7 [t9, aas, avY, none] M=.ok (aiA aG1) M) (by
      unfold wX;rw[e1, ag, fc h.y3];dsimp only;simp only[az, zB, zA, ag];rw[fc h.y3];rw[aj3 kq gq];cases aG1<;>rfl) YV (aG1=af9↔aks) (by
      rw[aeN S.greens ⟨λ a=>a.1, λ a=>aGp a⟩]) (auM (aea r W.green))]
    · rw[br, aD, aeo]
      simp only[az, zB, zA, ag];cases e:aG1 with
      | none =>
        have:ar7:=λ h=>by rw[YV.mpr h] at e; cases e
        rw[show bM none=.bh from rfl, aDO]
        simp[this]
      | some r' =>
        rw[show bM (some r')=η r' from rfl, dU]
        by_cases e2:r'=r
        · subst e2
          have:=YV.mp e;simp[this]
        · have:ar7:=λ h=>by rw[YV.mpr h] at e; cases e; exact e2 rfl
          have e3:¬(aae r'=r):=b6
          simp[this, e3]
    · rw[ajg hk ar7 aiS e3 (Vl (M:=M) (ρ:=[t9, avG r, avY, none]) hi rfl)];unfold cm;rw[e3, Res.eu];exact dG (cY (b4 (aGp hk)))
    · rw[avK hk aks aiS hg (YV.mpr hk) (cX (akB (Dn (k:=alr aaE) (y:=η aaE) (η r) e1 h.y3 Ξ rfl (by rw[gq, hg]; rfl) acw)))];rw[ql];have h1:=h.put3 anw
      rw[d9 f1 (apa (adA 3 .bP (aeV eI anw))) (aj7 (by rw[aot 3])) l1 (aBr (adA 3 .bP (aeV eI anw))) List.length_set];generalize adA 3 .bP (aeV eI anw)=M1 at h1 f1 l1;rw[aga (fB (alD Y)) M1 (d7 (ht M1 _ aaE h1 rfl tw))];generalize hnr:alD Y=nr;rw[aA4 e2 (h1.fld (ρ:=[t9, aas, avY, c8 (fB nr)]) (d:=b7) rfl XU) e4 (h1.fld (ρ:=[t9, aas, avY, c8 (fB nr)]) (d:=b7) rfl Er)];rw[DB SF (hb M1 _ aaE h1 tw) (ee (akl 0 (nr.isSome || agQ)) M1 ?_ (f6 jz) (f6 jz))]
      · cases nr with
        | none =>
          simp only[fB] at e2 ⊢;simp[e2, jr, SF];by_cases hwt:0<Y.wait<;>simp[hwt]
        | some x =>
          simp only[fB] at e2 ⊢;simp[e2, jr, SF];by_cases hwt:0<Y.wait<;>simp[hwt]
      · rw[d9 hrf (r∉ajq) (by rw[abQ S.qj (I.NS r hk)]) NT aMp (by
          rw[adS h1 (iV (n:=Y.rs.length) (l:=ajq) (by rw[aGF]) (alS (I.own x (b9 (by rw[Ω S.qj hx]))).1)) zK h1];omega)]
        rw[aev h2 (h1.fall (u:=⟨apK, nr, M1.length⟩) hrf rfl) e5 (sq C.fa gf [(afw (avo "ticks") (avo "wait")), d8] [t9, aas, avY, c8 (fB nr)] M1=.ok (ο M1.length) (M1++aIP)) (by
          unfold sq;simp only[au, aE, aD, e2, e4, ag, az, zB, zA];rw[ao6 (dn false (η _) (η _) M1) .ok (η apK) M1]
          simp only[ag];rw[hf, ag])]
        rw[aos hp (h1.push (aa7 C.fa [("until", η apK), ("near", fB nr)]) (.fall r)) e6 (hp.fld (ρ:=[t9, aas, avY, c8 (fB nr)]) (d:=b7) rfl tU) (fA (ο M1.length) _ (ο 4) (M1++aIP) (η r) (M1++aIP) _ e5 e6 Ξ (aBy hp.y4 r (by rw[Ω sO (apt NT)])) (fy (b9 ⟨hk, b4 (aFU jz _ ?_ ?_)⟩)))]
        · rw[l1] at h2 ⊢
          have:nv ak5 awI adM=aeV eF (avz r (axu apK nr)):=sN eF r (axu apK nr) B.falls;rw[as8 (cV C Y none _ (List.set _ 4 (.bP (nv ak5 awI adM))) _) this h2]
        · rw[ak1 f2 (gB o M1 (aE6 o (.fall r)) (M1++aIP)) gB.push l1 f2];rw[aeN l1 (aAZ f2 (aj7 (by rw[lG (by rw[aeq (cU h.y5)]), asI 4]; nofun)))]
      · have XZ:∀p∈aeS (aa8).map, aky arD:=ahO (by
          rw[adS h1 (as4 (b4 hk)) (S.locks p (R.lt r hr p hp)) h1];cases h1':arD with
          | none=>rw[h1'] at h1; cases h1
          | some _=>rfl)
        obtain⟨M2, u1, u2, u3, u4, _⟩:=hu M1 _ aa8 h1 (R.nd r hr) XZ;refine apg .bh M2 (fy (b9 ⟨hk, b9 (aFU jz M2 u2 (f1.trans u3))⟩));simp[hw M1 _ r h1 hr, u1]
  · rw[ak1 ho auh awj ho hc]
    rw[adY (b4 ⟨ho, ?_⟩) (cN (P:=λ q=>q=afg) ?_)]
    exact aH (oO C.nt M (d7 hc) (dG (cY rfl)))
universe zE
universe Sb
universe zE
end
mutual
section
namespace Sb
open PySem L2
section
variable {C:Cs} {Y:gH} {o:adB} {M:bb} {B:Bx} {ρ:fk}
def Dq aNn:∀aQr,r∉rs->aG (rs.foldl dD W).falls r=ar1
 | [],W,_=>rfl
 | x::rs,W,h=>by
  rw[List.foldl_cons,Dq rs _ (atD (d7 e))]
  unfold dD;split
  ·rw[kg,aCf (d7 e)]
  ·rfl
def Bd{bB:afL}aNn:∀(rs:ae6)aNZ,r∉rs->aG (rs.foldl (hG bB) B).falls r=aG B.falls r
 | [],B,_=>rfl
 | x::rs,B,h=>by
  rw[List.foldl_cons,Bd rs _ (atD (d7 e))]
  unfold hG;split
  ·rw[kg,aCf (d7 e)]
  ·rfl
def xC:∀aQr,(rs.foldl dD W).now=W.now
 | [],W=>rfl
 | x::rs,W=>by rw[List.foldl_cons,xC rs,Dk]
def EA aNq{xs pre post:afK}{x:α}(h:xs.Nodup)(e:xs=aAm x):x∉pre:=λ hm=>by
 rw[aoO e List.nodup_append h (h.2.2 x hm x Ξ rfl)]
def TV{u:FB}:ahs (IG u) (Str.ofString "until")=abS u.u:=aar
def TX{t t':Int}:qc "ticks" (η t') (tR Y t)=tR Y t':=aar
def wC{gu gw:D1}{W:Wd}{jl:atw}{nP:akb}aNY aPa(I:awN)(S:azo)(D:awE)(Mz:aEF)
  (hu:∀M B w,aeW->att->azs->∃M',gu [ο 0,an6] M=.ok .bh M'/\cV C Y none o M' (ajt B (al7 w))/\agR/\akO/\∀i,i≠1->M'[i]? = M[i]?)
  (hw:∀M B aNk,aeW->adt->gw [ο 0,η r] M=.ok ahl M) :
  ∃M',vI C.fa C.yd gu gw [ο 0] M=.ok .bh M'/\cV C Y none o M' (GB Y.rs B)/\agR:=by
 rw[acm vI (∃M',q=.ok .bh M'/\cV C Y none o M' (GB Y.rs B)/\agR)];simp only[zC,zD,zE,zF,Nat.zero_add,Nat.reduceAdd,Nat.reduceSub,List.replicate,zG,zH,zI];rw[DB e1 (aiv aAf Er) (aH ?_)]
 have ep:gF C.yd "ticks" b7 (aB (dn false) (avo "ticks") (Θ 1)) aAf M=.nx aAf (M.set 0 (aa7 C.yd (tR Y (B.ticks+1)))):=by
  unfold gF;rw[aD,e1,ag,bq,ag,ao6 (dn false (η B.ticks) (η 1) M) .ok (η (B.ticks+1)) M,Res.eu,show ae 0 aAf M=.ok (ο 0) M from rfl,Res.eu,mn h.y0]
  dsimp only;rw[af5 (by rw[ah5 10]),TX]
 rw[anI ep acw];rw[aev h1 (h.ael (B.ticks+1)) f1 (apa (M.set 0 (aa7 C.yd (tR Y (B.ticks+1))))) (aj7 (by rw[aot 0]))]
 rw[avu (M.set 0 (aa7 C.yd (tR Y (B.ticks+1)))) h1 f1]
 rw[d9 zt (af0 ajq) (by rw[aGF]) se (∀r∈ajq,adt) (amM (aih (b9 (by rw[Ω S.qj hr]))).1)]
 have hlen:aMp:=by
  rw[adS h1 (iV zt se) zK h1];omega
 rw[apQ e2 (h1.fld (ρ:=aAf) (d:=b7) rfl tU) ei (aw (m9 false) [aBb] aAf M1=.ok (ς ((ajq).map aAc)) M1) (by
  rw[aY,au,e2]
  rw[akT aE]
  rw[aoh m9 (fc h1.y4)]
  have e3:(ak5).map (λ q=>w5 q.1)=(ajq).map aAc:=by
   rw[af7 encD List.map_map List.map_map];rfl
  rw[apE ((apR ticks (B.ticks+1):Bx).falls=B.falls),e3,bT (by rw[aBu hlen])]) (gR aAc (λ pre ρ M2=>∃y,ρ=[t9,y]/\cV C Y none o M2 (pre.foldl (hG Y.rs) (v7 B))/\apa M2) ajq none M1 (dZ ei) trivial (ajC none h1 f1) ?_ ?_)]
 ·rintro pre r post hx ρ M2 ⟨y,rfl,h2,f2⟩;rw[aoJ];have hr:adt:=se r (by rw[ak8]);rw[akR Vm (EA zt hx) I2 (xx R pre _ (zx I)) S2 (xy R pre _ _ (zx I) (KA S))];rw[d9 EB (aG (pre.foldl (hG Y.rs) (v7 B)).falls r=aG B.falls r) (Bd pre _ Vm) X0 (r∈ajq) (by rw[ak8])]
  rw[auZ u RK ((mem_keys _ _).mp X0)]
  rw[ajg huW (ar1=c8 (Eo Y.rs nP r u)) (by rw[S.falls,nQ,RK]; rfl) aep (D _ (i7 huW))]
  rw[d9 Qp ((pre.foldl (hG Y.rs) (v7 B)).ticks=amJ) (by rw[S2.ticks,xC]; rfl) hq ((r,u)∈(pre.foldl (hG Y.rs) (v7 B)).falls) (i7 (af1 EB RK))];rw[akR hf (h2.yf _ hq).2 e3 (h2.fld (ρ:=[t9,aas]) (d:=b7) rfl tU) e4 (h2.fld (ρ:=[t9,aas]) (d:=b7) rfl Er)]
  rw[agw e5 (apZ aBb f7 [t9,aas] M2=.ok (ο u.ob) M2) (by
   rw[aD,e3,ag];simp only[az,zB,zA,ag];exact avS h2.y4 k awI (by rw[gq,EB,RK]; rfl)) e6 (cc C.fa "until" (amO aBb) [t9,aas] M2) (.ok (η u.u) M2) (by
   unfold cc at e5 ⊢;rw[akP e5 ag (mn hf)];rw[ab2 TV])]
  rw[ajs wg (hG Y.rs (pre.foldl (hG Y.rs) (v7 B)) r=(agT r).foldl (hG Y.rs) (v7 B)) (by rw[List.foldl_append];rfl) MA (Mm (pre.foldl (hG Y.rs) (v7 B)).falls (pre.foldl (hG Y.rs) (v7 B)).ticks r=aeY u.u amJ) (by
   unfold Mm
   rw[akP EB RK Qp];refine decide_eq_decide.mpr ⟨awH,awH⟩
   ·have:W.now<u.u:=aep;omega
   ·omega) (ee (aeY u.u amJ) M2 ?_ (f6 hk) (f6 hk))]
  ·rw[br,aD,e6,ag,e4,ag,Qp,dU];rfl
  ·rw[ag6 XZ (ae8 (aeS (aa8).map) (b8 (aG (pre.foldl (hG Y.rs) (v7 B)).locks p).isSome)) (ahO (by
    have Xs:r∈aeS (pre.foldl dD (v5 W)).falls.map:=by rw[S2.qj,mem_keys,EB,RK]; rfl
    rw[adS h1 (I2.lock (b9 Xs) hp) (S2.locks p (R.lt r hr p hp)) h1];cases h1':aG (pre.foldl (hG Y.rs) (v7 B)).locks p with
    | none=>rw[h1'] at h1; cases h1
    | some _=>rfl)) (Dn (k:=awI) (y:=η r) (ο u.ob) e3 h2.y4 Ξ rfl (by rw[gq,EB,RK]; rfl) acw)];rw[ql];rw[aev h3 (h2.Vk r) f3 (apa (M2.set 4 (.bP (aeV eF (cD (pre.foldl (hG Y.rs) (v7 B)).falls r))))) (f2.trans (aj7 (by rw[aot 4])))];generalize M2.set 4 (.bP (aeV eF (cD (pre.foldl (hG Y.rs) (v7 B)).falls r)))=M3 at h3 f3;obtain⟨M4,u1,u2,u3,u4,_⟩:=hu M3 _ aa8 h3 (R.nd r hr) XZ;refine cG .bh M4 (aeU (hw M3 _ r h3 hr) u1) (agV (ajC _ ?_ (f3.trans u3)))
   rw[← wg];rw[agC hG (af5 (by show b8 (Mm _ _ _);exact aKA)) u2]
  ·rw[alU (agV (ajC _ ?_ f2))];rw[← wg];rw[agC hG (apB hc (by rw[adS h9 (MA.symm.trans hc) hk h9]; cases h9)) h2]
 ·rintro ρ' M2 ⟨y,rfl,h2,f2⟩;exact fy (ajC M2 h2 f2)
@[simp] def TY{neg b:Bool}:dX neg (o6 b) afW M=.ok (.bl (ail b b)) M:=by cases b<;>cases neg<;>with_unfolding_all rfl
def tm aNy{gc gn:D1}{ti:akb}aNY(hly:aMP)
    (hc:gc [ο 0, η i] M=if ap1 i then .ok .bh M else afg)
    aS9 :
    (acs (ap1 i)/\nL C.yd gc gn [ο 0, η i] M=afg)\/aAl p (i=p) (amC/\awK ∧
      ((aey (aoQ p p)/\nL C.yd gc gn [ο 0, η i] M=YX C.he M) ∨
       (aiI (aoQ p p)/\∃M', nL C.yd gc gn [ο 0, η i] M=.ok .bh M'/\cV C Y none o M' (A3 B p)/\agR))):=by
  unfold nL
  rw[ahT ho (ap1 i)]
  · rw[ho] at hc
    have NL:=Bool.and_eq_true_iff.mp ho;obtain⟨p, rfl, hp⟩:=iI NL.1
    rw[adY (b9 ⟨p, rfl, hp, aaF NL.2, ?_⟩) (cN (P:=λ q=>(aey (aoQ p p)/\q=YX C.he M)\/(aiI (aoQ p p)/\∃M', q=.ok .bh M'/\cV C Y none o M' (A3 B p)/\agR)) ?_)]
    simp only[zC, zD, zE, zF, Nat.zero_add, Nat.reduceAdd, Nat.reduceSub, List.replicate, zG, zH, zI];rw[amn (aH (anE .bh M (d7 hc))) e (hn p hp)];rw[ahT hh (aoQ p p)]
    · rw[g9 (if_pos hh) e (aH (oO C.he M (d7 e) (dG (cY (b4 (aGp hh))))))]
    · rw[if_neg hh] at e
      rw[ahV (aH (anE .bh M (d7 e))) Lv (p<B.lying.length) (by rw[Ω hly hp])]
      rw[apQ e1 (aiv [t9, akq] KL) e2 (amG (avo "lying") f7 [t9, akq]=.ok (o6 (B.lying.getD p true)) M) (by
        rw[aD, e1, ag];simp only[az, zB, zA, ag];exact wb h.y2 (by rw[zJ, List.getD_eq_getElem?_getD, List.getElem?_eq_getElem Lv]; rfl)) (fA (o6 (!(B.lying.getD p true))) M (ο 2) M (η p) M (ajR 2 ((aJ9 (!(B.lying.getD p true))).map o6)) ?_ e1 Ξ (by rw[mM h.y2 (aaF Lv), List.map_set]) (fy (b9 (aFU (aaF hh) _ (h.put2 _) (aj7 (by rw[aot 2]))))))];rw[xi, br, aD, e2, ag, bq, ag, TY, ag, ag];cases B.lying.getD p true<;>rfl
  · rw[ak1 ho (acs (ap1 i)) awj ho hc]
    rw[adY (b4 ⟨ho, ?_⟩) (cN (P:=λ q=>q=afg) ?_)]
    exact aH (oO C.nt M (d7 hc) (dG (cY rfl)))
universe zE
universe Sb
universe zE
section
namespace Sb
open PySem L2
section
variable {C:Cs} {Y:gH} {e:acG} {o:adB} {M:bb} {B:Bx} {ρ:fk} {t:TB}
abbrev qo aNC aP7 aOg:aec:=match azH with
 | af9=>af9
 | none=>aeS (B.falls.find? λ q=>aif (asl=s) (aCT q.2.nr)).map
def Qq{u:FB}:ahs (IG u) (Str.ofString "near")=c8 (fB u.nr):=aar
def aaG{i j:Int}aRO aOH(hj:Sm j):dJ [none,apF,none,ary] [y,agO,alK,z,w] M=.ok () M:=by
 rw[aaa h (jQ hi.1 hi.2) h2 (jQ hj.1 hj.2)];simp only[dJ,az,zB,zA,ag,h,h2,if_true]
def EC aNm{gb gs:D1}aOp:iD C.fa C.rd C.yd gb gs [ο 0,η x,.bh] M=YX C.rd M:=by
 rw[acm iD (q=YX C.rd M)];simp only[zC,zD,zE,zF,Nat.zero_add,Nat.reduceAdd,Nat.reduceSub,List.replicate,zG,zH,zI];rw[amn (aH (Gj M Ξ ?_)) e3 (Vl (M:=M) (ρ:=[t9,t7,aCw,none,none]) hx rfl)];rw[aop cm e3];exact dG (cY rfl)
def jY aNm aPS{gb gs:D1}aNA aOp(hsm:Sm s)(se:∀r∈ajq,adt)
  aUO
  (hb:∀M',aCM->gb [ο 0,η s] M'=.ok (.bl aiy) M') :
  iD C.fa C.rd C.yd gb gs [ο 0,η x,η s] M=match asw with
  | af9=>.ok (η r) M
  | none=>YX C.rd M:=by
 rw[acm iD (q=match asw with | af9=>.ok (η r) M | none=>YX C.rd M)]
 simp only[zC,zD,zE,zF,Nat.zero_add,Nat.reduceAdd,Nat.reduceSub,List.replicate,zG,zH,zI];rw[alV (o5 M Ξ aIA)];rw[DB e1 (aiv [t9,t7,adN,none,none] wd) (ee (agc azH) M ?_ (f6 hk) (f6 hk))]
 ·rw[aCH];rw[ag,e1,ag,uU h.y3 (k:=alr s) rfl,gq];simp
 ·rw[auZ r hr hk]
  rw[ab4 hp (asw=af9) (by rw[acu qo hr]) (bw (η r) M ?_ (cM (aT (agK hp))))];rw[aD,e1,ag,az];rw[ahk]
  rw[Ω ag (avS h.y3 k (alr s) (by rw[gq,hr]; rfl))]
 ·rw[ajs hg (YW azH) aiS hp (asw=aeS (B.falls.find? λ q=>aif (asl=s) (aCT q.2.nr)).map) (by rw[acu qo hg]) aIA];rw[adS hi (Bb h.y4 (aiv [t9,t7,adN,none,none] tU)) TR hi];rw[apI (xA h.y4 hi ?_) hz (agg (adA 4 .km ak5) 4 .km ak5) aKk hz0 ((adA 4 .km ak5)[0]? = ab1 aa7 C.yd (tR Y B.ticks)) atf];rw[agw hzf (∀q∈B.falls,(adA 4 .km ak5)[q.2.ob]? = aBM (IG q.2)) (λ q hm=>akk (by rw[apO (h.yf q hm).1]) (h.yf q hm).2) hbk ((adA 4 .km ak5).set 4 (.bP ak5)) M (oQ h.y4)];generalize adA 4 .km ak5=M1 at hi hz hz0 hzf hbk;refine gR eFi (aiT (∃y z,ρ=[t9,t7,adN,y,z]/\M'=M1/\aEG (λ q=>aif (asl=s) (aCT q.2.nr)))) B.falls _ _ hi hz (aa9 none none rfl rfl) ?_ ?_
  ·rintro pre q post hq ρ M' ⟨y,z,rfl,rfl,kG⟩;refine amh
   rw[d9 hm (q∈B.falls) (by rw[af2 hq]) hr (q.1<Y.rs.length) (se _ (aja q hm))];rw[aaa F2 (hzf q hm) e2 (hs _ q.1 hz0 hr)]
   rw[DB e3 (hb _ hz0) (ee (aif (asl=s) (aCT q.2.nr)) M' ?_ (f6 hk) (f6 hk))]
   ·rw[agw e4 (aW (agM (aw gs [b7,d8]) c7) [t9,t7,adN,ar5,agA q.2.ob] M'=.ok (aeY asl s) M') (by
     rw[br,aD,aY];simp only[au,aE,az,zB,zA,ag,e2,dU];by_cases e7:asl=s
     ·simp[e7]
     ·have e8:¬(aae asl=aul):=adD (e7 aEE);simp[e7,e8]) e5 (aW (agM (cc C.fa "near" aau) f7) [t9,t7,adN,ar5,agA q.2.ob] M') (.ok (aeY q.2.nr ad5) M') (by
     have e6:cc C.fa "near" aau [t9,t7,adN,ar5,agA q.2.ob] M'=.ok (fB q.2.nr) M':=by
      rw[acu cc az];rw[ahk];rw[apu ag (mn F2)];rw[ab2 Qq]
     rw[br,aD,e6,ag,az];rw[ahk]
     rw[ag];cases q.2.nr with
     | none=>rw[show fB none=.bh from rfl,aDO]; rfl
     | some y=>rw[show fB anD=η y from rfl,dU]; by_cases e7:y=x<;>simp[e7])]
    show lx _ _ [t9,t7,adN,ar5,agA q.2.ob] M'=_;simp only[jy,sH,e4,e5,ag];rw[akZ (asl=s)]
    ·rw[aoR (q.2.nr=ad5)]
     ·simp[h1,h2]
     ·simp[h1,h2,e3,jr]
    ·simp[h1]
   ·refine bw (η q.1) M' rfl (zv ⟨hz,cM (aT ?_)⟩);rw[hbk,hp,hq,List.find?_append,kG,List.find?_cons,hk];rfl
   ·refine cX (bL hz (aa9 _ _ rfl ?_));rw[List.find?_append,kG,List.find?_cons,hk];rfl
  ·rintro ρ' M' ⟨y,z,rfl,rfl,kG⟩;rw[ac4 hz acw];have e3:=aaG (M:=M) (y:=t9) (z:=y) (w:=z) hx hsm;rw[hbk];rw[aop cm e3];refine cY ?_;rw[hp,kG];rfl
universe zE
universe Sb
universe zE
section
namespace Sb
open PySem L2
section
variable {C:Cs} {Y:gH} {e:acG} {o:adB} {M:bb} {B:Bx} {ρ:fk} {t:TB}
def X1 aM9 aNv aNh(h:auF n (x::xs)):Ax (ο n) [η 0] M=.ok x (al5 n xs):=by
 rw[am2 Ax];rw[aoh Cc h]
 have e:t6 (Hx (aw1 x xs) 0) 0:=by unfold Hx; simp
 rw[afG e];rw[afG zA];rw[ak2 d6];rfl
def TZ aM9 aNv aNh(h:aAo)(hl:xs.length<lim):vH (ο n) [η 0,x] M=.ok .bh (ajR n (x::xs)):=by
 unfold vH Cc;rw[aj3 h (if_pos hl)]
def ED{f:DM}aNp aOG aR0 aM9 aQI(hn:M[n]? = akF ys)(ha:alc=.ok xs M):gD f d ds ρ M=f (ο n) xs M:=by
 rw[af7 gD hd ag]
 have:t6 (alI (ο n)) ys:=by unfold iw;simp only[hn]
 rw[afG this];rw[ha,ag]
def nE aNm aPb{a:HB}{gu:D1}(h:aqG)(T:awU)(ha:aBl (s::a))(hl:aDF)(tw:ap3)
  (hu:∀M B,aqG->aDF->∃M',gu [ο 0,bF [s]] M=.ok .bh M'/\cV C Y ad5 o M' (ajt B (al7 [s]))/\agR/\akO/\∀i,i≠1->M'[i]? = M[i]?) :
  ∃M',pd C.tr gu [ο 0,ahy] M=.ok .bh M'/\cV C Y ad5 o M' (ajt B (arb s.1))/\ajO o M' ⟨⟨s::t.tr.steps,a,t.tr.out⟩,t.ob,t.so,t.ao⟩/\agR/\akO:=by
 rw[acm pd (∃M',q=.ok .bh M'/\cV C Y ad5 o M' (ajt B (arb s.1))/\ajO o M' ⟨⟨s::t.tr.steps,a,t.tr.out⟩,t.ob,t.so,t.ao⟩/\agR/\akO)];simp only[zC,zD,zE,zF,Nat.zero_add,Nat.reduceAdd,Nat.reduceSub,List.replicate,zG,zH,zI];rw[aaa e1 (xB (ρ:=[t9,af6,none]) (d:=f7) T.mt rfl Eu) hma T.ma];rw[ha,zC] at hma;rw[aga amV (al5 t.ao aox) ?_]
 ·rw[Ω (ED e1 hma (xs:=[η 0]) rfl) (X1 hma)]
 rw[acB];have h1:=h.own (v:=ς aox) (b9 (b9 T.oa));rw[d9 k1 ((al5 t.ao aox)[t.ob]? = ab1 aa7 C.tr (k6 t)) (alE T.oa T.ot T.mt) k2 ((al5 t.ao aox)[t.so]? = aiV aqP) (alE T.oa T.os T.ms)];rw[d9 k3 ((al5 t.ao aox)[t.ao]? = aiV aox) (get_set T.ma) f1 (apa (al5 t.ao aox)) (aj7 (by rw[akc T.oa]))];have l1:aBr (al5 t.ao aox):=List.length_set;generalize al5 t.ao aox=M1 at h1 k1 k2 k3 f1 l1;obtain⟨M2,u1,u2,u3,u4,u5⟩:=hu M1 B h1 hl;rw[alV (anE .bh M2 ?_)]
 ·have e2:bS false [c7] [t9,af6,anO] M1=.ok (bF [s]) M1:=by
   unfold bS;simp only[au,aE,az,zB,zA,ag];rfl
  rw[aY];simp only[au,aE,az,zB,zA,ag,e2];exact u1
 rw[d9 j1 (M2[t.ob]? = ab1 aa7 C.tr (k6 t)) (x9 (u5 _ (by rw[apO T.ot])) k1) j2 (M2[t.so]? = aiV aqP) (x9 (u5 _ (by rw[apO T.os])) k2)];rw[avK j3 (M2[t.ao]? = aiV aox) (x9 (u5 _ (by rw[apO T.oa])) k3) e3 (xB (ρ:=[t9,af6,anO]) (d:=f7) j1 rfl rh) (apg .bh (M2.set t.so (ς (amV::aqP))) (fy ⟨_,rfl,?_,aqm ?_ ?_ ?_,aAZ u3 (aj7 (by rw[akc T.os])),by rw[List.length_set,u4,l1]⟩))]
 ·rw[Ω (ED e3 j2 (xs:=[η 0,amV]) rfl) (TZ j2 (by rw[ak4 (apt tw)]))]
 ·exact u2.own (b9 (b4 T.os))
 ·exact alE T.os T.ot j1
 ·exact get_set j2
 ·exact alE T.os T.oa j3
def MB{κ α:Type} [am7] aQT(h:YW auO):cD d k=d:=by
 rw[aoa cD (List.filter_eq_self.mpr (ah1 (decide_eq_true (f6 e))))];have:k∈ai6:=aAp q hq e;rw[mem_keys,h] at this;cases this
def Be aNq{lL dk dx:DE}aM9{en:azm}{d:ay4}aNf{z:PV}aUl(hn:M[n]? = avA .bP en d)(hk:dk ρ M=.ok (η k) M)(hx:dx ρ M=.ok z M) :
  ∃v,wY lL dk dx ρ M=.ok v (adA n .bP (aeV en (cD d k))):=by
 unfold wY;rw[akP ho ag (fc hn)];rw[hk,ag,hx,ag,fc hn];rw[aj3 kq gq];cases e:auO with
 | none =>
  rw[ac4 z ?_];rw[MB e,Ba hn];rfl
 | some v=>rw[aeM (by rw[ab2 ql])]
abbrev GO aNS(gc:D1):Prop:=∀aNs aOS aNZ aOt aNR(a:HB),aqG->awU->aBl (s::a)->aDF->ap3 →
 ∃M',gc [ο 0,ahy] M=.ok .bh M'/\cV C Y ad5 o M' (ajt B (arb s.1))/\ajO o M' ⟨⟨s::t.tr.steps,a,t.tr.out⟩,t.ob,t.so,t.ao⟩/\agR/\akO
def KQ aM9:qc "ahead" (ο n) (k6 t)=k6 ⟨t.tr,t.ob,t.so,n⟩:=aar
def jh aNm aNn aPb aOu{gs gw gc:D1}(h:aqG)(T:awU)aP3(ew:aa8=s::w)(Fs:av3)(hl:aDF)(tw:ap3)
  aUO
  (hw:∀M' aNk,aCM->adt->gw [ο 0,η r] M'=.ok ahl M')aST :
  ∃M',kA C.tr C.yd gs gw gc [ο 0,ahy,η r] M=.ok .bh M'/\cV C Y ad5 (df o M.length (af8 x)) M' { B with greens:=anw,falls:=amE,locks:=arb s.1 } ∧
   ajO (df o M.length (af8 x)) M' ⟨⟨s::t.tr.steps,w,t.tr.out⟩,t.ob,t.so,M.length⟩/\gB o M (df o M.length (af8 x)) M':=by
 rw[acm kA (∃M',q=.ok .bh M'/\cV C Y ad5 (df o M.length (af8 x)) M' { B with greens:=anw,falls:=amE,locks:=arb s.1 } ∧
   ajO (df o M.length (af8 x)) M' ⟨⟨s::t.tr.steps,w,t.tr.out⟩,t.ob,t.so,M.length⟩/\gB o M (df o M.length (af8 x)) M')]
 simp only[zC,zD,zE,zF,Nat.zero_add,Nat.reduceAdd,Nat.reduceSub,List.replicate,zG,zH,zI];have e1:=aiv [t9,af6,aas] wd;obtain⟨v1,p1⟩:=Be (dx:=dC .bh) (z:=.bh) e1 h.y3 (k:=aaE) (dk:=aw gs [b7,c7]) (d7 (hs M r h.y0 hr)) rfl
 rw[aaa h1 (h.put3 anw) T1 (T.set (i:=3) (v:=.bP (aeV eI anw)) (asI 3) nofun nofun nofun)];rw[ate f1 (apa (adA 3 .bP (aeV eI anw))) (aj7 (by rw[aot 3])) l1 (aBr (adA 3 .bP (aeV eI anw))) List.length_set (anE v1 _ p1)];generalize adA 3 .bP (aeV eI anw)=M1 at h1 T1 f1 l1;have e2:=h1.fld (ρ:=[t9,af6,aas]) (d:=b7) rfl tU;obtain⟨v2,p2⟩:=Be (dx:=dC .bh) (z:=.bh) e2 h1.y4 (k:=r) (dk:=c7) rfl rfl
 rw[aaa h2 (h1.Vk r) T2 (T1.set (i:=4) (v:=.bP (aeV eF amE)) (asI 4) nofun nofun nofun)];rw[ate f2 (apa (M1.set 4 (.bP (aeV eF amE)))) (aBs (by rw[aot 4])) l2 (aBr (M1.set 4 (.bP (aeV eF amE)))) (af1 List.length_set l1) (anE v2 _ p2)];generalize M1.set 4 (.bP (aeV eF amE))=M2 at h2 T2 f2 l2;rw[aaa h3 (h2.push (ς ((aa8).map aI)) (af8 x)) T3 (T2.push (ς ((aa8).map aI)) (af8 x))];rw[d9 f3 (gB o M2 (df o M2.length (af8 x)) (M2++atR (aa8).map)) gB.push k3 ((M2++atR (aa8).map)[M2.length]? = aiV ((aa8).map aI)) Ξ]
 have e3:aw (kX true) [aw gw [b7,c7]] [t9,af6,aas] M2=.ok (ο M2.length) (M2++atR (aa8).map):=by
  rw[aY,au,aY];simp only[au,aE,az,zB,zA,ag,hw M2 r h2.y0 hr];rw[aoh kX p9];exact lr (by rw[aqh Fs])
 rw[← l2];rw[amn (aH (xn (ο M2.length) _ t.ob (k6 t) (k6 ⟨t.tr,t.ob,t.so,M2.length⟩) e3 rfl T3.mt (by rw[ah5 3]) KQ acw)) h4 (h3.own (v:=amz (k6 ⟨t.tr,t.ob,t.so,M2.length⟩)) (b4 T3.ot))]
 have T4:ajO (df o M2.length (af8 x)) ((M2++atR (aa8).map).set t.ob (amz (k6 ⟨t.tr,t.ob,t.so,M2.length⟩))) (aEK aa8 M2.length) :=
  ⟨T3.ot,T3.os,hJ,get_set T3.mt,alE T3.ot T3.os T3.ms,alE T3.ot hJ k3⟩
 have f4:arT (df o M2.length (af8 x)) ((M2++atR (aa8).map).set t.ob (amz (k6 ⟨t.tr,t.ob,t.so,M2.length⟩))):=x9 (f2.trans f3) (aj7 (by rw[akc T3.ot]));obtain⟨M5,c1,c2,c3,c4,c5⟩:=hc x _ _ _ (aEK aa8 M2.length) s w h4 T4 ew hl tw;exact cG .bh M5 (d7 c1) (fy ⟨M5,rfl,c2,c3,f4.trans c4⟩)
universe zE
universe Sb
universe zE
end
mutual
section
namespace Sb
open PySem L2
section
variable {C:Cs} {Y:gH} {e:acG} {o:adB} {M:bb} {B:Bx} {ρ:fk} {t:TB} {W:Wd} {jl:atw} {nP:akb}
def Dr aRF(S:azo)(hp:asw=af9):ah2/\aaE=s:=by
 unfold qo at hp;cases hg:azH with
 | some r' =>
  rw[hg] at hp;cases hp;have:=(aFM r).mp hg;rw[aab (b4 this.1) this.2]
 | none =>
  rw[hg] at hp;rw[aIS q hq rfl hp];rw[ain (List.find?_some hq) (List.mem_of_find?_eq_some hq)];simp only[Bool.and_eq_true,decide_eq_true_eq] at h1;rw[aab (b9 (by rw[Ω S.qj (aja q h2)])) h1.1]
def Dt(I:awN)aPa(S:azo){r p:Nat}aPu(hp:p∈fz Y.rs r):aky arD:=by
 rw[adS h1 (as4 h) (S.locks p (R.lt r (aih h).1 p hp)) h1];cases h2:arD with
 | none=>rw[h2] at h1; cases h1
 | some _=>rfl
def oN.Qr(S:azo)aNs:abW=(aiZ).map (·.tr):=by
 rw[S.trains,nQ]; rfl
def oN.xp(S:azo)(I:awN):aB0:=by
 have:=I.xp;rwa[S.trains,qh] at this
abbrev t0 aNd:TB:=⟨ah8 [] [],n,n+1,n+2⟩
def jW:lB C.tr [adM] (M++[amz []])=.ok .bh (M++anL::[ς [],ς []]):=by
 rw[acm lB (q=.ok .bh (M++anL::[ς [],ς []]))];simp only[zC,zD,zE,zF,Nat.zero_add,Nat.reduceAdd,Nat.reduceSub,List.replicate,zG,zH,zI]
 rw[ag6 mk (∀(G:bb)(fs:ajD),bS true [] [ahD] (M++amz fs::G)=.ok (ο (afU (G.length+1))) (M++amz fs::(G++[ς []]))) (λ G fs=>by
  rw[ajN bS aE ag (lr d6)];simp) (mf (s2:=fe) (G:=[]) (G':=[ς []]) (ο (afU 1)) [("steps",ο (afU 1))] rfl (mk [] []) (by rw[ah5 0]) aar acw)];rw[ant (aH (mf (s2:=fe) (G:=[ς []]) (G':=[ς [],ς []]) (ο (afU 2)) [("steps",ο (afU 1)),("ahead",ο (afU 2))] rfl (mk [ς []] _) (by rw[ah5 1]) aar acw)) (mf (s2:=fe) (G:=[ς [],ς []]) (G':=[ς [],ς []]) (ako .bl) (k6 (t0 M.length)) rfl rfl (by rw[ah5 2]) aar atF)]
abbrev GP(o:adB)aNd aNs:adB:=df (df (df o n (anC x)) (n+1) (ak0 x)) (n+2) (af8 x)
def cV.aeu aNY aNs:cV C Y ad5 (aFo o x) (M++anL::[ς [],ς []]) B/\ajO (aFo o x) (M++anL::[ς [],ς []]) (t0 M.length) ∧
  arT (aFo o x) (M++anL::[ς [],ς []]):=by
 have e:M++anL::[ς [],ς []]=((M++[anL])++[ς []])++[ς []]:=Ξ
 rw[akR h1 (h.push anL (anC x)) h2 (h1.push (ς []) (ak0 x)) h3 (h2.push (ς []) (af8 x))]
 rw[agw l1 (aso M arX=afU 1) Ξ l2 (aso (M++arX) aqg) (afU 2) Ξ]
 rw[l1] at h2 h3;rw[l2] at h3;rw[e];rw[ab8 (h3.but x) ⟨?_,?_,hJ,d7 t0,d7 t0,d7 t0⟩ ?_]
 ·rw[anA (GP o M.length x M.length=_) GP];rw[aCo,aCo,hJ]
 ·show GP o M.length x (afU 1)=_;rw[af7 GP aCo hJ]
 ·rw[d9 f1 (arT (df o M.length (anC x)) (M++arX)) gB.push f2 (gB (df o M.length (anC x)) (M++arX) (df (df o M.length (anC x)) (afU 1) (ak0 x)) ((M++arX)++aqg)) (by
   rw[avQ (gB.push (o:=df o M.length (anC x)) (M:=M++arX) (v:=MO.lst []) (g:=ak0 x)) l1])]
  have f3:gB (df (df o M.length (anC x)) (afU 1) (ak0 x)) ((M++arX)++aqg) (aFo o x) (((M++arX)++aqg)++aqg):=by
   rw[avQ (gB.push (o:=df (df o M.length (anC x)) (afU 1) (ak0 x)) (M:=(M++arX)++aqg) (v:=MO.lst []) (g:=af8 x)) l2]
  exact aAZ f2 f3
universe zE
universe Sb
universe zE
section
namespace Sb
open PySem L2
inductive Kd where
 | ok
 | none
 | held
 | red
abbrev NU aNS aOS aSR(P:aHX):Prop:=match k with
 | .ok=>∃M' o' B',res=.ok .bh M'/\cV C Y none o' M' B'/\gB o M o' M'/\P B'
 | aaY=>res=afg
 | .held=>res=YX C.he M
 | .red=>res=YX C.rd M
def Bf aNq{l:afK}{p:aza}{a:α}(ha:a∈l)(hp:b8 (p a))(hu:an0 l (b8 (p b)->b=a)):t6 aGb a:=by
 cases e:aGb with
 | none=>rw[afS hp (aaF (List.find?_eq_none.mp e a ha))]
 | some b=>rw[hu b (List.mem_of_find?_eq_some e) (List.find?_some e)]
section
variable {C:Cs} {Y:gH} {e:acG} {o:adB} {M:bb} {B:Bx} {ρ:fk} {t:TB} {W:Wd} {jl:atw}
abbrev uV aOb aNs aOg aNk:Bool:=aif (aaE=s) (match ar1 with
 | some fl=>fl.bd || aea x fl.ns
 | none=>true)
abbrev oR aOb aNs aOg:aec:=(aB4).find? (uV Y W x s)
def KR aNm aPS aPa aR9:apk=asw:=by
 rw[d9 XW (∀r,b8 (uV Y W x s r)->aaE=s) (λ r h=>by
  rw[ajd uV];simp only[Bool.and_eq_true,decide_eq_true_eq] at h;exact h.1) aaH (∀r∈aB4,ah2) (λ r h=>List.mem_append.mp h)];rw[d9 Gp (∀r∈aB4,∀r',atU->aU Y.rs r'=s->b8 (uV Y W x s r)->r=r') (λ r hr r' h' e hm=>I.one R (aaH r hr) h' (x9 (XW r hm) e.symm)) NT (∀q∈B.falls,aG W.falls q.1=c8 (Eo Y.rs (cq Y) q.1 q.2)) (ah1 (by
  have hn:af0 ajq:=by rw[aGF]
  rw[S.falls,nQ,azj];rfl))]
 unfold qo;cases hg:azH with
 | some r =>
  rw[DB h1 ((aFM r).mp hg) (Bf (List.mem_append.mpr (b4 h1.1)) ?_ (agi hb hm (Gp b hb r (b4 h1.1) h1.2 hm)))]
  have h2:YW ar1:=by
   cases e2:ar1 with
   | none=>rfl
   | some _=>rw[ajQ ((mem_keys _ _).mpr (by rw[ab2 e2])) (I.NS r h1.1)]
  rw[acu uV h2];simp[h1.2]
 | none =>
  dsimp only;cases hf:B.falls.find? (λ q=>aif (asl=s) (aCT q.2.nr)) with
  | some q =>
   rw[ain (List.find?_some hf) (List.mem_of_find?_eq_some hf)]
   simp only[Bool.and_eq_true,decide_eq_true_eq] at h1
   rw[ab4 hm (q.1∈ah6) (by rw[Ω S.qj (aja q h2)]) (Bf (a:=q.1) (List.mem_append.mpr (b9 hm)) ?_ (agi hb hm' (Gp b hb q.1 (b9 hm) h1.1 hm')))];rw[acu uV (NT q h2)];simp only[Eo,h1.1,decide_true,Bool.true_and];rcases Bool.or_eq_true_iff.mp h1.2 with h3 | h3
   ·rw[aoe h3 h3];rw[af2 h3]
   ·rw[ab2 h3]
  | none =>
   show _=Option.none;rw[amn (List.find?_eq_none.mpr (NV r hr hm)) e1 (XW r hm)];rcases List.mem_append.mp hr with hr | hr
   ·rw[aiL ((aFM r).mpr ⟨hr,e1⟩) hg];cases this
   ·rw[S.qj] at hr;rw[aiN q hq hr];have h4:=List.find?_eq_none.mp hf q hq;rw[anh uV hm (NT q hq) hm];simp only[Eo,e1,decide_true,Bool.true_and,Bool.or_eq_true,decide_eq_true_eq] at hm;simp only[e1,decide_true,Bool.true_and,Bool.or_eq_true,decide_eq_true_eq,not_or] at h4;rcases hm with hm | hm
    ·exact h4.2 hm
    ·cases hnr:q.2.nr with
     | none=>rw[aia hnr hm hm]
     | some y =>
      rw[aia hnr hm hm];exact h4.1 (af1 hnr hm)
abbrev Qt aNS(gr:D1):Prop:=∀(e:acG)aOS aP7 aOg,afe->afQ->alM->(∀r∈ajq,adt)->gr [ο 0,η x,η s] M=match asw with
 | af9=>.ok (η r) M
 | none=>YX C.rd M
abbrev GQ aNS(gp:D1):Prop:=∀aNs aOS aNZ aOt aNk aNR aNL,aqG->awU->adt->aa8=s::w->av3->aDF->ap3 →
 ∃M',gp [ο 0,ahy,η r] M=.ok .bh M'/\cV C Y ad5 (df o M.length (af8 x)) M' { B with greens:=anw,falls:=amE,locks:=arb s.1 } ∧
   ajO (df o M.length (af8 x)) M' ⟨⟨s::t.tr.steps,w,t.tr.out⟩,t.ob,t.so,M.length⟩/\gB o M (df o M.length (af8 x)) M'
def GR aR9:∀r∈ajq,adt:=amM (aih (b9 (by rw[Ω S.qj hr]))).1
def KS aPa aQC aQF:av3:=by
 have:=iV (R.nd r hr) (R.lt r hr);rw[anh fz this zK this];omega
def aaI{x j:Int}aRO(hj:Sm j):dJ [none,ary,none] [y,t7,alK,z,w] M=.ok () M:=by
 have h9:=jQ hj.1 hj.2;simp only[dJ,az,zB,zA,ag,h9,if_true]
def aaJ{x j:Int}aRO aOp:dJ [none,apF,none] [y,t7,alK,z,w] M=.ok () M:=by
 have h9:=jQ hx.1 hx.2;simp only[dJ,az,zB,zA,ag,h9,if_true]
abbrev mh aOb(x i:Int):Kd:=asS (aq0 i) (asS (cq Y i.toNat) (asR aG5 held (match oR Y W x i.toNat with
 | ak3=>.ok
 | none=>.red)) aaY) aaY
abbrev rm aOb(x i:Int):Wd:=Dl Y.rs W ((oR Y W x i.toNat).getD 0) x []
def tq{x i:Int}{gk gb gr gi gp:D1}aNY aOp aOH aPa aR9 aQC(dQ:aIF)
  (hk:gk [ο 0,η i] M=if aq0 i then .ok .bh M else afg)(hb:aAk s alM (an7 [ο 0,η s]=.ok (.bl aiy) M))(hr:Qt C Y gr)
  (DZ:∀M:bb,gi [adM] (M++[amz []])=.ok .bh (M++anL::[ς [],ς []]))(hp:GQ C Y gp) :
  NU C Y o M (tI C.he C.nt C.tr C.yd gk gb gr gi gp [ο 0,η x,η i] M) (mh Y W x i) λ B'=>oN Y.ps.length Y.rs (eh Y.ps) (cq Y) (rm Y W x i) B':=by
 rw[acm tI (NU C Y o M q (mh Y W x i) λ B'=>oN Y.ps.length Y.rs (eh Y.ps) (cq Y) (rm Y W x i) B')];simp only[zC,zD,zE,zF,Nat.zero_add,Nat.reduceAdd,Nat.reduceSub,List.replicate,zG,zH,zI];unfold mh
 rw[ahT ho (aq0 i)]
 ·rw[ho] at hk ⊢
  rw[as9 s hs ho];rw[aAQ aeO];rw[adY (aH (cG .bh M (d7 hk) (adg (aH ?_)))) (ee (! aiy) M (aeU (hb s hs) jr) (f6 jz) (f6 jz))]
  ·rw[ajg jz (acs aiy) aCq e3 (aaI (M:=M) (x:=x) (y:=t9) (z:=none) (w:=none) hi)];rw[aop cm e3]
   rw[ahn (dG (cY ?_)) jz]
   rfl
  ·have jz:b8 aiy:=aCq
   rw[jz,aeO];rw[alU (adg (aH ?_))];rw[DB e1 (aiv [t9,t7,adN,none,none] qm) (ee (agc aiZ) M ?_ (f6 Bg) (f6 Bg))]
   ·rw[aCH];rw[ag,e1,ag,uU h.y5 (k:=ama) rfl,i8];simp
   ·have e3:=aaJ (M:=M) (j:=aul) (y:=t9) (z:=none) (w:=none) hx
    rw[aop cm e3]
    refine dG (cY ?_)
    have:aky abW:=by rw[S.Qr];simpa using Bg
    rw[ab2 this]
   ·rw[d9 RL (YW aiZ) (aaF Bg) hk5 aG8 (by rw[S.Qr,RL]; rfl)]
    rw[hk5];rw[afZ Ξ];rw[aos RM (KR (x:=x) (s:=s) R I S) e2 (hr none o M B x s h hx hs (GR I S)) atE];cases Mq:asw with
    | none =>
     rw[Mq] at e2 RM;rw[anI RM (aH (KI C.rd M (d7 e2) (dG (cY rfl))))]
    | some r =>
     rw[Mq] at e2 RM;rw[RM];rw[apC NQ XW (Dr S Mq) Mz (aih NQ).1]
     obtain⟨s0,w,ew⟩:∃s0 w,aa8=s0::w:=by
      cases e9:aa8 with
      | nil=>rw[afS e9 (dQ r Mz)]
      | cons a b=>rw[amU a b]
     rw[DB GG (Dt I R S NQ (p:=ahQ) (by rw[acu fz ew];simp)) (acX (η r) M (d7 e2))]
     rw[acB];obtain⟨h1,T1,f1⟩:=h.aeu x
     rw[axW em (sq C.tr gi [] [t9,t7,avG s,avG r,none] M=.ok adM (M++anL::[ς [],ς []])) (by
      unfold sq;rw[aE,ag,DZ,ag]) adM _ em];rw[acB];generalize M++anL::[ς [],ς []]=M1 at h1 T1 f1;rw[al6 M2 p1 p2 p3 p4 (hp x _ _ _ (t0 M.length) r s0 w h1 T1 Mz ew (KS R Em Mz) GG (by show air 0;decide)) (aH (anE .bh M2 (by show aw gp [b7,aau,d8] _ M1=_; rw[amm p1])))];rw[akR zt (S.xp I) h5 (p2.aem (x:=x) zt p3) e5 (p2.fld (ρ:=[t9,t7,avG s,avG r,ahD]) (d:=b7) rfl qm)]
     rw[ab4 hlen (B.trains.length≤16) (by
      rw[aiL I.XT S.trains];rw[anh jB this zK this];omega) (fA adM M2 (ο 5) M2 (η x) M2 _ rfl e5 rfl (avT p2.y5 ama (by rw[Ω A4 (apt hlen)])) (fy ⟨_,_,GC Y.rs B r x ⟨ah8 (s0::[]) w,M.length,afU 1,M1.length⟩,rfl,?_,aAZ p4 (aj7 (by rw[akc (p2.lo 5 d6)])),?_⟩))]
     ·have:nv awl ama adM=dP eT (cC B.trains x ⟨ah8 (s0::[]) w,M.length,afU 1,M1.length⟩):=GL eT x ⟨ah8 (s0::[]) w,M.length,afU 1,M1.length⟩ B.trains;show cV C Y none _ (M2.set 5 (.bP (nv awl ama adM))) _;rw[this];rw[agC GC ew h5]
     ·rw[ajN rm Int.toNat_natCast RM Option.getD_some];exact GF R I S NQ (by rw[ab2 ew])
 ·have ho:acs (aq0 i):=awj
  rw[als ho hk (aH (oO C.nt M (d7 hk) (dG (cY rfl))))]
universe zE
universe Sb
universe zE
section
namespace Sb
open PySem L2
section
variable {C:Cs} {Y:gH} {e:acG} {o:adB} {M:bb} {B:Bx} {ρ:fk} {t:TB} {W:Wd} {jl:atw}
noncomputable abbrev lH aOb aNZ:Prop:=oN Y.ps.length Y.rs (eh Y.ps) (cq Y) W B
noncomputable abbrev uW aOb:Prop:=Inv Y.ps.length Y.rs aKB W
abbrev zN aNS aNe:Prop:=∀aOS aP7,aeW->afQ->g [ο 0,η x] M=match aiZ with
 | acv=>.ok ahy M
 | none=>afg
def cV.gone aNm(h:aqG)(hx:x∉aLp):aeW :=
 ⟨h.y0,h.y1,h.y2,h.y3,h.y4,h.y5,h.lo,h.hi,h.yf,λ q hq _=>h.yt q hq (adD (hx (aAp q hq (Option.some.inj e).symm)))⟩
def aaK:qc "is_out" afE (k6 t)=k6 ⟨aBN,t.ob,t.so,t.ao⟩:=aar
def Vn aNm aRO aOp:dJ [none,apF,none] [y,t7,z,w] M=.ok () M:=by
 have h9:=jQ hx.1 hx.2;simp only[dJ,az,zB,zA,ag,h9,if_true]
def aaL aNm{y z:akQ}aOp:dJ [none,apF,none] [y,t7,z] M=.ok () M:=by
 have h9:=jQ hx.1 hx.2;simp only[dJ,az,zB,zA,ag,h9,if_true]
abbrev MC aOb aNs:Kd:=match abW with
 | none=>aaY
 | acv=>asR t.out red (asR awq ok (match atv with
  | none=>.ok
  | ak3=>match ayJ with
   | none=>.red
   | some s=>match apk with
    | ak3=>.ok
    | none=>.red))
abbrev MD aOb aNs:Wd:=match abW with
 | none=>W
 | acv=>if awq then KC W x t else match atv with
  | none=>IF W x aIh
  | ak3=>Dl Y.rs W (((ayJ).bind (oR Y W x)).getD 0) x t.steps
def IJ aPb aNf(h:azR=aeK):au1 k:=by
 rw[ajd cE];split at h
 ·split at h
  ·rename_i b _ hm;cases h;exact aLv
  ·cases h
 ·cases h
def Lc aNm{gt gc gb gp gr ga:D1}aNY aOp aPa aO1 aQC(dQ:aIF)
  aSU aST aUQ(hp:GQ C Y gp)(hr:Qt C Y gr)(hr0:gr [ο 0,η x,.bh] M=YX C.rd M)
  (ha:∀t:TB,az0->aDp->aIb->ga [ο 0,ahy] M=.ok aCR M) :
  NU C Y o M (Ef C.rd C.tr C.yd gt gc gb gp gr ga [ο 0,η x] M) (MC Y W x) λ B'=>lH Y (MD Y W x) B':=by
 rw[acm Ef (NU C Y o M q (MC Y W x) λ B'=>lH Y (MD Y W x) B')];simp only[zC,zD,zE,zF,Nat.zero_add,Nat.reduceAdd,Nat.reduceSub,List.replicate,zG,zH,zI];rw[aaa e0 (ht o M B x h hx) hg (S.Qr x)];unfold MC MD;cases GS:aiZ with
 | none =>
  rw[GS] at e0 hg;rw[Ω hg (aH (KI C.nt M (d7 e0) (dG (cY rfl))))]
 | some t =>
  rw[GS] at e0 hg
  have hg:t6 abW t.tr:=hg
  rw[afG hg];rw[aaa T (avj _ (i7 GS)) TI (I.tr x t.tr hg)];rw[axW tw ap3 (ai5 (I.Qj hg) (ad0 Em)) ahy M (d7 e0)];rw[acB]
  rw[DB e1 (xB (ρ:=[t9,t7,af6,none]) (d:=c7) T.mt rfl rh) (acX (aI (bD t.tr)) M ?_)]
  ·rw[aD,e1,ag,bq,ag];exact wb (i:=0) T.ms (KP TI.ne)
  rw[acB]
  have e2:=xB (ρ:=[t9,t7,af6,aGU]) (d:=c7) T.mt rfl Qo
  rw[DB e3 (xB (ρ:=[t9,t7,af6,aGU]) (d:=c7) T.mt rfl Eu) (aH (ee t.tr.out M (by rw[fq,e2,ag]; rfl) (f6 hk) (f6 hk)))]
  ·have e4:=Vn (M:=M) (y:=t9) (z:=af6) (w:=aGU) hx;rw[aop cm e4];rw[ahn (dG (cY ?_)) hk];rfl
  ·rw[hk,alj];rw[adY atE (ee (! t.tr.ahead.isEmpty) M ?_ (f6 jz) (f6 jz))]
   ·rw[fq,e3,ag];unfold jr;simp only[T.ma];cases t.tr.ahead<;>rfl
   ·have IK:agx t.tr.ahead:=λ e9=>by rw[e9] at jz; cases jz
    rw[aml IK IK]
    obtain⟨s0,w,ew⟩:∃s0 w,aBl (s0::w):=by
     cases e9:t.tr.ahead with
     | nil=>rw[afS e9 IK]
     | cons a b=>rw[amU a b]
    have GG:aky (am1 ahQ):=by
     obtain⟨r,h1⟩:=TI.al (s:=s0) (by rw[af2 ew]);rw[adS hp9 (I.lt h1) (S.locks _ hp9) h1];cases h2:am1 ahQ with
     | none=>rw[h2] at h1; cases h1
     | some _=>rfl
    obtain⟨M2,c1,c2,c3,c4,c5⟩:=hc x o M B t s0 w aGQ T ew GG tw;refine cG .bh M2 (d7 c1) (fy ⟨M2,o,Vi B x ahQ ⟨⟨s0::t.tr.steps,w,t.tr.out⟩,t.ob,t.so,t.ao⟩,rfl,?_,c4,?_⟩)
    ·exact c2.seen (S.xp I) GS c3 rfl
    ·rw[avQ (Qd I S (x:=x) (t:=t.tr) (t':=⟨⟨s0::t.tr.steps,w,t.tr.out⟩,t.ob,t.so,t.ao⟩) (by rw[ew,hk]; rfl)) ew]
   ·have IK:aBl []:=by
     cases e9:t.tr.ahead with
     | nil=>rfl
     | cons a b=>rw[e9] at jz; cases jz
    rw[apB e9 (e9 IK),apB e9 (e9 IK)];rw[DB e5 (aiv [t9,t7,af6,aGU] oP) (ee (aHw).isNone M ?_ (f6 Bg) (f6 Bg))]
    ·rw[agw i0 (agu (aI (bD t.tr)) 0=.ok (η (bD t.tr).1) M) vR i2 (agu (aI (bD t.tr)) 2) (.ok (η (bD t.tr).2.2) M) Go];rw[fq,aY,au,e5,ag];simp only[au,aE,aD,az,bq,zB,zA,ag,i0,i2,hb];rfl
    ·have Bg:YW aHw:=aaF Bg
     rw[anI Bg (xn afE M t.ob (k6 t) (k6 ⟨aBN,t.ob,t.so,t.ao⟩) rfl rfl T.mt (by rw[ah5 3]) aaK (fy ⟨_,o,XQ B x ⟨aBN,t.ob,t.so,t.ao⟩,rfl,?_,aj7 (by rw[akc T.ot]),?_⟩))]
     ·refine((aGQ).own (b4 T.ot)).seen (S.xp I) GS (t':=⟨aBN,t.ob,t.so,t.ao⟩) (aqm (get_set T.mt) (alE T.ot T.os T.ms) (alE T.ot T.oa T.ma)) rfl
     ·have:=KD S (x:=x) (t:=⟨aBN,t.ob,t.so,t.ao⟩);rw[als IK this this]
    ·obtain⟨b,Bg⟩:∃b,aHw=akd:=by
      cases e9:aHw with
      | none=>rw[e9] at Bg; cases Bg
      | some b=>exact akG b
     rw[afG Bg];have ea:=ha t T.mt T.ms TI.ne;cases X2:cE Y (bD t.tr) with
     | none =>
      rw[ax7 X2 ea (oO C.rd M ?_ (cY rfl))];simp[ea,bM,hr0]
     | some s =>
      rw[X2] at ea;rw[akR ess (IJ X2) RM (KR (x:=x) (s:=s) R I S) er (hr none o M B x s h hx ess (GR I S))];rw[afG Option.bind_some];cases Mq:asw with
      | none =>
       rw[Mq] at er RM;rw[anI RM (oO C.rd M ?_ (cY rfl))];simp[ea,bM,er]
      | some r =>
       rw[Mq] at er RM;rw[RM,Option.getD_some];rw[apC NQ XW (Dr S Mq) Mz (aih NQ).1]
       obtain⟨s0,w,ew⟩:∃s0 w,aa8=s0::w:=by
        cases e9:aa8 with
        | nil=>rw[afS e9 (dQ r Mz)]
        | cons a b=>rw[amU a b]
       have GG:=Dt I R S NQ (p:=ahQ) (by rw[acu fz ew];simp);rw[al6 M2 p1 p2 p3 p4 (hp x _ _ _ t r s0 w aGQ T Mz ew (KS R Em Mz) GG tw) (cG .bh M2 (by simp[ea,bM,er]; exact p1) (fy ⟨M2,_,GC Y.rs B r x ⟨⟨s0::t.tr.steps,w,t.tr.out⟩,t.ob,t.so,M.length⟩,rfl,?_,p4,?_⟩))]
       ·have:=p2.seen (S.xp I) GS p3 rfl;rw[agC GC ew this]
       ·exact GF R I S NQ (by rw[ew,hk]; rfl)
abbrev rF aO7:Kd:=match abW with
 | none=>aaY
 | acv=>asR (axv 1/\aBp) held .ok
abbrev qp aO7:Wd:=match abW with
 | none=>W
 | acv=>akI t.steps.length 1 (aav W x) (IF W x avl)
def Qu aM9 aNh(h:aAo)(hn:agx xs):∃y,OW (ο n) [] M=.ok y (al5 n xs.dropLast):=by
 unfold OW Cc;simp only[h]
 have hl:axk (arj 1):=by
  have:xs.length≠0:=adD (hn (List.eq_nil_of_length_eq_zero e));omega
 rw[aeN asA adE]
def wD aNm{gt:D1}aNY aOp aO1 aSU :
  NU C Y o M (vJ C.he C.tr C.yd gt [ο 0,η x] M) (rF W x) λ B'=>lH Y (qp W x) B':=by
 rw[acm vJ (NU C Y o M q (rF W x) λ B'=>lH Y (qp W x) B')];simp only[zC,zD,zE,zF,Nat.zero_add,Nat.reduceAdd,Nat.reduceSub,List.replicate,zG,zH,zI];rw[aaa e0 (ht o M B x h hx) hg (S.Qr x)];unfold rF qp;cases GS:aiZ with
 | none =>
  rw[GS] at e0 hg;rw[Ω hg (aH (KI C.nt M (d7 e0) (dG (cY rfl))))]
 | some t =>
  rw[GS] at e0 hg
  have hg:t6 abW t.tr:=hg
  rw[afG hg];have T:=avj _ (i7 GS)
  rw[DB TI (I.tr x t.tr hg) (acX ahy M (d7 e0))];rw[aA4 e1 (xB (ρ:=[t9,t7,af6]) (d:=c7) T.mt rfl rh) e2 (xB (ρ:=[t9,t7,af6]) (d:=c7) T.mt rfl Qo)]
  rw[ag6 el (∀aPQ aOk,M'[t.so]? = afN->cu [ο t.so] M'=.ok (η xs.length) M') (λ M' xs hm=>by
   unfold cu;simp only[si,hm]) (ee (ag8 (aEw 1/\acs t.tr.out)) M ?_ (f6 hk) (f6 hk))]
  ·rw[jy,br,aD,aY,au,e1,ag,aE,ag,ag,el M _ T.ms,ag,bq,ag,dU,zK];rw[akZ (aEw 1)]
   ·cases h2:t.tr.out<;>simp[h1,h2,e2,jr]
   ·have h3:¬(aae t.tr.steps.length=1):=b6
    simp[h1,h3]
  ·rw[aaa hk (of_decide_eq_true hk) e4 (aaL (M:=M) (y:=t9) (z:=af6) hx)];rw[aop cm e4];rw[ahn (dG (cY ?_)) aKZ];rfl
  ·rw[axe hk hk]
   rw[afZ hk];obtain⟨y,py⟩:=Qu T.ms (aaF TI.ne)
   refine cX (akB (anE y (al5 t.so (aqP).dropLast) ?_))
   ·rw[Ω (ED e1 T.ms (xs:=[]) rfl) py]
   rw[← List.map_dropLast];have h1:=(aGQ).own (v:=ς aDZ) (b9 (b4 T.os))
   have T1:ajO o (ajR t.so aDZ) aGE :=
    aqm (alE T.os T.ot T.mt) (get_set T.ms) (alE T.os T.oa T.ma)
   have f1:apa (ajR t.so aDZ):=aj7 (by rw[akc T.os]);generalize ajR t.so aDZ=M1 at h1 T1 f1;rw[apQ e5 (xB (t:=aGE) (ρ:=[t9,t7,af6]) (d:=c7) T1.mt rfl rh) hl (t.tr.steps.length≠0) (λ e9=>TI.ne (List.eq_nil_of_length_eq_zero e9)) (ee (ag8 (aEw 1)) M1 ?_ (f6 jz) (f6 jz))]
   ·rw[br,aD,aY,au,e5,ag,aE,ag,ag,el M1 _ T1.ms,ag,bq,ag,dU,zK,List.length_dropLast];by_cases h9:aEw 1
    ·simp[h9]
    ·have h8:¬(afh (t.tr.steps.length-1)=0):=b6
     simp[h9,h8];omega
   ·rw[aoe jz jz];rw[ak2 jz];rw[DB e6 (h1.fld (ρ:=[t9,t7,af6]) (d:=b7) rfl qm) (Dn (k:=ama) (y:=η x) ahy e6 h1.y5 rfl rfl (by rw[i8,GS]; rfl) (fy ⟨_,o,aaw B x,rfl,?_,aBs (by rw[aot 5]),TN S⟩))];rw[aeN Dm (agj (h1.aaA x).gone hm (((sL _ _ _).mp hm).1 rfl))]
   ·rw[axe jz jz];rw[asO jz (cX (fy ⟨M1,o,XQ B x aGE,rfl,h1.seen (S.xp I) GS T1 rfl,f1,KD (t:=aGE) S⟩))]
universe zE
universe Sb
universe zE
end
mutual
section
namespace Sb
open PySem L2
section
variable {C:Cs} {Y:gH} {e:acG} {o:adB} {M:bb} {B:Bx} {ρ:fk} {t:TB} {W:Wd}
abbrev uk aO7:Kd:=match abW with
 | none=>aaY
 | acv=>asR t.out red .ok
abbrev oS aO7:Wd:=match abW with
 | none=>W
 | acv=>GI W x t
def pP aNR:qK [amV] M=.ok awA M:=by
 rw[acm qK (q=.ok awA M)];exact bw awA M (by simp[aI,flip,gI]) (aT rfl)
def cV.aex aNm aNY{M':bb}(hl:akO)(h4:agg M' 4 .bP ak5)(hm:∀i,i≠4->(∀r,o i≠.fall r)->M'[i]? = M[i]?)
  (hf:∀q∈B.falls,M'[q.2.ob]? = aBM (IG (uj x q.1 q.2))):cV C Y none o M' (apR falls (axO (uj x))):=by
 have y:∀i≤5,i≠4->M'[i]? = M[i]? := λ i hi h4=>hm i h4 λ r=>by rw[akc (h.lo i hi)]
 refine⟨x9 (y 0 d6 d6) h.y0,x9 (y 1 d6 d6) h.y1,x9 (y 2 d6 d6) h.y2,x9 (y 3 d6 d6) h.y3,?_,x9 (y 5 d6 d6) h.y5,h.lo,aFP i (by rw[abQ hl hi]),azW,NV q hq he⟩
 ·show agg M' 4 .bP (aeV eF (axO (uj x)));rw[h4];unfold encD jB;rw[ab2 List.map_map]
 ·rw[aiN q' wV hq];rw[aab (h.yf q' wV).1 (hf q' wV)]
 ·rw[aev T (h.yt q hq he) g (∀aNt{g:Tg}{v:MO},o i=g->(∀r,g≠.fall r)->g≠.yard->aqp M->aqp M') (λ hi hg hy e=>x9 (hm _ (by rw[aeq (h.gt hi hy)]) (λ r=>by rw[Ω hi (hg r)])) e)];exact aqm (axP T.ot T.mt) (axP T.os T.ms) (axP T.oa T.ma)
def X3{u:FB}:qc "near" .bh (IG u)=IG { u with nr:=none }:=aar
abbrev EE aNS(gu:D1):Prop:=∀aOS aNZ aNL aOo,aeW->att->azs->auF a aro->a≠1 →
 ∃M',gu [ο 0,ο a] M=.ok .bh M'/\cV C Y none o M' (ajt B (al7 w))/\agR/\akO/\∀i,i≠1->M'[i]? = M[i]?
abbrev eFv(q:Nat×FB):PV:=ο q.2.ob
def X4(d:aCv):(agj (awg eF).map q q.2)=d.map eFv:=by rw[apX encD]
def ME aNm{z:akQ}aQc aNY(hn:af0 ajq)
  (k:∀M',cV C Y none o M' (apR falls (axO (uj x)))->agR->P (.ok .bh M')) :
  Fin P (rD (Av aBb) (jt (Av aBb) (gN 3) (bx (aW (agM (cc C.fa "near" d8) f7)) (gF C.fa "near" d8 (dC .bh)) fe)) [t9,t7,z,none] M):=by
 rw[adS hi (TQ h.y4 (aiv [t9,t7,z,none] tU)) X4 hi]
 refine xA h.y4 hi ?_;rw[ajs hz (agg (adA 4 .km ak5) 4 .km ak5) aKk aaM (∀q∈B.falls,∀q'∈B.falls,q.2.ob=q'.2.ob->q=q') (λ q hq q' wV e1=>by
  have e2:q.1=q'.1:=by
   have h1:=(h.yf q hq).1;rw[e1,(h.yf q' wV).1] at h1;exact(Tg.fall.inj h1).symm
  rw[ain azj (cL hn wV)];rw[aoO e2 h2 h1 (Prod.ext e2 (aqU).symm)]) (gR eFv (aiT (∃y,ρ=[t9,t7,z,y]/\akO/\agg M' 4 .km ak5/\(∀i,i≠4->(∀r,o i≠.fall r)->M'[i]? = M[i]?)/\(∀q∈B.falls,q∈pre->M'[q.2.ob]? = aBM (IG (uj x q.1 q.2))) ∧
   ∀q∈B.falls,q∉pre->M'[q.2.ob]? = aBM (IG q.2))) B.falls _ _ hi hz ⟨none,rfl,Ξ,hz,λ i h4 _=>ar (adD aK6),λ q _ hq=>aqV hq,λ q hq _=>akk (by rw[apO (h.yf q hq).1]) (h.yf q hq).2⟩ ?_ ?_)]
 ·rintro pre q post hx ρ M' ⟨y,rfl,l1,z1,g1,p1,p2⟩;refine amh
  rw[avV hq (q∈B.falls) (by rw[ak8]) Vm (q∉pre) hm (by
   rw[hx,List.map_append,List.nodup_append] at hn;exact hn.2.2 q.1 (aja q hm) q.1 Ξ rfl)]
  rw[apQ m1 (p2 q hq Vm) e6 (cc C.fa "near" d8 [t9,t7,z,agA q.2.ob] M'=.ok (fB q.2.nr) M') (by
   rw[acu cc az];rw[ahk];rw[apu ag (mn m1)];rw[ab2 Qq]) (ee (aeY q.2.nr ad5) M' ?_ (f6 hk) (f6 hk))]
  ·show aW (agM (cc C.fa "near" d8) f7) [t9,t7,z,agA q.2.ob] M'=_;rw[br,aD,e6,ag,az];rw[ahk];rw[ag];cases q.2.nr with
   | none=>rw[show fB none=.bh from rfl,aDO]; rfl
   | some y=>rw[show fB anD=η y from rfl,dU]; by_cases e7:y=x<;>simp[e7]
  ·rw[aoe hk hk]
   rw[ab4 h4 (q.2.ob≠4) (by rw[apO (h.yf q hq).1]) (xn .bh M' q.2.ob (IG q.2) (IG { q.2 with nr:=none }) rfl rfl m1 (by rw[ah5 2]) X3 (bL ?_ ⟨_,rfl,by rw[Ω List.length_set l1],?_,?_,?_,?_⟩))]
   ·exact aAr h4 z1
   ·exact aAr h4 z1
   ·intro i hi hr;exact aBS (hr q.1 (by rw[← e];exact(h.yf q hq).1)) (g1 i hi hr)
   ·intro q' wV hm
    by_cases e9:q'=q
    ·subst e9;rw[get_set m1];simp[uj,hk]
    ·rw[Ω (ar (adD (e9 (aaM q hq q' wV e).symm))) (p1 q' wV (by rcases aJm with h9 | h9; exact h9;simp at h9;rw[afS h9 e9]))]
   ·intro q' wV hm;have e9:q'≠q:=adD (hm (d7 e));rw[Ω (ar (adD (e9 (aaM q hq q' wV e).symm))) (p2 q' wV λ h9=>hm (d7 h9))]
  ·rw[DB hk (of_decide_eq_false hk) (cX (bL z1 ⟨_,rfl,l1,z1,g1,?_,λ q' wV hm=>p2 q' wV λ h9=>hm (d7 h9)⟩))];intro q' wV hm
   by_cases e9:q'=q
   ·subst e9;rw[m1];simp[uj,hk]
   ·exact p1 q' wV (by rcases aJm with h9 | h9; exact h9;simp at h9;rw[afS h9 e9])
 ·rintro ρ' M' ⟨y,rfl,l1,z1,g1,p1,p2⟩;rw[ac4 z1 (fy (k _ ?_ ?_))]
  ·refine h.aex (by rw[Ω List.length_set l1]) (get_set z1) (λ i h4 hr=>aBS aK6 (g1 i h4 hr)) azW;exact akk (by rw[apO (h.yf q hq).1]) (p1 q hq hq)
  ·rw[ab8 (by rw[aeh List.length_set l1 ack]) aCb (NV i hi hw)]
   have h4:i≠4:=λ e=>by rw[e,asI 4] at hw; cases hw
   exact aBS aK6 (g1 i h4 λ r=>by rw[akc hw])
def T6 aM9:qc "steps" (ο n) (k6 t)=k6 ⟨t.tr,t.ob,n,t.ao⟩:=aar
def ux aNm{gt gu gd:D1}aNY aOp aPa aO1 aQC aSU(hu:EE C Y gu)(hd:∀s M,gd [amV] M=.ok awA M) :
  NU C Y o M (vK C.fa C.rd C.tr C.yd gt gu gd [ο 0,η x] M) (uk W x) λ B'=>lH Y (oS W x) B':=by
 rw[acm vK (NU C Y o M q (uk W x) λ B'=>lH Y (oS W x) B')];simp only[zC,zD,zE,zF,Nat.zero_add,Nat.reduceAdd,Nat.reduceSub,List.replicate,zG,zH,zI];rw[aaa e0 (ht o M B x h hx) hg (S.Qr x)];unfold uk oS;cases GS:aiZ with
 | none =>
  rw[GS] at e0 hg;rw[Ω hg (aH (KI C.nt M (d7 e0) (dG (cY rfl))))]
 | some t =>
  rw[GS] at e0 hg
  have hg:t6 abW t.tr:=hg
  rw[afG hg];have T:awU:=avj _ (i7 GS);rw[apQ TI (I.tr x t.tr hg) tw ap3 (ai5 (I.Qj hg) (ad0 Em)) (acX ahy M (d7 e0))];rw[acB]
  have e2:=xB (ρ:=[t9,t7,af6,none]) (d:=c7) T.mt rfl Qo
  rw[DB e3 (xB (ρ:=[t9,t7,af6,none]) (d:=c7) T.mt rfl Eu) (aH (ee t.tr.out M (by rw[fq,e2,ag]; rfl) (f6 hk) (f6 hk)))]
  ·have e4:=Vn (M:=M) (y:=t9) (z:=af6) (w:=none) hx;rw[aop cm e4];rw[ahn (dG (cY ?_)) hk];rfl
  ·rw[hk,alj];rw[apI atE hand (af0 aLZ) (by
    by_cases e9:aBl []
    ·rw[af2 e9]
    ·obtain⟨r,k,hr,hk9,_⟩:=TI.ah e9
     have h1:((aa8).drop k |>.map (·.1)).Nodup:=by
      rw[aeN List.map_drop ((R.nd r hr).sublist (aJu _))]
     rw[← hk9,zC,List.nodup_cons] at h1
     exact h1.2) GG (ae8 aLZ (b8 (arD).isSome)) (ahO (by
    rw[aiN s0 hs0 hp];obtain⟨r,h1⟩:=TI.al hs0;rw[adS hp9 (I.lt h1) (S.locks _ hp9) h1];cases h2:am1 ahQ with
    | none=>rw[h2] at h1; cases h1
    | some _=>rfl))]
   have Vo:t.ao≠1:=by rw[apO T.oa]
   obtain⟨M1,u1,u2,u3,u4,u5⟩:=hu o M B t.tr.ahead t.ao h hand GG T.ma Vo;rw[alV (anE .bh M1 ?_)]
   ·rw[aY,au];simp only[az,zB,zA,ag];rw[au,e3];simp only[aE,ag];exact u1
   have T1:ajO o M1 t:=aqm (x9 (u5 _ (by rw[apO T.ot])) T.mt) (x9 (u5 _ (by rw[apO T.os])) T.ms) (x9 (u5 _ Vo) T.ma);rw[akR h1 (u2.but x) h2 (h1.push (ς []) (af8 x)) T2 (T1.push (ς []) (af8 x))];rw[ate f2 (gB o M1 (aE6 o (af8 x)) (M1++[ς []])) gB.push k2 ((M1++aqg)[M1.length]? = akF []) Ξ (xn (ο M1.length) (M1++[ς []]) t.ob (k6 t) (k6 ⟨t.tr,t.ob,t.so,M1.length⟩) (by rw[ajN bS aE ag (lr d6)]) rfl T2.mt (by rw[ah5 3]) KQ acw)];have h3:=h2.own (v:=aHD) (b4 T2.ot)
   have T3:ajO (aE6 o (af8 x)) ((M1++aqg).set t.ob aHD) (aEK [] M1.length) :=
    ⟨T2.ot,T2.os,hJ,get_set T2.mt,alE T2.ot T2.os T2.ms,alE T2.ot hJ k2⟩
   have f3:arT (aE6 o (af8 x)) ((M1++aqg).set t.ob aHD):=x9 (u3.trans f2) (aj7 (by rw[akc T2.ot]));generalize (M1++aqg).set t.ob aHD=M3 at h3 T3 f3
   generalize M1.length=n1 at h3 T3 f3;generalize df o n1 (af8 x)=o1 at h3 T3 f3;rw[aaa h4 (h3.push (ς ((alh).map aI)) (ak0 x)) T4 (T3.push (ς ((alh).map aI)) (ak0 x))];rw[d9 f4 (gB o1 M3 (df o1 M3.length (ak0 x)) (M3++[ς ((alh).map aI)])) gB.push k4 ((M3++atR (alh).map)[M3.length]? = aiV ((alh).map aI)) Ξ]
   have e5:=xB (ρ:=[t9,t7,af6,none]) (d:=c7) T3.mt rfl rh
   rw[ag6 ec (dN true ajw (Pg (cc C.tr "steps" c7)) (gN 0) yH (aw gd [b7]) [t9,t7,af6,none] M3=.ok (ο M3.length) (M3++[ς ((alh).map aI)])) (by
    have ei:Pg (cc C.tr "steps" c7) [t9,t7,af6,none] M3=.ok (t.tr.steps.reverse.map aI,ahU t.so (ς aqP)) M3:=by
     rw[af7 Pg e5 ag];rw[aj3 T3.ms List.map_reverse]
    rw[cj (xs:=t.tr.steps.reverse) (w:=ahU t.so (ς aqP)) (M':=M3) aI (λ _=>true) (λ s=>awA) (aiz [y]) ei T3.ms aiH (ajK s) (by rw[Ω List.length_reverse (ad0 tw)])]
    ·rw[amK,lr (by rw[aeh zK List.length_reverse ay2]),List.map_map];rfl
    ·rw[afF y rfl hρ (aa9 _ rfl adE (d7 hd))]) (xn (ο M3.length) _ t.ob (k6 (aEK [] n1)) (k6 ⟨⟨alh,[],t.tr.out⟩,t.ob,M3.length,n1⟩) ec rfl T4.mt (by rw[ah5 3]) T6 acw)];have h5:=h4.own (v:=amz (k6 ⟨⟨alh,[],t.tr.out⟩,t.ob,M3.length,n1⟩)) (b4 T4.ot)
   have T5:ajO (df o1 M3.length (ak0 x)) ((M3++atR (alh).map).set t.ob (amz (k6 ⟨⟨alh,[],t.tr.out⟩,t.ob,M3.length,n1⟩))) ⟨⟨alh,[],t.tr.out⟩,t.ob,M3.length,n1⟩ :=
    ⟨T4.ot,hJ,T4.oa,get_set T4.mt,alE T4.ot hJ k4,alE T4.ot T4.oa T4.ma⟩
   rw[avK f5 (arT (df o1 M3.length (ak0 x)) ((M3++atR (alh).map).set t.ob (amz (k6 ⟨⟨alh,[],t.tr.out⟩,t.ob,M3.length,n1⟩)))) (x9 (f3.trans f4) (aj7 (by rw[akc T4.ot]))) h6 (h5.seen (S.xp I) GS T5 rfl) (ME h6 (by show af0 ajq; rw[aGF]) λ M' y1 y2=>⟨M',_,Vj B x t.tr.ahead ⟨⟨alh,[],t.tr.out⟩,t.ob,M3.length,n1⟩,rfl,y1,f5.trans y2,Qh I S (agK hk)⟩)]
universe zE
universe Sb
universe zE
section
namespace Sb
open PySem L2
abbrev Cn:aKv->PV
 | none=>.bh
 | akd=>o6 b
abbrev eW:aqb Fl PV:=abg u (f9 [η u.u,gJ u.ns,.bl u.bd])
abbrev cb(t:Tr):PV:=ς [aFI,bF t.ahead,.bl t.out]
abbrev eR:Int->Tr->PV:=abg t (cb t)
abbrev wKs aNC(g:ae6)aPR aPP:ae2 :=
 [(aKz,ai9),(aKj,atn),(aK5,ayS),(aKy,ο 6),(aFH,iM g),(aGw,η t),(aA9,ayz),(axL,ο j),(aBh,ο 9),(aFm,ο 10)]
structure gv aNC aNi aN6 aPP:Prop where
 w6:auF 6 (W.points.map Cn)
 w7:agg M 7 .bP (wKs Y W.green W.now j)
 wl:auF j aM1
 wj:7<j/\j≠9/\j≠10
 w9:M[9]? = avA .bP eW W.falls
 xD:agg M 10 .bP aim
structure jR aPP(M M':bb):Prop where
 len:aKe
 out:∀i,i≠6->i≠7->i≠9->i≠10->i≠j->aoC i->M'[i]? = M[i]?
section
variable {Y:gH} {M:bb} {W:Wd} {j:Nat} {ρ:fk}
def jR.refl:jR j M M:=⟨ack,λ _ _ _ _ _ _ _=>rfl⟩
def jR.trans{M1 M2:bb}(a:jR j M M1)(b:jR j M1 M2):jR j M M2:=⟨Nat.le_trans a.len b.len,λ i h1 h2 h3 h4 h5 h6=>x9 (b.out i h1 h2 h3 h4 h5 (aI6 h6)) (a.out i h1 h2 h3 h4 h5 h6)⟩
def jR.set aM9 aOh(h:n=6\/n=7\/n=9\/n=10\/n=j):aqL (arw o):=⟨Ξ,λ i h1 h2 h3 h4 h5 _=>ar b6⟩
def jR.push aOh:aqL (M++[o]):=⟨Ξ,λ i _ _ _ _ _ hi=>List.getElem?_append_left hi⟩
abbrev wAd(j i:Nat):Prop:=i=6\/i=7\/i=9\/i=10\/i=j
def gv.keep aNl{M':bb}(h1:∀i,wAd j i->aoC i->M'[i]? = M[i]?):agZ M' W :=
 ⟨ayk 6 (b4 rfl) (cU h.w6) h.w6,ayk 7 (b9 (b4 rfl)) (cU h.w7) h.w7,ayk j (b9 (b9 (b9 (b9 rfl)))) (cU h.wl) h.wl,h.wj,ayk 9 (b9 (b9 (b4 rfl))) (cU h.w9) h.w9,ayk 10 (b9 (b9 (b9 (b4 rfl)))) aGO h.xD⟩
def gv.push aNl(o:MO):agZ (M++[o]) W:=h.keep λ i _ hi=>List.getElem?_append_left hi
def gv.aaO aNl(l:atc):agZ (ajR 6 (l.map Cn)) { W with points:=l } :=
 ⟨get_set h.w6,aGx,akk (by rw[atb]) h.wl,h.wj,aLd,aLe⟩
def gv.T7 aNl aQe:agZ (ajR j (l.map bM)) (ajt W l) :=
 ⟨akk (by rw[atb]) h.w6,akk (by rw[atb]) h.w7,get_set h.wl,h.wj,akk (by rw[atb]) h.w9,akk (by rw[atb]) h.xD⟩
def gv.T8 aNl(g:ae6)aPR:agZ (adA 7 .bP (wKs Y g t j)) { W with green:=g,now:=t } :=
 ⟨ado h.w6,get_set h.w7,akk (by rw[atb]) h.wl,h.wj,aLd,aLe⟩
def gv.T9 aNl(f:alH):agZ (adA 9 .bP (encD eW f)) { W with falls:=f } :=
 ⟨ado h.w6,aGx,akk (by rw[atb]) h.wl,h.wj,get_set h.w9,aLe⟩
def gv.Bh aNl(d:atM):agZ (adA 10 .bP (dP eR d)) (aq1 W d) :=
 ⟨ado h.w6,aGx,akk (by rw[atb]) h.wl,h.wj,aLd,get_set h.xD⟩
def gv.aaP aNl aQe:gv Y ((M++al2 (l.map bM)).set 7 (.bP (wKs Y W.green W.now M.length))) (ajt W l) M.length:=by
 rw[aaa hp (ayN (l.map bM)) h10 aGO];exact⟨ado hp.w6,get_set hp.w7,aAr b6 Ξ,⟨b6,b6,b6⟩,ado hp.w9,ado hp.xD⟩
variable {g:ae6} {t:Int}
def oT:aqK aKz=c8 ai9:=aar
def nR:aqK aKj=c8 atn:=aar
def X5:aqK aK5=abS Y.wait:=aar
def GU:aqK aKy=agA 6:=aar
def tV:aqK aFH=c8 (iM g):=aar
def Qv:aqK aGw=abS t:=aar
def qr:aqK aA9=c8 ayz:=aar
def tW:aqK axL=agA j:=aar
def mB:aqK aBh=agA 9:=aar
def fC:aqK aFm=agA 10:=aar
def EF{g':ae6}:nv (wKs Y g t j) aFH (iM g')=wKs Y g' t j:=aar
def aaQ{t':Int}:nv (wKs Y g t j) aGw (η t')=wKs Y g t' j:=aar
def Ua{j':Nat}:nv (wKs Y g t j) axL (ο j')=wKs Y g t j':=aar
def Ub:acL (wKs Y g t j)<lim:=by rw[ayu 10]
def gv.ix aNl aNp aNg{v:PV}(hd:abO=.ok (ο 7) M)(hv:jq (wKs Y W.green W.now j) (du x)=aeJ):amG d (t8 x) ρ=.ok v M:=by
 rw[aD,hd,ag,bq,ag];exact mW h.w7 rfl hv
def gv.put aNl aNg{v:PV}:yI (ο 7) (b5 x) v M=c8 (adA 7 .bP (nv (wKs Y W.green W.now j) (du x) v)):=iG h.w7 rfl Ub
def Qw aM9{x v:PV}aOW aQ4(h:ai2 .km)aUr:aO (ο n) x M=.ok v M:=by
 rw[apH aO si h];simp only[L2.getD,h,hk,Option.map_some,hv]
abbrev uX(d:atM)(p:Int):acG:=aeS (aEQ q (p∈q.2.steps.map λ s=>aae s.1)).map
def yo aNq{p:aza}:∀l:afK,aGb=aKR[0]?
 | []=>rfl
 | a::l=>by
  rw[List.find?_cons,List.filter_cons];cases h:p a with
  | true=>rfl
  | false=>simpa using yo l
def IL(d:atM):(agj (dP eR d).map q (w5 q.1))=d.map (aua q q):=by rw[apX dP]
def Uc{P:aiO}aQb{s:DS}{M1:bb}aOQ aNh{ρ':fk}aO2(hi:auC=.ok (xs,arE .km) M1)(hs:s ρ M=.nx ρ' (aqA .km))(q:P (.nx ρ' M)):P (rD di s ρ M) :=
 xA h hi (by rw[hs];rw[aab (get_set h) (by rw[Ω (oQ h) q])])
def gL{p:Int}aNl(hn:aG7)(hl:asP q (air q.2.steps.length))(PH:aGZ):lE [ο 7,η p] M=.ok aIM M:=by
 rw[acm lE (q=.ok (fB (uX W.trains p)) M)];simp only[zC,zD,zE,zF,Nat.zero_add,Nat.reduceAdd,Nat.reduceSub,List.replicate,zG,zH,zI];rw[aaa e (akr [sT,akq,none] fC) hi (keys_eq h.xD e)];rw[IL] at hi;rw[ate hz (agg (adA 10 .km aim) 10 .km aim) (get_set h.xD) hz7 (agg (adA 10 .km aim) 7 .bP (wKs Y W.green W.now j)) aGx (Uc (ρ':=[sT,akq,aiV ((W.trains.filter (ala (p∈q.2.steps.map λ s=>aae s.1))).map (aua q q))]) h.xD hi ?_ acw)]
 ·rw[Tn,cj (xs:=W.trains) (w:=ahU 10 (.km aim)) (M':=adA 10 .km aim) (aua q q) (ala (p∈q.2.steps.map λ s=>aae s.1)) (aua q q) (aiz [y,akq,sT]) hi hz aiH (axr q hq) (ad0 PH)]
  ·rw[bT (by rw[ak4 (ai5 (List.length_filter_le _ _) (ad0 PH))]),Res.eu];rfl
  ·rw[alk y hρ]
   refine⟨_,rfl,adE,?_,apM⟩;rw[avu (adA 10 .km aim) hz hz7]
   rw[agw v1 (jq aim auf=ajW q.2) (by rw[i8,azj]; rfl) e1 (apZ (aB aO (ahI "trains") b7) (Θ 0) [ar5,akq,sT] M1) (.ok (bF q.2.steps) M1) (by
    have e2:apZ c7 aKn [ar5,akq,sT] M1=.ok (ο 10) M1:=by
     rw[aD,az];rw[ahk];rw[ag,bq,ag];exact mW hz7 rfl fC
    rw[aD,aD,e2,ag,az];rw[ahk];rw[ag,Qw hz (k:=auf) rfl v1,ag,bq,ag];exact auq)]
   have e3:dN false ajw (agk (aiq (aB aO (ahI "trains") b7))) (gN 0) yH akm [ar5,akq,sT] M1=.ok (ς ((q.2.steps.map λ s=>aae s.1).map η)) M1:=by
    rw[cj (xs:=q.2.steps) (w:=none) (M':=M1) aI (λ _=>true) (aua s s) (aiz [y]) (dZ e1) trivial aiH (ajK s) (ad0 (hl q hq))]
    ·rw[amK,bT (by rw[aqh (hl q hq)]),List.map_map];rfl
    ·rw[afF y rfl hρ (aa9 _ rfl adE atG)]
   show aW (ahc (mG false) _) [ar5,akq,sT] M1=_;rw[aCH];rw[ag,e3,ag,vP];rfl
 ·refine bw aIM M ?_ (aT rfl);rw[acu uX yo];rw[xi,fq,az];rw[ahk];cases aJM (ala (p∈q.2.steps.map λ s=>aae s.1)) with
  | nil=>rfl
  | cons q l =>
   simp[jr,fB];exact auq
def pV aOY{gt:D1}{ti:acG}aNl(hp:am9 p)(ht:gt [ο 7,η p] M=.ok (fB ti) M):qS gt [ο 7,η p] M=.ok (.bl (agc (axj p) || ti.isSome)) M:=by
 rw[acm qS (q=.ok (.bl (agc (axj p) || ti.isSome)) M)]
 simp only[zC,zD,zE,zF,Nat.zero_add,Nat.reduceAdd,Nat.reduceSub,List.replicate,zG,zH,zI];rw[DB e (akr [sT,akq] tW) (bw (.bl (agc (axj p) || ti.isSome)) M ?_ (aT rfl))]
 have e2:agu (ο j) p=.ok (aiA (axj p)) M:=wb h.wl (by rw[zJ,List.getD_eq_getElem?_getD,List.getElem?_eq_getElem hp]; rfl);rw[KJ,aD,aD,e,ag];simp only[az,zB,zA,ag,e2,bq];cases axj p with
 | none=>cases ti<;>simp[bM,ht,fB]
 | some r=>simp[bM]
def Ud{l:aeI}aNn:(l.filter λ _=>true).map (arH o o af9 PV.bh (bM o))=(ic r l).map bM:=by
 rw[amK];rw[acu ic List.map_map];refine List.map_congr_left λ o _=>?_;dsimp only[Function.comp];split<;>rfl
def nV aNn aNl(hl:aMq):qU [ο 7,η r] M=.ok .bh ((M++arQ (ahZ).map).set 7 (.bP (wKs Y W.green W.now M.length))):=by
 rw[acm qU (q=.ok .bh ((M++arQ (ahZ).map).set 7 (.bP (wKs Y W.green W.now M.length))))];simp only[zC,zD,zE,zF,Nat.zero_add,Nat.reduceAdd,Nat.reduceSub,List.replicate,zG,zH,zI];rw[aos e (akr [sT,aas] tW) hp (ayN ((ahZ).map bM)) (fA adM (M++arQ (ahZ).map) (ο 7) (M++arQ (ahZ).map) (b5 "locks") (M++arQ (ahZ).map) ((M++arQ (ahZ).map).set 7 (.bP (wKs Y W.green W.now M.length))) ?_ Ξ Ξ (af1 hp.put Ua) atF)];rw[cj (xs:=W.locks) (w:=ahU j (ς aM1)) (M':=M) bM (λ _=>true) (arH o o af9 PV.bh (bM o)) (aiz [y,aas]) (Ei e h.wl) h.wl aiH (ajK o) (ad0 hl)]
 ·rw[Ud,lr (by simp[ic];exact ad0 hl)]
 ·rw[alk y hρ];refine aa9 _ rfl adE (f6 _);simp only[List.set_cons_zero,xi,br,aD,az,zB,zA,ag,bq];cases o with
  | none =>
   rw[show bM none=.bh from rfl,aDO]
   simp
  | some r' =>
   rw[show bM (some r')=η r' from rfl,dU]
   by_cases e2:r'=r
   ·subst e2;simp
   ·have e3:¬(aae r'=r):=b6
    simp[e2,e3]
universe zE
universe Sb
universe zE
end
mutual
section
namespace Sb
open PySem L2
section
variable {Y:gH} {M:bb} {W:Wd} {j:Nat} {ρ:fk}
def wW:∀bs:amb,t6 (bools (bs.map PV.bl)) bs
 | []=>rfl
 | b::bs=>by rw[zC,bools,wW bs]; rfl
abbrev X6 aN9 aNR:Bool:=match p with
 | .pl _ _=>true
 | .pt _ u _=>aea u [s.2.1,s.2.2]
abbrev um aNB aNR:Bool:=X6 (ad3 s.1) s
abbrev qt aN6 aOA:Bool:=agc (axj p) || agc (uX W.trains p)
abbrev heldW aN6 aNL:Bool:=w.any λ s=>(qt W s.1)
def IM aNk aNL aNR aQe:jP r (w++[s]) l=(jP r w l).set s.1 af9:=by rw[acu jP List.foldl_append];rfl
def yp(lM:akb)aPI aNL aNR(l:atc):mV lM vd (w++[s]) l=if lM s.1 then(mV lM vd w l).set s.1 (c8 (vd s)) else mV lM vd w l:=by rw[acu mV List.foldl_append];rfl
def aaR aPo aNp(hd:abO=.ok (.bl b) M):(JC (aaN [(t8 "branch"),(dC afW)]) (aw vD [d])) ρ M=.ok (o6 b) M:=by
 have e:av9 i (∀x,ahf ([arB,afW]:d5) x->agu (ς [arB,afW]) i=.ok x M):=λ i x h=>eX h;simp only[aD,gA,au,aE,bq,ag,aY,hd];rw[aoT,ag,hd,ag,ag,ao6 (vD [.bl b] M) .ok (η (if b then 1 else 0)) M,ag]
 cases b
 ·exact e 0 _ rfl
 ·exact e 1 _ rfl
def qC aNn{gh:D1}aNl aPa aQC(Mz:aEF)aP3(Fs:av3)(X7:axp)(hpn:W.points.length=Y.ps.length)(Ey:aAM)
  (hh:aAk p (am9 p) (gh [ο 7,η p] M=.ok (.bl ape) M)) :
  (b8 (axD W)/\qf gh [ο 7,η r] M=.ok (b5 "held") M) ∨
  (aGd W/\∃M',qf gh [ο 7,η r] M=.ok (b5 "ok") M'/\agZ M' (Ml Y.rs (eh Y.ps) (um Y.ps) W r)/\jR j M M'):=by
 rw[acm qf ((b8 (axD W)/\q=.ok (b5 "held") M)\/(aGd W/\∃M',q=.ok (b5 "ok") M'/\agZ M' (Ml Y.rs (eh Y.ps) (um Y.ps) W r)/\jR j M M'))];simp only[zC,zD,zE,zF,Nat.zero_add,Nat.reduceAdd,Nat.reduceSub,List.replicate,zG,zH,zI];rw[DB e1 (akr [sT,aas,none,none,none] qr) (acX ahl M ?_)]
 ·rw[aD,aD,e1];simp[we hr]
 rw[acB];rw[ag6 Mx (aho aa8 (aAv s.1)) (λ s sd=>R.lt r hr s.1 (aja s sd)) (ee (axD W) M ?_ (f6 hk) (f6 hk))]
 ·have e2:dN false (ars 0) (iL c7) (gN 0) yH (aw gh [f7,akm]) [sT,aas,akW,none,none] M=.ok (ς ((agj (aa8).map s (qt W s.1)).map .bl)) M:=by
   rw[cj (xs:=aa8) (w:=none) (M':=M) aI (λ _=>true) (λ s=>.bl (qt W s.1)) (aiz [y,sT]) (dZ Ξ) trivial aiH (axr s hs) (ad0 Fs)]
   ·rw[amK,bZ (aaF Fs),List.map_map];rfl
   ·rw[alk y hρ];refine aa9 _ rfl adE (f6 _);have:=hh s.1 (by rw[Ω X7 (Mx s hs)]);simp[aI];simpa using this
  rw[fq,aY,au,e2];rw[akT aE];unfold S8
  simp only[iX,Option.bind_some,wW,ag,jr,Ag];rw[atd heldW List.any_map]
 ·exact ajB (b5 "held") M (aT (awt hk))
 rw[alU (akB (gR aI (λ pre ρ M1=>∃y z,ρ=[sT,aas,akW,y,z]/\agZ M1 (avg W (alx r pre) points (mV (eh Y.ps) (um Y.ps) pre W.points))/\jR j M M1)
  aa8 none M (dZ Ξ) trivial (ae7 none none h jR.refl) ?_ ?_))]
 ·rintro pre s post hx ρ M1 ⟨y,z,rfl,h1,f1⟩;rw[aoJ];have NP:=Mx s (by rw[ak8])
  rw[DB e2 (amI [sT,aas,akW,anO,z] tW) (aH (fA (η r) M1 (ο j) M1 (η s.1) M1 (M1.set j (ς ((alx r (agT s)).map bM))) Ξ e2 atG ?_ acw))]
  ·rw[mM h1.wl (by simp;rw[aeh tP X7 NP]),IM,List.map_set];rfl
  rw[aev h2 (h1.T7 (alx r (agT s))) f2 (aqL (M1.set j (ς ((alx r (agT s)).map bM)))) ats];generalize M1.set j (ς ((alx r (agT s)).map bM))=M2 at h2 f2;rw[DB e3 (ase [sT,aas,akW,anO,z] oT) (aX (axM s.1).enc M2 ?_ ?_)]
  ·rw[aD,e3];simp only[aD,az,bq,zB,zA,ag];rw[ahG (aO amV (η 0) M2) (.ok (η s.1) M2) vR,ag,vS NP]
  rw[aeZ (ee (eh Y.ps s.1) M2 ?_ (f6 jz) (f6 jz))]
  ·unfold eh;cases hp:axM s.1<;>simp[Pc.enc,sP]
  ·rw[DB e4 (ase [sT,aas,akW,anO,some (axM s.1).enc] GU) (fA (o6 (um Y.ps s)) M2 (ο 6) M2 (η s.1) M2 (M2.set 6 (ς ((mV (eh Y.ps) (um Y.ps) (agT s) W.points).map Cn))) ?_ e4 atG ?_ (agV (amD _ (h2.aaO _) aHe)))]
   ·unfold eh at jz;unfold um;cases hp:axM s.1 with
    | pl a b=>rw[hp] at jz; cases jz
    | pt t u b =>
     rw[ab4 e (aBI (η u) (f9 ([s.2.1,s.2.2].map η)) M2=_) Gh (aaR ?_)];rw[aD,aD];simp only[az,bq,xj,oH,lZ,zB,zA,ag,Pc.enc,Go];rw[KO,ag,e];rfl
   ·rw[mM h2.w6 (by simp;rw[aeh uT hpn NP]),yp,if_pos jz,List.map_set];rfl
  ·rw[alU (agV (amD _ ?_ f2))];rw[aeh yp (al1 (by rw[aD6 jz])) h2]
 ·rintro ρ' M1 ⟨y,z,rfl,h1,f1⟩;rw[DB e2 (amI [sT,aas,akW,y,z] tV) (akB (fA (iM (avB [r])) M1 (ο 7) M1 (b5 "green") M1 (M1.set 7 (.bP (wKs Y (avB [r]) W.now j))) ?_ Ξ Ξ (af1 h1.put EF) (ayr _ (b9 (amD hk (h1.T8 _ _) ats)))))];rw[aD,e2];simp only[gA,au,aE,az,zB,zA,ag];rw[aoT,ag,qa,bT (by simp[lim];omega)];simp
universe zE
universe Sb
universe zE
section
namespace Sb
open PySem L2
section
variable {Y:gH} {M:bb} {W:Wd} {j:Nat} {ρ:fk}
def Qx aQ5 aQB:gT 2 (dH (gN a) (aqu b)) (f9 [x,y]) ρ=ab1 (ρ.set a ad5).set b anD:=rfl
def aaS aNL:arx an6:=by
 intro y hy;obtain⟨s,_,rfl⟩:=List.mem_map.mp hy;intro z hz;rw[aiC hz];rcases hz with rfl | rfl | rfl<;>exact jO _
def eq_nil aN5 aOu:dX neg an6 (ς []) M=.ok (.bl (ail (aeY w []) (aeY w []))) M :=
 sI (aaS w) (aaS []) (by cases w<;>simp[bF])
abbrev uY aNC aOg(t:Tr):Bool:=aif anG (! t.out && (aif (ams=(cy Y.ss s).1) (ag8 (aij≠(cy Y.ss s).2))))
abbrev dg aNC(d:atM)aOg:abE:=aeS (d.filter λ q=>uY Y s q.2).map
def GV aNd:∀l:abE,b8 (PV.rN n (l.map η))
 | []=>rfl
 | x::l=>by rw[zC,PV.rN,GV n l]; rfl
def pW aPS aNl(hs:alM)(hn:aG7)(dQ:asP q (agx q.2.steps))(PH:aGZ):trunc qV [ο 7,η s] M=.ok (gJ (dg Y W.trains s)) M:=by
 refine pN.trunc ?_ (GV _ _)
 rw[acm qV (∃G,q=.ok (gJ (dg Y W.trains s)) (M++G))];simp only[zC,zD,zE,zF,Nat.zero_add,Nat.reduceAdd,Nat.reduceSub,List.replicate,zG,zH,zI];rw[DB e1 (h.ix (ρ:=[sT,adN,none,none,none,none,none,none]) (d:=b7) rfl nR) (aH (Df awf [sT,adN,anz,anH,none,none,none,none] M ?_ Qx acw))]
 ·rw[aD,e1];simp[AQ hs]
 rw[aga adM (M++[ς []]) Ξ]
 rw[acB];have hp:=ayN []
 rw[DB e2 (hp.ix (ρ:=[sT,adN,anz,anH,ahD,none,none,none]) (d:=b7) rfl fC) (aH ?_)];rw[adS hi (keys_eq hp.xD e2) IL hi];rw[amn (xA hp.xD hi ?_) h10 aGO];rw[alC zs (∀f:d5,agg ((M++al2 f).set 10 (.km aim)) 10 .km aim) f (get_set (ayN f).xD) z7 (∀f:d5,agg ((M++al2 f).set 10 (.km aim)) 7 .bP (wKs Y W.green W.now j)) (λ f=>ado (ayN f).w7)];rw[ajs zl (∀f:d5,((M++al2 f).set 10 (.km aim))[M.length]? = akF f) (λ f=>aAr b6 Ξ) zu (∀f f':d5,((M++al2 f).set 10 (.km aim)).set M.length (ς f')=(M++al2 f').set 10 (.km aim)) (λ f f'=>by
  rw[af2 (List.set_comm _ _ b6)]) (gR (λ q:Int×Tr=>PV.int q.1) (aiT (∃a b c,ρ=[sT,adN,anz,anH,ahD,a,b,c]/\M'=(M++al2 ((dg Y pre s).map η)).set 10 (.km aim))) W.trains _ _ hi (zs []) aLl ?_ ?_)]
 ·rintro pre q post hx ρ M' ⟨a,b,c,rfl,rfl⟩;rw[aoJ]
  rw[agw hq (q∈W.trains) (by rw[ak8]) v1 (jq aim auf) (ajW q.2) (by rw[i8,azj]; rfl)]
  rw[aaa z1 (zs ((dg Y pre s).map η)) z2 (z7 ((dg Y pre s).map η))];rw[aaa z3 (zl ((dg Y pre s).map η)) z4 (zu ((dg Y pre s).map η))]
  rw[agw Ue (air (acL (dg Y pre s))) (by
   rw[acu dg zK];refine aq2 (List.length_filter_le _ _) ?_;rw[hx,List.length_append] at PH;omega) wg (dg Y (agT q) s) (dg Y pre s++(if uY Y s q.2 then[q.1] else[])) (by
   rw[ajN dg List.filter_append List.map_append List.filter_cons];split<;>rfl)]
  rw[wg];generalize (M++al2 ((dg Y pre s).map η)).set 10 (.km aim)=M1 at z1 z2 z3 z4
  rw[axW et (∀ ρ:fk,axQ 0->apZ b7 aKn ρ M1=.ok (ο 10) M1) (λ ρ h0=>by
   rw[akP aD az h0];rw[ag,bq,ag];exact mW z2 rfl fC) (cb q.2) M1 ?_]
  ·rw[aD,et _ rfl,ag,az];rw[ahk];rw[Ω ag (Qw z1 (k:=auf) rfl v1)]
  rw[acB];rw[agw i0 (aO (cb q.2) (η 0) M1=.ok (bF q.2.steps) M1) auq i1 (aO (cb q.2) (η 1) M1) (.ok (bF q.2.ahead) M1) (eX (i:=1) rfl)];rw[agw i2 (aO (cb q.2) (η 2) M1=.ok (.bl q.2.out) M1) (eX (i:=2) rfl) i3 (aO (bF q.2.steps) (η 0) M1) (.ok aIE M1) (eX (i:=0) (KP (dQ q hq)))];rw[ajs i4 (aO aIE (η 2) M1=.ok (η (bD q.2).2.2) M1) Go i5 (aO aIE (η 0) M1=.ok (η (bD q.2).1) M1) vR (acX aIE M1 ?_)]
  ·simp only[aD,az,bq,zB,zA,ag,i0,i3]
  rw[aeZ (ee (uY Y s q.2) M1 ?_ (f6 hk) (f6 hk))]
  ·rw[alC el (∀ ρ:fk,azn M1=.ok (ς []) M1) ρ (by rw[ajN bS aE ag (bT d6)]) hbt (∀b:Bool,Res.opt (jr M1 (.bl b)) M1=.ok b M1) (λ b=>rfl)];simp only[jy,br,tL,fq,aD,az,bq,zB,zA,ag,i1,i2,i4,i5,el,eq_nil,dU,hbt];unfold uY;rw[akZ (q.2.ahead=[])]
   ·cases h2:q.2.out
    ·by_cases h3:(bD q.2).2.2=(cy Y.ss s).1
     ·by_cases h4:(bD q.2).1=(cy Y.ss s).2
      ·simp[h1,h3,h4]
      ·have h5:¬(aae (bD q.2).1=aae (cy Y.ss s).2):=adD (h4 aEE);simp[h1,h3,h4,h5]
     ·simp[h1,h3]
    ·simp[h1]
   ·simp[h1]
  ·rw[ak2 hk]
   rw[ab4 em (gD fm aau [ae 5] [sT,adN,anz,anH,ahD,ar5,ajW q.2,aAs (bD q.2)] M1=.ok .bh (M1.set M.length (ς ((dg Y pre s).map η++[η q.1])))) (by
    rw[ED rfl z3 (xs:=[η q.1]) rfl];unfold fm Cc;rw[aj3 z3 (af5 (by rw[ak4 (apt Ue)]))]) (cG .bh _ em ?_)];rw[z4];rw[ahn (bL (zs _) (aa9 _ _ _ ?_)) List.map_append]
   rfl
  ·rw[hk,alj,zI];have:=z4 ((dg Y pre s).map η);rw[alU (bL z1 (aa9 _ _ _ ?_))];rw[← this,Ba z3]
 ·rintro ρ' M' ⟨a,b,c,rfl,rfl⟩;rw[ac4 (zs _) acw];rw[anI (oQ (ayN ((dg Y W.trains s).map η)).xD) (bw (gJ (dg Y W.trains s)) (M++[.gone]) ?_ (aT (akG [.gone])))];simp[D3,D4]
universe zE
universe Sb
universe zE
section
namespace Sb
open PySem L2
section
variable {Y:gH} {M:bb} {W:Wd} {j:Nat} {ρ:fk}
def Ug aN5 aNn{ns:ae6}:mG neg (η r) (iM ns) M=.ok (.bl (ail (aea r ns) (aea r ns))) M :=
 ph (enc:=alX) (λ a=>jO _) (λ a b e=>by cases e; rfl) (a:=r) (as:=ns) rfl
def kE aNn{gn gb gf:D1}aNl aP3(hs:aGS)(Ey:aAM)(NT:aAN)
  (hn:∀M W' aOg,agZ M W'->W'.trains=W.trains->alM->gn [ο 7,η s] M=.ok (gJ (dg Y W.trains s)) M)
  aUJ
  (hf:∀M W,ab3->axp->gf [ο 7,η r] M=.ok .bh ((M++arQ (ahZ).map).set 7 (.bP (wKs Y W.green W.now M.length))))
  (X7:axp) :
  (ar7/\ka gn gb gf [ο 7,η r] M=.ok (b5 "none") M) ∨
  (aks/\((aey (akl 0 (!(dg Y W.trains aaE).isEmpty || agQ))/\∃M',ka gn gb gf [ο 7,η r] M=.ok (b5 "ok") M'/\agZ M' (AZ W r ⟨atz,dg Y W.trains aaE,agQ⟩)/\jR j M M') ∨
   (aiI (akl 0 (!(dg Y W.trains aaE).isEmpty || agQ))/\∃M',ka gn gb gf [ο 7,η r] M=.ok (b5 "ok") M'/\gv Y M' (rf W r) M.length/\jR j M M'))):=by
 rw[acm ka ((ar7/\q=.ok (b5 "none") M) ∨
  (aks/\((aey (akl 0 (!(dg Y W.trains aaE).isEmpty || agQ))/\∃M',q=.ok (b5 "ok") M'/\agZ M' (AZ W r ⟨atz,dg Y W.trains aaE,agQ⟩)/\jR j M M') ∨
   (aiI (akl 0 (!(dg Y W.trains aaE).isEmpty || agQ))/\∃M',q=.ok (b5 "ok") M'/\gv Y M' (rf W r) M.length/\jR j M M'))))]
 simp only[zC,zD,zE,zF,Nat.zero_add,Nat.reduceAdd,Nat.reduceSub,List.replicate,zG,zH,zI];rw[DB e1 (h.ix (ρ:=[sT,aas,none,none,none,none]) (d:=b7) rfl tV) (aH (auM (aea r W.green)))]
 ·rw[br,aD,show ae 1 [sT,aas,none,none,none,none] M=.ok (η r) M from rfl,ag,e1,ag,Ug]
  rfl
 ·exact ajB (b5 "none") M (aT (awt aiS))
 rw[ab4 hk aks aiS (cX (akB (fA (iM (W.green.filter (adR x (x≠r)))) M (ο 7) M (b5 "green") M (adA 7 .bP (wKs Y (W.green.filter (adR x (x≠r))) W.now j)) ?_ Ξ Ξ (af1 h.put EF) acw)))]
 ·rw[cj (xs:=W.green) (w:=none) (M':=M) alX (aiY x x r) alX (aiz [y,aas]) (dZ e1) trivial aiH (ajK x) (ad0 Ey)]
  ·exact bT (by rw[ak4 (ai5 (List.length_filter_le _ _) (ad0 Ey))])
  ·rw[alk y hρ]
   refine⟨_,rfl,adE,?_,apM⟩;simp only[List.set_cons_zero,br,aD,az,zB,zA,ag,dU]
   by_cases e2:x=r
   ·subst e2;simp
   ·have e3:¬(aDc=r):=b6
    simp[e2,e3]
 have h1:=h.T8 (W.green.filter (adR x (x≠r))) W.now
 rw[d9 f1 (aqL (adA 7 .bP (wKs Y (W.green.filter (adR x (x≠r))) W.now j))) al0 l1 (aBr (adA 7 .bP (wKs Y (W.green.filter (adR x (x≠r))) W.now j))) List.length_set];generalize adA 7 .bP (wKs Y (W.green.filter (adR x (x≠r))) W.now j)=M1 at h1 f1 l1
 have ers:∀(ρ:fk),axQ 0->ajx 1 aas->apZ (amO aq8) (Θ 0) ρ M1=.ok (η aaE) M1:=λ ρ h0 h1'=>by
  have:=h1.ix (ρ:=ρ) (d:=b7) (aoU h0) qr;rw[aD,aD,this,ag,az,h1'];simp[we hr]
 rw[DB e2 (amI [sT,aas,none,none,none,none] nR) (aH (Df (cZ (cy Y.ss aaE)) [sT,aas,aB3,aCh,none,none] M1 ?_ Qx acw))]
 ·rw[aD,e2,ag,ers _ rfl rfl,ag,AQ hs]
 rw[aga (gJ (dg Y W.trains aaE)) M1 ?_]
 ·rw[aY,au,az];simp only[zB,zA,ag];rw[au,ers _ rfl rfl];simp[hn M1 _ aaE h1 rfl hs]
 rw[acB]
 rw[DB e3 (amI [sT,aas,aB3,aCh,aG0,none] oT) (acX (.bl agQ) M1 ?_)]
 ·rw[aD,aY,au,e3];simp only[au,aE,az,zB,zA,ag,bq,hb];unfold cq;cases akJ (cy Y.ss aaE).2 (cy Y.ss aaE).1<;>rfl
 rw[aA4 e4 (amI [sT,aas,aB3,aCh,aG0,alB .bl agQ] X5) e5 (amI [sT,aas,aB3,aCh,aG0,alB .bl agQ] Qv)];rw[DB e6 (amI [sT,aas,aB3,aCh,aG0,alB .bl agQ] mB) (aH (ee (akl 0 (!(dg Y W.trains aaE).isEmpty || agQ)) M1 ?_ (f6 jz) (f6 jz)))]
 ·rw[jy,br,aD,e4];simp only[ag,bq,Ql,sH,fq,az,zB,zA,Ag]
  rw[alC hbt (∀l:abE,jr M1 (gJ l)=c8 (! l.isEmpty)) l (by cases l<;>rfl) hb2 (∀b:Bool,jr M1 (.bl b)=akd) (λ b=>rfl)];cases Ue:(dg Y W.trains aaE).isEmpty<;>by_cases hwt:0<Y.wait<;>simp[hwt,hbt,hb2,Ue]
 ·refine fA (eW r ⟨atz,dg Y W.trains aaE,agQ⟩) M1 (ο 9) M1 (η r) M1 (M1.set 9 (.bP (aeV eW (cC W.falls r ⟨atz,dg Y W.trains aaE,agQ⟩)))) ?_ e6 Ξ ?_ (ayr _ (ald hk (b4 (amD jz (h1.T9 _) ats))))
  ·rw[pf,au,aD,e5,ag,e4,ag,ao6 (dn false (η W.now) ayS M1) .ok (η atz) M1]
   simp[eW]
  ·rw[aBy h1.w9 r (by rw[Ω sO (apt NT)])]
   congr 3
   exact sN eW r _ _
 ·rw[DB e7 (hf M1 _ h1 X7) (cG .bh _ (by rw[amm e7]) (ayr _ (ald hk (b9 (amD jz ?_ (aAZ jR.push al0))))))];have:=h1.aaP ahZ;rw[als l1 this this]
def pX{gf:D1}aNl(zt:aG6)(NT:aAN)(X7:axp)
  (hf:∀M W j aNk,ab3->axp->gf [ο 7,η r] M=.ok .bh ((M++arQ (ahZ).map).set 7 (.bP (wKs Y W.green W.now M.length)))) :
  ∃M' j',qW gf [ο 7] M=.ok (b5 "ok") M'/\gv Y M' (rE W) j'/\aIg/\(j'=j\/axE j'):=by
 rw[acm qW (∃M' j',q=.ok (b5 "ok") M'/\gv Y M' (rE W) j'/\aIg/\(j'=j\/axE j'))];simp only[zC,zD,zE,zF,Nat.zero_add,Nat.reduceAdd,Nat.reduceSub,List.replicate,zG,zH,zI];rw[DB e1 (h.ix (ρ:=[sT,none]) (d:=b7) rfl Qv) (aH (fA (η amJ) M (ο 7) M (b5 "now") M (adA 7 .bP (wKs Y W.green amJ j)) ?_ Ξ Ξ (af1 h.put aaQ) acw))]
 ·rw[aD,e1,ag,bq,ag]; rfl
 rw[aev h1 (h.T8 W.green amJ) f1 (aqL (adA 7 .bP (wKs Y W.green amJ j))) al0]
 rw[avu (adA 7 .bP (wKs Y W.green amJ j)) h1 f1];have e2:=amI [sT,none] mB
 rw[ag6 ei (aw (m9 false) [alu] [sT,none] M1=.ok (ς ((ah6).map aAc)) M1) (by
  rw[aY,au,e2]
  rw[akT aE]
  rw[aoh m9 (fc h1.w9)]
  have e3:(encD eW W.falls).map (λ q=>w5 q.1)=(ah6).map aAc:=by
   rw[af7 encD List.map_map List.map_map];rfl
  rw[e3,bT (by rw[aBu NT])]) (gR aAc (λ pre ρ M2=>∃y j2,ρ=[sT,y]/\gv Y M2 (pre.foldl dD (v5 W)) j2/\jR j M M2/\(j2=j\/axE j2)/\(pre.foldl dD (v5 W)).locks.length=Y.ps.length) ah6 none M1 (dZ ei) trivial ⟨none,j,rfl,h1,f1,b4 rfl,X7⟩ ?_ ?_)]
 ·rintro pre r post hx ρ M2 ⟨y,j2,rfl,h2,f2,o2,l2⟩;rw[aoJ]
  have Vm:=EA zt hx;rw[d9 EB (aG (pre.foldl dD (v5 W)).falls r=ar1) (Dq pre _ Vm) X0 (r∈ah6) (by rw[ak8])]
  rw[auZ u RK ((mem_keys _ _).mp X0)]
  have Qp:(pre.foldl dD (v5 W)).now=amJ:=by rw[ab2 xC]
  rw[aaa e3 (ase [sT,aas] mB) e4 (ase [sT,aas] Qv)]
  rw[agw e5 (apZ (au7 alu) (Θ 0) [sT,aas] M2=.ok (η u.u) M2) (by
   rw[aD,aD,e3,ag];simp only[az,zB,zA,ag];rw[mW h2.w9 (k:=awI) (v:=aAj) rfl (by rw[gq,EB,RK]; rfl)];simp[eW]) wg ((agT r).foldl dD (v5 W)) (dD (pre.foldl dD (v5 W)) r) (by rw[List.foldl_append];rfl)]
  have MA:yk (pre.foldl dD (v5 W)).falls (pre.foldl dD (v5 W)).now r=aqo u.u amJ:=by
   rw[ajN yk EB RK Qp]
  generalize pre.foldl dD (v5 W)=W2 at *;refine ee (aqo u.u amJ) M2 ?_ (f6 hk) (f6 hk)
  ·rw[br,aD,e5,ag,e4,ag,Qp,A6];rfl
  ·rw[ahn (aH (Dn (k:=awI) (y:=η r) aAj e3 h2.w9 Ξ rfl (by rw[gq,EB,RK]; rfl) acw)) ql];have h3:=h2.T9 (cD W2.falls r)
   rw[d9 f3 (aqL (M2.set 9 (.bP (aeV eW (cD W2.falls r))))) aHe l3 (acL (M2.set 9 (.bP (aeV eW (cD W2.falls r))))=M2.length) List.length_set];generalize M2.set 9 (.bP (aeV eW (cD W2.falls r)))=M3 at h3 f3 l3;rw[DB e7 (hf M3 _ _ r h3 l2) (cG .bh _ (by rw[amm e7]) (agV ⟨_,M3.length,rfl,?_,x9 (f3.trans jR.push) al0,b9 f3.len,?_⟩))]
   ·rw[wg];rw[agC dD (af5 aKA) (h3.aaP _)]
   ·rw[wg];rw[acu dD (af5 aKA)];simpa[ic] using l2
  ·rw[alU (agV ⟨_,j2,rfl,?_,f2,o2,?_⟩)]
   ·rw[wg];rw[agC dD (apB hc (by rw[adS h9 (MA.symm.trans hc) hk h9]; cases h9)) h2]
   ·rw[wg];rw[agC dD (apB hc (by rw[adS h9 (MA.symm.trans hc) hk h9]; cases h9)) l2]
 ·rintro ρ' M2 ⟨y,j2,rfl,h2,f2,o2,l2⟩;exact ays M2 M2 j2 h2 f2 o2
def nF aOY{gh:D1}aNl(hp:amC)(X7:axp)(IA:awK->∃b,anK W.points p b)
  (hh:gh [ο 7,η p] M=.ok (.bl ape) M) :
  (aGc p/\kY gh [ο 7,η p] M=.ok (b5 "none") M) ∨
  (awK/\((aey ape/\kY gh [ο 7,η p] M=.ok (b5 "held") M) ∨
   (aiI ape/\∃M',kY gh [ο 7,η p] M=.ok (b5 "ok") M'/\agZ M' (rg W p)/\jR j M M'))):=by
 rw[acm kY ((aGc p/\q=.ok (b5 "none") M) ∨
  (awK/\((aey ape/\q=.ok (b5 "held") M) ∨
   (aiI ape/\∃M',q=.ok (b5 "ok") M'/\agZ M' (rg W p)/\jR j M M'))))]
 simp only[zC,zD,zE,zF,Nat.zero_add,Nat.reduceAdd,Nat.reduceSub,List.replicate,zG,zH,zI];rw[DB e1 (h.ix (ρ:=[sT,akq]) (d:=b7) rfl oT) (aH (auM (eh Y.ps p)))]
 ·rw[br,aD,aD,aD,e1];simp only[az,zB,zA,ag,vS hp,bq];unfold eh;cases hp:axM p<;>simp[Pc.enc,sP]
 ·exact ajB (b5 "none") M (aT (awt aiS))
 rw[ab4 hk awK aiS (cX (akB (ee ape M ?_ (f6 jz) (f6 jz))))]
 ·simp[hh,jr]
 ·exact ajB (b5 "held") M (aT (ald hk (awt jz)))
 rw[anc b hb (IA hk) hpt (p<W.points.length) (List.getElem?_eq_some_iff.mp hb).1];have h1:=h.push (.bP [(ave,arB),(avm,afW)]);rw[d9 f1 (aqL (M++[.bP [(ave,arB),(avm,afW)]])) jR.push g1 ((M++aqn [(ave,arB),(avm,afW)])[M.length]? = aa2 .bP [(ave,arB),(avm,afW)]) Ξ]
 have ed:Cf [("straight",(t8 "branch")),("branch",(dC afW))] [sT,akq] M=.ok adM (M++aqn [(ave,arB),(avm,afW)]):=by
  rw[aDP]
 generalize M++aqn [(ave,arB),(avm,afW)]=M1 at h1 f1 g1 ed;rw[apQ e2 (amI [sT,akq] GU) e3 (aO (ο 6) (η p) M1=.ok (o6 b) M1) (wb h1.w6 (by rw[zJ,hb]; rfl)) (cX (akB (fA (o6 (! b)) M1 (ο 6) M1 (η p) M1 (M1.set 6 (ς ((aEI (some ! b)).map Cn))) ?_ e2 Ξ (by rw[mM h1.w6 (aaF hpt),List.map_set];rfl) (ayr _ (ald hk (b9 (amD jz ?_ ats)))))))]
 ·rw[aD,ed,ag,aD,e2,ag];simp only[az,zB,zA,ag,e3];cases b
  ·exact avS g1 k avm aar
  ·exact avS g1 k ave aar
 ·have:=h1.aaO (aEI (some ! b));rw[af7 rg List.getD_eq_getElem?_getD hb];rw[aqc]
universe zE
universe Sb
universe zE
end
mutual
section
namespace Sb
open PySem L2
section
variable {Y:gH} {M:bb} {W:Wd} {j:Nat} {ρ:fk}
abbrev KU aN8 aP6:Wd:={ W with green:=W.green.filter (aiY y y r),falls:=aue,locks:=W.locks.set ((afn).headD (0,0,0)).1 none }
abbrev ua aO7 aNk:Fl:=(ar1).getD (ah8 0 [x])
def IP aRF:uV Y W x s r=(aif (aaE=s) ((ua W x r).bd || aea x (ua W x r).ns)):=by
 unfold uV ua;cases ar1<;>simp
def Qy(d:alH):(agj (awg eW).map q (w5 q.1))=(ai6).map alX:=by
 rw[af7 encD List.map_map List.map_map];rfl
def Uh aN5 aNm aOV:mG neg (η x) (gJ ns) M=.ok (.bl (ail (aea x ns) (aea x ns))) M:=vP
def MF{ρ:fk}aNf aNn{g:ae6}aNp(hd:abO=.ok (iM g) M)(hc:D7 (aoM aeK) ρ=aoM aas)(hl:apv g.length) :
  dN false (aoM aeK) (iL d) (gN 0) (ajf b7 f7) b7 ρ M=.ok (iM (g.filter (aiY x x r))) M:=by
 rw[cj (xs:=g) (w:=none) (M':=M) alX (aiY x x r) alX (aiz [y,aas]) (dZ hd) trivial ⟨none,hc⟩ (ajK x) (ad0 hl)]
 ·exact bT (by rw[ak4 (ai5 (List.length_filter_le _ _) (ad0 hl))])
 ·rw[alk y hρ]
  refine⟨_,rfl,adE,?_,apM⟩;simp only[List.set_cons_zero,br,aD,az,zB,zA,ag,dU]
  by_cases e2:x=r
  ·subst e2;simp
  ·have e3:¬(aDc=r):=adD (e2 aEE);simp[e2,e3]
def nW aNm aPS aNl(NQ:∀r,ah2->adt)(dQ:aIF)(Fs:∀r<Y.rs.length,av3)(Ey:aAM)(NT:aAN)
  (GG:∀r,ah2->am9 ((aa8).headD (0,0,0)).1) :
  match apk with
  | none=>oA [ο 7,η s,η x] M=.ok .bh M
  | af9=>∃M',oA [ο 7,η s,η x] M=.ok ahl M'/\agZ M' (KU Y.rs W r)/\jR j M M':=by
 rw[acm oA (match apk with | none=>q=.ok .bh M | af9=>∃M',q=.ok ahl M'/\agZ M' (KU Y.rs W r)/\jR j M M')]
 simp only[zC,zD,zE,zF,Nat.zero_add,Nat.reduceAdd,Nat.reduceSub,List.replicate,zG,zH,zI];rw[aaa e1 (akr [sT,adN,t7,none,none,none] tV) e2 (akr [sT,adN,t7,none,none,none] mB)]
 rw[ag6 ei (aB (dn false) axH (aw (m9 false) [alu]) [sT,adN,t7,none,none,none] M=.ok (ς ((aB4).map alX)) M) (by
  rw[aD,e1,ag,aY,au,e2];rw[akT aE];rw[aoh m9 (fc h.w9)];rw[Qy,bT (by rw[aBu NT]),ag,qa,List.map_append,bT (by simp[lim];omega)]) (gR alX (aiT (∃a b c,ρ=[sT,adN,t7,a,b,c]/\M'=M/\aEG (uV Y W x s))) aB4 none M (dZ ei) trivial (auK none none none rfl rfl) ?_ ?_)]
 ·rintro pre r post hx ρ M' ⟨a,b,c,rfl,rfl,kG⟩;rw[aoJ];rw[ajg hlr ah2 (List.mem_append.mp (by rw[ak8])) hr (NQ r hlr)]
  rw[alC aaU (b8 (uV Y W x s r)->apk=af9) hm (by
   unfold oR;rw[hx,List.find?_append,kG,List.find?_cons,hm];rfl) Vp (acs (uV Y W x s r)->YW ((agT r).find? (uV Y W x s))) (λ hm=>by
   rw[List.find?_append,kG,List.find?_cons,hm];rfl)]
  rw[ab4 er (apZ aq8 d8 [sT,adN,t7,aas,b,c] M'=.ok (f9 [η aaE,ahl]) M') (by
   have:=akr [sT,adN,t7,aas,b,c] qr;rw[aD,this,ag,az];rw[ahk];rw[Ω ag (we hr)]) (ee (aeY aaE s) M' ?_ (f6 hk) (f6 hk))]
  ·rw[br,aD,aD,er,ag,bq,ag,ao6 (aO (f9 [η aaE,ahl]) (η 0) M') .ok (η aaE) M',ag,az]
   rw[ahk];rw[ag,dU];by_cases e9:aaE=s
   ·simp[e9]
   ·have e8:¬(aae aaE=aul):=adD (e9 aEE);simp[e9,e8]
  ·rw[aoe hk hk];rw[DB e3 (akr [sT,adN,t7,aas,b,c] mB) (acX (eW r (ua W x r)) M' ?_)]
   ·unfold lU
    rw[akP e3 ag (fc h.w9)];rw[az];rw[ahk]
    rw[ag]
    have ed:gI [Θ 0,aaN [c7],aok .bl] [sT,adN,t7,aas,b,c] M'=.ok (f9 [η 0,ς [η x],ako .bl]) M':=by
     unfold gI bS;simp only[au,aE,bq,az,zB,zA,ag];rw[bT (by show 1≤lim;decide)];simp only[ag]
    rw[ed,ag,fc h.w9];rw[aj3 kq gq];unfold ua;cases ar1<;>rfl
   rw[aeZ (ee ((ua W x r).bd || aea x (ua W x r).ns) M' ?_ (f6 jz) (f6 jz))]
   ·rw[d9 i2 (aO (eW r (ua W x r)) (η 2) M'=.ok (.bl (ua W x r).bd) M') rfl i1 (aO (eW r (ua W x r)) (η 1) M'=.ok (gJ (ua W x r).ns) M') rfl];have hbt:∀b:Bool,Res.opt (jr M' (.bl b)) M'=.ok b M':=λ b=>rfl;simp only[sH,fq,br,aD,az,bq,zB,zA,ag,i1,i2,Uh,hbt];cases (ua W x r).bd<;>simp
   ·have hm:b8 (uV Y W x s r):=by rw[IP,jz];simp[hk]
    rw[aaU hm]
    obtain⟨s0,w,ew⟩:∃s0 w,aa8=s0::w:=by
     cases e9:aa8 with
     | nil=>rw[afS e9 (dQ r hr)]
     | cons a b=>rw[amU a b]
    rw[aaa e4 (akr [sT,adN,t7,aas,c8 (eW r (ua W x r)),c] tV) h1 (h.T8 (W.green.filter (adR y (y≠r))) W.now)];rw[ag6 f1 (jR j M' (M'.set 7 (.bP (wKs Y (W.green.filter (adR y (y≠r))) W.now j)))) al0 (fA (iM (W.green.filter (adR y (y≠r)))) M' (ο 7) M' (b5 "green") M' (M'.set 7 (.bP (wKs Y (W.green.filter (adR y (y≠r))) W.now j))) (MF e4 rfl Ey) rfl rfl (af1 h.put EF) acw)];rw[avu (M'.set 7 (.bP (wKs Y (W.green.filter (adR y (y≠r))) W.now j))) h1 f1];have e5:=amI [sT,adN,t7,aas,c8 (eW r (ua W x r)),c] mB
    rw[apC v2 p2 (Be (dx:=dC .bh) (z:=.bh) e5 h1.w9 (k:=r) (dk:=d8) rfl rfl) h2 (h1.T9 aue)];rw[ag6 f2 (jR j M' (M1.set 9 (.bP (aeV eW aue)))) ats (anE v2 _ p2)];generalize M1.set 9 (.bP (aeV eW aue))=M2 at h2 f2;rw[aga ahl M2 ?_]
    ·have e6:=ase [sT,adN,t7,aas,c8 (eW r (ua W x r)),c] qr;rw[aY,au,aD,aD,e6,ag,az];rw[ahk];rw[ag,we hr,ag,bq,ag,ao6 (aO (f9 [η aaE,ahl]) (η 1) M2) .ok ahl M2,ag,aE,ag,ag]
     rw[aoh kX p9]
     exact bT (by rw[aqh (Fs r hr)])
    rw[aA4 e7 (ase [sT,adN,t7,aas,c8 (eW r (ua W x r)),akW] tW) p7 (GG r hlr)];rw[ew] at p7;rw[DB h3 (h2.T7 (W.locks.set s0.1 none)) (aH (fA .bh M2 (ο j) M2 (η ahQ) M2 (M2.set j (ς ((W.locks.set s0.1 none).map bM))) rfl e7 ?_ ?_ (adg (bw ahl _ rfl (zv (cM (aT (ajC _ ?_ aHe))))))))]
    ·rw[aD,aD,az]
     rw[ahk];rw[ag,bq,ag,ew,ahG (aO (bF (s0::w)) (η 0) M2) (.ok (aI s0) M2) auq,ag,bq,ag]
     exact vR
    ·rw[mM h2.wl (by rw[ak4 p7]),List.map_set];rfl
    ·rw[agC KU ew h3]
   ·rw[alU (aqr _ _ _ rfl rfl (Vp ?_))];rw[IP,jz,Bool.and_false]
  ·rw[alU (aqr _ _ _ rfl rfl (Vp ?_))];rw[IP,hk,Bool.false_and]
 ·rintro ρ' M' ⟨a,b,c,rfl,rfl,kG⟩;refine adg (bw .bh M' rfl (aT ?_));rw[aAh (YW apk) kG]
universe zE
universe Sb
universe zE
section
namespace Sb
open PySem L2
abbrev kM:Kd->Str
 | .ok => "ok"
 | aaY => "none"
 | .held => "held"
 | .red => "red"
abbrev Bi aNC aPP aNi aSR(W':Wd):Prop:=match k with
 | .ok=>∃M' j',res=.ok (b5 "ok") M'/\gv Y M' W' j'/\aIg/\(j'=j\/axE j')
 | aaY=>res=.ok (b5 "none") M
 | .held=>res=.ok (b5 "held") M
 | .red=>res=.ok (b5 "red") M
section
variable {Y:gH} {M:bb} {W:Wd} {j:Nat} {ρ:fk}
def X8 aNh:pI xs akV none=xs.drop 1:=by
 cases xs with
 | nil=>rfl
 | cons x xs=>exact Iv (k:=1) Ξ
def X9 aNh:aBQ azU=xs.dropLast:=by
 rw[ajN pI HT.zY Nat.sub_zero List.drop_zero]
 have e:HT.lh xs.length xs.length azU=arj 1:=by
  rw[am2 HT.lh];rw[ahX (if_pos d6)]
 rw[e,List.dropLast_eq_take]
def Yb aNh:aBQ akV=xs.take 1:=Iw (k:=1)
def Vq aOu:sk false an6 .bh M=.ok (ako .bl) M:=rfl
def Qz aOu(hl:aKp):FU false an6 none akV M=.ok (bF (w.take 1)) M:=by
 show(match alI (ς aro) with | agm=>aum (aBQ akV) | none=>c6)=_
 rw[afG iX];rw[Yb,← List.map_take,bT (by rw[aqh (aJq _)])]
def QA aOu(hl:aKp):FU false an6 akV none M=.ok (bF (w.drop 1)) M:=by
 show(match alI (ς aro) with | agm=>aum (pI xs akV none) | none=>c6)=_
 rw[afG iX];rw[X8,← List.map_drop,bT (by rw[aeh zK List.length_drop (ai5 (Nat.sub_le _ _) (ad0 hl))])]
def aaV aOu(hl:aKp):FU false an6 none azU M=.ok (bF w.dropLast) M:=by
 show(match alI (ς aro) with | agm=>aum (aBQ azU) | none=>c6)=_
 rw[afG iX];rw[X9,← List.map_dropLast,bT (by rw[aeh zK List.length_dropLast (ai5 (Nat.sub_le _ _) (ad0 hl))])]
def Vr{a b:HB}(ha:air a.length)(hb:air b.length):dn false (bF a) (bF b) M=.ok (bF (a++b)) M:=by
 show aum (aox++b.map aI)=_;rw[← List.map_append,bT (by rw[zK,List.length_append]; show _≤16000000;omega)]
abbrev IQ aNC(gp:D1):Prop:=∀aNi aN6 aPP aNs aOg,ab3->(∀r,ah2->adt)->aAM->aAN->(∀r,ah2->am9 ((aa8).headD (0,0,0)).1) →
 match apk with
 | none=>gp [ο 7,η s,η x] M=.ok .bh M
 | af9=>∃M',gp [ο 7,η s,η x] M=.ok ahl M'/\agZ M' (KU Y.rs W r)/\jR j M M'
structure WOk aOb:Prop where
 lv:∀r,ah2->adt
 gl:aAM
 fl:aAN
 lk:∀r,ah2->am9 ((aa8).headD (0,0,0)).1
 wl:∀r<Y.rs.length,av3
 nd:aG7
 tl:aGZ
 sl:∀x t,abW=acv->t.steps.length≤99/\aEA 100/\aCD
 al:∀x t,abW=acv->avn (am9 s.1)
def xE aOc aNl(hl:aGZ):yI (ο 10) (η x) (cb t) M=c8 (adA 10 .bP (dP eR (amk t))):=by
 rw[avT h.xD ama (by rw[Ω A4 (apt hl)])]
 congr 3
 exact GL eR x t _
def zO aRF(h:apk=af9):ah2:=List.mem_append.mp (List.mem_of_find?_eq_some h)
def nG aNm aPS{gb gp:D1}aRW(hs:alM)aUJ(hp:IQ Y gp) :
  Bi Y j M (pe gb gp [ο 7,η x,η s] M) (mh Y W x s) (rm Y W x s):=by
 rw[acm pe (Bi Y j M q (mh Y W x s) (rm Y W x s))];simp only[zC,zD,zE,zF,Nat.zero_add,Nat.reduceAdd,Nat.reduceSub,List.replicate,zG,zH,zI];rw[DB e1 (h.ix (ρ:=[sT,t7,adN,none,none,none]) (d:=b7) rfl nR) (aH (Df awf [sT,t7,adN,anz,anH,none] M ?_ Qx acw))]
 ·rw[aD,e1];simp[AQ hs]
 unfold mh rm;rw[aAQ (atg hs)];rw[DB e2 (h.ix (ρ:=[sT,t7,adN,anz,anH,none]) (d:=b7) rfl oT) (aH (auM aiy))]
 ·rw[br,aD,aY,au,e2];simp only[au,aE,az,zB,zA,ag,bq,hb];unfold cq;cases akJ (cy Y.ss s).2 (cy Y.ss s).1<;>rfl
 ·have hk:acs aiy:=aiS
  rw[Ω hk (ajB (b5 "none") M (aT rfl))]
 have hk:b8 aiy:=aiS
 rw[hk,aeO];rw[DB e3 (akr [sT,t7,adN,anz,anH,none] fC) (cX (akB (ee aG5 M ?_ (f6 jz) (f6 jz))))]
 ·rw[aCH];rw[ag,e3,ag,uU h.xD (k:=ama) rfl,i8];simp
 ·rw[aeh jz aeO (ajB (b5 "held") M (aT rfl))]
 rw[jz,alj];rw[amn atE ep (hp M W j x s h K.lv K.gl K.fl K.lk)];cases Yc:apk with
 | none =>
  rw[ax7 Yc ep (aX .bh M (d7 ep) ?_)];rw[acB];exact aH (Gj M Ξ (ajB (b5 "red") M (aT rfl)))
 | some r =>
  rw[Yc] at ep;obtain⟨M1,p1,p2,p3⟩:=ep;rw[DB Fs (K.wl r (K.lv r (zO Yc))) (acX ahl M1 (by rw[amm p1]))];rw[aeZ (aH (o5 M1 (d7 Vq) aIA))];rw[aos e4 (p2.ix (ρ:=[sT,t7,adN,anz,anH,akW]) (d:=b7) rfl fC) h2 (p2.Bh (amk (ah8 ((aa8).take 1++[]) ((aa8).drop 1)))) (fA (cb (ah8 ((aa8).take 1++[]) ((aa8).drop 1))) M1 (ο 10) M1 (η x) M1 _ ?_ e4 rfl (ayA p2) (ays _ _ j h2 (p3.trans al0) (b4 rfl)))];rw[aaa sa (Qz (M:=M1) Fs) sb (QA (M:=M1) Fs)];unfold bS;simp only[au,aE,xj,oH,lZ,az,bq,zB,zA,ag,sa,sb];rw[bT (by rw[azT]),zI];rfl
def QB aOc{d dk:DE}aNl aOR(hd:abO=.ok (ο 7) M)(hk:dk ρ M=.ok (η x) M):amG (aKq d) dk ρ=.ok (cb t) M:=by
 rw[aD,h.ix hd fC,ag,hk,ag];exact avS h.xD k ama (by rw[i8,hx]; rfl)
def RN{t:Tr}:agu (cb t) 0=.ok aFI M:=auq
def Yd{t:Tr}:agu (cb t) 1=.ok (bF t.ahead) M:=eX (i:=1) rfl
def tr2{t:Tr}:agu (cb t) 2=.ok (.bl t.out) M:=eX (i:=2) rfl
def Ye aOu(h:agx w):agu an6 0=.ok (aI (w.headD (0,0,0))) M:=eX (i:=0) (KP h)
def QC aPb:agu (aI s) 0=.ok (η s.1) M:=vR
def aaX aPb:agu (aI s) 2=.ok (η s.2.2) M:=Go
def xF aPo:Res.opt (jr M (.bl b)) M=.ok b M:=rfl
def Bj:azn M=.ok (ς []) M:=by rw[ajN bS aE ag (bT d6)]
def Vs{b:aec}:sk false (bM b) .bh M=.ok (.bl b.isNone) M:=by cases b<;>rfl
def wF aOc{gb gp:D1}aRW aOR aUJ(hp:IQ Y gp) :
  Bi Y j M (vL gb gp [ο 7,η x] M) (MC Y W x) (MD Y W x):=by
 rw[acm vL (Bi Y j M q (MC Y W x) (MD Y W x))];simp only[zC,zD,zE,zF,Nat.zero_add,Nat.reduceAdd,Nat.reduceSub,List.replicate,zG,zH,zI];obtain⟨tw,QD,dQ⟩:=K.sl x t hx
 unfold MC MD
 rw[afG hx];rw[aga (cb t) M (QB h hx rfl rfl)]
 rw[aeZ (acX (aI aoq) M (by simp only[aD,az,bq,zB,zA,ag,RN,Ye dQ]; rfl))];rw[aeZ (aH (ee t.out M (by simp only[fq,aD,az,bq,zB,zA,ag,tr2,xF]) (f6 hk) (f6 hk)))]
 ·rw[aeh hk aeO (ajB (b5 "red") M (aT rfl))]
 rw[hk,alj];rw[alU (akB (ee (!(ag8 anG)) M ?_ (f6 jz) (f6 jz)))]
 ·simp only[br,aD,az,bq,zB,zA,ag,Yd,Bj,eq_nil,if_true]
 ·have jz:awq:=aCq
  rw[aml jz jz]
  have hhd:am9 (t.ahead.headD (0,0,0)).1:=by
   refine K.al x t hx _ ?_;cases e9:t.ahead with
   | nil=>rw[afS e9 jz]
   | cons a b=>simp
  rw[aaa e1 (akr [sT,t7,agq,atp,none,none] tW) h1 (h.T7 aCl)];rw[ag6 f1 (aqL (ajR j ((aCl).map bM))) al0 (fA .bh M (ο j) M (η (t.ahead.headD (0,0,0)).1) M (ajR j ((aCl).map bM)) rfl e1 ?_ ?_ acw)]
  ·simp only[aD,az,bq,zB,zA,ag,Yd,Ye jz,QC]
  ·rw[mM h.wl (by rw[ak4 hhd]),List.map_set];rfl
  rw[avu (ajR j ((aCl).map bM)) h1 f1];have e2:=amI [sT,t7,agq,atp,none,none] fC
  rw[DB h2 (h1.Bh (amk (ah8 (axq++t.steps) (t.ahead.drop 1)))) (aH (fA (cb (ah8 (axq++t.steps) (t.ahead.drop 1))) M1 (ο 10) M1 (η x) M1 _ ?_ e2 rfl (ayA h1) (adg (ajB (b5 "ok") _ (aT (aoZ _ j h2 ats (b4 rfl)))))))];rw[akR sa (Qz (M:=M1) QD) sb (QA (M:=M1) QD) sc (Vr (M:=M1) (a:=axq) (b:=t.steps) (ad0 (aJq _)) ay2)]
  unfold bS;simp only[au,aE,aD,xj,oH,lZ,az,bq,zB,zA,ag,RN,Yd,sa,sb,sc];rw[ab2 (bT (by rw[azT]))]
 have jz:anG:=aCq
 rw[apB e9 (e9 jz),apB e9 (e9 jz)];rw[DB e3 (akr [sT,t7,agq,atp,none,none] oT) (cX (adg (acX (aiA atv) M ?_)))]
 ·rw[aY,au,e3];simp only[au,aE,aD,az,bq,zB,zA,ag,QC,aaX,hb]
 rw[aeZ (aH (ee (atv).isNone M (by simp only[br,aD,az,bq,zB,zA,ag,Vs]) (f6 Bg) (f6 Bg)))]
 ·have Bg:YW atv:=aaF Bg
  rw[Bg];have e4:=akr [sT,t7,agq,atp,c8 (bM none),none] fC
  rw[DB h2 (h.Bh (amk aIh)) (aH (fA (cb aIh) M (ο 10) M (η x) M _ ?_ e4 rfl (ayA h) (adg (ajB (b5 "ok") _ (aT (aoZ _ j h2 al0 (b4 rfl)))))))];have Yg:∀ ρ,azn M=.ok (ς []) M:=λ ρ=>Bj;rw[gA];simp only[au,aE,aD,az,bq,zB,zA,ag,RN,Yg];rw[ab2 (bT (by rw[azT]))]
 obtain⟨b,Bg⟩:∃b,atv=akd:=by
  cases e9:atv with
  | none=>rw[e9] at Bg; cases Bg
  | some b=>exact akG b
 rw[afG Bg];rw[alU (adg (aX .bh M rfl ?_))];rw[acB];have e5:=akr [sT,t7,agq,atp,aCY,aCw] nR
 rw[ag6 et (gI [ayI,aau] [sT,t7,agq,atp,aCY,aCw] M=.ok (cZ (ams,b)) M) (by
  unfold gI;simp only[au,aE,aD,az,bq,zB,zA,ag,aaX];rfl) (ee (aea (ams,b) Y.ss) M ?_ (f6 RL) (f6 RL))]
 ·rw[br,aD,et,ag,e5,ag];show(aBI (f9 [η ams,η b]) atn M).bind _=_;rw[Tq,ag];rfl
 ·rw[aoe RL RL]
  have X2:ayJ=aJO (ams,b):=by rw[agC cE Bg (if_pos RL)]
  rw[apu X2 Option.bind_some];generalize hsi:Y.ss.idxOf (ams,b)=s
  rw[ajg ei (gD pK asM [gI [ayI,aau]] [sT,t7,agq,atp,aCY,aCw] M=.ok (η s) M) (by
   unfold gD;rw[akP e5 ag iX];rw[au,et];simp only[aE,ag];rw[Bc (enc:=cZ) Kq Ek (a:=(ams,b)) RL,hsi]) ep (hp M W j x s h K.lv K.gl K.fl K.lk)];cases Yc:apk with
  | none =>
   rw[ax7 Yc ep (yi .bh M ?_ acw)]
   ·rw[aY,au,az];simp only[zB,zA,ag];rw[au,ei];simp only[au,aE,az,zB,zA,ag,ep]
   rw[acB]
   exact aH (Gj M Ξ (ajB (b5 "red") M (aT rfl)))
  | some r =>
   rw[Yc] at ep
   obtain⟨M1,p1,p2,p3⟩:=ep;rw[Option.getD_some];rw[DB Fs (K.wl r (K.lv r (zO Yc))) (yi ahl M1 ?_ acw)]
   ·rw[aY,au,az];simp only[zB,zA,ag];rw[au,ei];simp only[au,aE,az,zB,zA,ag,p1]
   rw[aeZ (aH (o5 M1 (d7 Vq) aIA))]
   rw[aos e6 (p2.ix (ρ:=[sT,t7,agq,atp,aCY,akW]) (d:=b7) rfl fC) h2 (p2.Bh (amk (ah8 ((aa8).take 1++t.steps) ((aa8).drop 1)))) (fA (cb (ah8 ((aa8).take 1++t.steps) ((aa8).drop 1))) M1 (ο 10) M1 (η x) M1 _ ?_ e6 rfl (ayA p2) (ays _ _ j h2 (p3.trans al0) (b4 rfl)))];rw[akR sa (Qz (M:=M1) Fs) sb (QA (M:=M1) Fs) sc (Vr (M:=M1) (a:=(aa8).take 1) (b:=t.steps) (ad0 (aJq _)) ay2)];rw[gA];simp only[au,aE,aD,xj,oH,lZ,az,bq,zB,zA,ag,RN,sa,sb,sc];rw[ab2 (bT (by rw[azT]))]
 ·rw[axe RL RL]
  have X2:YW ayJ:=by rw[agC cE Bg (if_neg RL)]
  rw[Ω X2 (cX (akB (Gj M Ξ (ajB (b5 "red") M (aT rfl)))))]
def pY aOc aRW aOR:Bi Y j M (qX [ο 7,η x] M) (rF W x) (qp W x):=by
 rw[acm qX (Bi Y j M q (rF W x) (qp W x))];simp only[zC,zD,zE,zF,Nat.zero_add,Nat.reduceAdd,Nat.reduceSub,List.replicate,zG,zH,zI];obtain⟨tw,QD,dQ⟩:=K.sl x t hx
 unfold rF qp
 rw[afG hx];rw[aga (cb t) M (QB h hx rfl rfl)]
 rw[acB]
 rw[ate el (∀M',cu [aFI] M'=.ok (η t.steps.length) M') (λ M'=>by
  rw[aoh cu p9];rw[zK]) e1 (∀M',aW (agM (aj9 alO) (Θ 1)) [sT,t7,agq] M'=.ok (ag8 (axv 1)) M') (λ M'=>by
  simp only[br,aY,au,aE,aD,az,bq,zB,zA,ag,RN,el,dU];by_cases h9:axv 1
  ·simp[h9]
  ·have h8:¬(aMr=1):=b6
   simp[h9,h8]) (ee (ag8 (axv 1/\aBp)) M ?_ (f6 hk) (f6 hk))]
 ·rw[jy,e1,ag];simp only[tL,fq,aD,az,bq,zB,zA,ag,tr2,xF];by_cases h9:axv 1
  ·cases h2:t.out<;>simp[h9]
  ·simp[h9]
 ·rw[aoe hk hk];rw[Ω (if_pos hk) (ajB (b5 "held") M (aT rfl))]
 rw[axe hk hk]
 rw[afZ hk];rw[aaa e4 (akr [sT,t7,agq] fC) h2 (h.Bh aG9)];rw[ab4 f2 (aqL (adA 10 .bP (dP eR aG9))) al0 (cX (akB (fA (cb avl) M (ο 10) M (η x) M _ ?_ e4 rfl (ayA h) acw)))]
 ·have sa:=aaV (M:=M) ay2;rw[gA];simp only[au,aE,aD,xj,oH,lZ,az,bq,zB,zA,ag,RN,Yd,tr2];rw[apE ((rQ (Θ 1) [sT,t7,agq] M)=.ok (η (-1)) M)]
  rw[akT sa];rw[ab2 (bT (by rw[azT]))]
 rw[avu (adA 10 .bP (dP eR aG9)) h2 f2];rw[alV (ee (ag8 (axv 1)) M1 (e1 M1) (f6 jz) (f6 jz))]
 ·rw[aoe jz jz]
  rw[ak2 jz];rw[aos e6 (ase [sT,t7,agq] fC) h3 (h2.Bh auc) (Dn (k:=ama) (y:=η x) (cb avl) e6 h2.xD rfl rfl (by rw[i8,eL,aeO]; rfl) (ays _ _ j ?_ aHe (b4 rfl)))];rw[Dm]
  have:cD aG9 x=auc:=by
   unfold cD cC;split
   ·rw[aEC]
    rw[List.map_congr_left (g:=id) (ah1 (by
     have:=aEn aJl;by_cases e9:q.1=x
     ·exfalso;simp only[Function.comp,e9,if_true] at this;exact this rfl
     ·simp[e9])),List.map_id]
    refine List.filter_congr (ab7 q _);rw[aEf];by_cases e9:q.1=x<;>simp[e9]
   ·rw[af2 List.filter_append]
  rw[Ω this h3]
 ·rw[axe jz jz];rw[asO jz (cX (ays M1 M1 j h2 f2 (b4 rfl)))]
universe zE
universe Sb
universe zE
end
mutual
section
namespace Sb
open PySem L2
abbrev nc aNs(pre:ae6)(d:alH):alH:=ar4 (if q.1∈pre then(q.1,ui x q.1 q.2) else q)
def Du aNs(pre:ae6)aNk:∀d:alH,aG (nc x pre d) r=agj (aG d r).map u (al8 r pre (ui x r u) u)
 | []=>rfl
 | q::d=>by
  have ih:=Du x pre r d
  unfold nc at ih ⊢
  rw[zC,eJ,eJ,ih]
  rw[age (q.1∈pre)]
  ·rw[ak2 h];rw[ah3 q.1 r]
   ·subst e;simp[h]
   ·simp[e]
  ·rw[afZ h];rw[ah3 q.1 r]
   ·subst e;simp[h]
   ·simp[e]
def IS aNs(pre:ae6)(d:alH):aeS (nc x pre d).map=ai6:=by
 rw[acu nc List.map_map];refine List.map_congr_left λ q _=>?_;rw[aEf];split<;>rfl
def MG aNm{pre:ae6}{d:alH}aNn{u:Fl}(hn:arz)(hr:aG d r=abF)(hp:r∉pre):cC (nc x pre d) r (ui x r u)=nc x (agT r) d:=by
 rw[acu cC (af5 ((any_keys _ _).mpr (by rw[IS,mem_keys,hr]; rfl)))];rw[acu nc List.map_map]
 refine List.map_congr_left λ q hq=>?_;rw[ah3 q.1 r]
 ·have h1:=azj;rw[e,hr] at h1;rw[aev h2 aqU h3 (q.1∉pre) (by rw[alL hp])]
  rw[aAH (if_neg h3) (if_pos e)];rw[af5 (d7 e),e,← h2]
 ·rw[age (q.1∈pre)]
  ·rw[aAH avL akU];rw[af5 (d7 h)]
  ·rw[aAH aov akU];rw[al1 (aeU h e)]
def MH aNm{d:alH}:nc x ai6 d=jB (ui x) d:=by
 unfold nc jB;rw[ahn (List.map_congr_left λ q hq=>?_) (af5 (aja q hq))]
def MI aNm{d:alH}:nc x [] d=d:=by
 rw[af7 nc (List.map_congr_left (g:=id) (λ q _=>Ξ)) List.map_id]
def QE aNL aNR aQe:Ft (w++[s]) l=(Ft w l).set s.1 none:=by rw[acu Ft List.foldl_append];rfl
section
variable {Y:gH} {M:bb} {W:Wd} {j:Nat} {ρ:fk}
def mE aOc aRW(YM:aG6)(LC:amL W.falls (air q.2.ns.length))aOR:Bi Y j M (qY [ο 7,η x] M) (uk W x) (oS W x):=by
 rw[acm qY (Bi Y j M q (uk W x) (oS W x))];simp only[zC,zD,zE,zF,Nat.zero_add,Nat.reduceAdd,Nat.reduceSub,List.replicate,zG,zH,zI];obtain⟨tw,QD,dQ⟩:=K.sl x t hx
 unfold uk oS
 rw[afG hx];rw[aga (cb t) M (QB h hx rfl rfl)];rw[aeZ (aH (ee t.out M (by simp only[fq,aD,az,bq,zB,zA,ag,tr2,xF]) (f6 hk) (f6 hk)))]
 ·rw[aeh hk aeO (ajB (b5 "red") M (aT rfl))]
 rw[hk,alj];refine cX acw
 rw[ag6 ei (amG c7 (Θ 1) [sT,t7,agq,none,none,none,none]=.ok (ς aJ5) M) (by
  simp only[aD,az,bq,zB,zA,ag,Yd]) (gR aI (λ pre ρ M1=>∃y,ρ=[sT,t7,agq,y,none,none,none]/\agZ M1 (ajt W (aEB pre))/\jR j M M1) t.ahead none M (dZ ei) trivial (ajC none h jR.refl) ?_ ?_)]
 ·rintro pre s post Yh ρ M1 ⟨y,rfl,h1,f1⟩;rw[aoJ];rw[avK aeA (am9 s.1) (K.al x t hx s (by rw[af2 Yh])) e2 (amI [sT,t7,agq,anO,none,none,none] tW) (fA .bh M1 (ο j) M1 (η s.1) M1 (M1.set j (ς ((aEB (agT s)).map bM))) rfl e2 (by simp only[aD,az,bq,zB,zA,ag,QC]) ?_ (agV (ajC _ (h1.T7 _) ats)))];rw[mM h1.wl (by rw[zK]; rw[as8 (s.1<acL (aEB pre)) wa aeA]),QE,List.map_set];rfl
 ·rintro ρ' M1 ⟨y,rfl,h1,f1⟩;refine acw
  rw[ab4 er (Kn false alO (kj (rQ (Θ 1))) [sT,t7,agq,y,none,none,none] M1=.ok (ς (t.steps.reverse.map aI)) M1) (by
   unfold Kn;simp only[aD,az,bq,oH,zB,zA,ag,RN];rw[apE ((rQ (Θ 1) [sT,t7,agq,y,none,none,none] M1)=.ok (η (-1)) M1)]
   simp only[ag];rw[apH XA aeO iX];rw[List.map_reverse,bT (by rw[aeh List.length_reverse zK ay2])]) (acX (bF auY) M1 ?_)]
  ·rw[cj (xs:=t.steps.reverse) (w:=none) (M':=M1) aI (λ _=>true) (λ s=>awA) (aiz [y]) (dZ er) trivial aiH (ajK s) (by rw[Ω List.length_reverse (ad0 tw)])]
   ·rw[amK,bT (by rw[aeh zK List.length_reverse ay2])];rw[apX bF]
   ·rw[afF y rfl hρ (aa9 _ rfl adE (by simp[aI,flip,gI]))]
  rw[acB];rw[aaa e4 (amI [sT,t7,agq,y,awy,none,none] fC) h2 (h1.Bh aCG)];rw[ag6 f2 (aqL (M1.set 10 (.bP (dP eR aCG)))) ats (fA (cb (ah8 auY [])) M1 (ο 10) M1 (η x) M1 _ ?_ e4 rfl (ayA h1) acw)]
  ·have Yg:∀ ρ,azn M1=.ok (ς []) M1:=λ ρ=>Bj;rw[gA];simp only[au,aE,az,bq,zB,zA,ag,Yg];rw[ab2 (bT (by rw[azT]))]
  generalize M1.set 10 (.bP (dP eR aCG))=M2 at h2 f2;have e5:=ase [sT,t7,agq,y,awy,none,none] mB
  rw[ag6 el (aw (m9 false) [alu] [sT,t7,agq,y,awy,none,none] M2=.ok (ς ((ah6).map (ahC (aez r) (aae r)))) M2) (by
   rw[aY,au,e5];rw[akT aE];rw[aoh m9 (fc h2.w9)];rw[Qy,bT (by rw[aBu K.fl])]) (gR (ahC (aez r) (aae r)) (λ pre ρ M3=>∃a b,ρ=[sT,t7,agq,y,awy,a,b]/\agZ M3 { W with locks:=aFv,trains:=aCG,falls:=nc x pre W.falls }/\jR j M M3) ah6 none M2 (dZ el) trivial (ae7 none none (by rw[Ω MI h2]) f2) ?_ ?_)]
  ·rintro pre r post Yh ρ M3 ⟨a,b,rfl,h3,f3⟩;rw[aoJ]
   have Vm:=EA YM Yh;rw[auZ u hu ((mem_keys _ _).mp (show r∈ah6 by rw[af2 Yh]))]
   have hg:aG (nc x pre W.falls) r=abF:=by rw[Du,hu];simp[Vm]
   rw[DB e6 (h3.ix (ρ:=[sT,t7,agq,y,awy,aas,b]) (d:=b7) rfl mB) (acX aAj M3 ?_)]
   ·rw[aD,e6,ag,az];rw[ahk];rw[Ω ag (avS h3.w9 k awI (by rw[gq,hg]; rfl))]
   rw[acB];rw[aos e7 (h3.ix (ρ:=[sT,t7,agq,y,awy,aas,c8 (eW r u)]) (d:=b7) rfl mB) hul (LC _ (i7 hu)) (fA (eW r (ui x r u)) M3 (ο 9) M3 (η r) M3 (M3.set 9 (.bP (aeV eW (nc x (agT r) W.falls)))) ?_ e7 rfl ?_ (agV (amD _ (h3.T9 _) (f3.trans al0))))]
   ·rw[d9 j0 (aO aAj (η 0) M3=.ok (η u.u) M3) rfl j1 (aO aAj (η 1) M3=.ok (gJ u.ns) M3) rfl];rw[d9 j2 (aO aAj (η 2) M3=.ok (.bl u.bd) M3) rfl ec (dN false aoN (agk (aoY (ae 6))) (gN 0) (ajf b7 f7) b7 [sT,t7,agq,y,awy,aas,c8 (eW r u)] M3=.ok (gJ (u.ns.filter (aiY z z x))) M3) (by
     rw[cj (xs:=u.ns) (w:=none) (M':=M3) (ahC afp n) (aiY z z x) (ahC afp n) (aiz [y,t7]) (dZ (by simp only[aD,az,bq,zB,zA,ag,j1])) trivial aiH (ajK z) (ad0 hul)]
     ·exact bT (by rw[ak4 (ai5 (List.length_filter_le _ _) (ad0 hul))])
     ·rw[alk y hρ];refine⟨_,rfl,adE,?_,apM⟩;simp only[List.set_cons_zero,br,aD,az,zB,zA,ag,dU];by_cases e9:z=x<;>simp[e9])]
    rw[pf];simp only[au,aE,ec,ag,aD,az,bq,zB,zA,j0,j2];rfl
   ·rw[aBy h3.w9 r (by rw[sO]; show acL (nc x pre W.falls)<_; rw[agC nc zK (apt K.fl)]),← MG YM hu Vm]
    congr 3
    exact sN eW r (ui x r u) _
  ·rintro ρ' M3 ⟨a,b,rfl,h3,f3⟩;refine ays M3 M3 j ?_ f3 (b4 rfl);rw[g9 MH h3 h3]
universe zE
universe Sb
universe zE
section
namespace Sb
open PySem L2
def GW aQh:∀aRK aRX,Chain ps ss f j a w->aho w (aiG s.1)
 | [],_,_,_,_,s,h=>anP
 | (a',j',o)::w,f,j,a,c,s,h=>by
  obtain⟨_,_,_,h1,_,h2⟩:=c;rcases asF with rfl | h
  ·exact h1
  ·exact GW w false o _ h2 s h
def QF{p:Pc}{a:Nat}aUu(hj:j∈p.js)(ho:Kx p j o)(hp:b8 (sP p)):X6 p (a,j,o)=Ew p (a,j,o):=by
 cases p with
 | pl x y=>cases hp
 | pt t u b =>
  rw[akR h1 ho.ne h2 ho.mem h3 (ho.tip rfl)];simp only[Pc.js,List.nodup_cons,List.mem_cons,List.not_mem_nil,or_false,not_or,List.headD_cons] at hn hj h2 h3;simp only[X6,Ew,List.mem_cons,List.not_mem_nil,or_false];rw[← decide_not];refine decide_eq_decide.mpr ?_;rw[akR n1 hn.1.1 n2 hn.1.2 n3 hn.2.1];constructor
  ·rintro(e | e) (e' | e')<;>rcases h3 with h3 | h3<;>omega
  ·intro hh;rcases h3 with h3 | h3
   ·rcases h2 with h2 | h2 | h2
    ·omega
    ·exact b9 h2.symm
    ·rw[ajQ (b9 h2.symm) hh]
   ·rcases hj with hj | hj | hj
    ·omega
    ·exact b4 hj.symm
    ·rw[ajQ (b4 hj.symm) hh]
def Dv aQh(hn:aCy):∀aRK aRX,Chain ps ss f j a w->(∀b,a=akd->j∈(ad3 b).js)->aho w (b8 (eh ps s.1)->um ps s=yn ps s)
 | [],_,_,_,_,_,s,h,_=>anP
 | (a',j',o)::w,f,j,a,c,hj,s,h,hp=>by
  obtain⟨e1,e2,_,h1,h3,h2⟩:=c
  subst e2;rcases asF with rfl | h
  ·exact QF (hn _ (Iu h1)) (hj a' e1) h3 hp
  ·exact Dv hn w false o _ h2 (aqt (nM hb).2.2) s h hp
structure bV aNC:Prop where
 g:oK Y.ps Y.ss
 rs:Y.rs=cJ Y.ps Y.ss
 wt:0≤Y.wait
def Yi{rs:afL}aSB:(aU rs r,ba rs r)∈rs:=aJi (KM h)
section
variable {Y:gH}
def bV.ok aP9:Ky Y.ps Y.ss (aaE,aa8):=PJ G.g (by rw[abQ G.rs (Yi hr)])
def bV.head aP9:(cy Y.ss aaE).2∈fz Y.rs r:=by
 rw[akR h (G.ok hr) h1 h.ne h2 h.chain];unfold fz;dsimp only at h1 h2;cases e:aa8 with
 | nil=>rw[afS e h1]
 | cons s w =>
  rw[e] at h2;obtain⟨a',j',o⟩:=s;obtain⟨h3,_⟩:=h2;cases h3;simp
def bV.bB aNj:aoA:=by
 rw[ab8 (amM (G.ok hr).nd) (acE r hr p hp) (adW r hr r' hr' e)]
 ·rw[aiN s hs hp];exact GW _ _ _ _ (G.ok hr).chain s hs
 ·rw[Lb (cy Y.ss aaE).2 (G.head hr) (by rw[alL (G.head hr')])]
def bV.sg aP9:aGS:=(G.ok hr).lt
def bV.vd aP9:aho aa8 (b8 (eh Y.ps s.1)->um Y.ps s=yn Y.ps s):=by
 refine Dv G.g.once _ _ _ _ (G.ok hr).chain aiu;cases hb;exact(aBK (uQ (G.sg hr))).2
def bV.len aNj:aEF:=by
 rw[G.rs];unfold cJ;have:=oJ (List.range Y.ss.length) λ k _=>tN Y.ps Y.ss k;rw[adS h2 G.g.AO List.length_range this];omega
def bV.wl aP9:av3:=by
 rw[ain (G.ok hr).len G.g.qA];dsimp only at h1;omega
universe zE
structure Ui aNB aNR:Prop where
 lt:aiG s.1
 i:s.2.1∈(ad3 s.1).js
 o:Kx (ad3 s.1) s.2.1 s.2.2
abbrev GX:adj HB
 | []=>True
 | [_]=>True
 | a::b::w=>a.2.1=b.2.2/\a.1≠b.1/\GX (b::w)
structure TJ aNB(t:Tr):Prop where
 ok:axJ (Ui ps s)
 lnk:GX t.steps
def Bk aQh:∀aRK aRX,Chain ps ss f j a w->(∀b,a=akd->j∈(ad3 b).js)->aho w (Ui ps s)
 | [],_,_,_,_,_,s,h=>anP
 | (a',j',o)::w,f,j,a,c,hj,s,h=>by
  obtain⟨e1,e2,_,h1,h3,h2⟩:=c
  subst e2;rcases asF with rfl | h
  ·rw[Lb h1 (hj a' e1) h3]
  ·exact Bk w false o _ h2 (aqt (nM hb).2.2) s h
def Bl aQh{s s':dM}{r:HB}:∀aRK aRX aNW,Chain ps ss f j a w->w.drop k=s::s'::r->t6 (beyond ps s.1 s.2.2) s'.1/\s'.2.1=s.2.2/\(s.2.2,s'.1)∉ss
 | [],_,_,_,k,_,h=>anP
 | (a',j',o)::w,f,j,a,0,c,h=>by
  obtain⟨e1,e2,_,h1,h3,h2⟩:=c;rw[List.drop_zero] at h;rw[alk rfl (List.cons.inj h)];obtain⟨a2,j2,o2⟩:=s';obtain⟨h4,h5,h6,_⟩:=h2;rw[Lb h4 h5 (h6 rfl)]
 | (a',j',o)::w,f,j,a,k+1,c,h=>by
  obtain⟨_,_,_,_,_,h2⟩:=c;exact Bl w false o _ k h2 h
def three aPU{a b c:Nat}aQd(ha:aiG a)(hb:aiG b)(hc:aiG c)aTD(jc:j∈(ad3 c).js)(h1:a≠b)(h2:a≠c)(h3:b≠c):False:=by
 rw[aev h (hg.two j) m (∀{x:Nat},aiG x->j∈(ad3 x).js->x∈azY) (λ hx jx=>List.mem_filter.mpr ⟨List.mem_range.mpr hx,aaF jx⟩)];rw[akR ma (m ha ja) mb (m hb jb) mc (m hc jc)];generalize azY=l at h ma mb mc
 match l,h with
 | [],_=>simp at ma
 | [x],_=>simp at ma mb;omega
 | [x,y],_=>simp at ma mb mc; omega
 | _::_::_::_,h=>rw[ao2]
def QG aPU aQ5 aQd(ha:aiG a)(hb:aiG b)aTD(h:b≠a):beyond ps a j=akd:=by
 cases e:beyond ps a j with
 | none =>
  unfold beyond at e;rw[g9 List.find?_eq_none e (absurd (aeU h jb) (e b (List.mem_range.mpr hb)))]
 | some c =>
  obtain⟨h1,h2,h3⟩:=nM e;by_cases hc:c=b
  ·rw[hc]
  ·exact(three hg ha hb h1 ja jb h3 h.symm h2.symm (Ne.symm hc)).elim
def Bm aNq{p:aza}:∀l:afK,l.Pairwise (λ a b=>¬(b8 (p a)/\b8 (p b)))->aKR=(aGb).toList
 | [],_=>rfl
 | a::l,h=>by
  rw[amv (List.pairwise_cons.mp h)];rw[ahT e (p a)]
  ·rw[List.filter_cons_of_pos e,List.find?_cons_of_pos e];have:aKR=[]:=List.filter_eq_nil_iff.mpr (agi hb hp (h1 b hb ⟨e,hp⟩));rw[ab2 this]
  ·rw[List.filter_cons_of_neg e,List.find?_cons_of_neg e,Bm l h2]
section
variable {Y:gH} {W:Wd} {B:Bx}
abbrev GY aOb:Prop:=∀x t,abW=acv->TJ Y.ps t
def Bn aNj aSH aUB aPb{a:HB}(h:t.ahead=s::a):t6 atv s.1/\s.2.1=ams/\(ams,s.1)∉Y.ss/\Ui Y.ps s:=by
 obtain⟨r,k,hr,e,_⟩:=T.ah (by rw[af2 h]);rw[adS c (G.ok hr).chain h e];obtain⟨h1,h2,h3⟩:=Bl _ _ _ _ k c e.symm;rw[an1 h1 h2 h3 (Bk _ _ _ _ c aiu s (List.mem_of_mem_drop (i:=k) ?_))]
 ·cases hb;exact(aBK (uQ (G.sg hr))).2
 ·show s∈(aa8).drop k;rw[← e];simp
def pz aNj aPb aNf(hs:Ui Y.ps s)(hk:au1 k):azR=aeK↔s.2.2=(cy Y.ss k).1/\s.1≠(cy Y.ss k).2:=by
 have hg:=aBK (uQ hk);unfold cE;constructor
 ·intro h;split at h
  ·rename_i b hb;split at h
   ·rename_i hm;rw[aev e aMt e2 (cy Y.ss k=(s.2.2,b)) (by
     rw[← e];rw[ain aLv (vX h1)];rw[List.getElem?_eq_getElem h1,List.getElem_idxOf] at h2;exact(Option.some.inj h2).symm)]
    rw[e2]
    rw[aab rfl (nM hb).2.1.symm]
   ·cases h
  ·cases h
 ·rintro⟨h1,h2⟩;have hb:t6 awY (cy Y.ss k).2:=QG G.g hs.lt hg.1 hs.o.mem (by rw[Ω h1 hg.2]) (Ne.symm h2)
  rw[afG hb]
  have e:(s.2.2,(cy Y.ss k).2)=cy Y.ss k:=agK h1
  rw[e,af5 (uQ hk)];rw[adS h3 (vX hk) (List.getElem?_eq_getElem hk) h3];rw[← Option.some.inj h3,List.Nodup.idxOf_getElem G.g.nd k hk]
def QH aNj aSH aNf aUB(J:TJ Y.ps t)(hk:au1 k):aeY ayJ aeK=uY Y k t:=by
 rw[aaa hs (J.ok _ (sM T.ne)) hi (pz G hs hk)]
 unfold uY;rw[age (ayJ=aeK)]
 ·rw[d9 h1 anG (by
   cases e:t.ahead with
   | nil=>rfl
   | cons s a =>
    obtain⟨h1,_,h3,_⟩:=Bn G T e;rw[ajd cE];rw[alm h1 h h];rw[if_neg h3] at h;cases h) h2 aBp (by
   cases e:t.out with
   | false=>rfl
   | true =>
    have:=(T.ot e).2;rw[anh cE h this h];cases h)]
  have h3:=hi.mp h;simp[h,h1,h2,h3.1,h3.2]
 ·have h3:=mt hi.mpr h;rw[aJF];symm;by_cases h4:ams=(cy Y.ss k).1
  ·have:¬aij≠(cy Y.ss k).2:=λ h5=>h3 ⟨h4,h5⟩;simp[this]
  ·simp[h4]
def Uj aNj aO1(J:GY Y W)aNf(hk:au1 k):dg Y W.trains k=(kl Y B.trains k).toList:=by
 have hT:asP q (t6 (aG W.trains q.1) q.2):=ah1 aBR
 have e1:aJM (λ q=>uY Y k q.2)=aJM (ala (cE Y (bD q.2)=aeK)) :=
  List.filter_congr (ah1 (QH G (aqC (hT q hq)) (J _ _ (hT q hq)) hk).symm)
 unfold dg kl;rw[e1,Bm]
 ·rw[S.trains];rw[acu jB List.find?_map];show List.map _ (aKl (aEi q (cE Y (bD q.2.tr)=aeK))).toList=_;cases aEi q (cE Y (bD q.2.tr)=aeK)<;>rfl
 ·rw[ab4 hp (W.trains.Pairwise (λ a b=>a.1≠b.1)) (List.pairwise_map.mp I.xp) (List.Pairwise.imp_of_mem ?_ hp)];rintro a b ha hb dQ ⟨h1,h2⟩;rw[aaa hTa (hT a ha) hTb (hT b hb)];rw[aaa oa ((J _ _ hTa).ok _ (sM (aqC hTa).ne)) ob ((J _ _ hTb).ok _ (sM (aqC hTb).ne))];rw[aaa ia ((pz G oa hk).mp aL2) ib ((pz G ob hk).mp aEh)];rw[aaa hg (aBK (uQ hk)) hd ((I.dj _ _ _ _ hTa hTb dQ).1 _ (sM (aqC hTa).ne) _ (sM (aqC hTb).ne))];exact three G.g (j:=(cy Y.ss k).1) oa.lt ob.lt hg.1 (by rw[abQ ia.1 oa.o.mem]) (by rw[abQ ib.1 ob.o.mem]) hg.2 hd ia.2 ib.2
def IT(S:aix)(p:Int):uX W.trains p=au3 p:=by
 unfold uX rj;rw[S.trains];rw[acu jB List.find?_map];show aKl (aKl (aEi q (p∈aAd)))=_;cases aEi q (p∈aAd)<;>rfl
def Yj aNj(I:alg):aDE:=by
 have hn:=G.g.qA;refine⟨λ r h=>(aih h).1,aq2 (iV I.Cm (abg h (I.glt h))) G.len,?_,ab7 r h,amM (G.wl hr),I.xp,ai5 I.XT b6,λ x t h=>⟨?_,?_,(I.tr x t h).ne⟩,adW x t h s hs⟩
 ·have:=iV I.Iy λ x h=>(I.own x (b9 h)).1;rw[g9 zK this (Nat.le_trans this G.len)]
 ·have hr:=(aih h).1;rw[I.ln];have dQ:=(G.ok hr).ne;dsimp only at dQ;cases e:aa8 with
  | nil=>rw[aCF]
  | cons s w=>exact G.bB.lt r hr s.1 (by rw[acu fz e];simp)
 ·rw[aeq (I.Qj h)]
 ·rw[aeq (I.XR G.bB h)]
 ·obtain⟨r,hr⟩:=(I.tr x t h).al hs;rw[Ω I.ln (I.lt hr)]
universe zE
universe Sb
universe zE
section
namespace Sb
open PySem L2
inductive Wo where
 | set
 | cancel
 | throw
 | enter
 | tick
 | go
 | draw
 | turn
 deriving DecidableEq
abbrev Wo.s:Wo->Str
 | afq => "set"
 | afV => "cancel"
 | agL => "throw"
 | afY => "enter"
 | afo => "tick"
 | .go => "go"
 | agn => "draw"
 | afb => "turn"
abbrev EG aOb aNk:Bool:=akl 0 (!(dg Y W.trains aaE).isEmpty || agQ)
abbrev dS aOb aOx:Kd:=match w with
 | afq=>asS (apo i) (asR (heldW W (ba Y.rs i.toNat)) held .ok) aaY
 | afV=>asS (apo i) (al8 i.toNat W.green .ok aaY) aaY
 | agL=>asS (ap1 i) (asR (qt W i.toNat) held .ok) aaY
 | afY=>mh Y W x i
 | afo=>.ok
 | .go=>MC Y W x
 | agn=>rF W x
 | afb=>uk W x
abbrev mO aOb aOx:Wd:=match w with
 | afq=>Ml Y.rs (eh Y.ps) (um Y.ps) W i.toNat
 | afV=>if EG Y W i.toNat then AZ W i.toNat ⟨atz,dg Y W.trains (aU Y.rs i.toNat),cq Y (aU Y.rs i.toNat)⟩ else rf W i.toNat
 | agL=>rg W i.toNat
 | afY=>rm Y W x i
 | afo=>rE W
 | .go=>MD Y W x
 | agn=>qp W x
 | afb=>oS W x
abbrev sR aOb aOx:Wd:=match afP with
 | .ok=>mO Y W w i x
 | _=>W
structure Wf aOb:Prop where
 I:alg
 D:awE
 J:GY Y W
def GX.init:∀aOu,GX w->GX w.dropLast
 | [],_=>trivial
 | [_],_=>trivial
 | [_,_],_=>trivial
 | a::b::c::w,h=>⟨h.1,h.2.1,GX.init (w:=b::c::w) h.2.2⟩
def GX.snoc{b:dM}:∀aOu,GX w->(∀a∈w.getLast?,a.2.1=b.2.2/\a.1≠b.1)->GX (w++[b])
 | [],_,_=>trivial
 | [a],_,h=>by have:=h a Ξ;rw[Lb this.1 this.2 trivial]
 | a::c::w,h1,h=>⟨h1.1,h1.2.1,GX.snoc (w:=c::w) h1.2.2 (λ z hz=>h z (by rw[Ω List.getLast?_cons_cons hz]))⟩
def GX.flip:∀aOu,GX w->GX (w.reverse.map flip)
 | [],_=>trivial
 | [_],_=>trivial
 | a::b::w,h=>by
  have ih:=GX.flip (w:=b::w) h.2.2;rw[List.reverse_cons,List.map_append];refine GX.snoc ih (ab7 z hz);rw[List.getLast?_map,List.getLast?_reverse] at hz
  have e:z=Sb.flip b:=aaF hz.symm
  rw[e]
  rw[aab h.1.symm h.2.1.symm]
def Ui.flip aOL aPb(h:Ui ps s):Ui ps (flip s):=⟨h.lt,h.o.mem,⟨h.o.ne.symm,h.i,adD (h.o.tip e).symm⟩⟩
section
variable {Y:gH} {W:Wd}
def QI{d:atM}aOY(h:YW (uX d p)):amL d (aho q.2.steps (s.1≠p)):=by
 rw[ajd uX];rw[Option.map_eq_none_iff,List.find?_eq_none] at h;intro q hq s hs e;refine h q hq ?_;simp only[decide_eq_true_eq];exact aAp s hs (agK e)
def KW aNn aNj(I:alg)aP3(h:aGd W):(ae8 (fz Y.rs r) (acn W.locks p none))/\∀x t,abW=acv->axJ (s.1∉fz Y.rs r):=by
 rw[anh heldW h List.any_eq_false h];rw[ac4 (ab7 p hp) (ais x t hx s hs hp)]
 ·have se:=G.bB.lt r hr p hp
  rw[aiN z hz hp];have h1:=h z hz
  unfold qt at h1
  rw[Bool.or_eq_true,not_or] at h1;rw[aev h2 h1.1 hl (am9 z.1) (by rw[Ω I.ln se])]
  rw[List.getD_eq_getElem?_getD,asA] at h2;rw[asA];cases e:W.locks[z.1] with
  | none=>rfl
  | some _=>rw[aia e h2 h2]
 ·rw[apm z hz e hp];have h1:=h z hz
  unfold qt at h1
  rw[Bool.or_eq_true,not_or] at h1
  rw[ajE h2 (YW (uX W.trains (aae z.1))) (by
   cases e:uX W.trains (aae z.1) with
   | none=>rfl
   | some _=>rw[aia e h1 h1]) (QI h2 _ (i7 hx) s hs e.symm)]
def GY.put(J:GY Y W){W':Wd}aUy(hT:TJ Y.ps t):GY Y W':=λ y u hu=>by
 rw[ht,eL] at hu
 rw[ah3 y x]
 ·rw[amg e hu];cases hu;exact hT
 ·rw[g9 akU hu (J y u hu)]
def GY.same(J:GY Y W){W':Wd}(ht:W'.trains=W.trains):GY Y W':=λ y u hu=>J y u (by rw[abQ ht hu])
def QJ aP9:∃o w,aa8=((cy Y.ss aaE).2,(cy Y.ss aaE).1,o)::w:=by
 rw[ain (G.ok hr).ne (G.ok hr).chain];dsimp only at h1 h2;cases e:aa8 with
 | nil=>rw[afS e h1]
 | cons s w =>
  rw[e] at h2;obtain⟨a',j',o⟩:=s;obtain⟨h3,h4,_⟩:=h2;cases h3;rw[Lb o w (agK h4)]
def Yk aP9:aho aa8 (Ui Y.ps s):=Bk _ _ _ _ (G.ok hr).chain (aqt (by
 cases hb;exact(aBK (uQ (G.sg hr))).2))
def Uk aRF(h:apk=af9):aaE=s:=by
 have:=List.find?_some h;unfold uV at this;exact of_decide_eq_true (Bool.and_eq_true_iff.mp this).1
def KY aNj aNn{old:HB}{a:HB}aPo aP3(h1:aho old (Ui Y.ps s))(h2:GX old)(h3:aho old.head? (azR=c8 aaE)):TJ Y.ps ⟨(aa8).take 1++old,a,b⟩:=by
 rw[aBC o w (QJ G hr)];rw[adS h (Yk G hr) e h];rw[e];rw[ac4 (ab7 s hs) ?_]
 ·rcases List.mem_cons.mp hs with rfl | hs
  ·exact h _ Ξ
  ·exact h1 s hs
 ·cases old with
  | nil=>trivial
  | cons s old =>
   have:=(pz G (h1 s Ξ) (G.sg hr)).mp (h3 s Ξ);rw[Lb this.1.symm this.2.symm h2]
def sS{W:Wd}:(rE W).trains=W.trains:=by
 unfold rE
 have:∀aQr,(rs.foldl dD W).trains=W.trains:=λ rs=>by
  induction rs with
  | nil=>exact λ W=>rfl
  | cons r rs ih =>
   intro W;rw[List.foldl_cons,ih];unfold dD;split<;>rfl
 exact this _ _
def Ul aPw aNj(h:an2)(hk:afP=.ok):Wf Y (mO Y W w i x):=by
 rw[aev R G.bB dQ aIF (amM (G.ok hr).ne)];cases w with
 | set =>
  rw[aJz dS hk hk];split at hk
  ·rename_i hn;split at hk
   ·cases hk
   ·rename_i hh;rw[as9 r hr hn];rw[Int.toNat_natCast] at hh;rw[afF hf ht (KW G h.I hr (aaF hh)) ⟨set_inv R h.I hr (dQ r hr) hf ht,h.D,aE8⟩]
  ·cases hk
 | cancel =>
  rw[aJz dS hk hk];split at hk
  ·split at hk
   ·rename_i hg;rw[am2 mO];split
    ·rename_i hq;have hw:=(Bool.and_eq_true_iff.mp hq).1;rw[ab8 (PR h.I hg) (P0 h.D ?_ (h.I.NS _ hg)) aE8];have:=of_decide_eq_true hw;show W.now<atz;omega
    ·rw[Lb (IC R h.I hg) h.D aE8]
   ·cases hk
  ·cases hk
 | throw=>rw[Lb (Mo h.I) (Mr h.D) aE8]
 | tick=>rw[Lb (PX R h.I) (PZ h.I) (h.J.same sS)]
 | enter =>
  have hk:mh Y W x i=.ok:=hk
  unfold mh at hk;split at hk
  ·split at hk
   ·split at hk
    ·cases hk
    ·rename_i hx;split at hk
     ·rename_i r hp;show Wf Y (rm Y W x i)
      rw[acu rm hp];rw[aaa hl (zO hp) hr (h.I.own r hl).1]
      have hx:aG8:=aHV
      rw[Lb (GD R h.I hl (dQ r hr) (λ t ht=>by rw[hx] at ht; cases ht) apM) (GJ h.D) (h.J.put rfl (KY G hr Ξ trivial Ξ))]
     ·cases hk
   ·cases hk
  ·cases hk
 | go =>
  have hk:MC Y W x=.ok:=hk;show Wf Y (MD Y W x);unfold MC at hk;unfold MD;cases hx:abW with
  | none=>rw[hx] at hk; cases hk
  | some t =>
   rw[hx] at hk;dsimp only at hk ⊢;rw[aaa T (h.I.tr x t hx) J (h.J x t hx)];split at hk
   ·cases hk
   ·split at hk
    ·rename_i ha;rw[ak2 ha];rw[ab8 (Qc R h.I hx ha) (tQ h.D rfl (ah1 (ah7 q hq))) (h.J.put rfl ?_)];cases e:t.ahead with
     | nil=>rw[afS e ha]
     | cons s a =>
      obtain⟨h1,h2,_,h4⟩:=Bn G T e;rw[ac4 (ab7 z hz) ?_]
      ·rcases List.mem_cons.mp hz with rfl | hz
       ·exact h4
       ·exact J.ok z hz
      ·rw[aaa hl J.lnk hn T.ne];unfold bD at h1 h2;show GX (s::t.steps);cases e2:t.steps with
       | nil=>rw[afS e2 hn]
       | cons b w =>
        rw[e2] at h1 h2 hl;rw[Lb h2 (nM h1).2.1 hl]
    ·rename_i ha;rw[afZ ha]
     have ha:anG:=aaF ha
     split at hk
     ·rename_i hb;rw[Lb (TM h.I hx ha hb) (tQ h.D rfl (ah1 (ah7 q hq))) (h.J.put rfl ⟨J.ok,J.lnk⟩)]
     ·rename_i b hb;split at hk
      ·cases hk
      ·rename_i s hs;split at hk
       ·rename_i r hp;rw[hs,Option.bind_some,hp,Option.getD_some];rw[aaa hl (zO hp) hr (h.I.own r hl).1];rw[ab8 (GD R h.I hl (dQ r hr) (λ u hu=>by rw[hx] at hu; cases hu; rfl) (λ hn=>by rw[hx] at hn; cases hn)) (GJ h.D) (h.J.put rfl (KY G hr J.ok J.lnk (ab7 z hz)))]
        have:z=aoq:=by
         rw[af7 bD List.headD_eq_head?_getD hz];rfl
        rw[this,hs,Uk hp]
       ·cases hk
 | draw =>
  have hk:rF W x=.ok:=hk;rw[anA (Wf Y (qp W x)) qp];cases hx:abW with
  | none=>exact h
  | some t =>
   dsimp only;have J:=h.J x t hx;split
   ·rw[ab8 (h.I.del x) (tQ h.D rfl (ah1 (ah7 q hq))) (NV y u hu)];rw[ak1 hu (aG auc y=abF) hu kg hu];split at hu
    ·cases hu
    ·exact h.J y u hu
   ·rename_i h1;rw[Lb (Qe h.I hx h1) (tQ h.D rfl (ah1 (ah7 q hq))) (h.J.put rfl ⟨ale (J.ok s (List.dropLast_subset _ hs)),J.lnk.init⟩)]
 | turn =>
  have hk:uk W x=.ok:=hk;rw[anA (Wf Y (oS W x)) oS];cases hx:abW with
  | none=>exact h
  | some t =>
   have J:=h.J x t hx;rw[ab8 (Qg h.I hx) (Qi h.D) (h.J.put rfl ⟨anV,J.lnk.flip⟩)];rw[aiN z hz hs];exact(J.ok z (List.mem_reverse.mp hz)).flip
def QK aPw aNj(h:an2):Wf Y (sR Y W w i x):=by
 unfold sR;split
 ·rename_i hk;exact Ul G h hk
 ·exact h
universe zE
universe Sb
universe zE
end
mutual
section
namespace Sb
open PySem L2
abbrev B4 aNC:ae2:=[(du "set",η Y.rs.length),(du "cancel",η Y.rs.length),(du "throw",η Y.ps.length)]
abbrev Vt aNC:ae2:=B4 Y++[(aKQ,aB5)]
abbrev yq aNC(w:Wo):aec:=match w with
 | afq=>aMv
 | afV=>aMv
 | agL=>some Y.ps.length
 | afY=>some Y.ss.length
 | _=>none
abbrev kN aOb aOx:Bool:=match yq Y w with
 | aCn=>ck i n
 | none=>aeY w afo || aG5
section
variable {Y:gH} {M:bb} {W:Wd} {j:Nat} {ρ:fk}
def KZ{w:Wo}:jq (Vt Y) (du w.s)=(yq Y w).map (axl n n):=by cases w<;>with_unfolding_all rfl
def Um:nv (B4 Y) aKQ aB5=Vt Y:=aar
def IU{w:Wo}:kq (b5 w.s)=c8 (du w.s):=rfl
def QL(w:Wo):arx (b5 w.s):=by
 have:aAF (b5 w.s):=by cases w<;>decide +kernel
 rw[aqc]
def QM{w v:Wo}:(w.s=v.s)↔w=v:=by cases w<;>cases v<;>decide +kernel
def QN{w v:Wo}aN5:dX neg (b5 w.s) (b5 v.s) M=.ok (.bl (ail (aeY w v) (aeY w v))) M:=sI (QL _) (QL _) (by rw[Ω PV.str.injEq QM])
def EH{w:Wo}{u:Str}aSP aSI:aW (agM (ae k) (t8 u)) ρ M=.ok (aeY w v) M:=by
 subst hu;rw[br,aD,az,h];dsimp only;rw[ag,bq,ag,QN];rfl
def aeB aNl aRL:aw cu [(JC (ae k) (dC (b5 "routes")))] ρ M=.ok (η Y.rs.length) M:=by
 rw[aY,au,h.ix (aoU hk) qr];simp[cu]
def aaZ aNl aRL:aw cu [(JC (ae k) (dC (b5 "pieces")))] ρ M=.ok (η Y.ps.length) M:=by
 rw[aY,au,h.ix (aoU hk) oT];simp[cu]
def aa0 aNl aRL:aw cu [(JC (ae k) (dC (b5 "signals")))] ρ M=.ok aB5 M:=by
 rw[aY,au,h.ix (aoU hk) nR];simp[cu]
def aa1 aNl aRL:Cf [("set",(ae9 (JC (ae k) (dC (b5 "routes"))))),("cancel",(ae9 (JC (ae k) (dC (b5 "routes"))))),("throw",(ae9 (JC (ae k) (dC (b5 "pieces")))))] ρ M=.ok adM (M++[.bP (B4 Y)]):=by
 unfold Cf;simp only[zC,zD,au,aE,aeB h hk,aaZ h hk,ag];rfl
def nH aPw aNl:trunc sv [ο 7,b5 w.s,η i,η x] M=.ok (.bl asu) M:=by
 refine pN.trunc ?_ rfl
 rw[acm sv (∃G,q=.ok (.bl asu) (M++G))];simp only[zC,zD,zE,zF,Nat.zero_add,Nat.reduceAdd,Nat.reduceSub,List.replicate,zG,zH,zI];rw[aga adM (M++[.bP (B4 Y)]) (aa1 h rfl)]
 rw[acB];rw[DB h1 (h.push (.bP (B4 Y))) (aH (fA aB5 (M++[.bP (B4 Y)]) adM (M++[.bP (B4 Y)]) (b5 "enter") (M++[.bP (B4 Y)]) (M++[.bP (Vt Y)]) (aa0 h1 rfl) rfl rfl ?_ acw))]
 ·rw[iG (kvs:=B4 Y) Ξ (kk:=aKQ) rfl (by rw[ayu 3]),Um];simp
 rw[aev h2 (h.push (.bP (Vt Y))) hd (agg (M++aqn (Vt Y)) M.length .bP (Vt Y)) Ξ]
 generalize hM2:M++aqn (Vt Y)=M2 at h2 hd;rw[ag6 fin (∀aPo,b=asu->∃G,(Res.ok (PV.bl b) M2)=.ok (.bl asu) (M++G)) (λ hb=>⟨aqn (Vt Y),af1 hM2 hb⟩) (ee (agc (yq Y w)) M2 ?_ (f6 hk) (f6 hk))]
 ·rw[br];simp only[aD,az,zB,zA,ag];rw[uU hd IU,KZ];cases yq Y w<;>rfl
 ·rw[auZ n hn hk]
  refine bw (.bl (ck i n)) M2 ?_ (cM (aT (fin ?_)))
  ·unfold D0
   simp only[bq,az,zB,zA,ag,A6];unfold ck;by_cases h0:0≤i
   ·simp only[h0,decide_true,Bool.true_and];simp only[aD,az,zB,zA,ag];rw[mW hd IU (by rw[KZ,hn]; rfl),ag,Qk]
   ·simp[h0]
  ·rw[acu kN hn]
 ·rw[avK hn (YW (yq Y w)) (by cases e:yq Y w with
   | none=>rfl
   | some n=>rw[e] at hk; cases hk) e3 (ase [sT,ahj,agO,t7,ahD] fC) (cX (adg (bw (.bl (aeY w afo || aG5)) M2 ?_ (aT (fin ?_)))))]
  ·have e4:(PV.str "tick")=b5 (Wo.tick).s:=rfl;rw[KJ,aD,az,e4];rw[ahk];rw[ag,bq,ag,QN,ag];by_cases ht:w=afo
   ·simp[ht]
   ·simp only[ht,decide_false,Bool.false_eq_true,if_false,Bool.false_or];rw[aD,az];rw[ahk];rw[ag,e3,ag,uU h2.xD (k:=ama) rfl,i8];cases abW<;>rfl
  ·rw[acu kN hn]
abbrev kO aNC aNi aN6 aPP(res:afm)aOx:Prop:=Bi Y j M res afP (mO Y W w i x)
def Bi.get aPl{k:Kd}{W':Wd}(h:Bi Y j M res k W'):∃M',res=.ok (b5 (kM k)) M':=by
 cases k with
 | ok=>obtain⟨M',_,e,_⟩:=h; rw[aab M' e]
 | none=>rw[aab M h]
 | held=>rw[aab M h]
 | red=>rw[aab M h]
def QO aPw(h:acs asu):afP=aaY:=by
 have go:∀{v:Wo},YW (yq Y v)->v≠afo->acs (kN Y W v i x)->aG8:=λ{v} h1 h2 h3=>by
  rw[anh kN h3 h1 h3];simpa[h2] using h3
 cases w with
 | set=>have h:auh:=h;unfold dS;simp[h]
 | cancel=>have h:auh:=h;unfold dS;simp[h]
 | throw=>have h:acs (apr i):=h; unfold dS pw; simp[h]
 | enter=>have h:acs (aq0 i):=h;rw[anA (mh Y W x i=_) mh]; simp[h]
 | tick=>cases h
 | go=>have:=go rfl d6 h;show MC Y W x=_;rw[acu MC this]
 | draw=>have:=go rfl d6 h;show rF W x=_;rw[acu rF this]
 | turn=>have:=go rfl d6 h;show uk W x=_;rw[acu uk this]
def eY aQc(w:Wo){u:Str}{s1 rest:DS}aSP(hv:w≠v)aSI(q:art P (rest ρ M)):art P (aF (av8 (ae k) (t8 u) s1) rest ρ M) :=
 aH (o5 M (af1 (EH v hu h) (decide_eq_false hv)) (cX (aA q)))
def Bo aQc(w:Wo){u:Str}aNp{rest:DS}(hu:w.s=u)aSI(y:PV)aPQ(e:abO=.ok y M')(q:P (.ok y M')):art P (aF (av8 (ae k) (t8 u) (bJ d)) rest ρ M) :=
 aH (Gj M (af1 (EH w hu h) (decide_eq_true rfl)) (bw y M' e (cM (aT q))))
def pZ aPw aTT(ht:gt [ο 7,b5 w.s,η i,η x] M=.ok (.bl asu) M)
  (h0:aGe i->ajk (g0 [ο 7,η i] M) afq)(h1:aGe i->ajk (g1 [ο 7,η i] M) afV)(h2:b8 (apr i)->ajk (g2 [ο 7,η i] M) agL)
  (h3:b8 (aq0 i)->ajk (g3 [ο 7,η x,η i] M) afY)(h4:ajk (g4 [ο 7] M) afo)(h5:∀t,abW=acv->ajk (g5 [ο 7,η x] M) .go)
  (h6:∀t,abW=acv->ajk (g6 [ο 7,η x] M) agn)(h7:∀t,abW=acv->ajk (g7 [ο 7,η x] M) afb) :
  ajk (qZ gt g0 g1 g2 g3 g4 g5 g6 g7 [ο 7,b5 w.s,η i,η x] M) w:=by
 rw[acm qZ (kO Y M W j q w i x)];simp only[zC,zD,zE,zF,Nat.zero_add,Nat.reduceAdd,Nat.reduceSub,List.replicate,zG,zH,zI];rw[alV (auM asu)]
 ·simp only[tL,fq,aY,au,aE,az,zB,zA,ag,ht,xF]
 ·refine ajB (b5 "none") M (aT ?_);rw[atd kO (QO aiS)]
 rw[ab4 hk (b8 asu) aiS (cX acw)]
 rw[d9 tr (∀{v:Wo},YW (yq Y v)->v≠afo->b8 (kN Y W v i x)->∃t,abW=acv) (λ{v} h1 h2 h3=>by
  unfold kN at h3;rw[g9 h1 h3 (Option.isSome_iff_exists.mp (asz h2 h3))]) ev (∀aOZ aOG aNh{y:PV}{M':bb},fF ds [sT,ahj,agO,t7] M=.ok xs M->g xs M=.ok y M'->aw g ds [sT,ahj,agO,t7] M=.ok y M') (λ e1 e2=>by
  rw[aY,e1,ag,e2])]
 cases w with
 | set =>
  have L:=h0 hk;rw[adP M' e L.get (Bo (P:=λ q=>kO Y M W j q afq i x) afq rfl rfl _ M' (ev rfl e) auo)]
 | cancel =>
  have L:=h1 hk;rw[adP M' e L.get (eY (P:=λ q=>kO Y M W j q afV i x) afV afq rfl d6 rfl (Bo (P:=λ q=>kO Y M W j q afV i x) afV rfl rfl _ M' (ev rfl e) auo))]
 | throw =>
  have L:=h2 hk;rw[adP M' e L.get (eY (P:=λ q=>kO Y M W j q agL i x) agL afq rfl d6 rfl (eY (P:=λ q=>kO Y M W j q agL i x) agL afV rfl d6 rfl (Bo (P:=λ q=>kO Y M W j q agL i x) agL rfl rfl _ M' (ev rfl e) auo)))]
 | enter =>
  have L:=h3 hk;rw[adP M' e L.get (eY (P:=λ q=>kO Y M W j q afY i x) afY afq rfl d6 rfl (eY (P:=λ q=>kO Y M W j q afY i x) afY afV rfl d6 rfl (eY (P:=λ q=>kO Y M W j q afY i x) afY agL rfl d6 rfl (Bo (P:=λ q=>kO Y M W j q afY i x) afY rfl rfl _ M' (ev rfl e) auo))))]
 | tick =>
  have L:=h4;rw[adP M' e L.get (eY (P:=λ q=>kO Y M W j q afo i x) afo afq rfl d6 rfl (eY (P:=λ q=>kO Y M W j q afo i x) afo afV rfl d6 rfl (eY (P:=λ q=>kO Y M W j q afo i x) afo agL rfl d6 rfl (eY (P:=λ q=>kO Y M W j q afo i x) afo afY rfl d6 rfl (Bo (P:=λ q=>kO Y M W j q afo i x) afo rfl rfl _ M' (ev rfl e) auo)))))]
 | go =>
  rw[apC t htr (tr rfl d6 hk) L (h5 t htr)];rw[adP M' e L.get (eY (P:=λ q=>kO Y M W j q .go i x) .go afq rfl d6 rfl (eY (P:=λ q=>kO Y M W j q .go i x) .go afV rfl d6 rfl (eY (P:=λ q=>kO Y M W j q .go i x) .go agL rfl d6 rfl (eY (P:=λ q=>kO Y M W j q .go i x) .go afY rfl d6 rfl (eY (P:=λ q=>kO Y M W j q .go i x) .go afo rfl d6 rfl (Bo (P:=λ q=>kO Y M W j q .go i x) .go rfl rfl _ M' (ev rfl e) auo))))))]
 | draw =>
  rw[apC t htr (tr rfl d6 hk) L (h6 t htr)];rw[adP M' e L.get (eY (P:=λ q=>kO Y M W j q agn i x) agn afq rfl d6 rfl (eY (P:=λ q=>kO Y M W j q agn i x) agn afV rfl d6 rfl (eY (P:=λ q=>kO Y M W j q agn i x) agn agL rfl d6 rfl (eY (P:=λ q=>kO Y M W j q agn i x) agn afY rfl d6 rfl (eY (P:=λ q=>kO Y M W j q agn i x) agn afo rfl d6 rfl (eY (P:=λ q=>kO Y M W j q agn i x) agn .go rfl d6 rfl (Bo (P:=λ q=>kO Y M W j q agn i x) agn rfl rfl _ M' (ev rfl e) auo)))))))]
 | turn =>
  rw[apC t htr (tr rfl d6 hk) L (h7 t htr)];rw[adP M' e L.get (eY (P:=λ q=>kO Y M W j q afb i x) afb afq rfl d6 rfl (eY (P:=λ q=>kO Y M W j q afb i x) afb afV rfl d6 rfl (eY (P:=λ q=>kO Y M W j q afb i x) afb agL rfl d6 rfl (eY (P:=λ q=>kO Y M W j q afb i x) afb afY rfl d6 rfl (eY (P:=λ q=>kO Y M W j q afb i x) afb afo rfl d6 rfl (eY (P:=λ q=>kO Y M W j q afb i x) afb .go rfl d6 rfl (eY (P:=λ q=>kO Y M W j q afb i x) afb agn rfl d6 rfl (bw _ M' (ev rfl e) (aT auo)))))))))]
universe zE
universe Sb
universe zE
section
namespace Sb
open PySem L2
structure Dif(a b c d:Addr):Prop where
 ab:a≠b
 ac:a≠c
 ad:a≠d
 bc:b≠c
 bd:b≠d
 cd:c≠d
abbrev Yl aSl aOx aNi:afm:=match w with
 | afq=>g0 [ο 0,η i] M
 | afV=>g1 [ο 0,η i] M
 | agL=>g2 [ο 0,η i] M
 | afY=>g3 [ο 0,η x,η i] M
 | afo=>g4 [ο 0] M
 | .go=>g5 [ο 0,η x] M
 | agn=>g6 [ο 0,η x] M
 | afb=>g7 [ο 0,η x] M
abbrev sU aOx(y:PV):fk:=[t9,ahj,agO,t7,anD,none]
abbrev QP(mJ sA vM vN AG Ph AH AI:D1):DS :=
 (bx (auS aBq) (awx mJ) (bx (aru (t8 "cancel")) (awx sA) (bx (auS aFq) (awx vM) (bx (aru (t8 "enter")) (ayO vN [b7,d8,c7]) (bx (aru (t8 "tick")) (bQ (awv AG)) (bx (aru (t8 "go")) (ayQ Ph) (bx (auS aBj) (ayQ AH) (ayQ AI))))))))
section
variable {C:Cs} {Y:gH} {o:adB} {M:bb} {B:Bx} {W:Wd} {j:Nat} {ρ:fk}
def Bp{w:Wo}{u:Str}{s1 s2:DS}aSP{i x:Int}{y:PV}:bx (auS (t8 u)) s1 s2 (sU w i x y) M=akI w v (s1 (sU w i x y) M) (s2 (sU w i x y) M):=by
 rw[aop bx (EH (w:=w) v hu rfl)];by_cases h:w=v<;>simp[h]
def sV aOZ aOG aNh(h:alc=.ok xs M):bQ (aw g ds) ρ M=akn (g xs M).out _ (.nx ρ M1):=by
 rw[ajN bQ aY h ag]
def GZ aSm aPw{y:PV}:QP g0 g1 g2 g3 g4 g5 g6 g7 (sU w i x y) M=(Yl g0 g1 g2 g3 g4 g5 g6 g7 w i x M).out (sU w i x y) λ _ M1=>.nx (sU w i x y) M1:=by
 rw[d9 h2 (fF (agU c7) (sU w i x y) M=.ok [ο 0,η i] M) rfl h1 (fF [b7] (sU w i x y) M=.ok [ο 0] M) rfl];rw[d9 h3 (fF (agU d8) (sU w i x y) M=.ok [ο 0,η x] M) rfl h4 (fF [b7,d8,c7] (sU w i x y) M=.ok [ο 0,η x,η i] M) rfl];unfold QP;rw[Bp (u := "set") afq rfl,Bp (u := "cancel") afV rfl,Bp (u := "throw") agL rfl,Bp (u := "enter") afY rfl,Bp (u := "tick") afo rfl,Bp (u := "go") .go rfl,Bp (u := "draw") agn rfl,sV h2,sV h2,sV h2,sV h4,sV h1,sV h3,sV h3,sV h3];cases w<;>rfl
abbrev uZ(C:Cs):Kd->Addr
 | .ok=>C.nt
 | aaY=>C.nt
 | .held=>C.he
 | .red=>C.rd
def NU.bad aPl{k:Kd}{P:aHX}(h:NU C Y o M res k P)(hk:k≠.ok):res=YX (uZ C k) M:=by
 cases k with
 | ok=>rw[aoG hk]
 | none=>exact h
 | held=>exact h
 | red=>exact h
def Uo aSm aPw{cB:Addr}{k:Kd}{P:aHX}(h:NU C Y o M (Yl g0 g1 g2 g3 g4 g5 g6 g7 w i x M) k P) :
  (k=.ok/\∃M' o' B',Ge [cB,C.nt,C.he,C.rd] 4 5 (QP g0 g1 g2 g3 g4 g5 g6 g7) (sU w i x .bh) M=.nx (sU w i x .bh) M'/\cV C Y none o' M' B'/\gB o M o' M'/\P B') ∨
  (k≠.ok/\Ge [cB,C.nt,C.he,C.rd] 4 5 (QP g0 g1 g2 g3 g4 g5 g6 g7) (sU w i x .bh) M=.nx (sU w i x adM) (M++[YX (uZ C k)])):=by
 by_cases hk:k=.ok
 ·subst hk;obtain⟨M',o',B',e,h1,h2,h3⟩:=h;refine b4 ⟨rfl,M',o',B',?_,h1,h2,h3⟩;unfold Ge;rw[GZ,e,Res.eu]
 ·refine b9 (aik hk);unfold Ge;rw[akP GZ (h.bad hk) Res.SS];rw[ab2 (af5 (by cases k<;>simp[uZ]))]
def G0{uy:aj8}aM9 aN7{k:Bool}aNp aQI(hn:M[n]? = aa2 YX c)(ht:uy.lookup c=aeK):uG uy d ρ M=.ok (.bl k) M:=by
 rw[apH uG hd ag];rw[afG hn];rw[ht]
def aa3 aT7(h:Dif a b c d):t6 (([(a,x),(b,y),(c,z),(d,u)]:aj8).lookup b) y/\t6 (([(a,x),(b,y),(c,z),(d,u)]:aj8).lookup c) z/\([(a,x),(b,y),(c,z),(d,u)]:aj8).lookup d=abF:=by
 rw[d9 h1 (ai8 b a) (beq_eq_false_iff_ne.mpr h.ab.symm) h2 (ai8 c a) (beq_eq_false_iff_ne.mpr h.ac.symm)];rw[d9 h3 (ai8 c b) (beq_eq_false_iff_ne.mpr h.bc.symm) h4 (ai8 d a) (beq_eq_false_iff_ne.mpr h.ad.symm)];rw[d9 h5 (ai8 d b) (beq_eq_false_iff_ne.mpr h.bd.symm) h6 (ai8 d c) (beq_eq_false_iff_ne.mpr h.cd.symm)];simp only[List.lookup,h1,h2,h3,h4,h5,h6,BEq.rfl,and_self]
def aeD{a b c d:Bool}:countP (ς [.bl a,.bl b,.bl c,.bl d]) [afE] M=.ok (η (aez (acL ([a,b,c,d].filter id)))) M:=by
 cases a<;>cases b<;>cases c<;>cases d<;>with_unfolding_all rfl
def aeE{a b c d:Bool}aNW(h:(aCg [a,b,c,d]) id=aeK):pK (ς [.bl a,.bl b,.bl c,.bl d]) [afE] M=.ok (η k) M:=by
 cases a<;>cases b<;>cases c<;>cases d<;>cases h<;>with_unfolding_all rfl
def kW{cB:Addr}aM9{k:Kd}(hd:Dif cB C.nt C.he C.rd)(hn:agg M n YX (uZ C k))(hk:k≠.ok):pM cB C.he C.nt C.rd [ο n] M=.ok (b5 (kM k)) M:=by
 rw[acm pM (q=.ok (b5 (kM k)) M)];simp only[zC,zD,zE,zF,Nat.zero_add,Nat.reduceAdd,Nat.reduceSub,List.replicate,zG,zH,zI]
 rw[ajg main (∀aP2(k0 k1 k2 k3:Bool)(m:Nat)(r:Str),M[n]? = aa2 YX c->t6 (([aH7,ayl,aym,ayn]:aj8).lookup c) k0->t6 (([ay7,aGA,aym,ayn]:aj8).lookup c) k1->t6 (([ay7,ayl,aGB,ayn]:aj8).lookup c) k2 →
   t6 (([ay7,ayl,aym,aGC]:aj8).lookup c) k3->([aH7,aGA,aGB,aGC]:aj8).lookup c=aly->acL ([k0,k1,k2,k3].filter id)=1->t6 ((aCg [k0,k1,k2,k3]) id) m->([b5 "bad",b5 "none",b5 "held",b5 "red"]:d5)[m]? = akL r->r=kM k →
   art (λ q=>q=.ok (b5 (kM k)) M) ((avb 1 (aaN [(aqf [aH7,ayl,aym,ayn]),(aqf [ay7,aGA,aym,ayn])]) 1 (anr (aaN [(aqf [ay7,ayl,aGB,ayn]),(aqf [ay7,ayl,aym,aGC])])) (aju (bx (Ai (tY (fw (aqf [aH7,aGA,aGB,aGC]))) (ajf (aB7 [(arp .bl)]) (Θ 1))) (adC (t8 "wrong")) fe) (JC (aaN [(t8 "bad"),aJI,aJH,aJ0]) (gD pK f7 [(arp .bl)])))) [awF,none] M)) (by
  intro c k0 k1 k2 k3 m r hn h0 h1 h2 h3 h4 hf hi hr hs;rw[aga (ς [.bl k0,.bl k1]) M ?_]
  ·rw[gA,au,G0 rfl hn h0,ag,au,G0 rfl hn h1,ag,aE,ag,ag,ag,aoT]
  rw[aeZ (acX (ς [.bl k0,.bl k1,.bl k2,.bl k3]) M ?_)]
  ·rw[aD,az];rw[ahk];rw[ag,gA,au,G0 rfl hn h2,ag,au,G0 rfl hn h3,ag,aE,ag,ag,ag,aoT,ag];show aum [.bl k0,.bl k1,.bl k2,.bl k3]=_;rw[aoT]
  rw[aeZ (aH (o5 M ?_ (cX (adg (bw (b5 r) M ?_ (aT (agK hs)))))))]
  ·rw[aev e3 (G0 (ρ:=[awF,akF [.bl k0,.bl k1,.bl k2,.bl k3]]) (d:=b7) rfl hn h4) e4 ((ajf (aB7 [(arp .bl)]) (Θ 1)) [awF,akF [.bl k0,.bl k1,.bl k2,.bl k3]] M=.ok false M) (by
    simp[aeD,hf])]
   rw[sH,tL,fq,e3];exact e4
  ·simp[aeE m hi];rw[eX hr]) l (fun(x y z u:Bool)=>aa3 (x:=x) (y:=y) (z:=z) (u:=u) hd)];cases k with
 | ok=>rw[aoG hk]
 | none=>exact main C.nt false true false false 1 "none" hn (l _ _ _ _).1 (l _ _ _ _).1 (l _ _ _ _).1 (l _ _ _ _).1 (l _ _ _ _).1 rfl rfl rfl rfl
 | held=>exact main C.he false false true false 2 "held" hn (l _ _ _ _).2.1 (l _ _ _ _).2.1 (l _ _ _ _).2.1 (l _ _ _ _).2.1 (l _ _ _ _).2.1 rfl rfl rfl rfl
 | red=>exact main C.rd false false false true 3 "red" hn (l _ _ _ _).2.2 (l _ _ _ _).2.2 (l _ _ _ _).2.2 (l _ _ _ _).2.2 (l _ _ _ _).2.2 rfl rfl rfl rfl
abbrev Vu aNS aOS aSR(v:Kd->PV)(P:aHX):Prop :=
 (k=.ok/\∃M' o' B',res=.ok (v k) M'/\cV C Y none o' M' B'/\gB o M o' M'/\P B')\/(k≠.ok/\∃c,res=.ok (v k) (M++[YX c]))
universe zE
universe Sb
universe zE
section
namespace Sb
open PySem L2
abbrev fj(d:Wo×Int×Int):PV:=f9 [b5 d.1.s,η d.2.1,η d.2.2]
abbrev Vv(d:Wo×Int×Int):Prop:=Sm d.2.1/\Sm d.2.2
def tX{N m:Int}(hm:0<m):∃k:Nat,N%m=k/\auj<m:=by
 rw[ain (aEb N b m) (Int.emod_lt_of_pos N hm)];rw[Lb (ah4 (N%m)) b6 b6]
section
variable {Y:gH} {M:bb} {W:Wd} {j:Nat} {ρ:fk}
def pA{N m:Int}(h:0<m):cx (η N) (η m) M=.ok (η (N%m)) M:=by
 unfold cx lQ; simp[h]
def Bq{N m:Int}(h:0<m)(h2:axT m):dR (η N) (η m) M=.ok (η (N / m)) M:=by
 unfold dR lQ; simp[h,h2]
def EI aNq aQy aQq{d dm:DE}{N c:Int}aNf aUC(hm:dm ρ M=.ok (η xs.length) M)(hN:ajx k aqv)(dQ:axk 0)(h1:0<c:=by decide)(h2:axT c:=by decide) :
  ∃a∈xs,amG d (aB cx (aB dR (ae k) (Θ c)) dm) ρ=.ok anJ M:=by
 rw[alv m e1 e2 (tX (N:=N / c) (m:=xs.length) b6) se (axk m) b6]
 rw[ab8 xs[m] aMb ?_];rw[aD,hd,ag,aD,aD,az,hN];dsimp only;rw[ag,bq,ag,Bq h1 h2,ag,hm,ag,pA b6,ag,e1];exact eX (by rw[zJ,List.getElem?_eq_getElem se];rfl)
def QQ aNq aQy aQq aNp aUC:aw cu [d] ρ M=.ok (η xs.length) M:=by
 rw[aY,au,hd];simp[cu]
def aeF aOQ aO2:cu [ο n] M=.ok aHg M:=by
 unfold cu;simp[rO,h]
def fT aPS{gb gn:D1}aNl(hs:alM)(hss:Y.ss.length≤16)aUJ
  (hn:gn [ο 7,η s] M=.ok (gJ (dg Y W.trains s)) M)(FQ:asP q (Sm q.1))(PH:aDX 90) :
  ∃ds:ae5 Wo (Int×Int),aH8/\(∀d∈ds,Vv d)/\kb gb gn [ο 7,η s] M=.ok (ς (ds.map fj)) M:=by
 rw[d9 hnn (anZ (dg Y W.trains s) afQ) (alS (by
  rw[aiN q hq hx];exact FQ q aJl.1)) Ue (ag4 (dg Y W.trains s) 90) (by
  rw[agC dg zK (aq2 (List.length_filter_le _ _) PH)])]
 have key:∃ds:ae5 Wo (Int×Int),aH8/\(∀d∈ds,Vv d)/\((b8 aiy/\∃nm:Int,ds=[(afY,aul,nm)]/\amG (aaN [(Θ 0),(Θ 101),(Θ 102),(Θ 103),(Θ 104)]) (aw Ie [(Θ 4),(ae9 ajY)]) [sT,adN,anz,anH]=.ok (η nm) M)\/(acs aiy/\ds=agj (dg Y W.trains s).map x (.go,0,x))):=by
  rw[ahT hk aiy]
  ·obtain⟨m,hm5,hm⟩:∃m:Nat,m<5/\(if afh W.trains.length<4 then(aez W.trains.length:Int) else 4)=anR:=by
    split
    ·rw[amU W.trains.length b6]
    ·rw[amU 4 b6]
   rw[d9 hl (ahb ([0,101,102,103,104]:abE)=5) rfl se (m<ahb ([0,101,102,103,104]:abE)) b6]
   rw[ahq hsm (∀y∈([0,101,102,103,104]:abE),Sm y) (by
    intro y hy;rw[aiC hy];unfold Sm;omega) ⟨[(afY,aul,([0,101,102,103,104]:abE)[m])],Ξ,?_,b4 (agY hk _ ?_)⟩]
   ·intro d hd;rw[List.mem_singleton.mp hd];rw[aab ⟨by show -1000≤aul;omega,by show aul≤_; omega⟩ (hsm _ aMb)]
   ·have e1:=akr [sT,adN,anz,anH] fC;rw[aD,gA];simp only[au,aE,bq,ag,aY];rw[aoT,ag,e1];rw[akT (aeF h.xD)];rw[ao6 (Ie [η 4,η (aez (acL aim))] M) .ok (η (if afh (acL aim)<4 then(aez (acL aim):Int) else 4)) M,A4,hm,ag]
    exact eX (xs:=ax1 ([0,101,102,103,104]:abE).map) (by rw[zJ,List.getElem?_eq_getElem se];rfl)
  ·rw[an1 (agj (dg Y W.trains s).map x (.go,0,x)) (aaF Ue) ?_ (b9 (akG aiS))];intro d hd;rw[aiN x hx hd];rw[aab ⟨by show -1000≤auk;omega,by show auk≤_; omega⟩ (hnn x hx)]
 obtain⟨ds,hdl,MA,hc⟩:=key;rw[an1 ds hdl MA ?_];rw[acm kb (q=.ok (ς (ds.map fj)) M)];simp only[zC,zD,zE,zF,Nat.zero_add,Nat.reduceAdd,Nat.reduceSub,List.replicate,zG,zH,zI];rw[DB e1 (h.ix (ρ:=[sT,adN,none,none]) (d:=b7) rfl nR) (aH (Df awf [sT,adN,anz,anH] M ?_ Qx acw))]
 ·rw[aD,e1];simp[AQ hs]
 rw[DB e2 (h.ix (ρ:=[sT,adN,anz,anH]) (d:=b7) rfl oT) (aH (ee aiy M ?_ (f6 hk) (f6 hk)))]
 ·rw[br,aD,aY,au,e2];simp only[au,aE,az,zB,zA,ag,bq,hb,Vs];rfl
 ·rcases hc with⟨_,nm,rfl,e⟩ | ⟨hc,_⟩
  ·rw[ahn (bw (ς [fj (afY,aul,nm)]) M ?_ (cM (aT rfl))) gA];simp only[au,aE,pf,e,bq,az,zB,zA,ag];rw[ab2 aoT]
  ·rw[hk] at hc; cases hc
 ·rcases hc with⟨hc,_⟩ | ⟨_,rfl⟩
  ·rw[hk] at hc; cases hc
  ·rw[ahn (cX (aGk _)) (cj (xs:=dg Y W.trains s) (w:=none) (M':=M) (ahC afp n) (λ _=>true) (λ x=>fj (.go,0,x)) (aiz [y]) (dZ (by simp only[aY,au,aE,az,zB,zA,ag,hn])) trivial aiH (ajK z) (ad0 Ue))]
   ·rw[amK,bT (by rw[aqh Ue]),List.map_map];rfl
   ·rw[afF y rfl hρ (aa9 _ rfl adE (λ _=>by rw[ab2 pf]))]
universe zE
universe Sb
universe zE
end
mutual
section
namespace Sb
open PySem L2
abbrev IV:DS:=(agf (agM (aB cx d8 (Θ 32)) (Θ 1)) (ae4 9 (JC (aaN [(rQ (Θ 1)),aIK,(afw (Θ 1000) (at1 32 (Θ 1000)))]) (aB cx (aB dR d8 ayj) (Θ 3))) (bR 5 (JC (aaN [(rQ (Θ 5)),(Θ 3),aKS]) (aB cx (aB dR d8 ayj) (Θ 3))))) (ayw [agh,(ae 9),(Ic aIL (ae 5) (JC (aaN [(Θ 0),(Θ 100),(Θ 101),(rQ (Θ 3))]) (aB cx (aB dR d8 (Θ 512)) (Θ 4))))]))
abbrev IW:DS:=(aF (atZ agh (t8 "cancel") aHN (bR 9 (JC (ahI "green") (aB cx (aB dR d8 (Θ 64)) (ae9 (ahI "green")))))) IV)
abbrev IX:DS:=(aF (bx (lx (fw aKG) (lx (fw aau) (aW (agM (aB cx d8 (Θ 4)) (Θ 2))))) (ayw [(JC (aaN [(t8 "turn"),(t8 "go"),(t8 "turn"),(t8 "tick")]) (aB cx (aB dR d8 (Θ 64)) (Θ 4))),(Θ 0),(JC aau (aB cx (aB dR d8 (Θ 256)) aG3))]) fe) IW)
abbrev QR(jN:D1):DS:=(aF (bx (lx (aW (agM (aB cx d8 (Θ 4)) (Θ 0))) aHN) (avb 10 (JC (ahI "green") (aB cx (aB dR d8 (Θ 64)) (ae9 (ahI "green")))) 11 (afw (aw jN [c7,(aiq (aoy axC 10))]) (aB (la false) (awD [(t8 "cancel"),(ae 10),(Θ 0)]) aHx)) (bx (fw azA) (adC (JC azA (aB cx (aB dR d8 (Θ 1024)) (ae9 azA)))) fe)) fe) IX)
abbrev Uq:List Wo:=[afq,afq,.go,.go,.go,agn,agn,afY,afV,afo,agL,afb]
abbrev i9 aOj(k N:Int)(names:abE)(nm:Int)(l:PV)(w:Wo)aNd(a:Int)(y z:akQ):fk:=[aiR .m5,afc,sT,aqv,axZ,abS nm,some l,ahj,awF,aC3,y,z]
abbrev RO aNi(q:afm):Prop:=∃d,Vv d/\q=.ok (fj d) M
abbrev sW aNC(w:Wo):Nat:=match w with
 | afq=>Y.rs.length
 | afV=>Y.rs.length
 | agL=>Y.ps.length
 | _=>Y.ss.length
section
variable {Y:gH} {M:bb} {W:Wd} {j:Nat} {ns:abE} {k N:Int} {names:abE} {nm:Int} {l:PV} {w:Wo} {n:Nat} {a:Int} {y z:akQ} {ρ:fk}
def G1 aNj:apv (sW Y w):=by
 rw[akR h1 G.len h2 G.g.qA h3 G.g.AO];cases w<;>(rw[am2 sW]; omega)
def Dw aUa(h8:ajx 8 awF)(h7:ajx 7 ahj)(h2:axQ 2):lU (ae 8) agh (ae9 (ahI "signals")) ρ M=.ok (η (sW Y w)) M:=by
 rw[apH lU az h8];rw[apu ag (fc hd)];rw[apu az h7];rw[ag,aa0 h h2,ag,fc hd,IU]
 dsimp only
 rw[aAh ((jq (B4 Y) (du w.s)).getD aB5=η (sW Y w)) (by cases w<;>with_unfolding_all rfl)]
def tmod{c r:Int}(h3:ajx 3 aqv)(hc:0<c):aW (agM (aB cx d8 (Θ c)) (Θ r)) ρ M=.ok (aeY (N%c) r) M:=by
 rw[br,aD,aD,az,h3];dsimp only;rw[ag,bq,ag,pA hc,ag,bq,ag,dU];rfl
def QS aNl(h2:axQ 2):fw (ahI "green") ρ M=.ok aJN M:=by
 rw[fq,h.ix (aoU h2) tV,ag];simp[jr]
def G2 aNl(h2:axQ 2)(h3:ajx 3 aqv)(hg:aJw):∃r∈W.green,amG (ahI "green") (at1 64 (ae9 (ahI "green"))) ρ=.ok (η r) M:=by
 rw[aev e (h.ix (ρ:=ρ) (d:=c7) (aoU h2) tV) hp (0<W.green.length) (aDV hg)];exact EI (enc:=ahC (aez r) (aae r)) e (QQ (enc:=ahC (aez r) (aae r)) e) h3 hp
def lits{xs:abE}(hl:aBZ)aOG(h:alc=.ok aFC M):bS false ds ρ M=.ok (ς (xs.map PV.int)) M:=by
 rw[gA,h,ag,bZ aCp]
def Ur aNy(h1 : -1000≤i:=by decide)(h2:aJL i:=by decide):ahz:=⟨h1,h2⟩
def K0 aNj aUa aRq:art (RO M) (IV (i9 ns k N names nm l w n a y z) M):=by
 unfold IV
 rw[ag6 last (∀(nm a:Int),azB->Sm a->art (RO M) ((ayw [agh,(ae 9),(Ic aIL (ae 5) (JC (aaN [(Θ 0),(Θ 100),(Θ 101),(rQ (Θ 3))]) (aB cx (aB dR d8 (Θ 512)) (Θ 4))))]) (i9 ns k N names nm l w n a y z) M)) (λ nm a FQ ha=>by
  have e1:aW (aB (dX true) agh (t8 "enter")) (i9 ns k N names nm l w n a y z) M=.ok (!(aeY w afY)) M:=by
   have e4:(PV.str "enter")=b5 (Wo.enter).s:=rfl;rw[br,aD,show ae 7 (i9 ns k N names nm l w n a y z) M=.ok (b5 w.s) M from rfl,ag,bq,ag,e4,QN]
   rfl
  obtain⟨b,hb,e2⟩:∃b∈([0,100,101,-3]:abE),amG (aaN [(Θ 0),(Θ 100),(Θ 101),(rQ (Θ 3))]) (at1 512 (Θ 4)) (i9 ns k N names nm l w n a y z)=.ok (η b) M :=
   EI (enc:=PV.int) (xs:=[0,100,101,-3]) (lits d6 rfl) rfl rfl d6
  have hbs:Sm b:=by
   rw[aiC hb];unfold Sm;omega
  obtain⟨c,hc,e3⟩:∃c,Sm c/\Ic aIL (ae 5) (JC (aaN [(Θ 0),(Θ 100),(Θ 101),(rQ (Θ 3))]) (aB cx (aB dR d8 (Θ 512)) (Θ 4))) (i9 ns k N names nm l w n a y z) M=.ok (η c) M:=by
   have eo:∃q,Ai (ajf agh (t8 "enter")) (aW (agM (aB cx d8 (Θ 8)) (Θ 3))) (i9 ns k N names nm l w n a y z) M=.ok q M:=by
    rw[sH,e1,ag,aHr];by_cases hw:w=afY<;>simp[hw]
   obtain⟨q,eo⟩:=eo;rw[xi,eo,ag];cases q with
   | true=>rw[amU nm FQ]
   | false=>rw[Lb b hbs e2]
  refine bw (fj (w,a,c)) M ?_ (aT (alN ⟨ha,hc⟩));rw[pf,au,show ae 7 (i9 ns k N names nm l w n a y z) M=.ok (b5 w.s) M from rfl,ag,au,ayR 9 (i9 ns k N names nm l w n a y z) M .ok a M,ag,au,e3]
  rfl) (ee (aeY (N%32) 1) M aHr (f6 hk) (λ hk=>cX (adg (last nm a FQ ha))))];have WV:=G1 (w:=w) G
 obtain⟨q,eq1,eq2⟩:=aFR N (N / 32) m 1000
 obtain⟨b,hb,e2⟩:∃b∈([-1,aae (sW Y w),1000+N / 32%1000]:abE),amG (aaN [(rQ (Θ 1)),aIK,(afw (Θ 1000) (at1 32 (Θ 1000)))]) (aB cx (aB dR d8 ayj) (Θ 3)) (i9 ns k N names nm l w n a y z)=.ok (η b) M:=by
  rw[apI (EI (enc:=PV.int) (xs:=[-1,aae (sW Y w),1000+N / 32%1000]) (lits (by show air 3;decide) ?_) rfl rfl (by show 0<3;decide)) e1 (rQ (Θ 1) (i9 ns k N names nm l w n a y z) M=.ok (η (-1)) M) rfl e3 (aB (dn false) (Θ 1000) (at1 32 (Θ 1000)) (i9 ns k N names nm l w n a y z) M=.ok (η (1000+N / 32%1000)) M) (by
   rw[aD,bq,ag,aD,aD,ayR 3 (i9 ns k N names nm l w n a y z) M .ok N M,ag,bq,ag,Bq d6 d6,ag,bq,ag,pA d6,ag]
   rfl)]
  rw[au,e1,ag,au,Dw (w:=w) h hd rfl rfl rfl,ag,au,e3];rfl
 rw[axW hbs (Sm b) (by
  rw[aiC hb];unfold Sm;omega) (η b) M e2];show Gi (L2.Fin (RO M)) _ (bR 5 _ (i9 ns k N names nm l w n b y z) M)
 obtain⟨c,hc,e4⟩:∃c∈([-5,3,999999]:abE),amG (aaN [(rQ (Θ 5)),(Θ 3),aKS]) (aB cx (aB dR d8 ayj) (Θ 3)) (i9 ns k N names nm l w n b y z)=.ok (η c) M :=
  EI (enc:=PV.int) (xs:=[-5,3,999999]) (lits d6 rfl) rfl rfl d6
 rw[ab4 hcs (Sm c) (by
  rw[aiC hc];unfold Sm;omega) (yi (η c) M e4 acw)];exact last c b hcs hbs
def Us aNj aNl aSa aRq:art (RO M) (IW (i9 ns k N names nm l w n a y z) M):=by
 rw[aoa IW (aH (ee (aif (w=afV) aJN) M ?_ (f6 hk) (λ hk=>cX (adg (K0 G h hd FQ ha)))))]
 ·rw[jy,EH (w:=w) (u := "cancel") afV rfl rfl,ag,QS h rfl];by_cases hw:w=afV<;>simp[hw]
 ·have hg:aJw:=aKf aDY.2
  rw[ana r hr e (G2 (N:=N) (ρ:=i9 ns k N names nm l w n a y z) h rfl rfl hg) (yi (η r) M e acw)];rw[ain (Ey r hr) G.len];exact K0 (a:=aae r) G h hd FQ aCa
def K1 aNj aNl aSa(LC:anZ names afQ)aRq:art (RO M) (IX (i9 ns k N names nm l w n a y z) M):=by
 unfold IX;rw[DB ef (h.ix (ρ:=i9 ns k N names nm l w n a y z) (d:=c7) rfl mB) (aH (ee (aMx && (aJ4 && aeY (N%4) 2)) M ?_ (f6 hk) (λ hk=>cX (adg (Us G h Ey hd FQ ha)))))]
 ·rw[agw e1 (fw aKG (i9 ns k N names nm l w n a y z) M=.ok aMx M) (by
   rw[fq,ef,ag];rw[aoh jr h.w9];rw[atd encD List.isEmpty_map]) e2 (fw aau (i9 ns k N names nm l w n a y z) M) (.ok aJ4 M) (by
   rw[fq,show ae 4 (i9 ns k N names nm l w n a y z) M=.ok (gJ names) M from rfl,ag]
   simp[jr])]
  rw[jy,e1,ag,jy,e2,ag,aHr];cases W.falls.isEmpty<;>cases names.isEmpty<;>simp
 ·rw[d9 hn (acs names.isEmpty) (by
   have:=(Bool.and_eq_true_iff.mp aDY.2).1;simpa using this) hp (0<names.length) (aDV hn)]
  obtain⟨v,hv,e1⟩:∃v∈([afb,.go,afb,afo]:List Wo),amG (aaN [(t8 "turn"),(t8 "go"),(t8 "turn"),(t8 "tick")]) (at1 64 (Θ 4)) (i9 ns k N names nm l w n a y z)=.ok (b5 v.s) M :=
   EI (enc:=fun(v:Wo)=>PV.str v.s) (xs:=[afb,.go,afb,afo]) (by rw[Ω gA (bZ d6)]) rfl rfl d6
  have en:ae 4 (i9 ns k N names nm l w n a y z) M=.ok (ς aMB) M:=rfl;rw[ana x hx e2 (EI (c:=256) (N:=N) (k:=3) (enc:=PV.int) (xs:=names) en (QQ (enc:=PV.int) en) rfl hp) (bw (fj (v,0,x)) M ?_ (cM (aT (alN ⟨Ur (i:=0),LC x hx⟩))))];rw[pf,au,e1,ag,au,bq,ag,au,e2];rfl
def Ut{gd:D1}aNj aNl aSa(LC:anZ names afQ)aRq
  (hg:aAk s alM (∃ds:ae5 Wo (Int×Int),aH8/\(∀d∈ds,Vv d)/\gd [ο 7,η s] M=.ok (ς (ds.map fj)) M)):art (RO M) (QR gd (i9 ns k N names nm l w n a none none) M):=by
 rw[aoa QR (aH (ee (aif (N%4=0) aJN) M ?_ (f6 hk) (λ hk=>cX (adg (K1 G h Ey hd LC FQ ha)))))]
 ·rw[jy,aHr,ag,QS h rfl];by_cases hw:N%4=0<;>simp[hw]
 ·have hge:aJw:=aKf aDY.2
  rw[aBC r hr (G2 (N:=N) (ρ:=i9 ns k N names nm l w n a none none) h rfl rfl hge)];rw[DB Mz (Ey r hr) (acX (η r) M e)];show Gi (L2.Fin (RO M)) _ (aF (bR 11 _) _ (i9 ns k N names nm l w n a aas none) M);obtain⟨ds,hdl,MA,eg⟩:=hg aaE (G.sg Mz);have er:=h.ix (ρ:=i9 ns k N names nm l w n a aas none) (d:=c7) rfl qr
  obtain⟨m,em,hm⟩:=aFR N (N / 256) m 2
  rw[agw e1 (aw gd [c7,(aiq (aoy axC 10))] (i9 ns k N names nm l w n a aas none) M=.ok (ς (ds.map fj)) M) (by
   rw[aY,au,show ae 2 (i9 ns k N names nm l w n a aas none) M=.ok (ο 7) M from rfl,ag,au,aD,aD,er,ag,ayR 10 (i9 ns k N names nm l w n a aas none) M .ok r M,ag,we Mz,ag,bq,ag,vR]
   rw[akT aE]
   exact eg) e2 (aB (la false) (awD [(t8 "cancel"),(ae 10),(Θ 0)]) aHx (i9 ns k N names nm l w n a aas none) M) (.ok (ς ((aEy (Wo.cancel,aae r,auk)).map fj)) M) (by
   have el:bS false [(gI [(t8 "cancel"),(ae 10),(Θ 0)])] (i9 ns k N names nm l w n a aas none) M=.ok (ς [fj (afV,r,0)]) M:=by
    rw[gA,au,pf];exact aoT
   rw[aD,el,ag,aD,aD,ayR 3 (i9 ns k N names nm l w n a aas none) M .ok N M,ag,bq,ag,Bq d6 d6,ag,bq,ag,pA d6,ag,em]
   have:m=0\/m=1:=b6
   rcases this with rfl | rfl<;>with_unfolding_all rfl)]
  have e3:∃MJ:ae5 Wo (Int×Int),air MJ.length/\(∀d∈MJ,Vv d)/\(afw (aw gd [c7,(aiq (aoy axC 10))]) (aB (la false) (awD [(t8 "cancel"),(ae 10),(Θ 0)]) aHx)) (i9 ns k N names nm l w n a aas none) M=.ok (ς avF) M:=by
   rw[an1 (ds++aEy (Wo.cancel,aae r,auk)) (by rw[List.length_append,List.length_replicate]; omega) (ab7 d hd) ?_]
   ·rcases List.mem_append.mp hd with hd | hd
    ·exact MA d hd
    ·rw[List.eq_of_mem_replicate hd];have h2:=G.len;rw[aab ⟨by show -1000≤aae r;omega,by show aae r≤_; omega⟩ (Ur (i:=0))]
   ·rw[aD,e1,ag,e2,ag,qa,← List.map_append,bZ (by rw[zK,List.length_append,List.length_replicate];omega)]
  obtain⟨MJ,Ow,NL,e3⟩:=e3;rw[aga (ς avF) M e3];show Gi (L2.Fin (RO M)) _ (bx _ _ _ (i9 ns k N names nm l w n a aas (aiV avF)) M)
  refine ee (! MJ.isEmpty) M ?_ (f6 jz) (λ _=>cX (adg (K1 G h Ey hd LC FQ ha)))
  ·rw[fq,show ae 11 (i9 ns k N names nm l w n a aas (aiV avF)) M=.ok (ς avF) M from rfl,ag]
   simp[jr]
  ·rw[agw hp (0<MJ.length) (aDV aCq) en (ae 11 (i9 ns k N names nm l w n a aas (aiV avF)) M) (.ok (ς avF) M) rfl];rw[aq7 d Sr e4 (EI (c:=1024) (N:=N) (k:=3) (enc:=fj) (xs:=MJ) en (QQ (enc:=fj) en) rfl hp) (bw (fj d) M e4 (cM (aT (ah7 d (NL d Sr)))))]
def p0{gm gd:D1}aPH aNj aNl(Ey:∀r∈W.green,adt)(LC:asP q (Sm q.1))(PH:aDX 90)
  (hg:∀aNi aOg,ab3->alM->∃ds:ae5 Wo (Int×Int),aH8/\(∀d∈ds,Vv d)/\gd [ο 7,η s] M=.ok (ς (ds.map fj)) M) :
  ∃d,Vv d/\trunc (oC gm gd) [.m5 ns,η k,ο 7] M=.ok (fj d) M:=by
 have main:RO (M++[.bP (B4 Y)]) (oC gm gd [.m5 ns,η k,ο 7] M):=by
  rw[aoa oC (cN (P:=RO (M++[.bP (B4 Y)])) ?_)];simp only[zC,zD,zE,zF,Nat.zero_add,Nat.reduceAdd,Nat.reduceSub,List.replicate,zG,zH,zI];rw[aga (η azI) M (d7 (hm ns k M))]
  rw[acB];generalize azI=N
  rw[ajs Ue (ag4 aAt 90) (by rw[ak4 PH]) Ym (anZ aAt afQ) (alS (by
   rw[aiN q hq hx];exact LC q hq)) (acX (gJ aAt) M ?_)]
  ·have e:=h.ix (ρ:=[aiR .m5,afc,sT,aqv,none,none,none,none,none,none,none,none]) (d:=c7) rfl fC;rw[aY,au,e];rw[akT aE];rw[aoh m9 (fc h.xD)];rw[IL,bT (by rw[aBu PH])];rw[apX gJ]
  rw[acB];generalize aAt=names at Ue Ym
  obtain⟨nm,FQ,e1⟩:∃nm,azB/\(Ic (fw aau) (JC aau (aB cx (aB dR d8 (Θ 16)) aG3)) (Θ 7)) [aiR .m5,afc,sT,aqv,axZ,none,none,none,none,none,none,none] M=.ok (η nm) M:=by
   rw[d9 en (ae 4 [aiR .m5,afc,sT,aqv,axZ,none,none,none,none,none,none,none] M=.ok (ς aMB) M) rfl et (fw aau [aiR .m5,afc,sT,aqv,axZ,none,none,none,none,none,none,none] M=.ok aJ4 M) (by
    rw[fq,en,ag];simp[jr])]
   rw[xi,et,ag];cases he:names.isEmpty with
   | true=>rw[amU 7 Ur]
   | false =>
    have hp:0<names.length:=aDV he;rw[agl x hx e (EI (c:=16) (N:=N) (k:=3) (enc:=PV.int) (xs:=names) en (QQ (enc:=PV.int) en) rfl hp) x (Ym x hx) e]
  rw[aga (η nm) M e1]
  rw[aeZ (acX (ς (Uq.map (as1 w w.s))) M ?_)]
  ·rw[Ω gA (bZ d6)]
  rw[acB]
  rw[ana w hw e2 (EI (c:=4) (N:=N) (k:=3) (M:=M) (ρ:=[aiR .m5,afc,sT,aqv,axZ,abS nm,aiV (Uq.map (as1 w w.s)),none,none,none,none,none]) (enc:=as1 w w.s) (xs:=Uq) (d:=ae 6) (dm:=Θ 12) rfl rfl rfl d6) (acX (b5 w.s) M e2)];rw[aeZ (acX adM (M++[.bP (B4 Y)]) (aa1 h rfl))]
  rw[acB];rw[aev h1 (h.push (.bP (B4 Y))) hd (agg (M++aqn (B4 Y)) M.length .bP (B4 Y)) Ξ]
  rw[avu (M++aqn (B4 Y)) h1 hd];generalize M.length=n at hd;rw[aev WV (G1 (w:=w) G) hmx (0<(if aae (sW Y w) > 1 then(sW Y w:Int) else 1)) (by split<;>omega)]
  obtain⟨a,ea,ha⟩:=tX (N:=akA (k+1)) hmx
  rw[axW NR (apv a) (by split at ha<;>omega) (η a) M1 ?_]
  ·have e3:=Dw (w:=w) (n:=n) (ρ:=[aiR .m5,afc,sT,aqv,axZ,abS nm,aiV (Uq.map (as1 w w.s)),ahj,awF,none,none,none]) h1 hd rfl rfl rfl;simp only[aD,aY,au,aE,az,zB,zA,ag,bq,vB,hm ns _ M1] at e3 ⊢;rw[e3];simp only[ag];rw[ao6 (SQ [η 1,η (sW Y w)] M1) .ok (η (if aae (sW Y w) > 1 then(sW Y w:Int) else 1)) M1,ag,pA hmx,ea]
  rw[acB]
  exact Ut (a:=aae a) G h1 Ey hd Ym FQ aCa (ale (hg M1 s h1 hs))
 rw[agl d hd e main d hd (pN.trunc ⟨_,e⟩ rfl)]
universe zE
universe Sb
universe zE
section
namespace Sb
open PySem L2
section
variable {C:Cs} {Y:gH} {o:adB} {M:bb} {B:Bx} {W:Wd} {j:Nat} {w:Wo} {i x:Int}
def QT{y:Int}(hy:y≠x):aG (mO Y W w i x).trains y=azD:=by
 cases w with
 | set=>rfl
 | cancel=>rw[am2 mO]; split<;>rfl
 | throw=>rfl
 | tick=>show aG (rE W).trains y=_; rw[sS]
 | enter =>
  show az1=_;rw[eL,avD]
 | go =>
  rw[anA (aG (MD Y W x).trains y=_) MD];split
  ·rfl
  ·split
   ·show az1=_;rw[eL,avD]
   ·split
    ·show az1=_;rw[eL,avD]
    ·show az1=_;rw[eL,avD]
 | draw =>
  rw[anA (aG (qp W x).trains y=_) qp];split
  ·rfl
  ·split
   ·show aG auc y=_;rw[kg,avD]
   ·show az1=_;rw[eL,avD]
 | turn =>
  rw[anA (aG (oS W x).trains y=_) oS];split
  ·rfl
  ·show az1=_;rw[eL,avD]
def K2{y:Int}(hy:y≠x):aG (sR Y W w i x).trains y=azD:=by
 unfold sR;split
 ·exact QT hy
 ·rfl
def Yn aNj(h:an2)(hn:asP q (Sm q.1))aOp:amL (sR Y W w i x).trains (Sm q.1):=ah1 (by
 rw[ah3 q.1 x]
 ·rw[alL hx]
 ·have h1:=cL (QK (w:=w) (i:=i) (x:=x) G h).I.xp hq;rw[g9 (K2 e) h1 (hn _ (i7 h1))])
structure Sd aNS aNi aNZ aN6(o:adB)aPP:Prop where
 y:aeW
 w:ab3
 f:an2
 S:aix
 sep:∀i,wAd j i->o i=.A7
 nm:asP q (Sm q.1)
abbrev St aNS aNi aN6:Prop:=∃B o j,akE
abbrev Uu aNS aOS aN6(res:afm)aOx:Prop:=NU C Y o M res afP λ B'=>lH Y (mO Y W w i x) B'
def Sd.push(s:akE)(v:MO):Sd C Y (M++[v]) B W (df o M.length .A7) j:=by
 refine⟨s.y.push v .A7,s.w.push v,s.f,s.S,ab7 i hi,s.nm⟩;unfold df;split
 ·rfl
 ·exact s.sep i hi
def gv.ad aNl aNt(hi:wAd j i):aoC i:=by
 rcases hi with rfl | rfl | rfl | rfl | rfl
 ·exact cU h.w6
 ·exact cU h.w7
 ·exact cU h.w9
 ·exact aGO
 ·exact cU h.wl
def aa4{M':bb}aNY(f:aIg)(sep:∀i,wAd j i->o i=.A7):cV C Y none o M' B :=
 h.keep f.len λ i hi dQ=>f.out i (aBT (sep i (b4 e))) (aBT (sep i (b9 (b4 e)))) (aBT (sep i (b9 (b9 (b4 e))))) (aBT (sep i (b9 (b9 (b9 (b4 e)))))) (aBT (sep i (b9 (b9 (b9 (b9 e)))))) hi
abbrev K3 aNS(gd:D1):Prop:=∀M B W o j aOx,akE->ajk (gd [ο 7,b5 w.s,η i,η x] M) w
abbrev IY aNS(ga:D1)(v:Kd->PV):Prop:=∀M B W o aOx,aeW->an2->aix->ahz->afQ->Vu C Y o M (ga [ο 0,b5 w.s,η i,η x] M) afP v λ B'=>lH Y (mO Y W w i x) B'
def step{gd ga:D1}{v:Kd->PV}aNj(hd:K3 C Y gd)(ha:IY C Y ga v)(s:akE)aOH aOp :
  ∃M1 M2,gd [ο 7,b5 w.s,η i,η x] M=.ok (b5 (kM afP)) M1/\ga [ο 0,b5 w.s,η i,η x] M1=.ok (v afP) M2/\St C Y M2 (sR Y W w i x):=by
 rw[akR L (hd M B W o j w i x s) hf (QK (w:=w) (i:=i) (x:=x) G s.f) hn (Yn (w:=w) (i:=i) (x:=x) G s.f s.nm hx)];by_cases hk:afP=.ok
 ·have ea:sR Y W w i x=mO Y W w i x:=by rw[acu sR hk]
  rw[ea] at hf hn ⊢;unfold kO at L;rw[hk] at L ⊢;obtain⟨M1,j',e1,w1,f1,hj⟩:=L;rw[aaa y1 (aa4 s.y f1 s.sep) A (ha M1 B W o w i x y1 s.f s.S hi hx)];rw[hk] at A;rcases A with⟨_,M2,o',B',e2,y2,f2,S2⟩ | ⟨hc,_⟩
  ·rw[ahq aa5 (∀i,wAd j' i->o i=.A7) (atA (by
    rcases hj with rfl | hj
    ·exact s.sep i hi
    ·rcases hi with e | e | e | e | e
     ·exact s.sep i (b4 e)
     ·exact s.sep i (b9 (b4 e))
     ·exact s.sep i (b9 (b9 (b4 e)))
     ·exact s.sep i (b9 (b9 (b9 (b4 e))))
     ·exact s.y.hi i b6)) ⟨M1,M2,e1,e2,B',o',j',y2,w1.keep λ i hi hl=>f2.out i hl (aa5 i hi),hf,S2,ab7 i hi,hn⟩];rw[Ω (f2.tag i (w1.ad hi)) (aa5 i hi)]
  ·rw[aoG hc]
 ·have ea:sR Y W w i x=W:=by
   unfold sR;split
   ·rw[awe]; rw[afS e hk]
   ·rfl
  rw[ea]
  rw[ajg e1 (gd [ο 7,b5 w.s,η i,η x] M=.ok (b5 (kM afP)) M) (by
   unfold kO at L;cases e:afP with
   | ok=>rw[afS e hk]
   | none=>rw[g9 e L L]
   | held=>rw[g9 e L L]
   | red=>rw[g9 e L L]) A (ha M B W o w i x s.y s.f s.S hi hx)];rcases A with⟨hc,_⟩ | ⟨_,c,e2⟩
  ·rw[afS hc hk]
  ·exact⟨M,_,e1,e2,B,_,j,s.push (YX c)⟩
def Uv aNj aO1 aQF:sQ B az8 aa8=axD W:=by
 unfold sQ heldW
 have:∀w:HB,(anZ w (aAv x.1))->(w.any λ s=>aBx s.1 s.1)=w.any λ s=>qt W s.1:=λ w hw=>by
  induction w with
  | nil=>rfl
  | cons x w ih =>
   rw[List.any_cons,List.any_cons,ih (alf y (hw y (d7 hy)))];unfold qt;rw[List.getD_eq_getElem?_getD,S.locks x.1 (hw x Ξ),IT S];rfl
 exact this _ (alS (G.bB.lt r hr x.1 (aja x hx)))
def Yo(S:aix)aOY(hp:amC):(aBx p p)=ape:=by
 unfold qt;rw[List.getD_eq_getElem?_getD,aFL p,IT S];rfl
def aa6 aPl aNj aQR
    (h:(auh/\res=afg)\/aAl r (i=r) (adt ∧
      ((b8 (sQ B az8 aa8)/\res=YX C.he M) ∨
       (acs (sQ B az8 aa8)/\∃M', res=.ok .bh M'/\cV C Y none o M' (setB Y.rs (yn Y.ps) B r)/\agR)))):Uu C Y o M W res afq i x:=by
  unfold Uu dS mO
  dsimp only;rcases h with⟨hn, e⟩ | ⟨r, rfl, hr, c⟩
  · rw[Ω hn e]
  rw[atg hr, Int.toNat_natCast]
  rw[Uv G f.I S hr] at c;rcases c with⟨hh, e⟩ | ⟨hh, M', e, y1, f1⟩
  · rw[Ω hh e]
  · rw[aeN hh ⟨M', o, _, e, y1, f1, TL G.bB f.I S hr (KW G f.I hr hh).1 (G.vd hr)⟩]
def QU aPl aNj aQR
    (h:(auh/\res=afg)\/aAl r (i=r) (adt ∧
      ((ar7/\res=afg) ∨
       (aks/\((aey (akl 0 (agc (alD Y) || agQ))/\∃M', res=.ok .bh M'/\cV C Y none (df o M.length (.fall r)) M' (Kz Y.rs B r (axu apK (alD Y)))/\gB o M (df o M.length (.fall r)) M')
          \/ aiI (akl 0 (agc (alD Y) || agQ))/\∃M', res=.ok .bh M'/\cV C Y none o M' (v3 Y.rs B r)/\agR))))):Uu C Y o M W res afV i x:=by
  unfold Uu dS mO
  dsimp only;rcases h with⟨hn, e⟩ | ⟨r, rfl, hr, c⟩
  · rw[Ω hn e]
  rw[atg hr, Int.toNat_natCast];rcases c with⟨hg, e⟩ | ⟨hg, c⟩
  · rw[asO hg e]
  rw[ak2 hg];rw[aev dQ (Uj G f.I S f.J (G.sg hr)) hq ((akl 0 (agc (alD Y) || agQ))=EG Y W r) (by
    rw[acu EG dQ];cases alD Y<;>rfl)]
  rw[hq] at c;rcases c with⟨hb, M', e, y1, f1⟩ | ⟨hb, M', e, y1, f1⟩
  · rw[hb, aeO]
    refine⟨M', _, _, e, y1, f1, ?_⟩;have:=PU (u:=axu apK (alD Y)) G.bB f.I S hg
    unfold Eo at this;rw[← dQ, S.ticks] at this;rw[Ω S.ticks this]
  · rw[hb, alj]
    exact⟨M', _, _, e, y1, f1, ID G.bB f.I S hg⟩
def Uw aPl aNj aQR
    (h:(acs (ap1 i)/\res=afg)\/aAl p (i=p) (amC/\awK ∧
      ((aey (aBx p p)/\res=YX C.he M) ∨
       (aiI (aBx p p)/\∃M', res=.ok .bh M'/\cV C Y none o M' (A3 B p)/\agR)))):Uu C Y o M W res agL i x:=by
  unfold Uu dS mO
  dsimp only;rcases h with⟨hn, e⟩ | ⟨p, rfl, hp, IA, c⟩
  · rw[Ω hn e]
  have hpt:b8 (ap1 (aae p)):=by rw[agC pw (kt hp) IA]
  rw[if_pos hpt, Int.toNat_natCast]
  rw[Yo S hp] at c;rcases c with⟨hh, e⟩ | ⟨hh, M', e, y1, f1⟩
  · rw[Ω hh e]
  · rw[aeN hh ⟨M', o, _, e, y1, f1, Mp S hp IA⟩]
def Yp aPl aNj aQR(h:∃M',res=.ok .bh M'/\cV C Y none o M' (GB Y.rs B)/\agR):Uu C Y o M W res afo i x:=by
 rw[afr M' e y1 f1 h ⟨M',o,_,e,y1,f1,PY G.bB f.I S⟩]
def Yq aPl aQF(h:(b8 (axD W)/\res=.ok (b5 "held") M)\/(aGd W/\∃M',res=.ok (b5 "ok") M'/\agZ M' (Ml Y.rs (eh Y.ps) (um Y.ps) W r)/\jR j M M')):kO Y M W j res afq r x:=by
 unfold kO dS mO
 dsimp only;rw[aAQ (atg hr)];rcases h with⟨hh,e⟩ | ⟨hh,M',e,w1,f1⟩
 ·rw[Ω hh e]
 ·rw[aeN hh ⟨M',j,e,w1,f1,b4 rfl⟩]
def MK aPl aQF(h:(ar7/\res=.ok (b5 "none") M) ∨
  (aks/\((aey (akl 0 (!(dg Y W.trains aaE).isEmpty || agQ))/\∃M',res=.ok (b5 "ok") M'/\agZ M' (AZ W r ⟨atz,dg Y W.trains aaE,agQ⟩)/\jR j M M') ∨
   (aiI (akl 0 (!(dg Y W.trains aaE).isEmpty || agQ))/\∃M',res=.ok (b5 "ok") M'/\gv Y M' (rf W r) M.length/\jR j M M')))):kO Y M W j res afV r x:=by
 unfold kO dS mO EG
 dsimp only;rw[aAQ (atg hr)];rcases h with⟨hg,e⟩ | ⟨hg,c⟩
 ·rw[asO hg e]
 rw[ak2 hg];rcases c with⟨hb,M',e,w1,f1⟩ | ⟨hb,M',e,w1,f1⟩
 ·rw[hb,aeO]; exact⟨M',j,e,w1,f1,b4 rfl⟩
 ·rw[hb,alj]; exact⟨M',_,e,w1,f1,b9 ack⟩
def QV aPl aOY(hp:amC)(h:(aGc p/\res=.ok (b5 "none") M) ∨
  (awK/\((aey ape/\res=.ok (b5 "held") M)\/(aiI ape/\∃M',res=.ok (b5 "ok") M'/\agZ M' (rg W p)/\jR j M M')))):kO Y M W j res agL p x:=by
 unfold kO dS mO pw
 dsimp only;rw[kt hp,Int.toNat_natCast,Bool.true_and];rcases h with⟨hg,e⟩ | ⟨hg,c⟩
 ·rw[Ω hg e]
 rw[hg,aeO];rcases c with⟨hh,e⟩ | ⟨hh,M',e,w1,f1⟩
 ·rw[Ω hh e]
 ·rw[aeN hh ⟨M',j,e,w1,f1,b4 rfl⟩]
universe zE
universe Sb
universe zE
end
mutual
section
namespace Sb
open PySem L2
abbrev QW aP2 aNe:Prop:=∀ps ss aR4 aNi,alJ->g [adM,afa,ahJ,η wait] (M++[aa7 c []])=.ok .bh (M++kC c M.length ps ss aiU wait)
abbrev EJ aNB:atc:=ps.map λ p=>au9 (sP p) aly
abbrev W0 aNC:Wd:=⟨ali none,EJ Y.ps,[],[],0,[]⟩
abbrev B0 aNC:Bx:=⟨[],aKm,[],[],0,[]⟩
abbrev o0:adB:=λ i=>asR (i≤5) yard .A7
abbrev Co aNC:bb:=[ς ((EJ Y.ps).map Cn),.bP (wKs Y [] 0 8),ς ((ali (none:aec)).map bM),.bP [],.bP []]
section
variable {C:Cs} {Y:gH} {M:bb}
def zP{lL di dv:DE}aNT(y:PV)(M1:bb)aNO(M2:bb)(k:PV)(M3 M':bb)aTI aTs:fx lL di dv ρ M=.nx ρ M':=by
 unfold fx;rw[hv,Res.eu,ho,Res.eu,hk,Res.eu,hp]
def G3:av9 n ((List.replicate n [PV.bh]).flatten=(List.replicate n (none:aec)).map bM)
 | 0=>rfl
 | n+1=>by rw[List.replicate_succ,List.flatten_cons,G3 n,List.replicate_succ]; rfl
def Ux aM9(h:n≤16):la true (ς [.bh]) (η n) M=.ok adM (M++[ς ((List.replicate n (none:aec)).map bM)]):=by
 rw[d9 hs (axI afp) (jQ b6 b6) e62 (aae 2 ^ 62=4611686018427387904) aKN]
 rw[aoh la iX];rw[e62,Int.toNat_natCast,if_pos ⟨hs,b6,b6,by simp[lim];omega⟩,G3,lr (by simp[lim];omega)]
abbrev w6 aNC:ae2:=[(aKz,ai9),(aKj,atn),(aK5,ayS),(aKy,ο 6),(aFH,ς []),(aGw,η 0)]
abbrev w7 aNC:ae2:=w6 Y++[(aA9,ayz)]
abbrev w8 aNC:ae2:=w7 Y++[(axL,ο 8)]
abbrev w9 aNC:ae2:=w8 Y++[(aBh,ο 9)]
def pw7:nv (w6 Y) aA9 ayz=w7 Y:=aar
def pw8:nv (w7 Y) axL (ο 8)=w8 Y:=aar
def pw9:nv (w8 Y) aBh (ο 9)=w9 Y:=aar
def aeH:nv (w9 Y) aFm (ο 10)=wKs Y [] 0 8:=aar
def qB aSG aNj(h6:M.length=6):tK gr [ai9,atn,ayS] M=.ok (ο 7) (M++Co Y):=by
 rw[aaa Em G.g.qA hrs G.rs];rw[acm tK (q=.ok (ο 7) (M++Co Y))];simp only[zC,zD,zE,zF,Nat.zero_add,Nat.reduceAdd,Nat.reduceSub,List.replicate,zG,zH,zI];rw[aga (ο 6) (M++[ς ((EJ Y.ps).map Cn)]) ?_]
 ·rw[cj (xs:=Y.ps) (w:=none) (M':=M) Pc.enc (λ _=>true) (λ p=>Cn (au9 (sP p) aly)) (aiz [y]) (dZ Ξ) trivial aiH (ajK p) (ad0 Em)]
  ·rw[amK,lr (by rw[aqh Em]),h6];rw[apX EJ]
  ·rw[alk y hρ];refine aa9 _ rfl adE (f6 _);cases p<;>simp[Pc.enc,sP,Cn,o6]
 rw[acB]
 have l1:aso M (al2 ((EJ Y.ps).map Cn))=7:=d7 h6
 generalize RJ:M++al2 ((EJ Y.ps).map Cn)=M1 at l1;rw[aga (ο 7) (M1++[.bP (w6 Y)]) ?_]
 ·unfold Cf;simp only[zC,zD,au,aE,az,zB,zA,ag,bq,gA];rw[aoT];rw[aj3 ag l1];rfl
 rw[acB]
 rw[ate Uy (∀(G:bb)(o o':MO),(M1++o::G).set 7 o'=M1++o'::G) (λ G o o'=>by rw[abQ l1 Ku]) Uz (∀(G:bb)(o:MO),acn (M1++o::G) 7 o) (λ G o=>by rw[abQ l1 Tv]) ?_];rw[zP ayz (M1++[.bP (w6 Y)]) (ο 7) (M1++[.bP (w6 Y)]) (b5 "routes") (M1++[.bP (w6 Y)]) (M1++[.bP (w7 Y)]) ?_ rfl rfl ?_];refine acw
 rotate_left
 ·simp[hr Y.ps Y.ss _ G.g,hrs]
 ·rw[avT (Uz [] _) aA9 (by rw[ayu 6]),pw7,Uy]
 rw[ahn (aH ?_) (zP (ο 8) (M1++[.bP (w7 Y),ς ((ali (none:aec)).map bM)]) (ο 7) (M1++[.bP (w7 Y),ς ((ali (none:aec)).map bM)]) (b5 "locks") (M1++[.bP (w7 Y),ς ((ali (none:aec)).map bM)]) (M1++[.bP (w8 Y),ς ((ali (none:aec)).map bM)]) ?_ rfl rfl ?_)]
 refine acw
 rotate_left
 ·simp only[aD,gA,au,aE,bq,ag,aY,az,zB,zA];rw[aoT,ag,ahG (cu [ai9] (M1++aqn (w7 Y))) (.ok (η Y.ps.length) (M1++aqn (w7 Y))) aCs,ag,Ux Em]
  simp[l1]
 ·rw[avT (Uz _ _) axL (by rw[ayu 7]),pw8,Uy]
 rw[ahn (aH ?_) (zP (ο 9) (M1++[.bP (w8 Y),ς ((ali (none:aec)).map bM),.bP []]) (ο 7) (M1++[.bP (w8 Y),ς ((ali (none:aec)).map bM),.bP []]) (b5 "falls") (M1++[.bP (w8 Y),ς ((ali (none:aec)).map bM),.bP []]) (M1++[.bP (w9 Y),ς ((ali (none:aec)).map bM),.bP []]) ?_ rfl rfl ?_)]
 refine acw
 rotate_left
 ·simp[qd,l1]
 ·rw[avT (Uz _ _) aBh (by rw[ayu 8]),pw9,Uy]
 rw[ahn (aH ?_) (zP (ο 10) (M1++[.bP (w9 Y),ς ((ali (none:aec)).map bM),.bP [],.bP []]) (ο 7) (M1++[.bP (w9 Y),ς ((ali (none:aec)).map bM),.bP [],.bP []]) (b5 "trains") (M1++[.bP (w9 Y),ς ((ali (none:aec)).map bM),.bP [],.bP []]) (M1++[.bP (wKs Y [] 0 8),ς ((ali (none:aec)).map bM),.bP [],.bP []]) ?_ rfl rfl ?_)]
 refine acw
 rotate_left
 ·simp[qd,l1]
 ·rw[avT (Uz _ _) aFm (by rw[ayu 9]),aeH,Uy]
 refine bw (ο 7) _ (by simp; rfl) (aT ?_)
 rw[← RJ];unfold Co;simp
def wf0:Wf Y (W0 Y):=by
 rw[ab8 ⟨ayZ,ab7 r h,NV p r h,ayZ,ayZ,ayZ,ayZ,NV x t h,adW x y t t' h⟩ (aeU Due W0) (NV x t h)]
 ·rcases h with h | h<;>simp[W0] at h
 ·simp[W0,List.getElem?_replicate] at h
 ·simp[W0,lF] at h
 ·simp[W0,lF] at h
 ·simp[W0,lF] at h
def start aNj:Sd C Y (kC C.yd 0 Y.ps Y.ss Y.rs Y.wait++Co Y) (B0 Y) (W0 Y) o0 8:=by
 refine⟨⟨rfl,rfl,?_,rfl,rfl,rfl,atA (by rw[acu o0 (if_pos hi)]),ab7 i hi,ay0,ay0⟩,aoZ rfl rfl d6 rfl rfl,wf0,⟨?_,ay0,ay0,ay0,aeU W0 EJ,?_,?_,ay0,rfl,rfl,rfl⟩,ab7 i hi,ayZ⟩
 ·show c8 (MO.lst (Y.ps.map (as1 _ "straight")))=aiV ((aKm).map o6);rw[ab2 List.map_map]
 ·have:11≤i:=hi;rw[acu o0 (if_neg b6)]
 ·intro p hp;simp[W0,B0,lF,List.getElem?_replicate,hp]
 ·intro p hp IA
  have e:anK (W0 Y).points p true:=by
   show(EJ Y.ps)[p]? = _;rw[af7 EJ zJ (tM hp)];have:b8 (sP (axM p)):=IA;simp[this]
  rw[e];show _=c8 aKm[p]?;rw[zJ,tM hp];rfl
 ·intro s r;simp[B0,W0,lF]
 ·rw[acu o0 (al1 (by rcases hi with rfl | rfl | rfl | rfl | rfl<;>omega))]
universe zE
universe Sb
universe zE
section
namespace Sb
open PySem L2
section
variable (C:Cs)
abbrev At0 aNC aNi aPR:Prop:=M[0]? = ab1 aa7 C.yd (tR Y t)
abbrev CkR aNe:Prop:=∀Y e o M B aNV,afe->ahz->g [ο 0,η i] M=if apo i then .ok .bh M else afg
abbrev CkP aNe:Prop:=∀Y e o M B aNV,afe->ahz->g [ο 0,η i] M=aqB .ok .bh
abbrev CkS aNe:Prop:=∀Y e o M B aNV,afe->ahz->g [ο 0,η i] M=if aq0 i then .ok .bh M else afg
abbrev CkT aNe:Prop:=∀Y e o M B aNV,afe->ahz->g [ο 0,η i] M=if ap1 i then .ok .bh M else afg
abbrev SgS aNe:Prop:=∀Y M t aNk,At0 C Y M t->adt->g [ο 0,η r] M=.ok (η aaE) M
abbrev WyS aNe:Prop:=∀Y M t aNk,At0 C Y M t->adt->g [ο 0,η r] M=.ok ahl M
abbrev BdS aNe:Prop:=∀Y M t aOg,At0 C Y M t->aBY->alM->g [ο 0,η s] M=.ok (.bl aiy) M
abbrev PtS aNe:Prop:=∀aN9 M,g ayy M=.ok (.bl (sP p)) M
abbrev LfS aNe:Prop:=∀M p s,g [aLc,amV] M=.ok (o6 (Ew p s)) M
abbrev Yr aNe:Prop:=∀aNB aP8 M,aoI->g [afa,η a,η x] M=.ok (.bl (beyond ps a x).isNone) M
abbrev PbS aNe:Prop:=∀aNB aP8 M,aoI->g [afa,η a,η x] M=.ok (aiA (beyond ps a x)) M
abbrev PuS aNe:Prop:=∀aOt M',aIo->aIn->ap3->g [ahy] M'=.ok (iM (t.tr.steps.map (·.1))) M'
abbrev TiS aNe:Prop:=∀Y o M B aNV,aeW->aDK->ahz->g [ο 0,η i] M=aqB .ok (fB (au3 i))
abbrev NhS aNe:Prop:=∀Y o M B aOA,aeW->aDK->awm->amC->g [ο 0,η p] M=if aBx p p then YX C.he M else .ok .bh M
abbrev AhS aNe:Prop:=∀Y M tk aOt,At0 C Y M tk->aBY->az0->aDp->aIb->g [ο 0,ahy] M=.ok aCR M
abbrev NrS aNe:Prop:=∀Y o M B aOg,aeW->aBY->(∀q∈B.trains,agx q.2.tr.steps)->g [ο 0,η s] M=.ok (fB (kl Y B.trains s)) M
abbrev FaS aNe:Prop:=∀aNi(u:Int)(v:PV),g [adM,η u,v] (M++[aa7 C.fa []])=.ok .bh (M++[aa7 C.fa [az3,aCk v]])
abbrev UnS aNe:Prop:=∀Y e o M B w,afe->att->azs->∃M',g [ο 0,an6] M=.ok .bh M'/\cV C Y e o M' (ajt B (al7 w))/\agR/\akO/\∀i,i≠1->M'[i]? = M[i]?
abbrev CaS aNe:Prop:=∀Y,zN C Y g
abbrev TnS aNe:Prop:=∀M:bb,g [adM] (M++[amz []])=.ok .bh (M++anL::[ς [],ς []])
abbrev TdS aNe:Prop:=∀s M,g [amV] M=.ok awA M
abbrev PaS aNe:Prop:=∀Y,aBY->Y.ss.length≤16->Qt C Y g
abbrev A1 aNe(w:Wo)(arg:auN d5):Prop:=∀Y M B W o aPm,abX->aeW->an2->aix->ahz->afQ->Uu C Y o M W (g (arg i x) M) w i x
variable {C}
variable {Y:gH} {o:adB} {M:bb} {B:Bx} {W:Wd} {ρ:fk}
def K4:SgS C (kr C.yd):=λ Y M t r h hr=>by
 rw[acm kr (q=.ok (η aaE) M)];rw[alF e (Mv h (ρ:=[t9,aas]) (d:=b7) rfl wc) (bw (η aaE) M (aeU e (we hr)) (aT rfl))]
def K5:WyS C (oq C.yd):=λ Y M t r h hr=>by
 rw[acm oq (q=.ok ahl M)];rw[alF e (Mv h (ρ:=[t9,aas]) (d:=b7) rfl wc) (bw ahl M (aeU e (we hr)) (aT rfl))]
def Ys{gb:D1}(hb:PbS gb):Yr (mq gb):=λ ps a x M hl=>kQ (Y:=⟨ps,[],[],0⟩) (λ a x=>hb ps a x M hl) a x
def aba{gb:D1}(hb:Yr gb):BdS C (iC C.yd gb):=λ Y M t s h hl hs=>by
 rw[acm iC (q=.ok (.bl aiy) M)];have e1:=Mv h (ρ:=[t9,adN,none]) (d:=b7) rfl tT;rw[DB e2 (Mv h (ρ:=[t9,adN,c8 awf]) (d:=b7) rfl oP) (acX awf M (aeU e1 (AQ hs)))];rw[alF hb2 (fun(aez a) aDc=>hb Y.ps a x M hl) (bw (.bl aiy) M (by simp[e2,cZ,hb2,cq] at e2 ⊢) (aT rfl))]
def Vw:PtS mr:=λ p M=>kR p
def Vx:CkR C (mT C.nt C.yd cT):=λ Y e o M B i h hi=>jf h hi
def abb:CkP C (mU C.nt C.yd cT):=λ Y e o M B i h hi=>jg h hi
def abc:CkS C (lW C.nt C.yd cT):=λ Y e o M B i h hi=>iq h hi
def abd{gc gp:D1}(hc:CkP C gc)(hp:PtS gp):CkT C (j9 C.nt C.yd gc gp):=λ Y e o M B i h hi=>ip h hi (hc Y e o M B i h hi) (λ p=>hp p M)
def abe:PuS C (j5 C.tr):=λ t M h1 h2 h3=>fS h1 h2 h3
def Vy{gc gu:D1}aUk:TiS C (gQ C.yd gc gu):=λ Y o M B i h hl hi=>IH h (hc Y _ o M B i h hi) hu hl
def Br aM9(h:apv n):Sm afp:=aCa
def abf{gt:D1}(ht:TiS C gt):NhS C (iS C.he C.yd gt):=λ Y o M B p h hl h16 hp=>by
 refine fN (ti:=az8) h azW hp (Br b6);rw[aiL (ht Y o M B q h hl (Br b6)) (atg hq)];rw[Lb _ this (by dsimp only; cases au3 q<;>rfl)]
def abh{gp:D1}(hp:PtS gp):LfS (pb gp):=λ M p s=>nD (λ p=>hp p M) p s
def abi{gb:D1}(hb:PbS gb):AhS C (j7 C.tr C.yd gb):=λ Y M tk t h0 hl h1 h2 dQ=>ik h0 h1 h2 dQ λ a j=>hb Y.ps a j M hl
def abj{ga:D1}(ha:AhS C ga):NrS C (lD C.yd ga):=λ Y o M B s h hl dQ=>jX h dQ λ t M' h0 h1 h2 h3=>ha Y M' _ t h0 hl h1 h2 h3
def abk:FaS C (mw C.fa):=λ M u v=>kS
def QX:UnS C (kJ C.yd):=λ Y e o M B w h hn hl=>pT h hn hl
def abl:EE C Y (kJ C.yd):=λ o M B w a h hn hl ha h1=>My h hn hl ha h1
def abm:CaS C (j8 C.nt C.yd):=λ Y o M B x h hx=>il h hx
def abn:TnS C (lB C.tr):=λ M=>jW
def abo:TdS qK:=λ s M=>pP s
def abp{gb gs:D1}(hb:BdS C gb)aRz:PaS C (iD C.fa C.rd C.yd gb gs):=λ Y hl hss e o M B x s h hx tw se =>
 jY h hx (Br b6) se (λ M' r h0 hr=>hs Y M' _ r h0 hr) (λ M' h0=>hb Y M' _ s h0 hl tw)
def abq{gu:D1}(hu:UnS C gu):GO C Y (pd C.tr gu):=λ x o M B t s a h T ha hl tw =>
 nE h T ha hl tw λ M B h hl=>hu Y _ o M B [s] h Ξ aCp
def abr{gs gw gc:D1}aRz aRA aST:GQ C Y (kA C.tr C.yd gs gw gc):=λ x o M B t r s w h T hr ew Fs hl tw =>
 jh h T hr ew Fs hl tw (λ M' r h0 hr=>hs Y M' _ r h0 hr) (λ M' r h0 hr=>hw Y M' _ r h0 hr) hc
def abt aO1{q:Int×TB}(hq:q∈B.trains):t6 (aG W.trains q.1) q.2.tr:=by
 refine cL (q:=(q.1,q.2.tr)) I.xp ?_;rw[Ω S.trains (aja q hq)]
def UA aNj aO1:aDK:=ah1 (by
 have:=I.Qj (abt I S hq);rw[aeq G.g.qA])
def aeP aO1:∀q∈B.trains,agx q.2.tr.steps:=ah1 (aqC (abt I S hq)).ne
def aeQ aO1:aB0:=by
 have:=I.xp;rw[aoO S.trains qh this this]
def abu aNj aO1:anZ aEo (au1 x):=alS (by
 rw[auZ r hr ((mem_keys _ _).mp hx)];rw[amv ((S.greens x r).mp hr)];rw[abQ h2 (G.sg (I.glt h1))])
def bV.le aNj:aBY:=by rw[aeq G.g.qA]
def abv{gc gw gn gl gs:D1}(hc:CkR C gc)aRA(hn:NhS C gn)(hl:LfS gl)aRz:A1 C (ji C.yd gc gw gn gl gs) afq (aei _ [ο 0,η i]):=λ Y M B W o i x G h f S hi hx =>
 aa6 G f S (kT (ti:=az8) h G.bB G.g.qA G.g.AO (amM (G.sg hr)) S.PM S.PN S.Iz S.Cm (abu G f.I S) (hc Y _ o M B i h hi) (amM (hw Y M _ r h.y0 hr))
  (ahO (hn Y o M B p h (UA G f.I S) G.g.qA hp)) hl (λ M B r h hr=>hs Y M _ r h.y0 hr))
def QY aUm(hc:CkR C gc)aRz(ht:NrS C gt)(hb:BdS C gb)(hf:FaS C gf)(hu:UnS C gu)aRA:A1 C (kI C.fa C.nt C.yd gc gs gt gb gf gu gw) afV (aei _ [ο 0,η i]):=λ Y M B W o i x G h f S hi hx =>
 QU G f S (pS h hi G.bB f.I S G.len (amM (G.sg hr)) (hc Y _ o M B i h hi) (λ M B r h hr=>hs Y M _ r h.y0 hr) (λ M B' s h hB tw=>by rw[abQ hB (ht Y o M B' s h G.le (by rw[Ω hB (aeP f.I S)]))]) (λ M B s h tw=>hb Y M _ s h.y0 G.le tw) hf (λ M B w h=>hu Y _ o M B w h) (λ M B r h hr=>hw Y M _ r h.y0 hr))
def UB{gc gn:D1}(hc:CkT C gc)(hn:NhS C gn):A1 C (nL C.yd gc gn) agL (aei _ [ο 0,η i]):=λ Y M B W o i x G h f S hi hx =>
 Uw G f S (tm (ti:=az8) h S.Iz (hc Y _ o M B i h hi) (ahO (hn Y o M B p h (UA G f.I S) G.g.qA hp)))
def Yt{gu gw:D1}(hu:UnS C gu)aRA:A1 C (vI C.fa C.yd gu gw) afo (abg _ [ο 0]):=λ Y M B W o i x G h f S hi hx =>
 Yp G f S (wC h G.bB f.I S f.D G.len (λ M B w h=>hu Y _ o M B w h) (λ M B r h hr=>hw Y M _ r h.y0 hr))
def UC{gk gb gr gi gp:D1}(hk:CkS C gk)(hb:BdS C gb)(hr:PaS C gr)(DZ:TnS C gi)(hp:∀Y,GQ C Y gp):A1 C (tI C.he C.nt C.tr C.yd gk gb gr gi gp) afY (aei x [ο 0,η x,η i]):=λ Y M B W o i x G h f S hi hx =>
 tq h hx hi G.bB f.I S G.g.qA (amM (G.ok hr).ne) (hk Y _ o M B i h hi) (ale (hb Y M _ s h.y0 G.le hs)) (hr Y G.le G.g.AO) DZ (hp Y)
def aeR{gt gc gb gp gr ga:D1}aRB(hc:∀Y,GO C Y gc)(hb:Yr gb)(hp:∀Y,GQ C Y gp)(hr:PaS C gr)(hr0:∀M aNs,afQ->gr [ο 0,η x,.bh] M=YX C.rd M)(ha:AhS C ga):A1 C (Ef C.rd C.tr C.yd gt gc gb gp gr ga) .go (abg x [ο 0,η x]):=λ Y M B W o i x G h f S hi hx =>
 Lc h hx G.bB f.I S G.g.qA (amM (G.ok hr).ne) (ht Y) (hc Y) (λ a j=>hb Y.ps a j M G.le) (hp Y) (hr Y G.le G.g.AO) (hr0 M x hx) (λ t h1 h2 h3=>ha Y M _ t h.y0 G.le h1 h2 h3)
def Yu{gt:D1}aRB:A1 C (vJ C.he C.tr C.yd gt) agn (abg x [ο 0,η x]):=λ Y M B W o i x G h f S hi hx=>wD h hx f.I S (ht Y)
def Yv{gt gu gd:D1}aRB(hu:∀Y,EE C Y gu)(hd:TdS gd):A1 C (vK C.fa C.rd C.tr C.yd gt gu gd) afb (abg x [ο 0,η x]):=λ Y M B W o i x G h f S hi hx=>ux h hx G.bB f.I S G.g.qA (ht Y) (hu Y) hd
structure A8(C:Cs)aSl:Prop where
 a0:A1 C g0 afq (aei _ [ο 0,η i])
 a1:A1 C g1 afV (aei _ [ο 0,η i])
 a2:A1 C g2 agL (aei _ [ο 0,η i])
 a3:A1 C g3 afY (aei x [ο 0,η x,η i])
 a4:A1 C g4 afo (abg _ [ο 0])
 a5:A1 C g5 .go (abg x [ο 0,η x])
 a6:A1 C g6 agn (abg x [ο 0,η x])
 a7:A1 C g7 afb (abg x [ο 0,η x])
def A8.all aSm aTQ aPw aNj aNY aQR aOH aOp:Uu C Y o M W (Yl g0 g1 g2 g3 g4 g5 g6 g7 w i x M) w i x:=by
 cases w with
 | set=>exact A.a0 Y M B W o i x G h f S hi hx
 | cancel=>exact A.a1 Y M B W o i x G h f S hi hx
 | throw=>exact A.a2 Y M B W o i x G h f S hi hx
 | enter=>exact A.a3 Y M B W o i x G h f S hi hx
 | tick=>exact A.a4 Y M B W o i x G h f S hi hx
 | go=>exact A.a5 Y M B W o i x G h f S hi hx
 | draw=>exact A.a6 Y M B W o i x G h f S hi hx
 | turn=>exact A.a7 Y M B W o i x G h f S hi hx
universe zE
universe Sb
universe zE
section
namespace Sb
open PySem L2
structure TOk(d:atM):Prop where
 nd:arz
 ne:amL d (agx q.2.steps)
 sl:amL d (air q.2.steps.length)
 tl:d.length≤90
abbrev LtS aNe:Prop:=∀Y M W j(p:Int),ab3->aE9->g [ο 7,η p] M=.ok aIM M
abbrev HeS aNe:Prop:=∀Y M W j aOA,ab3->aE9->am9 p->g [ο 7,η p] M=.ok (.bl ape) M
abbrev FrS aNe:Prop:=∀Y M W j aNk,ab3->aMq->g [ο 7,η r] M=.ok .bh ((M++arQ (ahZ).map).set 7 (.bP (wKs Y W.green W.now M.length)))
abbrev LnS aNe:Prop:=∀Y M W j aOg,ab3->aE9->alM->g [ο 7,η s] M=.ok (gJ (dg Y W.trains s)) M
abbrev LpS aNe:Prop:=∀Y,abX->IQ Y g
section
variable {C:Cs} {Y:gH} {o:adB} {M:bb} {B:Bx} {W:Wd} {j:Nat}
def tok aNj(I:alg):aE9:=by
 have h16:=G.g.qA;rw[an1 I.xp (ah1 (aqC aBR).ne) azW ?_]
 ·rw[aeq (I.Qj aBR)]
 ·rw[aeq I.XT]
def abw:LtS lE:=λ Y M W j p h T=>gL h T.nd T.sl (ad0 T.tl)
def abx{gt:D1}(ht:LtS gt):HeS (qS gt):=λ Y M W j p h T hp=>pV h hp (ht Y M W j p h T)
def aby:FrS qU:=λ Y M W j r h hl=>nV h hl
def Vz:LnS (trunc qV):=λ Y M W j s h T hs=>pW h hs T.nd T.ne (ad0 T.tl)
def abz:LpS oA:=λ Y G M W j x s h NQ Ey NT GG=>nW h NQ (amM (G.ok hr).ne) (amM (G.wl hr)) Ey NT GG
structure L8 aNS aSl:Prop where
 l0:∀M B W o j aPm,akE->aGe i->ajk (g0 [ο 7,η i] M) afq
 l1:∀M B W o j aPm,akE->aGe i->ajk (g1 [ο 7,η i] M) afV
 l2:∀M B W o j aPm,akE->b8 (apr i)->ajk (g2 [ο 7,η i] M) agL
 l3:∀M B W o j aPm,akE->b8 (aq0 i)->ajk (g3 [ο 7,η x,η i] M) afY
 l4:∀M B W o j aPm,akE->ajk (g4 [ο 7] M) afo
 l5:∀M B W o j aPm t,akE->abW=acv->ajk (g5 [ο 7,η x] M) .go
 l6:∀M B W o j aPm t,akE->abW=acv->ajk (g6 [ο 7,η x] M) agn
 l7:∀M B W o j aPm t,akE->abW=acv->ajk (g7 [ο 7,η x] M) afb
def l8{gh gn gb gf gp:D1}aNj(hh:HeS gh)(hn:LnS gn)(hb:vW gb)(hf:FrS gf)(hp:LpS gp) :
  L8 C Y (qf gh) (ka gn gb gf) (kY gh) (pe gb gp) (qW gf) (vL gb gp) qX qY:=by
 rw[aev h16 G.g.qA hb' (∀M aP8,an7 [ai9,η a,η x]=.ok (aiA (akJ a x)) M) (λ M a x=>hb Y.ps a x M G.le)]
 refine⟨λ M B W o j i x s hn=>?_,λ M B W o j i x s hk=>?_,λ M B W o j i x s hk=>?_,λ M B W o j i x s hk=>?_,λ M B W o j i x s=>?_,λ M B W o j i x t s ht=>?_,λ M B W o j i x t s ht=>?_,λ M B W o j i x t s ht=>?_⟩
 ·rw[as9 r hr hn];rw[alF K (Yj G s.f.I) (Yq hr (qC s.w G.bB G.g.qA G.len hr (G.wl hr) s.f.I.ln s.S.pn K.gl (ahO (hh Y M W j p s.w (tok G s.f.I) hp))))]
 ·rw[as9 r hr hk];rw[alF K (Yj G s.f.I) (MK hr (kE s.w hr (G.sg hr) K.gl K.fl (λ M W' k h hW hk=>by rw[abQ hW (hn Y M W' j k h (by rw[Ω hW (tok G s.f.I)]) hk)]) hb' (λ M W h hl=>hf Y M W j r h b6) s.f.I.ln))]
 ·rw[as9 p Lv hk];rw[ahV (QV Lv (nF s.w Lv s.f.I.ln (f6 IA) (hh Y M W j p s.w (tok G s.f.I) (by rw[Ω s.f.I.ln Lv])))) hl (p<B.lying.length) (by rw[Ω s.S.Iz Lv])]
  rw[aab B.lying[p] (af1 (s.S.yJ p Lv IA) asA)]
 ·rw[as9 r hr hk];exact nG s.w (Yj G s.f.I) hr hb' (hp Y G)
 ·exact pX s.w s.f.I.Iy (Yj G s.f.I).fl s.f.I.ln (λ M W j r h hl=>hf Y M W j r h b6)
 ·exact wF s.w (Yj G s.f.I) ht hb' (hp Y G)
 ·exact pY s.w (Yj G s.f.I) ht
 ·refine mE s.w (Yj G s.f.I) s.f.I.Iy azW ht;rw[s.S.falls] at hq;obtain⟨u,_,rfl⟩:=List.mem_map.mp hq;show air (acL u.2.nr.toList);cases u.2.nr<;>simp
def Yw aTT(ht:∀M W j aOx,ab3->gt [ο 7,b5 w.s,η i,η x] M=.ok (.bl asu) M)(L:L8 C Y g0 g1 g2 g3 g4 g5 g6 g7):K3 C Y (qZ gt g0 g1 g2 g3 g4 g5 g6 g7):=λ M B W o j w i x s =>
 pZ (ht M W j w i x s.w) (L.l0 M B W o j i x s) (L.l1 M B W o j i x s) (L.l2 M B W o j i x s) (L.l3 M B W o j i x s) (L.l4 M B W o j i x s) (λ t=>L.l5 M B W o j i x t s) (λ t=>L.l6 M B W o j i x t s) (λ t=>L.l7 M B W o j i x t s)
abbrev G4 aNS aNe:Prop:=∀M B W o j ns k,akE->∃d,Vv d/\g [.m5 ns,η k,ο 7] M=.ok (fj d) M
def Yx{gm gb gn:D1}aNj aPH(hb:vW gb)(hn:LnS gn):G4 C Y (ayL (oC gm (kb gb gn))):=λ M B W o j ns k s =>
 p0 hm G s.w (amM (s.f.I.glt hr)) s.nm (tok G s.f.I).tl λ M k h hk=>fT h hk G.g.AO (λ M a x=>hb Y.ps a x M G.le) (hn Y M W j k h (tok G s.f.I) hk) s.nm (tok G s.f.I).tl
def ML{w:Wo}{i x y:Int}{t:Tr}aNj(f:an2)(hy:azD=acv)(ha:awq)(hw:x≠y\/(w≠.go/\w≠afb)):∃t',t6 (aG (sR Y W w i x).trains y) t'/\t'.ahead=t.ahead/\acs t'.out:=by
 have ho:aBp:=by
  cases e:t.out with
  | false=>rfl
  | true=>rw[afS ((f.I.tr y t hy).ot e).1 ha]
 rw[ah3 x y]
 ·subst e;rcases hw with hw | ⟨h1,h2⟩
  ·rw[aoG hw]
  unfold sR;split
  ·rename_i hk;cases w with
   | set=>exact agY t hy ho
   | cancel=>exact agY t (by rw[am2 mO]; split<;>exact hy) ho
   | throw=>exact agY t hy ho
   | tick=>exact agY t (by rw[as8 (aG (rE W).trains x=_) sS hy]) ho
   | enter =>
    have hk:mh Y W x i=.ok:=hk;rw[anh mh hk hy hk];split at hk
    ·split at hk
     ·cases hk
     ·cases hk
    ·cases hk
   | go=>rw[aoG h1]
   | turn=>rw[aoG h2]
   | draw =>
    have hk:rF W x=.ok:=hk
    unfold rF at hk;rw[alm hy hk hk]
    rw[ahq hl (aJQ 1) (λ h=>by rw[amg ⟨h,ho⟩ hk]; cases hk) (agY avl ?_ ho)];rw[anA (aG (qp W x).trains x=_) qp]
    rw[afG hy];rw[afZ hl];show aG av7 x=_;rw[eL,aeO]
  ·exact agY t hy ho
 ·exact agY t (by rw[Ω (K2 (Ne.symm e)) hy]) ho
def UD{x i:Int}{t:Tr}aOR(ha:awq)(ho:aBp):dS Y W .go i x=.ok/\t6 (aG (sR Y W .go i x).trains x) (ah8 (axq++t.steps) (t.ahead.drop 1)):=by
 have hk:dS Y W .go i x=.ok:=by
  rw[anA (MC Y W x=.ok) MC];rw[afG hx];rw[ho,alj,if_pos ha]
 rw[ac4 hk ?_];rw[acu sR hk];rw[anA (aG (MD Y W x).trains x=_) MD]
 rw[afG hx];rw[ak2 ha];show aG av7 x=_;rw[eL,aeO]
def UE(I:alg)aOc aPb aOR(hs:ax6 s):uX W.trains s.1=ad5:=by
 unfold uX
 have:W.trains.find? (ala (aae s.1∈q.2.steps.map λ s=>aae s.1))=ahU x t:=by
  rw[amn (Bf (i7 hx) (decide_eq_true (aja s hs)) (NV q hq hp)) h1 aBR];rw[apm s' sd e (of_decide_eq_true hp)];by_cases dQ:q.1=x
  ·rw[aoO dQ hx h1 (Prod.ext dQ (aqU).symm)]
  ·rw[afS b6 ((I.dj _ _ _ _ h1 hx dQ).1 s' sd s hs)]
 rw[ab2 this]
universe zE
universe Sb
universe zE
end
mutual
section
namespace Sb
open PySem L2
section
variable {C:Cs} {Y:gH} {o:adB} {M:bb} {B:Bx} {W:Wd} {j:Nat} {ρ:fk}
def nI{g0 g1 g2 g3 g4 g5 g6 g7 gr:D1}{cB:Addr}aNj aTQ(hr:∀M n(k:Kd),agg M n YX (uZ C k)->k≠.ok->gr [ο n] M=.ok (b5 (kM k)) M) :
  IY C Y (sy cB C.he C.nt C.rd g0 g1 g2 g3 g4 g5 g6 g7 gr) λ k=>b5 (kM k):=λ M B W o w i x h f S hi hx=>by
 have T:=Uo (cB:=cB) (A.all (w:=w) G h f S hi hx);rw[acm sy (Vu C Y o M q afP (λ k=>b5 (kM k)) λ B'=>lH Y (mO Y W w i x) B')];simp only[zC,zD,zE,zF,Nat.zero_add,Nat.reduceAdd,Nat.reduceSub,List.replicate,zG,zH,zI];refine aX .bh M rfl ?_;rw[aeZ (aH ?_)];show Gi _ _ (Ge [cB,C.nt,C.he,C.rd] 4 5 (QP g0 g1 g2 g3 g4 g5 g6 g7) (sU w i x .bh) M);rcases T with⟨hk,M',o',B',e,h1,h2,h3⟩ | ⟨hk,e⟩
 ·rw[e];rw[ahn (ayr M' (b4 ⟨hk,M',o',B',?_,h1,h2,h3⟩)) hk];rfl
 ·rw[e]
  rw[ab4 hn (agg (M++[MO.exc (uZ C afP)]) M.length YX (uZ C afP)) Ξ (adg (bw (b5 (kM afP)) (M++[MO.exc (uZ C afP)]) ?_ (aT (b9 (ah7 hk (uZ C afP))))))];rw[xi,br,aD,show ae 4 (sU w i x adM) (M++[MO.exc (uZ C afP)])=.ok adM (M++[MO.exc (uZ C afP)]) from rfl]
  rw[akT bq];rw[ao6 (sk false adM .bh (M++[MO.exc (uZ C afP)])) .ok (ako .bl) (M++[MO.exc (uZ C afP)])]
  simp only[ag,Bool.false_eq_true,if_false,aY,au,aE];rw[show ae 4 (sU w i x adM) (M++[MO.exc (uZ C afP)])=.ok adM (M++[MO.exc (uZ C afP)]) from rfl]
  simp only[ag];exact hr _ _ _ hn hk
def abA aN5{k:Kd}:dX neg (b5 (kM k)) (b5 (kM k)) M=.ok (.bl (! neg)) M:=by cases neg<;>cases k<;>with_unfolding_all rfl
abbrev okb:alA Kd
 | .ok=>true
 | _=>false
def abB{k:Kd}:dX false (b5 (kM k)) (b5 "ok") M=.ok (.bl (okb k)) M:=by cases k<;>with_unfolding_all rfl
abbrev K6 aNS(gd ga:D1):Prop:=∀M W aOx,aDy->ahz->afQ->∃M1 M2,gd [ο 7,b5 w.s,η i,η x] M=.ok (b5 (kM afP)) M1/\ga [ο 0,b5 w.s,η i,η x] M1=.ok (b5 (kM afP)) M2/\St C Y M2 (sR Y W w i x)
def Yy{gd ga:D1}aNj(hd:K3 C Y gd)(ha:IY C Y ga λ k=>b5 (kM k)):K6 C Y gd ga:=λ M W w i x ⟨B,o,j,s⟩ hi hx=>step G hd ha s hi hx
abbrev QZ aNS(gb:D1):Prop:=∀M W aOx,aDy->ahz->afQ->∃M2,an7 [ο 0,ο 7,b5 w.s,η i,η x]=.ok afE M2/\St C Y M2 (sR Y W w i x)
def p5{gd ga:D1}(hs:K6 C Y gd ga):QZ C Y (uM gd ga):=λ M W w i x st hi hx=>by
 obtain⟨M1,M2,e1,e2,JH⟩:=hs M W w i x st hi hx;rw[ab8 M2 ?_ JH];rw[acm uM (q=.ok afE M2)];simp only[zC,zD,zE,zF,Nat.zero_add,Nat.reduceAdd,Nat.reduceSub,List.replicate,zG,zH,zI];rw[aga (b5 (kM afP)) M1 (by simp only[aY,au,aE,az,zB,zA,ag,e1])];rw[acB];exact bw afE M2 (by simp only[aD,aY,au,aE,az,zB,zA,ag,e2,abA,Bool.not_false]) (aT rfl)
abbrev abC aNe:Prop:=∀Y M,abX->M.length=6->g [ai9,atn,ayS] M=.ok (ο 7) (M++Co Y)
def abD aSG:abC (tK gr):=λ Y M G h6=>qB hr G h6
def nJ{gp gs gm gnw gin:D1}(hp:Kv gp)(hs:Kw gs)aPH(DZ:QW C.yd gin)(hnw:abC gnw)aOj:∃Y M,abX/\sD C.yd gp gs gm gnw gin [.m5 ns] []=.ok (f9 [ο 0,ο 7]) M/\St C Y M (W0 Y):=by
 obtain⟨ps,hgp,ep⟩:=hp ns 0 [];obtain⟨ss,hg,es⟩:=hs ns 40 ps [] hgp;rw[aaa Em hg.qA hss hg.AO];rw[d9 hw0 (0≤akj%4) (Int.emod_nonneg _ d6) G (bV (aql (akj%4))) (afT hg hw0)];rw[aaa ei (DZ ps ss (akj%4) [] hg) en (hnw (aql (akj%4)) (kC C.yd 0 ps ss aiU (akj%4)) G rfl)];rw[ahq S0 (St C (aql (akj%4)) (kC C.yd 0 ps ss aiU (akj%4)++Co (aql (akj%4))) (W0 (aql (akj%4)))) ⟨_,_,_,start (C:=C) G⟩ ⟨aql (akj%4),kC C.yd 0 ps ss aiU (akj%4)++Co (aql (akj%4)),G,?_,S0⟩];clear S0;rw[ajh sD (r=.ok (f9 [ο 0,ο 7]) (kC C.yd 0 ps ss aiU (akj%4)++Co (aql (akj%4))))];simp only[zC,zD,zE,zF,Nat.zero_add,Nat.reduceAdd,Nat.reduceSub,List.replicate,zG,zH];rw[aga afa [] (d7 ep)];rw[aeZ (acX ahJ [] (d7 es))]
 rw[aeZ (acX (η (akj%4)) [] (aeU (hm ns 39 []) pA))]
 rw[acB];generalize akj%4=wait at ei en ⊢
 rw[ab4 emk (sq C.yd gin [(aw (kX false) [f7]),(aw (kX false) [c7]),d8] [aiR .m5,aiM,aoE,abS wait] []=.ok (ο 0) (kC C.yd 0 ps ss aiU wait)) (by
  unfold sq
  simp only[au,aE,aY,az,zB,zA,ag];rw[ahG (kX false [afa] ([]:bb)) (.ok afa []) (by simp[kX];exact bZ (by rw[aer])),ag,ahG (kX false [ahJ] ([]:bb)) (.ok ahJ []) (by simp[kX];exact bZ (by rw[aer]))]
  simp only[ag];rw[ei,ag];rfl) (bw (f9 [ο 0,ο 7]) (kC C.yd 0 ps ss aiU wait++Co (aql wait)) ?_ (aT rfl))];rw[pf,au,emk,ag];simp only[au,aE,aY,az,zB,zA,ag];have en2:gnw [afa,ahJ,η wait] (kC C.yd 0 ps ss aiU wait)=.ok (ο 7) (kC C.yd 0 ps ss aiU wait++Co (aql wait)):=en
 rw[ab2 en2]
abbrev gS aO7:Tr:=(abW).getD (ah8 [] [])
def K8 aNl aNm{k m:Nat}(hk:aDe)(hm:ajx m t7):lU (aKq (ae k)) (ae m) (aaN [(aaN []),(aaN []),(aok .bl)]) ρ M=.ok (cb (gS W x)) M:=by
 have e:=h.ix (ρ:=ρ) (d:=ae k) (aoU hk) fC;unfold lU
 rw[akP e ag (fc h.xD)];rw[apu az hm];rw[ag,gA,au,Bj,ag,au,Bj,ag,au,bq,ag,aE,ag,ag,ag,ag,bZ (by show air 3;decide),ag,fc h.xD,show kq (η x)=c8 ama from rfl]
 dsimp only
 rw[i8];unfold gS;cases abW<;>rfl
abbrev pB(t:Tr)aNd:apY ae6:=if anG/\aC7 then none else c8 (aij::ajT)
def kF aNm aM9 aNl(dQ:(gS W x).steps=[]->(gS W x).ahead=[])(QD:aKK (gS W x)≤90):q0 [ο 0,ο 7,η x,η n] M=.ok (match pB (gS W x) n with | none=>.bh | aGM=>iM ps) M:=by
 rw[acm q0 (q=.ok (match pB (gS W x) n with | none=>.bh | aGM=>iM ps) M)]
 simp only[zC,zD,zE,zF,Nat.zero_add,Nat.reduceAdd,Nat.reduceSub,List.replicate,zG,zH,zI];rw[aga (cb (gS W x)) M (K8 h rfl rfl)]
 rw[acB];generalize gS W x=t at dQ QD;unfold pB;rw[alC Yg (∀ ρ,azn M=.ok (ς []) M) ρ Bj el (cu [aFI] M=.ok (η t.steps.length) M) aCs]
 rw[ag6 e1 (amG aau (Θ 1) [t9,sT,t7,abS n,agq]=.ok (ς aJ5) M) (by
  simp only[aD,az,bq,zB,zA,ag,Yd]) (ee (aif anG (ag8 aC7)) M ?_ (f6 hk) (f6 hk))]
 ·rw[jy,br,aD,e1];rw[akT Yg];rw[ahG (dX false (ς aJ5) (ς []) M) _ (eq_nil (w:=t.ahead))]
  simp only[ag,Bool.false_eq_true,if_false,br,aD,aY,au,aE,az,bq,zB,zA,RN,el,A6];rw[akZ anG]
  ·simp only[h1,decide_true,if_true,Bool.true_and];rw[decide_eq_decide.mpr (show(aMr≤afp)↔aC7 by omega)]
  ·simp[h1]
 ·have h1:=aDY;rw[Ω (if_pos ⟨of_decide_eq_true h1.1,aEn h1⟩) (ajB .bh M (aT rfl))]
 ·have hh:¬(anG/\aC7):=λ h1=>by
   rw[decide_eq_true h1.1,decide_eq_true h1.2] at hk;cases hk
  rw[afZ hh];rw[ab4 hs aCD (adD (hh ⟨dQ e,by rw[alL aog]⟩)) (cX (aGk _))]
  have e2:dN false ajw (agk aB9) (gN 0) yH akm [t9,sT,t7,abS n,agq] M=.ok (iM ajT) M:=by
   rw[cj (xs:=t.ahead) (w:=none) (M':=M) aI (λ _=>true) (aua s s) (aiz [y]) (dZ e1) trivial aiH (ajK s) (ad0 QD)]
   ·rw[amK,bT (by rw[aqh QD])];rw[apX iM]
   ·rw[afF y rfl hρ (aa9 _ rfl adE (λ _=>d7 QC))]
  rw[aD,gA,au,aD,aD,aD];simp only[az,bq,zB,zA,ag,RN,Ye hs,QC,aE];rw[aoT,ag,e2,ag];show aum ([PV.int aij]++(ajT).map alX)=_;rw[ab2 (bZ (by rw[aer]))]
universe zE
universe Sb
universe zE
section
namespace Sb
open PySem L2
section
variable {C:Cs} {Y:gH} {o:adB} {M:bb} {B:Bx} {W:Wd} {j:Nat} {ρ:fk}
structure Qs aNS(glk gwh gti:D1):Prop where
 lk:∀M B W o j aOA,akE->amC->glk [ο 0,η p] M=.ok (bM arD) M
 wh:∀M B W o j aNs t,akE->afQ->abW=acv->gwh [ο 0,η x] M=.ok (iM aJC) M
 ti:∀M B W o j aOA,akE->amC->gti [ο 0,η p] M=.ok aIM M
def aeX{gc gu gt:D1}aNj aUk aRB:Qs C Y (j6 C.yd gc) (lC gu gt) (gQ C.yd gc gu):=by
 have h16:=G.g.qA
 rw[ab8 (λ M B W o j p s hp=>?_) (λ M B W o j x t s hx ht'=>?_) (λ M B W o j p s hp=>?_)]
 ·have:=Mu (i:=aae p) s.y (hc Y _ o M B p s.y (Br b6));rw[g9 (atg hp) this this]
 ·have:=TU (x:=x) s.y (aeQ s.f.I s.S) (UA G s.f.I s.S) (ht Y o M B x s.y hx) hu
  rw[ak1 e (abW=(aiZ).map (AS x)) (af1 s.S.trains nQ) ht' e];cases e2:aiZ with
  | none=>rw[asi]; cases e
  | some tb =>
   rw[e2] at e this;rw[aAh (_=aBF (iM (tb.tr.steps.map (·.1)))) this];cases e;rfl
 ·rw[aiL (Vy hc hu Y o M B p s.y (UA G s.f.I s.S) (Br b6)) (atg hp)];rw[Ω (IT s.S) this]
def UG{t:Int}:YW (amQ "where"):=aar
def Q0{r:Int}aNd:LW (apn (n+1) r)=1:=by
 rw[acu LW List.length_replicate]
 have h:∀(m:Nat)(val:ajM Int),(∀k≤m,val k=r)->PyProof.Rows.firstMet val (m+1)=[r]:=λ m=>by
  induction m with
  | zero=>intro val hv;rw[PyProof.Rows.firstMet_succ,PyProof.Rows.firstMet_zero,hv 0 ack]; rfl
  | succ m ih =>
   intro val hv;rw[PyProof.Rows.firstMet_succ,ih val (λ k hk=>hv k b6),hv (m+1) ack];simp[PyProof.Rows.step_dedup]
 rw[ab2 (h n _ (λ k hk=>by rw[List.getD_eq_getElem?_getD,List.getElem?_replicate,aon];rfl))]
def MM{n k:Nat}aSS(h:alq=aAm k):k=pre.length/\k<n:=by
 have h1:=congrArg (λ l=>l[pre.length]?) h;simp only[aDW ack,Nat.sub_self,zA] at h1;have h2:=aIT;rw[aq3 h3 h4 h2 List.getElem_range h4];rw[List.length_range] at h3;omega
abbrev mi aOj(k x:Int)(pl:ae6)(y6 y7 y8 y9:akQ):fk:=[aiR .m5,afc,t9,sT,t7,c8 (iM pl),y6,y7,y8,y9]
def VB aN5{w:Wo}{vs:List Wo}:mG neg (b5 w.s) (f9 (vs.map (as1 v v.s))) M=.ok (.bl (ail (aea w vs) (aea w vs))) M :=
 ph (enc:=fun(w:Wo)=>PV.str w.s) QL (λ a b h=>QM.mp (PV.str.inj h)) rfl
def dd0 aSN:agu (fj d) 0=.ok (b5 d.1.s) M:=vR
def dd1 aSN:agu (fj d) 1=.ok (η d.2.1) M:=r6 (i:=1) rfl
def ZC aSN:agu (fj d) 2=.ok (η d.2.2) M:=r6 (i:=2) rfl
abbrev On aNS aNs(A:HB)aNi:Prop:=∃W t,aDy/\abW=acv/\t.ahead=A
def UH{gm VC gb:D1}aOV{k x:Int}{pl:ae6}{m:Nat}{A:HB}{y7 y8 y9:akQ}{P:aiO}{s2:DS}aNj aPH aT0 aOp(hmm:air m)(hA:agx A)(st:On C Y x A M)
  (q:∀M' y7 y8,On C Y x A M'->P (s2 aIs M')) :
  P (aF (jt (Al [(aB cx (aw gm (agU aHa)) (Θ 4))]) (gN 7) (agS 8 VC [b7,(afw (anr (aB (la false) (Θ 5) (ae 6))) agh),d8] (bx (Ai (ajf aHf aau) (af4 (mG true) (aoD 8) (gI [(t8 "go"),(t8 "turn")]))) (ayO gb [c7,d8,(aoD 8),(aoY (ae 8)),aHf]) fe))) s2 aIs M):=by
 rw[alv n4 en hn (aFR N (akA (k+(1+anR))) m 4) hi (Al [(aB cx (aw gm (agU aHa)) (Θ 4))] aIs M=aw0 .ok (List.range n4).map M) (AM (by unfold mi; simp[hm ns _ M,pA,en]) b6)];generalize Al [(aB cx (aw gm (agU aHa)) (Θ 4))]=di at hi ⊢
 refine aH (gR (ahC (aez k) k) (aiT ((∃y7 y8,ρ=aIs)/\On C Y x A M')) (List.range n4) none M hi trivial ⟨ah7 y7 y8,st⟩ ?_ ?_)
 ·rintro pre c post Yh ρ M' ⟨⟨y7,y8,rfl⟩,W,t,⟨B,o,j,s⟩,ht,hta⟩;refine afT (mi ns k x pl (abS (1+m)) (abS c) y8 y9) ?_;rw[ana d hd ed (VD M' B W o j ns (k+5*(1+anR)+c) s) (acX (fj d) M' ?_)]
  ·have e5:la false (η 5) (η (1+anR)) M'=.ok (η (5*(1+anR))) M':=FR (by rw[ab2 (jQ d6 d6)]);unfold mi;simp only[aY,au,aE,aD,az,bq,zB,zA,ag,e5,vB,ed]
  show Body none _ _ (bx _ _ _ (mi ns k x pl (abS (1+m)) (abS c) (c8 (fj d)) y9) M')
  refine ee (!(aeY d.2.2 x) || !(aea d.1 [Wo.go,afb])) M' ?_ (f6 hk) (f6 hk)
  ·have e1:gI [(t8 "go"),(t8 "turn")] (mi ns k x pl (abS (1+m)) (abS c) (c8 (fj d)) y9) M'=.ok (f9 ([Wo.go,afb].map (as1 v v.s))) M':=rfl;rw[sH,br,aD,aD,show ae 8 (mi ns k x pl (abS (1+m)) (abS c) (c8 (fj d)) y9) M'=.ok (fj d) M' from rfl,ag,bq,ag,ZC,ag,ayR 4 (mi ns k x pl (abS (1+m)) (abS c) (c8 (fj d)) y9) M' .ok x M',ag,dU]
   simp only[if_true,ag];rw[akZ (d.2.2=x)]
   ·simp only[h1,decide_true,Bool.not_true,Bool.false_eq_true,if_false,Bool.false_or];rw[br,aD,aD,show ae 8 (mi ns k x pl (abS (1+m)) (abS c) (c8 (fj d)) y9) M'=.ok (fj d) M' from rfl,ag,bq,ag,dd0,ag,e1,ag,VB]
    rfl
   ·simp[h1]
  ·rw[alv M2 e2 JH (hbo M' W d.1 d.2.1 d.2.2 ⟨B,o,j,s⟩ hd.1 hd.2) hw (d.2.2≠x\/(d.1≠.go/\d.1≠afb)) (by
    rw[akZ (d.2.2=x)]
    ·right
     have h2:d.1∉[Wo.go,afb]:=asz h1 hk
     rw[aab (adD (h2 (d7 e))) (λ e=>h2 (d7 e))]
    ·exact b4 h1)]
   obtain⟨t',ht',NR,_⟩:=ML (i:=d.2.1) G s.f ht (by rw[Ω hta hA]) hw;refine apg afE M2 (aqr (alN _) _ t' JH ht' (NR.trans hta))
   unfold mi;simp only[aY,au,aE,aD,az,bq,zB,zA,ag,dd0,dd1,ZC,e2]
  ·exact cX (aqr (alN _) W t ⟨B,o,j,s⟩ ht hta)
 ·rintro ρ' M' ⟨⟨y7,y8,rfl⟩,zj⟩;exact adg (q M' y7 y8 zj)
universe zE
universe Sb
universe zE
section
namespace Sb
open PySem L2
section
variable {C:Cs} {Y:gH} {o:adB} {M:bb} {B:Bx} {W:Wd} {j:Nat} {ρ:fk}
def int_1{m:Nat}:(PV.int (1+anR))=η (afh (m+1)):=by congr 1; omega
def Yz aNp aM9(h:abO=.ok (η (afh (n+1))) M)(hn:n≤100000):YQ [Θ 1,d] ρ M=.ok ((alq).map (ahC (aez m) (1+m)),none) M:=by
 have e:fF [Θ 1,d] ρ M=.ok [η 1,η (afh (n+1))] M:=by rw[au,bq,ag,au,h]; rfl
 rw[apH YQ e ag]
 have h62:aae 2 ^ 62=4611686018427387904:=aKN
 rw[h62,if_pos ⟨b6,b6,b6,b6⟩,show ah4 (afh (n+1)-1)=n by omega];rfl
def nX{gm VC gb glk gwh gti:D1}aOV{k x:Int}{t:Tr}aNj aPH aT0(Q:Qs C Y glk gwh gti)aOp(st:aDy)(ht:abW=acv) :
  ∃M' W',uN C.yd gm VC gb glk gwh gti [.m5 ns,η k,ο 0,ο 7,η x,iM (aij::ajT)] M=.ok afE M'/\St C Y M' W':=by
 rw[aev h16 G.g.qA QD (aEA 16) (by
  obtain⟨B,o,j,s⟩:=st;rw[aeq (s.f.I.XR G.bB ht)])]
 rw[acm uN (∃M' W',q=.ok afE M'/\St C Y M' W')];simp only[zC,zD,zE,zF,Nat.zero_add,Nat.reduceAdd,Nat.reduceSub,List.replicate,zG,zH,zI]
 have hi:YQ [(Θ 1),(ae9 (ae 5))] (mi ns k x (aij::ajT) none none none none) M=.ok ((aLC).map (ahC (aez m) (1+m)),none) M:=by
  refine Yz ?_ b6;unfold mi;simp[cu]
 generalize YQ [(Θ 1),(ae9 (ae 5))]=di at hi ⊢
 refine aH (gR (ρ:=mi ns k x (aij::ajT) none none none none) (ahC (aez m) (1+m)) (aiT ((∃y6 y7 y8 y9,ρ=mi ns k x (aij::ajT) y6 y7 y8 y9)/\On C Y x (t.ahead.drop pre.length) M')) aLC none M hi trivial ⟨⟨none,none,none,none,rfl⟩,W,t,st,ht,rfl⟩ ?_ ?_)
 ·rintro pre m post Yh ρ M' ⟨⟨y6,y7,y8,y9,rfl⟩,on⟩;obtain⟨e1,se⟩:=MM Yh;rw[← e1] at on;refine afT (mi ns k x (aij::ajT) (abS (1+m)) y7 y8 y9) ?_
  rw[ab4 hA (agx aqZ) (adD (by
   have:=aEe e;rw[aia List.length_drop this this];omega)) (UH G hm VD hbo hx b6 hA on (acE M1 y7 y8 on1))];obtain⟨W1,t1,⟨B1,o1,j1,s1⟩,Xp,Vo⟩:=on1;obtain⟨r,_,hr,_,GG⟩:=(s1.f.I.tr x t1 Xp).ah (by rw[Ω Vo hA])
  rw[agw Ow (aho aqZ (aAv s.1/\aG B1.locks s.1=af9)) (ale (by
   rw[ain (GG s (by rw[Ω Vo hs])) (s1.f.I.lt h1)];rw[s1.S.locks s.1 h2] at h1;rw[aab h2 aqU])) hdl (acL aqZ) (t.ahead.length-m) List.length_drop];obtain⟨L,hL⟩:∃L,acL aqZ=L+1:=⟨acL aqZ-1,b6⟩;rw[aga (ς (ax1 (aqz (L+1)).map)) M1 ?_]
  ·have es:C3 false (ae 5) (kj (ae 6)) fG (mi ns k x (aij::ajT) (abS (1+m)) y7 y8 y9) M1=.ok (ς ((aeS (aqZ).map).map alX)) M1:=by
    show FU false (iM (aij::ajT)) (c8 (1+anR)) none M1=_;rw[show(1+anR)=afh (m+1) by omega];show(match iw M1 (ς ((aij::ajT).map alX)) with | agm=>rT false (pI xs (aBd (aez (m+1))) none) M1 | none=>c6)=_
    rw[afG iX];rw[Iv (k:=m+1) (by rw[aer]),← List.map_drop,List.drop_succ_cons,← List.map_drop,bZ (by rw[aer])]
   rw[cj (xs:=aeS (aqZ).map) (w:=none) (M':=M1) alX (λ _=>true) (axl _ r) (aiz [y,t9]) (dZ es) trivial aiH (axr p hp) (by rw[zK,hdl]; show _≤16000000;omega)]
   ·rw[amK,List.map_const',zK,hL,List.map_replicate,bZ (by rw[aLH])]
   ·rw[alk y hρ];rw[aiN s hs hp];rw[amv (Ow s hs)];refine aa9 _ rfl adE (f6 _);dsimp only[List.set_cons_zero];rw[s1.y.met (ρ:=[abS s.1,t9]) (d:=f7) (ds:=[b7]) (xs:=[η s.1]) rfl Mt rfl,Q.lk M1 B1 W1 o1 j1 s.1 s1 h1,h2];rfl
  show Body none _ _ (aF _ _ (aw7 (aqz (L+1)).map) M1);rw[alV (o5 M1 ?_ atE)]
  ·rw[d9 e9 (ae 9 (aw7 (aqz (L+1)).map) M1=.ok (ς (ax1 (aqz (L+1)).map)) M1) rfl e0 (aO (ς (ax1 (aqz (L+1)).map)) (η 0) M1=.ok (η r) M1) (eX (i:=0) (by rw[ab2 List.replicate_succ]))]
   have el:zr (ae 9) (aw7 (aqz (L+1)).map) M1=.ok (η 1) M1:=by
    unfold zr;rw[e9,ag,iX,Option.bind_some,ints_map];dsimp only;rw[af5 (by rw[aLH]),Q0];rfl
   rw[sH,br,aD,aD,e9,ag,bq,ag,e0,ag,bq,ag,ao6 (sk false (η r) .bh M1) .ok (ako .bl) M1]
   rw[aFc ag];rw[br,aD,el,ag,bq,ag,dU];rfl
  rw[alv M2 e2 JH (hbo M1 W1 .go 0 x ⟨B1,o1,j1,s1⟩ (Ur) hx) ho1 (acs t1.out) (by
   cases e:t1.out with
   | false=>rfl
   | true=>rw[afS ((s1.f.I.tr x t1 Xp).ot e).1 (by rw[Ω Vo hA])])]
  obtain⟨_,hgo⟩:=UD (Y:=Y) (i:=0) Xp (by rw[Ω Vo hA]) ho1;rw[Vo] at hgo
  obtain⟨B2,o2,j2,s2⟩:=JH
  obtain⟨s0,rest,hsr⟩:∃s0 rest,aqZ=s0::rest:=by
   cases e:aqZ with
   | nil=>rw[afS e hA]
   | cons s0 rest=>rw[amU s0 rest]
  rw[hsr] at hgo;have hp0:=(Ow s0 (by rw[af2 hsr])).1
  rw[agw eix (∀M' y9,apZ (ae 5) (ae 6) (mi ns k x (aij::ajT) (abS (1+m)) y7 y8 y9) M'=.ok (η ahQ) M') (λ M' y9=>by
   show aO (iM (aij::ajT)) (η (1+anR)) M'=_;rw[anI int_1 (eX ?_)];rw[zC,zB,List.map_map,zJ]
   have:acn t.ahead m s0:=by
    have:=congrArg (λ l=>l[0]?) hsr;simpa using this
   rw[ab2 this]) ew (gwh [ο 0,η x] M2) (.ok (iM (aeS ([s0]++t1.steps).map)) M2) (Q.wh M2 B2 _ o2 j2 x _ s2 hx hgo)];rw[adS eti (Q.ti M2 B2 _ o2 j2 ahQ s2 hp0) (UE s2.f.I hgo (s:=s0) Ξ) eti];rw[alV (o5 M2 ?_ (cX (adg (o5 M2 ?_ (cX (aqr ⟨_,_,_,_,rfl⟩ _ _ ⟨B2,o2,j2,s2⟩ hgo ?_))))))]
  ·have eb:aw gb [c7,d8,(t8 "go"),(Θ 0),aau] (aw7 (aqz (L+1)).map) M1=.ok afE M2:=e2;rw[sH,tL,fq,eb];simp only[ag,xF,Bool.not_true,Bool.false_eq_true,if_false];rw[br,aD,aD,s2.y.met (ρ:=aw7 (aqz (L+1)).map) (d:=c7) (ds:=[aau]) (xs:=[η x]) rfl UG rfl,ew,ag,bq,ag,ahG (aO (iM (aeS (([s0]++t1.steps)).map)) (η 0) M2) (.ok (η ahQ) M2) auq,ag,eix,ag,dU]
   simp
  ·rw[br,aD,s2.y.met (ρ:=aw7 (aqz (L+1)).map) (d:=c7) (ds:=[aoy (ae 5) 6]) (xs:=[η ahQ]) rfl A9 (by rw[au,eix]; rfl),eti,ag,ayR 4 (aw7 (aqz (L+1)).map) M2 .ok x M2,ag]
   show(dX true (η x) (η x) M2).bind _=_
   rw[af2 dU]
  ·show rest=t.ahead.drop (aso pre [m]);rw[List.length_append,List.length_singleton,← e1,← List.drop_drop,hsr];rfl
 ·rintro ρ' M' ⟨⟨y6,y7,y8,y9,rfl⟩,W',t',zj,_⟩;exact adg (bw afE M' rfl (aT (agY M' W' zj)))
universe zE
universe Sb
universe zE
end
mutual
section
namespace Sb
open PySem L2
section
variable {C:Cs} {Y:gH} {o:adB} {M:bb} {B:Bx} {W:Wd} {j:Nat} {ρ:fk}
def abG aNf:la false (η 2) (η k) M=.ok (η (2*k)) M:=FR (by rw[ab2 (jQ d6 d6)])
def ae0{a b c:Nat}{x y z:PV}:gT 3 (dH (gN a) (dH (gN b) (aqu c))) (f9 [x,y,z]) ρ=ab1 ((ρ.set a ad5).set b anD).set c (some z):=rfl
abbrev nA aOj(y3 y4 y5 y6 y7 y8 y9:akQ):fk:=[aiR .m5,t9,sT,y3,y4,y5,y6,y7,y8,y9]
def ir{gs gm VC gd ga gp gg:D1}aOj(hs:∃Y M,abX/\gs [.m5 ns] []=.ok (f9 [ο 0,ο 7]) M/\St C Y M (W0 Y))aPH(VD:∀Y,abX->G4 C Y VC)(B3:∀Y,abX->K6 C Y gd ga)
  (hp:∀Y M W j aNs aNd,ab3->((gS W x).steps=[]->(gS W x).ahead=[])->aKK (gS W x)≤90->gp [ο 0,ο 7,η x,η n] M=.ok (match pB (gS W x) n with | none=>.bh | aGM=>iM ps) M)
  (hg:∀Y M W(k x:Int) t,abX->afQ->aDy->abW=acv->∃M' W',gg [.m5 ns,η k,ο 0,ο 7,η x,iM (aij::ajT)] M=.ok afE M'/\St C Y M' W') :
  ∃M',sG gs gm VC gd ga gp gg [.m5 ns] []=.ok afE M':=by
 obtain⟨Y,M0,G,es,st0⟩:=hs;have h16:=G.g.qA;rw[ajh sG (∃M',r=.ok afE M')];simp only[zC,zD,zE,zF,Nat.zero_add,Nat.reduceAdd,Nat.reduceSub,List.replicate,zG,zH];rw[alV (Df (f9 [ο 0,ο 7]) (nA ns none none none none none none none) M0 ?_ Qx acw)]
 ·simp only[aY,au,aE,az,zA,ag,es]
 rw[alv n hn1 Sh (aFR N (iF ns 38) m 21) hi (Al [(aB cx (aw gm (agU (Θ 38))) (Θ 21))] (nA ns none none none none none none none) M0=aw0 .ok (alq).map M0) (AM (by unfold nA; simp[hm ns 38 M0,pA,hn1]) b6)];generalize Al [(aB cx (aw gm (agU (Θ 38))) (Θ 21))]=di at hi ⊢
 refine aH (gR (ahC (aez k) k) (aiT ((∃y3 y4 y5 y6 y7 y8 y9,ρ=nA ns y3 y4 y5 y6 y7 y8 y9)/\∃W,St C Y M' W)) alq none M0 hi trivial ⟨⟨_,_,_,_,_,_,_,rfl⟩,_,st0⟩ ?_ ?_)
 ·rintro pre k post hx ρ M ⟨⟨y3,y4,y5,y6,y7,y8,y9,rfl⟩,W,B,o,j,s⟩;refine afT (nA ns afc y4 y5 y6 y7 y8 y9) ?_;obtain⟨d,hd,ed⟩:=VD Y G M B W o j ns (60+2*auj) s;obtain⟨w,i,x⟩:=d;rw[ate Va ahz hd.1 Pu afQ hd.2 (Df (fj (w,i,x)) (nA ns afc ahj agO t7 y7 y8 y9) M ?_ ae0 acw)]
  ·unfold nA;simp only[aY,au,aE,aD,az,bq,zB,zA,ag,abG,vB,ed]
  rw[aga (cb (gS W x)) M (K8 s.w rfl rfl)];show Body none _ _ (aF _ _ (nA ns afc ahj agO t7 (ajW (gS W x)) y8 y9) M);rw[al6 M1 M2 e1 e2 JH (B3 Y G M W w i x ⟨B,o,j,s⟩ Va Pu) (acX (b5 (kM afP)) M1 ?_)]
  ·unfold nA;simp only[aY,au,aE,az,zB,zA,ag,e1]
  show Body none _ _ (aF _ _ (nA ns afc ahj agO t7 (ajW (gS W x)) (akL (kM afP)) y9) M1);generalize afP=kd at e1 e2;rw[alV (o5 M2 ?_ atE)]
  ·unfold nA;simp only[br,aD,aY,au,aE,az,zB,zA,ag,e2,abA,Bool.not_true]
  have e7:∀M,amG agh (Θ 1) (nA ns afc ahj agO t7 (ajW (gS W x)) (akL (kM kd)) y9)=.ok (ς ((gS W x).ahead.map aI)) M:=λ M=>by
   unfold nA;simp only[aD,az,bq,zB,zA,ag,Yd]
  generalize sR Y W w i x=W2 at JH;obtain⟨B2,o2,j2,s2⟩:=JH;rw[ab4 Yg (∀ ρ,azn M2=.ok (ς []) M2) (λ ρ=>Bj) (ee (okb kd && (aea w [Wo.enter,.go] && aeY (gS W x).ahead [])) M2 ?_ (f6 hk) (λ hk=>cX (aqr ⟨_,_,_,_,_,_,_,rfl⟩ W2 B2 o2 j2 s2)))]
  ·have et:gI [(t8 "enter"),(t8 "go")] (nA ns afc ahj agO t7 (ajW (gS W x)) (akL (kM kd)) y9) M2=.ok (f9 ([Wo.enter,.go].map (as1 v v.s))) M2:=rfl;rw[jy,br,aD,show ae 8 (nA ns afc ahj agO t7 (ajW (gS W x)) (akL (kM kd)) y9) M2=.ok (b5 (kM kd)) M2 from rfl,ag,bq,ag,abB,ag]
   cases okb kd with
   | false=>rfl
   | true =>
    simp only[ag,if_true,Bool.true_and];rw[jy,br,aD,show ae 4 (nA ns afc ahj agO t7 (ajW (gS W x)) (akL (kM kd)) y9) M2=.ok (b5 w.s) M2 from rfl,ag,et,ag,VB]
    rw[aFc ag];by_cases hw:w∈[Wo.enter,.go]
    ·simp only[hw,decide_true,if_true,Bool.true_and];rw[br,aD,e7,ag,Yg,ag,ahG (dX false (ς ((gS W x).ahead.map aI)) (ς []) M2) _ (eq_nil (w:=(gS W x).ahead))]
     rfl
    ·simp only[hw,decide_false,Bool.false_eq_true,if_false,Bool.false_and]
  ·rw[avV el (aw cu [(aoD 7)] (nA ns afc ahj agO t7 (ajW (gS W x)) (akL (kM kd)) y9) M2=.ok (η (aez aHc)) M2) (by
    rw[ajE e0 (apZ agh (Θ 0) (nA ns afc ahj agO t7 (ajW (gS W x)) (akL (kM kd)) y9) M2=.ok (ς ((gS W x).steps.map aI)) M2) (by
     unfold nA;simp only[aD,az,bq,zB,zA,ag,RN]) (QQ e0)]) dQ ((gS W2 x).steps=[]->(gS W2 x).ahead=[]) h (by
    unfold gS at h ⊢;cases e:aE4 x with
    | none=>rfl
    | some t=>rw[g9 e h (absurd h (s2.f.I.tr x t e).ne)])]
   have QD:aKK (gS W2 x)≤90:=by
    unfold gS;cases e:aE4 x with
    | none=>exact aog
    | some t =>
     have:=s2.f.I.XR G.bB e;show aEA 90;omega
   rw[DB ep (hp Y M2 W2 j2 x aHc s2.w dQ QD) (acX (match pB (gS W2 x) aHc with | none=>.bh | aGM=>iM ps) M2 ?_)]
   ·rw[aY,au,show ae 1 (nA ns afc ahj agO t7 (ajW (gS W x)) (akL (kM kd)) y9) M2=.ok (ο 0) M2 from rfl,ag,au,show ae 2 (nA ns afc ahj agO t7 (ajW (gS W x)) (akL (kM kd)) y9) M2=.ok (ο 7) M2 from rfl,ag,au,show ae 6 (nA ns afc ahj agO t7 (ajW (gS W x)) (akL (kM kd)) y9) M2=.ok (η x) M2 from rfl,ag,au,el]
    rw[akT aE]
    exact ep
   generalize hV:pB (gS W2 x) aHc=pv;cases pv with
   | none =>
    rw[ahn (o5 M2 ?_ (cX (aqr ⟨_,_,_,_,_,_,_,rfl⟩ W2 B2 o2 j2 s2))) jy];rfl
   | some ps =>
    have ht:∃t,aE4 x=acv:=by
     cases e:aE4 x with
     | none =>
      unfold pB gS at hV;rw[e] at hV;rw[amg (ah9 aog) hV];cases hV
     | some t=>exact awG
    rw[anc t ht ht Em (ps=aij::ajT) (by
     unfold pB gS at hV
     rw[ht] at hV;split at hV
     ·cases hV
     ·exact(Option.some.inj hV).symm)]
    obtain⟨M3,W3,e3,Wc⟩:=hg Y M2 W2 (61+2*auj) x t G Pu ⟨B2,o2,j2,s2⟩ ht;rw[← Em] at e3;refine o5 M3 ?_ (cX (agV ⟨⟨_,_,_,_,_,_,_,rfl⟩,W3,Wc⟩));rw[jy,ao6 (aW (aB (sk true) (ae 9) (dC .bh)) ((nA ns afc ahj agO t7 (ajW (gS W x)) (akL (kM kd)) y9).set 9 (c8 (iM ps))) M2) .ok true M2]
    rw[akT if_true];unfold nA;rw[acB];simp only[tL,fq,aY,au,aE,aD,az,bq,zB,zA,ag,abG,vB,e3,xF];rfl
 ·rintro ρ' M' ⟨⟨y3,y4,y5,y6,y7,y8,y9,rfl⟩,_⟩;exact adg (bw afE M' rfl (aT adE))
universe zE
universe Sb
universe zE
section
namespace Rw
open PySem L2 Sb PySem.W
structure Top aQX(bp xG eO aS i6 iP bU aL:Addr):Prop where
 kh:auH "BadYard" bp
 EK:auH "Held" eO
 kP:auH "NotThere" aS
 K9:auH "Red" i6
 MN:mg "BadYard" = aib bp
 YA:mg "Held" = aib eO
 IZ:mg "NotThere" = aib aS
 abH:mg "Red" = aib i6
 xH:Catch K mg "BoxError" xG [bp,aS,eO,i6]
 MP:Gd K (Δ bp) [azc,arN,arO,arP]
 YB:Gd K (Δ eO) [arM,arN,aze,arP]
 Ja:Gd K (Δ aS) [arM,azd,arO,arP]
 abI:Gd K (Δ i6) [arM,arN,arO,azf]
 EL:Gd K (acr "ValueError") [azc,azd,aze,azf]
 dif:Dif bp aS eO i6
 pC:lP K iP "near"
 wm:lP K iP "until"
 jm:lP K bU "ahead"
 jS:lP K bU "is_out"
 ej:lP K bU "steps"
 gU:aqH "falls"
 nB:aqH "found"
 hU:aqH "greens"
 lI:aqH "locks"
 nC:aqH "lying"
 hY:aqH "pieces"
 jT:aqH "signals"
 lJ:aqH "ticks"
 fM:aqH "trains"
 sX:aqH "wait"
 EM:amj "ValueError"
 abJ:amj "any"
 yr:amj "enumerate"
 VF:amj "int"
 lK:amj "isinstance"
 eQ:amj "len"
 mX:amj "list"
 abK:amj "max"
 VH:amj "min"
 pD:amj "range"
 Jb:amj "reversed"
 abL:amj "set"
 UI:amj "tuple"
 wo:∃t:Tok,mg "LAST_JOINT" = ab1 η 999 t
 uo:∃t:Tok,mg "MOST_PIECES" = ab1 η 16 t
 sY:∃t:Tok,mg "MOST_SIGNALS" = ab1 η 16 t
 G5:abU "joints_of" jC as3
 G6:abU "pieces_at" iO aFt
 Bs:abU "piece_beyond" fR aBA
 G7:abU "is_border" kQ aBA
 EN:abU "joints_out" iQ aFB
 G8:abU "is_points" kR as3
 MQ:abU "lie_for" nD aKT
 EO:abU "check_yard" jV avf
 Bt:abU "check_pieces" ig ["pieces"]
 Bu:abU "check_joints" ij (aAO "joints")
 yK:abU "check_signals" gK avf
 ER:C7 K mg "Train" bU "Train.__init__" jW ["self"]
 Bv:abU "pieces_under" fS aF4
 Q3:abU "turned" pP arn
 Q4:abU "routes" pQ avf
 Dx:abU "ways_on" pR ["pieces","signals","way","joint","piece"]
 G9:C7 K mg "Yard" aL "Yard.__init__" jD aGu
 Bw:C6 K aL "lock_of" "Yard.lock_of" lj aBE
 yL:C6 K aL "train_in" "Yard.train_in" ku aBE
 ES:C6 K aL "where" "Yard.where" ng aKU
 Ha:C7 K mg "Fall" iP "Fall.__init__" kS aLm
 Hb:aBa "set_route" kT
 Q5:aBa "cancel" pS
 YC:abU "tick" wC ["yard"]
 UJ:aFs "throw" tm
 Q6:aqX "unlock" pT "steps"
 Hc:aBa "signal_of" mD
 Q7:aBa "way_of" rV
 By:aqX "is_at_border" jE "signal"
 Bz:aqX "signal_ahead" ik "train"
 ET:aqX "train_near" jX "signal"
 BA:aFN "train_called" il
 Cp:aBa "check_route" jf
 Cq:aFs "check_piece" jg
 BB:aFs "check_points" ip
 BC:aqX "check_signal" iq "signal"
 BD:abU "is_number_of" ll aK8
 xI:aFs "check_not_held" fN
 UK:abU "enter" tq aFO
 ae1:aFN "go" Lc
 YD:aFN "draw" wD
 YE:aFN "turn" ux
 EU:abU "route_past" jY aFO
 Cr:abU "pass_signal" jh aKJ
 MR:aqX "come_on" nE "train"
 Q8:abU "_law_cell" pU aA5
 UL:abU "_law_mix" tu aA5
 Jc:abU "_law_beyond" jF ["_law_pieces_here","_law_at","_law_joint"]
 Jd:abU "_law_pieces" iR aMK
 He:abU "_law_signals" kU aMO
 Q9:abU "_law_outs" nU aEW
 Hf:abU "_law_ways" rW ["_law_pieces_here","_law_signals_here","_law_way","_law_at","_law_joint"]
 Je:abU "_law_routes" kD aL5
 UM:abU "_law_new" qB aMN
 EV:abU "_law_train_in" gL asL
 Ra:abU "_law_held" pV asL
 Rb:abU "_law_free" nV aqW
 UN:abU "_law_set" qC aqW
 Rc:abU "_law_near" pW aEv
 Jf:abU "_law_cancel" kE aqW
 Rf:abU "_law_tick" pX ["_law_world"]
 MS:abU "_law_throw" nF asL
 Rg:abU "_law_pass" nW aMQ
 MT:abU "_law_enter" nG aMu
 YF:abU "_law_go" wF axo
 Rh:abU "_law_draw" pY axo
 Ri:abU "_law_turn" mE axo
 MU:abU "_law_there" nH aAT
 Rj:abU "_law_done" pZ aAT
 MV:abU "_law_asked" nI aML
 Hg:abU "_law_refusal" kW ["_law_kept"]
 BE:abU "_law_near_deeds" fT aEv
 Rk:abU "_law_deed" p0 aME
 MW:abU "_law_start" nJ axn
 Rl:abU "_law_both" p5 aMU
 Jg:abU "_law_passed" kF aM8
 Rm:abU "_law_goes" nX ["_law_script","_law_k","_law_yard","_law_world","_law_name","_law_places"]
section
variable {z:Zn} {bp xG eO aS i6 iP bU aL:Addr} (T:Top z.K z.mg bp xG eO aS i6 iP bU aL)
include T
omit T in theorem EW:abR as3 as3 jC:=iW
def wq:Fn z (k+1) "joints_of" 1 (dF):=gE.go T.G5 EW λ _ _ _ _ _ _ _ hr G=>(aeg (azq (aej (arR (aa 0)))))
omit T in theorem EX:abR aFt aFt iO:=iW
omit T in theorem jU:ahR ["number","piece","joint"]:=ac1
def wu aRf:adF "pieces_at" (gY dw):=gE.go T.G6 EX λ _ _ _ _ _ _ _ hr G=>(aeg (fL false (apU (av iO) aFt ["number","piece","joint"] [none,none,akV]) G.calm (Kb (aa 0) T.yr) (ahN (mR (ab0 jU).calm (cP (aR 0 (ab0 jU).nd) (cP (aR 1 (ab0 jU).nd) kz)))) (ahN (jI (aJ (iz (ab0 jU).hu) (aa 2) (aC fD hr (ab0 jU).gg (acA 1))))) (λ _ _ _ _=>(aa 0))))
omit T in theorem yM:abR ["pieces","number","joint","other"] aBA fR:=iW
def rG aUD:Fn z (k+1) "piece_beyond" 3 (iB jJ):=gE.go T.Bs yM λ _ _ _ _ _ _ _ hr G=>(as6 (cv (aj1 k7 2)) (acD 3) (apP (jG G.hu) (aa 3) (aa 1) (agd (aa 3))) cO)
omit T in theorem EY:abR aBA aBA kQ:=iW
def EZ aSh:auE "is_border" (mq dy):=gE.go T.G7 EY λ _ _ _ _ _ _ _ hr G=>(aeg (lR mP (atr fE (acA 2)) cO))
omit T in theorem Ct:abR aFB aFB iQ:=iW
omit T in theorem rH:ahR ["other","joint"]:=ac1
def Cu aRf:adF "joints_out" (jK dw):=gE.go T.EN Ct λ _ _ _ _ _ _ _ hr G=>(ai (bo (aJ (bX G.hu) (ac2 0) ay) (aeg (fL false (apU (av iQ) aFB ["other","joint"] aoN) G.calm (cv (aC fD hr G.gg (acA 0))) (ag3 (ab0 rH).nd) (aCX (ab0 rH).hu) (λ _ _ _ _=>(aa 0)))) aN) (ai (bo (aJ (bX G.hu) (aa 1) (ac2 0)) (aeg (ag5 (af (ac2 0) (akN 0)))) aN) (aeg (ag5 (akN 0)))))
omit T in theorem E0:abR as3 as3 kR:=iW
def E1:akC "is_points" 1 mr:=gE.go T.G8 E0 λ _ _ _ _ _ _ _ hr G=>(aeg (lR (bX G.hu) (ac2 0) ay))
omit T in theorem Jh:abR aKT aKT nD:=iW
def Ji aUn:adF "lie_for" (pb jL):=gE.go T.MQ Jh λ _ _ _ _ _ _ _ hr G=>(ake (bo (VW.vt (iA (bI (aC k8 hr G.gg (acA 0))) (ie (aJ (iz G.hu) (ac2 0) (arR (aa 1)))))) (agd ay) aN) ay)
omit T in theorem Cv:abR avf avf jV:=iW
def Cw(oU:afd "check_pieces" 1 oi)(mY:abV "check_signals" mS):adF "check_yard" (lA oi mS):=gE.go T.EO Cv λ _ _ _ _ _ _ _ hr G=>(ajA (bu (aC oU hr G.gg (acA 0))) (bu (agN mY)))
omit T in theorem yN:abR (aAO "piece") ["pieces"] ig:=iW
def yO(oV:abV "check_joints" oj)aRf:akC "check_pieces" 1 (jZ bp oj dw):=gE.go T.Bt yN λ _ _ _ _ _ _ _ hr G=>(ai (bo (aJ (bX G.hu) (aje 0) aq) (adf (O3 T.kh hr (an9 ay))) aN) (apf sj (aje 0) aMd (adf (cF T.kh hr (cA (fg aMd (cA fV))))) (ax0 (cv (aa 0)) (acD 1) (agt (ame oV (aC fD hr G.gg (acA 1)))))))
omit T in theorem yP:abR ["pieces","joints","joint"] (aAO "joints") ij:=iW
def yQ aUD:adF "check_joints" (j4 bp jJ):=gE.go T.Bu yP λ _ _ _ _ _ _ _ hr G=>(ax0 aHS (acD 2) (axY (bo (VW.vt (o8 (aJ wM (aa 2) aq) (lz (aJ sj (aa 2) aMe)))) (aIJ (cA (fg aMe fV))) aN) sj (mI PySem.F.slot_list_count PySem.F.type_list_count (wR G.hu) (aa 1) (acA 2)) aq (aIJ (cA fV)) (apP sj (bz bt T.eQ cn (aej (aj1 k7 2))) aq (aIJ fV))))
omit T in theorem xJ:abR ["pieces","signals","joint","number"] avf gK:=iW
def xK aRf:adF "check_signals" (jw bp dw):=gE.go T.yK xJ λ _ _ _ _ _ _ _ hr G=>(apf sj (aje 1) aMf (adf (cF T.kh hr (cA (fg aMf (cA fV))))) (ax0 aHS (mR G.calm (cP (acD 2) (cP (acD 3) kz))) (apf sj (mI PySem.F.slot_list_count PySem.F.type_list_count (wR G.hu) (aa 1) (ata (aio (aa 2) 3))) aq (aIJ (cA (fg (aa 3) fV))) (ajA (bo (VW.vt (o8 (aJ wM (aa 3) aq) (lz (aJ OQ (aa 3) (aje 0))))) (adf (cF T.kh hr (cA (fg (aa 3) (cA fV))))) aN) (bo (aJ aGR (aa 2) (aC fD hr G.gg (aej (ajo 0 (aa 3))))) (adf (cF T.kh hr (cA (fg (aa 3) (cA (fg (aa 2) fV)))))) aN)))))
omit T in theorem Cy:abR ["self"] ["self"] jW:=iW
def Cz:In z (k+1) "Train" bU 1 (lB bU):=F0.go T.ER Cy λ _ _ _ _ _ _ _ hr G=>(aeL (akf T.ej aqj) (aeL (akf T.jm aqj) (ak (akf T.jS lq))))
omit T in theorem yR:abR aF4 aF4 fS:=iW
omit T in theorem pE:ahR arn:=ac1
def yS:akC "pieces_under" 1 (j5 bU):=gE.go T.Bv yR λ _ _ _ _ _ _ _ hr G=>(aeg (fL false (asr fS aF4 arn) G.calm (cv (aft T.ej)) (ag3 (ab0 pE).nd) (λ _ _ _ _=>gP) (ahN (ax (ab0 pE).hu (aa 0) aq))))
omit T in theorem MX:abR arn arn pP:=iW
def MY:akC "turned" 1 qK:=gE.go T.Q3 MX λ _ _ _ _ _ _ _ hr G=>(aeg (fJ (aiX (ac2 0) (ac2 0) (akN 0))))
omit T in theorem MZ:abR ["pieces","signals","told","number","signal","way"] avf pQ:=iW
def M6(rn:abV "check_yard" qL)aUE:adF "routes" (uH qL lV):=gE.go T.Q4 MZ λ _ _ _ _ _ _ _ hr G=>(arh (bu (agN rn)) 2 aqj (as6 (Kb (aa 1) T.yr) (mR G.calm (cP (acD 3) (cP (acD 4) kz))) (ax0 (cv (atr xM (aiX akh (ac2 4) (akN 4)))) (acD 5) (agt (mI PySem.F.slot_list_append PySem.F.type_list_append jH (aa 2) (ata (aio (aa 3) 5))))) (wN (aa 2))))
omit T in theorem BF:abR ["pieces","signals","way","joint","piece","found","out","longer","beyond"] ["pieces","signals","way","joint","piece"] pR:=iW
omit T in theorem wx:ahR arn:=ac1
def Jj(E2:abV "joints_out" qM)aSh aUE:akC "ways_on" 5 (yg qM dy lV):=gE.go T.Dx BF λ _ _ _ _ _ _ _ hr G=>(ai (bo (aJ (iz G.hu) (aa 4) (fL false (asr pR ["pieces","signals","way","joint","piece","found","out","longer","beyond"] arn) G.calm ayX (ag3 (ab0 wx).nd) (λ _ _ _ _=>gP) (ahN (ax (ab0 wx).hu (aa 0) aq)))) (aeg akh) aN) (afX 5 aqj (as6 (cv (avU E2 (ajo 0 (aa 4)) 3)) (acD 6) (aiJ 7 (ag2 (aa 2) (ag5 (ata (apT (aa 4) (aa 3) 6)))) 8 (al9 fE (aa 4) (acA 6)) (adf (bo (ayp (aJ mP (aa 8) cO) (lz (aJ (iz G.hu) (fJ (aio (aa 6) 8)) (aa 1)))) (agt (mI PySem.F.slot_list_append PySem.F.type_list_append jH (aa 5) (acA 7))) (agt (mI PySem.F.slot_list_extend PySem.F.type_list_extend Ig (aa 5) (aej (atr xM (apT (aa 7) (aa 6) 8)))))))) (wN (aa 5)))))
omit T in theorem E3:abR aGu aGu jD:=iW
omit T in theorem BG:ahR as3:=ac1
def E4(BH:abV "routes" Ay):In z (k+1) "Yard" aL 4 (pL aL Ay):=F0.go T.G9 E3 λ _ _ _ _ _ _ _ hr G=>(aj6 (akf T.nB (avU BH (aa 1) 2)) (akf T.hY (azq (acA 1))) (aj6 (akf T.jT (azq (acA 2))) (akf T.sX (aa 3)) (aj6 (akf T.lJ aq) (akf T.lI tF) (aj6 (akf T.nC (fL true (asr jD aGu as3) G.calm aHS (ag3 (ab0 BG).nd) (λ _ _ _ _=>gP) (λ _ _ _ _=>ay))) (akf T.hU tF) (ajA (akf T.gU tF) (akf T.fM tF))))))
omit T in theorem yT:abR aBE aBE lj:=iW
def yU aSo:Me z (k+1) aL "lock_of" 2 (j6 aL dO):=HA.go T.Bw yT λ _ _ _ _ _ _ _ hr G=>(ake (bu (agN ft)) (F7 G.hu aGz (aa 1)))
omit T in theorem xN:abR ["self","piece","name","train"] aBE ku:=iW
def xO aSo aT3:Me z (k+1) aL "train_in" 2 (gQ aL dO fW):=HA.go T.yL xN λ _ _ _ _ _ _ _ hr G=>(aeL (bu (agN ft)) (aeL (tH (dY G.own G.calm (Aw (aft T.fM)) (mR G.calm (cP (acD 2) (cP (acD 3) kz))) (apP (iz G.hu) (aa 1) (aC iJ hr G.gg (acA 3)) (agd (aa 2))))) (ak (aP cO))))
omit T in theorem CA:abR aKU aKU ng:=iW
def CB aT3(cQ:aH5):Me z (k+1) aL "where" 2 (lC fW cf):=HA.go T.ES CA λ _ _ _ _ _ _ _ hr G=>(aeg (aC iJ hr G.gg (aej aH6)))
omit T in theorem E5:abR aLm aLm kS:=iW
def E6:In z (k+1) "Fall" iP 3 (mw iP):=F0.go T.Ha E5 λ _ _ _ _ _ _ _ hr G=>(ajA (akf T.wm (aa 1)) (akf T.pC (aa 2)))
omit T in theorem E7:aj5 ["yard","route","way","step"] "route" (av kT):=iW
def E8(jn:abV "check_route" gZ)aSy aT4(xP:abV "lie_for" xa)aSs:adF "set_route" (ji aL gZ fX fh xa dz):=gE.go T.Hb E7 λ _ _ _ _ _ _ _ hr G=>(arh (bu (agN jn)) 2 (agN jd) (aeL (dY G.own G.calm ayX (acD 3) (agt (aC fP hr G.gg (af (aa 0) (akN 3))))) (aeL (dY G.own G.calm ayX (acD 3) (ajA (aiE aGz (ac2 3) (aa 1)) (aiE (aft T.nC) (ac2 3) (avU xP (ax G.hu (aft T.hY) (ac2 3)) 3)))) (ak (aiE (aft T.hU) (agN eU) (aa 1))))))
omit T in theorem M7:aj5 ["yard","route","signal","near"] "route" (av pS):=iW
def M8(jn:anm (k+1) "check_route" gZ)(eU:anm (k+1) "signal_of" dz)(rq:anm (k+1) "train_near" qN)aTR(Hh:In z k "Fall" iP 3 su)(je:anm (k+1) "unlock" fY)(jd:anm (k+1) "way_of" fX):anm (k+2) "cancel" (kI iP aS aL gZ dz qN dA su fY fX):=gE.go T.Q5 M7 λ _ _ _ _ _ _ _ hr G=>(arh (bu (agN jn)) 2 (agN eU) (apf (jG G.hu) (F7 G.hu (aft T.hU) (aa 2)) (aa 1) (adf (cF T.kP hr (cA (fg (aa 1) fV)))) (arh (bu (qe G.hu (aft T.hU) (aa 2))) 3 (aj1 rq 2) (adf (bo (aBO (aJ sj (aft T.sX) aq) (ie (ayp (aJ tD (aa 3) cO) (lz (bI (aj1 eB 2)))))) (adf (aiE (aft T.gU) (aa 1) (Kg Hh hr G.gg (aio (ag2 aLg (aft T.sX)) 3)))) (agt (ame je (agN jd))))))))
omit T in theorem UO:abR ["yard","route"] ["yard"] wC:=iW
def UP aSz aSy:akC "tick" 1 (vI iP aL fY fX):=gE.go T.YC UO λ _ _ _ _ _ _ _ hr G=>(ajA (akf T.lJ (ahF (bO false) aLg)) (dY G.own G.calm (cv (aCj (aej (aft T.gU)))) (acD 1) (apP (bX G.hu) (bA T.wm (av0 T.gU)) aLg (ajA (bu (qe G.hu (aft T.gU) (aa 1))) (bu (ame je (agN jd)))))))
omit T in theorem Rn:aFw (av tm):=iW
def Ro(oW:abV "check_points" om)aT4:adF "throw" (nL aL om fh):=gE.go T.UJ Rn λ _ _ _ _ _ _ _ hr G=>(aeL (bu (agN oW)) (aeL (bu (agN fP)) (ak (aiE (aft T.nC) (aa 1) (vC (aJ (bX G.hu) (av0 T.nC) ay) ay ay)))))
omit T in theorem M9:aj5 (ayt "steps" "step") "steps" (av pT):=iW
def Na:adF "unlock" (kJ aL):=gE.go T.Q6 M9 λ _ _ _ _ _ _ _ hr G=>(ax0 aHS (acD 2) (agt (qe G.hu aGz ait)))
omit T in theorem E9:aj5 ["yard","route"] "route" (av mD):=iW
def Fa:adF "signal_of" (kr aL):=gE.go T.Hc E9 λ _ _ _ _ _ _ _ hr G=>(aeg (ajc (av0 T.nB)))
omit T in theorem Nb:aj5 ["yard","route"] "route" (av rV):=iW
def Nc:adF "way_of" (oq aL):=gE.go T.Q7 Nb λ _ _ _ _ _ _ _ hr G=>(aeg (ajc (av0 T.nB)))
omit T in theorem yV:aj5 (ayt "signal" "place") "signal" (av jE):=iW
def yW aUo:adF "is_at_border" (iC aL jM):=gE.go T.By yV λ _ _ _ _ _ _ _ hr G=>(afX 2 (av0 T.jT) (aeg (aC k9 hr G.gg (af aGy (af ait (akN 2))))))
omit T in theorem yX:aj5 ["yard","train","head","place"] "train" (av ik):=iW
def yY aSh:adF "signal_ahead" (j7 bU aL dy):=gE.go T.Bz yX λ _ _ _ _ _ _ _ hr G=>(aiJ 2 (ajc (bA T.ej (aa 1))) 3 (fJ (apS ait (aC fE hr G.gg (af aGy (af ait (akN 2)))))) (ai (bo (aJ (iz G.hu) (aa 3) aLf) (aeg (aI1 (wU G.hu) aLf (acA 3))) aN) (agd cO)))
omit T in theorem CC:aj5 ["yard","signal","name","train"] "signal" (av jX):=iW
def CD aUf:adF "train_near" (lD aL fZ):=gE.go T.ET CC λ _ _ _ _ _ _ _ hr G=>(ake (tH (dY G.own G.calm (Aw (aft T.fM)) (mR G.calm (cP (acD 2) (cP (acD 3) kz))) (apP (bX G.hu) (aj1 iK 3) (aa 1) (agd (aa 2))))) cO)
omit T in theorem yZ:aj5 ["yard","name"] "name" (av il):=iW
def za:adF "train_called" (j8 aS aL):=gE.go T.BA yZ λ _ _ _ _ _ _ _ hr G=>(apf aGR (aa 1) (aft T.fM) (adf (cF T.kP hr (cA (fg (aa 1) (cA fV))))) (aeg (av0 T.fM)))
omit T in theorem BI:aj5 ["yard","route"] "route" (av jf):=iW
def BJ aSn:adF "check_route" (mT aS aL dB):=gE.go T.Cp BI λ _ _ _ _ _ _ _ hr G=>(adf (bo (mQ (bI (avU eC (aft T.nB) 1))) (adf (cF T.kP hr (cA (fg (aa 1) (cA fV))))) aN))
omit T in theorem BK:aFw (av jg):=iW
def BL aSn:adF "check_piece" (mU aS aL dB):=gE.go T.Cq BK λ _ _ _ _ _ _ _ hr G=>(adf (bo (mQ (bI (avU eC aGy 1))) (adf (cF T.kP hr (cA (fg (aa 1) (cA fV))))) aN))
omit T in theorem zb:aFw (av ip):=iW
def zc aSo aUn:adF "check_points" (j9 aS aL dO jL):=gE.go T.BB zb λ _ _ _ _ _ _ _ hr G=>(ajA (bu (agN ft)) (bo (mQ (bI (aC k8 hr G.gg (aej (av0 T.hY))))) (adf (cF T.kP hr (cA (fg (aa 1) (cA fV))))) aN))
omit T in theorem zd:aj5 ["yard","signal"] "signal" (av iq):=iW
def ze aSn:adF "check_signal" (lW aS aL dB):=gE.go T.BC zd λ _ _ _ _ _ _ _ hr G=>(adf (bo (mQ (bI (avU eC aLf 1))) (adf (cF T.kP hr (cA (fg (aa 1) (cA fV))))) aN))
omit T in theorem zf:abR aK8 aK8 ll:=iW
def zg:adF "is_number_of" cT:=gE.go T.BD zf λ _ _ _ _ _ _ _ hr G=>(aeg (Xf (lR OQ (aa 1) aq) (Ib (lR wM (aa 1) (aje 0)))))
omit T in theorem wy:aFw (av fN):=iW
def wz aTW:adF "check_not_held" (iS eO aL fK):=gE.go T.xI wy λ _ _ _ _ _ _ _ hr G=>(ai (bo (aJ (iz G.hu) (aa 1) aGz) aGH aN) (apP tD (Ea mZ hr G.gg (aa 0) (acA 1)) cO aGH))
omit T in theorem Rr:abR ["yard","name","signal","route","train"] aFO tq:=iW
def Ru(oX:anm (k+1) "check_signal" ou)aTR(ki:arq (k+1) "route_past" 3 iU)(Fb:In z k "Train" bU 1 qO)(jo:arq (k+1) "pass_signal" 3 hE):arq (k+2) "enter" 3 (tI eO aS bU aL ou dA iU qO hE):=gE.go T.UK Rr λ _ _ _ _ _ _ _ hr G=>(aj6 (bu (aj1 oX 2)) (bo (mQ (bI (aj1 eB 2))) (adf (cF T.kP hr (cA (fg (aa 2) (cA fV))))) aN) (ai (bo (aJ (iz G.hu) (aa 1) (aft T.fM)) aGH aN) (aiJ 3 (atr ki (acA 2)) 4 (O5 Fb hr G.gg) (ajA (bu (al9 jo (aa 4) (acA 3))) (aiE (aft T.fM) (aa 1) (aa 4))))))
omit T in theorem abM:aj5 ["yard","name","train","head"] "name" (av Lc):=iW
def abN(cQ:aH5)(nS:abV "come_on" lX)aUo(jo:afd "pass_signal" 3 hE)(ki:afd "route_past" 3 iU)aUf:adF "go" (Ef i6 bU aL cf lX jM hE iU fZ):=gE.go T.ae1 abM λ _ _ _ _ _ _ _ hr G=>(aiJ 2 aH6 3 (ajc aBP) (ajA (ath aLi (adf (cF T.K9 hr (cA (fg (aa 1) (cA fV)))))) (bo (bI (bA T.jm (aa 2))) (agt (aj1 nS 2)) (adf (bo (bI (aC k9 hr G.gg (af aGy (af (ac2 3) (akN 3))))) (adf (fo T.jS (aa 2) lq)) (agt (al9 jo (aa 2) (aej (atr ki (aej (aj1 iK 2)))))))))))
omit T in theorem UQ:aj5 (ayt "name" "train") "name" (av wD):=iW
def UR(cQ:aH5):adF "draw" (vJ eO bU aL cf):=gE.go T.YD UQ λ _ _ _ _ _ _ _ hr G=>(afX 2 aH6 (aeL (bo (VW.vt (iA (aJ (bX G.hu) (bz bt T.eQ cn (aej aBP)) aq) (ie (mQ (bI aLi))))) aGH aN) (aeL (bu (Xg PySem.F.slot_list_pop PySem.F.type_list_pop SR aBP)) (ak (bo (aJ (bX G.hu) (bz bt T.eQ cn (aej aBP)) aq) (agt (qe G.hu (aft T.fM) (aa 1))) aN)))))
omit T in theorem US:aj5 ["yard","name","train","fall"] "name" (av ux):=iW
omit T in theorem Dy:ahR arn:=ac1
def UT(cQ:aH5)aSz(BM:afd "turned" 1 Az):adF "turn" (vK iP i6 bU aL cf fY Az):=gE.go T.YE US λ _ _ _ _ _ _ _ hr G=>(afX 2 aH6 (aj6 (ath aLi (adf (cF T.K9 hr (cA (fg (aa 1) (cA fV)))))) (bu (ame je (bA T.jm (aa 2)))) (aeL (fo T.jm (aa 2) aqj) (aeL (fo T.ej (aa 2) (fL true (asr ux ["yard","name","train","fall"] arn) G.calm (Xz aBP T.Jb) (ag3 (ab0 Dy).nd) (λ _ _ _ _=>gP) (ahN (aC BM hr (ab0 Dy).gg (acA 0))))) (ak (tH (dY G.own G.calm (Tf (aft T.gU)) (acD 3) (apP (bX G.hu) (bA T.pC (aa 3)) (aa 1) (adf (fo T.pC (aa 3) cO))))))))))
omit T in theorem CF:abR ["yard","name","signal","route","fall"] aFO jY:=iW
def CG(eB:abV "is_at_border" dA)aSs:auE "route_past" (iD iP i6 aL dA dz):=gE.go T.EU CF λ _ _ _ _ _ _ _ hr G=>(apf mP (aa 2) cO (adf (cF T.K9 hr (cA (fg (aa 1) fV)))) (ai (bo (aJ (iz G.hu) (aa 2) (aft T.hU)) (aeg (ax G.hu (aft T.hU) (aa 2))) aN) (ajA (tH (dY G.own G.calm (Aw (aft T.gU)) (mR G.calm (cP (acD 3) (cP (acD 4) kz))) (avI (iA (aJ (bX G.hu) (aj1 eU 3) (aa 2)) (ie (ayp (aJ (bX G.hu) (bA T.pC (aa 4)) (aa 1)) (lz (bI (aj1 eB 2)))))) (agd (aa 3))))) (cF T.K9 hr (cA (fg (aa 1) (cA (fg (aa 2) fV))))))))
omit T in theorem BN:abR aKJ aKJ jh:=iW
def BP aSs aSy(nS:abV "come_on" lX):auE "pass_signal" (kA bU aL dz fX lX):=gE.go T.Cr BN λ _ _ _ _ _ _ _ hr G=>(aj6 (bu (Ao G.hu (aft T.hU) (aj1 eU 2) cO)) (bu (Ao G.hu (aft T.gU) (aa 2) cO)) (ajA (fo T.jm (aa 1) (ff (kH true) T.mX iZ (aej (aj1 jd 2)))) (bu (agN nS))))
omit T in theorem Jk:aj5 (ayt "train" "step") "train" (av nE):=iW
def Jl aSz:adF "come_on" (pd bU fY):=gE.go T.MR Jk λ _ _ _ _ _ _ _ hr G=>(afX 2 (mI PySem.F.slot_list_pop PySem.F.type_list_pop Mb (bA T.jm (aa 1)) (an9 aq)) (ajA (bu (ame je (ag5 (acA 2)))) (bu (mI PySem.F.slot_list_insert PySem.F.type_list_insert Ip (bA T.ej (aa 1)) (aio aq 2)))))
omit T in theorem Nd:abR aA5 aA5 pU:=iW
def Nf:adF "_law_cell" qP:=gE.go T.Q8 Nd λ _ _ _ _ _ _ _ hr G=>(ake (ath (aa 0) (aeg (ajo 0 (bf cI (aa 1) (aje 0))))) aq)
omit T in theorem Rv:abR ["_law_script","_law_k","_law_number"] aA5 tu:=iW
def Rx(BQ:abV "_law_cell" AA):adF "_law_mix" (tJ AA):=gE.go T.UL Rv λ _ _ _ _ _ _ _ hr G=>(aiJ 2 (ai3 (awu (agN BQ) ayG)) 2 (ai3 (ahF (lu false) (aa 2))) (aeg (ai3 (bf (bO false) (ahF (lu false) (ahF gM (aa 2))) (aa 2)))))
omit T in theorem Hi:abR ["_law_pieces_here","_law_at","_law_joint","_law_found"] ["_law_pieces_here","_law_at","_law_joint"] jF:=iW
omit T in theorem mC:ahR ["_law_k","_law_at","_law_joint","_law_pieces_here"]:=ac1
def yu:aDS (k+1) 3 (ny):=gE.go T.Jc Hi λ _ _ _ _ _ _ _ hr G=>(ake (lT false 3 (apU (av jF) ["_law_pieces_here","_law_at","_law_joint","_law_found"] ["_law_k","_law_at","_law_joint","_law_pieces_here"] [none,akV,some 2,aHJ]) G.calm G.nd (avX (aej (aje 0))) (ag3 (aHY).nd) (ahN (jI (aBO (aJ (jG (aHY).hu) (aa 0) (aa 1)) (ie (aJ (iz (aHY).hu) (aa 2) (arR (ax (aHY).hu (aa 3) (aa 0)))))))) (λ _ _ _ _=>(aa 0)) aar) (vC (bI (aa 3)) (ac2 3) cO))
omit T in theorem Hj:abR ["_law_script","_law_base","_law_pieces_here","_law_loose","_law_many","_law_k","_law_number","_law_ends","_law_j","_law_pick","_law_others"] aMK iR:=iW
omit T in theorem uq:ahR aEH:=ac1
omit T in theorem ur:ahR aMD:=ac1
omit T in theorem uu:ahR aEH:=ac1
def Hk(eD:aCx):adF "_law_pieces" (nz dq):=gE.go T.Jd Hj λ _ _ _ _ _ _ _ hr G=>(aiJ 2 aqj 3 akh (aeL (aZ 4 G.nd aq) (aeL (dY G.own G.calm (avX (aej (ag2 aq (ai3 (agN eD))))) (acD 5) (aiJ 6 (ame eD (ag2 ayG (aa 5))) 7 aqj (arh (dY G.own G.calm (avX (aej (ag2 aq (ff Aj T.VF Kf (aej (lR wM (ai3 (aa 6)) aq)))))) (acD 8) (afX 9 (ame eD (ag2 (awu ayG (aa 5)) (aa 8))) (ajA (lT false 10 (aw5 iR ["_law_script","_law_base","_law_pieces_here","_law_loose","_law_many","_law_k","_law_number","_law_ends","_law_j","_law_pick","_law_others"] aEH 7) G.calm G.nd (cv (aa 3)) (ag3 (ab0 uq).nd) (ahN (jI (aJ (qH (ab0 uq).hu) (aa 0) (aa 1)))) (λ _ _ _ _=>(aa 0)) aar) (bo (aBO (bI (aa 10)) (ie (aJ wM (ai3 (aa 9)) (ax G.hu (bE false (anu aq aq aq)) (aa 8))))) (agt (mI PySem.F.slot_list_append PySem.F.type_list_append jH (aa 7) (aej (ajo 10 (bf cI (ahF gM (aa 9)) (bz (C4 G.calm) T.VH Ke (apS aq (aje 10)))))))) (ajA (bu (mI PySem.F.slot_list_append PySem.F.type_list_append jH (aa 7) (aej (ai3 (awu (ame eD ayG) (aa 4)))))) (aZ 4 G.nd (ahF (bO false) (aa 4)))))))) 3 (ag2 (fL false (aw5 iR ["_law_script","_law_base","_law_pieces_here","_law_loose","_law_many","_law_k","_law_number","_law_ends","_law_j","_law_pick","_law_others"] aMD 3) G.calm (cv (aa 7)) (ag3 (ab0 ur).nd) (ahN (jI (aJ (qH (ab0 ur).hu) (aa 0) (aa 1)))) (λ _ _ _ _=>(aa 0))) (fL false (aw5 iR ["_law_script","_law_base","_law_pieces_here","_law_loose","_law_many","_law_k","_law_number","_law_ends","_law_j","_law_pick","_law_others"] aEH 7) G.calm (cv (aa 3)) (ag3 (ab0 uu).nd) (ahN (jI (aJ (qH (ab0 uu).hu) (aa 0) (aa 1)))) (λ _ _ _ _=>(aa 0)))) (agt (mI PySem.F.slot_list_append PySem.F.type_list_append jH (aa 2) (aej (ag2 (fJ (aej (ax G.hu (bE false aws) (ahF SM (aje 7))))) (ff FV T.UI LS (acA 7))))))))) (ak (aP (wN (aa 2)))))))
omit T in theorem Fc:abR ["_law_script","_law_base","_law_pieces_here","_law_found","_law_at","_law_joint","_law_number","_law_border","_law_shift"] aMO kU:=iW
def Fd(eD:aCx)(dE:aAa):auE "_law_signals" (mx dq cg):=gE.go T.He Fc λ _ _ _ _ _ _ _ hr G=>(afX 3 aqj (arh (dY G.own G.calm (avX (aej (aje 2))) (acD 4) (ax0 (OX (arR (ajo 2 (aa 4)))) (acD 5) (aiJ 6 (ame eD (ag2 (awu (aa 1) (aa 4)) (aje 3))) 7 (lR mP (aC dE hr G.gg (af (aa 2) (aio (aa 4) 5))) cO) (avI (o8 (aJ (bX G.hu) (ai3 (aa 6)) aq) (lz (aBO (bI (aa 7)) (ie (aJ (bX G.hu) (ai3 (aa 6)) aq))))) (agt (mI PySem.F.slot_list_append PySem.F.type_list_append jH (aa 3) (ata (aio (aa 5) 4)))))))) 8 (bf cI (ame eD ayG) (ag2 aq (aje 3))) (aeg (mH false (ag2 (mH false (aa 3) (gz (aa 8)) gO) (mH false (aa 3) gO (gz (aa 8)))) gO (gz aq)))))
omit T in theorem Ng:abR aEW aEW nU:=iW
omit T in theorem yw:ahR aMC:=ac1
def Nh:adF "_law_outs" qQ:=gE.go T.Q9 Ng λ _ _ _ _ _ _ _ hr G=>(ai (bo (aJ (bX G.hu) (ac2 0) ay) (aeg (fL false (apU (av nU) aEW aMC aoN) G.calm (OX (arR (aa 0))) (ag3 (ab0 yw).nd) (aCX (ab0 yw).hu) (λ _ _ _ _=>(aa 0)))) aN) (aeg (vC (aJ (bX G.hu) (aa 1) (ac2 0)) (ag5 (af (ac2 0) (akN 0))) (ag5 (akN 0)))))
omit T in theorem Dz:abR ["_law_pieces_here","_law_signals_here","_law_way","_law_at","_law_joint","_law_found","_law_out","_law_here","_law_behind"] ["_law_pieces_here","_law_signals_here","_law_way","_law_at","_law_joint"] rW:=iW
omit T in theorem yx:aHs:=ac1
def Ni(Ry:abV "_law_outs" AB)(dE:aAa)aUp:akC "_law_ways" 5 (uI AB cg ow):=gE.go T.Hf Dz λ _ _ _ _ _ _ _ hr G=>(afX 5 aqj (ai (bo (aJ (iz G.hu) (aa 3) (fL false (asr rW ["_law_pieces_here","_law_signals_here","_law_way","_law_at","_law_joint","_law_found","_law_out","_law_here","_law_behind"] aAG) G.calm ayX (ag3 (ab0 yx).nd) (λ _ _ _ _=>gP) (ahN (ax (ab0 yx).hu (aa 0) aq)))) (aeg (wN (aa 5))) aN) (as6 (cv (avU Ry (ajo 0 (aa 3)) 4)) (acD 6) (aiJ 7 (ag2 (aa 2) (ag5 (ata (apT (aa 3) (aa 4) 6)))) 8 (al9 dE (aa 3) (acA 6)) (adf (bo (ayp (aJ mP (aa 8) cO) (lz (aJ (iz G.hu) (fJ (aio (aa 6) 8)) (aa 1)))) (agt (mI PySem.F.slot_list_append PySem.F.type_list_append jH (aa 5) (acA 7))) (aBt 5 (bf (bO true) (aa 5) (atr BR (apT (aa 7) (aa 8) 6))))))) (wN (aa 5)))))
omit T in theorem Hl:abR ["_law_pieces_here","_law_signals_here","_law_found","_law_k"] aL5 kD:=iW
omit T in theorem CH:ahR ["_law_way","_law_k"]:=ac1
def Hm aUp:adF "_law_routes" (qR ow):=gE.go T.Je Hl λ _ _ _ _ _ _ _ hr G=>(afX 2 akh (as6 (avX (aej (aje 1))) (acD 3) (aBt 2 (ag2 (aa 2) (fL false (aw5 kD ["_law_pieces_here","_law_signals_here","_law_found","_law_k"] ["_law_way","_law_k"] 3) G.calm (cv (atr BR (avJ akh (ajc (ajo 1 (aa 3))) (ajc (ajo 1 (aa 3)))))) (ag3 (ab0 CH).nd) (λ _ _ _ _=>gP) (ahN (fJ (aio (aa 1) 0)))))) (aa 2)))
omit T in theorem Rz:abR aMR aMN qB:=iW
omit T in theorem u0:ahR ["_law_piece"]:=ac1
def RA(u7:abV "_law_routes" uJ):auE "_law_new" (tK uJ):=gE.go T.UM Rz λ _ _ _ _ _ _ _ hr G=>(arh (lT true 3 (asr qB aMR ["_law_piece"]) G.calm G.nd (cv (aa 0)) (ag3 (ab0 u0).nd) (λ _ _ _ _=>gP) (ahN (vC (aJ (bX (ab0 u0).hu) (ax (ab0 u0).hu (aa 0) aq) ay) ay cO)) aar) 4 (Ed (jv (aa 0) (jv (aa 1) (jv (aa 2) (jv (aa 3) (jv akh (jv aq Ec))))))) (aj6 (aB8 (agN u7)) (aB8 (bf (lu true) (ag5 (an9 cO)) (aje 0))) (aeL (aB8 tF) (aeL (aB8 tF) (ak (aP (aa 4)))))))
omit T in theorem CI:abR (aAU "_law_at" "_law_found") asL gL:=iW
omit T in theorem eV:ahR aKt:=ac1
omit T in theorem rJ:aHs:=ac1
def CJ:adF "_law_train_in" lE:=gE.go T.EV CI λ _ _ _ _ _ _ _ hr G=>(ake (tH (lT false 2 (apU (av gL) (aAU "_law_at" "_law_found") aKt [none,akV,aHJ]) G.calm G.nd (Kk (adZ 0)) (ag3 (ab0 eV).nd) (ahN (jI (aJ (iz (ab0 eV).hu) (aa 1) (fL false (dt.of (sc:=(Ij _ (av gL))) aKt aAG ajw rfl (LR apM rfl) ac1) (ab0 eV).calm (cv (ax (ab0 eV).hu (ax (ab0 eV).hu (ax (ab0 eV).hu (aa 2) ay) (aa 0)) aq)) (ag3 (aM (ab0 eV).gg rJ).nd) (λ _ _ _ _=>gP) (ahN (ax (aM (ab0 eV).gg rJ).hu (aa 0) aq)))))) (λ _ _ _ _=>(aa 0)) aar)) (vC (bI (aa 2)) ait cO))
omit T in theorem Nj:abR asL asL pV:=iW
def Nk(rA:abV "_law_train_in" qT):adF "_law_held" (qS qT):=gE.go T.Ra Nj λ _ _ _ _ _ _ _ hr G=>(aeg (Vb (lR tD awP cO) (Ib (lR tD (agN rA) cO))))
omit T in theorem Nl:abR aqW aqW nV:=iW
omit T in theorem yy:ahR aM7:=ac1
def Nm:adF "_law_free" qU:=gE.go T.Rb Nl λ _ _ _ _ _ _ _ hr G=>(adf (aiE (aa 0) ay (fL true (apU (av nV) aqW aM7 aoN) G.calm (cv (adZ 0)) (ag3 (ab0 yy).nd) (λ _ _ _ _=>gP) (ahN (vC (aJ (bX (ab0 yy).hu) (aa 0) (aa 1)) cO (aa 0))))))
omit T in theorem RB:abR aM3 aqW qC:=iW
omit T in theorem u9:ahR aM6:=ac1
def RC aUF:adF "_law_set" (qf ox):=gE.go T.UN RB λ _ _ _ _ _ _ _ hr G=>(afX 2 aDl (aj6 (ath (bz (LV G.calm) T.abJ S7 (aej (fL false (aw5 qC aM3 aM6 0) G.calm ayX (ag3 (ab0 u9).nd) (λ _ _ _ _=>gP) (ahN (aC qu hr (ab0 u9).gg (apS (aa 1) (ax (ab0 u9).hu (aa 0) aq))))))) (agd ay)) (dY G.own G.calm ayX (acD 3) (arh (aiE (adZ 0) (ac2 3) (aa 1)) 4 (am8 0 (ac2 3)) (apP (bX G.hu) (ac2 4) ay (adf (aiE (adZ 0) (ac2 3) (ax G.hu (bE false aws) (ff Aj T.VF Kf (aej (lR (iz G.hu) (ac2 4) (arR (aa 3))))))))))) (ake (aiE (aa 0) ay (ag2 (adZ 0) (ag5 (acA 1)))) ay)))
omit T in theorem Np:abR ["_law_world","_law_signal","_law_joint","_law_at","_law_found","_law_name","_law_train","_law_head"] aEv pW:=iW
def Nq:adF "_law_near" qV:=gE.go T.Rc Np λ _ _ _ _ _ _ _ hr G=>(arh (wO awP (mR G.calm (cP (acD 2) (cP (acD 3) kz)))) 4 aqj (ake (tH (dY G.own G.calm (Kk (adZ 0)) (acD 5) (aiJ 6 (am8 0 (aa 5)) 7 (ajc (ac2 6)) (avI (iA (aJ (bX G.hu) (ac2 6) akh) (iA (mQ (bI (ac2 6))) (iA (aJ (bX G.hu) (ac2 7) (aa 2)) (ie (ayW (ac2 7) (aa 3)))))) (agt (mI PySem.F.slot_list_append PySem.F.type_list_append jH (aa 4) (acA 5))))))) (wN (aa 4))))
omit T in theorem Hn:abR ["_law_world","_law_route","_law_joint","_law_at","_law_names","_law_border"] aqW kE:=iW
omit T in theorem uv:ahR aEz:=ac1
def Ho aUG(dE:aAa)aUH:adF "_law_cancel" (ka oy cg oz):=gE.go T.Jf Hn λ _ _ _ _ _ _ _ hr G=>(apf aGR (aa 1) (adZ 0) (agd ay) (aj6 (aiE (aa 0) ay (fL false (apU (av kE) ["_law_world","_law_route","_law_joint","_law_at","_law_names","_law_border"] aEz aoN) G.calm (cv (adZ 0)) (ag3 (ab0 uv).nd) (aCX (ab0 uv).hu) (λ _ _ _ _=>(aa 0)))) (wO (am8 0 aDl) (mR G.calm (cP (acD 2) (cP (acD 3) kz)))) (aiJ 4 (ame qv aDl) 5 (lR mP (aC dE hr G.gg (af (adZ 0) (aio (aa 3) 2))) cO) (ake (bo (aBO (aJ sj (adZ 0) aq) (ie (ayp (bI (aa 4)) (lz (bI (aa 5)))))) (adf (atu (fJ (apT (bf (bO false) (adZ 0) (adZ 0)) (aa 4) 5)))) (agt (agN qw))) ay))))
omit T in theorem Nr:abR aqW ["_law_world"] pX:=iW
def Nt aUH:akC "_law_tick" 1 (qW oz):=gE.go T.Rf Nr λ _ _ _ _ _ _ _ hr G=>(aeL (aiE (aa 0) ay (ahF (bO false) (adZ 0))) (aeL (dY G.own G.calm (cv (aCj (ang 0))) (acD 1) (apP Ia aDl (adZ 0) (ajA (bu (qe G.hu (adZ 0) (aa 1))) (bu (agN qw))))) (ak (aP ay))))
omit T in theorem Jm:abR asL asL nF:=iW
def Jn aUF:adF "_law_throw" (kY ox):=gE.go T.MS Jm λ _ _ _ _ _ _ _ hr G=>(ai (bo (aJ (bX G.hu) aDl ay) (agd ay) aN) (aeL (ath (agN qu) (agd ay)) (aeL (atu (ax G.hu (Ed (jv ay (jv ay Ec))) awP)) (ak (aP ay)))))
omit T in theorem Nu:abR aMT aMQ nW:=iW
omit T in theorem yz:ahR aEz:=ac1
def Nv:auE "_law_pass" oA:=gE.go T.Rg Nu λ _ _ _ _ _ _ _ hr G=>(as6 (cv (ag2 (adZ 0) (aCj (ang 0)))) (acD 3) (apP (bX G.hu) (ajc (am8 0 (aa 3))) (aa 1) (afX 4 (sr G.hu (adZ 0) (aa 3) (fJ (anu aq (ag5 (acA 2)) lq))) (avI (o8 (bI (ac2 4)) (lz (aJ (iz G.hu) (aa 2) (ac2 4)))) (aj6 (aiE (aa 0) ay (fL false (aw5 nW aMT aEz 3) G.calm (cv (adZ 0)) (ag3 (ab0 yz).nd) (aCX (ab0 yz).hu) (λ _ _ _ _=>(aa 0)))) (bu (Ao G.hu (adZ 0) (aa 3) cO)) (afX 5 (azq (aej (ajc (am8 0 (aa 3))))) (ake (aiE (adZ 0) (ajc (ac2 5)) cO) (aa 5))))))) cO)
omit T in theorem Jo:abR ["_law_world","_law_name","_law_signal","_law_joint","_law_at","_law_way"] aMu nG:=iW
def Jp aTM:auE "_law_enter" (pe cg oB):=gE.go T.MT Jo λ _ _ _ _ _ _ _ hr G=>(axY (wO (am8 0 (aa 2)) (mR G.calm (cP (acD 3) (cP (acD 4) kz)))) tD (aC dE hr G.gg (af (adZ 0) (aio (aa 4) 3))) cO (agd ay) (ai (bo (aJ (iz G.hu) (aa 1) (adZ 0)) (agd ay) aN) (afX 5 (al9 qx (aa 2) (acA 1)) (apf mP (aa 5) cO (agd ay) (ake (atu (ag5 (anu (mH false (aa 5) gO (gz aq)) (arR (aa 5)) lq))) ay)))))
omit T in theorem UU:abR ["_law_world","_law_name","_law_train","_law_head","_law_at","_law_way"] axo wF:=iW
def UW aTM:adF "_law_go" (vL cg oB):=gE.go T.YF UU λ _ _ _ _ _ _ _ hr G=>(aiJ 2 awP 3 (ajc ait) (axY (ath ait (agd ay)) (jG G.hu) ait akh (aeL (aiE (adZ 0) (ajc (ajc ait)) cO) (aeL (atu (ag5 (anu (ag2 (mH false ait gO (gz aq)) ait) (arR ait) lq))) (ak (aP ay)))) (afX 4 (aC dE hr G.gg (af (adZ 0) (af (ac2 3) (akN 3)))) (apf mP (aa 4) cO (ake (atu (ag5 (anu ait akh lq))) ay) (axY (aZ 5 G.nd cO) (iz G.hu) (fJ (aio (ac2 3) 4)) (adZ 0) (aBt 5 (al9 qx (aI1 (wU G.hu) (adZ 0) (ata (aio (ac2 3) 4))) (acA 1))) (apf mP (aa 5) cO (agd ay) (ake (atu (ag5 (anu (ag2 (mH false (aa 5) gO (gz aq)) ait) (arR (aa 5)) lq))) ay)))))))
omit T in theorem Nw:abR (aAU "_law_name" "_law_train") axo pY:=iW
def Nx:adF "_law_draw" qX:=gE.go T.Rh Nw λ _ _ _ _ _ _ _ hr G=>(afX 2 awP (aj6 (bo (VW.vt (iA (aJ (bX G.hu) (aGi 2) aq) (ie (mQ (bI ait))))) (agd ay) aN) (atu (ag5 (aiX (mH false ait gO (gz aC2)) ait (akN 2)))) (ai (bo (aJ (bX G.hu) (aGi 2) aq) (agt (qe G.hu (adZ 0) (aa 1))) aN) (agd ay))))
omit T in theorem Ny:abR aKV axo mE:=iW
omit T in theorem pF:aHs:=ac1
omit T in theorem yA:ahR aMM:=ac1
def Nz:adF "_law_turn" qY:=gE.go T.Ri Ny λ _ _ _ _ _ _ _ hr G=>(afX 2 awP (aj6 (ath ait (agd ay)) (dY G.own G.calm (cv ait) (acD 3) (adf (aiE (adZ 0) (ac2 3) cO))) (aj6 (lT false 4 (asr mE aKV aAG) G.calm G.nd (cv (Tj false ait (gz aC2))) (ag3 (aHZ).nd) (λ _ _ _ _=>gP) (ahN (fJ (avJ (ax (aHZ).hu (aa 0) aq) (ax (aHZ).hu (aa 0) aq) (ax (aHZ).hu (aa 0) aq)))) aar) (atu (ag5 (anu (aa 4) akh lq))) (as6 (cv (aCj (ang 0))) (acD 5) (afX 6 (am8 0 (aa 5)) (adf (aiE (adZ 0) (aa 5) (fJ (aiX (ac2 6) (fL false (apU (av mE) aKV aMM aoN) G.calm (cv (ac2 6)) (ag3 (ab0 yA).nd) (aCX (ab0 yA).hu) (λ _ _ _ _=>(aa 0))) (akN 6)))))) ay))))
omit T in theorem Jq:abR ["_law_world","_law_word","_law_number","_law_name","_law_many"] aAT nH:=iW
def Jr:akC "_law_there" 4 sv:=gE.go T.MU Jq λ _ _ _ _ _ _ _ hr G=>(afX 4 (Ed (jv aDb (jv aDb (jv aDb Ec)))) (axY (aB8 aDb) (iz G.hu) (aa 1) (aa 4) (aeg (OT Ia wM aq (aa 2) (ajo 4 (aa 1)))) (aeg (Vb (lR (bX G.hu) (aa 1) ay) (Ib (lR (iz G.hu) (aa 3) (adZ 0)))))))
omit T in theorem NA:abR aAT aAT pZ:=iW
def NB(xQ:afd "_law_there" 4 xb)(Fe:abV "_law_set" Eg)(va:abV "_law_cancel" uK)(xR:abV "_law_throw" xf)(xS:afd "_law_enter" 3 xg)(BS:afd "_law_tick" 1 AD)(Js:abV "_law_go" Iq)(BU:abV "_law_draw" AE)(BV:abV "_law_turn" AF):akC "_law_done" 4 (qZ xb Eg uK xf xg AD Iq AE AF):=gE.go T.Rj NA λ _ _ _ _ _ _ _ hr G=>(aeL (bo (mQ (bI (atr xQ (aio (aa 2) 3)))) (agd ay) aN) (aDN Fe 2 (aDN va 2 (aDN xR 2 (ai (bo (aJ (bX G.hu) (aa 1) ay) (aeg (al9 xS (aa 3) (acA 2))) aN) (ai (bo (aJ (bX G.hu) (aa 1) ay) (aeg (aC BS hr G.gg (acA 0))) aN) (aDN Js 3 (aDN BU 3 (aeg (aj1 BV 3))))))))))
omit T in theorem Jt:abR ["_law_yard","_law_word","_law_number","_law_name","_law_kept","e"] aML nI:=iW
def Ju(sZ:abV "set_route" mJ)(BW:abV "cancel" sA)(Ff:abV "throw" vM)(Fh:afd "enter" 3 vN)(Jv:afd "tick" 1 AG)(YG:abV "go" Ph)(Jw:abV "draw" AH)(Jx:abV "turn" AI)(tf:afd "_law_refusal" 1 sC):akC "_law_asked" 4 (sy bp eO aS i6 mJ sA vM vN AG Ph AH AI sC):=gE.go T.MV Jt λ _ _ _ _ _ _ _ hr G=>(aeL (aZ 4 G.nd cO) (aeL (Xx 4 5 G.gg T.xH (λ pn Et Ex Gt=>(adf (bo (aJ (bX Gt.hu) (aa 1) ay) (agt (aC sZ hr Gt (af (aa 0) (acA 2)))) (adf (bo (aJ (bX Gt.hu) (aa 1) ay) (agt (aC BW hr Gt (af (aa 0) (acA 2)))) (adf (bo (aJ (bX Gt.hu) (aa 1) ay) (agt (aC Ff hr Gt (af (aa 0) (acA 2)))) (adf (bo (aJ (bX Gt.hu) (aa 1) ay) (agt (aC Fh hr Gt (af (aa 0) (aio (aa 3) 2)))) (adf (bo (aJ (bX Gt.hu) (aa 1) ay) (agt (aC Jv hr Gt (acA 0))) (adf (bo (aJ (bX Gt.hu) (aa 1) ay) (agt (aC YG hr Gt (af (aa 0) (acA 3)))) (adf (bo (aJ (bX Gt.hu) (aa 1) ay) (agt (aC Jw hr Gt (af (aa 0) (acA 3)))) (agt (aC Jx hr Gt (af (aa 0) (acA 3)))))))))))))))))))) (ak (aP (vC (aJ mP (aa 4) cO) ay (aC tf hr G.gg (acA 4)))))))
omit T in theorem Fi:abR ["_law_kept","_law_kinds"] ["_law_kept"] kW:=iW
def Fj:akC "_law_refusal" 1 (pM bp eO aS i6):=gE.go T.Hg Fi λ _ _ _ _ _ _ _ hr G=>(aiJ 1 (ag5 (apS (Ee [azc,arN,arO,arP] T.MP (aa 0) T.lK T.MN) (Ee [arM,azd,arO,arP] T.Ja (aa 0) T.lK T.IZ))) 1 (ag2 (aa 1) (ag5 (apS (Ee [arM,arN,aze,arP] T.YB (aa 0) T.lK T.YA) (Ee [arM,arN,arO,azf] T.abI (aa 0) T.lK T.abH)))) (ake (bo (VW.vt (o8 (mQ (bI (Ta [azc,azd,aze,azf] T.EL (aa 0) T.lK T.EM Aq))) (lz (ayW (mI PySem.F.slot_list_count PySem.F.type_list_count (wR G.hu) (aa 1) (an9 lq)) aq)))) (agd ay) aN) (ax G.hu (bE false (aiX ay ay aws)) (aI1 (wU G.hu) (aa 1) (an9 lq)))))
omit T in theorem zh:abR ["_law_world","_law_signal","_law_joint","_law_at"] aEv fT:=iW
omit T in theorem wA:ahR ["_law_name"]:=ac1
def zi(dE:aAa)aUG:adF "_law_near_deeds" (kb cg oy):=gE.go T.BE zh λ _ _ _ _ _ _ _ hr G=>(axY (wO awP (mR G.calm (cP (acD 2) (cP (acD 3) kz)))) mP (aC dE hr G.gg (af (adZ 0) (aio (aa 3) 2))) cO (aeg (ag5 (ata (avJ ay (aa 1) (ax G.hu (bE false (aiX aq aq (anu aq aq aq))) (bz (C4 G.calm) T.VH Ke (apS aq aDb))))))) (aeg (fL false (asr fT ["_law_world","_law_signal","_law_joint","_law_at"] ["_law_name"]) G.calm (cv (agN qv)) (ag3 (ab0 wA).nd) (λ _ _ _ _=>gP) (ahN (fJ (apT ay aq 0))))))
omit T in theorem NC:abR ["_law_script","_law_k","_law_world","_law_number","_law_names","_law_name","_law_some","_law_word","_law_many","_law_at","_law_route","_law_good"] aME p0:=iW
def ND(eD:aCx)(oY:abV "_law_near_deeds" jN):auE "_law_deed" (oC dq jN):=gE.go T.Rk NC λ _ _ _ _ _ _ _ hr G=>(aiJ 3 (agN eD) 4 (aCj (ang 2)) (aiJ 5 (vC (bI (aa 4)) (ajo 4 (aCW (aje 4))) aq) 6 (ag5 (aiX ay ay (aiX ay ay (aiX ay ay (aiX ay ay (aiX ay ay aws)))))) (aiJ 7 (ajo 6 (ai3 (ahF gM (aa 3)))) 8 (Ed (jv (bz bt T.eQ cn (ang 2)) (jv (bz bt T.eQ cn (ang 2)) (jv (bz bt T.eQ cn (ang 2)) Ec)))) (afX 9 (bf cI (ame eD ayG) (bz (LJ G.calm) T.abK S6 (apS aq (sr G.hu (aa 8) (aa 7) (bz bt T.eQ cn (ang 2)))))) (aj6 (bo (VW.vt (iA (aJ (bX G.hu) (ahF cI (aa 3)) aq) (ie (bI (adZ 2))))) (aiJ 10 (am8 2 (aCW (bz bt T.eQ cn (ang 2)))) 11 (ag2 (aC oY hr G.gg (af (aa 2) (aej (ajc (am8 2 (aa 10)))))) (bf (lu false) (ag5 (ata (anu ay (aa 10) aq))) (ai3 (ahF gM (aa 3))))) (adf (ath (aa 11) (aeg (ajo 11 (aCW (aje 11))))))) aN) (bo (VW.vt (iA (bI (adZ 2)) (iA (bI (aa 4)) (ie (aJ (bX G.hu) (ahF cI (aa 3)) aq))))) (aeg (fJ (avJ (ax G.hu (bE false (aiX ay ay aws)) (ai3 (ahF gM (aa 3)))) aq (ajo 4 (aCW (aje 4)))))) aN) (aeL (bo (VW.vt (iA (aJ (bX G.hu) (aa 7) ay) (ie (bI (adZ 2))))) (aBt 9 (am8 2 (aCW (bz bt T.eQ cn (ang 2))))) aN) (ai (bo (aJ (bX G.hu) (ahF cI (aa 3)) aq) (afX 9 (ax G.hu (bE false (avJ aC2 (sr G.hu (aa 8) (aa 7) (bz bt T.eQ cn (ang 2))) (ag2 aq (ai3 (ahF gM (aa 3)))))) (ai3 (ahF gM (aa 3)))) (aBt 5 (ax G.hu (bE false (anu aC2 aq aq)) (ai3 (ahF gM (aa 3)))))) aN) (aeg (fJ (avJ (aa 7) (aa 9) (vC (ayp (ayW (aa 7) ay) (lz (aJ (bX G.hu) (ahF cI (aa 3)) aq))) (aa 5) (ax G.hu (bE false (aiX aq aq (apS aq aC2))) (ai3 (ahF gM (aa 3)))))))))))))))
omit T in theorem Jy:abR ["_law_script","_law_pieces_here","_law_signals_here","_law_wait"] axn nJ:=iW
def Jz(vb:anm (k+1) "_law_pieces" uL)(tj:arq (k+1) "_law_signals" 3 sE)(eD:anm (k+1) "_law_mix" dq)(Fm:arq (k+1) "_law_new" 3 Eh)(Hq:In z k "Yard" aL 4 sF):arq (k+2) "_law_start" 1 (sD aL uL sE dq Eh sF):=gE.go T.MW Jy λ _ _ _ _ _ _ _ hr G=>(aiJ 1 (aC vb hr G.gg (af (aa 0) (an9 aq))) 2 (al9 tj aq (acA 1)) (afX 3 (ai3 (aC eD hr G.gg (af (aa 0) (an9 aq)))) (aeg (fJ (apS (Kg Hq hr G.gg (apT (azq (acA 1)) (azq (acA 2)) 3)) (aC Fm hr G.gg (af (aa 1) (aio (aa 2) 3))))))))
omit T in theorem NF:abR ["_law_yard","_law_world","_law_word","_law_number","_law_name","_law_due"] aMU p5:=iW
def NG aTo:akC "_law_both" 5 (uM oE lY):=gE.go T.Rl NF λ _ _ _ _ _ _ _ hr G=>(afX 5 (aC qy hr G.gg (af (aa 1) (apT (aa 2) (aa 3) 4))) (aeg (lR (bX G.hu) (al9 nT (aa 2) (aio (aa 3) 4)) (aa 5))))
omit T in theorem Hr:abR aMS aM8 kF:=iW
omit T in theorem uw:aHs:=ac1
def Hs:akC "_law_passed" 4 q0:=gE.go T.Jg Hr λ _ _ _ _ _ _ _ hr G=>(afX 4 (sr G.hu (adZ 1) (aa 2) (ag5 (anu akh akh lq))) (ake (bo (VW.vt (iA (aJ (bX G.hu) (ac2 4) akh) (ie (aJ Ia (aGi 4) (aa 3))))) (agd cO) aN) (ag2 (ag5 (aej (ajc (ajc (ac2 4))))) (fL false (asr kF aMS aAG) G.calm (cv (ac2 4)) (ag3 (ab0 uw).nd) (λ _ _ _ _=>gP) (ahN (ax (ab0 uw).hu (aa 0) aq))))))
omit T in theorem NH:abR ["_law_script","_law_k","_law_yard","_law_world","_law_name","_law_places","_law_j","_law_other","_law_deed_here","_law_locks"] ["_law_script","_law_k","_law_yard","_law_world","_law_name","_law_places"] nX:=iW
omit T in theorem yB:ahR ["_law_at","_law_yard"]:=ac1
def NI aTN(wB:afd "_law_both" 5 vO)(BX:Me z k aL "lock_of" 2 oG)(Fo:Me z k aL "where" 2 q8)aTW:akC "_law_goes" 6 (uN aL dq oF vO oG q8 fK):=gE.go T.Rm NH λ _ _ _ _ _ _ _ hr G=>(as6 (LK T.pD (apS aq (aje 5))) (acD 6) (aj6 (dY G.own G.calm (avX (aej (ai3 (ame eD (ag2 (aa 1) (aa 6)))))) (acD 7) (afX 8 (al9 qz (ag2 (awu (aa 1) (aa 6)) (aa 7)) (acA 3)) (avI (o8 (ayW (ac2 8) (aa 4)) (lz (aJ aGR (ac2 8) (fJ aws)))) (agt (aC wB hr G.gg (af (aa 2) (aiX (aa 3) (ac2 8) (af (ac2 8) (akN 8))))))))) (lT false 9 (aw5 nX ["_law_script","_law_k","_law_yard","_law_world","_law_name","_law_places","_law_j","_law_other","_law_deed_here","_law_locks"] ["_law_at","_law_yard"] 2) G.calm G.nd (cv (mH false (aa 5) (gz (aa 6)) gO)) (ag3 (ab0 yB).nd) (λ _ _ _ _=>gP) (ahN (Ea BX hr (ab0 yB).gg (aa 1) (acA 0))) aar) (aeL (bo (VW.vt (o8 (aJ mP (ac2 9) cO) (lz (ayW (LZ G.calm (aa 9) T.eQ T.abL) aq)))) (agd lq) aN) (aeL (bo (VW.vt (o8 (mQ (bI (aC wB hr G.gg (af (aa 2) (aiX (aa 3) ay (aio aq 4)))))) (lz (ayW (ajc (Ea Fo hr G.gg (aa 2) (acA 4))) (ajo 5 (aa 6)))))) (agd lq) aN) (ak (bo (aJ (jG G.hu) (Ea mZ hr G.gg (aa 2) (aej (ajo 5 (aa 6)))) (aa 4)) (agd lq) aN))))) lq)
omit T in theorem JA:abR ["_law_script","_law_yard","_law_world","_law_k","_law_word","_law_number","_law_name","_law_ahead","_law_due","_law_places"] axn ir:=iW
def JB{f fd}(D:OB z.K "law" "law" ir f fd)(xT:afd "_law_start" 1 xh)aTN aTo(vc:afd "_law_passed" 4 uO)(BY:afd "_law_goes" 6 AJ):pH z.P z.w z.K z.mg z.base (rS z.P z.w) (k+1) f fd axn (NO z.K 1 (sG xh dq oF oE lY uO AJ)):=aak D JA λ _ _ _ _ _ _ hr G=>(aeL (wO (aC xT hr G.gg (acA 0)) (mR G.calm (cP (acD 1) (cP (acD 2) kz)))) (aeL (dY G.own G.calm (avX (aej (ai3 (aC eD hr G.gg (af (aa 0) (an9 aq)))))) (acD 3) (aeL (wO (al9 qz (awu aq (aa 3)) (acA 2)) (mR G.calm (cP (acD 4) (cP (acD 5) (cP (acD 6) kz))))) (aiJ 7 (sr G.hu (adZ 2) (aa 6) (ag5 (anu akh akh lq))) 8 (aC qy hr G.gg (af (aa 2) (apT (aa 4) (aa 5) 6))) (apf (jG G.hu) (aC nT hr G.gg (af (aa 1) (apT (aa 4) (aa 5) 6))) (aa 8) (agd lq) (avI (iA (aJ (bX G.hu) (aa 8) ay) (iA (aJ (iz G.hu) (aa 4) (fJ aws)) (ie (aJ (bX G.hu) (ac2 7) akh)))) (afX 9 (aC vc hr G.gg (af (aa 1) (avJ (aa 2) (aa 6) (aGi 7)))) (avI (iA (aJ tD (aa 9) cO) (ie (mQ (bI (al9 BY (awu aq (aa 3)) (aiX (aa 1) (aa 2) (aio (aa 6) 9))))))) (agd lq)))))))) (ak (aP lq))))
def La:∀n,∃g,arq (3+n) "ways_on" 5 g/\Ks n g
 | 0=>apc (gE.bad T.Dx BF) (λ ps ss way j a M ok hn _=>by rw[aeq ok.len])
 | n+1=>by
  obtain⟨g,F,S⟩:=La n;rw[agH F1 (Fn z 1 "joints_of" 1 _) (wq T) F2 2 "pieces_at" (wu T F1)];rw[agH F3 (Fn z 3 "piece_beyond" 3 _) (rG T F2) F4 2 "joints_out" (Cu T F1)];rw[Lb _ (Jj T (F4.mono b6) (F3.mono b6) F).trunc (XD S)]
def Ht:∀n,∃g,arq (3+n) "_law_ways" 5 g/\Kt n g
 | 0=>apc (gE.bad T.Hf Dz) (λ ps ss way j a M ok hn _=>by rw[aeq ok.len])
 | n+1=>by
  obtain⟨g,F,S⟩:=Ht n;rw[d9 F1 (aie 1 "_law_outs") (Nh T) F2 (aDS 1 3 _) (yu T)];rw[Lb _ (Ni T (F1.mono b6) (F2.mono b6) F).trunc (XE (λ p j M=>Sb.nU p j M) (λ ps n j M h=>Sb.jF ps n j M h) S)]
def YH aRc(F:OB z.K "law" "law" ir f fd):pH z.P z.w z.K z.mg z.base (rS z.P z.w) 40 f fd axn (Gm z.K):=by
 obtain⟨gw,Fw,Sw⟩:=La T fuel;obtain⟨gl,Fl,Sl⟩:=Ht T fuel;rw[agH BQ (aie 1 "_law_cell") (Nf T) eD 2 "_law_mix" (Rx T BQ.up)];rw[d9 vb (aie 3 "_law_pieces") (Hk T eD.up).trunc dE (aDS 1 3 _) (yu T)];rw[agH tj (ahu 3 "_law_signals" 3) (Fd T eD.up dE.up).trunc u7 21 "_law_routes" (Hm T Fl.up)];rw[d9 Fm (ahu 22 "_law_new" 3) (RA T u7.up) fD (Fn z 1 "joints_of" 1 _) (wq T)];rw[agH k7 (aie 2 "pieces_at") (wu T fD.up) oV 3 "check_joints" (yQ T k7.up)];rw[agH oU (ahu 4 "check_pieces" 1) (yO T oV.up fD.up) mY 2 "check_signals" (xK T fD.up)];rw[agH rn (aie 5 "check_yard") (Cw T oU.up mY.up) BH 21 "routes" (M6 T rn.up Fw.up).trunc];rw[d9 Hu (In z 22 "Yard" aL 4 _) (E4 T BH.up) xT (ahu 24 "_law_start" 1) (Jz T vb.up tj.up eD.up Fm.up Hu.up)];rw[agH qv (aie 1 "_law_near") (Nq T ).trunc oY 2 "_law_near_deeds" (zi T dE.up qv.up)];rw[d9 qz (ahu 3 "_law_deed" 3) (ND T eD.up oY.up).trunc xQ (ahu 1 "_law_there" 4) (Jr T ).trunc];rw[agH rA (aie 1 "_law_train_in") (CJ T) qu 2 "_law_held" (Nk T rA.up)];rw[agH Fe (aie 3 "_law_set") (RC T qu.up) qw 1 "_law_free" (Nm T)];rw[agH va (aie 2 "_law_cancel") (Ho T qv.up dE.up qw.up) xR 3 "_law_throw" (Jn T qu.up)];rw[d9 qx (ahu 1 "_law_pass" 3) (Nv T) xS (ahu 2 "_law_enter" 3) (Jp T dE.up qx.up)];rw[agH BS (ahu 2 "_law_tick" 1) (Nt T qw.up) Js 2 "_law_go" (UW T dE.up qx.up)];rw[agH BU (aie 1 "_law_draw") (Nx T) BV 1 "_law_turn" (Nz T)];rw[agH qy (ahu 4 "_law_done" 4) (NB T xQ.up Fe.up va.up xR.up xS.up BS.up Js.up BU.up BV.up) eC 1 "is_number_of" (zg T)];rw[agH jn (aie 2 "check_route") (BJ T eC.up) jd 1 "way_of" (Nc T)];rw[d9 ft (aie 2 "check_piece") (BL T eC.up) iJ (ahu 1 "pieces_under" 1) (yS T)];rw[agH rK (Me z 3 aL "train_in" 2 _) (xO T ft.up iJ.up) fP 4 "check_not_held" (wz T rK.up)];rw[agH k8 (ahu 1 "is_points" 1) (E1 T) xP 2 "lie_for" (Ji T k8.up)];rw[agH eU (aie 1 "signal_of") (Fa T) sZ 5 "set_route" (E8 T jn.up jd.up fP.up xP.up eU.up)];rw[agH fE (Fn z 3 "piece_beyond" 3 _) (rG T k7.up) iK 4 "signal_ahead" (yY T fE.up)];rw[d9 rq (aie 5 "train_near") (CD T iK.up) k9 (ahu 4 "is_border" 3) (EZ T fE.up)];rw[d9 eB (aie 5 "is_at_border") (yW T k9.up) Hv (In z 1 "Fall" iP 3 _) (E6 T)];rw[agH je (aie 1 "unlock") (Na T) BW 6 "cancel" (M8 T jn.up eU.up rq.up eB.up Hv.up je.up jd.up)];rw[agH oW (aie 3 "check_points") (zc T ft.up k8.up) Ff 5 "throw" (Ro T oW.up fP.up)];rw[d9 oX (aie 2 "check_signal") (ze T eC.up) ki (ahu 6 "route_past" 3) (CG T eB.up eU.up)];rw[agH Fp (In z 1 "Train" bU 1 _) (Cz T) nS 2 "come_on" (Jl T je.up)];rw[d9 jo (ahu 3 "pass_signal" 3) (BP T eU.up jd.up nS.up) Fh (ahu 7 "enter" 3) (Ru T oX.up eB.up ki.up Fp.up jo.up)];rw[agH Jv (ahu 2 "tick" 1) (UP T je.up jd.up) cQ 1 "train_called" (za T)];rw[agH YG (aie 7 "go") (abN T cQ.up nS.up k9.up jo.up ki.up iK.up) Jw 2 "draw" (UR T cQ.up)];rw[agH BM (ahu 1 "turned" 1) (MY T) Jx 2 "turn" (UT T cQ.up je.up BM.up)];rw[d9 tf (ahu 1 "_law_refusal" 1) (Fj T) nT (ahu 8 "_law_asked" 4) (Ju T sZ.up BW.up Ff.up Fh.up Jv.up YG.up Jw.up Jx.up tf.up)];rw[d9 vc (ahu 1 "_law_passed" 4) (Hs T) wB (ahu 9 "_law_both" 5) (NG T qy.up nT.up)];rw[d9 BZ (Me z 3 aL "lock_of" 2 _) (yU T ft.up) Fq (Me z 2 aL "where" 2 _) (CB T iJ.up cQ.up)];rw[ajg BY (ahu 10 "_law_goes" 6) (NI T eD.up qz.up wB.up BZ.up Fq.up rK.up) LL (JB (k:=38) T F xT.up eD.up qz.up qy.up nT.up vc.up BY.up)];rw[d9 hj (El dF) (λ p M=>Sb.jC p M) hc (∀ps ss,alJ->ra (lA (jZ bp (j4 bp (gY dF)) dF) (jw bp dF)) [afa,ahJ]) (λ ps ss hg =>
  Sb.jV (Sb.ig hg (ahO (Sb.ij (λ ps j M h=>Sb.iO ps j M h) (by rw[aeq hg.qA]) hg.two (hg.Fx p hp) (hg.once p hp))) hj) (Sb.gK hg hj))]
 have S9:=Sb.pQ hc Sw;rw[d9 hm (my (tJ qP)) (Sb.tu Sb.pU) hb (vW ny) (λ ps n j M h=>Sb.jF ps n j M h)];have Mq:PbS (iB (gY dF)):=λ ps a x M h=>Sb.fR ps a x M h
 let C:Cs:=⟨aL,iP,aS,eO,bU,i6⟩
 rw[aaa pu (abe (C:=C)) ckP (abb (C:=C))];rw[aaa ca (abm (C:=C)) ti (Vy (C:=C) ckP pu)];rw[aaa nh (abf (C:=C) ti) ckT (abd (C:=C) ckP Vw)];rw[aaa bor (Ys Mq) bd (aba (C:=C) bor)];rw[aaa ah (abi (C:=C) Mq) pa (abp (C:=C) bd K4)];rw[aaa co (λ Y=>abq (C:=C) (Y:=Y) QX) ps (λ Y=>abr (C:=C) (Y:=Y) K4 K5 (co Y))];rw[ajg A (A8 C _ _ _ _ _ _ _ _) ⟨abv Vx K5 nh (abh Vw) K4,QY Vx K4 (abj ah) bd abk QX K5,UB ckT nh,UC abc bd pa abn ps,Yt QX K5,aeR ca co bor ps pa (λ M x hx=>Sb.EC (C:=C) hx) ah,Yu ca,Yv ca (λ Y=>abl) abo⟩ he (abx abw)];rw[d9 MA (∀Y,abX->K3 C Y _) (λ Y G=>Yw (C:=C) (λ M W j w i x h=>Sb.nH h) (l8 G he Vz hb aby abz)) B3 (∀Y,abX->K6 C Y _ _) (λ Y G=>Yy (C:=C) G (MA Y G) (Sb.nI (C:=C) (cB:=bp) G A (λ M n k hn hk=>Sb.kW (C:=C) (cB:=bp) T.dif hn hk)))];have VD:∀Y,abX->G4 C Y _:=λ Y G=>Yx (C:=C) G hm hb Vz
 exact(LL.imp λ _ _ _ _ h=>Mc (λ ns=>Sb.ir (C:=C) ns (Sb.nJ (C:=C) (Sb.iR hm) (Sb.kU hm hb) hm (λ ps ss wait M hg=>Sb.jD S9 hg wait M) (abD (Sb.kD Sl)) ns) hm VD B3 (λ Y M W j x n h h1 h2=>Sb.kF h h1 h2) (λ Y M W k x t G hx st ht=>Sb.nX (C:=C) G hm (VD Y G) (Sb.p5 (B3 Y G)) (aeX (C:=C) G ckP pu ca) hx st ht)) h).mono d6
universe zE
open Hd
def all_mk aOP aOe{mg:ac0}{fa:Addr}(X:aHL)(G:h.Ns mainGlobals mg)(hfa:mg "law" = aH0)(H:All facts K) :
  ∃fd:FuncData,(∀aND aO5,BindsTo s fd (aiQ [u]) [("_law_script",u)])/\∀base:Heap,aF3->aH3->pH P w K mg base (rS P w) 40 fa fd axn (Gm K):=by
 have T:Top K mg 44 31 68 56 80 285 172 264:=⟨⟨ajJ (afM 0).a,(ap2 5)⟩,⟨ajJ (afM 2).a,(ap2 6)⟩,⟨ajJ (afM 3).a,(ap2 7)⟩,⟨ajJ (afM 4).a,(ap2 8)⟩,ajJ (afM 0).a,ajJ (afM 2).a,ajJ (afM 3).a,ajJ (afM 4).a,⟨ajJ (afM 1).a,ad9 (aAC 9) (aAC 10) (aAC 11) (aAC 12)⟩,aBU (afM 0).xc 13 (afM 3).xc 14 (afM 2).xc 15 (ati (afM 4).xc 16),aBU (afM 0).xc 17 (afM 3).xc 18 (afM 2).xc 19 (ati (afM 4).xc 20),aBU (afM 0).xc 21 (afM 3).xc 22 (afM 2).xc 23 (ati (afM 4).xc 24),aBU (afM 0).xc 25 (afM 3).xc 26 (afM 2).xc 27 (ati (afM 4).xc 28),aBU (afM 0).xc 29 (afM 3).xc 30 (afM 2).xc 31 (ati (afM 4).xc 32),⟨d6,d6,d6,d6,d6,d6⟩,(H.c 33 rfl).fd (aiD 42),(H.c 33 rfl).fd (aiD 43),(aH1).fd (aiD 44),(aH1).fd (aiD 45),(aH1).fd (aiD 46),(H.c 39 rfl).fd (aiD 47),(H.c 39 rfl).fd (aiD 48),(H.c 39 rfl).fd (aiD 49),(H.c 39 rfl).fd (aiD 50),(H.c 39 rfl).fd (aiD 51),(H.c 39 rfl).fd (aiD 52),(H.c 39 rfl).fd (aiD 53),(H.c 39 rfl).fd (aiD 54),(H.c 39 rfl).fd (aiD 55),(H.c 39 rfl).fd (aiD 56),amP 57,amP 58,amP 59,amP 60,amP 61,amP 62,amP 63,amP 64,amP 65,amP 66,amP 67,amP 68,amP 69,⟨284,ajJ (aiD 70)⟩,⟨280,ajJ (aiD 71)⟩,⟨282,ajJ (aiD 72)⟩,aaq 73 "joints_of" "joints_of" "joints_of" jC,aaq 74 "pieces_at" "pieces_at" "pieces_at" iO,aaq 75 "piece_beyond" "piece_beyond" "piece_beyond" fR,aaq 76 "is_border" "is_border" "is_border" kQ,aaq 77 "joints_out" "joints_out" "joints_out" iQ,aaq 78 "is_points" "is_points" "is_points" kR,aaq 79 "lie_for" "lie_for" "lie_for" nD,aaq 80 "check_yard" "check_yard" "check_yard" jV,aaq 81 "check_pieces" "check_pieces" "check_pieces" ig,aaq 82 "check_joints" "check_joints" "check_joints" ij,aaq 83 "check_signals" "check_signals" "check_signals" gK,(H.f 84 rfl:FnAt K (findIn K (Δ 172) "__init__") "__init__" "Train.__init__" jW).ini (ap2 37) (ap2 38) (ajJ (aH1).a),aaq 85 "pieces_under" "pieces_under" "pieces_under" fS,aaq 86 "turned" "turned" "turned" pP,aaq 87 "routes" "routes" "routes" pQ,aaq 88 "ways_on" "ways_on" "ways_on" pR,(H.f 89 rfl:FnAt K (findIn K (Δ 264) "__init__") "__init__" "Yard.__init__" jD).ini (ap2 40) (ap2 41) (ajJ (H.c 39 rfl).a),(H.f 90 rfl:FnAt K (findIn K (Δ 264) "lock_of") "lock_of" "Yard.lock_of" lj).me (H.c 39 rfl).cl,(H.f 91 rfl:FnAt K (findIn K (Δ 264) "train_in") "train_in" "Yard.train_in" ku).me (H.c 39 rfl).cl,(H.f 92 rfl:FnAt K (findIn K (Δ 264) "where") "where" "Yard.where" ng).me (H.c 39 rfl).cl,(H.f 93 rfl:FnAt K (findIn K (Δ 285) "__init__") "__init__" "Fall.__init__" kS).ini (ap2 34) (ap2 35) (ajJ (H.c 33 rfl).a),aaq 94 "set_route" "set_route" "set_route" kT,aaq 95 "cancel" "cancel" "cancel" pS,aaq 96 "tick" "tick" "tick" wC,aaq 97 "throw" "throw" "throw" tm,aaq 98 "unlock" "unlock" "unlock" pT,aaq 99 "signal_of" "signal_of" "signal_of" mD,aaq 100 "way_of" "way_of" "way_of" rV,aaq 101 "is_at_border" "is_at_border" "is_at_border" jE,aaq 102 "signal_ahead" "signal_ahead" "signal_ahead" ik,aaq 103 "train_near" "train_near" "train_near" jX,aaq 104 "train_called" "train_called" "train_called" il,aaq 105 "check_route" "check_route" "check_route" jf,aaq 106 "check_piece" "check_piece" "check_piece" jg,aaq 107 "check_points" "check_points" "check_points" ip,aaq 108 "check_signal" "check_signal" "check_signal" iq,aaq 109 "is_number_of" "is_number_of" "is_number_of" ll,aaq 110 "check_not_held" "check_not_held" "check_not_held" fN,aaq 111 "enter" "enter" "enter" tq,aaq 112 "go" "go" "go" Lc,aaq 113 "draw" "draw" "draw" wD,aaq 114 "turn" "turn" "turn" ux,aaq 115 "route_past" "route_past" "route_past" jY,aaq 116 "pass_signal" "pass_signal" "pass_signal" jh,aaq 117 "come_on" "come_on" "come_on" nE,aaq 118 "_law_cell" "_law_cell" "_law_cell" pU,aaq 119 "_law_mix" "_law_mix" "_law_mix" tu,aaq 120 "_law_beyond" "_law_beyond" "_law_beyond" jF,aaq 121 "_law_pieces" "_law_pieces" "_law_pieces" iR,aaq 122 "_law_signals" "_law_signals" "_law_signals" kU,aaq 123 "_law_outs" "_law_outs" "_law_outs" nU,aaq 124 "_law_ways" "_law_ways" "_law_ways" rW,aaq 125 "_law_routes" "_law_routes" "_law_routes" kD,aaq 126 "_law_new" "_law_new" "_law_new" qB,aaq 127 "_law_train_in" "_law_train_in" "_law_train_in" gL,aaq 128 "_law_held" "_law_held" "_law_held" pV,aaq 129 "_law_free" "_law_free" "_law_free" nV,aaq 130 "_law_set" "_law_set" "_law_set" qC,aaq 131 "_law_near" "_law_near" "_law_near" pW,aaq 132 "_law_cancel" "_law_cancel" "_law_cancel" kE,aaq 133 "_law_tick" "_law_tick" "_law_tick" pX,aaq 134 "_law_throw" "_law_throw" "_law_throw" nF,aaq 135 "_law_pass" "_law_pass" "_law_pass" nW,aaq 136 "_law_enter" "_law_enter" "_law_enter" nG,aaq 137 "_law_go" "_law_go" "_law_go" wF,aaq 138 "_law_draw" "_law_draw" "_law_draw" pY,aaq 139 "_law_turn" "_law_turn" "_law_turn" mE,aaq 140 "_law_there" "_law_there" "_law_there" nH,aaq 141 "_law_done" "_law_done" "_law_done" pZ,aaq 142 "_law_asked" "_law_asked" "_law_asked" nI,aaq 143 "_law_refusal" "_law_refusal" "_law_refusal" kW,aaq 144 "_law_near_deeds" "_law_near_deeds" "_law_near_deeds" fT,aaq 145 "_law_deed" "_law_deed" "_law_deed" p0,aaq 146 "_law_start" "_law_start" "_law_start" nJ,aaq 147 "_law_both" "_law_both" "_law_both" p5,aaq 148 "_law_passed" "_law_passed" "_law_passed" kF,aaq 149 "_law_goes" "_law_goes" "_law_goes" nX⟩;obtain⟨_,_,_,_,_,_,F⟩:=(H.f 150 rfl:FnAt K (nsIn K mainGlobals "law") "law" "law" ir).law X G hfa;rw[Lb _ (λ s u=>.of_eq rfl) (λ base _ _=>YH (z:=⟨P,w,K,mg,base⟩) T F)]
universe Rw
universe zE
end
open PySem PySem.W PyProof.Rows
set_option maxRecDepth 100000 in
set_option maxHeartbeats 0 in
theorem PySem.Challenge.cw_signalbox_k21_whole_through_holds : PySem.Challenge.rw_signalbox_k21_whole_through.Holds := by
 refine PySem.W.holds_law Rw.wsd λae3=>?_
 refine PySem.W.holds_open (q:=Rw.Q) (loose:=Rw.ks) (Xt:=λs=>xlAt Rw.Q [] s && recOk [] s) (XP:=XL Rw.Q []) (Yf:=Hook.obs Rw.hk) (Ya:=Hook.val Rw.hk) (YP:=Hook.says Rw.hk) (N:=8564) (d:=⟨"law",L2.mj Rw.ir,L2.gx Rw.ir,L2.av Rw.ir,Rw.psn⟩) (kwd:=[])
  (Hd.RP (boot_open Rw.opn rfl Rw.fen) Rw.siz Rw.tri Rw.run Rw.ruB rfl) (Hook.of Rw.hk) (Hook.keeps Rw.hk) (λs e=>xl_of s (Bool.and_eq_true_iff.mp e).1) XL.keeps (by kernel_rfl) (by kernel_rfl) (by kernel_rfl) (λs e=>recFacts_of (Bool.and_eq_true_iff.mp e).2) (by kernel_rfl) ae3 (by kernel_rfl) ⟨rfl,rfl,rfl,rfl,rfl,by kernel_rfl⟩ ?hw ?hc
 case hw=>w_witness2
 refine Hd.XB (l:=PySem.Challenge.rw_signalbox_k21_whole_through) (n:=63) (k:=40) (x := "_law_script") (CX:=λw=>L2.rS PySem.Challenge.rw_signalbox_k21_whole_through.prog w) (sp:=L2.Gm) rfl (by decide) (by kernel_rfl) ⟨rfl,by decide,by decide⟩ (λw mg fa h K KX H G WV=>Rw.all_mk KX G WV H) (λK H a ns _ _ hS=>⟨a,ns,rfl,hS,λ_=>rfl⟩) (λw H s e s' z=>by obtain⟨_,_,_,_,_,q⟩:=z; exact q)
