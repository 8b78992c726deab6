import PyProof.Rows.All
import Wide.All
import Wide.FinOn
import KE.KFromBytes
import KE.KDictList
import KE.KDictOf
import KE.KItem
import KE.KTryMore
import Open.Boot
import Open.Tree
import Open.Line
import Lean
import PyProof.EqAt
import PyProof.EqKinds
import PyProof.TupleCall
import PyProof.Rows.SetFrom
import PyProof.DictWalks
import PySem.Challenge.RW_signalbox_k10_box
set_option Elab.async false
set_option linter.all false
set_option maxRecDepth 100000
set_option maxHeartbeats 4000000
noncomputable abbrev Fg:=PySem.W.Frag
theorem zA {α:Type _} {a:α} {l:List α}:(a::l)[0]? = some a:=by simp
theorem zB {α:Type _} {a:α} {i:Nat} {l:List α}:(a::l)[i+1]? = l[i]? := by simp
theorem zC {α β:Type _} {f:α->β} {a:α} {l:List α}:(a::l).map f=f a::l.map f:=by simp
theorem zD {α β:Type _} {f:α->β}:([]:List α).map f=[]:=by simp
theorem zE {α:Type _} {a:α} {l:List α}:(a::l).length=l.length+1:=by simp
theorem zF {α:Type _}:([]:List α).length=0:=by simp
theorem zG {α:Type _} {a:α} {l m:List α}:(a::l)++m=a::(l++m):=by simp
theorem zH {α:Type _} {l:List α}:[]++l=l:=by simp
theorem zI {α:Type _} {l:List α}:l++[]=l:=by simp
theorem zJ {α β:Type _} {f:α->β} {l:List α} {i:Nat}:(l.map f)[i]? = l[i]?.map f:=by simp
theorem zK {α β:Type _} {f:α->β} {l:List α}:(l.map f).length=l.length:=by simp
section
namespace L2
open PySem PySem.Spec PyProof.Rows
noncomputable def inClass (s:Stmt) (j:Nat):Stmt:=match s with
 | .ClassDef _ _ _ body _ _ _ _ _ _ _=>body.getD j (.Pass ⟨0,0,0,0⟩)
 | _=>.Pass ⟨0,0,0,0⟩
noncomputable def jv (s:Stmt):Arguments:=match s with
 | .FunctionDef _ a _ _ _ _ _ _ _ _=>a
 | _=>{ posonlyargs:=[],args:=[],vararg:=none,kwonlyargs:=[],kw_defaults:=[],kwarg:=none,defaults:=[] }
noncomputable def dN (s:Stmt):List Stmt:=match s with
 | .FunctionDef _ _ b _ _ _ _ _ _ _=>b
 | _=>[]
noncomputable def ak (s:Stmt):Scope:=match s with
 | .FunctionDef _ _ _ _ _ _ sc _ _ _=>sc
 | _=>{ kind:=.function,names:=[],isGenerator:=false,isCoroutine:=false }
end L2
namespace Hd
open PySem PySem.W PySem.Calls PyProof.Rows
noncomputable def BP (st:SharedT->Thread->Option (SharedT×Thread)) (m:Nat) (ann:Option Value):Nat->SharedT->Thread->Option SharedT
 | 0,_,_=>none
 | n+1,s,t=>match through t with
  | true=>some s
  | false=>match stepOk m ann t with
   | false=>none
   | true=>match st s t with
    | some x=>BP st m ann n x.1 x.2
    | none=>none
theorem C0 {tb:String->Option Builtin} {p:Program} {w:World} {m:Nat} {ann:Option Value}:∀{n:Nat} {s s':SharedT} {t:Thread},
  BP (stepT (denote tb) p w) m ann n s t=some s'->topRun tb p w m ann n s.abs t=some s'.abs
 | 0,_,_,_,h=>by cases h
 | n+1,s,s',t,h=>by
  unfold BP at h
  unfold topRun
  cases ht:through t with
  | true=>rw[ht] at h; cases h; rfl
  | false =>
   rw[ht] at h
   cases hk:stepOk m ann t with
   | false=>rw[hk] at h; cases h
   | true =>
    rw[hk] at h
    cases hs:stepT (denote tb) p w s t with
    | none=>rw[hs] at h; cases h
    | some x =>
     rw[hs] at h
     rw[stepT_spec hs]
     exact C0 h
noncomputable def Go (p q:Program) (loose:List Str) (Xt:Shared->Bool) (g0:Bool) (H₀:Heap) (s:Shared) :=
 ((staticsOk (importedModules p.main.body) H₀ s.heap && namesBound p s.heap && gensDone s && laidKept H₀ s.heap),openSeen q loose (importedModules p.main.body) Xt g0 s)
theorem JJ {p q:Program} {loose:List Str} {Xt:Shared->Bool} {α:Type} {Yf:Shared->α} {Ya:World->α} {N:Nat} {g0:Bool} {H₀:Params->Heap} {Pd:Array GenState} {d₀:Drawn} {k₀:Nat} {m₀:Nat} {ann:Option Value} {M:Nat}
  {T₀:Params->BT} {n₀:Nat} {l₀:Life}
  (Pe:∀w:World,(fencedOpening treeTable p w N).map (fun s=>(s.heap,s.gens,s.drawn,s.toks))=some (H₀ w.params,Pd,d₀,k₀))
  (size:∀w:World,((H₀ w.params).isNs mainGlobals && Pd.size == 0,(H₀ w.params).objs.size,(H₀ w.params).nsMap mainGlobals "__annotations__")=(true,m₀,ann))
  (tree:∀P:Params,absHeap (T₀ P) n₀ l₀=H₀ P)
  (run:∀(w:World) (os:OsState),(BP (stepT (denote treeTable) p w) m₀ ann M ⟨T₀ w.params,n₀,l₀,Pd,d₀,k₀,os⟩ (topStub p)).map (fun s=>Go p q loose Xt g0 (H₀ w.params) s.abs)=some (true,openGood q loose))
  (SU:∀(w:World) (os:OsState),(BP (stepT (denote treeTable) p w) m₀ ann M ⟨T₀ w.params,n₀,l₀,Pd,d₀,k₀,os⟩ (topStub p)).map (fun s=>Yf s.abs)=some (Ya w))
  (le:Nat.ble M N=true):LeftO p q loose Xt Yf Ya N g0:=fun w=>by
 obtain⟨⟨h,gs,d,k,os⟩,e,e'⟩:=Option.map_eq_some_iff.mp (Pe w)
 obtain⟨rfl,rfl,rfl,rfl⟩:h=H₀ w.params/\gs=Pd/\d=d₀/\k=k₀:=by simpa using e'
 obtain⟨z1,z2,z3⟩:_/\_/\_:=by simpa only[Prod.mk.injEq] using size w
 obtain⟨sT,r0,l0⟩:=Option.map_eq_some_iff.mp (run w os)
 unfold Go at l0
 obtain⟨l1,l2⟩:_/\_:=by simpa only[Prod.mk.injEq] using l0
 have l3:Yf sT.abs=Ya w:=by
  have:=SU w os
  rw[r0] at this
  exact Option.some.inj this
 have r1:=C0 r0
 have r:=topRun_mono (N-M) _ _ _ _ r1
 rw[show M+(N-M)=N by have:=Nat.le_of_ble_eq_true le; omega] at r
 have a0:SharedT.abs ⟨T₀ w.params,n₀,l₀,gs,d,k,os⟩=⟨H₀ w.params,gs,d,k,os⟩:=by
  show(⟨absHeap (T₀ w.params) n₀ l₀,gs,d,k,os⟩:Shared)=_
  rw[tree]
 rw[a0] at r
 have t:topFrom treeTable p w N ⟨H₀ w.params,gs,d,k,os⟩=some sT.abs:=by
  unfold topFrom
  dsimp only
  rw[z1,z2,z3,r]
  show(match staticsOk (importedModules p.main.body) (H₀ w.params) sT.abs.heap && namesBound p sT.abs.heap && gensDone sT.abs && laidKept (H₀ w.params) sT.abs.heap with | true=>_ | false=>_)=_
  rw[l1]
 unfold openEnds
 rw[e]
 show(topFrom treeTable p w N _).map _=_
 rw[t]
 exact congrArg some (Prod.ext l2 l3)
noncomputable def treeOf (l:List Obj):BT:=l.zipIdx.foldl (fun t x=>t.ins x.2 x.1) .nil
open L2
inductive zS where
 | v (x:Option (Option Value))
 | b (x:Option Bool)
 | f (x:Option (FuncData×Bool))
noncomputable abbrev En:=(Fg->zS)×zS
noncomputable def Sat (K:Fg) (l:List En):Prop:=∀e∈l,e.1 K=e.2
noncomputable def eb (f:Fg->Bool):En:=(fun K=>.b (some (f K)),.b (some true))
noncomputable def eo (f:Fg->Option Bool) (v:Option Bool):En:=(fun K=>.b (f K),.b v)
noncomputable def ev (f:Fg->Option (Option Value)) (v:Option (Option Value)):En:=(fun K=>.v (f K),.v v)
noncomputable def Gp (K:Fg) (v:Option (Option Value)) (q:Str):Option (FuncData×Bool):=match v with
 | some (some (.ref f))=>match K.lookup f with
  | some ⟨_,_,.func fd,_⟩=>some ({ fd with kwdefaults:=.none,doc:=.none,pyModule:=.none,annotations:=none,code:=.none,closureTuple:=.none },codeIn K fd.code q && keepIn K (.ref f) && isFn K (.ref f))
  | _=>none
 | _=>none
noncomputable def ef (g:Fg->Option (Option Value)) (x q:Str) (st:Stmt):En:=(fun K=>.f (Gp K (g K) q),.f (some (PySem.W.fnOf x q (jv st) (dN st) (ak st) .none .none .none .none none .none .none,true)))
noncomputable def My (x:Str) (C:Addr):List En :=
  [ev (fun K=>nsIn K mainGlobals x) (some (some (.ref C))), ev (fun K=>findIn K (.ref C) "__getattribute__") (some (some (.builtin "BaseException.__getattribute__"))), ev (fun K=>findIn K (.ref C) "__getattr__") (some none),
   ev (fun K=>findIn K (.ref C) "__class__") (some (some (.builtin "object.__class__"))), eo (fun K=>mroIn K C (.type "object")) (some true), eo (fun K=>mroIn K C (.type "BaseException")) (some true), eb (fun K=>isClsIn K C),
   ev (fun K=>specialIn K (.builtin "object.__class__") "__get__") (some (some (.builtin "getset_descriptor.__get__"))), eo (fun K=>takesIn K (.builtin "object.__class__")) (some true)]
noncomputable def RV (x:Str) (C:Addr):List En :=
 [ev (fun K=>nsIn K mainGlobals x) (some (some (.ref C))),eb (fun K=>plainGet K C Str.empty),eb (fun K=>hasDictIn K C),eb (fun K=>plainOver K C),ev (fun K=>findIn K (.ref C) "__setattr__") (some (some (.builtin "object.__setattr__")))]
noncomputable def All (l:List (List En)) (K:Fg):Prop:=∀g∈l,Sat K g
noncomputable def xZ (as:List Addr) (h:Heap):Fg:=as.filterMap fun a=>match h.get? a with
 | some o=>some (a,o)
 | none=>none
theorem Ed (as:List Addr) (h:Heap):(xZ as h).In h:=by
 induction as with
 | nil=>intro a o e; cases e
 | cons b as ih =>
  intro a o e
  unfold xZ at e
  rw[List.filterMap_cons] at e
  cases hb:h.get? b with
  | none=>rw[hb] at e; exact ih a o e
  | some x =>
   rw[hb] at e
   simp only[List.lookup_cons] at e
   split at e
   ·rename_i q; cases e; rw[beq_iff_eq.mp q]; exact hb
   ·exact ih a o e
noncomputable def hook (as:List Addr) (L:List (List En)):Hook where
 α:=List (List zS)
 obs s:=L.map fun g=>g.map fun e=>e.1 (xZ as s.heap)
 val _:=L.map fun g=>g.map (·.2)
 says _ h:=∃K:Fg,K.In h/\All L K
 of w s e:=⟨xZ as s.heap,Ed as s.heap,fun g hg x hx=>List.map_inj_left.mp (List.map_inj_left.mp e g hg) x hx⟩
 keeps w h h' x k:=by obtain⟨K,a,b⟩:=x; exact⟨K,a.keeps k,b⟩
end Hd
end
section
namespace Rw
open PySem L2 PySem.W PyProof.Rows PySem.Calls Hd
noncomputable def top (i:Nat):Stmt:=PySem.Challenge.pw_signalbox_k10_box.main.body.getD i (.Pass ⟨0,0,0,0⟩)
noncomputable abbrev fR:Stmt:=top 11
noncomputable abbrev eZ:Stmt:=top 12
noncomputable abbrev dE:Stmt:=top 13
noncomputable abbrev il:Stmt:=top 14
noncomputable abbrev fi:Stmt:=top 15
noncomputable abbrev ip:Stmt:=top 16
noncomputable abbrev kq:Stmt:=top 17
noncomputable abbrev gz:Stmt:=top 18
noncomputable abbrev eG:Stmt:=top 19
noncomputable abbrev eJ:Stmt:=top 20
noncomputable abbrev dW:Stmt:=top 21
noncomputable abbrev l4:Stmt:=top 23
noncomputable abbrev l5:Stmt:=top 24
noncomputable abbrev fS:Stmt:=top 26
noncomputable abbrev fT:Stmt:=inClass (top 28) 0
noncomputable abbrev lC:Stmt:=inClass (top 28) 2
noncomputable abbrev iP:Stmt:=inClass (top 28) 3
noncomputable abbrev hZ:Stmt:=inClass (top 28) 4
noncomputable abbrev lD:Stmt:=inClass (top 28) 5
noncomputable abbrev ia:Stmt:=inClass (top 28) 6
noncomputable abbrev j6:Stmt:=inClass (top 28) 7
noncomputable abbrev iq:Stmt:=inClass (top 29) 0
noncomputable abbrev ir:Stmt:=top 30
noncomputable abbrev l6:Stmt:=top 31
noncomputable abbrev rj:Stmt:=top 32
noncomputable abbrev oH:Stmt:=top 33
noncomputable abbrev l7:Stmt:=top 34
noncomputable abbrev iu:Stmt:=top 35
noncomputable abbrev l8:Stmt:=top 36
noncomputable abbrev eL:Stmt:=top 37
noncomputable abbrev iQ:Stmt:=top 38
noncomputable abbrev j7:Stmt:=top 39
noncomputable abbrev iR:Stmt:=top 40
noncomputable abbrev fC:Stmt:=top 41
noncomputable abbrev fD:Stmt:=top 42
noncomputable abbrev eN:Stmt:=top 43
noncomputable abbrev eO:Stmt:=top 44
noncomputable abbrev iS:Stmt:=top 45
noncomputable abbrev dw:Stmt:=top 46
noncomputable abbrev l9:Stmt:=top 48
noncomputable abbrev oI:Stmt:=top 49
noncomputable abbrev fU:Stmt:=top 50
noncomputable abbrev fj:Stmt:=top 51
noncomputable abbrev iw:Stmt:=top 52
noncomputable abbrev kA:Stmt:=top 53
noncomputable abbrev nN:Stmt:=top 54
noncomputable abbrev ic:Stmt:=top 55
noncomputable abbrev mJ:Stmt:=top 56
noncomputable abbrev gA:Stmt:=top 57
noncomputable abbrev ma:Stmt:=top 58
noncomputable abbrev kB:Stmt:=top 59
noncomputable abbrev mK:Stmt:=top 60
noncomputable abbrev p7:Stmt:=top 61
noncomputable abbrev ie:Stmt:=top 62
noncomputable abbrev md:Stmt:=top 63
noncomputable abbrev kr:Stmt:=top 64
noncomputable abbrev rm:Stmt:=top 65
noncomputable abbrev jL:Stmt:=top 66
noncomputable abbrev kt:Stmt:=top 67
noncomputable abbrev oJ:Stmt:=top 68
noncomputable abbrev eQ:Stmt:=top 69
noncomputable def facts:List (List En):=[My "BadYard" 44,
 My "BoxError" 31,
 My "Held" 68,
 My "NotThere" 56,
 My "Red" 80,
 [eb fun K=>excIn K 44 [.type "ValueError",.type "Exception",.type "BaseException",.type "object"] "ValueError.__new__"],
 [eb fun K=>excIn K 68 [.type "ValueError",.type "Exception",.type "BaseException",.type "object"] "ValueError.__new__"],
 [eb fun K=>excIn K 56 [.type "ValueError",.type "Exception",.type "BaseException",.type "object"] "ValueError.__new__"],
 [eo (fun K=>exmOne K (.ref 44) (.ref 31)) (some true)],
 [eo (fun K=>exmOne K (.ref 56) (.ref 31)) (some true)],
 [eo (fun K=>exmOne K (.ref 68) (.ref 31)) (some true)],
 [eo (fun K=>exmOne K (.ref 80) (.ref 31)) (some true)],
 [eo (fun K=>kitOne K (.ref 44) (.ref 68)) (some false)],
 [eo (fun K=>kitOne K (.ref 56) (.ref 68)) (some false)],
 [eo (fun K=>kitOne K (.ref 68) (.ref 68)) (some true)],
 [eo (fun K=>kitOne K (.ref 80) (.ref 68)) (some false)],
 [eo (fun K=>kitOne K (.ref 44) (.ref 56)) (some false)],
 [eo (fun K=>kitOne K (.ref 56) (.ref 56)) (some true)],
 [eo (fun K=>kitOne K (.ref 68) (.ref 56)) (some false)],
 [eo (fun K=>kitOne K (.ref 80) (.ref 56)) (some false)],
 [eo (fun K=>kitOne K (.ref 44) (.type "ValueError")) (some true)],
 [eo (fun K=>kitOne K (.ref 56) (.type "ValueError")) (some true)],
 [eo (fun K=>kitOne K (.ref 68) (.type "ValueError")) (some true)],
 [eo (fun K=>kitOne K (.ref 80) (.type "ValueError")) (some true)],
 [eo (fun K=>kitAny K (.ref 44) [.ref 44,.ref 80]) (some true)],
 [eo (fun K=>kitAny K (.ref 56) [.ref 44,.ref 80]) (some false)],
 [eo (fun K=>kitAny K (.ref 68) [.ref 44,.ref 80]) (some false)],
 [eo (fun K=>kitAny K (.ref 80) [.ref 44,.ref 80]) (some true)],
 RV "Fall" 257,
 [eb fun K=>makesIn K 257],
 [eb fun K=>keepIn K (.ref 257)],
 RV "Yard" 236,
 [eb fun K=>makesIn K 236],
 [eb fun K=>keepIn K (.ref 236)],
 [ev (fun K=>findIn K (.ref 257) "near") (some none)],
 [ev (fun K=>findIn K (.ref 257) "until") (some none)],
 [ev (fun K=>findIn K (.ref 236) "steps") (some none)],
 [ev (fun K=>findIn K (.ref 236) "falls") (some none)],
 [ev (fun K=>findIn K (.ref 236) "found") (some none)],
 [ev (fun K=>findIn K (.ref 236) "greens") (some none)],
 [ev (fun K=>findIn K (.ref 236) "locks") (some none)],
 [ev (fun K=>findIn K (.ref 236) "lying") (some none)],
 [ev (fun K=>findIn K (.ref 236) "pieces") (some none)],
 [ev (fun K=>findIn K (.ref 236) "signals") (some none)],
 [ev (fun K=>findIn K (.ref 236) "ticks") (some none)],
 [ev (fun K=>findIn K (.ref 236) "trains") (some none)],
 [ev (fun K=>findIn K (.ref 236) "wait") (some none)],
 [ev (fun K=>nsIn K mainGlobals "ValueError") (some none)],
 [ev (fun K=>nsIn K mainGlobals "any") (some none)],
 [ev (fun K=>nsIn K mainGlobals "bool") (some none)],
 [ev (fun K=>nsIn K mainGlobals "enumerate") (some none)],
 [ev (fun K=>nsIn K mainGlobals "int") (some none)],
 [ev (fun K=>nsIn K mainGlobals "isinstance") (some none)],
 [ev (fun K=>nsIn K mainGlobals "len") (some none)],
 [ev (fun K=>nsIn K mainGlobals "list") (some none)],
 [ev (fun K=>nsIn K mainGlobals "max") (some none)],
 [ev (fun K=>nsIn K mainGlobals "min") (some none)],
 [ev (fun K=>nsIn K mainGlobals "range") (some none)],
 [ev (fun K=>nsIn K mainGlobals "tuple") (some none)],
 [ev (fun K=>nsIn K mainGlobals "LAST_JOINT") (some (some (.int 999 284)))],
 [ev (fun K=>nsIn K mainGlobals "MOST_PIECES") (some (some (.int 16 280)))],
 [ev (fun K=>nsIn K mainGlobals "MOST_SIGNALS") (some (some (.int 16 282)))],
 [ef (fun K=>nsIn K mainGlobals "joints_of") "joints_of" "joints_of" fR],
 [ef (fun K=>nsIn K mainGlobals "pieces_at") "pieces_at" "pieces_at" eZ],
 [ef (fun K=>nsIn K mainGlobals "piece_beyond") "piece_beyond" "piece_beyond" dE],
 [ef (fun K=>nsIn K mainGlobals "is_border") "is_border" "is_border" il],
 [ef (fun K=>nsIn K mainGlobals "joints_out") "joints_out" "joints_out" fi],
 [ef (fun K=>nsIn K mainGlobals "is_points") "is_points" "is_points" ip],
 [ef (fun K=>nsIn K mainGlobals "lie_for") "lie_for" "lie_for" kq],
 [ef (fun K=>nsIn K mainGlobals "check_yard") "check_yard" "check_yard" gz],
 [ef (fun K=>nsIn K mainGlobals "check_pieces") "check_pieces" "check_pieces" eG],
 [ef (fun K=>nsIn K mainGlobals "check_joints") "check_joints" "check_joints" eJ],
 [ef (fun K=>nsIn K mainGlobals "check_signals") "check_signals" "check_signals" dW],
 [ef (fun K=>nsIn K mainGlobals "routes") "routes" "routes" l4],
 [ef (fun K=>nsIn K mainGlobals "ways_on") "ways_on" "ways_on" l5],
 [ef (fun K=>nsIn K mainGlobals "pieces_under") "pieces_under" "pieces_under" fS],
 [ef (fun K=>findIn K (.ref 236) "__init__") "__init__" "Yard.__init__" fT],
 [ef (fun K=>findIn K (.ref 236) "time") "time" "Yard.time" lC],
 [ef (fun K=>findIn K (.ref 236) "lock_of") "lock_of" "Yard.lock_of" iP],
 [ef (fun K=>findIn K (.ref 236) "train_in") "train_in" "Yard.train_in" hZ],
 [ef (fun K=>findIn K (.ref 236) "lies") "lies" "Yard.lies" lD],
 [ef (fun K=>findIn K (.ref 236) "is_green") "is_green" "Yard.is_green" ia],
 [ef (fun K=>findIn K (.ref 236) "where") "where" "Yard.where" j6],
 [ef (fun K=>findIn K (.ref 257) "__init__") "__init__" "Fall.__init__" iq],
 [ef (fun K=>nsIn K mainGlobals "set_route") "set_route" "set_route" ir],
 [ef (fun K=>nsIn K mainGlobals "cancel") "cancel" "cancel" l6],
 [ef (fun K=>nsIn K mainGlobals "tick") "tick" "tick" rj],
 [ef (fun K=>nsIn K mainGlobals "throw") "throw" "throw" oH],
 [ef (fun K=>nsIn K mainGlobals "unlock") "unlock" "unlock" l7],
 [ef (fun K=>nsIn K mainGlobals "signal_of") "signal_of" "signal_of" iu],
 [ef (fun K=>nsIn K mainGlobals "way_of") "way_of" "way_of" l8],
 [ef (fun K=>nsIn K mainGlobals "is_at_border") "is_at_border" "is_at_border" eL],
 [ef (fun K=>nsIn K mainGlobals "signal_ahead") "signal_ahead" "signal_ahead" iQ],
 [ef (fun K=>nsIn K mainGlobals "train_near") "train_near" "train_near" j7],
 [ef (fun K=>nsIn K mainGlobals "train_called") "train_called" "train_called" iR],
 [ef (fun K=>nsIn K mainGlobals "check_route") "check_route" "check_route" fC],
 [ef (fun K=>nsIn K mainGlobals "check_piece") "check_piece" "check_piece" fD],
 [ef (fun K=>nsIn K mainGlobals "check_points") "check_points" "check_points" eN],
 [ef (fun K=>nsIn K mainGlobals "check_signal") "check_signal" "check_signal" eO],
 [ef (fun K=>nsIn K mainGlobals "is_number_of") "is_number_of" "is_number_of" iS],
 [ef (fun K=>nsIn K mainGlobals "check_not_held") "check_not_held" "check_not_held" dw],
 [ef (fun K=>nsIn K mainGlobals "_law_cell") "_law_cell" "_law_cell" l9],
 [ef (fun K=>nsIn K mainGlobals "_law_mix") "_law_mix" "_law_mix" oI],
 [ef (fun K=>nsIn K mainGlobals "_law_beyond") "_law_beyond" "_law_beyond" fU],
 [ef (fun K=>nsIn K mainGlobals "_law_pieces") "_law_pieces" "_law_pieces" fj],
 [ef (fun K=>nsIn K mainGlobals "_law_signals") "_law_signals" "_law_signals" iw],
 [ef (fun K=>nsIn K mainGlobals "_law_outs") "_law_outs" "_law_outs" kA],
 [ef (fun K=>nsIn K mainGlobals "_law_ways") "_law_ways" "_law_ways" nN],
 [ef (fun K=>nsIn K mainGlobals "_law_routes") "_law_routes" "_law_routes" ic],
 [ef (fun K=>nsIn K mainGlobals "_law_new") "_law_new" "_law_new" mJ],
 [ef (fun K=>nsIn K mainGlobals "_law_train_in") "_law_train_in" "_law_train_in" gA],
 [ef (fun K=>nsIn K mainGlobals "_law_held") "_law_held" "_law_held" ma],
 [ef (fun K=>nsIn K mainGlobals "_law_free") "_law_free" "_law_free" kB],
 [ef (fun K=>nsIn K mainGlobals "_law_set") "_law_set" "_law_set" mK],
 [ef (fun K=>nsIn K mainGlobals "_law_near") "_law_near" "_law_near" p7],
 [ef (fun K=>nsIn K mainGlobals "_law_cancel") "_law_cancel" "_law_cancel" ie],
 [ef (fun K=>nsIn K mainGlobals "_law_tick") "_law_tick" "_law_tick" md],
 [ef (fun K=>nsIn K mainGlobals "_law_throw") "_law_throw" "_law_throw" kr],
 [ef (fun K=>nsIn K mainGlobals "_law_is") "_law_is" "_law_is" rm],
 [ef (fun K=>nsIn K mainGlobals "_law_same") "_law_same" "_law_same" jL],
 [ef (fun K=>nsIn K mainGlobals "_law_asked") "_law_asked" "_law_asked" kt],
 [ef (fun K=>nsIn K mainGlobals "_law_due") "_law_due" "_law_due" oJ],
 [ef (fun K=>nsIn K mainGlobals "law") "law" "law" eQ]]
noncomputable abbrev PW:=PySem.Challenge.pw_signalbox_k10_box
noncomputable def Q:Program:=PySem.W.view PW [69]
noncomputable def ks:List Str:=(["_wall","BoxError","BadYard","NotThere","Held","Red","MOST_PIECES","MOST_SIGNALS","LAST_JOINT","joints_of","pieces_at","piece_beyond","is_border","joints_out","is_points","lie_for","check_yard","check_pieces","check_joints","check_signals","routes","ways_on","pieces_under","Yard","Fall","set_route","cancel","tick","throw","unlock","signal_of","way_of","is_at_border","signal_ahead","train_near","train_called","check_route","check_piece","check_points","check_signal","is_number_of","check_not_held","_law_cell","_law_mix","_law_beyond","_law_pieces","_law_signals","_law_outs","_law_ways","_law_routes","_law_new","_law_train_in","_law_held","_law_free","_law_set","_law_near","_law_cancel","_law_tick","_law_throw","_law_is","_law_same","_law_asked","_law_due"]:List String).map Str.ofString
noncomputable def W3:Pos:=match eQ with
 | .FunctionDef _ _ _ _ _ _ _ _ _ p=>p
 | _=>⟨0,0,0,0⟩
noncomputable def hk:Hook:=hook [3,2,31,30,44,43,56,55,68,67,80,79,236,235,257,256,21,20,89,88,94,93,101,100,108,107,113,112,120,119,127,126,134,133,141,140,148,147,155,154,162,161,167,166,172,171,184,183,191,190,198,197,205,204,212,211,219,218,226,225,233,232,254,253,268,267,275,274,282,281,289,288,296,295,303,302,310,309,317,316,324,323,331,330,338,337,345,344,352,351,359,358,366,365,373,372,380,379,387,386,394,393,399,398,404,403,411,410,416,415,421,420,426,425,431,430,436,435,443,442,448,447,453,452,460,459,465,464,472,471,479,478,486,485,491,490,498,497,505,504,512,511] facts
noncomputable def tr (P:Params):BT:=treeOf (boot_heap P).objs.toList
theorem W4:opening PW=plainProg PW.main.scope.names:=by kernel_rfl
theorem W5 (s:Shared):fenceModules? PW s=some s:=by kernel_rfl
theorem W6:PySem.Challenge.rw_signalbox_k10_box.wellSaid=true:=by kernel_rfl
theorem W7 (w:World):((boot_heap w.params).isNs mainGlobals && (Array.mk ([]:List GenState)).size == 0,(boot_heap w.params).objs.size,(boot_heap w.params).nsMap mainGlobals "__annotations__")=(true,11,(some (.ref 6))):=by kernel_rfl
theorem W8 (P:Params):absHeap (tr P) 11 {}=boot_heap P:=by kernel_rfl
theorem run (w:World) (os:OsState):(BP (stepT (denote treeTable) PW w) 11 (some (.ref 6)) 6928 ⟨tr w.params,11,{},Array.mk [],boot_drawn,boot_toks,os⟩ (topStub PW)).map (fun s=>Go PW Q ks (fun s=>xlAt Q [] s && recOk [] s) true (boot_heap w.params) s.abs)=some (true,openGood Q ks):=by kernel_rfl
theorem W9 (w:World) (os:OsState):(BP (stepT (denote treeTable) PW w) 11 (some (.ref 6)) 6928 ⟨tr w.params,11,{},Array.mk [],boot_drawn,boot_toks,os⟩ (topStub PW)).map (fun s=>hk.obs s.abs)=some (hk.val w):=by kernel_rfl
end Rw
end
section
namespace L2
open PySem PySem.Spec PyProof.Rows
noncomputable abbrev Key:=Sum Int Str
noncomputable def p8:Key->Value->Bool
 | .inl k,v=>Value.isInt k v
 | .inr x,v=>Value.isStrOf x v
noncomputable def SV (w:World):Key->Int
 | .inl k=>hashInt k
 | .inr x=>hashStr w x
theorem cJ:∀{k:Key} {v:Value},p8 k v=true->(∃i t,k=Sum.inl i/\v=Value.int i t)\/(∃x t,k=Sum.inr x/\v=Value.str x t)
 | .inl i,v,h=>by
  obtain⟨t,e⟩:=Value.isInt_shape (k:=i) (v:=v) h
  exact .inl ⟨i,t,rfl,e⟩
 | .inr x,v,h=>by
  obtain⟨t,e⟩:=Value.isStrOf_shape (x:=x) (v:=v) h
  exact .inr ⟨x,t,rfl,e⟩
theorem Ee (i:Int) (t:Tok):p8 (.inl i) (.int i t)=true:=by simp[p8,Value.isInt]
theorem Ef (x:Str) (t:Tok):p8 (.inr x) (.str x t)=true:=by simp[p8,Value.isStrOf]
theorem Mz (a b:Int):decide ((Sum.inl a:Key)=Sum.inl b)=(a == b):=by
 by_cases e:a=b
 ·subst e; simp
 ·have h:¬(Sum.inl a:Key)=Sum.inl b:=fun q=>e (Sum.inl.inj q)
  rw[decide_eq_false h]
  exact(beq_eq_false_iff_ne.mpr e).symm
theorem MA (a b:Str):decide ((Sum.inr a:Key)=Sum.inr b)=decide (a=b):=by
 by_cases e:a=b
 ·subst e; simp
 ·have h:¬(Sum.inr a:Key)=Sum.inr b:=fun q=>e (Sum.inr.inj q)
  rw[decide_eq_false h,decide_eq_false e]
theorem MB (a:Int) (b:Str):decide ((Sum.inl a:Key)=Sum.inr b)=false:=decide_eq_false (fun q=>nomatch q)
theorem MC (a:Str) (b:Int):decide ((Sum.inr a:Key)=Sum.inl b)=false:=decide_eq_false (fun q=>nomatch q)
noncomputable def cf (prog:Program) (w:World):PySem.KeyKind prog w Key where
 is:=p8
 hash:=SV w
 inj:=fun v a b ha hb=>by
  rcases cJ ha with⟨i,t,rfl,rfl⟩ | ⟨x,t,rfl,rfl⟩
  ·rcases cJ hb with⟨j,u,rfl,e⟩ | ⟨y,u,rfl,e⟩
   ·injection e with e1 _; rw[e1]
   ·exact nomatch e
  ·rcases cJ hb with⟨j,u,rfl,e⟩ | ⟨y,u,rfl,e⟩
   ·exact nomatch e
   ·injection e with e1 _; rw[e1]
 byValue:=fun k v h=>by
  rcases cJ h with⟨i,t,rfl,rfl⟩ | ⟨x,t,rfl,rfl⟩<;>rfl
 pyHash:=fun hv h=>by
  rcases cJ hv with⟨i,t,rfl,rfl⟩ | ⟨x,t,rfl,rfl⟩
  ·exact wpAny_pyHash_int h
  ·exact wpAny_pyHash_str h
 eqBool:=fun hu hv h=>by
  rcases cJ hu with⟨i,t,rfl,rfl⟩ | ⟨x,t,rfl,rfl⟩
  ·rcases cJ hv with⟨j,u,rfl,rfl⟩ | ⟨y,u,rfl,rfl⟩
   ·rw[Mz] at h; exact wpAny_eqBool_int h
   ·rw[MB] at h; exact SeqAt.EqAt.int_str i t y u _ _ _ _ h
  ·rcases cJ hv with⟨j,u,rfl,rfl⟩ | ⟨y,u,rfl,rfl⟩
   ·rw[MC] at h; exact SeqAt.EqAt.str_int x t j u _ _ _ _ h
   ·rw[MA] at h; exact wpAny_eqBool_str h
 «strs»:=fun k x t v h=>by
  rcases cJ h with⟨i,u,rfl,e⟩ | ⟨y,u,rfl,e⟩
  ·exact nomatch e
  ·injection e with e1 _
   subst e1
   cases v<;>rfl
theorem zW (prog:Program) (w:World) (i:Int) (t:Tok):(cf prog w).is (.inl i) (.int i t)=true:=Ee i t
theorem zX (prog:Program) (w:World) (x:Str) (t:Tok):(cf prog w).is (.inr x) (.str x t)=true:=Ef x t
end L2
namespace L2
open PySem PySem.Spec PyProof.Rows
inductive V where
 | aN | bl (b:Bool) | int (i:Int) | str (x:Str) | OR (b:Array UInt8) | MD (b:UInt64) | ref (a:Addr) | ty (n:String)
 deriving DecidableEq
noncomputable def RelV:V->Value->Prop
 | .aN,u=>u=Value.none
 | .bl b,u=>u=Value.bool b
 | .int i,u=>∃t,u=Value.int i t
 | .str x,u=>∃t,u=Value.str x t
 | .OR b,u=>∃t,u=Value.bytes b t
 | .MD b,u=>∃t,u=Value.float b t
 | .ref a,u=>u=Value.ref a
 | .ty n,u=>u=Value.type n
noncomputable abbrev Vals:List V->List Value->Prop:=Paired RelV
theorem Vals.length {xs:List V} {us:List Value} (r:Vals xs us):xs.length=us.length:=Paired.length r
theorem Vals.get:∀{xs:List V} {us:List Value} {i:Nat} {x:V},Vals xs us->xs[i]? = some x->∃u,us[i]? = some u/\RelV x u
 | _,_,_,_,.nil,e=>by simp at e
 | _,_,0,_,.cons r _,e=>by simp at e; subst e; exact⟨_,rfl,r⟩
 | _,_,i+1,x,.cons _ t,e=>by
  obtain⟨u,h1,h2⟩:=Vals.get (i:=i) (x:=x) t (by simpa using e)
  exact⟨u,by simpa using h1,h2⟩
theorem Vals.set {x:V} {u:Value} (r:RelV x u):∀{xs:List V} {us:List Value} (i:Nat),Vals xs us->Vals (xs.set i x) (us.set i u)
 | _,_,_,.nil=>.nil
 | _,_,0,.cons _ t=>.cons r t
 | _,_,i+1,.cons q t=>.cons q (Vals.set r i t)
theorem Vals.append:∀{xs ys:List V} {us ws:List Value},Vals xs us->Vals ys ws->Vals (xs++ys) (us++ws)
 | _,_,_,_,.nil,s=>s
 | _,_,_,_,.cons r t,s=>.cons r (Vals.append t s)
theorem Vals.take:∀{xs:List V} {us:List Value} (n:Nat),Vals xs us->Vals (xs.take n) (us.take n)
 | _,_,0,_=>.nil
 | _,_,_+1,.nil=>.nil
 | _,_,n+1,.cons r t=>.cons r (Vals.take n t)
theorem Vals.drop:∀{xs:List V} {us:List Value} (n:Nat),Vals xs us->Vals (xs.drop n) (us.drop n)
 | _,_,0,r=>r
 | _,_,_+1,.nil=>.nil
 | _,_,n+1,.cons _ t=>Vals.drop n t
noncomputable def mL:Option V->Option Value->Prop
 | some v,some u=>RelV v u
 | none,none=>True
 | _,_=>False
noncomputable def KV {κ:Type}:List (κ×V)->List (κ×Value)->Prop:=Paired fun(p:κ×V) (q:κ×Value)=>p.1=q.1/\RelV p.2 q.2
noncomputable def kV:Key->V
 | .inl i=>.int i
 | .inr x=>.str x
inductive HO where
 | lst (xs:List V)
 | tup (xs:List V)
 | dK (kvs:List (Key×V)) | dT (kvs:List (List Key×V))
 | set (S:Int->Bool) (n:Nat)
 | ins (C dx:Addr) (fs:List (Str×V))
 | own (x:Addr)
 | xd (fs:List (Str×V))
 | met (f x:Addr)
 | BK (lo hi:Int)
 | ig (o:Obj) (u:HO)
 | nO (ps:Array Value)
 | ext (φ:Heap->Prop)
noncomputable abbrev Hp:=Addr->Option HO
noncomputable def upd (H:Hp) (a:Addr) (o:HO):Hp:=fun b=>if b=a then some o else H b
theorem aU {H:Hp} {a:Addr} {o:HO}:upd H a o a=some o:=by unfold upd; rw[if_pos rfl]
theorem az {H:Hp} {a b:Addr} {o:HO} (h:b≠a):upd H a o b=H b:=by unfold upd; rw[if_neg h]
theorem Pf {H:Hp} {a b:Addr} {o u:HO} (h:H a=some o) (h':H b=some u) (d:o≠u):a≠b:=by
 intro e; subst e; rw[h] at h'; exact d (Option.some.inj h')
theorem bf {H:Hp} {a b:Addr} {o:HO} (h:H a=some o) (h':H b=none):a≠b:=by
 intro e; subst e; rw[h] at h'; cases h'
section
variable (P:Program) (w:World)
noncomputable def dt (H:Hp) (h:Heap) (a:Addr):HO->Prop
 | .lst xs=>xs.length≤sizeLine/\∃(bg:List Value) (n:Nat),Vals xs bg/\h.get? a=some { cls:=.type "list",data:=.seq bg.toArray n }
 | .tup xs=>xs.length≤sizeLine/\∃bg:List Value,Vals xs bg/\IsTup h a bg.toArray
 | .dK kvs=>kvs.length≤sizeLine/\(a == sysModules)=false/\∃vs,KV kvs vs/\h.DictOf (cf P w) a vs
 | .dT kvs=>kvs.length≤sizeLine/\(a == sysModules)=false/\∃xs:List (List Key×Addr×Value),
   Paired (fun(p:List Key×V) (q:List Key×Addr×Value)=>p.1=q.1/\H q.2.1=some (.tup (p.1.map kV))/\RelV p.2 q.2.2) kvs xs ∧
   ∃o es ep,h.get? a=some o/\o.ExactDict/\o.data=.dict es ep/\es.toList=xs.map (entryOfKey (tupleKind (cf P w)))/\(xs.map (·.1)).Nodup
 | .set S n=>h.SetOf (intKind P w) a S n
 | .ins C dx fs=>H dx=some (.own a)/\fs.length≤1000/\dx≠a/\h.get? a=some (PySem.W.instObj C dx) ∧
   ∃mA,h.Ns1 dx mA/\(∀f,mL (fs.lookup f) (mA f))/\PySem.Within mA (fs.map (·.1))
 | .own _=>∃o,h.get? a=some o
 | .xd fs=>∃mA,h.Ns1 a mA/\∀f,mL (fs.lookup f) (mA f)
 | .BK lo hi=>∃t u v,h.get? a=some { cls:=.type "range",data:=.fields #[.int lo t,.int hi u,.int 1 v] }
 | .ig o u=>h.get? a=some o/\dt H h a u
 | .nO ps=>h.get? a=some { cls:=.none,data:=.fields ps }
 | .met f x=>h.get? a=some (PySem.W.methodObj (.ref f) (.ref x))
 | .ext φ=>φ h/\(∃o,h.get? a=some o)/\∀h1 h2:Heap,φ h1->(∀o,h1.get? a=some o->h2.get? a=some o)->φ h2
noncomputable def mM (H:Hp) (h:Heap):Prop:=∀a o,H a=some o->dt P w H h a o
end
section
variable {P:Program} {w:World} {H H':Hp} {h h':Heap} {a:Addr} {o:HO}
theorem dt.lt (x:dt P w H h a o):a<h.objs.size:=by
 cases o with
 | lst xs=>obtain⟨_,_,_,_,e⟩:=x; exact Heap.lt_size e
 | tup xs=>obtain⟨_,_,_,p⟩:=x; exact p.lt
 | dK kvs=>obtain⟨_,_,_,_,o,_,_,e,_⟩:=x; exact Heap.lt_size e
 | dT kvs=>obtain⟨_,_,_,_,o,_,_,e,_⟩:=x; exact Heap.lt_size e
 | set S n=>obtain⟨o,_,_,_,e,_⟩:=x; exact Heap.lt_size e
 | ins C dx fs=>obtain⟨_,_,_,e,_⟩:=x; exact Heap.lt_size e
 | own y=>obtain⟨_,e⟩:=x; exact Heap.lt_size e
 | xd fs=>obtain⟨_,⟨_,_,_,e,_⟩,_⟩:=x; exact Heap.lt_size e
 | BK lo hi=>obtain⟨_,_,_,e⟩:=x; exact Heap.lt_size e
 | ig ob u=>obtain⟨e,_⟩:=x; exact Heap.lt_size e
 | nO ps=>exact Heap.lt_size (show h.get? a=some _ from x)
 | met f y=>exact Heap.lt_size (show h.get? a=some _ from x)
 | ext φ=>obtain⟨_,⟨_,e⟩,_⟩:=x; exact Heap.lt_size e
theorem Paired.Gq {α β:Type} {F G:α->β->Prop}:∀{l₁:List α} {l₂:List β},Paired F l₁ l₂->(∀a b,F a b->G a b)->Paired G l₁ l₂
 | _,_,.nil,_=>.nil
 | _,_,.cons r t,f=>.cons (f _ _ r) (Paired.Gq t f)
theorem dt.p9 (x:dt P w H h a o) (k:∀b u,(b=a\/H b=some (.own a))->h.get? b=some u->h'.get? b=some u)
  (ho:∀b,H b=some (.own a)->H' b=some (.own a)) (ht:∀b xs,H b=some (.tup xs)->H' b=some (.tup xs)):dt P w H' h' a o:=by
 induction o with
 | lst xs=>obtain⟨z,bg,n,r,e⟩:=x; exact⟨z,bg,n,r,k _ _ (.inl rfl) e⟩
 | tup xs=>obtain⟨z,bg,r,ob,e,c⟩:=x; exact⟨z,bg,r,ob,k _ _ (.inl rfl) e,c⟩
 | dK kvs=>obtain⟨z,y,vs,r,ob,es,ep,e,c⟩:=x; exact⟨z,y,vs,r,ob,es,ep,k _ _ (.inl rfl) e,c⟩
 | dT kvs =>
  obtain⟨z,y,xs,r,ob,es,ep,e,c⟩:=x
  exact⟨z,y,xs,Paired.Gq r fun p q z=>⟨z.1,ht _ _ z.2.1,z.2.2⟩,ob,es,ep,k _ _ (.inl rfl) e,c⟩
 | set S n=>obtain⟨ob,es,ep,t,e,c⟩:=x; exact⟨ob,es,ep,t,k _ _ (.inl rfl) e,c⟩
 | ins C dx fs =>
  obtain⟨d,z,ne,e,mA,⟨od,es,ep,e2,c⟩,r⟩:=x
  exact⟨ho _ d,z,ne,k _ _ (.inl rfl) e,mA,⟨od,es,ep,k _ _ (.inr d) e2,c⟩,r⟩
 | own y=>obtain⟨ob,e⟩:=x; exact⟨ob,k _ _ (.inl rfl) e⟩
 | xd fs=>obtain⟨mA,⟨od,es,ep,e,c⟩,r⟩:=x; exact⟨mA,⟨od,es,ep,k _ _ (.inl rfl) e,c⟩,r⟩
 | BK lo hi=>obtain⟨t,u,v,e⟩:=x; exact⟨t,u,v,k _ _ (.inl rfl) e⟩
 | ig ob u ih=>obtain⟨e,q⟩:=x; exact⟨k _ _ (.inl rfl) e,ih q⟩
 | nO ps =>
  have e:h.get? a=some { cls:=.none,data:=.fields ps }:=x
  show h'.get? a=some { cls:=.none,data:=.fields ps }
  exact k a _ (.inl rfl) e
 | met f y =>
  have e:h.get? a=some (PySem.W.methodObj (.ref f) (.ref y)):=x
  show h'.get? a=some (PySem.W.methodObj (.ref f) (.ref y))
  exact k a _ (.inl rfl) e
 | ext φ=>obtain⟨p,⟨o,e⟩,st⟩:=x; exact⟨st _ _ p fun o q=>k _ _ (.inl rfl) q,⟨o,k _ _ (.inl rfl) e⟩,st⟩
theorem mM.lt (x:mM P w H h) (e:H a=some o):a<h.objs.size:=(x a o e).lt
theorem mM.fresh (x:mM P w H h) (e:h.objs.size≤a):H a=none:=by
 cases q:H a with
 | none=>rfl
 | some u=>exact absurd (Nat.lt_of_lt_of_le (x.lt q) e) (Nat.lt_irrefl _)
theorem mM.kept (x:mM P w H h) (k:∀b u,h.get? b=some u->h'.get? b=some u):mM P w H h':=fun a o e =>
 (x a o e).p9 (fun b u _ q=>k b u q) (fun _ q=>q) fun _ _ q=>q
theorem mM.laid (x:mM P w H h) (k:∀b u,h.get? b=some u->h'.get? b=some u) (hp:h.objs.size≤a) (new:dt P w (upd H a o) h' a o):mM P w (upd H a o) h':=fun b u e=>by
 have hn:=x.fresh hp
 by_cases hb:b=a
 ·subst hb; rw[aU] at e; cases e; exact new
 ·rw[az hb] at e
  exact(x b u e).p9 (fun c v _ q=>k c v q) (fun c q=>by rw[az (bf q hn)]; exact q) fun c xs q=>by rw[az (bf q hn)]; exact q
end
noncomputable def Rd (H:Hp) (a:Addr) (u:HO):Prop:=H a=some u\/∃o,H a=some (.ig o u)
theorem Rd.ok {P:Program} {w:World} {H:Hp} {h:Heap} {a:Addr} {u:HO} (r:Rd H a u) (x:mM P w H h):dt P w H h a u:=by
 rcases r with r | ⟨o,r⟩
 ·exact x a u r
 ·obtain⟨_,q⟩:=x a _ r
  exact q
noncomputable def Pg:Option HO->Prop
 | some (.lst _)=>True
 | some (.dK _)=>True
 | some (.dT _)=>True
 | some (.set _ _)=>True
 | some (.ins _ _ _)=>True
 | some (.ext _)=>True
 | _=>False
section
variable {P:Program} {w:World} {H:Hp} {h h':Heap} {x e:Addr} {o':HO}
theorem mM.write (ok:mM P w H h) (mu:Pg (H x)) (he:e=x\/H e=some (.own x)) (k:∀b u,b≠e->h.get? b=some u->h'.get? b=some u) (OS:∃u,h'.get? e=some u)
  (new:dt P w (upd H x o') h' x o'):mM P w (upd H x o') h':=fun b u q=>by
 have Ph:∀c y,H c=some (.own y)->c≠x:=fun c y r z=>by subst z; rw[r] at mu; exact mu
 have SW:∀c xs,H c=some (.tup xs)->c≠x:=fun c xs r z=>by subst z; rw[r] at mu; exact mu
 by_cases hb:b=x
 ·subst hb; rw[aU] at q; cases q; exact new
 ·rw[az hb] at q
  by_cases JK:b=e
  ·have q':H b=some (.own x):=by
    rcases he with z | z
    ·exact absurd (JK.trans z) hb
    ·rw[JK]; exact z
   rw[q] at q'; cases q'
   obtain⟨v,hv⟩:=OS
   exact⟨v,by rw[JK]; exact hv⟩
  ·refine(ok b u q).p9 (fun c v hc r=>k c v ?_ r) (fun c r=>by rw[az (Ph c b r)]; exact r) fun c xs r=>by rw[az (SW c xs r)]; exact r
   rcases hc with rfl | hc
   ·exact JK
   ·rintro rfl
    rcases he with z | z
    ·exact Ph c b hc z
    ·rw[hc] at z; cases z; exact hb rfl
end
structure Un (fs ex:List Addr) (H H':Hp) (h h':Heap):Prop where
 keep:∀b o,h.get? b=some o->H b=none->b∉fs->b∉ex->h'.get? b=some o
 slot:∀b o,h.get? b=some o->H b=none->b∈fs->b∉ex->∃sl,h'.get? b=some { o with slots:=sl }
 free:∀b o,h.get? b=some o->H b=none->b∉ex->H' b=none
 there:∀b o,h.get? b=some o->b∉ex->∃o',h'.get? b=some o'
 lr:∀b xs,H b=some (.tup xs)->H' b=some (.tup xs)
 j8:∀b o u,H b=some (.ig o u)->H' b=some (.ig o u)
 lu:∀b ps,H b=some (.nO ps)->∃more,H' b=some (.nO (ps++more))
section
variable {fs Gb ex Zj:List Addr} {H H1 H2:Hp} {h h1 h2 h':Heap} {a x e:Addr} {o:HO}
theorem Un.any (u:Un fs ex H H1 h h1) {b:Addr} {ob:Obj} (q:h.get? b=some ob) (n:H b=none) (hx:b∉ex):∃sl,h1.get? b=some { ob with slots:=sl }:=by
 by_cases hb:b∈fs
 ·exact u.slot b ob q n hb hx
 ·exact⟨ob.slots,u.keep b ob q n hb hx⟩
theorem Un.trans (a:Un fs ex H H1 h h1) (b:Un fs ex H1 H2 h1 h2):Un fs ex H H2 h h2 where
 keep:=fun c ob q n hc hx=>b.keep c ob (a.keep c ob q n hc hx) (a.free c ob q n hx) hc hx
 slot:=fun c ob q n hc hx=>by
  obtain⟨sl,e1⟩:=a.slot c ob q n hc hx
  obtain⟨Gd,e2⟩:=b.slot c _ e1 (a.free c ob q n hx) hc hx
  exact⟨Gd,e2⟩
 free:=fun c ob q n hx=>by
  obtain⟨o',e1⟩:=a.there c ob q hx
  exact b.free c o' e1 (a.free c ob q n hx) hx
 there:=fun c ob q hx=>by
  obtain⟨o',e1⟩:=a.there c ob q hx
  exact b.there c o' e1 hx
 lr:=fun c xs q=>b.lr c xs (a.lr c xs q)
 j8:=fun c ob xs q=>b.j8 c ob xs (a.j8 c ob xs q)
 lu:=fun c ps q=>by
  obtain⟨m1,e1⟩:=a.lu c ps q
  obtain⟨m2,e2⟩:=b.lu c _ e1
  exact⟨m1++m2,by rw[e2,Array.append_assoc]⟩
theorem Un.kept (k:∀b u,h.get? b=some u->h'.get? b=some u):Un fs ex H H h h' :=
 ⟨fun b ob q _ _ _=>k b ob q,fun b ob q _ _ _=>⟨ob.slots,k b ob q⟩,fun _ _ _ n _=>n,fun b ob q _=>⟨ob,k b ob q⟩,fun _ _ q=>q,fun _ _ _ q=>q,fun _ ps q=>⟨#[],by rw[q]; simp⟩⟩
theorem Un.refl:Un fs ex H H h h:=Un.kept fun _ _ q=>q
theorem Un.laid (k:∀b u,h.get? b=some u->h'.get? b=some u) (hp:h.objs.size≤a) (hn:H a=none):Un fs ex H (upd H a o) h h' where
 keep:=fun b u q _ _ _=>k b u q
 slot:=fun b u q _ _ _=>⟨u.slots,k b u q⟩
 free:=fun b u q n _=>by rw[az (Nat.ne_of_lt (Nat.lt_of_lt_of_le (Heap.lt_size q) hp))]; exact n
 there:=fun b u q _=>⟨u,k b u q⟩
 lr:=fun b xs q=>by rw[az (bf q hn)]; exact q
 j8:=fun b u xs q=>by rw[az (bf q hn)]; exact q
 lu:=fun b ps q=>⟨#[],by rw[az (bf q hn),q]; simp⟩
theorem Un.write (mu:Pg (H x)) (he:e=x\/H e=some (.own x)) (k:∀b u,b≠e->h.get? b=some u->h'.get? b=some u) (OS:∃u,h'.get? e=some u):Un fs ex H (upd H x o) h h':=by
 have hx:∀b,H b=none->b≠x:=fun b n z=>by subst z; rw[n] at mu; exact mu
 have hb:∀b,H b=none->b≠e:=fun b n z=>by
  subst z
  rcases he with r | r
  ·exact hx b n r
  ·rw[n] at r; cases r
 have hm:∀b u,H b=some u->¬Pg (some u)->b≠x:=fun b u q nm z=>by subst z; rw[q] at mu; exact nm mu
 refine⟨fun b u q n _ _=>k b u (hb b n) q,fun b u q n _ _=>⟨u.slots,k b u (hb b n) q⟩,fun b u q n _=>by rw[az (hx b n)]; exact n,fun b u q _=>?_,
  fun b xs q=>by rw[az (hm b _ q fun z=>z)]; exact q,fun b u xs q=>by rw[az (hm b _ q fun z=>z)]; exact q,fun b ps q=>⟨#[],by rw[az (hm b _ q fun z=>z),q]; simp⟩⟩
 by_cases JK:b=e
 ·subst JK; exact OS
 ·exact⟨u,k b u JK q⟩
end
noncomputable def LX (h:Heap) (H:Hp):List Addr:=(List.range h.objs.size).filter fun a=>(H a).isSome
noncomputable def ya (h:Heap) (H:Hp):Heap:=PySem.W.hideAll h (LX h H)
theorem Eg (h:Heap) (H:Hp):(ya h H).objs.size=h.objs.size:=PySem.W.hideAll_size _ _
theorem Gr {h:Heap} {H:Hp} {b:Addr} {o:Obj} (e:h.get? b=some o) (n:H b=none):(ya h H).get? b=some o :=
 PySem.W.hideAll_get _ e fun hm=>by
  have q:(H b).isSome=true:=(List.mem_filter.mp hm).2
  rw[n] at q; simp at q
theorem JL {h:Heap} {H:Hp} {b:Addr} {o:Obj} (e:(ya h H).get? b=some o):h.get? b=some o/\H b=none:=by
 have e':h.get? b=some o:=PySem.W.of_hideAll (LX h H) e
 refine⟨e',?_⟩
 cases q:H b with
 | none=>rfl
 | some x =>
  have hm:b∈LX h H:=List.mem_filter.mpr ⟨List.mem_range.mpr (Heap.lt_size e'),by simp[q]⟩
  have z:(ya h H).get? b=none:=PySem.W.hideAll_none (LX h H) hm
  rw[z] at e; cases e
noncomputable def JM (g h:Heap) (L:Addr):List (Addr×Obj):=(List.range h.objs.size).filterMap fun a=>if a=L\/(g.get? a).isSome=true then none else(h.get? a).map fun o=>(a,o)
noncomputable def rest (g h:Heap) (L d:Addr):List (Addr×Obj):=(JM g h L).filter fun p=>decide (p.1≠d)
end L2
namespace L2
open PySem PySem.Spec PyProof.Rows
structure Mod (K:Fg) (mg:Str->Option Value) (base:Heap):Prop where
 OT:K.In base
 glob:base.Ns mainGlobals mg
 blt:∃mb,base.Ns builtinsNs mb/\∀x:Str,x ≠ "__name__" -> mb x=bootBuiltins x
 nolimit:base.NoLimit
structure Cx where
 prog:Program
 w:World
 K:Fg
 mg:Str->Option Value
 base:Heap
 A:Around
 N:List Str
 s₀:Shared
 H₀:Hp
 env:Env
 outer:List Env
 stack:List Env
 ex:List Addr
 fn:Str->Bool
 calm:Bool
 pn:List (Addr×Obj)
 xe:Value->Shared->Prop
noncomputable def nG (l:List Env):List Addr:=l.filterMap (·.frame)
noncomputable abbrev Cx.fs (X:Cx):List Addr:=nG X.outer
noncomputable def SX (sc:Scope) (x:Str):Prop:=sc.names.lookup x=some .local \/ sc.names.lookup x=some .cell\/sc.names.lookup x=some .free
noncomputable def Loc (sc:Scope) (x:Str):Prop:=sc.names.lookup x=some .local \/ sc.names.lookup x=some .cell
noncomputable def Look (env:Env) (h:Heap) (m:Str->Option Value) (x:Str) (u:Value):Prop :=
 (env.kindOf x=some .local /\ m x=some u)\/((env.kindOf x=some .cell\/env.kindOf x=some .free)/\∃c,env.cells.lookup x=some c/\h.IsCell c (some u))
structure Cx.Ok (X:Cx):Prop where
 mod:Mod X.K X.mg X.base
 kind:X.env.scope.kind=.function
 glob:X.env.globals=mainGlobals
 blt:X.env.builtins=builtinsNs
 above:X.s₀.heap.objs.size≤X.env.locals
 inj:∀x y c,X.env.cells.lookup x=some c->X.env.cells.lookup y=some c->x=y
 has:∀x,(X.env.kindOf x=some .cell\/X.env.kindOf x=some .free)->∃c,X.env.cells.lookup x=some c
 Pj:∀x c,X.fn x=true->X.env.cells.lookup x=some c->X.s₀.heap.objs.size≤c
 hd:X.calm=true->X.A.handled=none
 frames:X.A.frames=some X.stack
 RW:X.stack=X.outer\/(X.stack=X.env::X.outer/\X.env.frame=some X.env.locals)
 VQ:∀b∈X.ex,b≠X.env.locals/\∀x c,X.env.cells.lookup x=some c->c≠b
 bs:∀b o,X.base.get? b=some o->X.s₀.heap.get? b=some o/\X.H₀ b=none
 Jy:X.base.objs.size≤X.s₀.heap.objs.size
 Gs:∀b o,X.base.get? b=some o->b∉X.ex
 JN:∀b∈X.ex,b∉X.fs
 tP:X.s₀.heap.FunFrames X.base X.outer
 ME:∀b∈X.fs,X.H₀ b=none
structure Inv (X:Cx) (pins:List (Addr×Obj)) (σ:List (Option V)) (H:Hp) (s:Shared):Prop where
 ok:X.Ok
 os:s.os=X.s₀.os
 bare:AllBare s.gens
 base:Un X.fs X.ex X.H₀ H X.s₀.heap s.heap
 loc:∃m,s.heap.Ns X.env.locals m/\∀(i:Nat) (x:Str) (v:V),X.N[i]? = some x->σ[i]? = some (some v)->SX X.env.scope x->∃u,RelV v u/\Look X.env s.heap m x u
 cell:∀x c,X.env.cells.lookup x=some c->∃v,s.heap.IsCell c v
 free:H X.env.locals=none
 j0:∀x c,X.env.cells.lookup x=some c->H c=none
 pin:∀p∈X.pn++pins,s.heap.get? p.1=some p.2/\H p.1=none/\p.1≠X.env.locals/\p.1∉X.fs/\∀v,p.2.data≠.cell v
 bO:mM X.prog X.w H s.heap
 len:σ.length=X.N.length
section
variable {X:Cx} {pins:List (Addr×Obj)} {σ:List (Option V)} {H H':Hp} {s:Shared} {h':Heap}
theorem Cx.Ok.SY (ok:X.Ok) {b:Addr} {o:Obj} (e:X.base.get? b=some o):b∉X.fs:=fun hb=>by
 have:=(ok.tP.mem hb).1
 rw[e] at this; cases this
theorem Inv.bs (I:Inv X pins σ H s):∀b o,X.base.get? b=some o->s.heap.get? b=some o/\H b=none:=fun b o e =>
 ⟨I.base.keep b o (I.ok.bs b o e).1 (I.ok.bs b o e).2 (I.ok.SY e) (I.ok.Gs b o e),I.base.free b o (I.ok.bs b o e).1 (I.ok.bs b o e).2 (I.ok.Gs b o e)⟩
theorem Inv.bk (I:Inv X pins σ H s):∀b o,X.base.get? b=some o->s.heap.get? b=some o:=fun b o e=>(I.bs b o e).1
theorem Inv.mod (I:Inv X pins σ H s):Mod X.K X.mg X.base:=I.ok.mod
theorem Inv.qa (I:Inv X pins σ H s):X.K.In s.heap:=I.ok.mod.OT.keeps I.bk
theorem Inv.fr (I:Inv X pins σ H s):∃m,Fr X.base X.env.locals s.heap m :=
 let⟨m,hn,_⟩:=I.loc
 ⟨m,hn,I.bk,Nat.le_trans I.ok.Jy I.ok.above⟩
theorem Inv.lt (I:Inv X pins σ H s):X.env.locals<s.heap.objs.size:=let⟨_,hn,_⟩:=I.loc; hn.lt
theorem Inv.sz (I:Inv X pins σ H s):X.s₀.heap.objs.size≤s.heap.objs.size:=Nat.le_trans I.ok.above (Nat.le_of_lt I.lt)
theorem Inv.SZ (I:Inv X pins σ H s) {a:Addr} (h:s.heap.objs.size≤a):a∉X.fs:=fun hb=>by
 obtain⟨_,o,ho,_⟩:=I.ok.tP.mem hb
 exact absurd (Nat.lt_of_lt_of_le (Heap.lt_size ho) (Nat.le_trans I.sz h)) (Nat.lt_irrefl _)
theorem Inv.JO (I:Inv X pins σ H s):∀x c,X.env.cells.lookup x=some c->c≠X.env.locals:=fun x c e z=>by
 obtain⟨v,o,ho,hd⟩:=I.cell x c e
 obtain⟨m,⟨o',es,ep,C1,S8,_⟩,_⟩:=I.loc
 rw[z,C1] at ho; cases ho; rw[S8] at hd; cases hd
theorem Inv.tP (I:Inv X pins σ H s):s.heap.FunFrames X.base X.outer:=by
 have all:∀(l:List Env),(∀b∈nG l,b∈X.fs)->X.s₀.heap.FunFrames X.base l->s.heap.FunFrames X.base l:=by
  intro l
  induction l with
  | nil=>intro _ _; trivial
  | cons env r ih =>
   intro hs hl
   obtain⟨hk,⟨L,o,hf,hn,ho,hd⟩,hr⟩:=hl
   have hL:L∈X.fs:=hs L (by unfold nG; rw[List.filterMap_cons,hf]; exact List.mem_cons_self)
   obtain⟨sl,e⟩:=I.base.slot L o ho (I.ok.ME L hL) hL fun z=>I.ok.JN L z hL
   exact⟨hk,⟨L,_,hf,hn,e,hd⟩,ih (fun b hb=>hs b (by unfold nG; rw[List.filterMap_cons,hf]; exact List.mem_cons_of_mem _ hb)) hr⟩
 exact all X.outer (fun _ hb=>hb) I.ok.tP
theorem Inv.stack (I:Inv X pins σ H s):s.heap.FunFrames X.base X.stack:=by
 rcases I.ok.RW with e | ⟨e,hf⟩
 ·rw[e]; exact I.tP
 ·rw[e]
  obtain⟨m,hn,_⟩:=I.loc
  refine .cons (by rw[I.ok.kind]; decide) hf hn ?_ I.tP
  exact Heap.get?_none_of_le (Nat.le_trans I.ok.Jy I.ok.above)
theorem Inv.yb (I:Inv X pins σ H s):∀b∈nG X.stack,b∈X.env.locals::X.fs:=fun b hb=>by
 rcases I.ok.RW with e | ⟨e,hf⟩
 ·rw[e] at hb; exact List.mem_cons_of_mem _ hb
 ·rw[e] at hb
  unfold nG at hb
  rw[List.filterMap_cons,hf] at hb
  exact hb
theorem Inv.yc (I:Inv X pins σ H s):∀b∈nG X.stack,H b=none:=fun b hb=>by
 rcases List.mem_cons.mp (I.yb b hb) with e | hb
 ·rw[e]; exact I.free
 ·obtain⟨_,o,ho,_⟩:=I.ok.tP.mem hb
  exact I.base.free b o ho (I.ok.ME b hb) fun z=>I.ok.JN b z hb
theorem Inv.step {g':Array GenState} {t':Nat} {d':Drawn} {ch:List Addr} (I:Inv X pins σ H s)
  (Jz:∀b∈ch,(b∈X.ex\/X.s₀.heap.objs.size≤b)/\b≠X.env.locals/\(∀x c,X.env.cells.lookup x=some c->c≠b)/\∀p∈X.pn++pins,p.1≠b)
  (keep:∀b o,b≠X.env.locals->b∉X.fs->b∉ch->s.heap.get? b=some o->H b=none->h'.get? b=some o)
  (slot:∀b o,b≠X.env.locals->b∈X.fs->b∉ch->s.heap.get? b=some o->H b=none->∃sl,h'.get? b=some { o with slots:=sl }) (free:∀b o,b∉ch->s.heap.get? b=some o->H b=none->H' b=none)
  (there:∀b o,b∉ch->s.heap.get? b=some o->∃o',h'.get? b=some o')
  (lr:∀b xs,H b=some (.tup xs)->H' b=some (.tup xs)) (j8:∀b o u,H b=some (.ig o u)->H' b=some (.ig o u)) (lu:∀b ps,H b=some (.nO ps)->∃more,H' b=some (.nO (ps++more)))
  (ns:∀m,s.heap.Ns X.env.locals m->h'.Ns X.env.locals m) (bO:mM X.prog X.w H' h') (hg:AllBare g') :
  Inv X pins σ H' { s with heap:=h',gens:=g',drawn:=d',toks:=t' }:=by
 have VR:∀b o,X.s₀.heap.get? b=some o->b≠X.env.locals:=fun b o e=>Nat.ne_of_lt (Nat.lt_of_lt_of_le (Heap.lt_size e) I.ok.above)
 have RX:∀b o,X.s₀.heap.get? b=some o->b∉X.ex->b∉ch:=fun b o e hx hb=>by
  rcases(Jz b hb).1 with z | z
  ·exact hx z
  ·exact absurd (Nat.lt_of_lt_of_le (Heap.lt_size e) z) (Nat.lt_irrefl _)
 have cellK:∀x c,X.env.cells.lookup x=some c->∀v,s.heap.IsCell c v->h'.IsCell c v:=fun x c e v ⟨o,ho,hd⟩=>by
  have Pm:c∉ch:=fun z=>(Jz c z).2.2.1 x c e rfl
  by_cases hc:c∈X.fs
  ·obtain⟨sl,q⟩:=slot c o (I.JO x c e) hc Pm ho (I.j0 x c e)
   exact⟨_,q,hd⟩
  ·exact⟨o,keep c o (I.JO x c e) hc Pm ho (I.j0 x c e),hd⟩
 refine⟨I.ok,I.os,hg,⟨fun b o e n hb hx=>?_,fun b o e n hb hx=>?_,fun b o e n hx=>?_,fun b o e hx=>?_,fun b xs e=>lr b xs (I.base.lr b xs e),fun b o xs e=>j8 b o xs (I.base.j8 b o xs e),fun b ps e=>?_⟩,?_,fun x c e=>?_,?_,fun x c e=>?_,fun p hp=>?_,bO,I.len⟩
 ·exact keep b o (VR b o e) hb (RX b o e hx) (I.base.keep b o e n hb hx) (I.base.free b o e n hx)
 ·obtain⟨sl,e1⟩:=I.base.slot b o e n hb hx
  obtain⟨Gd,e2⟩:=slot b _ (VR b o e) hb (RX b o e hx) e1 (I.base.free b o e n hx)
  exact⟨Gd,e2⟩
 ·obtain⟨o',e1⟩:=I.base.there b o e hx
  exact free b o' (RX b o e hx) e1 (I.base.free b o e n hx)
 ·obtain⟨o',e1⟩:=I.base.there b o e hx
  exact there b o' (RX b o e hx) e1
 ·obtain⟨m1,e1⟩:=I.base.lu b ps e
  obtain⟨m2,e2⟩:=lu b _ e1
  exact⟨m1++m2,by rw[e2,Array.append_assoc]⟩
 ·obtain⟨m,hn,hl⟩:=I.loc
  refine⟨m,ns m hn,fun i x v e1 e2 e3=>?_⟩
  obtain⟨u,r,l⟩:=hl i x v e1 e2 e3
  refine⟨u,r,?_⟩
  rcases l with l | ⟨k,c,e,z⟩
  ·exact .inl l
  ·exact .inr ⟨k,c,e,cellK x c e _ z⟩
 ·obtain⟨v,z⟩:=I.cell x c e
  exact⟨v,cellK x c e v z⟩
 ·obtain⟨m,⟨o,_,_,ho,_⟩,_⟩:=I.loc
  exact free _ o (fun z=>(Jz _ z).2.1 rfl) ho I.free
 ·obtain⟨v,o,ho,hd⟩:=I.cell x c e
  exact free c o (fun z=>(Jz c z).2.2.1 x c e rfl) ho (I.j0 x c e)
 ·obtain⟨e,n,ne,nf,d⟩:=I.pin p hp
  have Pm:p.1∉ch:=fun z=>(Jz p.1 z).2.2.2 p hp rfl
  exact⟨keep p.1 p.2 ne nf Pm e n,free p.1 p.2 Pm e n,ne,nf,d⟩
theorem Inv.un {t':Nat} (I:Inv X pins σ H s) (u:Un X.fs [] H H' s.heap h') (bO:mM X.prog X.w H' h'):Inv X pins σ H' { s with heap:=h',toks:=t' }:=by
 obtain⟨m,⟨o,es,ep,ho,r⟩,_⟩:=id I.loc
 obtain⟨sl,hL⟩:=u.any ho I.free (by simp)
 exact I.step (g':=s.gens) (d':=s.drawn) (ch:=[]) (fun _ z=>nomatch z) (fun b o _ hb _ e n=>u.keep b o e n hb (by simp)) (fun b o _ hb _ e n=>u.slot b o e n hb (by simp)) (fun b o _ e n=>u.free b o e n (by simp)) (fun b o _ e=>u.there b o e (by simp)) u.lr u.j8 u.lu (fun m' hm=>by
  obtain⟨o',RY,RZ,C1,r'⟩:=hm
  rw[ho] at C1; cases C1
  exact⟨_,RY,RZ,hL,r'⟩) bO I.bare
theorem Inv.call {g':Array GenState} {t':Nat} {d':Drawn} {ch:List Addr} (I:Inv X pins σ H s) (u:Un (nG X.stack) ch H H' s.heap h') (bO:mM X.prog X.w H' h') (hg:AllBare g')
  (Jz:∀b∈ch,(b∈X.ex\/X.s₀.heap.objs.size≤b)/\b≠X.env.locals/\(∀x c,X.env.cells.lookup x=some c->c≠b)/\∀p∈X.pn++pins,p.1≠b) :
  Inv X pins σ H' { s with heap:=h',gens:=g',drawn:=d',toks:=t' }:=by
 obtain⟨m,⟨o,es,ep,ho,r⟩,_⟩:=id I.loc
 obtain⟨sl,hL⟩:=u.any ho I.free fun z=>(Jz _ z).2.1 rfl
 exact I.step (ch:=ch) Jz (fun b o hL hb hc e n=>u.keep b o e n (fun z=>(List.mem_cons.mp (I.yb b z)).elim hL hb) hc) (fun b o _ _ hc e n=>u.any e n hc) (fun b o hc e n=>u.free b o e n hc) (fun b o hc e=>u.there b o e hc) u.lr u.j8 u.lu (fun m' hm=>by
  obtain⟨o',RY,RZ,C1,r'⟩:=hm
  rw[ho] at C1; cases C1
  exact⟨_,RY,RZ,hL,r'⟩) bO hg
theorem Inv.turned {t':Nat} {it:Addr} (I:Inv X pins σ H s) (k:∀b o,b≠it->s.heap.get? b=some o->h'.get? b=some o) (hn:H it=none) (hL:it≠X.env.locals)
  (h1:it∈X.ex\/X.s₀.heap.objs.size≤it) (h2:∀x c,X.env.cells.lookup x=some c->c≠it) (h3:∀p∈X.pn++pins,p.1≠it):Inv X pins σ H { s with heap:=h',toks:=t' }:=by
 have LY:∀b u,H b=some u->b≠it:=fun b u e z=>by rw[z,hn] at e; cases e
 refine I.step (g':=s.gens) (d':=s.drawn) (ch:=[it]) (fun b hb=>?_) (fun b o _ _ hc e _=>k b o (fun z=>hc (by simp[z])) e) (fun b o _ _ hc e _=>⟨o.slots,k b o (fun z=>hc (by simp[z])) e⟩) (fun _ _ _ _ n=>n)
  (fun b o hc e=>⟨o,k b o (fun z=>hc (by simp[z])) e⟩) (fun _ _ e=>e) (fun _ _ _ e=>e) (fun b ps e=>⟨#[],by rw[e]; simp⟩) (fun m hm=>?_) (fun b u e=>?_) I.bare
 ·have e:b=it:=by simpa using hb
  subst e
  exact⟨h1,hL,h2,h3⟩
 ·obtain⟨o,es,ep,ho,r⟩:=hm
  exact⟨o,es,ep,k _ o (Ne.symm hL) ho,r⟩
 ·refine(I.bO b u e).p9 (fun c v hc q=>k c v ?_ q) (fun _ q=>q) fun _ _ q=>q
  rcases hc with z | z
  ·rw[z]; exact LY b u e
  ·exact LY c _ z
theorem Inv.tok (I:Inv X pins σ H s) (t:Nat):Inv X pins σ H { s with toks:=t }:=I.un (h':=s.heap) (t':=t) Un.refl I.bO
theorem Inv.kept {t':Nat} (I:Inv X pins σ H s) (k:∀b u,s.heap.get? b=some u->h'.get? b=some u):Inv X pins σ H { s with heap:=h',toks:=t' }:=I.un (Un.kept k) (I.bO.kept k)
theorem Inv.laid {a:Addr} {o:HO} {t':Nat} (I:Inv X pins σ H s) (k:∀b u,s.heap.get? b=some u->h'.get? b=some u) (hp:s.heap.objs.size≤a) (new:dt X.prog X.w (upd H a o) h' a o) :
  Inv X pins σ (upd H a o) { s with heap:=h',toks:=t' }:=I.un (Un.laid k hp (I.bO.fresh hp)) (I.bO.laid k hp new)
theorem Inv.write {x e:Addr} {o:HO} {t':Nat} (I:Inv X pins σ H s) (mu:Pg (H x)) (he:e=x\/H e=some (.own x)) (k:∀b u,b≠e->s.heap.get? b=some u->h'.get? b=some u) (OS:∃u,h'.get? e=some u)
  (new:dt X.prog X.w (upd H x o) h' x o):Inv X pins σ (upd H x o) { s with heap:=h',toks:=t' }:=I.un (Un.write mu he k OS) (I.bO.write mu he k OS new)
theorem Inv.weak {σ':List (Option V)} (I:Inv X pins σ H s) (hl:σ'.length=σ.length) (w:∀(i:Nat) v,σ'[i]? = some (some v)->σ[i]? = some (some v)):Inv X pins σ' H s :=
 ⟨I.ok,I.os,I.bare,I.base,let⟨m,hn,Xa⟩:=I.loc; ⟨m,hn,fun i x v e1 e2 e3=>Xa i x v e1 (w i v e2) e3⟩,I.cell,I.free,I.j0,I.pin,I.bO,hl.trans I.len⟩
theorem Inv.C2 {xq:List (Addr×Obj)} (I:Inv X pins σ H s) (h:∀p∈xq,s.heap.get? p.1=some p.2/\H p.1=none/\p.1≠X.env.locals/\p.1∉X.fs/\∀v,p.2.data≠.cell v):Inv X xq σ H s :=
 ⟨I.ok,I.os,I.bare,I.base,I.loc,I.cell,I.free,I.j0,fun p hp=>(List.mem_append.mp hp).elim (fun z=>I.pin p (List.mem_append_left _ z)) (h p),I.bO,I.len⟩
theorem uR {N:List Str} (hN:N.Nodup) {i j:Nat} {x:Str} (a:N[i]? = some x) (b:N[j]? = some x):i=j:=by
 obtain⟨h1,e1⟩:=List.getElem?_eq_some_iff.mp a
 obtain⟨h2,e2⟩:=List.getElem?_eq_some_iff.mp b
 exact(List.getElem_inj hN).mp (e1.trans e2.symm)
theorem xr {M:Model} {A:Around} {E:Value->Shared->Prop} {i:Nat} {x:Str} {v:V} {u:Value} {Q:Unit->Shared->Prop} (I:Inv X pins σ H s) (hN:X.N.Nodup) (hi:X.N[i]? = some x) (hx:Loc X.env.scope x) (r:RelV v u)
  (h:∀s',Inv X pins (σ.set i (some v)) H s'->(∃a,Heap.SameBut a s.heap s'.heap/\(a=X.env.locals\/X.env.cells.lookup x=some a))->Q () s') (hf:X.fn x=true\/X.env.scope.names.lookup x=some .local := by first | exact .inl rfl | exact .inr rfl | assumption):wpAny M A (storeName X.env x u) Q E s:=by
 obtain⟨m,hn,hl⟩:=id I.loc
 have Ta:(X.env.scope.kind == .class || (X.env.scope.kind == .module && X.env.locals != X.env.globals))=false:=by rw[I.ok.kind]; rfl
 have hiσ:i < σ.length:=by rw[I.len]; exact(List.getElem?_eq_some_iff.mp hi).1
 have JO:=I.JO
 have tracked:∀{a:Addr} {h':Heap},(∃o,s.heap.get? a=some o/\H a=none)->Heap.SameBut a s.heap h'->mM X.prog X.w H h':=fun {a h'} ha hs b ob e=>by
  obtain⟨_,_,LZ⟩:=ha
  refine(I.bO b ob e).p9 (fun c w' hc q=>(hs.2 c ?_).trans q) (fun _ q=>q) fun _ _ q=>q
  rintro rfl
  rcases hc with rfl | hc
  ·rw[LZ] at e; cases e
  ·rw[LZ] at hc; cases hc
 rcases hx with hk | hk
 ·refine wpAny_storeName_local hk hn (fun h' R0 hs=>?_) Ta
  obtain⟨oL,_,_,Xb,_⟩:=id hn
  refine h _ ⟨I.ok,I.os,I.bare,⟨fun b o e n hb hx=>?_,fun b o e n hb hx=>?_,I.base.free,fun b o e hx=>?_,I.base.lr,I.base.j8,I.base.lu⟩,⟨_,R0,fun j y v' e1 e2 e3=>?_⟩,fun y c e=>?_,I.free,I.j0,fun p hp=>?_,tracked ⟨oL,Xb,I.free⟩ hs,by simpa using I.len⟩ ⟨_,hs,.inl rfl⟩
  ·exact(hs.2 b (Nat.ne_of_lt (Nat.lt_of_lt_of_le (Heap.lt_size e) I.ok.above))).trans (I.base.keep b o e n hb hx)
  ·obtain⟨sl,e1⟩:=I.base.slot b o e n hb hx
   exact⟨sl,(hs.2 b (Nat.ne_of_lt (Nat.lt_of_lt_of_le (Heap.lt_size e) I.ok.above))).trans e1⟩
  ·obtain⟨o',e1⟩:=I.base.there b o e hx
   exact⟨o',(hs.2 b (Nat.ne_of_lt (Nat.lt_of_lt_of_le (Heap.lt_size e) I.ok.above))).trans e1⟩
  ·by_cases hj:j=i
   ·subst hj
    rw[hi] at e1; cases e1
    rw[List.getElem?_set_self hiσ] at e2
    cases e2
    exact⟨u,r,.inl ⟨hk,by simp⟩⟩
   ·rw[List.getElem?_set_ne (Ne.symm hj)] at e2
    obtain⟨u',r',q⟩:=hl j y v' e1 e2 e3
    refine⟨u',r',?_⟩
    rcases q with⟨k,e⟩ | ⟨k,c,e,z⟩
    ·refine .inl ⟨k,?_⟩
     have:y≠x:=fun e=>hj (uR hN e1 (e ▸ hi))
     simp[this,e]
    ·exact .inr ⟨k,c,e,z.sameBut hs (JO y c e)⟩
  ·obtain⟨w',z⟩:=I.cell y c e
   exact⟨w',z.sameBut hs (JO y c e)⟩
  ·obtain⟨e,n,ne,nf,d⟩:=I.pin p hp
   exact⟨(hs.2 p.1 ne).trans e,n,ne,nf,d⟩
 ·have Tb:X.fn x=true:=by
   rcases hf with z | z
   ·exact z
   ·rw[z] at hk; cases hk
  obtain⟨c,hc⟩:=I.ok.has x (.inl hk)
  obtain⟨w',z⟩:=I.cell x c hc
  refine wpAny_storeName_cell I.ok.kind hk hc z (fun h' wG hs=>?_)
  obtain⟨oc,VU,Tc⟩:=id z
  refine h { s with heap:=h' } ⟨I.ok,I.os,I.bare,⟨fun b o e n hb hx=>?_,fun b o e n hb hx=>?_,I.base.free,fun b o e hx=>?_,I.base.lr,I.base.j8,I.base.lu⟩,⟨m,hn.sameBut hs (Ne.symm (JO x c hc)),fun j y v' e1 e2 e3=>?_⟩,fun y c' e=>?_,I.free,I.j0,fun p hp=>?_,tracked ⟨oc,VU,I.j0 x c hc⟩ hs,by simpa using I.len⟩ ⟨c,hs,.inr hc⟩
  ·exact(hs.2 b (Nat.ne_of_lt (Nat.lt_of_lt_of_le (Heap.lt_size e) (I.ok.Pj x c Tb hc)))).trans (I.base.keep b o e n hb hx)
  ·obtain⟨sl,e1⟩:=I.base.slot b o e n hb hx
   exact⟨sl,(hs.2 b (Nat.ne_of_lt (Nat.lt_of_lt_of_le (Heap.lt_size e) (I.ok.Pj x c Tb hc)))).trans e1⟩
  ·obtain⟨o',e1⟩:=I.base.there b o e hx
   exact⟨o',(hs.2 b (Nat.ne_of_lt (Nat.lt_of_lt_of_le (Heap.lt_size e) (I.ok.Pj x c Tb hc)))).trans e1⟩
  ·by_cases hj:j=i
   ·subst hj
    rw[hi] at e1; cases e1
    rw[List.getElem?_set_self hiσ] at e2
    cases e2
    exact⟨u,r,.inr ⟨.inl hk,c,hc,wG⟩⟩
   ·rw[List.getElem?_set_ne (Ne.symm hj)] at e2
    obtain⟨u',r',q⟩:=hl j y v' e1 e2 e3
    refine⟨u',r',?_⟩
    rcases q with q | ⟨k,c',e,z'⟩
    ·exact .inl q
    ·refine .inr ⟨k,c',e,z'.sameBut hs ?_⟩
     rintro rfl
     exact hj (uR hN e1 (I.ok.inj _ _ _ e hc ▸ hi))
  ·by_cases Pn:c'=c
   ·subst Pn; exact⟨_,wG⟩
   ·obtain⟨w2,z2⟩:=I.cell y c' e
    exact⟨w2,z2.sameBut hs Pn⟩
  ·obtain⟨e,n,ne,nf,d⟩:=I.pin p hp
   refine⟨(hs.2 p.1 ?_).trans e,n,ne,nf,d⟩
   intro q
   rw[q,VU] at e
   have q':oc=p.2:=Option.some.inj e
   exact d w' (by rw[← q']; exact Tc)
theorem qb {M:Model} {A:Around} {E:Value->Shared->Prop} {i:Nat} {x:Str} {v:V} {u:Value} {Q:Unit->Shared->Prop} (I:Inv X pins σ H s) (hN:X.N.Nodup) (hi:X.N[i]? = some x) (hx:Loc X.env.scope x) (r:RelV v u)
  (h:∀s',Inv X pins (σ.set i (some v)) H s'->Q () s') (hf:X.fn x=true\/X.env.scope.names.lookup x=some .local := by first | exact .inl rfl | exact .inr rfl | assumption):wpAny M A (storeName X.env x u) Q E s :=
 xr I hN hi hx r (fun s' I' _=>h s' I') hf
theorem Inv.L4 {s':Shared} {ch:List Addr} (I:Inv X pins σ H s) (ho:s'.os=s.os) (u:Un (nG X.stack) ch H H' s.heap s'.heap) (bO:mM X.prog X.w H' s'.heap) (hg:AllBare s'.gens)
  (Jz:∀b∈ch,(b∈X.ex\/X.s₀.heap.objs.size≤b)/\b≠X.env.locals/\(∀x c,X.env.cells.lookup x=some c->c≠b)/\∀p∈X.pn++pins,p.1≠b):Inv X pins σ H' s':=by
 obtain⟨h',g',d',t',o'⟩:=s'
 have e:o'=s.os:=ho
 subst e
 exact I.call (g':=g') (t':=t') (d':=d') u bO hg Jz
end
noncomputable abbrev XK:=Value->Option Addr->Hp->Prop
noncomputable abbrev St:=List (Option V)
noncomputable abbrev VK:=V->Hp->Prop
noncomputable abbrev TE:=St->Hp->VK->Prop
noncomputable abbrev TT:=St->Hp->(Bool->Hp->Prop)->Prop
noncomputable abbrev TA:=St->Hp->(List V->Hp->Prop)->Prop
structure Ends where
 nx:St->Hp->Prop
 rt:VK
 bk:St->Hp->Prop:=fun _ _=>False
 ct:St->Hp->Prop:=fun _ _=>False
noncomputable abbrev TS:=Ends->St->Hp->Prop
noncomputable def EP (X:Cx) (pins:List (Addr×Obj)) (σ:St) (Q:VK) (u:Value) (s':Shared):Prop:=∃v H',Inv X pins σ H' s'/\RelV v u/\Q v H'
noncomputable def TP (X:Cx) (pins:List (Addr×Obj)) (σ:St) (Q:Bool->Hp->Prop) (b:Bool) (s':Shared):Prop:=∃H',Inv X pins σ H' s'/\Q b H'
noncomputable def AP (X:Cx) (pins:List (Addr×Obj)) (σ:St) (Q:List V->Hp->Prop) (us:List Value) (s':Shared):Prop:=∃vs H',Inv X pins σ H' s'/\Vals vs us/\Q vs H'
noncomputable def SP (X:Cx) (pins:List (Addr×Obj)) (D:Ends) (f:Flow) (s':Shared):Prop :=
 match f with
 | .next=>∃ σ' H',Inv X pins σ' H' s'/\D.nx σ' H'
 | .brk=>∃ σ' H',Inv X pins σ' H' s'/\D.bk σ' H'
 | .cont=>∃ σ' H',Inv X pins σ' H' s'/\D.ct σ' H'
 | .ret u=>∃v σ' H',Inv X pins σ' H' s'/\RelV v u/\D.rt v H'
noncomputable def PE (X:Cx) (e:Expr) (t:TE):Prop :=
 ∀(pins:List (Addr×Obj)) (s:Shared) (σ:St) (H:Hp) (Q:VK),Inv X pins σ H s->t σ H Q->wpAny (model X.prog X.w) X.A (eval e X.env) (EP X pins σ Q) X.xe s
noncomputable def PT (X:Cx) (e:Expr) (t:TT):Prop :=
 ∀(pins:List (Addr×Obj)) (s:Shared) (σ:St) (H:Hp) (Q:Bool->Hp->Prop),Inv X pins σ H s->t σ H Q->wpAny (model X.prog X.w) X.A (isTrue e X.env (eval e X.env)) (TP X pins σ Q) X.xe s
noncomputable def PW (X:Cx) (e:Expr) (t:TT):Prop :=
 ∀(whole:Sem Value) (pins:List (Addr×Obj)) (s:Shared) (σ:St) (H:Hp) (Q:Bool->Hp->Prop),Inv X pins σ H s->t σ H Q->wpAny (model X.prog X.w) X.A (isTrue e X.env whole) (TP X pins σ Q) X.xe s
theorem PW.pt {X:Cx} {e:Expr} {t:TT} (h:PW X e t):PT X e t:=h _
noncomputable def PA (X:Cx) (es:List Expr) (t:TA):Prop :=
 ∀(pos:Pos) (pins:List (Addr×Obj)) (s:Shared) (σ:St) (H:Hp) (Q:List V->Hp->Prop),Inv X pins σ H s->t σ H Q->wpAny (model X.prog X.w) X.A (spliced (backTo pos (starEach es X.env))) (AP X pins σ Q) X.xe s
noncomputable def PS (X:Cx) (st:Stmt) (t:TS):Prop :=
 ∀(pins:List (Addr×Obj)) (s:Shared) (σ:St) (H:Hp) (D:Ends),Inv X pins σ H s->t D σ H->wpAny (model X.prog X.w) X.A (exec st X.env) (SP X pins D) X.xe s
noncomputable def BQ (X:Cx) (st:List Stmt) (t:TS):Prop :=
 ∀(pins:List (Addr×Obj)) (s:Shared) (σ:St) (H:Hp) (D:Ends),Inv X pins σ H s->t D σ H->wpAny (model X.prog X.w) X.A (execs st X.env) (SP X pins D) X.xe s
theorem eh {α:Type} {t:Sem α} {Q Q':α->Shared->Prop} {M:Model} {A:Around} {E:Value->Shared->Prop} {s:Shared} (h:wpAny M A t Q E s) (hQ:∀a s,Q a s->Q' a s):wpAny M A t Q' E s:=wpAny_mono h hQ fun _ _ x=>x
end L2
namespace L2
open PySem PySem.Spec PyProof.Rows
section
variable {X:Cx}
theorem bin {a b:Expr} {ta tb:TE} (ha:PE X a ta) (hb:PE X b tb) {pins:List (Addr×Obj)} {s:Shared} {σ:St} {H:Hp} {R:V->V->Hp->Prop} (I:Inv X pins σ H s) (h:ta σ H fun x H1=>tb σ H1 fun y H2=>R x y H2)
  {α:Type} {Q:α->Shared->Prop} {f:Value->Value->Sem α}
  (hf:∀v u s2 x y H2,Inv X pins σ H2 s2->RelV x v->RelV y u->R x y H2->wpAny (model X.prog X.w) X.A (f v u) Q X.xe s2) :
  wpAny (model X.prog X.w) X.A (eval a X.env) (fun v s₁=>wpAny (model X.prog X.w) X.A (eval b X.env) (fun u s₂=>wpAny (model X.prog X.w) X.A (f v u) Q X.xe s₂) X.xe s₁) X.xe s:=by
 refine eh (ha pins s σ H _ I h) fun v s1 ⟨x,H1,I1,r1,q1⟩=>?_
 refine eh (hb pins s1 σ H1 _ I1 q1) fun u s2 ⟨y,H2,I2,r2,q2⟩=>?_
 exact hf v u s2 x y H2 I2 r1 r2 q2
noncomputable def Td (i:Nat):TE:=fun σ H Q=>∃v,σ[i]? = some (some v)/\Q v H
noncomputable def tC (v:V):TE:=fun _ H Q=>Q v H
theorem MF {i:Nat} {x:Str} {pos:Pos} (hN:X.N[i]? = some x) (hv:SX X.env.scope x) (hd:(x == ("__debug__" : Str))=false:=by decide) (Gu:(x == ("__classdict__" : Str))=false:=by decide):PE X (.Name x pos) (Td i):=by
 intro pins s σ H Q I h
 obtain⟨v,e,h⟩:=h
 obtain⟨m,hn,hl⟩:=I.loc
 obtain⟨u,r,l⟩:=hl i x v hN e hv
 have fin:EP X pins σ Q u s:=⟨v,H,I,r,h⟩
 rcases l with⟨hk,hm⟩ | ⟨hk,c,hc,sM⟩
 ·exact wpAny_Name (wpAny_loadName_local I.ok.kind hk hn hm fin) hd
 ·rcases hk with hk | hk
  ·exact wpAny_Name (wpAny_loadName_cell I.ok.kind hk hc sM fin) hd
  ·exact wpAny_Name (wpAny_loadName_free I.ok.kind hk hc sM fin Gu) hd
theorem MG {i j pos}:PE X (.Constant (.int i) j pos) (tC (.int i)):=fun _ _ _ H _ I h=>wpAny_Constant_int ⟨.int i,H,I.tok _,⟨_,rfl⟩,h⟩
theorem Po {b j pos}:PE X (.Constant (.bool b) j pos) (tC (.bl b)):=fun _ _ _ H _ I h=>Constant_bool ⟨.bl b,H,I,rfl,h⟩
theorem MH {j pos}:PE X (.Constant .none j pos) (tC .aN):=fun _ _ _ H _ I h=>Constant_none ⟨.aN,H,I,rfl,h⟩
theorem Gv {x j pos}:PE X (.Constant (.str x) j pos) (tC (.str x)):=fun _ _ _ H _ I h=>Calls.Constant_str ⟨.str x,H,I.tok _,⟨_,rfl⟩,h⟩
noncomputable def Gl (X:Cx) (x:Str):Prop:=X.env.kindOf x=some .globalImplicit
theorem uz {E:Value->Shared->Prop} {pins:List (Addr×Obj)} {s:Shared} {σ:St} {H:Hp} {x:Str} {u:Value} {pos:Pos} {Q:Value->Shared->Prop} (I:Inv X pins σ H s) (hg:Gl X x) (hm:X.mg x=some u) (h:Q u s)
  (hd:(x == ("__debug__" : Str))=false:=by decide):wpAny (model X.prog X.w) X.A (eval (.Name x pos) X.env) Q E s :=
 Calls.Name_function_global I.ok.kind hg (Calls.loadGlobal_global (by rw[I.ok.glob]; exact I.mod.glob.keeps I.bk) hm h) hd
theorem uS {E:Value->Shared->Prop} {pins:List (Addr×Obj)} {s:Shared} {σ:St} {H:Hp} {x:Str} {u:Value} {pos:Pos} {Q:Value->Shared->Prop} (I:Inv X pins σ H s) (hg:Gl X x) (hm:X.mg x=none) (hv:bootBuiltins x=some u) (h:Q u s)
  (hn:x ≠ "__name__" := by decide) (hd:(x == ("__debug__" : Str))=false:=by decide):wpAny (model X.prog X.w) X.A (eval (.Name x pos) X.env) Q E s:=by
 obtain⟨mb,h1,h2⟩:=I.mod.blt
 exact Calls.Name_function_global I.ok.kind hg (Calls.loadGlobal_builtin (by rw[I.ok.glob]; exact I.mod.glob.keeps I.bk) hm (by rw[I.ok.blt]; exact h1.keeps I.bk) ((h2 x hn).trans hv) h) hd
theorem ye {x:Str} {v:V} {u:Value} {pos:Pos} (hg:Gl X x) (hm:X.mg x=some u) (r:RelV v u) (hd:(x == ("__debug__" : Str))=false:=by decide):PE X (.Name x pos) (tC v) :=
 fun _ _ _ H _ I h=>uz I hg hm ⟨v,H,I,r,h⟩ hd
theorem C3 {x:Str} {v:V} {u:Value} {pos:Pos} (hg:Gl X x) (hm:X.mg x=none) (hv:bootBuiltins x=some u) (r:RelV v u) (hn:x ≠ "__name__" := by decide) (hd:(x == ("__debug__" : Str))=false:=by decide):PE X (.Name x pos) (tC v) :=
 fun _ _ _ H _ I h=>uS I hg hm hv ⟨v,H,I,r,h⟩ hn hd
variable {a b:Expr} {ta tb:TE} {pos:Pos}
variable {tA R1:TT} {rest:List Expr}
noncomputable def Te (t u:TT):TT:=fun σ H Q=>t σ H fun c H1=>if c=true then u σ H1 Q else Q false H1
noncomputable def Xd (t u:TT):TT:=fun σ H Q=>t σ H fun c H1=>if c=true then Q true H1 else u σ H1 Q
noncomputable def Tf (t:TT):TT:=fun σ H Q=>t σ H fun c H1=>Q (!c) H1
theorem JP (ha:PT X a tA):PW X (.BoolOp .And [a] pos) tA:=by
 intro wh pins s σ H Q I h
 refine isTrue_and (eh (ha pins s σ H Q I h) fun c s1 e=>?_)
 cases c with
 | true=>exact isTrue_and_nil e
 | false=>exact e
theorem MI (ha:PT X a tA):PW X (.BoolOp .Or [a] pos) tA:=by
 intro wh pins s σ H Q I h
 refine isTrue_or (eh (ha pins s σ H Q I h) fun c s1 e=>?_)
 cases c with
 | false=>exact isTrue_or_nil e
 | true=>exact e
theorem MJ (ha:PT X a tA) (hb:PW X (.BoolOp .And (b::rest) pos) R1):PW X (.BoolOp .And (a::b::rest) pos) (Te tA R1):=by
 intro wh pins s σ H Q I h
 refine isTrue_and (eh (ha pins s σ H _ I h) fun c s1 ⟨H1,I1,q1⟩=>?_)
 cases c with
 | true=>exact hb wh pins s1 σ H1 Q I1 q1
 | false=>exact⟨H1,I1,q1⟩
theorem Pp (ha:PT X a tA) (hb:PW X (.BoolOp .Or (b::rest) pos) R1):PW X (.BoolOp .Or (a::b::rest) pos) (Xd tA R1):=by
 intro wh pins s σ H Q I h
 refine isTrue_or (eh (ha pins s σ H _ I h) fun c s1 ⟨H1,I1,q1⟩=>?_)
 cases c with
 | true=>exact⟨H1,I1,q1⟩
 | false=>exact hb wh pins s1 σ H1 Q I1 q1
theorem MK (ha:PT X a tA):PT X (.UnaryOp .Not a pos) (Tf tA):=by
 intro pins s σ H Q I h
 exact isTrue_not (ha pins s σ H (fun c H1=>Q (!c) H1) I h)
noncomputable def Pq (ta tb:TE):TE:=fun σ H Q=>ta σ H fun x H1=>∃c,x=.bl c/\if c=true then tb σ H1 Q else Q (.bl false) H1
noncomputable def Tg (ta tb:TE):TE:=fun σ H Q=>ta σ H fun x H1=>∃c,x=.bl c/\if c=true then Q (.bl true) H1 else tb σ H1 Q
theorem ML {op} {t:TE} (h:PE X a t):PE X (.BoolOp op [a] pos) t:=fun pins s σ H Q I hw=>BoolOp_one (h pins s σ H Q I hw)
theorem MM (ha:PE X a ta) (hb:PE X (.BoolOp .And (b::rest) pos) tb):PE X (.BoolOp .And (a::b::rest) pos) (Pq ta tb):=by
 intro pins s σ H Q I h
 refine BoolOp_and (eh (ha pins s σ H _ I h) fun v s1 ⟨x,H1,I1,r1,q1⟩=>?_)
 obtain⟨c,rfl,q1⟩:=q1
 cases r1
 refine wpAny_truthy_bool ?_
 cases c with
 | true=>exact hb pins s1 σ H1 Q I1 q1
 | false=>exact⟨.bl false,H1,I1,rfl,q1⟩
theorem Pr (ha:PE X a ta) (hb:PE X (.BoolOp .Or (b::rest) pos) tb):PE X (.BoolOp .Or (a::b::rest) pos) (Tg ta tb):=by
 intro pins s σ H Q I h
 refine BoolOp_or (eh (ha pins s σ H _ I h) fun v s1 ⟨x,H1,I1,r1,q1⟩=>?_)
 obtain⟨c,rfl,q1⟩:=q1
 cases r1
 refine wpAny_truthy_bool ?_
 cases c with
 | false=>exact hb pins s1 σ H1 Q I1 q1
 | true=>exact⟨.bl true,H1,I1,rfl,q1⟩
noncomputable def Xe (t:TT) (ta tb:TE):TE:=fun σ H Q=>t σ H fun c H1=>if c=true then ta σ H1 Q else tb σ H1 Q
theorem Gw {c:Expr} (hc:PT X c tA) (ha:PE X a ta) (hb:PE X b tb):PE X (.IfExp c a b pos) (Xe tA ta tb):=by
 intro pins s σ H Q I h
 refine wpAny_IfExp (eh (hc pins s σ H _ I h) fun d s1 ⟨H1,I1,q1⟩=>?_)
 cases d with
 | true=>exact ha pins s1 σ H1 Q I1 q1
 | false=>exact hb pins s1 σ H1 Q I1 q1
end
end L2
namespace L2
open PySem PySem.Spec PyProof.Rows
noncomputable def nK (K:Fg) (H:Hp) (a:Addr) (xs:List V):Prop :=
 Rd H a (.lst xs) ∨
  ∃(o:Obj) (bg:Array Value) (n:Nat),K.lookup a=some o/\o.cls=.type "list" /\ o.dict=none/\o.data=.seq bg n/\bg.size≤sizeLine/\Vals xs bg.toList
noncomputable def wH (K:Fg) (H:Hp) (a:Addr) (xs:List V):Prop :=
 Rd H a (.tup xs) ∨
  ∃(o:Obj) (bg:Array Value) (n:Nat),K.lookup a=some o/\o.cls=.type "tuple" /\ o.data=.seq bg n/\bg.size≤sizeLine/\Vals xs bg.toList
noncomputable def Th:Value->Option V
 | .none=>some .aN
 | .bool b=>some (.bl b)
 | .int i _=>some (.int i)
 | .str x _=>some (.str x)
 | .bytes b _=>some (.OR b)
 | .float b _=>some (.MD b)
 | .ref a=>some (.ref a)
 | .type n=>some (.ty n)
 | _=>none
theorem RelV.abs {x:V} {u:Value} (r:RelV x u):Th u=some x:=by
 cases x with
 | aN=>cases r; rfl
 | bl _=>cases r; rfl
 | int _=>obtain⟨t,rfl⟩:=r; rfl
 | str _=>obtain⟨t,rfl⟩:=r; rfl
 | OR _=>obtain⟨t,rfl⟩:=r; rfl
 | MD _=>obtain⟨t,rfl⟩:=r; rfl
 | ref _=>cases r; rfl
 | ty _=>cases r; rfl
theorem RelV.inj {x y:V} {u:Value} (r:RelV x u) (q:RelV y u):x=y:=Option.some.inj (r.abs.symm.trans q.abs)
theorem Vals.inj:∀{xs ys:List V} {us:List Value},Vals xs us->Vals ys us->xs=ys
 | _,_,_,.nil,.nil=>rfl
 | _,_,_,.cons r t,.cons r' t'=>by rw[r.inj r',Vals.inj t t']
section
variable {X:Cx} {pins:List (Addr×Obj)} {σ:St} {H:Hp} {s:Shared} {a:Addr} {xs ys:List V}
theorem nK.of {K:Fg} (h:H a=some (.lst xs)):nK K H a xs:=.inl (.inl h)
theorem wH.of {K:Fg} (h:H a=some (.tup xs)):wH K H a xs:=.inl (.inl h)
theorem Inv.list (I:Inv X pins σ H s) (h:nK X.K H a xs):∃bg:List Value,Vals xs bg/\PlainL s.heap a bg.toArray/\xs.length≤sizeLine:=by
 rcases h with h | ⟨o,bg,n,hk,hc,hd,hs,hz,r⟩
 ·obtain⟨z,bg,n,r,e⟩:=h.ok I.bO
  exact⟨bg,r,⟨_,n,e,rfl,rfl,rfl⟩,z⟩
 ·refine⟨bg.toList,r,⟨o,n,I.qa a o hk,hc,hd,by simpa using hs⟩,?_⟩
  have e:=r.length
  simp only[Array.length_toList] at e
  omega
theorem Inv.tuple (I:Inv X pins σ H s) (h:wH X.K H a xs):∃bg:List Value,Vals xs bg/\IsTup s.heap a bg.toArray/\xs.length≤sizeLine:=by
 rcases h with h | ⟨o,bg,n,hk,hc,hs,hz,r⟩
 ·obtain⟨z,bg,r,p⟩:=h.ok I.bO
  exact⟨bg,r,p,z⟩
 ·refine⟨bg.toList,r,⟨o,I.qa a o hk,hc,n,by simpa using hs⟩,?_⟩
  have e:=r.length
  simp only[Array.length_toList] at e
  omega
theorem Inv.zY (I:Inv X pins σ H s) (h:nK X.K H a xs) (h':nK X.K H a ys):xs=ys:=by
 obtain⟨bg,r,⟨o,n,e,_,_,d⟩,_⟩:=I.list h
 obtain⟨its',r',⟨o',n',e',_,_,d'⟩,_⟩:=I.list h'
 rw[e] at e'; cases e'
 rw[d] at d'
 injection d' with d1 _
 have:bg=its':=by simpa using congrArg Array.toList d1
 subst this
 exact r.inj r'
theorem Inv.Eh (I:Inv X pins σ H s) (h:wH X.K H a xs) (h':wH X.K H a ys):xs=ys:=by
 obtain⟨bg,r,⟨o,e,_,n,d⟩,_⟩:=I.tuple h
 obtain⟨its',r',⟨o',e',_,n',d'⟩,_⟩:=I.tuple h'
 rw[e] at e'; cases e'
 rw[d] at d'
 injection d' with d1 _
 have:bg=its':=by simpa using congrArg Array.toList d1
 subst this
 exact r.inj r'
end
section
variable {X:Cx} {pins:List (Addr×Obj)} {σ:St} {H:Hp} {s:Shared} {E:Value->Shared->Prop}
end
section
variable {X:Cx} {st:Stmt} {rest:List Stmt} {t u:TS} {e:Expr} {te:TE} {pos:Pos}
noncomputable def Ps:TS:=fun D σ H=>D.nx σ H
noncomputable def Pt (t u:TS):TS:=fun D σ H=>t { D with nx:=u D } σ H
theorem JQ:BQ X [] Ps:=fun _ _ σ H _ I h=>wpAny_execs_nil ⟨σ,H,I,h⟩
theorem Gx (h1:PS X st t) (h2:BQ X rest u):BQ X (st::rest) (Pt t u):=by
 intro pins s σ H D I h
 refine wpAny_execs_cons (eh (h1 pins s σ H { D with nx:=u D } I h) fun f s1 q=>?_)
 cases f with
 | next =>
  obtain⟨σ',H',I',q⟩:=q
  exact h2 pins s1 σ' H' D I' q
 | ret v=>exact q
 | brk=>exact q
 | cont=>exact q
theorem JR (h1:PS X st t):BQ X [st] t:=by
 intro pins s σ H D I h
 refine wpAny_execs_cons (eh (h1 pins s σ H D I h) fun f s1 q=>?_)
 cases f with
 | next=>exact wpAny_execs_nil q
 | ret v=>exact q
 | brk=>exact q
 | cont=>exact q
theorem Inv.quiet {pins:List (Addr×Obj)} {σ:St} {H:Hp} {s:Shared} (I:Inv X pins σ H s):interactive X.env=false:=by simp[interactive,I.ok.kind]
noncomputable def Pu (te:TE):TS:=fun D σ H=>te σ H fun _ H1=>D.nx σ H1
theorem JS (he:PE X e te) (hs:swapsWith e none pos.line X.env=pure false:=by rfl):PS X (.Expr e pos) (Pu te):=by
 intro pins s σ H D I h
 exact wpAny_Expr_any (eh (he pins s σ H _ I h) fun v s1 ⟨x,H1,I1,r1,q1⟩=>⟨σ,H1,I1,q1⟩) I.quiet hs
noncomputable def Ti (te:TE):TS:=fun D σ H=>te σ H D.rt
theorem MN (he:PE X e te):PS X (.Return (some e) pos) (Ti te):=by
 intro pins s σ H D I h
 exact wpAny_Return_some (eh (he pins s σ H _ I h) fun v s1 ⟨x,H1,I1,r1,q1⟩=>⟨x,σ,H1,I1,r1,q1⟩)
noncomputable def Tj (c:TT) (t u:TS):TS:=fun D σ H=>c σ H fun b H1=>if b=true then t D σ H1 else u D σ H1
theorem Pw {c:Expr} {a b:List Stmt} {tc:TT} (hc:PT X c tc) (ha:BQ X a t) (hb:BQ X b u):PS X (.If c a b pos) (Tj tc t u):=by
 intro pins s σ H D I h
 refine wpAny_If (eh (hc pins s σ H _ I h) fun d s1 ⟨H1,I1,q1⟩=>?_)
 cases d with
 | true=>exact ha pins s1 σ H1 D I1 q1
 | false=>exact hb pins s1 σ H1 D I1 q1
end
noncomputable abbrev TG:=V->St->Hp->(St->Hp->Prop)->Prop
noncomputable abbrev JT:=List V->St->Hp->(St->Hp->Prop)->Prop
noncomputable def PG (X:Cx) (target:Expr) (t:TG):Prop :=
 ∀(pins:List (Addr×Obj)) (s:Shared) (σ:St) (H:Hp) (v:V) (u:Value) (Q:St->Hp->Prop),Inv X pins σ H s->RelV v u->t v σ H Q →
  wpAny (model X.prog X.w) X.A (assign target X.env u) (fun _ s'=>∃ σ' H',Inv X pins σ' H' s'/\Q σ' H') X.xe s
noncomputable def JA (X:Cx) (ts:List Expr) (t:JT):Prop :=
 ∀(pins:List (Addr×Obj)) (s:Shared) (σ:St) (H:Hp) (vs:List V) (us:List Value) (Q:St->Hp->Prop),Inv X pins σ H s->Vals vs us->t vs σ H Q →
  wpAny (model X.prog X.w) X.A (assignInOrder ((assignEach ts X.env).map (·.2)) us) (fun _ s'=>∃ σ' H',Inv X pins σ' H' s'/\Q σ' H') X.xe s
noncomputable abbrev JU:=V->V->V->Hp->(Hp->Prop)->Prop
noncomputable def BR (X:Cx) (t:JU):Prop :=
 ∀(pins:List (Addr×Obj)) (s:Shared) (σ:St) (H:Hp) (o i v:V) (ov iv u:Value) (Q:Hp->Prop),Inv X pins σ H s->RelV o ov->RelV i iv->RelV v u->t o i v H Q →
  wpAny (model X.prog X.w) X.A (setItem ov iv u) (fun _ s'=>∃H',Inv X pins σ H' s'/\Q H') X.xe s
section
variable {X:Cx} {pos:Pos}
noncomputable def C4 (i:Nat):TG:=fun v σ H Q=>Q (σ.set i (some v)) H
theorem JV {i:Nat} {x:Str} (hN:X.N.Nodup) (hi:X.N[i]? = some x) (hx:Loc X.env.scope x) (hf:X.fn x=true\/X.env.scope.names.lookup x=some .local := by first | exact .inl rfl | exact .inr rfl | assumption):PG X (.Name x pos) (C4 i):=by
 intro pins s σ H v u Q I r h
 exact wpAny_assign_Name (qb I hN hi hx r (fun s' I'=>⟨_,H,I',h⟩) hf)
noncomputable def Tl:JT:=fun vs σ H Q=>vs=[]/\Q σ H
noncomputable def Px (t:TG) (u:JT):JT:=fun vs σ H Q=>∃v r,vs=v::r/\t v σ H fun σ' H'=>u r σ' H' Q
theorem JW:JA X [] Tl:=by
 intro pins s σ H vs us Q I r h
 obtain⟨e,h⟩:=h
 subst e
 cases r
 exact assignInOrder_nil ⟨σ,H,I,h⟩
theorem Gy {e:Expr} {es:List Expr} {t:TG} {u:JT} (h1:PG X e t) (h2:JA X es u)
  (hs:(assignEach (e::es) X.env).map (·.2)=assign e X.env::(assignEach es X.env).map (·.2):=by rfl):JA X (e::es) (Px t u):=by
 intro pins s σ H vs us Q I r h
 obtain⟨v,vr,e1,h⟩:=h
 subst e1
 cases r with
 | cons r rr =>
  rw[hs]
  refine assignInOrder_cons (eh (h1 pins s σ H _ _ _ I r h) fun _ s1 ⟨σ1,H1,I1,q1⟩=>?_)
  exact h2 pins s1 σ1 H1 _ _ Q I1 rr q1
noncomputable def Tn (K:Fg) (n:Nat) (t:JT):TG:=fun v σ H Q=>∃a xs,v=.ref a/\wH K H a xs/\xs.length=n/\t xs σ H Q
theorem MP {es:List Expr} {k:Nat} {t:JT} {n:Nat} (hc:X.calm=true) (h:JA X es t)
  (hn:(assignEach es X.env).length=n:=by rfl) (wI:(assignEach es X.env).findIdx? (·.1)=none:=by rfl):PG X (.Tuple es k pos) (Tn X.K n t):=by
 intro pins s σ H v u Q I r hw
 obtain⟨a,xs,e1,hq,hl,hw⟩:=hw
 subst e1
 cases r
 obtain⟨bg,rv,ht,hz⟩:=I.tuple hq
 refine assign_Tuple_tuple (I.ok.hd hc) ht (by simp[hn,← hl,rv.length]) wI fun h' hx=>?_
 have I1:Inv X pins σ H { s with heap:=h' }:=I.kept (t':=s.toks) fun b o e=>hx b o (Nat.ne_of_lt (Heap.lt_size e)) e
 exact h pins _ σ H xs _ Q I1 (by simpa using rv) hw
noncomputable def To (to ti:TE) (t:JU):TG:=fun v σ H Q=>to σ H fun o H1=>ti σ H1 fun i H2=>t o i v H2 fun H3=>Q σ H3
theorem MQ {o i:Expr} {to ti:TE} {t:JU} (ho:PE X o to) (hi:PE X i ti) (hs:BR X t)
  (ha:∀v,assign (.Subscript o i pos) X.env v=(do
   let ov ← holding [v] (eval o X.env)
   let iv ← holding [v,ov] (eval i X.env)
   standAt pos
   holding [v,ov,iv] (setItem ov iv v)
   release [v,ov,iv] []):=by intro _; rfl):PG X (.Subscript o i pos) (To to ti t):=by
 intro pins s σ H v u Q I r h
 rw[ha]
 refine wpAny_bind (wpAny_holding (eh (ho pins s σ H _ I h) fun ov s1 ⟨x,H1,I1,r1,q1⟩=>?_))
 refine wpAny_bind (wpAny_holding (eh (hi pins s1 σ H1 _ I1 q1) fun iv s2 ⟨y,H2,I2,r2,q2⟩=>?_))
 refine wpAny_bind (wpAny_standAt (wpAny_bind (wpAny_holding (eh (hs pins s2 σ H2 x y v ov iv u _ I2 r1 r2 r q2) fun _ s3 ⟨H3,I3,q3⟩=>?_))))
 exact wpAny_release ⟨σ,H3,I3,q3⟩
noncomputable def MR (te:TE) (g:TG):TS:=fun D σ H=>te σ H fun x H1=>g x σ H1 D.nx
theorem Gz {tg e:Expr} {te:TE} {g:TG} (he:PE X e te) (hg:PG X tg g) (hs:swapsWithSole [tg] e pos.line X.env=pure false:=by rfl) (hw:swappedStores [tg] e X.env=pure none:=by rfl)
  (h1:(assignEach [tg] X.env).map (·.2)=[assign tg X.env]:=by rfl):PS X (.Assign [tg] e pos) (MR te g):=by
 intro pins s σ H D I h
 refine wpAny_Assign_stores (eh (he pins s σ H _ I h) fun v s1 ⟨x,H1,I1,r1,q1⟩=>?_) hs hw
 rw[h1]
 exact eh (hg pins s1 σ H1 x v _ I1 r1 q1) fun _ s2 q=>q
theorem MS {i:Nat} {x:Str} {e:Expr} {te:TE} {pos':Pos} (hN:X.N.Nodup) (hi:X.N[i]? = some x) (hx:Loc X.env.scope x) (he:PE X e te) (hs:swapsWith e (some (.Name x pos')) pos.line X.env=pure false:=by rfl) (hf:X.fn x=true\/X.env.scope.names.lookup x=some .local := by first | exact .inl rfl | exact .inr rfl | assumption) :
  PS X (.Assign [.Name x pos'] e pos) (MR te (C4 i)):=by
 intro pins s σ H D I h
 refine wpAny_Assign_Name (eh (he pins s σ H _ I h) fun v s1 ⟨y,H1,I1,r1,q1⟩=>?_) hs
 exact qb I1 hN hi hx r1 (fun s2 I2=>⟨_,H1,I2,q1⟩) hf
end
section
variable {X:Cx} {pos:Pos}
end
structure It where
 go:Nat->Hp->Prop
 R3:Nat->Hp->V->Hp->Prop
 stop:Nat->Hp->Prop
noncomputable def tQ (X:Cx) (pins:List (Addr×Obj)) (H:Hp) (b:Addr):Prop :=
 H b=none/\b≠X.env.locals/\b∉X.fs/\(b∈X.ex\/X.s₀.heap.objs.size≤b)/\(∀x c,X.env.cells.lookup x=some c->c≠b)/\∀p∈X.pn++pins,p.1≠b
theorem Inv.BS {X:Cx} {pins:List (Addr×Obj)} {σ:St} {H H':Hp} {s:Shared} {b:Addr} (I:Inv X pins σ H s) (hb:s.heap.objs.size≤b) (hn:H' b=none):tQ X pins H' b:=by
 refine⟨hn,Nat.ne_of_gt (Nat.lt_of_lt_of_le I.lt hb),I.SZ hb,.inr (Nat.le_trans I.sz hb),fun x c e z=>?_,fun p hp z=>?_⟩
 ·obtain⟨v,q⟩:=I.cell x c e
  exact absurd (Nat.lt_of_lt_of_le q.lt (by rw[z]; exact hb)) (Nat.lt_irrefl _)
 ·exact absurd (Nat.lt_of_lt_of_le (Heap.lt_size (I.pin p hp).1) (by rw[z]; exact hb)) (Nat.lt_irrefl _)
structure Turn (P:Program) (w:World) (K:Fg) (tg:Expr) (J:It) (fp:List Addr) (it:Addr) (tn:Nat->Heap->Prop):Prop where
 mem:it∈fp
 obj:∀i h,tn i h->∀b∈fp,∃o,h.get? b=some o/\∀v,o.data≠.cell v
 keep:∀i h h',tn i h->(∀b∈fp,∀o,h.get? b=some o->h'.get? b=some o)->tn i h'
 item:∀(X:Cx),X.prog=P->X.w=w->X.K=K->X.calm=true->∀(i:Nat) (pins:List (Addr×Obj)) (s:Shared) (σ:St) (H:Hp) (E:Value->Shared->Prop),Inv X pins σ H s->(∀b∈fp,tQ X pins H b)->tn i s.heap->J.go i H →
  wpAny (model P w) X.A (pyNext (.ref it)) (fun r s1=>∃u,r=some u ∧
   wpAny (model P w) X.A (letOwnedTupleGo tg (.ref it) u) (fun _ s2=>∃x H',Inv X pins σ H' s2/\RelV x u/\J.R3 i H x H'/\tn (i+1) s2.heap/\∀b∈fp,H' b=none) E s1) E s
 done:∀(X:Cx),X.prog=P->X.w=w->X.K=K->X.calm=true->∀(i:Nat) (pins:List (Addr×Obj)) (s:Shared) (σ:St) (H:Hp) (E:Value->Shared->Prop),Inv X pins σ H s->(∀b∈fp,tQ X pins H b)->tn i s.heap->J.stop i H →
  wpAny (model P w) X.A (pyNext (.ref it)) (fun r s1=>r=none/\Inv X pins σ H s1) E s
 self:∀(A:Around) (i:Nat) (s:Shared) (Q:Value->Shared->Prop) (E:Value->Shared->Prop),tn i s.heap->Q (.ref it) s->wpAny (model P w) A (pyIter (.ref it)) Q E s
noncomputable abbrev TI:=St->Hp->(It->Hp->Prop)->Prop
noncomputable def VX (X:Cx) (pins:List (Addr×Obj)) (σ:St) (tg:Expr) (R:It->Hp->Prop) (R4:Value) (s2:Shared):Prop :=
 ∃(it:Addr) (fp:List Addr) (tn:Nat->Heap->Prop) (J:It) (H':Hp),R4=.ref it/\Inv X pins σ H' s2/\Turn X.prog X.w X.K tg J fp it tn/\tn 0 s2.heap/\(∀b∈fp,tQ X pins H' b)/\R J H'
noncomputable def PI (X:Cx) (tg iter:Expr) (wi:TI):Prop :=
 ∀(pins:List (Addr×Obj)) (s:Shared) (σ:St) (H:Hp) (R:It->Hp->Prop),Inv X pins σ H s->wi σ H R →
  wpAny (model X.prog X.w) X.A (eval iter X.env) (fun v s1=>wpAny (model X.prog X.w) X.A (pyIter v) (VX X pins σ tg R) X.xe s1) X.xe s
theorem C5 {M:Model} {A:Around} {E:Value->Shared->Prop} {s:Shared} {tg:Expr} {it:Addr} {u:Value} {o:Obj} {n:String} {vs:Array Value} {Q:Unit->Shared->Prop} (ho:s.heap.get? it=some o) (hc:o.cls=.type n) (hd:o.data=.fields vs)
    (hn:["enumerate", "zip", "dict_itemiterator", "dict_reverseitemiterator", "odict_iterator", "itertools.zip_longest", "itertools.pairwise"].contains n=false) (hQ:Q () s):wpAny M A (letOwnedTupleGo tg (.ref it) u) Q E s:=by
  unfold letOwnedTupleGo
  cases tg<;>first
    | exact wpAny_pure hQ
    | (cases u<;>first
        | exact wpAny_pure hQ
        | (refine wpAny_bind (wpAny_load ho ?_)
           rw[hc, hd]
           show wpAny M A (if (["enumerate", "zip", "dict_itemiterator", "dict_reverseitemiterator", "odict_iterator", "itertools.zip_longest", "itertools.pairwise"].contains n && vs[0]? == some (rawInt _))=true then _ else _) Q E s
           rw[if_neg (by intro h; rw[hn, Bool.false_and] at h; cases h)]
           exact wpAny_pure hQ))
noncomputable def Tp (K:Fg) (a:Addr):It :=
 ⟨fun i H=>∃xs x,nK K H a xs/\xs[i]? = some x,fun i H x H'=>H'=H/\∀xs,nK K H a xs->xs[i]? = some x,fun i H=>∃xs,nK K H a xs/\xs.length≤i⟩
noncomputable def VY (K:Fg) (a:Addr):It :=
 ⟨fun i H=>∃xs x,wH K H a xs/\xs[i]? = some x,fun i H x H'=>H'=H/\∀xs,wH K H a xs->xs[i]? = some x,fun i H=>∃xs,wH K H a xs/\xs.length≤i⟩
noncomputable def R5 (lo:Int) (n:Nat):It:=⟨fun i _=>i<n,fun i H x H'=>H'=H/\x=.int (lo+i),fun i _=>n≤i⟩
theorem Ei {P:Program} {w:World} {K:Fg} {tg:Expr} (a it:Addr):Turn P w K tg (Tp K a) [it] it (fun i h=>h.IsListIter it a i) where
 mem:=by simp
 obj:=fun i h st b hb=>by
  have e:b=it:=by simpa using hb
  subst e
  obtain⟨o,e,c,d⟩:=st
  exact⟨o,e,fun v z=>by rw[d] at z; cases z⟩
 keep:=fun i h h' st k=>st.at fun o e=>k it (by simp) o e
 item:=by
  intro X hP hw hK hc i pins s σ H E I hf st hg
  subst hP hw hK
  obtain⟨xs,x,hq,hx⟩:=hg
  obtain⟨bg,rv,p,hz⟩:=I.list hq
  obtain⟨u,hu,ru⟩:=rv.get hx
  obtain⟨f0,f1,f2,f3,f4,f5⟩:=hf it (by simp)
  refine wpAny_pyNext_list_item st p.isList (x:=u) (by simpa using hu) fun h' Ge sb=>?_
  have I1:Inv X pins σ H { s with heap:=h' }:=I.turned (t':=s.toks) (fun b o hb e=>(sb.2 b hb).trans e) f0 f1 f3 f4 f5
  obtain⟨o,e,c,d⟩:=id Ge
  exact⟨u,rfl,C5 (s:={ s with heap:=h' }) e c d (by decide) ⟨x,H,I1,ru,⟨rfl,fun ys hy=>by rw[I.zY hy hq]; exact hx⟩,Ge,fun b hb=>(hf b hb).1⟩⟩
 done:=by
  intro X hP hw hK hc i pins s σ H E I hf st hg
  subst hP hw hK
  obtain⟨xs,hq,hx⟩:=hg
  obtain⟨bg,rv,p,hz⟩:=I.list hq
  obtain⟨f0,f1,f2,f3,f4,f5⟩:=hf it (by simp)
  have hl:=rv.length
  exact wpAny_pyNext_list_end (I.ok.hd hc) st p.isList (by simp; omega) fun h' eb=>⟨rfl,I.turned (t':=s.toks) (fun b o hb e=>eb b o hb e) f0 f1 f3 f4 f5⟩
 self:=fun _ _ _ _ _ st h=>wpAny_pyIter_listiter st h
theorem BU {P:Program} {w:World} {K:Fg} {tg:Expr} (a it:Addr):Turn P w K tg (VY K a) [it] it (fun i h=>h.IsTupleIter it a i) where
 mem:=by simp
 obj:=fun i h st b hb=>by
  have e:b=it:=by simpa using hb
  subst e
  obtain⟨o,e,c,d⟩:=st
  exact⟨o,e,fun v z=>by rw[d] at z; cases z⟩
 keep:=fun i h h' st k=>st.at fun o e=>k it (by simp) o e
 item:=by
  intro X hP hw hK hc i pins s σ H E I hf st hg
  subst hP hw hK
  obtain⟨xs,x,hq,hx⟩:=hg
  obtain⟨bg,rv,p,hz⟩:=I.tuple hq
  obtain⟨u,hu,ru⟩:=rv.get hx
  obtain⟨f0,f1,f2,f3,f4,f5⟩:=hf it (by simp)
  refine wpAny_pyNext_tuple_item st (show s.heap.IsTuple a bg.toArray from p) (x:=u) (by simpa using hu) fun h' Ge sb=>?_
  have I1:Inv X pins σ H { s with heap:=h' }:=I.turned (t':=s.toks) (fun b o hb e=>(sb.2 b hb).trans e) f0 f1 f3 f4 f5
  obtain⟨o,e,c,d⟩:=id Ge
  exact⟨u,rfl,C5 (s:={ s with heap:=h' }) e c d (by decide) ⟨x,H,I1,ru,⟨rfl,fun ys hy=>by rw[I.Eh hy hq]; exact hx⟩,Ge,fun b hb=>(hf b hb).1⟩⟩
 done:=by
  intro X hP hw hK hc i pins s σ H E I hf st hg
  subst hP hw hK
  obtain⟨xs,hq,hx⟩:=hg
  obtain⟨bg,rv,p,hz⟩:=I.tuple hq
  obtain⟨f0,f1,f2,f3,f4,f5⟩:=hf it (by simp)
  have hl:=rv.length
  exact wpAny_pyNext_tuple_end (I.ok.hd hc) st (show s.heap.IsTuple a bg.toArray from p) (by simp; omega) fun h' eb=>⟨rfl,I.turned (t':=s.toks) (fun b o hb e=>eb b o hb e) f0 f1 f3 f4 f5⟩
 self:=fun _ _ _ _ _ st h=>wpAny_pyIter_tupleiter st h
theorem BV {P:Program} {w:World} {K:Fg} {tg:Expr} (it:Addr) (lo:Int) (n:Nat):Turn P w K tg (R5 lo n) [it] it (fun i h=>IsRangeIter h it (lo+(i:Nat)*1) ((n:Int)-(i:Nat)) 1) where
 mem:=by simp
 obj:=fun i h st b hb=>by
  have e:b=it:=by simpa using hb
  subst e
  exact⟨_,st,fun v z=>by
   have z':Data.fields _=Data.cell v:=z
   cases z'⟩
 keep:=fun i h h' st k=>k it (by simp) _ st
 item:=by
  intro X hP hw hK hc i pins s σ H E I hf st hg
  subst hP hw hK
  obtain⟨f0,f1,f2,f3,f4,f5⟩:=hf it (by simp)
  have W:=Walks.range (prog:=X.prog) (w:=X.w) (I.ok.hd hc) it lo 1 n
  refine W.item i s _ _ hg st fun v h' tk hv Ge kk=>?_
  obtain⟨t,rfl⟩:=hv
  have I1:Inv X pins σ H { s with heap:=h',toks:=tk }:=I.turned (fun b o hb e=>kk b o (by simpa using hb) e) f0 f1 f3 f4 f5
  refine⟨_,rfl,C5 (s:={ s with heap:=h',toks:=tk }) (n := "range_iterator") Ge rfl rfl (by decide) ⟨.int (lo+i),H,I1,⟨t,?_⟩,⟨rfl,rfl⟩,Ge,fun b hb=>(hf b hb).1⟩⟩
  rw[Int.mul_one]
 done:=by
  intro X hP hw hK hc i pins s σ H E I hf st hg
  subst hP hw hK
  obtain⟨f0,f1,f2,f3,f4,f5⟩:=hf it (by simp)
  exact wpAny_pyNext_range_end (I.ok.hd hc) st (by have:n≤i:=hg; omega) fun h' eb=>⟨rfl,I.turned (t':=s.toks) (fun b o hb e=>eb b o hb e) f0 f1 f3 f4 f5⟩
 self:=fun _ _ _ _ _ st h=>wpAny_pyIter_rangeiter st h
end L2
namespace L2
open PySem PySem.Spec PyProof.Rows
section
variable {X:Cx} {tg:Expr}
noncomputable def Py (K:Fg) (tl:TE):TI:=fun σ H R=>tl σ H fun x H1=>∃a,x=.ref a/\(∃xs,nK K H1 a xs)/\R (Tp K a) H1
noncomputable def Tq (K:Fg) (tl:TE):TI:=fun σ H R=>tl σ H fun x H1=>∃a,x=.ref a/\(∃xs,wH K H1 a xs)/\R (VY K a) H1
theorem JX {l:Expr} {tl:TE} (hl:PE X l tl):PI X tg l (Py X.K tl):=by
 intro pins s σ H R I h
 refine eh (hl pins s σ H _ I h) fun v s1 ⟨x,H1,I1,r1,q1⟩=>?_
 obtain⟨a,e,⟨xs,hq⟩,q⟩:=q1
 subst e
 cases r1
 obtain⟨bg,rv,p,hz⟩:=I1.list hq
 refine wpAny_pyIter_list p.isList ?_
 refine⟨s1.heap.objs.size,[s1.heap.objs.size],_,_,H1,rfl,I1.kept (t':=s1.toks) fun b o e=>Heap.get?_push_of_some _ e,Ei a _,⟨_,Heap.get?_push_size _ rfl,rfl,rfl⟩,fun b hb=>?_,q⟩
 have e:b=s1.heap.objs.size:=by simpa using hb
 subst e
 exact I1.BS (Nat.le_refl _) (I1.bO.fresh (Nat.le_refl _))
theorem MT {l:Expr} {tl:TE} (hl:PE X l tl):PI X tg l (Tq X.K tl):=by
 intro pins s σ H R I h
 refine eh (hl pins s σ H _ I h) fun v s1 ⟨x,H1,I1,r1,q1⟩=>?_
 obtain⟨a,e,⟨xs,hq⟩,q⟩:=q1
 subst e
 cases r1
 obtain⟨bg,rv,p,hz⟩:=I1.tuple hq
 refine wpAny_pyIter_tuple (show s1.heap.IsTuple a bg.toArray from p) ?_
 refine⟨s1.heap.objs.size,[s1.heap.objs.size],_,_,H1,rfl,I1.kept (t':=s1.toks) fun b o e=>Heap.get?_push_of_some _ e,BU a _,⟨_,Heap.get?_push_size _ rfl,rfl,rfl⟩,fun b hb=>?_,q⟩
 have e:b=s1.heap.objs.size:=by simpa using hb
 subst e
 exact I1.BS (Nat.le_refl _) (I1.bO.fresh (Nat.le_refl _))
theorem GA {pins:List (Addr×Obj)} {σ:St} {H:Hp} {s:Shared} {R:It->Hp->Prop} {E:Value->Shared->Prop} {lo hi:Int} {t u v:Tok} {tk:Nat} (I:Inv X pins σ H s) (h1 : -(2 ^ 62)≤lo) (h2:lo<2 ^ 62) (h3 : -(2 ^ 62)≤hi) (h4:hi<2 ^ 62)
  (q:R (R5 lo (hi-lo).toNat) H):wpAny (model X.prog X.w) X.A (pyIter (.ref s.heap.objs.size)) (VX X pins σ tg R) E { s with heap:=s.heap.push { cls:=.type "range",data:=.fields #[.int lo t,.int hi u,.int 1 v] },toks:=tk }:=by
 refine wpAny_pyIter_range (IsRange.new ..) (small_one h1 h2 h3 h4) ?_
 have I1:Inv X pins σ H { s with heap:=s.heap.push { cls:=.type "range",data:=.fields #[.int lo t,.int hi u,.int 1 v] },toks:=tk }:=I.kept fun b o e=>Heap.get?_push_of_some _ e
 refine⟨(s.heap.push { cls:=.type "range",data:=.fields #[.int lo t,.int hi u,.int 1 v] }).objs.size,[(s.heap.push { cls:=.type "range",data:=.fields #[.int lo t,.int hi u,.int 1 v] }).objs.size],_,_,H,rfl,
  I1.kept (t':=tk) fun b o e=>Heap.get?_push_of_some _ e,BV _ lo (hi-lo).toNat,?_,fun b hb=>?_,q⟩
 ·have e1:lo+((0:Nat):Int)*1=lo:=by simp
  have e2:(((hi-lo).toNat:Nat):Int)-((0:Nat):Int)=Builtin.Range.rangeSize lo hi 1:=by rw[rangeSize_one]; split<;>omega
  show IsRangeIter _ _ (lo+((0:Nat):Int)*1) ((((hi-lo).toNat:Nat):Int)-((0:Nat):Int)) 1
  rw[e1,e2]
  exact Heap.get?_push_size _ rfl
 ·have e:b=(s.heap.push { cls:=.type "range",data:=.fields #[.int lo t,.int hi u,.int 1 v] }).objs.size:=by simpa using hb
  subst e
  exact I1.BS (Nat.le_refl _) (I1.bO.fresh (Nat.le_refl _))
noncomputable def Pz (ta:TA):TI:=fun σ H R=>ta σ H fun vs H1=>∃j:Int,vs=[.int j] /\ -(2 ^ 62)≤j/\j<2 ^ 62/\R (R5 0 j.toNat) H1
theorem Ej {a:Expr} {ta:TA} {p pos:Pos} (hg:Gl X "range") (hm:X.mg "range" = none) (ha:PA X [a] ta) (hs:starEach [a] X.env=[(false,eval a X.env)]:=by rfl):PI X tg (.Call (.Name "range" p) [a] [] pos) (Pz ta):=by
 intro pins s σ H R I h
 refine Call_ (uS I hg hm boot_range (PyProof.Rows.callWith_type1 (eh (ha pos pins s σ H _ I h) fun us s1 ⟨vs,H1,I1,r1,q1⟩=>?_) hs rfl))
 obtain⟨j,e,q1,q2,q⟩:=q1
 subst e
 cases r1 with
 | cons r rr =>
  cases rr
  obtain⟨t,rfl⟩:=r
  exact call_range_1 (GA I1 (by omega) (by omega) q1 q2 (by simpa using q))
noncomputable def Tr (wi:TI) (g:TG) (tb:TS):TS:=fun D σ H=>wi σ H fun J H1=>∃W:Nat->Nat->St->Hp->Prop,(∃m,W 0 m σ H1)/\∀i m σ H,W i m σ H →
 (J.stop i H/\D.nx σ H)\/(J.go i H/\∃N:St->Hp->Prop,(∀ σ' H',N σ' H'->∃m',m'<m/\W (i+1) m' σ' H')/\∀x H',J.R3 i H x H'->g x σ H' fun σ2 H2=>tb { D with nx:=N,ct:=N,bk:=D.nx } σ2 H2)
noncomputable def uT (fp:List Addr) (h:Heap):List (Addr×Obj):=fp.filterMap fun b=>(h.get? b).map fun o=>(b,o)
theorem mO {fp:List Addr} {h:Heap} {b:Addr} {o:Obj} (hb:b∈fp) (e:h.get? b=some o):(b,o)∈uT fp h:=List.mem_filterMap.mpr ⟨b,hb,by rw[e]; rfl⟩
theorem Ek {fp:List Addr} {h:Heap} {p:Addr×Obj} (hp:p∈uT fp h):p.1∈fp/\h.get? p.1=some p.2:=by
 obtain⟨b,hb,e⟩:=List.mem_filterMap.mp hp
 cases q:h.get? b with
 | none=>rw[q] at e; cases e
 | some o =>
  rw[q] at e
  have e':(b,o)=p:=Option.some.inj e
  subst e'
  exact⟨hb,q⟩
theorem Inv.pinned {pins:List (Addr×Obj)} {σ:St} {H:Hp} {s:Shared} {fp:List Addr} (I:Inv X pins σ H s) (hf:∀b∈fp,tQ X pins H b) (ho:∀b∈fp,∃o,s.heap.get? b=some o/\∀v,o.data≠.cell v):Inv X (pins++uT fp s.heap) σ H s :=
 I.C2 fun p hp=>(List.mem_append.mp hp).elim (fun z=>I.pin p (List.mem_append_right _ z)) fun z=>by
  obtain⟨hb,e⟩:=Ek z
  obtain⟨f0,f1,f2,_⟩:=hf p.1 hb
  obtain⟨o,e',d⟩:=ho p.1 hb
  rw[e] at e'; cases e'
  exact⟨e,f0,f1,f2,d⟩
theorem Inv.qc {pins pl:List (Addr×Obj)} {σ:St} {H:Hp} {s:Shared} (I:Inv X (pins++pl) σ H s):Inv X pins σ H s:=I.C2 fun p hp=>I.pin p (List.mem_append_right _ (List.mem_append_left _ hp))
theorem MU {iter:Expr} {body:List Stmt} {wi:TI} {g:TG} {tb:TS} {pos:Pos} (hp:PassesOwn (model X.prog X.w) X.A X.env X.xe) (hc:X.calm=true) (hi:PI X tg iter wi) (hg:PG X tg g) (hb:BQ X body tb)
  (hs:∀x,foldedSetIterable iter X.env x=pure x:=by intro _; rfl):PS X (.For tg iter body [] pos) (Tr wi g tb):=by
 intro pins s σ H D I h
 refine wpAny_For (eh (hi pins s σ H _ I h) fun v s1 h1=>eh h1 fun R4 s2 h2=>?_) hs
 obtain⟨it,fp,tn,J,H2,e,I2,T,PB,f2,W,⟨m0,w0⟩,turn⟩:=h2
 subst e
 have BW:∀{H':Hp},(∀b∈fp,H' b=none)->∀b∈fp,tQ X pins H' b:=fun hn b hb=>⟨hn b hb,(f2 b hb).2⟩
 refine codeAny_forLoop_any (fun n s'=>∃i σ' H',Inv X pins σ' H' s'/\tn i s'.heap/\(∀b∈fp,H' b=none)/\W i n σ' H') ?_ m0 ⟨0,σ,H2,I2,PB,fun b hb=>(f2 b hb).1,w0⟩
 rintro n s3 ⟨i,σ3,H3,I3,L5,PC,w3⟩
 rcases turn i n σ3 H3 w3 with⟨stop,qn⟩ | ⟨go,N,hN,step⟩
 ·refine wpAny_passesOwn hp (eh (T.done X rfl rfl rfl hc i pins s3 σ3 H3 X.xe I3 (BW PC) L5 stop) fun r s4 ⟨hr,I4⟩=>?_)
  subst hr
  exact wpAny_execs_nil ⟨σ3,H3,I4,qn⟩
 ·refine wpAny_passesOwn hp (eh (T.item X rfl rfl rfl hc i pins s3 σ3 H3 X.xe I3 (BW PC) L5 go) fun r s4 ⟨u,hr,h4⟩=>?_)
  subst hr
  refine wpAny_passesOwn hp (eh h4 fun _ s5 ⟨x,H5,I5,r5,y5,MV,Ts⟩=>?_)
  have Tt:=I5.pinned (BW Ts) (T.obj _ _ MV)
  refine wpAny_passesOwn hp (eh (hg _ s5 σ3 H5 x u _ Tt r5 (step x H5 y5)) fun _ s6 ⟨σ6,H6,I6,q6⟩=>?_)
  refine wpAny_passesOwn hp (eh (hb _ s6 σ6 H6 _ I6 q6) fun f s7 q7=>?_)
  have again:∀{σ7:St} {H7:Hp},Inv X (pins++uT fp s5.heap) σ7 H7 s7->N σ7 H7->∃m,m<n/\∃i σ' H',Inv X pins σ' H' s7/\tn i s7.heap/\(∀b∈fp,H' b=none)/\W i m σ' H':=fun {σ7 H7} I7 n7=>by
   obtain⟨m',hm,w7⟩:=hN σ7 H7 n7
   refine⟨m',hm,i+1,σ7,H7,I7.qc,T.keep _ _ _ MV fun b hb o e=>(I7.pin (b,o) (List.mem_append_right _ (List.mem_append_right _ (mO hb e)))).1,fun b hb=>?_,w7⟩
   obtain⟨o,e,d⟩:=T.obj _ _ MV b hb
   exact(I7.pin (b,o) (List.mem_append_right _ (List.mem_append_right _ (mO hb e)))).2.1
  cases f with
  | next=>obtain⟨σ7,H7,I7,n7⟩:=q7; exact again I7 n7
  | cont=>obtain⟨σ7,H7,I7,n7⟩:=q7; exact again I7 n7
  | brk=>obtain⟨σ7,H7,I7,q7⟩:=q7; exact⟨σ7,H7,I7.qc,q7⟩
  | ret v=>obtain⟨x7,σ7,H7,I7,r7,q7⟩:=q7; exact⟨x7,σ7,H7,I7.qc,r7,q7⟩
end
end L2
namespace L2
open PySem PySem.Spec PyProof.Rows
noncomputable abbrev R2:=V->V->Hp->VK->Prop
noncomputable def j3 (X:Cx) (f:Value->Value->Sem Value) (r:R2):Prop :=
 ∀(pins:List (Addr×Obj)) (s:Shared) (σ:St) (H:Hp) (x y:V) (v u:Value) (Q:VK),Inv X pins σ H s->RelV x v->RelV y u->r x y H Q →
  wpAny (model X.prog X.w) X.A (f v u) (EP X pins σ Q) X.xe s
noncomputable def Tu (X:Cx) (f:Value->Sem Value) (r:V->Hp->VK->Prop):Prop :=
 ∀(pins:List (Addr×Obj)) (s:Shared) (σ:St) (H:Hp) (x:V) (v:Value) (Q:VK),Inv X pins σ H s->RelV x v->r x H Q →
  wpAny (model X.prog X.w) X.A (f v) (EP X pins σ Q) X.xe s
noncomputable def dQ (X:Cx) (f:Value) (r:List V->Hp->VK->Prop):Prop :=
 ∀(pins:List (Addr×Obj)) (s:Shared) (σ:St) (H:Hp) (xs:List V) (us:List Value) (Q:VK),Inv X pins σ H s->Vals xs us->r xs H Q →
  wpAny (model X.prog X.w) X.A (call f us) (EP X pins σ Q) X.xe s
noncomputable def Tv (X:Cx) (r:V->Hp->(Bool->Hp->Prop)->Prop):Prop :=
 ∀(pins:List (Addr×Obj)) (s:Shared) (σ:St) (H:Hp) (x:V) (v:Value) (Q:Bool->Hp->Prop),Inv X pins σ H s->RelV x v->r x H Q →
  wpAny (model X.prog X.w) X.A (truthy v) (TP X pins σ Q) X.xe s
noncomputable def PD (r:R2) (ta tb:TE):TE:=fun σ H Q=>ta σ H fun x H1=>tb σ H1 fun y H2=>r x y H2 Q
noncomputable def Xf (r:V->Hp->VK->Prop) (ta:TE):TE:=fun σ H Q=>ta σ H fun x H1=>r x H1 Q
noncomputable def rI (C:Int->Int->Prop) (g:Int->Int->V):R2:=fun x y H Q=>∃i j,x=.int i/\y=.int j/\C i j/\Q (g i j) H
noncomputable def L6 (g:Int->Int->V):R2:=fun x y H Q=>∃i j,x=.int i/\y=.int j/\Q (g i j) H
noncomputable def rU (g:Int->V):V->Hp->VK->Prop:=fun x H Q=>∃i,x=.int i/\Q (g i) H
section
variable {X:Cx} {a b c:Expr} {ta tb tc:TE} {pos:Pos}
theorem MW (ha:PE X a ta) (hb:PE X b tb) {pins:List (Addr×Obj)} {s:Shared} {σ:St} {H:Hp} {R:V->V->Hp->Prop} (I:Inv X pins σ H s)
  (h:ta σ H fun x H1=>tb σ H1 fun y H2=>R x y H2) {Q:Value->Shared->Prop} {f:Value->Value->Sem Value}
  (hf:∀v u s2 x y H2,Inv X pins σ H2 s2->RelV x v->RelV y u->R x y H2->wpAny (model X.prog X.w) X.A (f v u) Q X.xe s2) :
  wpAny (model X.prog X.w) X.A (eval a X.env) (fun v s₁=>wpAny (model X.prog X.w) X.A (eval b X.env) (fun u s₂=>wpAny (model X.prog X.w) X.A (f v u) Q X.xe s₂) X.xe s₁) X.xe s:=by
 refine eh (ha pins s σ H _ I h) fun v s1 ⟨x,H1,I1,r1,q1⟩=>?_
 refine eh (hb pins s1 σ H1 _ I1 q1) fun u s2 ⟨y,H2,I2,r2,q2⟩=>?_
 exact hf v u s2 x y H2 I2 r1 r2 q2
theorem PF {op:Operator} {r:R2} (ho:j3 X (binaryOp op) r) (ha:PE X a ta) (hb:PE X b tb):PE X (.BinOp a op b pos) (PD r ta tb):=by
 intro pins s σ H Q I h
 exact wpAny_BinOp (MW ha hb I h fun v u s2 x y H2 I2 rx ry q=>ho pins s2 σ H2 x y v u Q I2 rx ry q)
theorem PH {op:UnaryOp} {r:V->Hp->VK->Prop} (ho:Tu X (unaryOp op) r) (ha:PE X a ta):PE X (.UnaryOp op a pos) (Xf r ta):=by
 intro pins s σ H Q I h
 exact UnaryOp_ (eh (ha pins s σ H _ I h) fun v s1 ⟨x,H1,I1,r1,q1⟩=>ho pins s1 σ H1 x v Q I1 r1 q1)
theorem Tw {f:Value->Value->Sem Value} {C:Int->Int->Prop} {g:Int->Int->Int}
  (rule:∀(i j:Int) (t u:Tok) (s:Shared) (Q:Value->Shared->Prop) (E:Value->Shared->Prop),C i j->Q (.int (g i j) s.toks) { s with toks:=s.toks+1 }->wpAny (model X.prog X.w) X.A (f (.int i t) (.int j u)) Q E s) :
  j3 X f (rI C fun i j=>.int (g i j)):=by
 intro pins s σ H x y v u Q I rx ry h
 obtain⟨i,j,rfl,rfl,hc,q⟩:=h
 obtain⟨t,rfl⟩:=rx
 obtain⟨t',rfl⟩:=ry
 exact rule i j t t' s _ _ hc ⟨.int (g i j),H,I.tok _,⟨_,rfl⟩,q⟩
theorem PJ {f:Value->Value->Sem Value} {g:Int->Int->Int}
  (rule:∀(i j:Int) (t u:Tok) (s:Shared) (Q:Value->Shared->Prop) (E:Value->Shared->Prop),Q (.int (g i j) s.toks) { s with toks:=s.toks+1 }->wpAny (model X.prog X.w) X.A (f (.int i t) (.int j u)) Q E s) :
  j3 X f (L6 fun i j=>.int (g i j)):=by
 intro pins s σ H x y v u Q I rx ry h
 obtain⟨i,j,rfl,rfl,q⟩:=h
 obtain⟨t,rfl⟩:=rx
 obtain⟨t',rfl⟩:=ry
 exact rule i j t t' s _ _ ⟨.int (g i j),H,I.tok _,⟨_,rfl⟩,q⟩
theorem JY {f:Value->Value->Sem Value} {g:Int->Int->Bool}
  (rule:∀(i j:Int) (t u:Tok) (s:Shared) (Q:Value->Shared->Prop) (E:Value->Shared->Prop),Q (.bool (g i j)) s->wpAny (model X.prog X.w) X.A (f (.int i t) (.int j u)) Q E s) :
  j3 X f (L6 fun i j=>.bl (g i j)):=by
 intro pins s σ H x y v u Q I rx ry h
 obtain⟨i,j,rfl,rfl,q⟩:=h
 obtain⟨t,rfl⟩:=rx
 obtain⟨t',rfl⟩:=ry
 exact rule i j t t' s _ _ ⟨.bl (g i j),H,I,rfl,q⟩
noncomputable def Tx (i j:Int):Prop:=0<j/\j<1073741824
noncomputable def MX (i j:Int):Prop:=(-(2 ^ 64)<i/\i<2 ^ 64)\/(-(2 ^ 64)<j/\j<2 ^ 64)
theorem MX.ok {i j:Int} (h:MX i j):IntMulOk i j:=by
 rcases h with⟨h1,h2⟩ | ⟨h1,h2⟩
 ·exact .of_left (intBits_le_64 h1 h2)
 ·exact .of_right (intBits_le_64 h1 h2)
theorem MY:j3 X (binaryOp .Add) (L6 fun i j=>.int (i+j)):=PJ fun _ _ _ _ _ _ _ q=>add_int q
theorem MZ:j3 X (binaryOp .Sub) (L6 fun i j=>.int (i-j)):=PJ fun _ _ _ _ _ _ _ q=>sub_int q
theorem M6:j3 X (binaryOp .Mult) (rI MX fun i j=>.int (i*j)):=Tw fun _ _ _ _ _ _ _ hc q=>mul_int q hc.ok
theorem JZ:j3 X (binaryOp .FloorDiv) (rI Tx fun i j=>.int (i / j)):=Tw fun i j _ _ _ _ _ hc q=>by
 have h1:(0:Int)<j:=hc.1
 have h2:j<1073741824:=hc.2
 exact floordiv_int (by omega) (by rw[Int.fdiv_eq_ediv_of_nonneg i (by omega)]; exact q) (.inl (PyProof.noPylong_small (by omega)))
theorem M7:j3 X (binaryOp .Mod) (rI (fun _ j=>0<j) fun i j=>.int (i%j)):=Tw fun i j _ _ _ _ _ hc q=>by
 have h1:(0:Int)<j:=hc
 exact mod_int' (by omega) (by rw[Int.fmod_eq_emod_of_nonneg i (by omega)]; exact q)
theorem Xg {f:Value->Sem Value} {g:Int->Int}
  (rule:∀(i:Int) (t:Tok) (s:Shared) (Q:Value->Shared->Prop) (E:Value->Shared->Prop),Q (.int (g i) s.toks) { s with toks:=s.toks+1 }->wpAny (model X.prog X.w) X.A (f (.int i t)) Q E s) :
  Tu X f (rU fun i=>.int (g i)):=by
 intro pins s σ H x v Q I rx h
 obtain⟨i,rfl,q⟩:=h
 obtain⟨t,rfl⟩:=rx
 exact rule i t s _ _ ⟨.int (g i),H,I.tok _,⟨_,rfl⟩,q⟩
theorem M8:Tu X (unaryOp .USub) (rU fun i=>.int (-i)):=Xg fun _ _ _ _ _ q=>neg_int q
end
section
variable {X:Cx} {a b c:Expr} {ta tb tc:TE} {pos:Pos}
theorem GB {pins:List (Addr×Obj)} {σ:St} {H:Hp} {s:Shared} {Q:VK} {k k':Bool} (I:Inv X pins σ H s) (q:Q (.bl k) H) (e:k=k'):EP X pins σ Q (.bool k') s:=by
 subst e
 exact⟨.bl k,H,I,rfl,q⟩
theorem PK:j3 X (compareOp .Lt) (L6 fun i j=>.bl (decide (i<j))):=JY fun _ _ _ _ _ _ _ q=>lt_int q
theorem PL:j3 X (compareOp .LtE) (L6 fun i j=>.bl (decide (i≤j))):=JY fun _ _ _ _ _ _ _ q=>le_int q
theorem PM:j3 X (compareOp .Gt) (L6 fun i j=>.bl (decide (j<i))):=JY fun _ _ _ _ _ _ _ q=>gt_int q
theorem PN:j3 X (compareOp .GtE) (L6 fun i j=>.bl (decide (j≤i))):=JY fun _ _ _ _ _ _ _ q=>ge_int q
theorem M9:j3 X (compareOp .Is) (fun x y H Q=>y=.aN/\Q (.bl (decide (x=.aN))) H):=by
 intro pins s σ H x y v u Q I rx ry h
 obtain⟨rfl,q⟩:=h
 cases ry
 refine is_none_gen (GB I q ?_)
 cases x<;>first
  | (cases rx; rfl)
  | (obtain⟨t,rfl⟩:=rx; rfl)
theorem J0:j3 X (compareOp .IsNot) (fun x y H Q=>y=.aN/\Q (.bl (!decide (x=.aN))) H):=by
 intro pins s σ H x y v u Q I rx ry h
 obtain⟨rfl,q⟩:=h
 cases ry
 refine isnot_none_gen (GB I q ?_)
 cases x<;>first
  | (cases rx; rfl)
  | (obtain⟨t,rfl⟩:=rx; rfl)
theorem j3.or {f:Value->Value->Sem Value} {r r':R2} (h:j3 X f r) (h':j3 X f r'):j3 X f (fun x y H Q=>r x y H Q\/r' x y H Q):=by
 intro pins s σ H x y v u Q I rx ry q
 rcases q with q | q
 ·exact h pins s σ H x y v u Q I rx ry q
 ·exact h' pins s σ H x y v u Q I rx ry q
theorem Tz (b:Expr) {op:CmpOp} (h:op≠.In:=by decide) (h2:op≠.NotIn:=by decide):behindInMarks op b=false:=by
 have e1:(op == CmpOp.In)=false:=by cases op<;>first | rfl | exact absurd rfl h
 have e2:(op == CmpOp.NotIn)=false:=by cases op<;>first | rfl | exact absurd rfl h2
 cases b<;>simp[behindInMarks,e1,e2]
theorem J2 {op:CmpOp} {r:R2} (ho:j3 X (compareOp op) r) (ha:PE X a ta) (hb:PE X b tb) (hm:behindInMarks op b=false):PE X (.Compare a [op] [b] pos) (PD r ta tb):=by
 intro pins s σ H Q I h
 exact wpAny_Compare1 (MW ha hb I h fun v u s2 x y H2 I2 rx ry q=>ho pins s2 σ H2 x y v u Q I2 rx ry q) hm
noncomputable def GC (t:TE):TT:=fun σ H Q=>t σ H fun x H'=>∃k,x=.bl k/\Q k H'
theorem J3 {op:CmpOp} {r:R2} (ho:j3 X (compareOp op) r) (ha:PE X a ta) (hb:PE X b tb) (hm:behindInMarks op b=false):PT X (.Compare a [op] [b] pos) (GC (PD r ta tb)):=by
 intro pins s σ H Q I h
 refine wpAny_isTrue_Compare1 (eh (ha pins s σ H _ I h) fun v s1 ⟨x,H1,I1,r1,q1⟩=>eh (hb pins s1 σ H1 _ I1 q1) fun u s2 ⟨y,H2,I2,r2,q2⟩ =>
  eh (ho pins s2 σ H2 x y v u _ I2 r1 r2 q2) fun c s3 ⟨z,H3,I3,r3,k,e,q3⟩=>?_) hm
 subst e
 cases r3
 exact wpAny_truthy_bool ⟨H3,I3,q3⟩
noncomputable def GD (r r':R2) (ta tb tc:TE):TE:=fun σ H Q=>ta σ H fun x H1=>tb σ H1 fun y H2=>r x y H2 fun z H3=>∃k,z=.bl k ∧
 (if k=true then tc σ H3 fun w' H4=>r' y w' H4 Q else Q (.bl false) H3)
theorem GF {op Na:CmpOp} {r r':R2} (ho:j3 X (compareOp op) r) (C1:j3 X (compareOp Na) r') (ha:PE X a ta) (hb:PE X b tb) (hc:PE X c tc)
  (hm:lastMarks [op,Na] [b,c]=false:=by with_unfolding_all rfl):PT X (.Compare a [op,Na] [b,c] pos) (GC (GD r r' ta tb tc)):=by
 intro pins s σ H Q I h
 refine isTrue_chain (eh (ha pins s σ H _ I h) fun v s1 ⟨x,H1,I1,r1,q1⟩=>test_link (eh (hb pins s1 σ H1 _ I1 q1) fun u s2 ⟨y,H2,I2,r2,q2⟩ =>
  eh (ho pins s2 σ H2 x y v u _ I2 r1 r2 q2) fun d s3 ⟨z,H3,I3,r3,k,e,q3⟩=>?_)) hm
 subst e
 cases r3
 refine wpAny_truthy_bool ?_
 cases k with
 | false =>
  obtain⟨k',e',q'⟩:=q3
  cases e'
  exact ite_ff ⟨H3,I3,q'⟩
 | true =>
  refine ite_tt (test_last (eh (hc pins s3 σ H3 _ I3 q3) fun w' s4 ⟨z',H4,I4,r4,q4⟩=>eh (C1 pins s4 σ H4 y z' u w' _ I4 r2 r4 q4) fun d' s5 ⟨z2,H5,I5,r5,k2,e2,q5⟩=>?_))
  subst e2
  cases r5
  exact wpAny_truthy_bool ⟨H5,I5,q5⟩
noncomputable def Nb (K:Fg) (x:V) (H:Hp) (k:Bool):Prop :=
 match x with
 | .aN=>k=false
 | .bl b=>k=b
 | .int i=>k=(i != 0)
 | .str y=>y.length≤sizeLine/\k=((y.length:Int) != 0)
 | .OR y=>y.size≤sizeLine/\k=((y.size:Int) != 0)
 | .ref p=>(∃xs,nK K H p xs/\k=!xs.isEmpty)\/(∃xs,wH K H p xs/\k=!xs.isEmpty)\/∃kvs,H p=some (.dK kvs)/\k=!kvs.isEmpty
 | _=>False
theorem BX {κ:Type} {kvs:List (κ×V)} {vs:List (κ×Value)} (r:KV kvs vs):(!vs.isEmpty)=!kvs.isEmpty:=by
 cases r<;>rfl
theorem uU {xs:List V} {bg:List Value} (r:Vals xs bg):(!bg.toArray.isEmpty)=!xs.isEmpty:=by
 cases r<;>simp
theorem uV:(sizeLine:Nat)<2 ^ 63:=by rw[sizeLine_eq]; decide
theorem Nc:Tv X (fun x H Q=>∃k,Nb X.K x H k/\Q k H):=by
 intro pins s σ H x v Q I rx h
 obtain⟨k,e,q⟩:=h
 have hl:=uV
 have hs:sizeLine=16777216:=sizeLine_eq
 cases x with
 | aN =>
  cases rx
  have e':k=false:=e
  subst e'
  exact truthy_none ⟨H,I,q⟩
 | bl b =>
  cases rx
  have e':k=b:=e
  subst e'
  exact wpAny_truthy_bool ⟨H,I,q⟩
 | int i =>
  obtain⟨t,rfl⟩:=rx
  have e':k=(i != 0):=e
  subst e'
  exact PySem.P.truthy_int ⟨H,I,q⟩
 | str y =>
  obtain⟨t,rfl⟩:=rx
  obtain⟨hy,e'⟩:y.length≤sizeLine/\k=((y.length:Int) != 0):=e
  subst e'
  exact PySem.P.truthy_str (by omega) ⟨H,I.tok _,q⟩
 | OR y =>
  obtain⟨t,rfl⟩:=rx
  obtain⟨hy,e'⟩:y.size≤sizeLine/\k=((y.size:Int) != 0):=e
  subst e'
  exact PySem.W.truthy_bytes (by omega) ⟨H,I.tok _,q⟩
 | ref p =>
  cases rx
  have e':(∃xs,nK X.K H p xs/\k=!xs.isEmpty)\/(∃xs,wH X.K H p xs/\k=!xs.isEmpty)\/∃kvs,H p=some (.dK kvs)/\k=!kvs.isEmpty:=e
  rcases e' with⟨xs,hx,e'⟩ | ⟨xs,hx,e'⟩ | ⟨kvs,hx,e'⟩
  ·subst e'
   obtain⟨bg,r,pl,hz⟩:=I.list hx
   have hlen:=r.length
   exact wpAny_truthy_list pl.isList (by simp only[List.size_toArray]; omega) ⟨H,I.tok _,by rw[uU r]; exact q⟩
  ·subst e'
   obtain⟨bg,r,pl,hz⟩:=I.tuple hx
   have hlen:=r.length
   exact truthy_tuple pl (by simp only[List.size_toArray]; omega) ⟨H,I.tok _,by rw[uU r]; exact q⟩
  ·subst e'
   obtain⟨hz,hS,vs,r,m⟩:kvs.length≤sizeLine/\(p == sysModules)=false/\∃vs,KV kvs vs/\s.heap.DictOf (cf X.prog X.w) p vs:=I.bO p _ hx
   have hlen:kvs.length=vs.length:=Paired.length r
   exact wpAny_truthy_dict hS m (by omega) ⟨H,I.tok _,by rw[BX r]; exact q⟩
 | _=>exact(show False from e).elim
theorem GG (ha:PE X a ta) (he:∀whole,isTrue a X.env whole=(do let v ← whole; standAt a.pos; holding [v] (truthy v))) :
  PT X a (fun σ H Q=>ta σ H fun x H'=>∃k,Nb X.K x H' k/\Q k H'):=by
 intro pins s σ H Q I h
 exact isTrue_plain (eh (ha pins s σ H _ I h) fun v s1 ⟨x,H1,I1,r1,q1⟩=>Nc pins s1 σ H1 x v Q I1 r1 q1) (he _)
theorem vals1 {x:V} {us:List Value} (r:Vals [x] us):∃u,us=[u]/\RelV x u:=by
 cases r with
 | cons r1 r2=>cases r2; exact⟨_,rfl,r1⟩
theorem vals2 {x y:V} {us:List Value} (r:Vals [x,y] us):∃u w',us=[u,w']/\RelV x u/\RelV y w':=by
 cases r with
 | cons r1 r2 =>
  cases r2 with
  | cons r3 r4=>cases r4; exact⟨_,_,rfl,r1,r3⟩
theorem El (hc:X.calm=true):dQ X (.builtin "max") (fun xs H Q=>∃i j,xs=[.int i,.int j]/\Q (.int (if j > i then j else i)) H):=by
 intro pins s σ H xs us Q I r h
 obtain⟨i,j,rfl,q⟩:=h
 obtain⟨u,w',rfl,⟨t,rfl⟩,⟨t',rfl⟩⟩:=vals2 r
 refine max_two_ints (I.ok.hd hc) fun h' tk k=>⟨_,H,I.kept k,?_,q⟩
 by_cases hj:j > i
 ·rw[if_pos hj,if_pos hj]; exact⟨_,rfl⟩
 ·rw[if_neg hj,if_neg hj]; exact⟨_,rfl⟩
theorem Em (hc:X.calm=true):dQ X (.builtin "min") (fun xs H Q=>∃i j,xs=[.int i,.int j]/\Q (.int (if j<i then j else i)) H):=by
 intro pins s σ H xs us Q I r h
 obtain⟨i,j,rfl,q⟩:=h
 obtain⟨u,w',rfl,⟨t,rfl⟩,⟨t',rfl⟩⟩:=vals2 r
 refine min_two_ints (I.ok.hd hc) fun h' tk k=>⟨_,H,I.kept k,?_,q⟩
 by_cases hj:j<i
 ·rw[if_pos hj,if_pos hj]; exact⟨_,rfl⟩
 ·rw[if_neg hj,if_neg hj]; exact⟨_,rfl⟩
theorem Eo:dQ X (.type "int") (fun xs H Q=>(∃i,xs=[.int i]/\Q (.int i) H)\/∃k,xs=[.bl k]/\Q (.int (if k then 1 else 0)) H):=by
 intro pins s σ H xs us Q I r h
 rcases h with⟨i,rfl,q⟩ | ⟨k,rfl,q⟩
 ·obtain⟨u,rfl,t,rfl⟩:=vals1 r
  exact call_int_int ⟨.int i,H,I,⟨_,rfl⟩,q⟩
 ·obtain⟨u,rfl,r1⟩:=vals1 r
  cases r1
  exact call_int_bool ⟨.int (if k then 1 else 0),H,I.tok _,⟨_,rfl⟩,q⟩
end
end L2
namespace L2
open PySem PySem.Spec PyProof.Rows
structure BY (h:Heap) (x dx C:Addr) (mA:Str->Option Value):Prop where
 obj:h.get? x=some (PySem.W.instObj C dx)
 ns:h.Ns1 dx mA
 ne:dx≠x
theorem Ep {h:Heap} {dx:Addr} {mA:Str->Option Value} (n:h.Ns1 dx mA):∃od,h.get? dx=some od/\∀name,PySem.W.lookIn name od=some (mA name):=by
 obtain⟨o,es,ep,ho,hd,hk,_,hm⟩:=n
 refine⟨o,ho,fun name=>?_⟩
 have e:=hm name
 unfold nsFind findBy at e
 rw[← Array.find?_toList] at e
 unfold PySem.W.lookIn
 rw[hd]
 dsimp only
 split
 ·rename_i y q
  rw[q] at e
  exact congrArg some e
 ·rename_i q
  rw[q] at e
  have a:es.toList.any (·.refKey)=false:=by
   rw[List.any_eq_false]
   intro y hy
   obtain⟨z,t,TB⟩:=hk y (Array.mem_toList_iff.mp hy)
   simp[DictEntry.refKey,TB]
  have a':¬es.toList.any (·.refKey)=true:=by rw[a]; exact Bool.false_ne_true
  rw[if_neg a']
  exact congrArg some e
theorem BY.look {h:Heap} {x dx C:Addr} {mA:Str->Option Value} (I:BY h x dx C mA):∃od,PySem.W.InstAt h x (PySem.W.instObj C dx) C (some od)/\∀name,PySem.W.lookIn name od=some (mA name) :=
 let⟨od,ho,hl⟩:=Ep I.ns
 ⟨od,⟨I.obj,rfl,rfl,ho⟩,hl⟩
section
variable {prog:Program} {w:World} {A:Around} {E:Value->Shared->Prop} {s:Shared} {K:Fg} {x dx C f:Addr} {mA:Str->Option Value} {name:Str} {v:Value}
theorem get_map {expr:Bool} {Q:Value->Shared->Prop} (X:K.In s.heap) (I:BY s.heap x dx C mA) (hg:PySem.W.plainGet K C name=true) (hh:PySem.W.hasDictIn K C=true)
  (ha:PySem.W.findIn K (.ref C) name=some none) (hv:mA name=some v) (Xh:PySem.W.handedIn v=true) (h:Q v { s with toks:=s.toks+1 }) :
  wpAny (model prog w) A (getAttr (.ref x) name expr) Q E s:=by
 obtain⟨od,J,hl⟩:=I.look
 exact PySem.W.get_value X J (PySem.W.plainGet_of hg).1 (PySem.W.findObj_own hh ha rfl (by rw[hl,hv])) Xh h
theorem GH {pl:Sem Bool} {Q:Value×List Value->Shared->Prop} (X:K.In s.heap) (I:BY s.heap x dx C mA) (hg:PySem.W.plainGet K C name=true)
  (hf:PySem.W.findIn K (.ref C) name=some (some (.ref f))) (ht:PySem.W.isFn K (.ref f)=true) (hv:mA name=none) (h:Q (.ref f,[.ref x]) s) :
  wpAny (model prog w) A (getMethod (.ref x) name pl) Q E s:=by
 obtain⟨od,J,hl⟩:=I.look
 exact PySem.W.method_fn X J (PySem.W.plainGet_of hg).1 (PySem.W.plainGet_of hg).2 hf (beq_iff_eq.mp ht) (by show(PySem.W.lookIn name od).map (·.isSome)=some false; rw[hl,hv]; rfl) h
theorem J9 {ns:List Str} {Q:Unit->Shared->Prop} (X:K.In s.heap) (I:BY s.heap x dx C mA)
  (hs:PySem.W.findIn K (.ref C) "__setattr__" = some (some (.builtin "object.__setattr__"))) (hp:PySem.W.plainOver K C=true) (ht:PySem.W.takerIn K C name=some none) (hh:PySem.W.hasDictIn K C=true)
  (hw:PySem.Within mA ns) (hsz:ns.length≤sizeLine)
  (h:∀h',BY h' x dx C (fun y=>if y=name then some v else mA y)->Heap.SameBut dx s.heap h'->Q () { s with heap:=h',toks:=s.toks+2 }) :
  wpAny (model prog w) A (setAttr (.ref x) name v) Q E s:=by
 obtain⟨od,J,hl⟩:=I.look
 refine PySem.W.set_plain X J hs (PySem.W.osa_open (s:={ s with toks:=s.toks+1 }) (r:=none) X J hp ht fun b=>?_)
 obtain⟨cd,hc,S8⟩:=PySem.W.any_some hh
 have hx:s.heap.get? x=some ⟨.ref C,some dx,.plain,#[]⟩:=I.obj
 refine wpAny_bind (wpAny_pure (wpAny_bind (wpAny_bind (wpAny_loadPart hx (wpAny_bind (PySem.W.Looks.here (s:={ s with toks:=s.toks+1 }) (PySem.W.looks_clsIn X hc) ?_))))))
 rw[S8]
 refine wpAny_pure (a:=some dx) (wpAny_bind (wpAny_pure (wpAny_bind ?_)))
 refine wpAny_nsSet1 (s:={ s with toks:=s.toks+1 }) I.ns fun h' Ka PQ=>?_
 obtain⟨oD,Zk,Zl,Xi,Xj,Xk⟩:=Ka.count (PySem.Within.cons name v hw)
 refine wpAny_bind (wpAny_lookBehind Xi (by rw[Xj]; exact pastItsLine_dict (Nat.le_trans Xk (by rw[zE]; omega))) ?_)
 exact wpAny_pure (h _ ⟨(PQ.2 _ (Ne.symm I.ne)).trans I.obj,Ka,I.ne⟩ PQ)
theorem GI {R:Result->Shared->Prop} {vs:List Value} {kw:List (Str×Value)} (X:K.In s.heap) (hm:PySem.W.makesIn K C=true)
  (hi:PySem.W.findIn K (.ref C) "__init__" = some (some (.ref f))) (hf:PySem.W.typeIn K (.ref f)=some (.type "function"))
  (h:codeAny (model prog w) (A.under (.builtin "type.__call__" ⟨.ref C::vs,kw⟩)) (.call (.ref f) ⟨.ref (s.heap.objs.size+1)::vs,kw⟩) (PySem.W.InitBack (s.heap.objs.size+1) R)
   { s with heap:=(s.heap.push PySem.W.emptyDict).push (PySem.W.instObj C s.heap.objs.size) }) :
  codeAny (model prog w) A (.call (.ref C) ⟨vs,kw⟩) R s:=by
 obtain⟨hh,g,d,t,os⟩:=s
 exact PySem.W.make_core (PySem.W.makes_of X hm) (PySem.W.looks_findIn X hi) (fun self=>PySem.W.bind_fn X self hf) (.inl rfl) h
end
noncomputable def lQ (f:Str) (v:V):List (Str×V)->List (Str×V)
 | []=>[(f,v)]
 | (g,x)::r=>if g=f then(g,v)::r else(g,x)::lQ f v r
theorem sN (f g:Str) (v:V):∀fs:List (Str×V),(lQ f v fs).lookup g=if g=f then some v else fs.lookup g
 | []=>by
  show List.lookup g [(f,v)]=_
  by_cases h:g=f
  ·have hb:(g == f)=true:=beq_iff_eq.mpr h
   simp only[List.lookup,hb,if_pos h]
  ·have hb:(g == f)=false:=beq_eq_false_iff_ne.mpr h
   simp only[List.lookup,hb,if_neg h]
 | (k,x)::r=>by
  have ih:=sN f g v r
  rw[show lQ f v ((k,x)::r)=(if k=f then(k,v)::r else(k,x)::lQ f v r) from rfl]
  by_cases hk:k=f
  ·rw[if_pos hk]
   by_cases h:g=k
   ·have hb:(g == k)=true:=beq_iff_eq.mpr h
    simp only[List.lookup,hb,if_pos (h.trans hk)]
   ·have hb:(g == k)=false:=beq_eq_false_iff_ne.mpr h
    simp only[List.lookup,hb,if_neg (fun e:g=f=>h (e.trans hk.symm))]
  ·rw[if_neg hk]
   by_cases h:g=k
   ·have hb:(g == k)=true:=beq_iff_eq.mpr h
    simp only[List.lookup,hb,if_neg (fun e:g=f=>hk (h.symm.trans e))]
   ·have hb:(g == k)=false:=beq_eq_false_iff_ne.mpr h
    simp only[List.lookup,hb]
    exact ih
theorem rn (f:Str) (v:V):∀fs:List (Str×V),f∈(lQ f v fs).map (·.1)/\∀g,g∈fs.map (·.1)->g∈(lQ f v fs).map (·.1)
 | []=>⟨by simp[lQ],fun g h=>by simp at h⟩
 | (k,x)::r=>by
  obtain⟨i1,i2⟩:=rn f v r
  rw[show lQ f v ((k,x)::r)=(if k=f then(k,v)::r else(k,x)::lQ f v r) from rfl]
  by_cases hk:k=f
  ·rw[if_pos hk]
   subst hk
   exact⟨by simp,fun g h=>by simpa using h⟩
  ·rw[if_neg hk]
   refine⟨?_,fun g h=>?_⟩
   ·rw[zC]
    exact List.mem_cons_of_mem _ i1
   ·rw[zC] at h ⊢
    rcases List.mem_cons.mp h with e | e
    ·exact List.mem_cons.mpr (.inl e)
    ·exact List.mem_cons_of_mem _ (i2 g e)
theorem sO (f:Str) (v:V):∀fs:List (Str×V),(lQ f v fs).length≤fs.length+1
 | []=>by simp[lQ]
 | (k,x)::r=>by
  have ih:=sO f v r
  rw[show lQ f v ((k,x)::r)=(if k=f then(k,v)::r else(k,x)::lQ f v r) from rfl]
  by_cases hk:k=f
  ·rw[if_pos hk,zE,zE]; omega
  ·rw[if_neg hk,zE,zE]; omega
theorem mL.uA {v:V} {o:Option Value} (r:mL (some v) o):∃u,o=some u/\RelV v u:=by
 cases o with
 | none=>exact(show False from r).elim
 | some u=>exact⟨u,rfl,r⟩
theorem mL.none_of {o:Option Value} (r:mL none o):o=none:=by
 cases o with
 | none=>rfl
 | some u=>exact(show False from r).elim
theorem Er {v:V} {u:Value} (r:RelV v u):PySem.W.handedIn u=true:=by
 cases v with
 | aN=>cases (show u=Value.none from r); rfl
 | bl b=>cases (show u=Value.bool b from r); rfl
 | int i=>obtain⟨t,e⟩:=(show ∃t,u=Value.int i t from r); cases e; rfl
 | str x=>obtain⟨t,e⟩:=(show ∃t,u=Value.str x t from r); cases e; rfl
 | OR b=>obtain⟨t,e⟩:=(show ∃t,u=Value.bytes b t from r); cases e; rfl
 | MD b=>obtain⟨t,e⟩:=(show ∃t,u=Value.float b t from r); cases e; rfl
 | ref a=>cases (show u=Value.ref a from r); rfl
 | ty n=>cases (show u=Value.type n from r); rfl
section
variable {P:Program} {w:World} {H H':Hp} {h h':Heap} {a C dx:Addr} {fs Gb:List (Str×V)}
theorem uB (bO:mM P w H h) (e:H a=some (.ins C dx fs)):∃mA,BY h a dx C mA/\(∀f,mL (fs.lookup f) (mA f))/\PySem.Within mA (fs.map (·.1))/\fs.length≤1000/\H dx=some (.own a):=by
 obtain⟨d,z,ne,ob,mA,n,r,q⟩:=(show dt P w H h a (.ins C dx fs) from bO a _ e)
 exact⟨mA,⟨ob,n,ne⟩,r,q,z,d⟩
end
structure BZ (K:Fg) (C:Addr):Prop where
 pg:PySem.W.plainGet K C Str.empty=true
 hd:PySem.W.hasDictIn K C=true
 po:PySem.W.plainOver K C=true
 sa:PySem.W.findIn K (.ref C) "__setattr__" = some (some (.builtin "object.__setattr__"))
theorem BZ.get {K:Fg} {C:Addr} (c:BZ K C) (f:Str):PySem.W.plainGet K C f=true:=c.pg
noncomputable def pE (K:Fg) (C:Addr) (f:Str):Prop:=PySem.W.findIn K (.ref C) f=some none
theorem pE.PR {K:Fg} {C:Addr} {f:Str} (n:pE K C f):PySem.W.takerIn K C f=some none:=by
 unfold PySem.W.takerIn
 rw[show PySem.W.findIn K (.ref C) f=some none from n]
 rfl
structure Zm (K:Fg) (C:Addr) (f:Str) (v:V) (u:Value):Prop where
 at_:PySem.W.findIn K (.ref C) f=some (some u)
 rel:RelV v u
 get:PySem.W.specialIn K u "__get__" = some none
 cp:PySem.W.copiedNames.contains f=false
structure Meth (K:Fg) (C:Addr) (m:Str) (f:Addr):Prop where
 at_:PySem.W.findIn K (.ref C) m=some (some (.ref f))
 fn:PySem.W.isFn K (.ref f)=true
 kp:PySem.W.keepIn K (.ref f)=true
section
variable {X:Cx} {pins:List (Addr×Obj)} {σ:St} {H:Hp} {s:Shared} {a C dx:Addr} {fs:List (Str×V)} {f:Str} {v:V} {A:Around} {E:Value->Shared->Prop}
theorem B1 {b:Bool} {Q:Value->Shared->Prop} (I:Inv X pins σ H s) (e:H a=some (.ins C dx fs)) (c:BZ X.K C) (n:pE X.K C f) (l:fs.lookup f=some v)
  (h:∀u s',Inv X pins σ H s'->RelV v u->Q u s'):wpAny (model X.prog X.w) A (getAttr (.ref a) f b) Q E s:=by
 obtain⟨mA,O,r,_,_,_⟩:=uB I.bO e
 obtain⟨u,hu,ru⟩:=mL.uA (v:=v) (o:=mA f) (by rw[← l]; exact r f)
 exact get_map I.qa O (c.get f) c.hd n hu (Er ru) (h u _ (I.tok _) ru)
theorem uW {m:Str} {g:Addr} {pl:Sem Bool} {Q:Value×List Value->Shared->Prop} (I:Inv X pins σ H s) (e:H a=some (.ins C dx fs)) (c:BZ X.K C) (k:Meth X.K C m g) (l:fs.lookup m=none)
  (h:Q (.ref g,[.ref a]) s):wpAny (model X.prog X.w) A (getMethod (.ref a) m pl) Q E s:=by
 obtain⟨mA,O,r,_,_,_⟩:=uB I.bO e
 have hn:mA m=none:=mL.none_of (by rw[← l]; exact r m)
 exact GH I.qa O (c.get m) k.at_ k.fn hn h
theorem B2 {y:V} {u:Value} {Q:Unit->Shared->Prop} (I:Inv X pins σ H s) (e:H a=some (.ins C dx fs)) (c:BZ X.K C) (n:pE X.K C f) (hl:fs.length<1000) (ry:RelV y u)
  (h:∀s',Inv X pins σ (upd H a (.ins C dx (lQ f y fs))) s'->Q () s'):wpAny (model X.prog X.w) A (setAttr (.ref a) f u) Q E s:=by
 obtain⟨mA,O,r,wi,_,ho⟩:=uB I.bO e
 have hz:(fs.map (·.1)).length≤sizeLine:=by rw[zK,sizeLine_eq]; omega
 refine J9 I.qa O c.sa c.po n.PR c.hd wi hz fun h' O' sb=>h _ ?_
 have hd:∃o,h'.get? dx=some o:=let⟨o,_,_,e',_⟩:=O'.ns; ⟨o,e'⟩
 refine I.write (x:=a) (e:=dx) (by rw[e]; exact True.intro) (.inr ho) (fun b q hb z=>(sb.2 b hb).trans z) hd ?_
 refine⟨by rw[az O.ne]; exact ho,?_,O.ne,O'.obj,_,O'.ns,fun g=>?_,fun g hg=>?_⟩
 ·have:=sO f y fs; omega
 ·show mL ((lQ f y fs).lookup g) (if g=f then some u else mA g)
  rw[sN]
  by_cases q:g=f
  ·rw[if_pos q,if_pos q]; exact ry
  ·rw[if_neg q,if_neg q]; exact r g
 ·by_cases q:g=f
  ·rw[q]; exact(rn f y fs).1
  ·refine(rn f y fs).2 g (wi g fun z=>hg ?_)
   show(if g=f then some u else mA g)=none
   rw[if_neg q]; exact z
theorem Inv.made (I:Inv X pins σ H s):Inv X pins σ (upd (upd H s.heap.objs.size (.own (s.heap.objs.size+1))) (s.heap.objs.size+1) (.ins C s.heap.objs.size []))
  { s with heap:=(s.heap.push PySem.W.emptyDict).push (PySem.W.instObj C s.heap.objs.size) }:=by
 have e1:(s.heap.push PySem.W.emptyDict).get? s.heap.objs.size=some PySem.W.emptyDict:=Heap.get?_push_size s.heap rfl
 have e2:((s.heap.push PySem.W.emptyDict).push (PySem.W.instObj C s.heap.objs.size)).get? (s.heap.objs.size+1)=some (PySem.W.instObj C s.heap.objs.size):=by
  have:=Heap.get?_push_size (s.heap.push PySem.W.emptyDict) (o:=PySem.W.instObj C s.heap.objs.size) rfl
  rwa[Heap.size_push] at this
 have e3:(s.heap.push PySem.W.emptyDict).Ns s.heap.objs.size (fun _=>none):=⟨PySem.W.emptyDict,#[],_,e1,rfl,(fun e he=>absurd he (by simp)),fun _=>rfl⟩
 have I1:=I.laid (a:=s.heap.objs.size) (o:=.own (s.heap.objs.size+1)) (h':=s.heap.push PySem.W.emptyDict) (t':=s.toks) (fun b u q=>Heap.get?_push_of_some _ q) (Nat.le_refl _) ⟨_,e1⟩
 refine I1.laid (a:=s.heap.objs.size+1) (o:=.ins C s.heap.objs.size []) (t':=s.toks) (fun b u q=>Heap.get?_push_of_some _ q) (Nat.le_of_eq (Heap.size_push _ _)) ?_
 have ne:s.heap.objs.size≠s.heap.objs.size+1:=Nat.ne_of_lt (Nat.lt_succ_self _)
 refine⟨by rw[az ne,aU],Nat.zero_le _,ne,e2,fun _=>none,(Heap.Ns1.of_empty e3).at fun o q=>Heap.get?_push_of_some _ q,fun _=>True.intro,fun y hy=>absurd rfl hy⟩
theorem Kb {prog:Program} {w:World} {env:Env} {e:Expr} {f:Str} {pos:Pos} {s:Shared} {Q:Value->Shared->Prop} (hb:attributeBase e f env (eval e env)=eval e env)
  (h:wpAny (model prog w) A (eval e env) (fun o s₁=>wpAny (model prog w) A (getAttr o f true) Q E s₁) E s):wpAny (model prog w) A (eval (.Attribute e f pos) env) Q E s :=
 Attribute_any_ h (by rw[arm_eval_Attribute,hb])
end
noncomputable def TC (K:Fg) (ta:TE) (f:Str):TE:=fun σ H Q=>ta σ H fun x H1=>∃a C dx fs v,x=.ref a/\H1 a=some (.ins C dx fs)/\BZ K C/\pE K C f/\fs.lookup f=some v/\Q v H1
noncomputable def TF (K:Fg) (ta tv:TE) (f:Str):TS:=fun D σ H=>tv σ H fun y H1=>ta σ H1 fun x H2=>∃a C dx fs,x=.ref a/\H2 a=some (.ins C dx fs)/\BZ K C/\pE K C f/\fs.length<1000 ∧
 D.nx σ (upd H2 a (.ins C dx (lQ f y fs)))
section
variable {X:Cx} {o e value:Expr} {f:Str} {pos pos' wJ:Pos} {ta tv:TE}
theorem Nd (he:PE X e ta) (hb:attributeBase e f X.env (eval e X.env)=eval e X.env):PE X (.Attribute e f pos) (TC X.K ta f):=by
 intro pins s σ H Q I h
 refine Kb hb (eh (he pins s σ H _ I h) fun u s1 ⟨x,H1,I1,rx,a,C,dx,fs,v,ex,ea,c,n,l,q⟩=>?_)
 subst ex
 obtain rfl:u=Value.ref a:=rx
 exact B1 I1 ea c n l fun u' s2 I2 ru=>⟨v,H1,I2,ru,q⟩
theorem Nf (ha:PE X o ta) (hv:PE X value tv) (hs:swapsWith value (some (.Attribute o f pos')) pos.line X.env=pure false):PS X (.Assign [.Attribute o f pos'] value pos) (TF X.K ta tv f):=by
 intro pins s σ H D I h
 refine plainObj_wpAny_Assign_Attribute (eh (hv pins s σ H _ I h) fun u s1 ⟨y,H1,I1,ry,q⟩=>eh (ha pins s1 σ H1 _ I1 q) fun ov s2 ⟨x,H2,I2,rx,a,C,dx,fs,ex,ea,c,n,l,q2⟩=>?_) hs
 subst ex
 obtain rfl:ov=Value.ref a:=rx
 exact B2 I2 ea c n l ry fun s3 I3=>⟨σ,_,I3,q2⟩
end
section
variable {X:Cx} {pins:List (Addr×Obj)} {σ:St} {H:Hp} {s:Shared} {A:Around} {E:Value->Shared->Prop} {Q:Value->Shared->Prop} {c:Value} {b:Bool}
inductive qd (K:Fg) (H:Hp):V->Value->Prop where
 | aN:qd K H .aN (.type "NoneType")
 | bl (x:Bool):qd K H (.bl x) (.type "bool")
 | int (i:Int):qd K H (.int i) (.type "int")
 | str (x:Str):qd K H (.str x) (.type "str")
 | MD (x:UInt64):qd K H (.MD x) (.type "float")
 | lst {a:Addr} {xs:List V} (e:H a=some (.lst xs)):qd K H (.ref a) (.type "list")
 | ig {a:Addr} {o:Obj} {xs:List V} (e:H a=some (.ig o (.lst xs))):qd K H (.ref a) (.type "list")
 | tup {a:Addr} {xs:List V} (e:H a=some (.tup xs)):qd K H (.ref a) (.type "tuple")
 | dK {a:Addr} {kvs:List (Key×V)} (e:H a=some (.dK kvs)):qd K H (.ref a) (.type "dict")
 | dT {a:Addr} {kvs:List (List Key×V)} (e:H a=some (.dT kvs)):qd K H (.ref a) (.type "dict")
 | ins {a C dx:Addr} {fs:List (Str×V)} (e:H a=some (.ins C dx fs)) (cl:BZ K C) (ha:PySem.W.findIn K (.ref C) "__class__" = some (some (.builtin "object.__class__")))
   (hn:PySem.W.specialIn K (.builtin "object.__class__") "__get__" = some (some (.builtin "getset_descriptor.__get__"))) (VZ:PySem.W.takesIn K (.builtin "object.__class__")=some true)
   (hm:PySem.W.mroIn K C (.type "object")=some true):qd K H (.ref a) (.ref C)
theorem Es {x:V} {u t:Value} (I:Inv X pins σ H s) (rx:RelV x u) (ty:qd X.K H x t) (e:PySem.W.kitOne X.K t c=some b) (h:∀tk,Q (.bool b) { s with toks:=tk }) :
  wpAny (model X.prog X.w) A (call (.builtin "isinstance") [u,c]) Q E s:=by
 cases ty with
 | aN=>cases (show u=Value.none from rx); exact PySem.W.kia_one PySem.W.kitx_none I.qa True.intro e (fun z=>nomatch z) h
 | bl y=>cases (show u=Value.bool y from rx); exact PySem.W.kia_one PySem.W.kitx_bool I.qa True.intro e (fun z=>nomatch z) h
 | int i=>obtain⟨t,q⟩:=(show ∃t,u=Value.int i t from rx); cases q; exact PySem.W.kia_one PySem.W.kitx_int I.qa True.intro e (fun z=>nomatch z) h
 | str y=>obtain⟨t,q⟩:=(show ∃t,u=Value.str y t from rx); cases q; exact PySem.W.kia_one PySem.W.kitx_str I.qa True.intro e (fun z=>nomatch z) h
 | MD y=>obtain⟨t,q⟩:=(show ∃t,u=Value.float y t from rx); cases q; exact PySem.W.kia_one PySem.W.kitx_float I.qa True.intro e (fun z=>nomatch z) h
 | @lst a xs ea =>
  cases (show u=Value.ref a from rx)
  obtain⟨_,_,n,_,h1⟩:=(show dt X.prog X.w H s.heap a (.lst xs) from I.bO a _ ea)
  exact PySem.W.kia_one PySem.W.kitx_list I.qa ⟨_,h1,rfl⟩ e (fun z=>nomatch z) h
 | @ig a ob xs ea =>
  cases (show u=Value.ref a from rx)
  obtain⟨_,_,_,n,_,h1⟩:=(show dt X.prog X.w H s.heap a (.ig ob (.lst xs)) from I.bO a _ ea)
  exact PySem.W.kia_one PySem.W.kitx_list I.qa ⟨_,h1,rfl⟩ e (fun z=>nomatch z) h
 | @tup a xs ea =>
  cases (show u=Value.ref a from rx)
  obtain⟨_,_,_,p⟩:=(show dt X.prog X.w H s.heap a (.tup xs) from I.bO a _ ea)
  obtain⟨o,h1,h2,_⟩:=p
  exact PySem.W.kia_one PySem.W.kitx_tuple I.qa ⟨o,h1,h2⟩ e (fun z=>nomatch z) h
 | @dK a kvs ea =>
  cases (show u=Value.ref a from rx)
  obtain⟨_,_,vs,_,p⟩:=(show dt X.prog X.w H s.heap a (.dK kvs) from I.bO a _ ea)
  obtain⟨o,es,ep,h1,h2,_⟩:=p
  exact PySem.W.kia_one PySem.W.kitx_dict I.qa ⟨o,h1,h2.1⟩ e (fun z=>nomatch z) h
 | @dT a kvs ea =>
  cases (show u=Value.ref a from rx)
  obtain⟨_,_,xs,_,o,es,ep,h1,h2,_⟩:=(show dt X.prog X.w H s.heap a (.dT kvs) from I.bO a _ ea)
  exact PySem.W.kia_one PySem.W.kitx_dict I.qa ⟨o,h1,h2.1⟩ e (fun z=>nomatch z) h
 | @ins a C dx fs ea cl ha hn VZ hm =>
  cases (show u=Value.ref a from rx)
  obtain⟨mA,O,_⟩:=uB I.bO ea
  obtain⟨od,J,_⟩:=O.look
  exact PySem.W.kia_one (PySem.W.kitx_own (cl.get _) cl.hd ha hn VZ hm) I.qa J e (fun z=>nomatch z) h
end
end L2
namespace L2
open PySem PySem.Spec PyProof.Rows
structure fL (k:Nat) (A:Around):Prop where
 hd:A.handled=none
 dp:A.depth+3*k+5<recursionLimit
 un:A.units+16*k+200<cLine
theorem fL.mono {j k:Nat} {A:Around} (r:fL k A) (h:j≤k):fL j A:=⟨r.hd,by have:=r.dp; omega,by have:=r.un; omega⟩
theorem fL.deeper {k:Nat} {A:Around} (r:fL (k+1) A) (env:Env):fL k (A.deeper env) :=
 ⟨r.hd,by have:=r.dp; show A.depth+1+3*k+5<_; omega,by have:=r.un; show A.units+3+16*k+200<_; omega⟩
theorem B3 {A:Around} {C:Addr} {us:List Value} {kw:List (Str×Value)}:(A.under (.builtin "type.__call__" ⟨.ref C::us,kw⟩)).depth=A.depth+1:=by
 first | rfl | simp[Around.under,Code.weight,Code.isCreation,Code.isGuard,Code.isCaller,Code.frames,Code.isFrame,guardIds]
theorem B4 {A:Around} {C:Addr} {us:List Value} {kw:List (Str×Value)}:(A.under (.builtin "type.__call__" ⟨.ref C::us,kw⟩)).units=A.units+1:=by
 first | rfl | simp[Around.under,Code.cUnits,Code.frames,Code.isFrame]
theorem fL.make {k:Nat} {A:Around} (r:fL (k+1) A) (C:Addr) (us:List Value) (kw:List (Str×Value)):fL k (A.under (.builtin "type.__call__" ⟨.ref C::us,kw⟩)) :=
 ⟨r.hd,by have:=r.dp; rw[B3]; omega,by have:=r.un; rw[B4]; omega⟩
theorem fL.depth {k:Nat} {A:Around} (r:fL k A):A.depth<recursionLimit:=by have:=r.dp; omega
theorem fL.units {k:Nat} {A:Around} (r:fL k A):A.units+64<cLine:=by have:=r.un; omega
noncomputable def Eu:TA:=fun _ H Q=>Q [] H
noncomputable def sP (ta:TE) (tr:TA):TA:=fun σ H Q=>ta σ H fun x H1=>tr σ H1 fun xs H2=>Q (x::xs) H2
section
variable {X:Cx} {e:Expr} {es:List Expr} {te:TE} {t:TA} {pos:Pos}
theorem pF:PA X [] Eu:=fun _ _ _ _ H Q I h=>Calls.spliced_nil ⟨[],H,I,.nil,h⟩
theorem jw (ha:PE X e te) (hr:PA X es t) (hs:starEach (e::es) X.env=(false,eval e X.env)::starEach es X.env:=by rfl):PA X (e::es) (sP te t):=by
 intro pos pins s σ H Q I h
 rw[hs]
 show wpAny _ _ (spliced ((false,eval e X.env)::backTo pos (starEach es X.env))) _ _ s
 refine Calls.spliced_cons (eh (ha pins s σ H _ I h) fun u s1 ⟨x,H1,I1,r1,q1⟩=>?_)
 exact eh (hr pos pins s1 σ H1 _ I1 q1) fun us s2 ⟨xs,H2,I2,r2,q2⟩=>⟨x::xs,H2,I2,.cons r1 r2,q2⟩
noncomputable def PU (t:TA):TE:=fun σ H Q=>t σ H fun xs H1=>xs.length≤sizeLine/\∀p,H1 p=none->Q (.ref p) (upd H1 p (.tup xs))
noncomputable def TH (t:TA):TE:=fun σ H Q=>t σ H fun xs H1=>xs.length≤sizeLine/\∀p,H1 p=none->Q (.ref p) (upd H1 p (.lst xs))
theorem GJ {x1} (h:PA X es t):PE X (.Tuple es x1 pos) (PU t):=by
 intro pins s σ H Q I hq
 refine wpAny_Tuple_spliced (eh (h pos pins s σ H _ I hq) fun us s1 ⟨xs,H1,I1,r,z,q⟩=>⟨by rw[← r.length]; exact z,?_⟩)
 have hf:H1 s1.heap.objs.size=none:=I1.bO.fresh (Nat.le_refl _)
 refine⟨.ref s1.heap.objs.size,upd H1 s1.heap.objs.size (.tup xs),I1.laid (t':=s1.toks) (fun b u e=>Heap.get?_push_of_some _ e) (Nat.le_refl _) ?_,rfl,q _ hf⟩
 exact⟨z,us,r,⟨_,Heap.get?_push_size _ rfl,rfl,_,rfl⟩⟩
theorem Ng (h:PA X es t):PE X (.List es pos) (TH t):=by
 intro pins s σ H Q I hq
 refine wpAny_List_spliced (eh (h pos pins s σ H _ I hq) fun us s1 ⟨xs,H1,I1,r,z,q⟩=>⟨by rw[← r.length]; exact z,?_⟩)
 have hf:H1 s1.heap.objs.size=none:=I1.bO.fresh (Nat.le_refl _)
 refine⟨.ref s1.heap.objs.size,upd H1 s1.heap.objs.size (.lst xs),I1.laid (t':=s1.toks) (fun b u e=>Heap.get?_push_of_some _ e) (Nat.le_refl _) ?_,rfl,q _ hf⟩
 exact⟨z,us,0,r,Heap.get?_push_size _ rfl⟩
end
noncomputable abbrev Sp:=List V->Hp->VK->XK->Prop
noncomputable abbrev zZ:=List Env->Hp->Shared->XK->Value->Shared->Prop
structure B5 (P:Program) (w:World) (K:Fg) (mg:Str->Option Value) (base:Heap) (A:Around) (outer:List Env) (s:Shared) (H:Hp):Prop where
 frames:A.frames=some outer
 mod:Mod K mg base
 bs:∀b o,base.get? b=some o->s.heap.get? b=some o/\H b=none
 Jy:base.objs.size≤s.heap.objs.size
 tP:s.heap.FunFrames base outer
 ME:∀b∈nG outer,H b=none
 bO:mM P w H s.heap
 bare:AllBare s.gens
noncomputable def CE (outer:List Env) (P:Program) (w:World) (H:Hp) (s:Shared) (Q:VK) (u:Value) (s':Shared):Prop :=
 ∃v H',s'.os=s.os/\AllBare s'.gens/\Un (nG outer) [] H H' s.heap s'.heap/\mM P w H' s'.heap/\RelV v u/\Q v H'
noncomputable def CR (CX:zZ) (outer:List Env) (P:Program) (w:World) (H:Hp) (s:Shared) (Q:VK) (E:XK) (r:Result) (s':Shared):Prop :=
 match r with
 | .ok (.ret u)=>CE outer P w H s Q u s'
 | .ok _=>False
 | .error e=>CX outer H s E e s'
structure lx (P:Program) (w:World) (K:Fg) (mg:Str->Option Value) (base:Heap) (CX:zZ) (k:Nat) (f:Addr) (fd:FuncData) (ps:List Str) (sp:Sp):Prop where
 len:∀vs H Q E,sp vs H Q E->vs.length=ps.length
 run:∀(A:Around) (outer:List Env) (s:Shared) (H:Hp) (args:Args) (us:List Value) (vs:List V) (Q:VK) (E:XK),fL k A->B5 P w K mg base A outer s H->BindsTo s fd args (ps.zip us)->Vals vs us->sp vs H Q E →
  codeAny (model P w) A (.call (.ref f) args) (CR CX outer P w H s Q E) s
theorem lx.mono {P:Program} {w:World} {K:Fg} {mg:Str->Option Value} {base:Heap} {CX:zZ} {j k:Nat} {f:Addr} {fd:FuncData} {ps:List Str} {sp:Sp} (F:lx P w K mg base CX j f fd ps sp) (h:j≤k) :
  lx P w K mg base CX k f fd ps sp:=⟨F.len,fun A outer s H args us vs Q E hr=>F.run A outer s H args us vs Q E (hr.mono h)⟩
theorem lx.imp {P:Program} {w:World} {K:Fg} {mg:Str->Option Value} {base:Heap} {CX:zZ} {k:Nat} {f:Addr} {fd:FuncData} {ps:List Str} {sp V0:Sp} (F:lx P w K mg base CX k f fd ps sp)
  (h:∀vs H Q E,V0 vs H Q E->sp vs H Q E):lx P w K mg base CX k f fd ps V0 :=
 ⟨fun vs H Q E q=>F.len vs H Q E (h _ _ _ _ q),fun A outer s H args us vs Q E hr he hb hv hs=>F.run A outer s H args us vs Q E hr he hb hv (h _ _ _ _ hs)⟩
theorem B5.make {P:Program} {w:World} {K:Fg} {mg:Str->Option Value} {base:Heap} {A:Around} {outer:List Env} {s:Shared} {H:Hp} (e:B5 P w K mg base A outer s H) (C:Addr) (us:List Value) (kw:List (Str×Value)) :
  B5 P w K mg base (A.under (.builtin "type.__call__" ⟨.ref C::us,kw⟩)) outer s H:=⟨by first | exact e.frames | (simpa[Around.under,Code.envs,Code.isFrame,pushEnvs] using e.frames),e.mod,e.bs,e.Jy,e.tP,e.ME,e.bO,e.bare⟩
section
variable {X:Cx} {pins:List (Addr×Obj)} {σ:St} {H:Hp} {s s':Shared}
theorem Inv.PX (I:Inv X pins σ H s):B5 X.prog X.w X.K X.mg X.base X.A X.stack s H :=
 ⟨I.ok.frames,I.ok.mod,I.bs,Nat.le_trans I.ok.Jy I.sz,I.stack,I.yc,I.bO,I.bare⟩
theorem Inv.after {Q:VK} {u:Value} (I:Inv X pins σ H s) (h:CE X.stack X.prog X.w H s Q u s'):EP X pins σ Q u s':=by
 obtain⟨v,H',os,bare,un,bO,r,q⟩:=h
 obtain⟨hh,g,d,t,Xl⟩:=s'
 obtain rfl:Xl=s.os:=os
 exact⟨v,H',I.call (h':=hh) (g':=g) (d':=d) (t':=t) (ch:=[]) un bO bare (fun b z=>absurd z (by simp)),r,q⟩
end
noncomputable def Binds (K:Fg) (fd:FuncData) (ps:List Str) (ds:List Value):Prop :=
 ∀(s:Shared) (us:List Value),K.In s.heap->(us++ds).length=ps.length->BindsTo s fd ⟨us,[]⟩ (ps.zip (us++ds))
theorem Binds.all {K:Fg} {fd:FuncData} {ps:List Str} (h:∀us:List Value,us.length=ps.length->bindArgs fd ⟨us,[]⟩=pure (ps.zip us)):Binds K fd ps []:=fun s us _ hl=>by
 rw[zI] at hl ⊢
 exact .of_eq (h us hl)
noncomputable def Passes (CX:zZ) (X:Cx) (E:XK):Prop:=∀(pins:List (Addr×Obj)) (σ:St) (H:Hp) (s:Shared) (e:Value) (s':Shared),Inv X pins σ H s->CX X.stack H s E e s'->X.xe e s'
section
variable {X:Cx} {CX:zZ} {k:Nat} {f C:Addr} {fd:FuncData} {ps:List Str} {sp:Sp} {Ew:List V} {ds:List Value} {E:XK} {x m:Str} {p pos apos:Pos} {e o:Expr} {es:List Expr} {ta:TE} {t:TA}
structure Mk (K:Fg) (C f:Addr):Prop where
 makes:PySem.W.makesIn K C=true
 init:PySem.W.findIn K (.ref C) "__init__" = some (some (.ref f))
 fn:PySem.W.isFn K (.ref f)=true
 kp:PySem.W.keepIn K (.ref C)=true
end
section
variable {X:Cx} {CX:zZ} {k:Nat} {f C:Addr} {fd:FuncData} {ps ks:List Str} {sp:Sp} {E:XK} {x m:Str} {p pos apos Xm:Pos} {e o:Expr} {es:List Expr} {Zo:List Keyword} {te ta:TE} {t tk:TA} {nm:Option Str}
structure TJ (K:Fg) (fd:FuncData) (ps ks:List Str) (g:List Value->List Value->List Value) (gV:List V->List V->List V):Prop where
 to:∀(s:Shared) (us ws:List Value),K.In s.heap->(g us ws).length=ps.length->BindsTo s fd ⟨us,ks.zip ws⟩ (ps.zip (g us ws))
 rel:∀{vs:List V} {us:List Value} {zs:List V} {ws:List Value},Vals vs us->Vals zs ws->Vals (gV vs zs) (g us ws)
variable {g:List Value->List Value->List Value} {gV:List V->List V->List V}
end
structure aC (N P:List Str) (sc:Scope):Prop where
 kind:sc.kind=.function
 co:sc.isCoroutine=false
 gen:sc.isGenerator=false
 nd:N.Nodup
 pre:N.take P.length=P
 par:∀x∈P,sc.names.lookup x=some .local \/ sc.names.lookup x=some .cell
 Nh:∀y∈sc.names,y.2≠.free
theorem xt {kindOf:Str->Option NameKind} {x:Str}:∀{binds:List (Str×Value)} {m:Str->Option Value},(∀v,(x,v)∉binds)->bindL kindOf binds m x=m x
 | [],_,_=>rfl
 | (n,v)::r,m,h=>by
  unfold bindL
  rw[xt fun w hw=>h w (List.mem_cons_of_mem _ hw)]
  split
  ·have:x≠n:=by rintro rfl; exact h v List.mem_cons_self
   simp[this]
  ·rfl
theorem xu {kindOf:Str->Option NameKind} {x:Str}:∀{binds:List (Str×Value)} {m:Str->Option Value},(∀v,(x,v)∉binds)->bindC kindOf binds m x=m x
 | [],_,_=>rfl
 | (n,v)::r,m,h=>by
  unfold bindC
  rw[xu fun w hw=>h w (List.mem_cons_of_mem _ hw)]
  split
  ·rfl
  ·have:x≠n:=by rintro rfl; exact h v List.mem_cons_self
   simp[this]
theorem xv {kindOf:Str->Option NameKind} {x:Str} {v:Value}:∀{P:List Str} {vs:List Value} {i:Nat} {m:Str->Option Value},P.Nodup->P[i]? = some x->vs[i]? = some v->kindOf x=some .local →
  bindL kindOf (P.zip vs) m x=some v
 | [],_,_,_,_,h,_,_=>by simp at h
 | _::_,[],_,_,_,_,h,_=>by simp at h
 | p::P,w::vs,0,m,nd,h1,h2,hk=>by
  simp at h1 h2; subst h1; subst h2
  show bindL kindOf ((p,w)::P.zip vs) m p=_
  unfold bindL
  rw[xt fun v hv=>(List.nodup_cons.mp nd).1 (List.of_mem_zip hv).1,if_pos hk]
  simp
 | p::P,w::vs,i+1,m,nd,h1,h2,hk=>by
  show bindL kindOf ((p,w)::P.zip vs) m x=_
  unfold bindL
  exact xv (i:=i) (List.nodup_cons.mp nd).2 (by simpa using h1) (by simpa using h2) hk
theorem xw {kindOf:Str->Option NameKind} {x:Str} {v:Value}:∀{P:List Str} {vs:List Value} {i:Nat} {m:Str->Option Value},P.Nodup->P[i]? = some x->vs[i]? = some v->kindOf x≠some .local →
  bindC kindOf (P.zip vs) m x=some v
 | [],_,_,_,_,h,_,_=>by simp at h
 | _::_,[],_,_,_,_,h,_=>by simp at h
 | p::P,w::vs,0,m,nd,h1,h2,hk=>by
  simp at h1 h2; subst h1; subst h2
  show bindC kindOf ((p,w)::P.zip vs) m p=_
  unfold bindC
  rw[xu fun v hv=>(List.nodup_cons.mp nd).1 (List.of_mem_zip hv).1,if_neg hk]
  simp
 | p::P,w::vs,i+1,m,nd,h1,h2,hk=>by
  show bindC kindOf ((p,w)::P.zip vs) m x=_
  unfold bindC
  exact xw (i:=i) (List.nodup_cons.mp nd).2 (by simpa using h1) (by simpa using h2) hk
noncomputable def start (N:List Str) (vs:List V):St:=vs.map some++List.replicate (N.length-vs.length) none
noncomputable def iU (CX:zZ) (P:Program) (w:World) (K:Fg) (mg:Str->Option Value) (base:Heap) (N:List Str) (qual:Str) (scope:Scope) (f:Addr) (cd:Value) (A:Around) (outer:List Env) (s:Shared) (H:Hp) (E:XK):Cx where
 prog:=P
 w:=w
 K:=K
 mg:=mg
 base:=base
 A:=A.deeper (envOfC qual scope s.heap.objs.size f cd)
 N:=N
 s₀:=s
 H₀:=H
 env:=envOfC qual scope s.heap.objs.size f cd
 outer:=outer
 stack:=envOfC qual scope s.heap.objs.size f cd::outer
 ex:=[]
 calm:=true
 fn:=fun _=>true
 pn:=[]
 xe:=fun e s'=>wpAny (model P w) (A.deeper (envOfC qual scope s.heap.objs.size f cd)) (leaving (envOfC qual scope s.heap.objs.size f cd) e) (fun _ TK=>CX outer H s E e TK) (fun e' TK=>CX outer H s E e' TK) s'
theorem Aa {sc:Scope} {n:Nat} {x:Str} (h:sc.names.lookup x=some .cell):∃c,(cellsFrom n sc.names []).lookup x=some c:=by
 have q:=PySem.W.cellsFrom_some sc.names n [] (.inl h)
 exact Option.isSome_iff_exists.mp q
theorem Ey {CX:zZ} {P:Program} {w:World} {K:Fg} {mg:Str->Option Value} {base:Heap} {N ps:List Str} {qual:Str} {scope:Scope} {f:Addr} {cd:Value} {A:Around} {outer:List Env} {s s1:Shared} {H:Hp} {E:XK} {us:List Value} {vs:List V}
  (S:aC N ps scope) (hd:A.handled=none) (e0:B5 P w K mg base A outer s H) (hl:vs.length=ps.length) (r:Vals vs us)
  (x:InCallC s s.heap.objs.size (bindL (envOfC qual scope s.heap.objs.size f cd).kindOf (ps.zip us) fun _=>none) (cellsFrom (s.heap.objs.size+1) scope.names []) (bindC (envOfC qual scope s.heap.objs.size f cd).kindOf (ps.zip us) fun _=>none) s1) :
  Inv (iU CX P w K mg base N qual scope f cd A outer s H E) [] (start N vs) H s1:=by
 have mI:ps.length≤N.length:=by have:=congrArg List.length S.pre; rw[List.length_take] at this; omega
 obtain⟨h1,tk,rfl,hk⟩:=x.done
 have PY:∀b:Addr,b∉(iU CX P w K mg base N qual scope f cd A outer s H E).ex:=fun b z=>absurd (show b∈([]:List Addr) from z) (by simp)
 refine⟨⟨e0.mod,S.kind,rfl,rfl,Nat.le_refl _,fun y z c h1 h2=>?_,fun y hy=>?_,fun y c _ h=>?_,fun _=>hd,Around.frames_deeper e0.frames,.inr ⟨rfl,rfl⟩,fun b z=>absurd z (PY b),e0.bs,e0.Jy,fun b _ _=>PY b,fun b z=>absurd z (PY b),e0.tP,e0.ME⟩,
  rfl,e0.bare,Un.kept hk,⟨_,x.toInCall.ns,fun i y v h1 h2 h3=>?_⟩,fun y c h=>⟨_,x.cell y c h⟩,e0.bO.fresh (Nat.le_refl _),fun y c h=>?_,fun p hp=>absurd (show p∈([]:List (Addr×Obj)) from hp) (by simp),e0.bO.kept hk,?_⟩
 ·exact name_of_addr x.apart (PySem.mem_of_lookup h1) (PySem.mem_of_lookup h2)
 ·have hy:scope.names.lookup y=some .cell\/scope.names.lookup y=some .free:=hy
  rcases hy with hy | hy
  ·exact Aa hy
  ·exact absurd rfl (S.Nh _ (PySem.mem_of_lookup hy))
 ·exact Nat.le_of_lt (x.above y c (PySem.mem_of_lookup h))
 ·have hi:i<vs.length:=by
   unfold start at h2
   by_cases hi:i<vs.length
   ·exact hi
   ·rw[List.getElem?_append_right (by simpa using hi)] at h2
    rw[List.getElem?_replicate] at h2
    split at h2<;>cases h2
  have ha:vs[i]? = some v:=by
   unfold start at h2
   rw[List.getElem?_append_left (by simpa using hi),zJ] at h2
   cases e:vs[i]? with
   | none=>rw[e] at h2; cases h2
   | some a=>rw[e] at h2; cases h2; rfl
  obtain⟨u,hu,rv⟩:=r.get ha
  have hp:ps[i]? = some y:=by
   rw[← S.pre,List.getElem?_take_of_lt (by omega)]; exact h1
  have V1:ps.Nodup:=by rw[← S.pre]; exact S.nd.sublist (List.take_sublist _ _)
  refine⟨u,rv,?_⟩
  rcases S.par y (List.mem_of_getElem? hp) with k | k
  ·exact .inl ⟨k,xv V1 hp hu k⟩
  ·obtain⟨c,e⟩:=Aa (n:=s.heap.objs.size+1) k
   refine .inr ⟨.inl k,c,e,?_⟩
   have q:=x.cell y c e
   rw[xw V1 hp hu (by show scope.names.lookup y≠_; rw[k]; decide)] at q
   exact q
 ·exact e0.bO.fresh (Nat.le_of_lt (x.above y c (PySem.mem_of_lookup h)))
 ·unfold start
  show _=N.length
  rw[List.length_append,zK,List.length_replicate]
  omega
theorem PZ {CX:zZ} {P:Program} {w:World} {K:Fg} {mg:Str->Option Value} {base:Heap} {k:Nat} {f:Addr} {name qual:Str} {params:Arguments} {body:List Stmt} {scope:Scope} {dV kV doc pm iO ct oc:Value} {an od:Option Addr}
  {Kc:Array (Option Value)} {N ps:List Str} {sp:Sp} (lk:K.lookup f=some ⟨oc,od,.func (PySem.W.fnOf name qual params body scope dV kV doc pm an iO ct),Kc⟩) (Gu:PySem.W.codeIn K iO qual=true) (S:aC N ps scope)
  (len:∀vs H Q E,sp vs H Q E->vs.length=ps.length)
  (P0:∀(A:Around) (outer:List Env) (s:Shared) (H:Hp) (vs:List V) (Q:VK) (E:XK),fL k (A.deeper (envOfC qual scope s.heap.objs.size f iO))->sp vs H Q E →
   ∃t,BQ (iU CX P w K mg base N qual scope f iO A outer s H E) body t/\t { nx:=fun _ H'=>Q .aN H',rt:=Q } (start N vs) H) :
  lx P w K mg base CX (k+1) f (PySem.W.fnOf name qual params body scope dV kV doc pm an iO ct) ps sp:=by
 refine⟨len,fun A outer s H args us vs Q E hr e0 hb r L7=>?_⟩
 have hl:=len _ _ _ _ L7
 have KX:K.In s.heap:=e0.mod.OT.keeps fun b o e=>(e0.bs b o e).1
 have lim:s.heap.NoLimit:=e0.mod.nolimit.keeps fun b o e=>(e0.bs b o e).1
 have C6:∀y∈ps.zip us,scope.names.lookup y.1=some .local \/ (scope.names.lookup y.1=some .cell/\((cellsFrom (s.heap.objs.size+1) scope.names []).lookup y.1).isSome=true):=fun⟨n,v⟩ hy=>by
  rcases S.par n (List.of_mem_zip hy).1 with q | q
  ·exact .inl q
  ·exact .inr ⟨q,PySem.W.cellsFrom_some _ _ _ (.inl q)⟩
 refine codeAny_call_function hr.depth (KX _ _ lk) rfl S.co S.gen rfl (PySem.W.codeRec_of KX Gu) (hb _ _ _ _ ?_)
 refine wpAny_newFunctionEnv_cells S.kind C6 fun env he s1 x=>?_
 subst he
 refine⟨lim.keeps x.toInCall.keep,codeAny_func ?_⟩
 obtain⟨t,ht,hq⟩:=P0 A outer s H vs Q E (hr.deeper _) L7
 have I:Inv (iU CX P w K mg base N qual scope f iO A outer s H E) [] (start N vs) H s1:=Ey S hr.hd e0 hl r x
 refine wpAny_mono (ht [] s1 (start N vs) H _ I hq) (fun fl s' hs=>?_) fun e s' hs=>hs
 have fin:∀{σ':St} {H':Hp} {v:V} {u:Value},Inv (iU CX P w K mg base N qual scope f iO A outer s H E) [] σ' H' s'->RelV v u->Q v H'->CE outer P w H s Q u s' :=
  fun {σ' H' v u} J rv q=>⟨v,H',J.os,J.bare,J.base,J.bO,rv,q⟩
 cases fl with
 | ret u =>
  obtain⟨v,σ',H',J,rv,q⟩:=hs
  exact fin J rv q
 | next =>
  obtain⟨σ',H',J,q⟩:=hs
  exact fin (v:=V.aN) (u:=Value.none) J rfl q
 | brk =>
  obtain⟨_,_,_,q⟩:=hs
  exact False.elim q
 | cont =>
  obtain⟨_,_,_,q⟩:=hs
  exact False.elim q
end L2
namespace L2
open PySem PySem.Spec PyProof.Rows
section
variable {X:Cx} {x:Str} {p pos:Pos} {e:Expr} {es:List Expr} {t:TA} {id T:String} {r:List V->Hp->VK->Prop}
noncomputable def TL (r:List V->Hp->VK->Prop) (t:TA):TE:=fun σ H Q=>t σ H fun vs H1=>r vs H1 Q
theorem qe (hc:dQ X (.builtin id) r) (hg:Gl X x) (hm:X.mg x=none) (hv:bootBuiltins x=some (.builtin id)) (ha:PA X (e::es) t) (hn:x ≠ "__name__" := by decide) (Ez:(x == ("__debug__" : Str))=false:=by decide)
  (he:starEach (e::es) X.env=(false,eval e X.env)::starEach es X.env:=by rfl) (mI:(backTo pos (starEach es X.env)).any (·.1)=false:=by rfl):PE X (.Call (.Name x p) (e::es) [] pos) (TL r t):=by
 intro pins s σ H Q I h
 refine wpAny_Call_Name_kw (uS I hg hm hv ?_ hn Ez)
 exact PyProof.Rows.callWith_builtin1 (eh (ha pos pins s σ H _ I h) fun us s1 ⟨vs,H1,I1,r1,q1⟩=>hc pins s1 σ H1 vs us Q I1 r1 q1) he mI
theorem EA (hc:dQ X (.type T) r) (hg:Gl X x) (hm:X.mg x=none) (hv:bootBuiltins x=some (.type T)) (ha:PA X (e::es) t) (hn:x ≠ "__name__" := by decide) (Ez:(x == ("__debug__" : Str))=false:=by decide)
  (he:starEach (e::es) X.env=(false,eval e X.env)::starEach es X.env:=by rfl) (mI:(backTo pos (starEach es X.env)).any (·.1)=false:=by rfl):PE X (.Call (.Name x p) (e::es) [] pos) (TL r t):=by
 intro pins s σ H Q I h
 refine wpAny_Call_Name_kw (uS I hg hm hv ?_ hn Ez)
 exact PyProof.Rows.callWith_type1 (eh (ha pos pins s σ H _ I h) fun us s1 ⟨vs,H1,I1,r1,q1⟩=>hc pins s1 σ H1 vs us Q I1 r1 q1) he mI
end
end L2
namespace L2
open PySem PySem.Spec PyProof.Rows
section
variable {κ:Type} [DecidableEq κ]
noncomputable def mf (kvs:List (κ×V)) (k:κ):Option V:=(kvs.find? fun kv=>decide (kv.1=k)).map (·.2)
noncomputable def putK (kvs:List (κ×V)) (k:κ) (v:V):List (κ×V) :=
 if (kvs.any fun kv=>decide (kv.1=k))=true then kvs.map (fun kv=>if kv.1=k then(kv.1,v) else kv) else kvs++[(k,v)]
noncomputable def sQ (kvs:List (κ×V)) (k:κ):List (κ×V):=kvs.filter fun kv=>decide (kv.1≠k)
theorem qf {p:κ×V} {r:List (κ×V)} {k:κ} (e:p.1=k):mf (p::r) k=some p.2:=by simp[mf,List.find?_cons,e]
theorem qg {p:κ×V} {r:List (κ×V)} {k:κ} (e:¬p.1=k):mf (p::r) k=mf r k:=by simp[mf,List.find?_cons,e]
theorem Ab (k:κ):∀kvs:List (κ×V),(kvs.any fun kv=>decide (kv.1=k))=(mf kvs k).isSome
 | []=>rfl
 | p::r=>by
  rw[List.any_cons]
  by_cases e:p.1=k
  ·simp only[qf e,decide_eq_true e,Bool.true_or,Option.isSome_some]
  ·rw[qg e,decide_eq_false e,Bool.false_or]; exact Ab k r
theorem nP (kvs:List (κ×V)) (k:κ) (v:V):(putK kvs k v).length≤kvs.length+1:=by
 unfold putK
 split
 ·rw[zK]; omega
 ·rw[List.length_append,zE,zF]; omega
theorem mL.ku {o:Option V} {u:Option Value} (r:mL o u):o.isSome=u.isSome:=by
 cases o with
 | none=>cases u with
  | none=>rfl
  | some _=>exact(show False from r).elim
 | some _=>cases u with
  | none=>exact(show False from r).elim
  | some _=>rfl
theorem mL.getD {o:Option V} {u:Option Value} {d:V} {d':Value} (r:mL o u) (rd:RelV d d'):RelV (o.getD d) (u.getD d'):=by
 cases o with
 | none=>cases u with
  | none=>exact rd
  | some _=>exact(show False from r).elim
 | some _=>cases u with
  | none=>exact(show False from r).elim
  | some _=>exact r
theorem KV.val {kvs:List (κ×V)} {vs:List (κ×Value)} (r:KV kvs vs) (k:κ):mL (mf kvs k) (valueAt vs k):=by
 unfold KV at r
 induction r with
 | nil=>exact True.intro
 | @cons p q ps qs h t ih =>
  obtain⟨h1,h2⟩:=h
  by_cases e:p.1=k
  ·have e':q.1=k:=h1.symm.trans e
   have b:valueAt (q::qs) k=some q.2:=by simp[valueAt,List.find?_cons,e']
   rw[qf e,b]; exact h2
  ·have e':¬q.1=k:=fun z=>e (h1.trans z)
   have b:valueAt (q::qs) k=valueAt qs k:=by simp[valueAt,List.find?_cons,e']
   rw[qg e,b]; exact ih
theorem KV.any {kvs:List (κ×V)} {vs:List (κ×Value)} (r:KV kvs vs) (k:κ):(kvs.any fun kv=>decide (kv.1=k))=vs.any fun kv=>decide (kv.1=k):=by
 unfold KV at r
 induction r with
 | nil=>rfl
 | cons h t ih=>rw[List.any_cons,List.any_cons,ih,h.1]
theorem KV.Ni {kvs:List (κ×V)} {vs:List (κ×Value)} (r:KV kvs vs) (k:κ) {y:V} {u:Value} (ry:RelV y u) :
  KV (kvs.map fun kv=>if kv.1=k then(kv.1,y) else kv) (vs.map fun kv=>if kv.1=k then(kv.1,u) else kv):=by
 unfold KV at r ⊢
 induction r with
 | nil=>exact .nil
 | @cons p q ps qs h t ih =>
  rw[zC,zC]
  refine .cons ?_ ih
  obtain⟨h1,h2⟩:=h
  by_cases e:p.1=k
  ·rw[if_pos e,if_pos (h1.symm.trans e)]; exact⟨h1,ry⟩
  ·rw[if_neg e,if_neg (fun z=>e (h1.trans z))]; exact⟨h1,h2⟩
theorem KV.put {kvs:List (κ×V)} {vs:List (κ×Value)} (r:KV kvs vs) (k:κ) {y:V} {u:Value} (ry:RelV y u):KV (putK kvs k y) (stored vs k u):=by
 unfold putK stored
 rw[r.any k]
 by_cases e:(vs.any fun kv=>decide (kv.1=k))=true
 ·rw[if_pos e,if_pos e]; exact r.Ni k ry
 ·rw[if_neg e,if_neg e]; exact Paired.snoc r ⟨rfl,ry⟩
theorem KV.drop {kvs:List (κ×V)} {vs:List (κ×Value)} (r:KV kvs vs) (k:κ):KV (sQ kvs k) (without vs k):=by
 unfold KV at r ⊢
 unfold sQ without
 induction r with
 | nil=>exact .nil
 | @cons p q ps qs h t ih =>
  obtain⟨h1,h2⟩:=h
  rw[List.filter_cons,List.filter_cons]
  by_cases e:p.1=k
  ·have a:¬decide (p.1≠k)=true:=by simp[e]
   have b:¬decide (q.1≠k)=true:=by simp[h1.symm.trans e]
   rw[if_neg a,if_neg b]; exact ih
  ·have e':¬q.1=k:=fun z=>e (h1.trans z)
   have a:decide (p.1≠k)=true:=by simp[e]
   have b:decide (q.1≠k)=true:=by simp[e']
   rw[if_pos a,if_pos b]; exact .cons ⟨h1,h2⟩ ih
theorem KV.length {kvs:List (κ×V)} {vs:List (κ×Value)} (r:KV kvs vs):kvs.length=vs.length:=Paired.length r
theorem Ac (kvs:List (κ×V)) (k:κ):(sQ kvs k).length≤kvs.length:=List.length_filter_le _ _
end
theorem qh {P:Program} {w:World} {k:Key} {u:Value} (r:RelV (kV k) u):(cf P w).is k u=true:=by
 cases k with
 | inl i=>obtain⟨t,e⟩:=(show ∃t,u=Value.int i t from r); subst e; exact zW P w i t
 | inr x=>obtain⟨t,e⟩:=(show ∃t,u=Value.str x t from r); subst e; exact zX P w x t
theorem xx {P:Program} {w:World}:∀{ks:List Key} {us:List Value},Vals (ks.map kV) us->ItemsAre (cf P w) ks us
 | [],_,r=>by rw[zD] at r; cases r; exact .nil
 | k::ks,_,r=>by
  rw[zC] at r
  cases r with
  | cons h t=>exact .cons (qh h) (xx t)
noncomputable abbrev KT (H:Hp):List (List Key×V)->List (List Key×Addr×Value)->Prop:=Paired fun p q=>p.1=q.1/\H q.2.1=some (.tup (p.1.map kV))/\RelV p.2 q.2.2
theorem KT.val {H:Hp} {kvs:List (List Key×V)} {xs:List (List Key×Addr×Value)} (r:KT H kvs xs) (k:List Key):mL (mf kvs k) ((atKey xs k).map (·.2)):=by
 induction r with
 | nil=>exact True.intro
 | @cons p q ps qs h t ih =>
  obtain⟨h1,_,h2⟩:=h
  by_cases e:p.1=k
  ·have e':q.1=k:=h1.symm.trans e
   have b:atKey (q::qs) k=some q.2:=by simp[atKey,List.find?_cons,e']
   rw[qf e,b]; exact h2
  ·have e':¬q.1=k:=fun z=>e (h1.trans z)
   have b:atKey (q::qs) k=atKey qs k:=by simp[atKey,List.find?_cons,e']
   rw[qg e,b]; exact ih
theorem KT.Ni {H:Hp} {kvs:List (List Key×V)} {xs:List (List Key×Addr×Value)} (r:KT H kvs xs) (k:List Key) {y:V} {u:Value} (ry:RelV y u) :
  KT H (kvs.map fun kv=>if kv.1=k then(kv.1,y) else kv) (xs.map (putAt k u)):=by
 induction r with
 | nil=>exact .nil
 | @cons p q ps qs h t ih =>
  rw[zC,zC]
  refine .cons ?_ ih
  obtain⟨h1,h2,h3⟩:=h
  unfold putAt
  by_cases e:p.1=k
  ·rw[if_pos e,if_pos (h1.symm.trans e)]; exact⟨h1,h2,ry⟩
  ·rw[if_neg e,if_neg (fun z=>e (h1.trans z))]; exact⟨h1,h2,h3⟩
theorem KT.put {H:Hp} {kvs:List (List Key×V)} {xs:List (List Key×Addr×Value)} (r:KT H kvs xs) (k:List Key) {b:Addr} {y:V} {u:Value} (hb:H b=some (.tup (k.map kV))) (ry:RelV y u) :
  KT H (putK kvs k y) (storedH xs k b u):=by
 have e:(kvs.any fun kv=>decide (kv.1=k))=(atKey xs k).isSome:=by
  rw[Ab,(r.val k).ku,Option.isSome_map]
 unfold putK storedH
 rw[e]
 by_cases q:(atKey xs k).isSome=true
 ·rw[if_pos q,if_pos q]; exact r.Ni k ry
 ·rw[if_neg q,if_neg q]; exact Paired.snoc r ⟨rfl,hb,ry⟩
theorem KT.keeps {H H':Hp} {kvs:List (List Key×V)} {xs:List (List Key×Addr×Value)} (r:KT H kvs xs) (ht:∀b ys,H b=some (.tup ys)->H' b=some (.tup ys)):KT H' kvs xs :=
 Paired.Gq r fun _ _ z=>⟨z.1,ht _ _ z.2.1,z.2.2⟩
section
variable {P:Program} {w:World} {H:Hp} {h:Heap} {a:Addr}
theorem L8 {u:HO} (ok:mM P w H h) (e:Rd H a u):dt P w H h a u:=e.ok ok
theorem sR {kvs:List (Key×V)} (ok:mM P w H h) (e:Rd H a (.dK kvs)):kvs.length≤sizeLine/\(a == sysModules)=false/\∃vs,KV kvs vs/\h.DictOf (cf P w) a vs :=
 show dt P w H h a (.dK kvs) from L8 ok e
theorem uX {kvs:List (Key×V)} (ok:mM P w H h) (e:H a=some (.dK kvs)):kvs.length≤sizeLine/\(a == sysModules)=false/\∃vs,KV kvs vs/\h.DictOf (cf P w) a vs:=sR ok (.inl e)
theorem rq {ks:List Key} (ok:mM P w H h) (e:H a=some (.tup (ks.map kV))):(tupleKind (cf P w)).is h ks a:=by
 obtain⟨_,bg,r,o,h1,h2,n,h3⟩:=(show dt P w H h a (.tup (ks.map kV)) from ok a _ e)
 exact⟨o,bg.toArray,n,h1,h2,h3,by simpa using xx r⟩
theorem uY {kvs:List (List Key×V)} (ok:mM P w H h) (e:Rd H a (.dT kvs)):kvs.length≤sizeLine/\(a == sysModules)=false ∧
  ∃xs,KT H kvs xs/\h.DictOfH (tupleKind (cf P w)) a xs:=by
 obtain⟨z,y,xs,r,o,es,ep,h1,h2,h3,h4,h5⟩:=(show dt P w H h a (.dT kvs) from L8 ok e)
 refine⟨z,y,xs,r,o,es,ep,h1,h2,h3,h4,fun x hx=>?_,h5⟩
 have all:∀{l:List (List Key×V)} {m:List (List Key×Addr×Value)},KT H l m->∀x∈m,(tupleKind (cf P w)).is h x.1 x.2.1:=by
  intro l m q
  induction q with
  | nil=>intro x hx; exact nomatch hx
  | @cons p q ps qs hq t ih =>
   intro x hx
   rcases List.mem_cons.mp hx with e | hx
   ·subst e
    exact rq ok (by rw[← hq.1]; exact hq.2.1)
   ·exact ih x hx
 exact all r x hx
theorem Qa {kvs:List (List Key×V)} (ok:mM P w H h) (e:H a=some (.dT kvs)):kvs.length≤sizeLine/\(a == sysModules)=false ∧
  ∃xs,KT H kvs xs/\h.DictOfH (tupleKind (cf P w)) a xs:=uY ok (.inl e)
end
noncomputable def pG (H:Hp) (a:Addr) (y:V) (r:Option V):Prop :=
 (∃kvs k,Rd H a (.dK kvs)/\y=kV k/\r=mf kvs k)\/∃kvs k b,Rd H a (.dT kvs)/\y=.ref b/\H b=some (.tup (k.map kV))/\r=mf kvs k
noncomputable def yg (H:Hp) (a:Addr) (y v:V) (H':Hp):Prop :=
 (∃kvs k,H a=some (.dK kvs)/\y=kV k/\kvs.length<sizeLine/\H'=upd H a (.dK (putK kvs k v))) ∨
 ∃kvs k b,H a=some (.dT kvs)/\y=.ref b/\H b=some (.tup (k.map kV))/\kvs.length<sizeLine/\H'=upd H a (.dT (putK kvs k v))
theorem pG.k {H:Hp} {a:Addr} {kvs:List (Key×V)} {k:Key} (e:H a=some (.dK kvs)):pG H a (kV k) (mf kvs k):=.inl ⟨kvs,k,.inl e,rfl,rfl⟩
theorem pG.t {H:Hp} {a b:Addr} {kvs:List (List Key×V)} {k:List Key} (e:H a=some (.dT kvs)) (eb:H b=some (.tup (k.map kV))):pG H a (.ref b) (mf kvs k):=.inr ⟨kvs,k,b,.inl e,rfl,eb,rfl⟩
theorem yg.k {H:Hp} {a:Addr} {kvs:List (Key×V)} {k:Key} {v:V} (e:H a=some (.dK kvs)) (hl:kvs.length<sizeLine):yg H a (kV k) v (upd H a (.dK (putK kvs k v))):=.inl ⟨kvs,k,e,rfl,hl,rfl⟩
theorem yg.t {H:Hp} {a b:Addr} {kvs:List (List Key×V)} {k:List Key} {v:V} (e:H a=some (.dT kvs)) (eb:H b=some (.tup (k.map kV))) (hl:kvs.length<sizeLine) :
  yg H a (.ref b) v (upd H a (.dT (putK kvs k v))):=.inr ⟨kvs,k,b,e,rfl,eb,hl,rfl⟩
section
variable {X:Cx} {pins:List (Addr×Obj)} {σ:St} {H:Hp} {s:Shared} {a:Addr} {y v:V} {u r:Value} {o:Option V} {A:Around} {E:Value->Shared->Prop}
theorem Inv.big (I:Inv X pins σ H s):sysModules<s.heap.objs.size:=by
 have h:mainGlobals<s.heap.objs.size:=(I.mod.glob.keeps I.bk).lt
 exact Nat.lt_trans (by decide) h
theorem EB {Q:Value->Shared->Prop} (hu:A.units+1<cLine) (I:Inv X pins σ H s) (g:pG H a y (some v)) (ry:RelV y u) (h:∀w' s',Inv X pins σ H s'->RelV v w'->Q w' s') :
  wpAny (model X.prog X.w) A (getItem (.ref a) u) Q E s:=by
 rcases g with⟨kvs,k,e,ey,l⟩ | ⟨kvs,k,b,e,ey,eb,l⟩
 ·subst ey
  obtain⟨z,hd,vs,rel,dd⟩:=sR I.bO e
  obtain⟨w',hw,B6⟩:=mL.uA (v:=v) (o:=valueAt vs k) (by rw[l]; exact rel.val k)
  exact wpAny_getItem_of (qh ry) dd.mapOf hw (h w' _ (I.tok _) B6)
 ·subst ey
  cases (show u=Value.ref b from ry)
  obtain⟨z,hd,xs,rel,dd⟩:=uY I.bO e
  obtain⟨w',hw,B6⟩:=mL.uA (v:=v) (o:=(atKey xs k).map (·.2)) (by rw[l]; exact rel.val k)
  obtain⟨p,hp,C7⟩:=Option.map_eq_some_iff.mp hw
  refine wpAny_getItem_heap (tupleKind_room_in1 hu) (rq I.bO eb) dd hp ?_
  rw[C7]
  exact h w' _ (I.tok _) B6
theorem TM {Q:Value->Shared->Prop} (hu:A.units+1<cLine) (I:Inv X pins σ H s) (g:pG H a y o) (ry:RelV y u) (h:∀s',Inv X pins σ H s'->Q (.bool o.isSome) s') :
  wpAny (model X.prog X.w) A (compareOp .In u (.ref a)) Q E s:=by
 rcases g with⟨kvs,k,e,ey,l⟩ | ⟨kvs,k,b,e,ey,eb,l⟩
 ·subst ey
  obtain⟨z,hd,vs,rel,dd⟩:=sR I.bO e
  refine wpAny_in_of (qh ry) hd dd.mapOf ?_
  rw[← (rel.val k).ku,← l]
  exact h _ (I.tok _)
 ·subst ey
  cases (show u=Value.ref b from ry)
  obtain⟨z,hd,xs,rel,dd⟩:=uY I.bO e
  refine wpAny_in_heap (tupleKind_room_in1 hu) (rq I.bO eb) hd dd ?_
  have q:=(rel.val k).ku
  rw[Option.isSome_map] at q
  rw[← q,← l]
  exact h _ (I.tok _)
theorem Kd {Q:Value->Shared->Prop} (hu:A.units+1<cLine) (I:Inv X pins σ H s) (g:pG H a y o) (ry:RelV y u) (h:∀s',Inv X pins σ H s'->Q (.bool (!o.isSome)) s') :
  wpAny (model X.prog X.w) A (compareOp .NotIn u (.ref a)) Q E s:=by
 rcases g with⟨kvs,k,e,ey,l⟩ | ⟨kvs,k,b,e,ey,eb,l⟩
 ·subst ey
  obtain⟨z,hd,vs,rel,dd⟩:=sR I.bO e
  refine wpAny_notIn_of (qh ry) hd dd.mapOf ?_
  rw[← (rel.val k).ku,← l]
  exact h _ (I.tok _)
 ·subst ey
  cases (show u=Value.ref b from ry)
  obtain⟨z,hd,xs,rel,dd⟩:=uY I.bO e
  refine wpAny_notIn_heap (tupleKind_room_in1 hu) (rq I.bO eb) hd dd ?_
  have q:=(rel.val k).ku
  rw[Option.isSome_map] at q
  rw[← q,← l]
  exact h _ (I.tok _)
theorem qi {h':Heap} {t':Nat} {ob:HO} (I:Inv X pins σ H s) (mu:Pg (H a)) (hs:Heap.SameBut a s.heap h') (he:∃q,h'.get? a=some q) (new:dt X.prog X.w (upd H a ob) h' a ob) :
  Inv X pins σ (upd H a ob) { s with heap:=h',toks:=t' } :=
 I.write (x:=a) (e:=a) mu (.inl rfl) (fun b q hb z=>(hs.2 b hb).trans z) he new
theorem yh {P:Program} {w:World} {H':Hp} {h':Heap} {kvs:List (Key×V)} {vs:List (Key×Value)} (z:kvs.length≤sizeLine) (hd:(a == sysModules)=false) (rel:KV kvs vs) (dd:h'.DictOf (cf P w) a vs) :
  dt P w H' h' a (.dK kvs):=⟨z,hd,vs,rel,dd⟩
theorem EC {H':Hp} {Q:Unit->Shared->Prop} (hu:A.units+1<cLine) (I:Inv X pins σ H s) (g:yg H a y v H') (ry:RelV y u) (rv:RelV v r) (h:∀s',Inv X pins σ H' s'->Q () s') :
  wpAny (model X.prog X.w) A (setItem (.ref a) u r) Q E s:=by
 rcases g with⟨kvs,k,e,ey,l,eH⟩ | ⟨kvs,k,b,e,ey,eb,l,eH⟩
 ·subst ey eH
  obtain⟨z,hd,vs,rel,dd⟩:=uX I.bO e
  have hz:vs.length≤sizeLine:=by rw[← rel.length]; exact z
  have hl:(putK kvs k v).length≤sizeLine:=by have:=nP kvs k v; omega
  refine wpAny_setItem_pairs (hsz:=hz) (qh ry) dd fun h' ED hs=>h _ ?_
  have he:∃q,h'.get? a=some q:=let⟨q,_,_,hq,_⟩:=ED; ⟨q,hq⟩
  exact qi I (by rw[e]; exact True.intro) hs he (yh hl hd (rel.put k rv) ED)
 ·subst ey eH
  cases (show u=Value.ref b from ry)
  obtain⟨z,hd,xs,rel,dd⟩:=Qa I.bO e
  have hz:xs.length≤sizeLine:=by rw[← Paired.length rel]; exact z
  have hl:(putK kvs k v).length≤sizeLine:=by have:=nP kvs k v; omega
  refine wpAny_setItem_heap (hsz:=hz) (tupleKind_room_in1 hu) (rq I.bO eb) dd fun h' ED hs=>h _ ?_
  obtain⟨q,es,ep,hq,h2,h3,h4,_,h5⟩:=ED
  refine qi I (by rw[e]; exact True.intro) hs ⟨q,hq⟩ ⟨hl,hd,_,(rel.put k eb rv).keeps fun c ys ec=>?_,q,es,ep,hq,h2,h3,h4,h5⟩
  rw[az (Pf ec e (fun z=>nomatch z))]
  exact ec
end
section
variable {X:Cx} {pins:List (Addr×Obj)} {σ:St} {H:Hp} {s:Shared} {a:Addr} {kvs:List (Key×V)} {k:Key} {u:Value} {A:Around} {E:Value->Shared->Prop}
theorem OU {Q:Unit->Shared->Prop} (I:Inv X pins σ H s) (e:H a=some (.dK kvs)) (ry:RelV (kV k) u) (l:(mf kvs k).isSome=true) (h:∀s',Inv X pins σ (upd H a (.dK (sQ kvs k))) s'->Q () s') :
  wpAny (model X.prog X.w) A (delItem (.ref a) u) Q E s:=by
 obtain⟨z,hd,vs,rel,dd⟩:=uX I.bO e
 refine wpAny_delItem_slot dd.typeIs (by decide) PySem.F.slot_dict_delitem
  (call_meetsIn PySem.F.slot_dict_delitem dd.typeIs PySem.F.entry_dict_delitem (PySem.F.args_dict_delitem_2 _ _) (meets_dict_delitem_pairs (cf X.prog X.w) a (qh ry)) ⟨vs,dd,by rw[← rel.length]; exact z,by rw[← (rel.val k).ku]; exact l,fun h' ED hs=>h _ ?_⟩)
 have he:∃q,h'.get? a=some q:=let⟨q,_,_,hq,_⟩:=ED; ⟨q,hq⟩
 exact qi I (by rw[e]; exact True.intro) hs he (yh (Nat.le_trans (Ac kvs k) z) hd (rel.drop k) ED)
theorem Qb {v:V} {more:List Value} {Q:Value->Shared->Prop} (I:Inv X pins σ H s) (e:H a=some (.dK kvs)) (ry:RelV (kV k) u) (l:mf kvs k=some v) (hm:more=[]\/∃x,more=[x])
  (h:∀w' s',Inv X pins σ (upd H a (.dK (sQ kvs k))) s'->RelV v w'->Q w' s'):wpAny (model X.prog X.w) A (call (.builtin "dict.pop") (.ref a::u::more)) Q E s:=by
 obtain⟨z,hd,vs,rel,dd⟩:=uX I.bO e
 obtain⟨w',hw,B6⟩:=mL.uA (v:=v) (o:=valueAt vs k) (by rw[← l]; exact rel.val k)
 have hp:(keyPart u).isSome=true:=by
  cases k with
  | inl i=>obtain⟨t,q⟩:=(show ∃t,u=Value.int i t from ry); subst q; rfl
  | inr x=>obtain⟨t,q⟩:=(show ∃t,u=Value.str x t from ry); subst q; rfl
 have ha:argsOk "dict.pop" ⟨.ref a::u::more,[]⟩:=by
  rcases hm with q | ⟨x,q⟩
  ·subst q; exact PySem.F.args_dict_pop_2 _ _
  ·subst q; exact PySem.F.args_dict_pop_3 _ _ _
 refine call_meetsIn PySem.F.slot_dict_pop dd.typeIs PySem.F.entry_dict_pop ha (meets_dict_pop_there (cf X.prog X.w) a (qh ry) more hm hp)
  ⟨vs,w',dd,by rw[← rel.length]; exact z,hw,fun h' ED hs=>h w' _ ?_ B6⟩
 have he:∃q,h'.get? a=some q:=let⟨q,_,_,hq,_⟩:=ED; ⟨q,hq⟩
 exact qi I (by rw[e]; exact True.intro) hs he (yh (Nat.le_trans (Ac kvs k) z) hd (rel.drop k) ED)
theorem Qc {Q:Value->Shared->Prop} (I:Inv X pins σ H s) (e:Rd H a (.dK kvs)) (h:∀t s',Inv X pins σ H s'->Q (.int kvs.length t) s'):wpAny (model X.prog X.w) A (call (.builtin "len") [.ref a]) Q E s:=by
 obtain⟨z,hd,vs,rel,dd⟩:=sR I.bO e
 refine call_len_dict hd dd (by rw[← rel.length]; rw[sizeLine_eq] at z; omega) ?_
 rw[← rel.length]
 exact h _ _ (I.tok _)
end
theorem Ad {X:Cx} {pins:List (Addr×Obj)} {σ:St} {H:Hp} {s:Shared} {a:Addr} {y:V} {o:Option V} (I:Inv X pins σ H s) (g:pG H a y o):s.TypeIs (.ref a) "dict" := by
 rcases g with⟨kvs,k,e,_,_⟩ | ⟨kvs,k,b,e,_,_,_⟩
 ·obtain⟨_,_,vs,_,dd⟩:=sR I.bO e
  exact dd.typeIs
 ·obtain⟨_,_,xs,_,dd⟩:=uY I.bO e
  exact dd.typeIs
section
variable {X:Cx} {o i e value:Expr} {pos pos' wJ:Pos} {td ty tv:TE}
end
theorem Ae {P:Program} {w:World} {H:Hp} (h:Heap) (hb:sysModules<h.objs.size):dt P w H (h.push { cls:=.type "dict",data:=.dict #[] }) h.objs.size (.dK []) :=
 ⟨Nat.zero_le _,beq_eq_false_iff_ne.mpr (Ne.symm (Nat.ne_of_lt hb)),[],.nil,Heap.DictOf.new h⟩
noncomputable def Nj:TE:=fun _ H Q=>∀p,H p=none->Q (.ref p) (upd H p (.dK []))
section
variable {X:Cx} {pos:Pos}
theorem GK:PE X (.Dict [] [] pos) Nj:=fun pins s σ H Q I h =>
 wpAny_Dict_empty ⟨.ref s.heap.objs.size,_,I.laid (a:=s.heap.objs.size) (o:=.dK []) (t':=s.toks) (fun _ _ q=>Heap.get?_push_of_some _ q) (Nat.le_refl _) (Ae s.heap I.big),rfl,h _ (I.bO.fresh (Nat.le_refl _))⟩
end
noncomputable def yi:List (TE×TE)->St->Hp->(List (V×V)->Hp->Prop)->Prop
 | [],_,H,Q=>Q [] H
 | (tk,tv)::r,σ,H,Q=>tk σ H fun x H1=>tv σ H1 fun y H2=>yi r σ H2 fun ps H3=>Q ((x,y)::ps) H3
noncomputable abbrev VV:List (V×V)->List (Value×Value)->Prop:=Paired fun p q=>RelV p.1 q.1/\RelV p.2 q.2
noncomputable def Qd (X:Cx) (pos:Pos) (keys:List (Option Expr)) (values:List Expr) (eY:List (TE×TE)):Prop :=
 ∀(pins:List (Addr×Obj)) (s:Shared) (σ:St) (H:Hp) (Q:List (V×V)->Hp->Prop),Inv X pins σ H s->yi eY σ H Q →
  wpAny (model X.prog X.w) X.A (evalPairs (pairTrees keys values X.env pos)) (fun vs s'=>∃ps H',Inv X pins σ H' s'/\VV ps vs/\Q ps H') X.xe s
theorem Ke {X:Cx} {pos:Pos}:Qd X pos [] [] []:=fun pins s σ H Q I h=>pairTrees_nil_walk ⟨[],H,I,.nil,h⟩
theorem GL {X:Cx} {pos:Pos} {k v:Expr} {ks:List (Option Expr)} {vs:List Expr} {tk tv:TE} {eY:List (TE×TE)} (hk:PE X k tk) (hv:PE X v tv) (hr:Qd X pos ks vs eY) :
  Qd X pos (some k::ks) (v::vs) ((tk,tv)::eY):=fun pins s σ H Q I h =>
 pairTrees_cons_walk (eh (hk pins s σ H _ I h) fun u s1 ⟨x,H1,I1,rx,q1⟩=>eh (hv pins s1 σ H1 _ I1 q1) fun w2 s2 ⟨y,H2,I2,ry,q2⟩ =>
  eh (hr pins s2 σ H2 _ I2 q2) fun ws s3 ⟨ps,H3,I3,rel,q3⟩=>⟨(x,y)::ps,H3,I3,.cons ⟨rx,ry⟩ rel,q3⟩)
noncomputable def mP (kvs more:List (Key×V)):List (Key×V):=more.foldl (fun acc kv=>putK acc kv.1 kv.2) kvs
theorem KV.merge:∀{more:List (Key×V)} {rs:List (Key×Value)} {kvs:List (Key×V)} {vs:List (Key×Value)},KV more rs->KV kvs vs->KV (mP kvs more) (merged vs rs):=by
 intro more rs kvs vs r
 unfold KV at r
 induction r generalizing kvs vs with
 | nil=>intro q; exact q
 | @cons p q ps qs h t ih =>
  intro r0
  have e:KV (putK kvs p.1 p.2) (stored vs q.1 q.2):=by
   have:=r0.put p.1 h.2
   rw[← h.1]; exact this
  exact ih e
theorem pb:∀(more kvs:List (Key×V)),(mP kvs more).length≤kvs.length+more.length
 | [],kvs=>by show kvs.length≤kvs.length+0; omega
 | p::r,kvs=>by
  have h1:=pb r (putK kvs p.1 p.2)
  have h2:=nP kvs p.1 p.2
  show(mP (putK kvs p.1 p.2) r).length≤_
  rw[zE]; omega
theorem uZ {P:Program} {w:World}:∀{kvs:List (Key×V)} {ws:List (Value×Value)},VV (kvs.map fun kv=>(kV kv.1,kv.2)) ws->∃rs,Carries (cf P w) ws rs/\KV kvs rs
 | [],_,r=>by rw[zD] at r; cases r; exact⟨[],True.intro,.nil⟩
 | p::kvs,_,r=>by
  rw[zC] at r
  cases r with
  | @cons a b as bs h t =>
   obtain⟨rs,c,q⟩:=uZ (P:=P) (w:=w) t
   obtain⟨b1,b2⟩:=b
   exact⟨(p.1,b2)::rs,⟨qh h.1,rfl,c⟩,.cons ⟨rfl,h.2⟩ q⟩
noncomputable def Qe (eY:List (TE×TE)):TE:=fun σ H Q=>∀p,H p=none->yi eY σ (upd H p (.dK [])) fun ps H2=>H2 p=some (.dK [])/\∃kvs:List (Key×V),ps=kvs.map (fun kv=>(kV kv.1,kv.2))/\kvs.length≤15/\Q (.ref p) (upd H2 p (.dK (mP [] kvs)))
theorem Kf {X:Cx} {pos:Pos} {keys:List (Option Expr)} {values:List Expr} {eY:List (TE×TE)} (h:Qd X pos keys values eY) (GN:keys.all (·.isSome)=true) (hl:keys.length=values.length) (h0:keys≠[])
  (TN:keys.length≤15):PE X (.Dict keys values pos) (Qe eY):=by
 intro pins s σ H Q I q
 have hn:=I.bO.fresh (Nat.le_refl s.heap.objs.size)
 have I1:=I.laid (a:=s.heap.objs.size) (o:=.dK []) (h':=s.heap.push { cls:=.type "dict",data:=.dict #[] }) (t':=s.toks) (fun _ _ q=>Heap.get?_push_of_some _ q) (Nat.le_refl _) (Ae s.heap I.big)
 refine wpAny_Dict_walk (knd:=cf X.prog X.w) GN hl h0 TN (eh (h pins _ σ _ _ I1 (q _ hn)) fun ws s2 ⟨ps,H2,I2,rel,e,kvs,ep,lk,q2⟩=>?_)
 subst ep
 obtain⟨rs,c,rk⟩:=uZ (P:=X.prog) (w:=X.w) rel
 obtain⟨z,hd,Zp,r0,dd⟩:=uX I2.bO e
 cases r0
 refine⟨rs,c,dd,fun h' ED hs=>⟨.ref s.heap.objs.size,_,?_,rfl,q2⟩⟩
 have hz:(mP [] kvs).length≤sizeLine:=by
  have h1:=pb kvs []
  rw[zF] at h1
  rw[sizeLine_eq]; omega
 have he:∃q,h'.get? s.heap.objs.size=some q:=let⟨q,_,_,hq,_⟩:=ED; ⟨q,hq⟩
 exact qi I2 (by rw[e]; exact True.intro) hs he (yh hz hd (rk.merge .nil) ED)
structure M1 (X:Cx) (o:Expr) (m:Str) (apos:Pos) (e:Expr) (cI:Pos):Prop where
 base:attributeBase o m X.env (eval o X.env)=eval o X.env
 pd:((backTo cI (starEach [e] X.env)).all (fun x=>!x.1) && (backToKw cI (keywordEach [] X.env)).all (fun x=>x.1.isSome)
  && decide (([e]:List Expr).length+([]:List Keyword).length+(if ([]:List Keyword).isEmpty then 0 else 1)<30))=true
 line:(apos.endLine == cI.line)=true
 trees:backTo cI (starEach [e] X.env)=[(false,eval e X.env)]
structure M2 (X:Cx) (o:Expr) (m:Str) (apos:Pos) (e f:Expr) (cI:Pos):Prop where
 base:attributeBase o m X.env (eval o X.env)=eval o X.env
 pd:((backTo cI (starEach [e,f] X.env)).all (fun x=>!x.1) && (backToKw cI (keywordEach [] X.env)).all (fun x=>x.1.isSome)
  && decide (([e,f]:List Expr).length+([]:List Keyword).length+(if ([]:List Keyword).isEmpty then 0 else 1)<30))=true
 line:(apos.endLine == cI.line)=true
 trees:backTo cI (starEach [e,f] X.env)=[(false,eval e X.env),(false,eval f X.env)]
noncomputable def Qf (H:Hp) (a:Addr):Prop:=(∃kvs,Rd H a (.dK kvs))\/∃kvs,Rd H a (.dT kvs)
theorem B7 {X:Cx} {pins:List (Addr×Obj)} {σ:St} {H:Hp} {s:Shared} {a:Addr} (I:Inv X pins σ H s) (d:Qf H a) :
  s.TypeIs (.ref a) "dict" /\ (∀b,Value.ref a=.ref b->∃ob,s.heap.get? b=some ob/\ob.dict=none)/\(a == sysModules)=false:=by
 rcases d with⟨kvs,e⟩ | ⟨kvs,e⟩
 ·obtain⟨_,hd,vs,_,dd⟩:=sR I.bO e
  refine⟨dd.typeIs,fun b q=>?_,hd⟩
  cases q
  obtain⟨ob,_,_,h1,h2,_⟩:=dd
  exact⟨ob,h1,h2.2.1⟩
 ·obtain⟨_,hd,xs,_,dd⟩:=uY I.bO e
  refine⟨dd.typeIs,fun b q=>?_,hd⟩
  cases q
  obtain⟨ob,_,_,h1,h2,_⟩:=dd
  exact⟨ob,h1,h2.2.1⟩
section
variable {X:Cx} {pins:List (Addr×Obj)} {σ:St} {H:Hp} {s:Shared} {a:Addr} {y d:V} {u r:Value} {o:Option V} {A:Around} {E:Value->Shared->Prop}
theorem Nk {Q:Value->Shared->Prop} (hu:A.units+1<cLine) (I:Inv X pins σ H s) (g:pG H a y o) (ry:RelV y u) (h:∀w' s',Inv X pins σ H s'->RelV (o.getD .aN) w'->Q w' s') :
  wpAny (model X.prog X.w) A (call (.builtin "dict.get") [.ref a,u]) Q E s:=by
 rcases g with⟨kvs,k,e,ey,l⟩ | ⟨kvs,k,b,e,ey,eb,l⟩
 ·subst ey
  obtain⟨z,hd,vs,rel,dd⟩:=sR I.bO e
  refine call_meetsIn PySem.F.slot_dict_get dd.typeIs PySem.F.entry_dict_get (PySem.F.args_dict_get_2 _ _) (meets_dict_get (cf X.prog X.w) a (qh ry) hd) ⟨_,dd.mapOf,h _ _ (I.tok _) ?_⟩
  rw[l]
  exact(rel.val k).getD rfl
 ·subst ey
  cases (show u=Value.ref b from ry)
  obtain⟨z,hd,xs,rel,dd⟩:=uY I.bO e
  refine call_meetsIn PySem.F.slot_dict_get dd.typeIs PySem.F.entry_dict_get (PySem.F.args_dict_get_2 _ _) (meetsH_dict_get (tupleKind (cf X.prog X.w)) a b hd) ⟨tupleKind_room_in1 hu,k,xs,rq I.bO eb,dd,h _ _ (I.tok _) ?_⟩
  rw[l]
  exact(rel.val k).getD rfl
end
noncomputable def Nl (td ty:TE):TE:=fun σ H Q=>td σ H fun x H1=>∃a,x=.ref a/\Qf H1 a/\ty σ H1 fun y H2=>∃o,pG H2 a y o/\Q (o.getD .aN) H2
noncomputable def Nm (td ty:TE):TE:=fun σ H Q=>td σ H fun x H1=>∃a,x=.ref a/\Qf H1 a/\ty σ H1 fun y H2=>∃kvs k v,H2 a=some (.dK kvs)/\y=kV k/\mf kvs k=some v/\Q v (upd H2 a (.dK (sQ kvs k)))
section
variable {X:Cx} {o e f:Expr} {apos cI:Pos} {td ty tx:TE}
theorem GO (hu:X.A.units+1<cLine) (ho:PE X o td) (he:PE X e ty) (m:M1 X o "get" apos e cI):PE X (.Call (.Attribute o "get" apos) [e] [] cI) (Nl td ty):=by
 intro pins s σ H Q I h
 refine wpAny_Call_method m.base m.pd m.line PySem.F.plainAttrs_dict PySem.F.slot_dict_get PySem.F.type_dict_get (eh (ho pins s σ H _ I h) fun u s1 ⟨x,H1,I1,rx,a,ex,d,q1⟩=>?_)
 subst ex
 obtain rfl:u=Value.ref a:=rx
 obtain⟨t1,t2,_⟩:=B7 I1 d
 refine⟨t1,t2,?_⟩
 rw[m.trees]
 refine Calls.callWith_builtin rfl (Calls.evalArgs_plain (Calls.spliced_cons (eh (he pins s1 σ H1 _ I1 q1) fun iv s2 ⟨y,H2,I2,ry,ov,g,q2⟩=>Calls.spliced_nil ?_)))
 exact Nk hu I2 g ry fun w' s3 I3 B6=>⟨_,H2,I3,B6,q2⟩
theorem GP (ho:PE X o td) (he:PE X e ty) (m:M1 X o "pop" apos e cI):PE X (.Call (.Attribute o "pop" apos) [e] [] cI) (Nm td ty):=by
 intro pins s σ H Q I h
 refine wpAny_Call_method m.base m.pd m.line PySem.F.plainAttrs_dict PySem.F.slot_dict_pop PySem.F.type_dict_pop (eh (ho pins s σ H _ I h) fun u s1 ⟨x,H1,I1,rx,a,ex,d,q1⟩=>?_)
 subst ex
 obtain rfl:u=Value.ref a:=rx
 obtain⟨t1,t2,_⟩:=B7 I1 d
 refine⟨t1,t2,?_⟩
 rw[m.trees]
 refine Calls.callWith_builtin rfl (Calls.evalArgs_plain (Calls.spliced_cons (eh (he pins s1 σ H1 _ I1 q1) fun iv s2 ⟨y,H2,I2,ry,kvs,k,v,ea,ey,l,q2⟩=>Calls.spliced_nil ?_)))
 subst ey
 exact Qb I2 ea ry l (.inl rfl) fun w' s3 I3 B6=>⟨v,_,I3,B6,q2⟩
end
section
variable {X:Cx} {pins:List (Addr×Obj)} {σ:St} {H:Hp} {s:Shared} {a:Addr} {kvs:List (Key×V)} {A:Around} {E:Value->Shared->Prop}
end
section
variable {X:Cx} {pins:List (Addr×Obj)} {σ:St} {H:Hp} {s:Shared} {a:Addr} {y:V} {u:Value} {A:Around} {E:Value->Shared->Prop}
end
end L2
namespace HT
open PySem PyProof.Rows
section
open PySem.SeqAt
open PySem.AutoSeq1 (wpAny_loadPart')
open PySem.MeetsSeq PySem.MeetsSeq2 PySem.MeetsSeq3
end
section
variable {prog:Program} {w:World} {A:Around} {E:Value->Shared->Prop} {s:Shared}
theorem Kg {t b:Addr} {vs ws:List Value} {Q:Value->Shared->Prop} (ht:IsTup s.heap t vs.toArray) (hb:IsTup s.heap b ws.toArray) (hv:vs≠[])
  (h1:ws=[]->Q (.ref t) s) (h2:ws≠[]->Q (.ref s.heap.objs.size) { s with heap:=s.heap.push { cls:=.type "tuple",data:=.seq (vs++ws).toArray } })
  (hsz:vs.length+ws.length≤sizeLine):wpAny (model prog w) A (binaryOp .Add (.ref t) (.ref b)) Q E s:=by
 obtain⟨⟨cls,dd,data,sl⟩,ho,hc,n,hd⟩:=id ht
 obtain⟨⟨Xn,V2,data2,TQ⟩,JB,V3,n2,Np⟩:=id hb
 simp only at hc hd V3 Np
 subst hc hd V3 Np
 have e:vs.toArray++ws.toArray=(vs++ws).toArray:=by simp
 by_cases hw:ws=[]
 ·exact concat_meets ⟨_,ho,rfl⟩ ⟨_,JB,rfl⟩ noFill_tuple_add seq_tuple_add PySem.F.slot_tuple_add PySem.F.entry_tuple_add (PySem.F.args_tuple_add_2 _ _)
   (tuple_addW1 t b vs.toArray ws.toArray n n2 dd V2 sl TQ (by simpa using hv) (by simp[hw])) ⟨ho,JB,h1 hw⟩
 ·refine concat_meets ⟨_,ho,rfl⟩ ⟨_,JB,rfl⟩ noFill_tuple_add seq_tuple_add PySem.F.slot_tuple_add PySem.F.entry_tuple_add (PySem.F.args_tuple_add_2 _ _)
   (tuple_addW2 t b vs.toArray ws.toArray n n2 dd V2 sl TQ (by simpa using hv) (by simpa using hw) (by rw[List.size_toArray,List.size_toArray]; exact hsz)) ⟨ho,JB,?_⟩
  rw[e]
  exact h2 hw
noncomputable def je (n d:Nat):Option Int->Nat
 | none=>d
 | some v=>if v<0 then(v+(n:Int)).toNat else min v.toNat n
theorem Af (n d:Nat):je n d none=d:=rfl
theorem C8 (n d k:Nat):je n d (some (k:Int))=min k n:=by
 show(if (k:Int)<0 then((k:Int)+(n:Int)).toNat else min (k:Int).toNat n)=min k n
 rw[if_neg (by omega),Int.toNat_natCast]
theorem Nq (n d:Nat) (hd:d≤n) (o:Option Int):je n d o≤n:=by
 cases o with
 | none=>exact hd
 | some v =>
  show(if v<0 then(v+(n:Int)).toNat else min v.toNat n)≤n
  by_cases hv:v<0
  ·rw[if_pos hv]; omega
  ·rw[if_neg hv]; exact Nat.min_le_right _ _
theorem C9 (v:Int) (n d:Nat):(if v<0 then max (v+(n:Int)) 0 else min v (n:Int))=((je n d (some v):Nat):Int):=by
 show(if v<0 then max (v+(n:Int)) 0 else min v (n:Int))=(((if v<0 then(v+(n:Int)).toNat else min v.toNat n):Nat):Int)
 by_cases hv:v<0
 ·simp only[if_pos hv]; omega
 ·simp only[if_neg hv]; omega
theorem B8 (lo hi:Option Int) (n:Nat):Builtin.Slice.sliceAdjust lo hi 1 (n:Int)=(((je n 0 lo:Nat):Int),((je n n hi:Nat):Int)):=by
 have h1:¬((1:Int)<0):=by omega
 unfold Builtin.Slice.sliceAdjust
 simp only[h1,if_false]
 refine Prod.ext ?_ ?_
 ·cases lo with
  | none=>rfl
  | some v=>exact C9 v n 0
 ·cases hi with
  | none=>rfl
  | some v=>exact C9 v n n
theorem B9 (i j:Nat):Builtin.Slice.slicePlaces (i:Int) (j:Int) 1=j-i:=by
 unfold Builtin.Slice.slicePlaces
 have h1:(1:Int) > 0:=by omega
 simp only[h1,if_true,Int.ediv_one]
 split<;>omega
theorem u0 {v:Value} {o:Option Int} {Q:Option Int->Shared->Prop} (p:IsPart v o) (h:Q o s):wpAny (model prog w) A (Builtin.Slice.slicePartIndex v) Q E s:=by
 cases p with
 | none=>exact slicePart_none h
 | int i t=>exact slicePart_int h
theorem rA {sl:Addr} {vl vu:Value} {lo hi:Option Int} {n:Nat} {Q:Int×Int×Nat->Shared->Prop} (hs:s.heap.IsSliceOf sl vl vu .none) (pl:IsPart vl lo) (pu:IsPart vu hi)
  (h:Q (((je n 0 lo:Nat):Int),1,je n n hi-je n 0 lo) s):wpAny (model prog w) A (Builtin.Slice.sliceApplied (.ref sl) (pure (n:Int))) Q E s:=by
 obtain⟨os,Qg,V4,R6⟩:=id hs
 unfold Builtin.Slice.sliceApplied Builtin.Slice.sliceFields
 refine wpAny_bind (wpAny_bind (wpAny_field Qg R6 (x:=vl) rfl (wpAny_bind (wpAny_field Qg R6 (x:=vu) rfl (wpAny_bind (wpAny_field Qg R6 (x:=.none) rfl (wpAny_pure ?_)))))))
 refine wpAny_bind (slicePart_none ?_)
 show wpAny _ _ (if ((1:Int) == 0)=true then _ else _) _ _ s
 rw[if_neg (by decide)]
 refine wpAny_bind (u0 pl (wpAny_bind (u0 pu (wpAny_bind (wpAny_pure ?_)))))
 show wpAny _ _ (match Builtin.Slice.sliceAdjust lo hi 1 (n:Int) with | (lo,hi)=>pure (lo,(1:Int),Builtin.Slice.slicePlaces lo hi 1)) _ _ s
 rw[B8 lo hi n]
 show wpAny _ _ (pure (((je n 0 lo:Nat):Int),(1:Int),Builtin.Slice.slicePlaces ((je n 0 lo:Nat):Int) ((je n n hi:Nat):Int) 1)) _ _ s
 rw[B9]
 exact wpAny_pure h
theorem GQ (xs:Array Value) (i k:Nat):((List.range k).filterMap fun(m:Nat)=>xs[((i:Int)+(m:Int)*1).toNat]?).toArray=((xs.toList.drop i).take k).toArray:=by
 have e:(fun(m:Nat)=>xs[((i:Int)+(m:Int)*1).toNat]?)=fun m=>xs[i+m]? := by
  funext m
  have:((i:Int)+(m:Int)*1).toNat=i+m:=by omega
  rw[this]
 rw[e]
 have:=pick_run xs i k
 rw[List.filterMap_map] at this
 have e2:((fun x=>xs[x]?) ∘ fun x=>i+x)=fun m=>xs[i+m]? := rfl
 rw[e2] at this
 rw[this]
theorem qj {t sl:Addr} {items:Array Value} {vl vu:Value} {lo hi:Option Int} {Q:Value->Shared->Prop} (ht:IsTup s.heap t items) (hs:s.heap.IsSliceOf sl vl vu .none) (pl:IsPart vl lo) (pu:IsPart vu hi)
  (hw:¬(je items.size 0 lo=0/\je items.size items.size hi=items.size))
  (h:Q (.ref s.heap.objs.size) { s with heap:=s.heap.push { cls:=.type "tuple",data:=.seq ((items.toList.drop (je items.size 0 lo)).take (je items.size items.size hi-je items.size 0 lo)).toArray } })
  (hsz:items.size≤sizeLine):wpAny (model prog w) A (getItem (.ref t) (.ref sl)) Q E s:=by
 have Dc:sizeOk (.seq ((items.toList.drop (je items.size 0 lo)).take (je items.size items.size hi-je items.size 0 lo)).toArray):=by
  show((items.toList.drop (je items.size 0 lo)).take (je items.size items.size hi-je items.size 0 lo)).toArray.size≤sizeLine
  rw[List.size_toArray,List.length_take,List.length_drop,Array.length_toList]
  omega
 have hj:je items.size items.size hi≤items.size:=Nq _ _ (Nat.le_refl _) hi
 obtain⟨os,Qg,V4,R6⟩:=id hs
 have Xo:s.TypeIs (.ref sl) "slice" := ⟨os,Qg,V4⟩
 unfold getItem
 try with_reducible refine wpAny_holding ?_
 first | refine wpAny_bind (wpAny_pure ?_) | skip
 refine wpAny_bind (wpAny_sequenceKey ht.typeIs (by decide) ?_)
 refine wpAny_bind (wpAny_callSpecial?_slot (name:=Str.ofString "__getitem__") ht.typeIs PyProof.Rows.slot_tuple_getitem
  (wpAny_call_entry PyProof.Rows.slot_tuple_getitem ht.typeIs entry_tuple_getitem ?_ (args_tuple_getitem _ _)))
 show wpAny _ _ (Builtin.Tuple.tupleItemsOf (.ref t) >>= _) _ _ s
 refine wpAny_bind (tupleItemsOf_ ht ?_)
 refine wpAny_bind (wpAny_typeOf Xo ?_)
 rw[if_pos (by decide)]
 refine wpAny_bind (rA hs pl pu ?_)
 have Qh:¬((((je items.size 0 lo:Nat):Int) == 0 && (1:Int) == 1 && (je items.size items.size hi-je items.size 0 lo) == items.size)=true):=by
  intro q
  rw[Bool.and_eq_true,Bool.and_eq_true] at q
  have q1:((je items.size 0 lo:Nat):Int)=0:=eq_of_beq q.1.1
  have q2:je items.size items.size hi-je items.size 0 lo=items.size:=eq_of_beq q.2
  exact hw ⟨by omega,by omega⟩
 show wpAny _ _ (if (((je items.size 0 lo:Nat):Int) == 0 && (1:Int) == 1 && (je items.size items.size hi-je items.size 0 lo) == items.size)=true then _ else _) _ _ s
 rw[if_neg Qh,GQ]
 first
  | exact wpAny_bind (m:=Builtin.Tuple.tupleExact _) (wpAny_newObj_type (wpAny_pure ⟨_,rfl,wpAny_pure h⟩) Dc)
  | exact wpAny_bind (m:=Builtin.Tuple.tupleExact _) (wpAny_newObj_type (wpAny_bind (wpAny_pure (wpAny_pure ⟨_,rfl,wpAny_pure h⟩))) Dc)
  | exact wpAny_bind (wpAny_bind (m:=Builtin.Tuple.tupleExact _) (wpAny_newObj_type (wpAny_pure (wpAny_pure ⟨_,rfl,wpAny_pure h⟩)) Dc))
  | exact wpAny_bind (wpAny_bind (m:=Builtin.Tuple.tupleExact _) (wpAny_newObj_type (wpAny_pure ⟨_,rfl,wpAny_pure h⟩) Dc))
end
end HT
namespace L2
open PySem PySem.Spec PyProof.Rows
noncomputable abbrev TO:=St->Hp->(Option Int->Hp->Prop)->Prop
noncomputable def PO (X:Cx) (e:Option Expr) (t:TO):Prop :=
 ∀(pins:List (Addr×Obj)) (s:Shared) (σ:St) (H:Hp) (Q:Option Int->Hp->Prop),Inv X pins σ H s->t σ H Q →
  wpAny (model X.prog X.w) X.A (evalPart e X.env) (fun u s'=>∃o H',Inv X pins σ H' s'/\IsPart u o/\Q o H') X.xe s
noncomputable def Kh:TO:=fun _ H Q=>Q none H
noncomputable def Qi (t:TE):TO:=fun σ H Q=>t σ H fun x H1=>∃i,x=.int i/\Q (some i) H1
section
variable {X:Cx} {e:Expr} {te:TE} {lo hi:Option Expr} {tl th:TO} {pos p2:Pos}
theorem Ki:PO X none Kh:=by
 intro pins s σ H Q I h
 rw[evalPart_none]
 exact wpAny_pure ⟨none,H,I,.none,h⟩
theorem Kj (h:PE X e te):PO X (some e) (Qi te):=by
 intro pins s σ H Q I hw
 rw[evalPart_some]
 refine eh (h pins s σ H _ I hw) fun u s1 ⟨x,H1,I1,r1,q1⟩=>?_
 obtain⟨i,rfl,q⟩:=q1
 obtain⟨t,rfl⟩:=r1
 exact⟨some i,H1,I1,.int i t,q⟩
noncomputable def GR (X:Cx) (r:V->Option Int->Option Int->Hp->VK->Prop):Prop :=
 ∀(pins:List (Addr×Obj)) (s:Shared) (σ:St) (H:Hp) (x:V) (v vl vu:Value) (lo hi:Option Int) (sl:Addr) (Q:VK),Inv X pins σ H s->RelV x v->s.heap.IsSliceOf sl vl vu .none->IsPart vl lo->IsPart vu hi->r x lo hi H Q →
  ∃T id,typeLookup (.type T) "__getitem__" = pure (some (.builtin id))/\s.TypeIs v T/\wpAny (model X.prog X.w) X.A (getItem v (.ref sl)) (EP X pins σ Q) X.xe s
theorem GR.or {r r':V->Option Int->Option Int->Hp->VK->Prop} (h:GR X r) (h':GR X r'):GR X (fun x lo hi H Q=>r x lo hi H Q\/r' x lo hi H Q):=by
 intro pins s σ H x v vl vu lo hi sl Q I rx hs pl pu q
 rcases q with q | q
 ·exact h pins s σ H x v vl vu lo hi sl Q I rx hs pl pu q
 ·exact h' pins s σ H x v vl vu lo hi sl Q I rx hs pl pu q
noncomputable def Xp (r:V->Option Int->Option Int->Hp->VK->Prop) (te:TE) (tl th:TO):TE:=fun σ H Q=>te σ H fun x H1=>tl σ H1 fun l H2=>th σ H2 fun u H3=>r x l u H3 Q
theorem GS {r:V->Option Int->Option Int->Hp->VK->Prop} (hr:GR X r) (he:PE X e te) (hl:PO X lo tl) (hu:PO X hi th):PE X (.Subscript e (.Slice lo hi none p2) pos) (Xp r te tl th):=by
 intro pins s σ H Q I h
 refine Subscript_ (eh (he pins s σ H _ I h) fun v s1 ⟨x,H1,I1,r1,q1⟩=>?_)
 refine wpAny_Slice (eh (hl pins s1 σ H1 _ I1 q1) fun vl s2 ⟨l,H2,I2,pl,q2⟩=>eh (hu pins s2 σ H2 _ I2 q2) fun vu s3 ⟨u,H3,I3,pu,q3⟩=>?_)
 rw[evalPart_none]
 refine wpAny_pure ?_
 have I4:Inv X pins σ H3 { s3 with heap:=s3.heap.push { cls:=.type "slice",data:=.fields #[vl,vu,.none] } }:=I3.kept (t':=s3.toks) fun b ob q=>Heap.get?_push_of_some _ q
 obtain⟨T,id,hT,ht,hg⟩:=hr pins { s3 with heap:=s3.heap.push { cls:=.type "slice",data:=.fields #[vl,vu,.none] } } σ H3 x v vl vu l u s3.heap.objs.size Q I4 r1 (Heap.IsSliceOf.new ..) pl pu q3
 show wpAny (model X.prog X.w) X.A (subscriptTail e (.Slice lo hi none p2) v (.ref s3.heap.objs.size)) (EP X pins σ Q) X.xe { s3 with heap:=s3.heap.push { cls:=.type "slice",data:=.fields #[vl,vu,.none] } }
 exact tail_any (ops:=[.ref s3.heap.objs.size,v]) ht hT hg (by with_unfolding_all rfl)
noncomputable def yj (xs:List V) (lo hi:Option Int):List V:=(xs.drop (HT.je xs.length 0 lo)).take (HT.je xs.length xs.length hi-HT.je xs.length 0 lo)
theorem sS (xs:List V) (lo hi:Option Int):(yj xs lo hi).length≤xs.length:=by
 unfold yj
 rw[List.length_take,List.length_drop]
 omega
noncomputable def TR (K:Fg):V->Option Int->Option Int->Hp->VK->Prop:=fun x lo hi H Q=>∃a xs,x=.ref a/\wH K H a xs ∧
 ¬(HT.je xs.length 0 lo=0/\HT.je xs.length xs.length hi=xs.length)/\∀p,H p=none->Q (.ref p) (upd H p (.tup (yj xs lo hi)))
theorem Nr:GR X (TR X.K):=by
 intro pins s σ H x v vl vu lo hi sl Q I rx hs pl pu h
 obtain⟨a,xs,rfl,hx,hw,q⟩:=h
 cases rx
 obtain⟨bg,r,ht,hz⟩:=I.tuple hx
 have hlen:bg.toArray.size=xs.length:=by rw[List.size_toArray]; exact r.length.symm
 refine⟨"tuple",_,PyProof.Rows.slot_tuple_getitem.lookup,ht.typeIs,?_⟩
 refine HT.qj ht hs pl pu (by rw[hlen]; exact hw) ?_ (by rw[hlen]; exact hz)
 rw[hlen]
 refine⟨.ref s.heap.objs.size,_,I.laid (t':=s.toks) (o:=.tup (yj xs lo hi)) (fun b ob q=>Heap.get?_push_of_some _ q) (Nat.le_refl _) ?_,rfl,q _ (I.bO.fresh (Nat.le_refl _))⟩
 exact⟨Nat.le_trans (sS xs lo hi) hz,_,(r.drop (HT.je xs.length 0 lo)).take (HT.je xs.length xs.length hi-HT.je xs.length 0 lo),IsTup.new _ _⟩
noncomputable def L9 (K:Fg):R2:=fun x y H Q=>∃a b xs ys,x=.ref a/\y=.ref b/\wH K H a xs/\wH K H b ys/\xs≠[]/\xs.length+ys.length≤sizeLine ∧
 (ys=[]->Q (.ref a) H)/\(ys≠[]->∀p,H p=none->Q (.ref p) (upd H p (.tup (xs++ys))))
theorem Vals.yk {xs:List V} {us:List Value} (r:Vals xs us):us=[]↔xs=[]:=by
 cases r with
 | nil=>simp
 | cons _ _=>simp
theorem Kk:j3 X (binaryOp .Add) (L9 X.K):=by
 intro pins s σ H x y v u Q I rx ry h
 obtain⟨a,b,xs,ys,rfl,rfl,ha,hb,hx,hz,q1,q2⟩:=h
 cases rx
 cases ry
 obtain⟨bg,r1,p1,_⟩:=I.tuple ha
 obtain⟨Ag,r2,p2,_⟩:=I.tuple hb
 refine HT.Kg p1 p2 (fun z=>hx (r1.yk.mp z)) (fun z=>⟨.ref a,H,I,rfl,q1 (r2.yk.mp z)⟩) (fun z=>?_) (by rw[← r1.length,← r2.length]; exact hz)
 refine⟨.ref s.heap.objs.size,_,I.laid (t':=s.toks) (o:=.tup (xs++ys)) (fun b ob q=>Heap.get?_push_of_some _ q) (Nat.le_refl _) ?_,rfl,q2 (fun w=>z (r2.yk.mpr w)) _ (I.bO.fresh (Nat.le_refl _))⟩
 exact⟨by rw[List.length_append]; exact hz,_,r1.append r2,IsTup.new _ _⟩
end
end L2
namespace L2
open PySem PySem.Spec PyProof.Rows
noncomputable def EE (n:Nat) (i:Int):Option Nat:=if 0≤i then(if i<n then some i.toNat else none) else if -(n:Int)≤i then some (i+n).toNat else none
noncomputable def EF {α:Type} (xs:List α) (i:Int):Option α:=(EE xs.length i).bind fun j=>xs[j]?
theorem Dd {n:Nat} {i:Int} {j:Nat} (h:EE n i=some j):seqIndex? i n=some j/\j<n /\ -(n:Int)≤i/\i<n:=by
 unfold EE at h
 by_cases h0:0≤i
 ·rw[if_pos h0] at h
  by_cases h1:i<n
  ·rw[if_pos h1] at h
   have e:i.toNat=j:=Option.some.inj h
   exact⟨by rw[seqIndex_of h0 h1,e],by omega,by omega,h1⟩
  ·rw[if_neg h1] at h; cases h
 ·rw[if_neg h0] at h
  by_cases h1 : -(n:Int)≤i
  ·rw[if_pos h1] at h
   have e:(i+n).toNat=j:=Option.some.inj h
   exact⟨by rw[seqIndex_neg (by omega) h1,e],by omega,h1,by omega⟩
  ·rw[if_neg h1] at h; cases h
theorem De {α:Type} {xs:List α} {i:Int} {v:α} (h:EF xs i=some v):∃j,seqIndex? i xs.length=some j/\xs[j]? = some v/\j<xs.length /\ -(xs.length:Int)≤i/\i<xs.length:=by
 unfold EF at h
 cases e:EE xs.length i with
 | none=>rw[e] at h; cases h
 | some j =>
  rw[e] at h
  obtain⟨h1,h2,h3,h4⟩:=Dd e
  exact⟨j,h1,h,h2,h3,h4⟩
noncomputable def Df (b:Expr):Prop:=∀o i,subscripted b false o i=operate [o,i] (getItem o i)
noncomputable def Kl (X:Cx) (r:R2):Prop :=
 ∀(value slice:Expr) (pins:List (Addr×Obj)) (s:Shared) (σ:St) (H:Hp) (x y:V) (v u:Value) (Q:VK),Inv X pins σ H s->RelV x v->RelV y u->r x y H Q →
  subscripted slice false v u=operate [v,u] (getItem v u)->wpAny (model X.prog X.w) X.A (subscriptTail value slice v u) (EP X pins σ Q) X.xe s
noncomputable def GU (X:Cx) (id:String) (r:V->List V->Hp->VK->Prop):Prop :=
 ∀(pins:List (Addr×Obj)) (s:Shared) (σ:St) (H:Hp) (x:V) (xs:List V) (v:Value) (us:List Value) (Q:VK),Inv X pins σ H s->RelV x v->Vals xs us->r x xs H Q →
  wpAny (model X.prog X.w) X.A (call (.builtin id) (v::us)) (EP X pins σ Q) X.xe s
section
variable {X:Cx} {a b:Expr} {ta tb:TE} {pos:Pos}
theorem Kl.or {r r':R2} (h:Kl X r) (h':Kl X r'):Kl X (fun x y H Q=>r x y H Q\/r' x y H Q):=by
 intro value slice pins s σ H x y v u Q I rx ry q hs
 rcases q with q | q
 ·exact h value slice pins s σ H x y v u Q I rx ry q hs
 ·exact h' value slice pins s σ H x y v u Q I rx ry q hs
theorem Qj {r:R2} (hr:Kl X r) (ha:PE X a ta) (hb:PE X b tb) (hs:Df b):PE X (.Subscript a b pos) (PD r ta tb):=by
 intro pins s σ H Q I h
 exact Subscript_ (MW ha hb I h fun v u s2 x y H2 I2 rx ry q=>hr a b pins s2 σ H2 x y v u Q I2 rx ry q (hs _ _))
noncomputable def TU (K:Fg):R2:=fun x y H Q=>∃p xs i v,x=.ref p/\y=.int i/\nK K H p xs/\EF xs i=some v/\Q v H
noncomputable def TV (K:Fg):R2:=fun x y H Q=>∃p xs i v,x=.ref p/\y=.int i/\wH K H p xs/\EF xs i=some v/\Q v H
theorem Km:Kl X (TU X.K):=by
 intro value slice pins s σ H x y v u Q I rx ry h hs
 obtain⟨p,xs,i,z,rfl,rfl,hq,he,q⟩:=h
 cases rx
 obtain⟨t,rfl⟩:=ry
 obtain⟨bg,r,pl,hz⟩:=I.list hq
 obtain⟨j,h1,h2,h3,h4,h5⟩:=De he
 obtain⟨w,ew,B6⟩:=r.get h2
 have hl:=r.length
 have hn:=uV
 have fin:EP X pins σ Q w s:=⟨z,H,I,B6,q⟩
 by_cases h0:0≤i
 ·have hj:i.toNat=j:=by
   rw[seqIndex_of h0 h5] at h1
   exact Option.some.inj h1
  exact item_listR pl.isList h0 (by omega) (by rw[hj]; simpa using ew) fin hs
 ·have hj:(i+(bg.toArray.size:Int)).toNat=j:=by
   rw[seqIndex_neg (by omega) h4] at h1
   rw[List.size_toArray,← hl]
   exact Option.some.inj h1
  exact subscriptTail_builtinR (x:=w) pl.isList.typeIs slot_list_getitem.lookup
   (wpAny_getItem_list_neg (Q:=fun r s'=>r=w/\EP X pins σ Q r s') pl.isList (by omega) (by rw[List.size_toArray]<;>omega) (by omega) (by rw[hj]; simpa using ew) ⟨rfl,fin⟩) hs
theorem rB:Kl X (TV X.K):=by
 intro value slice pins s σ H x y v u Q I rx ry h hs
 obtain⟨p,xs,i,z,rfl,rfl,hq,he,q⟩:=h
 cases rx
 obtain⟨t,rfl⟩:=ry
 obtain⟨bg,r,pl,hz⟩:=I.tuple hq
 obtain⟨j,h1,h2,h3,h4,h5⟩:=De he
 obtain⟨w,ew,B6⟩:=r.get h2
 have hl:=r.length
 have hn:=uV
 have fin:EP X pins σ Q w s:=⟨z,H,I,B6,q⟩
 exact subscriptTail_builtinR (x:=w) pl.typeIs slot_tuple_getitem.lookup
  (getItem_tuple (j:=j) (Q:=fun r s'=>r=w/\EP X pins σ Q r s') pl (by omega) (by omega) (by rw[List.size_toArray,← hl]; exact h1) (by simpa using ew) ⟨rfl,fin⟩) hs
theorem Ca (bg:List Value) (n j:Nat) (u:Value):Obj.mapSeq (·.setIfInBounds j u) { cls:=.type "list",data:=.seq bg.toArray n }={ cls:=.type "list",data:=.seq (bg.set j u).toArray n }:=by
 simp[Obj.mapSeq]
theorem Inv.lst {pins:List (Addr×Obj)} {σ:St} {H:Hp} {s:Shared} {p:Addr} {xs:List V} (I:Inv X pins σ H s) (h:H p=some (.lst xs)) :
  ∃(bg:List Value) (n:Nat),Vals xs bg/\s.heap.get? p=some { cls:=.type "list",data:=.seq bg.toArray n }/\xs.length≤sizeLine:=by
 obtain⟨z,bg,n,r,e⟩:=I.bO p _ h
 exact⟨bg,n,r,e,z⟩
theorem Inv.Nt {pins:List (Addr×Obj)} {σ:St} {H:Hp} {s:Shared} {p:Addr} {xs ys:List V} {bg its':List Value} {n n':Nat} {f:Obj->Obj} (I:Inv X pins σ H s) (h:H p=some (.lst xs))
  (ho:s.heap.get? p=some { cls:=.type "list",data:=.seq bg.toArray n }) (hf:f { cls:=.type "list",data:=.seq bg.toArray n }={ cls:=.type "list",data:=.seq its'.toArray n' }) (r:Vals ys its') (hz:ys.length≤sizeLine) (t:Nat) :
  Inv X pins σ (upd H p (.lst ys)) { s with heap:=s.heap.update p f,toks:=t }:=by
 have e:(s.heap.update p f).get? p=some { cls:=.type "list",data:=.seq its'.toArray n' }:=by
  rw[Heap.get?_update_self f ho (by rw[hf]<;>rfl),hf]
 refine I.write (x:=p) (e:=p) (by rw[h]; trivial) (.inl rfl) (fun b u hb q=>(Heap.get?_update_other _ _ (Ne.symm hb)).trans q) ⟨_,e⟩ ?_
 exact⟨hz,its',n',r,e⟩
noncomputable def Ma:V->V->V->Hp->(Hp->Prop)->Prop:=fun o i v H Q=>∃p xs k j,o=.ref p/\i=.int k/\H p=some (.lst xs)/\EE xs.length k=some j/\Q (upd H p (.lst (xs.set j v)))
theorem set_list:BR X Ma:=by
 intro pins s σ H o i v ov iv u Q I ro ri rv h
 obtain⟨p,xs,k,j,rfl,rfl,hp,hj,q⟩:=h
 cases ro
 obtain⟨t,rfl⟩:=ri
 obtain⟨bg,n,r,ho,hz⟩:=I.lst hp
 obtain⟨h1,h2,h3,h4⟩:=Dd hj
 have hl:=r.length
 have hn:=uV
 have I':Inv X pins σ (upd H p (.lst (xs.set j v))) { s with heap:=s.heap.update p (Obj.mapSeq (·.setIfInBounds j u)) } :=
  I.Nt hp ho (Ca bg n j u) (r.set rv j) (by rw[List.length_set]; exact hz) s.toks
 by_cases h0:0≤k
 ·have hk:k.toNat=j:=by
   rw[seqIndex_of h0 h4] at h1
   exact Option.some.inj h1
  exact PySem.W.ki_setAt ho h0 (by omega) (by rw[List.size_toArray,← hl]; exact h4) (by rw[hk]; exact⟨_,I',q⟩)
 ·have hk:(k+(bg.toArray.size:Int)).toNat=j:=by
   rw[seqIndex_neg (by omega) h3] at h1
   rw[List.size_toArray,← hl]
   exact Option.some.inj h1
  exact PySem.W.ki_setBack ho (by omega) (by rw[List.size_toArray,← hl]; exact h3) (by omega) (by rw[hk]; exact⟨_,I',q⟩)
theorem ym (lo hi:Option Int) (n:Nat):(sliceBounds lo hi none n).1=((HT.je n 0 lo:Nat):Int)/\(sliceBounds lo hi none n).2.1=((HT.je n n hi:Nat):Int)/\(sliceBounds lo hi none n).2.2=1:=by
 refine⟨?_,?_,rfl⟩
 ·cases lo with
  | none=>simp[sliceBounds,HT.je]
  | some i =>
   simp only[sliceBounds,HT.je,Option.getD_none,show(1:Int) > 0 by decide,if_true]
   by_cases h:i<0
   ·simp only[h,if_true]<;>omega
   ·simp only[h,if_false]<;>omega
 ·cases hi with
  | none=>simp[sliceBounds,HT.je]
  | some i =>
   simp only[sliceBounds,HT.je,Option.getD_none,show(1:Int) > 0 by decide,if_true]
   by_cases h:i<0
   ·simp only[h,if_true]<;>omega
   ·simp only[h,if_false]<;>omega
theorem wK (bg:List Value) (lo hi:Option Int):slicePick bg.toArray lo hi none=((bg.drop (HT.je bg.length 0 lo)).take (HT.je bg.length bg.length hi-HT.je bg.length 0 lo)).toArray:=by
 obtain⟨h1,h2,h3⟩:=ym lo hi bg.toArray.size
 unfold slicePick
 rw[h1,h2,h3]
 simp only[sliceRange_one,pick_run,List.size_toArray]<;>rfl
noncomputable def Nu (K:Fg):V->Option Int->Option Int->Hp->VK->Prop:=fun x lo hi H Q=>∃a xs,x=.ref a/\nK K H a xs/\∀p,H p=none->Q (.ref p) (upd H p (.lst (yj xs lo hi)))
theorem Kn:GR X (Nu X.K):=by
 intro pins s σ H x v vl vu lo hi sl Q I rx hs pl pu h
 obtain⟨a,xs,rfl,hx,q⟩:=h
 cases rx
 obtain⟨bg,r,ht,hz⟩:=I.list hx
 have hlen:=r.length
 refine⟨"list",_,slot_list_getitem.lookup,ht.isList.typeIs,?_⟩
 refine wpAny_getItem_list_slice ht.isList hs pl pu .none (by simp) ?_ (by rw[List.size_toArray]<;>omega)
 rw[wK,← hlen]
 refine⟨.ref s.heap.objs.size,_,I.laid (t':=s.toks) (o:=.lst (yj xs lo hi)) (fun b ob q=>Heap.get?_push_of_some _ q) (Nat.le_refl _) ?_,rfl,q _ (I.bO.fresh (Nat.le_refl _))⟩
 exact⟨Nat.le_trans (sS xs lo hi) hz,_,0,(r.drop (HT.je xs.length 0 lo)).take (HT.je xs.length xs.length hi-HT.je xs.length 0 lo),Heap.get?_push_size _ rfl⟩
theorem yn:dQ X (.builtin "len") (fun xs H Q=>∃p ys,xs=[.ref p]/\(nK X.K H p ys\/wH X.K H p ys)/\Q (.int ys.length) H):=by
 intro pins s σ H xs us Q I r h
 obtain⟨p,ys,rfl,hq,q⟩:=h
 obtain⟨u,rfl,rx⟩:=vals1 r
 cases rx
 have hn:=uV
 rcases hq with hq | hq
 ·obtain⟨bg,r',pl,hz⟩:=I.list hq
  have hlen:=r'.length
  exact Calls.call_len_list pl.isList (by simp only[List.size_toArray]<;>omega) ⟨.int ys.length,H,I.tok _,⟨s.toks+1,by rw[List.size_toArray,hlen]⟩,q⟩
 ·obtain⟨bg,r',pl,hz⟩:=I.tuple hq
  have hlen:=r'.length
  exact len_tuple pl (by simp only[List.size_toArray]<;>omega) ⟨.int ys.length,H,I.tok _,⟨s.toks+1,by rw[List.size_toArray,hlen]⟩,q⟩
theorem dQ.or {f:Value} {r r':List V->Hp->VK->Prop} (h:dQ X f r) (h':dQ X f r'):dQ X f (fun xs H Q=>r xs H Q\/r' xs H Q):=by
 intro pins s σ H xs us Q I rs q
 rcases q with q | q
 ·exact h pins s σ H xs us Q I rs q
 ·exact h' pins s σ H xs us Q I rs q
theorem yo:dQ X (.type "list") (fun xs H Q=>∃p ys,xs=[.ref p]/\(nK X.K H p ys\/wH X.K H p ys)/\∀l,H l=none->Q (.ref l) (upd H l (.lst ys))):=by
 intro pins s σ H xs us Q I r h
 obtain⟨p,ys,rfl,hq,q⟩:=h
 obtain⟨u,rfl,rx⟩:=vals1 r
 cases rx
 have fin:∀(bg:List Value),Vals ys bg->ys.length≤sizeLine->∀(h':Heap) (c':Nat),(∀b o',s.heap.get? b=some o'->h'.get? b=some o') →
   h'.get? s.heap.objs.size=some { cls:=.type "list",dict:=none,data:=.seq bg.toArray c',slots:=#[] }->EP X pins σ Q (.ref s.heap.objs.size) { s with heap:=h' }:=fun bg r' hz h' c' kp e =>
  ⟨.ref s.heap.objs.size,_,I.laid (t':=s.toks) kp (Nat.le_refl _) (show dt X.prog X.w _ h' _ (.lst ys) from⟨hz,bg,c',r',e⟩),rfl,q _ (I.bO.fresh (Nat.le_refl _))⟩
 rcases hq with hq | hq
 ·obtain⟨bg,r',pl,hz⟩:=I.list hq
  have hlen:=r'.length
  obtain⟨o,ho,hc,n,hd⟩:=pl.isList
  exact call_list_seq p (.inl rfl) ho hc hd (fun h' c' kp e=>fin bg r' hz h' c' kp e) (by simp only[List.size_toArray]<;>omega)
 ·obtain⟨bg,r',pl,hz⟩:=I.tuple hq
  have hlen:=r'.length
  obtain⟨o,ho,hc,n,hd⟩:=pl
  exact call_list_seq p (.inr rfl) ho hc hd (fun h' c' kp e=>fin bg r' hz h' c' kp e) (by simp only[List.size_toArray]<;>omega)
theorem wL:dQ X (.type "tuple") (fun xs H Q=>∃p ys,xs=[.ref p]/\((nK X.K H p ys/\∀l,H l=none->Q (.ref l) (upd H l (.tup ys)))\/(wH X.K H p ys/\Q (.ref p) H))):=by
 intro pins s σ H xs us Q I r h
 obtain⟨p,ys,rfl,h⟩:=h
 obtain⟨u,rfl,rx⟩:=vals1 r
 cases rx
 rcases h with⟨hq,q⟩ | ⟨hq,q⟩
 ·obtain⟨bg,r',pl,hz⟩:=I.list hq
  have hlen:=r'.length
  refine call_tuple_list pl.isList (fun h' kp=>?_) (by simp only[List.size_toArray]<;>omega)
  have I1:Inv X pins σ H { s with heap:=h' }:=I.kept (t':=s.toks) kp
  have I2:Inv X pins σ (upd H h'.objs.size (.tup ys)) { s with heap:=h'.push { cls:=.type "tuple",data:=.seq bg.toArray } } :=
   I1.laid (t':=s.toks) (fun b o e=>Heap.get?_push_of_some _ e) (Nat.le_refl _) (show dt X.prog X.w _ _ _ (.tup ys) from⟨hz,bg,r',IsTup.new _ _⟩)
  exact⟨.ref h'.objs.size,_,I2,rfl,q _ (I1.bO.fresh (Nat.le_refl _))⟩
 ·obtain⟨bg,r',pl,hz⟩:=I.tuple hq
  exact call_tuple_same pl ⟨.ref p,H,I,rfl,q⟩
noncomputable def V5 (K:Fg) (T:String) (x:V) (H:Hp):Prop:=match x with
 | .str _=>T = "str"
 | .int _=>T = "int"
 | .ref p=>(T = "list" /\ ∃xs,nK K H p xs)\/(T = "tuple" /\ ∃o,K.lookup p=some o/\o.cls=.type "tuple" /\ o.dict=none) ∨
   (T = "dict" /\ ((∃kvs,H p=some (.dK kvs))\/∃kvs,H p=some (.dT kvs)))\/(T = "set" /\ ∃S n,H p=some (.set S n))
 | _=>False
theorem Nv {pins:List (Addr×Obj)} {σ:St} {H:Hp} {s:Shared} {T:String} {x:V} {v:Value} (I:Inv X pins σ H s) (r:RelV x v) (ty:V5 X.K T x H) :
  s.TypeIs v T/\∀a,v=.ref a->∃ob,s.heap.get? a=some ob/\ob.dict=none:=by
 cases x with
 | str z =>
  obtain⟨t,rfl⟩:=r
  cases (show T = "str" from ty)
  exact⟨typeIs_str s z t,fun _ e=>nomatch e⟩
 | int i =>
  obtain⟨t,rfl⟩:=r
  cases (show T = "int" from ty)
  exact⟨typeIs_int s i t,fun _ e=>nomatch e⟩
 | ref p =>
  cases r
  rcases ty with⟨rfl,xs,hq⟩ | ⟨rfl,o,hk,hc,hd⟩ | ⟨rfl,hk⟩ | ⟨rfl,S,n,hk⟩
  ·obtain⟨bg,_,pl,_⟩:=I.list hq
   refine⟨pl.isList.typeIs,fun a e=>?_⟩
   cases e
   obtain⟨o,n,e,c,hd,_⟩:=pl
   exact⟨o,e,hd⟩
  ·refine⟨⟨o,I.qa p o hk,hc⟩,fun a e=>?_⟩
   cases e
   exact⟨o,I.qa _ o hk,hd⟩
  ·have z:∃o,s.heap.get? p=some o/\o.ExactDict:=by
    rcases hk with⟨kvs,hk⟩ | ⟨kvs,hk⟩
    ·obtain⟨_,_,_,_,o,_,_,e,ex,_⟩:=I.bO p _ hk
     exact⟨o,e,ex⟩
    ·obtain⟨_,_,_,_,o,_,_,e,ex,_⟩:=I.bO p _ hk
     exact⟨o,e,ex⟩
   obtain⟨o,e,ex⟩:=z
   refine⟨⟨o,e,ex.1⟩,fun a e2=>?_⟩
   cases e2
   exact⟨o,e,ex.2.1⟩
  ·obtain⟨o,_,_,_,e,ex,_⟩:=I.bO p _ hk
   refine⟨⟨o,e,ex.1⟩,fun a e2=>?_⟩
   cases e2
   exact⟨o,e,ex.2.1⟩
 | _=>exact False.elim ty
noncomputable def Xq (K:Fg) (T:String) (r:V->List V->Hp->VK->Prop) (to:TE) (t:TA):TE:=fun σ H Q=>to σ H fun x H1=>V5 K T x H1/\t σ H1 fun xs H2=>r x xs H2 Q
variable {o e:Expr} {es:List Expr} {to:TE} {t:TA} {name:Str} {apos cI:Pos} {T id:String} {r:V->List V->Hp->VK->Prop}
theorem Qk (pa:PlainAttrs T) (slot:Slot T name id) (TX:typeOf (.builtin id)=pure (.type "method_descriptor")) (hm:GU X id r) (ho:PE X o to) (ha:PA X (e::es) t)
  (u5:attributeBase o name X.env (eval o X.env)=eval o X.env:=by rfl)
  (GV:((backTo cI (starEach (e::es) X.env)).all (fun x=>!x.1) && (backToKw cI (keywordEach [] X.env)).all (fun x=>x.1.isSome)
   && decide ((e::es).length+([]:List Keyword).length+(if ([]:List Keyword).isEmpty then 0 else 1)<30))=true:=by rfl)
  (u7:(apos.endLine == cI.line)=true:=by rfl) (hs:starEach (e::es) X.env=(false,eval e X.env)::starEach es X.env:=by rfl) (u9:(backTo cI (starEach es X.env)).any (·.1)=false:=by rfl) :
  PE X (.Call (.Attribute o name apos) (e::es) [] cI) (Xq X.K T r to t):=by
 intro pins s σ H Q I h
 refine wpAny_Call_method_late u5 GV u7 rfl (eh (ho pins s σ H _ I h) fun v s1 ⟨x,H1,I1,r1,ty,q1⟩=>?_)
 obtain⟨h1,h2⟩:=Nv I1 r1 ty
 refine⟨T,id,pa,slot,TX,h1,h2,?_⟩
 have hA:=ha cI pins s1 σ H1 _ I1 q1
 rw[hs] at hA ⊢
 refine Calls.callWith_builtin (by show(false || (backTo cI (starEach es X.env)).any (·.1))=false; rw[u9]<;>rfl) (Calls.evalArgs_plain ?_)
 exact eh hA fun us s2 ⟨vs,H2,I2,r2,q2⟩=>hm pins s2 σ H2 x vs v us Q I2 r1 r2 q2
end
end L2
namespace L2
open PySem PySem.Spec PyProof.Rows
noncomputable def V6 (X:Cx) (id:String) (r:V->List V->Hp->VK->Prop):Prop :=
 ∀(pins:List (Addr×Obj)) (s:Shared) (σ:St) (H:Hp) (x:V) (xs:List V) (v:Value) (us:List Value) (Q:VK),Inv X pins σ H s->RelV x v->Vals xs us->r x xs H Q →
  wpAny (model X.prog X.w) X.A (call (.builtin id) (v::us)) (EP X pins σ Q) X.xe s
theorem Vals.one:∀{x:V} {us:List Value},Vals [x] us->∃u,us=[u]/\RelV x u
 | _,_,.cons r .nil=>⟨_,rfl,r⟩
theorem Vals.rep {xs:List V} {us:List Value} (h:Vals xs us):∀k:Nat,Vals (List.replicate k xs).flatten (List.replicate k us).flatten
 | 0=>.nil
 | k+1=>by
  rw[List.replicate_succ,List.replicate_succ,List.flatten_cons,List.flatten_cons]
  exact Vals.append h (Vals.rep h k)
theorem foldl_rep (bg:List Value):∀(k:Nat) (acc:List Value),
  List.foldl (fun x1 x2=>x1++x2) acc.toArray (List.replicate k bg.toArray)=(acc++(List.replicate k bg).flatten).toArray
 | 0,acc=>by simp
 | k+1,acc=>by
  have e:acc.toArray++bg.toArray=(acc++bg).toArray:=by simp
  have e2:(acc++bg)++(List.replicate k bg).flatten=acc++(List.replicate (k+1) bg).flatten:=by
   rw[List.replicate_succ,List.flatten_cons,List.append_assoc]
  rw[← e2,← foldl_rep bg k (acc++bg),← e,List.replicate_succ,List.foldl_cons]
section
variable {X:Cx} {pins:List (Addr×Obj)} {σ:St} {H:Hp} {s:Shared} {l b:Addr} {xs ys zs:List V}
theorem Inv.Ql {bg its':List Value} {n:Nat} {f:Array Value->Array Value} {t':Nat} (I:Inv X pins σ H s) (hH:H l=some (.lst xs))
  (e:s.heap.get? l=some { cls:=.type "list",data:=.seq bg.toArray n }) (hf:f bg.toArray=its'.toArray) (hv:Vals ys its') (hz:ys.length≤sizeLine) :
  Inv X pins σ (upd H l (.lst ys)) { s with heap:=s.heap.update l (Obj.mapSeq f),toks:=t' }:=by
 have q:=PySem.IsL.update e f
 rw[hf] at q
 refine I.write (x:=l) (e:=l) (by rw[hH]; exact trivial) (.inl rfl) (fun b' u hb hu=>(Heap.get?_update_other s.heap (Obj.mapSeq f) (Ne.symm hb)).trans hu) ⟨_,q⟩ ?_
 exact⟨hz,its',_,hv,q⟩
theorem Inv.Nw {bg:List Value} {t':Nat} (I:Inv X pins σ H s) (hv:Vals ys bg) (hz:ys.length≤sizeLine) :
  Inv X pins σ (upd H s.heap.objs.size (.lst ys)) { s with heap:=s.heap.push { cls:=.type "list",data:=.seq bg.toArray },toks:=t' } :=
 I.laid (fun _ _ q=>Heap.get?_push_of_some _ q) (Nat.le_refl _) ⟨hz,bg,0,hv,Heap.get?_push_size _ rfl⟩
theorem Inv.fresh (I:Inv X pins σ H s):H s.heap.objs.size=none:=I.bO.fresh (Nat.le_refl _)
theorem Inv.EG (I:Inv X pins σ H s) (hH:H l=some (.lst xs)):xs.length≤sizeLine/\∃(bg:List Value) (n:Nat),Vals xs bg/\xs.length=bg.length/\s.heap.get? l=some { cls:=.type "list",data:=.seq bg.toArray n }:=by
 obtain⟨z,bg,n,r,e⟩:=I.bO l _ hH
 exact⟨z,bg,n,r,r.length,e⟩
theorem Ah {n:Nat} (h:n≤sizeLine):Builtin.List.listTooLong n=false:=by
 unfold Builtin.List.listTooLong
 exact decide_eq_false (by omega)
end
section
variable {X:Cx}
noncomputable def Dg:V->List V->Hp->VK->Prop:=fun x vs H Q=>∃l xs y,x=.ref l/\vs=[y]/\H l=some (.lst xs)/\xs.length<sizeLine/\Q .aN (upd H l (.lst (xs++[y])))
theorem xy:V6 X "list.append" Dg:=by
 intro pins s σ H x vs v us Q I rx rv h
 obtain⟨l,xs,y,rfl,rfl,hH,hz,q⟩:=h
 cases rx
 obtain⟨u,rfl,ru⟩:=rv.one
 obtain⟨z,bg,n,r,hl,e⟩:=I.EG hH
 refine call_meets F.slot_list_append ⟨_,e,rfl⟩ F.entry_list_append (F.args_list_append_2 _ _) (PySem.list_append l bg.toArray n u (by rw[List.size_toArray]; omega)) ⟨e,?_⟩
 refine⟨.aN,_,I.Ql (its':=bg++[u]) hH e (by simp) (r.append (.cons ru .nil)) ?_,rfl,q⟩
 rw[List.length_append,List.length_singleton]
 omega
noncomputable def Dh:V->List V->Hp->VK->Prop:=fun x vs H Q=>∃l b xs zs,x=.ref l/\vs=[.ref b]/\H l=some (.lst xs)/\H b=some (.lst zs)/\xs.length+zs.length≤sizeLine/\Q .aN (upd H l (.lst (xs++zs)))
theorem EH:V6 X "list.extend" Dh:=by
 intro pins s σ H x vs v us Q I rx rv h
 obtain⟨l,b,xs,zs,rfl,rfl,hH,hB,hz,q⟩:=h
 cases rx
 obtain⟨u,rfl,ru⟩:=rv.one
 cases ru
 obtain⟨z,bg,n,r,hl,e⟩:=I.EG hH
 obtain⟨z2,Ag,n2,r2,Nx,e2⟩:=I.EG hB
 have hsz:bg.toArray.size+Ag.toArray.size≤sizeLine:=by rw[List.size_toArray,List.size_toArray]; omega
 have GW:¬(!bg.toArray.isEmpty && Builtin.List.listTooLong (bg.toArray.size+Ag.toArray.size))=true:=by
  rw[Ah hsz,Bool.and_false]
  exact Bool.false_ne_true
 refine call_meets F.slot_list_extend ⟨_,e,rfl⟩ F.entry_list_extend (F.args_list_extend_2 _ _)
  (AutoSeq1.list_extend_list_list_0 l bg.toArray n b Ag.toArray n2 GW (by rw[List.size_toArray]; omega) (by omega)) ⟨e,e2,?_⟩
 refine⟨.aN,_,I.Ql (its':=bg++Ag) hH e (by simp) (r.append r2) ?_,rfl,q⟩
 rw[List.length_append]
 omega
noncomputable def Ko:R2:=fun x y H Q=>∃l b xs zs,x=.ref l/\y=.ref b/\H l=some (.lst xs)/\H b=some (.lst zs)/\xs.length+zs.length≤sizeLine/\∀p,H p=none->Q (.ref p) (upd H p (.lst (xs++zs)))
theorem Ny:j3 X (binaryOp .Add) Ko:=by
 intro pins s σ H x y v u Q I rx ry h
 obtain⟨l,b,xs,zs,rfl,rfl,hH,hB,hz,q⟩:=h
 cases rx
 cases ry
 obtain⟨z,bg,n,r,hl,e⟩:=I.EG hH
 obtain⟨z2,Ag,n2,r2,Nx,e2⟩:=I.EG hB
 refine PySem.P.add_list e e2 ?_ (by rw[List.size_toArray,List.size_toArray]; omega)
 have ea:bg.toArray++Ag.toArray=(bg++Ag).toArray:=by simp
 rw[ea]
 exact⟨.ref _,_,I.Nw (t':=s.toks) (r.append r2) (by rw[List.length_append]; omega),rfl,q _ I.fresh⟩
noncomputable def Qm:R2:=fun x y H Q=>∃l k xs,x=.ref l/\y=.int k/\H l=some (.lst xs) /\ -(2 ^ 63)≤k/\k<2 ^ 63/\xs.length*k.toNat≤sizeLine ∧
 ∀p,H p=none->Q (.ref p) (upd H p (.lst (List.replicate k.toNat xs).flatten))
theorem Kp {α:Type} (xs:List α) (k:Nat):(List.replicate k xs).flatten.length=k*xs.length:=by
 induction k with
 | zero=>simp
 | succ k ih=>rw[List.replicate_succ,List.flatten_cons,List.length_append,ih,Nat.succ_mul,Nat.add_comm]
theorem Nz:j3 X (binaryOp .Mult) Qm:=by
 intro pins s σ H x y v u Q I rx ry h
 obtain⟨l,k,xs,rfl,rfl,hH,h1,h2,hz,q⟩:=h
 cases rx
 obtain⟨t,rfl⟩:=ry
 obtain⟨z,bg,n,r,hl,e⟩:=I.EG hH
 have hlen:bg.toArray.size*k.toNat≤sizeLine:=by rw[List.size_toArray,← hl]; exact hz
 have TY:¬bg.toArray.size*k.toNat > (2 ^ 63-1) / 8:=by
  have:(sizeLine:Nat)≤(2 ^ 63-1) / 8:=by decide
  omega
 have TZ:¬(!Builtin.List.listFitsIndex k)=true:=by
  rw[fitsIndex_both h1 h2]
  exact Bool.false_ne_true
 have GW:¬Builtin.List.listTooLong (bg.toArray.size*k.toNat)=true:=by
  rw[Ah hlen]
  exact Bool.false_ne_true
 have NA:List.foldl (fun x1 x2=>x1++x2) #[] (List.replicate (if bg.toArray.isEmpty=true then 0 else k.toNat) bg.toArray)=(List.replicate k.toNat bg).flatten.toArray:=by
  have f0:∀m:Nat,List.foldl (fun x1 x2=>x1++x2) #[] (List.replicate m bg.toArray)=(List.replicate m bg).flatten.toArray:=fun m=>by
   have:=foldl_rep bg m []
   rw[zH] at this
   exact this
  rw[f0]
  cases bg with
  | nil=>simp
  | cons a r'=>rw[if_neg (by simp)]
 refine wpAny_binaryOp_repeat_ref (T := "list") (U := "int") (by decide) ⟨_,e,rfl⟩ (fun s'=>typeIs_int s' k t) noFill_list_mul F.fills_int_mul F.slot_int_rmul repeat_list F.slot_int_index.lookup
  (call_meets F.slot_int_rmul (typeIs_int s k t) F.entry_int_rmul (F.args_int_rmul_2 _ _) (int___rmul___int_list k t l bg.toArray n)
   ⟨e,rfl,⟨_,e,rfl⟩,call_meets F.slot_list_mul ⟨_,e,rfl⟩ F.entry_list_mul (F.args_list_mul_2 _ _) (AutoListH.list___mul___list_int_3 l bg.toArray n k t TZ TY GW) ⟨e,?_⟩⟩)
 rw[NA]
 exact⟨.ref _,_,I.Nw (t':=s.toks) (r.rep k.toNat) (by rw[Kp,Nat.mul_comm]; exact hz),rfl,q _ I.fresh⟩
end
section
variable {prog:Program} {w:World} {A:Around} {E:Value->Shared->Prop} {s:Shared}
end
section
variable {X:Cx}
end
end L2
namespace Att
open PySem PySem.W PySem.Calls PyProof.Rows
theorem tR {P:Params} {h:Heap}:∀(ns:List Int) (vs:List Value),WellAll P h vs (ns.map WData.int)->IntsAre vs ns:=by
 intro ns
 induction ns with
 | nil =>
  intro vs w
  rw[zD] at w
  cases w
  exact .nil
 | cons n ns ih =>
  intro vs w
  rw[zC] at w
  cases w with
  | cons a b =>
   cases a
   exact .cons _ _ (ih _ b)
theorem EI {l:OpenLaw} {n:Nat} (hn:l.most=some n) {P:Params} {h:Heap} {args:List WData} {vals:List Value}
  (va:l.row.toRowW.claim.pre args=true) (OV:WellAll P h vals args) :
  ∃a vs ns,vals=[Value.ref a]/\args=[WData.list (ns.map WData.int)]/\h.get? a=some { cls:=.type "list",data:=.seq vs.toArray }/\IntsAre vs ns/\ns.length≤n:=by
 have T4:WShape.hasAll [] args [.list .int]=true:=(pre_splitW va).1
 have hc:l.pre.holds [] { args:=args }=true:=(pre_splitW va).2
 obtain⟨d,r,rfl,h1,h2⟩:=hasAllW_cons T4
 obtain rfl:=hasAllW_nil h2
 obtain⟨xs,rfl,h3⟩:=hasW_list h1
 obtain⟨ns,rfl⟩:=items_int h3
 have hlen:ns.length≤n:=by
  unfold OpenLaw.pre at hc
  have h4:(WTm.not (.lt (.lit (.int (n:Int))) (.len (.arg 0)))).holds [] { args:=[.list (ns.map .int)] }=true:=by
   have h4:=(holds_andW hc).1
   rw[hn] at h4
   exact h4
  have h5:=condW_of h4 (w_not (w_lt w_lit (w_len_list (w_arg rfl))))
  rw[zK] at h5
  refine Nat.le_of_not_lt fun q=>?_
  have q':(n:Int)<((ns.length:Nat):Int):=by omega
  first
   | (rw[decide_eq_true q'] at h5; exact absurd h5 (by decide))
   | (simp at h5; omega)
 cases OV with
 | cons w1 w2 =>
  cases w2
  cases w1 with
  | list ho GN=>exact⟨_,_,ns,rfl,rfl,ho,tR ns _ GN,hlen⟩
theorem EJ (l:OpenLaw) (args:List WData):l.row.toRowW.claim.post args (.bool true) args=true :=
 postW_of (r:=l.row.toRowW) (X:=(true == true))
  (show WShape.has [] (.bool true) .bool=true by first | rfl | decide | simp[WShape.has,WShape.arms,WShape.armsAll])
  (show(WTm.eq .res (.lit (.bool true))).value [] { args:=args,res:=some (.bool true),after:=args }=some (.bool (true == true)) from w_eq_bool (w_res rfl) w_lit) rfl
theorem Ai {l:OpenLaw} {n:Nat} {q:Program} {loose:List Str} {XP:(Str->Option Value)->Heap->Prop} {YP:World->Heap->Prop} {d:DefRec}
  (hn:l.most=some n) (T5:d.params.defaults=[])
  (call:∀(w:World) (s₀ s₁:Shared) (mg mb:Str->Option Value) (fa:Addr) (o:Obj) (pm cd doc:Value) (a:Addr) (vs:List Value) (ns:List Int),
   Ground q loose [] XP w s₀ mg mb s₁.heap->YP w s₁.heap →
   s₁.heap.get? fa=some o->o.data=.func (docDef d.name d.params d.body d.scope pm cd doc)->s₁.heap.CodeRec cd d.name->mg d.name=some (.ref fa) →
   s₁.heap.get? a=some { cls:=.type "list",data:=.seq vs.toArray }->IntsAre vs ns->ns.length≤n->s₁.gens=#[] →
   codeAny (model l.prog w) callerA (.call (.ref fa) ⟨[.ref a],[]⟩) (fun r s'=>r=.ok (.ret (.bool true))/\OldK s₁.heap s'.heap/\s'.os=s₁.os/\AllBare s'.gens) s₁) :
  WalkO q loose XP YP l.row.toRowW d [] (fun f vs=>PySem.call f vs):=by
 intro w s₀ s₁ mg mb G Y fa o pm cd doc dV kV ho hd Gu hD Qn hg args vals as va Xr Zq OV Zr
 obtain rfl:dV=.none:=Dflts.none hD T5
 obtain rfl:kV=.none:=Dflts.noKw hD
 obtain⟨a,vs,ns,rfl,rfl,NB,hints,hlen⟩:=EI hn va OV
 refine enter_call (codeAny_mono (call w s₀ s₁ mg mb fa o pm cd doc a vs ns G Y ho (fd_plain hd) Gu Qn NB hints hlen hg) fun r s' hq=>?_)
 obtain⟨rfl,h2,h3,h4⟩:=hq
 exact⟨.inl ⟨.bool true,.bool true,[],rfl,fun _=>rfl,.bool true,EJ l _,fun _=>⟨List.Pairwise.nil,fun _ hm=>(nomatch hm)⟩⟩,h2,h3,h4⟩
section
variable {prog:Program} {w:World} {A:Around} {E:Value->Shared->Prop} {s:Shared} {K:Frag}
noncomputable def T6 (h:Heap) (L d:Addr):List (Addr×Obj):=(List.range h.objs.size).filterMap fun a=>if a=L\/a=d then none else(h.get? a).map fun o=>(a,o)
end
end Att
namespace L2
open PySem PySem.Spec PyProof.Rows
theorem xA:∀{vs:List Value} {ns:List Int},IntsAre vs ns->Vals (ns.map V.int) vs
 | _,_,.nil=>.nil
 | _,_,.cons n t h=>.cons ⟨t,rfl⟩ (xA h)
noncomputable def NC (H:Hp):Prop:=∀b,H b=none\/∃o xs,H b=some (.ig o (.lst xs))
theorem GX {P:Program} {w:World} {K:Fg} {mg mb:Str->Option Value} {CX:zZ} {k:Nat} {fa a:Addr} {fd:FuncData} {x:Str} {sp:Sp} {s₁:Shared} {vs:List Value} {ns:List Int}
  (KX:K.In s₁.heap) (R7:s₁.heap.Ns mainGlobals mg) (hb:s₁.heap.Ns builtinsNs mb) (OW:∀x:Str,x ≠ "__name__" -> mb x=bootBuiltins x) (T7:s₁.heap.NoLimit) (hg:s₁.gens=#[])
  (ha:s₁.heap.get? a=some { cls:=.type "list",data:=.seq vs.toArray }) (hi:IntsAre vs ns) (hl:ns.length≤sizeLine) (hr:fL k callerA)
  (F:∀base:Heap,K.In base->base.Ns mainGlobals mg->lx P w K mg base CX k fa fd [x] sp) (Qo:∀(s:Shared) (u:Value),BindsTo s fd ⟨[u],[]⟩ [(x,u)])
  (L7:∀H:Hp,NC H->nK K H a (ns.map V.int)->sp [.ref a] H (fun v _=>v=.bl true) fun _ _ _=>False)
  (T8:∀H e s',CX [] H s₁ (fun _ _ _=>False) e s'->False) :
  codeAny (model P w) callerA (.call (.ref fa) ⟨[.ref a],[]⟩) (fun r s'=>r=.ok (.ret (.bool true))/\OldK s₁.heap s'.heap/\s'.os=s₁.os/\AllBare s'.gens) s₁:=by
 have rv:=xA hi
 have T9:=hi.length
 have core:∀H:Hp,NC H->nK K H a (ns.map V.int)->mM P w H s₁.heap->(∀b,H b≠none->b=a)->(H a≠none->K.lookup a=none) →
   codeAny (model P w) callerA (.call (.ref fa) ⟨[.ref a],[]⟩) (fun r s'=>r=.ok (.ret (.bool true))/\OldK s₁.heap s'.heap/\s'.os=s₁.os/\AllBare s'.gens) s₁:=by
  intro H hO hS bO hA hK
  have Di:∀{b:Addr} {o:Obj},s₁.heap.get? b=some o->H b=none->(ya s₁.heap H).get? b=some o:=fun e n=>Gr e n
  have PY:∀{b:Addr} {o:Obj} {es:Array DictEntry} {ep:Nat},s₁.heap.get? b=some o->o.data=.dict es ep->H b=none:=fun {b o es ep} e d=>by
   cases q:H b with
   | none=>rfl
   | some u =>
    have e':b=a:=hA b (by rw[q]; simp)
    subst e'
    rw[ha] at e; cases e
    have d':Data.seq vs.toArray _=Data.dict es ep:=d
    cases d'
  have R8:∀{b:Addr} {m:Str->Option Value},s₁.heap.Ns b m->(ya s₁.heap H).Ns b m:=fun {b m} ⟨o,es,ep,e,d,r⟩=>⟨o,es,ep,Di e (PY e d),d,r⟩
  have V7:K.In (ya s₁.heap H):=fun b o e=>Di (KX b o e) (by
   cases q:H b with
   | none=>rfl
   | some u =>
    have e':b=a:=hA b (by rw[q]; simp)
    subst e'
    rw[hK (by rw[q]; simp)] at e; cases e)
  have hM:Mod K mg (ya s₁.heap H):=⟨V7,R8 R7,⟨mb,R8 hb,OW⟩,let⟨mc,h1,h2⟩:=T7; ⟨mc,R8 h1,h2⟩⟩
  have e0:B5 P w K mg (ya s₁.heap H) callerA [] s₁ H:=⟨rfl,hM,fun b o e=>JL e,Nat.le_of_eq (Eg _ _),trivial,fun b hb=>absurd (show b∈([]:List Addr) from hb) (by simp),bO,.of_eq hg⟩
  refine codeAny_mono ((F _ V7 (R8 R7)).run callerA [] s₁ H ⟨[.ref a],[]⟩ [.ref a] [.ref a] _ _ hr e0 (Qo s₁ (.ref a)) (.cons rfl .nil) (L7 H hO hS)) fun r s' h=>?_
  cases r with
  | error e=>exact(T8 H e s' h).elim
  | ok fl =>
   cases fl with
   | next=>exact False.elim h
   | brk=>exact False.elim h
   | cont=>exact False.elim h
   | ret u =>
    obtain⟨v,H',os,bare,un,ND,r',q⟩:=h
    have q':v=.bl true:=q
    subst q'
    obtain rfl:u=Value.bool true:=r'
    refine⟨rfl,OldK.of_keep fun b o e=>?_,os,bare⟩
    cases q:H b with
    | none=>exact un.keep b o e q (by intro z; exact absurd (show b∈([]:List Addr) from z) (by simp)) (by simp)
    | some u =>
     rcases hO b with z | ⟨ob,xs,z⟩
     ·rw[q] at z; cases z
     ·have z2:=un.j8 b ob _ z
      obtain⟨e1,_⟩:=bO b _ z
      obtain⟨e2,_⟩:=ND b _ z2
      rw[e] at e1; cases e1
      exact e2
 cases hk:K.lookup a with
 | some o =>
  have e:=KX a o hk
  rw[ha] at e
  cases e
  refine core (fun _=>none) (fun _=>.inl rfl) (.inr ⟨_,vs.toArray,_,hk,rfl,rfl,rfl,by rw[List.size_toArray,T9]; exact hl,by simpa using rv⟩) (fun b u z=>by have z':(none:Option HO)=some u:=z; cases z') (fun b z=>absurd rfl z) fun z=>absurd rfl z
 | none =>
  refine core (fun b=>if b=a then some (.ig { cls:=.type "list",data:=.seq vs.toArray } (.lst (ns.map V.int))) else none) (fun b=>?_) (.inl (.inr ⟨{ cls:=.type "list",data:=.seq vs.toArray },if_pos rfl⟩)) (fun b u z=>?_) (fun b z=>?_) fun _=>hk
  ·by_cases hb:b=a
   ·exact .inr ⟨_,_,if_pos hb⟩
   ·exact .inl (if_neg hb)
  ·by_cases hb:b=a
   ·have z':=(if_pos hb).symm.trans z
    cases z'
    subst hb
    exact⟨ha,by rw[zK]; exact hl,vs,_,rv,ha⟩
   ·have z':=(if_neg hb).symm.trans z
    cases z'
  ·by_cases hb:b=a
   ·exact hb
   ·exact absurd (if_neg hb) z
end L2
namespace L2
open PySem PySem.Spec PyProof.Rows
end L2
namespace L2
open PySem PySem.Spec PyProof.Rows
structure GY (K:Fg) (x qual:Str) (st:Stmt) (f:Addr) (fd:FuncData):Prop where
 ex:∃(oc:Value) (od:Option Addr) (kV doc pm:Value) (an:Option Addr) (iO ct:Value) (Kc:Array (Option Value)),
  fd=PySem.W.fnOf x qual (jv st) (dN st) (ak st) .none kV doc pm an iO ct/\K.lookup f=some ⟨oc,od,.func fd,Kc⟩/\PySem.W.codeIn K iO qual=true
 kp:PySem.W.keepIn K (.ref f)=true
section
variable {P:Program} {w:World} {K:Fg} {mg:Str->Option Value} {base:Heap}
theorem GY.binds {x qual:Str} {st:Stmt} {f:Addr} {fd:FuncData} {ps:List Str} (F:GY K x qual st f fd)
  (h:∀(kV doc pm:Value) (an:Option Addr) (iO ct:Value) (us:List Value),us.length=ps.length->bindArgs (PySem.W.fnOf x qual (jv st) (dN st) (ak st) .none kV doc pm an iO ct) ⟨us,[]⟩=pure (ps.zip us)):Binds K fd ps []:=by
 obtain⟨oc,od,kV,doc,pm,an,iO,ct,Kc,rfl,lk,Gu⟩:=F.ex
 exact .all (h kV doc pm an iO ct)
theorem pH {x qual:Str} {st:Stmt} {f:Addr} {oc:Value} {od an:Option Addr} {Kc:Array (Option Value)} {kV doc pm iO ct:Value} (l:K.lookup f=some ⟨oc,od,.func (PySem.W.fnOf x qual (jv st) (dN st) (ak st) .none kV doc pm an iO ct),Kc⟩)
  (c:PySem.W.codeIn K iO qual=true) (k:PySem.W.keepIn K (.ref f)=true):GY K x qual st f (PySem.W.fnOf x qual (jv st) (dN st) (ak st) .none kV doc pm an iO ct):=⟨⟨oc,od,kV,doc,pm,an,iO,ct,Kc,rfl,l,c⟩,k⟩
end
theorem xB {n:Nat} (h:n≤1000):n<sizeLine:=Nat.lt_of_le_of_lt h (by decide)
section
variable {X:Cx}
end
theorem Aj {A B:Prop} (h:B):if false=true then A else B:=by
 rw[if_neg Bool.false_ne_true]
 exact h
theorem Ak {A B:Prop} (h:A):if true=true then A else B:=by
 rw[if_pos rfl]
 exact h
noncomputable def jf (H H':Hp):Prop:=∀b o,H b=some o->H' b=some o
theorem jf.refl (H:Hp):jf H H:=fun _ _ h=>h
theorem jf.trans {H H1 H2:Hp} (a:jf H H1) (b:jf H1 H2):jf H H2:=fun c o h=>b c o (a c o h)
theorem jf.free {H H':Hp} (e:jf H H') {l:Addr} (h:H' l=Option.none):H l=Option.none:=by
 cases q:H l with
 | none=>rfl
 | some o =>
  rw[e l o q] at h
  cases h
end L2
namespace L2
open PySem PySem.Spec PyProof.Rows
section
variable {X:Cx}
theorem EK:dQ X (.builtin "len") (fun xs H Q=>∃a kvs,xs=[V.ref a]/\H a=some (.dK kvs)/\Q (.int kvs.length) H):=by
 intro pins s σ H xs us Q I r h
 obtain⟨a,kvs,rfl,ha,q⟩:=h
 obtain⟨u,rfl,ru⟩:=vals1 r
 cases ru
 exact Qc I (.inl ha) fun t s' I'=>⟨.int kvs.length,H,I',⟨t,rfl⟩,q⟩
end
section
variable {κ:Type} [DecidableEq κ]
end
end L2
end
section
namespace L2
open PySem PySem.Spec PyProof.Rows
noncomputable def rD (env:Env):List (Str×NameKind)->List (Str×Addr)->List (Str×Addr)
 | [],acc=>acc
 | (n,k)::r,acc=>rD env r (if (k == NameKind.free)=true then(n,(env.cells.lookup n).getD 0)::acc else acc)
theorem pI {env:Env}:∀(l:List (Str×NameKind)) (acc:List (Str×Addr)),(∀p∈l,p.2=.free->∃c,env.cells.lookup p.1=some c) →
  (forIn l acc fun(x:Str×NameKind) (cs:List (Str×Addr))=>(if (x.2 == NameKind.free)=true then do let a ← cellOf env x.1; pure (ForInStep.yield ((x.1,a)::cs)) else pure (ForInStep.yield cs):Sem (ForInStep (List (Str×Addr)))))=pure (rD env l acc)
 | [],acc,_=>rfl
 | (n,k)::r,acc,h=>by
  rw[List.forIn_cons]
  by_cases hk:(k == NameKind.free)=true
  ·obtain⟨c,hc⟩:=h (n,k) List.mem_cons_self (by simpa using hk)
   have wG:env.cells.lookup n=some c:=hc
   have e1:cellOf env n=pure c:=by unfold cellOf; rw[wG]
   simp only[hk,if_true,e1]
   show(forIn r ((n,c)::acc) _:Sem _)=_
   have ih:=pI (env:=env) r ((n,c)::acc) fun p hp=>h p (List.mem_cons_of_mem _ hp)
   refine ih.trans ?_
   show _=pure (rD env r (if (k == NameKind.free)=true then(n,(env.cells.lookup n).getD 0)::acc else acc))
   rw[if_pos hk,wG]
   rfl
  ·have Xs:(k == NameKind.free)=false:=by simpa using hk
   simp only[Xs,Bool.false_eq_true,if_false]
   show(forIn r acc _:Sem _)=_
   have ih:=pI (env:=env) r acc fun p hp=>h p (List.mem_cons_of_mem _ hp)
   refine ih.trans ?_
   show _=pure (rD env r (if (k == NameKind.free)=true then(n,(env.cells.lookup n).getD 0)::acc else acc))
   rw[if_neg hk]
theorem vb {env:Env} {scope:Scope} (h:∀p∈scope.names,p.2=.free->∃c,env.cells.lookup p.1=some c):closureFor scope env=pure (rD env scope.names []):=by
 unfold closureFor
 have:=pI (env:=env) scope.names [] h
 show((forIn scope.names ([]:List (Str×Addr)) (fun(x:Str×NameKind) (cs:List (Str×Addr))=>(if (x.2 == NameKind.free)=true then do let a ← cellOf env x.1; pure (ForInStep.yield ((x.1,a)::cs)) else pure (ForInStep.yield cs):Sem (ForInStep (List (Str×Addr))))):Sem (List (Str×Addr))) >>= fun r=>pure r)=_
 rw[this]
 rfl
theorem rE {env:Env} {x:Str} {c:Addr}:∀{l:List (Str×NameKind)} {acc:List (Str×Addr)},(∀p∈l,p.2=.free->∃c,env.cells.lookup p.1=some c)->(∀c,acc.lookup x=some c->env.cells.lookup x=some c) →
  (rD env l acc).lookup x=some c->env.cells.lookup x=some c
 | [],acc,_,ha,h=>ha c h
 | (n,k)::r,acc,hl,ha,h=>by
  refine rE (l:=r) (fun p hp=>hl p (List.mem_cons_of_mem _ hp)) ?_ h
  intro c' wG
  by_cases hk:(k == NameKind.free)=true
  ·rw[if_pos hk] at wG
   obtain⟨c0,R9⟩:=hl (n,k) List.mem_cons_self (by simpa using hk)
   have R9:env.cells.lookup n=some c0:=R9
   rw[List.lookup_cons] at wG
   cases hx:x == n with
   | true =>
    rw[hx] at wG
    rw[R9] at wG
    have e:x=n:=by simpa using hx
    rw[e,R9]
    exact wG
   | false =>
    rw[hx] at wG
    exact ha c' wG
  ·rw[if_neg hk] at wG
   exact ha c' wG
theorem vc {env:Env} {x:Str}:∀{l:List (Str×NameKind)} {acc:List (Str×Addr)},((x,NameKind.free)∈l\/∃c,acc.lookup x=some c)->∃c,(rD env l acc).lookup x=some c
 | [],acc,h=>by
  rcases h with h | h
  ·exact nomatch h
  ·exact h
 | (n,k)::r,acc,h=>by
  show ∃c,(rD env r (if (k == NameKind.free)=true then(n,(env.cells.lookup n).getD 0)::acc else acc)).lookup x=some c
  refine vc (l:=r) ?_
  rcases h with h | ⟨c,h⟩
  ·rcases List.mem_cons.mp h with e | h
   ·injection e with e1 e2
    subst e1 e2
    right
    rw[if_pos (by rfl),List.lookup_cons]
    simp
   ·exact .inl h
  ·right
   by_cases hk:(k == NameKind.free)=true
   ·rw[if_pos hk,List.lookup_cons]
    cases hx:x == n with
    | true=>exact⟨_,rfl⟩
    | false=>exact⟨c,h⟩
   ·rw[if_neg hk]
    exact⟨c,h⟩
noncomputable def ej (X:Cx) (scope:Scope) (N:List Str) (C:Addr) (fp:List Addr) (s:Shared) (H:Hp):Cx :=
 { X with N:=N,s₀:=s,H₀:=H,env:=compEnvC scope (rD X.env scope.names []) C X.env,outer:=X.stack,stack:=X.stack,ex:=fp,fn:=fun _=>false,pn:=[],xe:=fun _ _=>False }
noncomputable def pe (j9:List (Option Nat)) (σ:St):St:=j9.map fun o=>match o with
 | some i=>(σ[i]?).join
 | none=>none
structure cv (X:Cx) (scope:Scope) (N:List Str) (j9:List (Option Nat)):Prop where
 kind:scope.kind=.function
 GZ:∀y∈scope.names,y.2≠.cell
 names:∀y∈scope.names,y.2=.local -> scope.names.lookup y.1=some .local
 free:∀y∈scope.names,y.2=.free->(X.env.kindOf y.1=some .cell\/X.env.kindOf y.1=some .free)
 len:j9.length=N.length
 j9:∀(j:Nat) (x:Str) (i:Nat),N[j]? = some x->j9[j]? = some (some i)->X.N[i]? = some x/\(x,NameKind.free)∈scope.names/\scope.names.lookup x=some .free
theorem qk {env:Env}:∀{names:List (Str×NameKind)} {x:Str} {k:NameKind},names.lookup x=some k →
  (names.map fun(n,k)=>if (k == NameKind.free && env.scope.kind == .function && env.kindOf n == some .cell) then(n,NameKind.cell) else(n,k)).lookup x=some k\/(k=.free ∧
   (names.map fun(n,k)=>if (k == NameKind.free && env.scope.kind == .function && env.kindOf n == some .cell) then(n,NameKind.cell) else(n,k)).lookup x=some .cell)
 | [],_,_,h=>by simp at h
 | (n,k')::r,x,k,h=>by
  have ih:=@qk env r x k
  show List.lookup x ((if (k' == NameKind.free && env.scope.kind == .function && env.kindOf n == some .cell)=true then(n,NameKind.cell) else(n,k'))::_)=_\/_/\List.lookup x ((if (k' == NameKind.free && env.scope.kind == .function && env.kindOf n == some .cell)=true then(n,NameKind.cell) else(n,k'))::_)=_
  cases hx:x == n with
  | true =>
   simp only[List.lookup_cons,hx] at h
   cases h
   by_cases hc:(k' == NameKind.free && env.scope.kind == .function && env.kindOf n == some .cell)=true
   ·right
    rw[if_pos hc]
    simp only[Bool.and_eq_true] at hc
    exact⟨by simpa using hc.1.1,by simp only[List.lookup_cons,hx]⟩
   ·left
    rw[if_neg hc]
    simp only[List.lookup_cons,hx]
  | false =>
   simp only[List.lookup_cons,hx] at h
   by_cases hc:(k' == NameKind.free && env.scope.kind == .function && env.kindOf n == some .cell)=true
   ·rw[if_pos hc]; simp only[List.lookup_cons,hx]; exact ih h
   ·rw[if_neg hc]; simp only[List.lookup_cons,hx]; exact ih h
theorem mM.but {P:Program} {w:World} {H:Hp} {h h':Heap} {C:Addr} (ok:mM P w H h) (hn:H C=none) (hs:Heap.SameBut C h h'):mM P w H h':=fun b u e=>by
 refine(ok b u e).p9 (fun c v hc q=>(hs.2 c ?_).trans q) (fun _ q=>q) fun _ _ q=>q
 rintro rfl
 rcases hc with rfl | hc
 ·rw[hn] at e; cases e
 ·rw[hn] at hc; cases hc
noncomputable def vd (X:Cx) (ifs:List Expr) (t:TT):Prop :=
 ∀(pins:List (Addr×Obj)) (s:Shared) (σ:St) (H:Hp) (Q:Bool->Hp->Prop),Inv X pins σ H s->t σ H Q →
  wpAny (model X.prog X.w) X.A (forIn ifs true fun c r=>if r=true then do let ok ← isTrue c X.env (eval c X.env); pure (ForInStep.yield ok) else pure (ForInStep.yield r)) (TP X pins σ Q) X.xe s
noncomputable def Qp:TT:=fun _ H Q=>Q true H
theorem G0 {X:Cx}:vd X [] Qp:=fun pins s σ H Q I h=>wpAny_tests_nil ⟨H,I,h⟩
theorem G1 {X:Cx} {c:Expr} {t:TT} (h:PT X c t):vd X [c] t:=fun pins s σ H Q I hw=>wpAny_tests_one (h pins s σ H Q I hw)
noncomputable def xC (J:It) (g:TG) (tt:TT) (te:TE) (acc:Addr) (Q:Hp->Prop) (σ:St) (H:Hp):Prop :=
 ∃W:Nat->Nat->List V->St->Hp->Prop,(∃m,W 0 m [] σ H)/\∀i m ys σ' H',W i m ys σ' H' →
  (J.stop i H'/\Q H') ∨
  (J.go i H'/\∀x H2,J.R3 i H' x H2->g x σ' H2 fun σ3 H3=>tt σ3 H3 fun b H4 =>
   if b=true then te σ3 H4 fun y H5=>H5 acc=some (.lst ys)/\ys.length<sizeLine/\∃m',m'<m/\W (i+1) m' (ys++[y]) σ3 (upd H5 acc (.lst (ys++[y])))
   else ∃m',m'<m/\W (i+1) m' ys σ3 H4)
noncomputable def G2 (j9:List (Option Nat)) (wi:TI) (g:TG) (tt:TT) (te:TE):TE:=fun σ H Q =>
 wi σ H fun J H1=>∀acc,H1 acc=none->xC J g tt te acc (Q (.ref acc)) (pe j9 σ) (upd H1 acc (.lst []))
theorem nQ {prog:Program} {w:World} {A:Around} {R:Result->Shared->Prop} {s:Shared} {elt target iter:Expr} {ifs:List Expr} {scope:Scope} {pos:Pos} {it acc:Value} {env:Env} (I:Nat->Shared->Prop)
  (turn:∀n s,I n s->wpAny (model prog w) A (pyNext it) (fun r s₁=>match r with
   | none=>R (.ok .next) s₁
   | some v=>wpAny (model prog w) A (letOwnedTupleGo target it v) (fun _ V8=>wpAny (model prog w) A (assign target env v) (fun _ s₂ =>
     wpAny (model prog w) A (forIn ifs true fun c r=>if r=true then do let ok ← isTrue c env (eval c env); pure (ForInStep.yield ok) else pure (ForInStep.yield r)) (fun ok s₃ =>
      if ok=true then wpAny (model prog w) A (eval elt env) (fun x s₄ =>
       wpAny (model prog w) A (call (.builtin "list.append") [acc,x]) (fun _ s₅=>∃m,m<n/\I m s₅) (fun _ _=>False) s₄) (fun _ _=>False) s₃
      else ∃m,m<n/\I m s₃) (fun _ _=>False) s₂) (fun _ _=>False) V8) (fun _ _=>False) s₁) (fun _ _=>False) s)
  (n:Nat) (h:I n s) :
  codeAny (model prog w) A (.compLoop (.ListComp elt [⟨target,iter,ifs,0⟩] scope pos) 0 it acc env) R s:=by
 refine codeAny_loop rfl I (fun n s hI=>?_) n h
 show wpAny _ A ((compTurn (.ListComp elt [⟨target,iter,ifs,0⟩] scope pos) 0 it acc env).onRaise (fun x=>do noteFrame x env; theTreesLotGoes x)) _ _ s
 refine wpAny_noted ?_
 rw[compTurn_list]
 refine wpAny_bind (wpAny_standAt (wpAny_bind (wpAny_mono (turn n s hI) (fun r s₁ h₁=>?_) fun _ _ h'=>h'.elim)))
 cases r with
 | none=>exact wpAny_pure h₁
 | some v =>
  refine wpAny_bind (wpAny_mono h₁ (fun _ V8 Xu=>?_) fun _ _ h'=>h'.elim)
  refine wpAny_bind (wpAny_mono Xu (fun _ s₂ h₂=>wpAny_bind (wpAny_mono h₂ (fun ok s₃ h₃=>?_) fun _ _ h'=>h'.elim)) fun _ _ h'=>h'.elim)
  cases ok with
  | false=>exact wpAny_pure ⟨rfl,h₃⟩
  | true =>
   exact wpAny_bind (wpAny_bind (wpAny_mono h₃ (fun x s₄ h₄=>wpAny_bind (wpAny_mono h₄ (fun _ s₅ h₅=>wpAny_pure (wpAny_pure ⟨rfl,h₅⟩)) fun _ _ h'=>h'.elim)) fun _ _ h'=>h'.elim))
section
variable {X:Cx} {scope:Scope} {N:List Str} {j9:List (Option Nat)}
theorem cv.cells (ok:cv X scope N j9) (xo:X.Ok):∀p∈scope.names,p.2=.free->∃c,X.env.cells.lookup p.1=some c:=fun p hp e=>xo.has p.1 (ok.free p hp e)
theorem Cc {pins:List (Addr×Obj)} {σ:St} {H:Hp} {s:Shared} {fp:List Addr} {h1:Heap} {tk:Nat} (co:cv X scope N j9) (I:Inv X pins σ H s) (hf:∀b∈fp,tQ X pins H b) (EL:∀b∈fp,b<s.heap.objs.size)
  (R7:h1.Ns (s.heap.objs.size+1) (fun _=>none)) (hk:∀b o,(s.heap.push { cls:=.type "list",data:=.seq ([]:List Value).toArray }).get? b=some o->h1.get? b=some o) :
  Inv (ej X scope N (s.heap.objs.size+1) fp { s with heap:=s.heap.push { cls:=.type "list",data:=.seq ([]:List Value).toArray } } (upd H s.heap.objs.size (.lst []))) [] (pe j9 σ) (upd H s.heap.objs.size (.lst []))
   { s with heap:=h1,toks:=tk }:=by
 have cells:=co.cells I.ok
 have look:∀x c,(rD X.env scope.names []).lookup x=some c->X.env.cells.lookup x=some c:=fun x c e=>rE cells (fun c h=>by simp at h) e
 have I1:Inv X pins σ (upd H s.heap.objs.size (.lst [])) { s with heap:=s.heap.push { cls:=.type "list",data:=.seq ([]:List Value).toArray },toks:=s.toks }:=I.Nw (t':=s.toks) .nil (Nat.zero_le _)
 have Xv:∀b o,s.heap.get? b=some o->b≠s.heap.objs.size:=fun b o e=>Nat.ne_of_lt (Heap.lt_size e)
 have Xw:∀b∈nG X.stack,b∈X.env.locals::X.fs:=I.yb
 have ve:(s.heap.push { cls:=.type "list",data:=.seq ([]:List Value).toArray }).objs.size=s.heap.objs.size+1:=Heap.size_push ..
 refine⟨⟨I.ok.mod,co.kind,I.ok.glob,I.ok.blt,?_,?_,?_,fun x c h=>(nomatch h),I.ok.hd,I.ok.frames,.inl rfl,?_,?_,?_,?_,?_,?_,?_⟩,rfl,I.bare,Un.kept hk,?_,?_,?_,?_,?_,?_,?_⟩
 ·show(s.heap.push { cls:=.type "list",data:=.seq ([]:List Value).toArray }).objs.size≤s.heap.objs.size+1
  rw[ve]; exact Nat.le_refl _
 ·intro x y c e1 e2
  exact I.ok.inj x y c (look x c e1) (look y c e2)
 ·intro x hx
  refine vc (.inl ?_)
  have hx:(relabel scope X.env).names.lookup x=some .cell\/(relabel scope X.env).names.lookup x=some .free:=hx
  have key:∀(l:List (Str×NameKind)),(∀y∈l,y.2≠.cell)->((l.map fun(n,k)=>if (k == NameKind.free && X.env.scope.kind == .function && X.env.kindOf n == some .cell) then(n,NameKind.cell) else(n,k)).lookup x=some .cell ∨
    (l.map fun(n,k)=>if (k == NameKind.free && X.env.scope.kind == .function && X.env.kindOf n == some .cell) then(n,NameKind.cell) else(n,k)).lookup x=some .free)->(x,NameKind.free)∈l:=by
   intro l
   induction l with
   | nil=>intro _ h; simp at h
   | cons p r ih =>
    obtain⟨n,k⟩:=p
    intro hn h
    have R0:∀y∈r,y.2≠.cell:=fun y hy=>hn y (List.mem_cons_of_mem _ hy)
    have Xx:k≠.cell:=hn (n,k) List.mem_cons_self
    rw[zC] at h
    by_cases hc:(k == NameKind.free && X.env.scope.kind == .function && X.env.kindOf n == some .cell)=true
    ·dsimp only at h
     rw[if_pos hc] at h
     rw[List.lookup_cons] at h
     cases hx:x == n with
     | true =>
      have e:x=n:=by simpa using hx
      simp only[Bool.and_eq_true] at hc
      have ek:k=.free:=by simpa using hc.1.1
      rw[e,ek]
      exact List.mem_cons_self
     | false =>
      rw[hx] at h
      exact List.mem_cons_of_mem _ (ih R0 h)
    ·dsimp only at h
     rw[if_neg hc] at h
     rw[List.lookup_cons] at h
     cases hx:x == n with
     | true =>
      rw[hx] at h
      have e:x=n:=by simpa using hx
      rcases h with h | h
      ·exact absurd (Option.some.inj h) Xx
      ·have ek:k=.free:=Option.some.inj h
       rw[e,ek]
       exact List.mem_cons_self
     | false =>
      rw[hx] at h
      exact List.mem_cons_of_mem _ (ih R0 h)
  exact key scope.names co.GZ hx
 ·intro b hb
  obtain⟨f0,f1,f2,f3,f4,f5⟩:=hf b hb
  exact⟨Nat.ne_of_lt (Nat.lt_succ_of_lt (EL b hb)),fun x c e=>f4 x c (look x c e)⟩
 ·intro b o e
  exact I1.bs b o e
 ·show X.base.objs.size≤(s.heap.push { cls:=.type "list",data:=.seq ([]:List Value).toArray }).objs.size
  rw[ve]
  exact Nat.le_succ_of_le (Nat.le_trans I.ok.Jy I.sz)
 ·intro b o e hb
  obtain⟨f0,f1,f2,f3,f4,f5⟩:=hf b hb
  rcases f3 with z | z
  ·exact I.ok.Gs b o e z
  ·exact absurd (Nat.lt_of_lt_of_le (Heap.lt_size e) (Nat.le_trans I.ok.Jy z)) (Nat.lt_irrefl _)
 ·intro b hb hm
  obtain⟨f0,f1,f2,f3,f4,f5⟩:=hf b hb
  rcases List.mem_cons.mp (Xw b hm) with z | z
  ·exact f1 z
  ·exact f2 z
 ·exact I1.stack
 ·exact I1.yc
 ·refine⟨fun _=>none,R7,fun j x v e1 e2 e3=>?_⟩
  unfold pe at e2
  rw[zJ] at e2
  cases ec:j9[j]? with
  | none=>rw[ec] at e2; cases e2
  | some o =>
   rw[ec] at e2
   cases o with
   | none=>cases (Option.some.inj e2)
   | some i =>
    have Sa:(σ[i]?).join=some v:=Option.some.inj e2
    have Ua:σ[i]? = some (some v):=by
     cases q:σ[i]? with
     | none=>rw[q] at Sa; cases Sa
     | some z=>rw[q] at Sa; rw[show z=some v from Sa]
    obtain⟨c1,c2,c3⟩:=co.j9 j x i e1 ec
    obtain⟨m,hn,hl⟩:=I.loc
    have kx:X.env.kindOf x=some .cell\/X.env.kindOf x=some .free:=co.free (x,.free) c2 rfl
    obtain⟨u,ru,lk⟩:=hl i x v c1 Ua (.inr kx)
    refine⟨u,ru,?_⟩
    rcases lk with⟨k1,_⟩ | ⟨k1,c,hc,sM⟩
    ·rcases kx with z | z<;>(rw[k1] at z; cases z)
    ·refine .inr ⟨?_,c,?_,?_⟩
     ·rcases qk (env:=X.env) c3 with z | ⟨_,z⟩
      ·exact .inr z
      ·exact .inl z
     ·obtain⟨c',wG⟩:=vc (env:=X.env) (x:=x) (l:=scope.names) (acc:=[]) (.inl c2)
      have:=look x c' wG
      rw[hc] at this
      cases this
      exact wG
     ·obtain⟨oc,ho,hd⟩:=sM
      exact⟨oc,hk _ _ (Heap.get?_push_of_some _ ho),hd⟩
 ·intro x c e
  obtain⟨v,oc,ho,hd⟩:=I.cell x c (look x c e)
  exact⟨v,oc,hk _ _ (Heap.get?_push_of_some _ ho),hd⟩
 ·show upd H s.heap.objs.size (.lst []) (s.heap.objs.size+1)=none
  rw[az (Nat.succ_ne_self _)]
  exact I.bO.fresh (Nat.le_succ _)
 ·intro x c e
  exact I1.j0 x c (look x c e)
 ·intro p hp
  exact absurd (show p∈([]:List (Addr×Obj)) from hp) (by simp)
 ·exact I1.bO.kept hk
 ·show(pe j9 σ).length=N.length
  unfold pe
  rw[zK]
  exact co.len
theorem comp_back {pins:List (Addr×Obj)} {σ σ':St} {H H':Hp} {s s':Shared} {fp:List Addr} {h2:Heap} (I:Inv X pins σ H s) (hf:∀b∈fp,tQ X pins H b)
  (J:Inv (ej X scope N (s.heap.objs.size+1) fp { s with heap:=s.heap.push { cls:=.type "list",data:=.seq ([]:List Value).toArray } } (upd H s.heap.objs.size (.lst []))) [] σ' H' s')
  (hs:Heap.SameBut (s.heap.objs.size+1) s'.heap h2):Inv X pins σ H' { s' with heap:=h2 }:=by
 have u1:Un (nG X.stack) fp H (upd H s.heap.objs.size (.lst [])) s.heap (s.heap.push { cls:=.type "list",data:=.seq ([]:List Value).toArray }) :=
  Un.laid (fun b u e=>Heap.get?_push_of_some _ e) (Nat.le_refl _) I.fresh
 have u2:Un (nG X.stack) fp (upd H s.heap.objs.size (.lst [])) H' (s.heap.push { cls:=.type "list",data:=.seq ([]:List Value).toArray }) s'.heap:=J.base
 have u3:=u1.trans u2
 have hn:H' (s.heap.objs.size+1)=none:=J.free
 have old:∀b o,s.heap.get? b=some o->h2.get? b=s'.heap.get? b:=fun b o e=>hs.2 b (Nat.ne_of_lt (Nat.lt_succ_of_lt (Heap.lt_size e)))
 refine I.L4 (s':={ s' with heap:=h2 }) (ch:=fp) J.os ⟨fun b o e n h1 Qq=>?_,fun b o e n h1 Qq=>?_,u3.free,fun b o e h1=>?_,u3.lr,u3.j8,u3.lu⟩ (J.bO.but hn hs) J.bare fun b hb=>?_
 ·rw[show({ s' with heap:=h2 }:Shared).heap.get? b=h2.get? b from rfl,old b o e]
  exact u3.keep b o e n h1 Qq
 ·obtain⟨sl,q⟩:=u3.slot b o e n h1 Qq
  exact⟨sl,by rw[show({ s' with heap:=h2 }:Shared).heap.get? b=h2.get? b from rfl,old b o e]; exact q⟩
 ·obtain⟨o',q⟩:=u3.there b o e h1
  exact⟨o',by rw[show({ s' with heap:=h2 }:Shared).heap.get? b=h2.get? b from rfl,old b o e]; exact q⟩
 ·obtain⟨f0,f1,f2,f3,f4,f5⟩:=hf b hb
  exact⟨f3,f1,f4,f5⟩
variable {elt iter tg:Expr} {ifs:List Expr} {wi:TI} {g:TG} {tt:TT} {te:TE} {pos:Pos}
theorem Al {pins:List (Addr×Obj)} {σ:St} {H:Hp} {s:Shared} {it:Addr} {fp:List Addr} {tn:Nat->Heap->Prop} {J:It} {Q:V->Hp->Prop} {RR:Value->Addr->Result->Shared->Prop}
  (co:cv X scope N j9) (pf:X.calm=true) (I:Inv X pins σ H s) (T:Turn X.prog X.w X.K tg J fp it tn) (st:tn 0 s.heap) (hf:∀b∈fp,tQ X pins H b)
  (hg:∀C s0 H0,PG (ej X scope N C fp s0 H0) tg g) (hi:∀C s0 H0,vd (ej X scope N C fp s0 H0) ifs tt) (he:∀C s0 H0,PE (ej X scope N C fp s0 H0) elt te)
  (hw:∀acc,H acc=none->xC J g tt te acc (Q (.ref acc)) (pe j9 σ) (upd H acc (.lst [])))
  (hR:∀(H':Hp) (s':Shared) (σ':St),Inv (ej X scope N (s.heap.objs.size+1) fp { s with heap:=s.heap.push { cls:=.type "list",data:=.seq ([]:List Value).toArray } } (upd H s.heap.objs.size (.lst []))) [] σ' H' s' →
   Q (.ref s.heap.objs.size) H'->RR (.ref s.heap.objs.size) (s.heap.objs.size+1) (.ok .next) s') :
  wpAny (model X.prog X.w) X.A (newList []) (fun acc s₃=>wpAny (model X.prog X.w) X.A (newFunctionEnv scope X.env.globals (rD X.env scope.names []) [] X.env.qual none .none (some X.env)) (fun Qr s₄ =>
   codeAny (model X.prog X.w) X.A (.compStart (.ListComp elt [⟨tg,iter,ifs,0⟩] scope pos) 0 (.ref it) acc { Qr with scope:=relabel scope X.env }) (RR acc Qr.locals) s₄) X.xe s₃) X.xe s:=by
 have EL:∀b∈fp,b<s.heap.objs.size:=fun b hb=>by
  obtain⟨o,e,_⟩:=T.obj _ _ st b hb
  exact Heap.lt_size e
 refine wpAny_newObj_type (wpAny_newFunctionEnv co.GZ (by intro y hy; simp at hy) (fun h₁ NF NG=>?_) co.kind)
 dsimp only at NF NG ⊢
 have ve:(s.heap.push { cls:=.type "list",data:=.seq ([]:List Value).toArray }).objs.size=s.heap.objs.size+1:=Heap.size_push ..
 rw[ve] at NF NG ⊢
 have hk:∀b o,(s.heap.push { cls:=.type "list",data:=.seq ([]:List Value).toArray }).get? b=some o->h₁.get? b=some o:=fun b o e =>
  NG.extBut b o (by have:=Heap.lt_size e; rw[ve] at this; exact Nat.ne_of_lt this) (Heap.get?_push_of_some _ e)
 have Xy:∀b o,s.heap.get? b=some o->h₁.get? b=some o:=fun b o e=>hk b o (Heap.get?_push_of_some _ e)
 have V9:tn 0 h₁:=T.keep _ _ _ st fun b _ o e=>Xy b o e
 have J1:=Cc (tk:=s.toks+([]:List (Str×Value)).length) co I hf EL (h1:=h₁) (by simpa using NF) hk
 generalize EM:ej X scope N (s.heap.objs.size+1) fp { s with heap:=s.heap.push { cls:=.type "list",data:=.seq ([]:List Value).toArray } } (upd H s.heap.objs.size (.lst []))=Xc at J1 hR
 have eP:Xc.prog=X.prog:=by rw[← EM]; rfl
 have eW:Xc.w=X.w:=by rw[← EM]; rfl
 have eK:Xc.K=X.K:=by rw[← EM]; rfl
 have eA:Xc.A=X.A:=by rw[← EM]; rfl
 have ec:Xc.calm=true:=by rw[← EM]; exact pf
 have eE:Xc.env=compEnvC scope (rD X.env scope.names []) (s.heap.objs.size+1) X.env:=by rw[← EM]; rfl
 have ex:Xc.xe=fun _ _=>False:=by rw[← EM]; rfl
 have Xz:PG Xc tg g:=by rw[← EM]; exact hg _ _ _
 have Ub:vd Xc ifs tt:=by rw[← EM]; exact hi _ _ _
 have XA:PE Xc elt te:=by rw[← EM]; exact he _ _ _
 have BW:∀{H':Hp},(∀b∈fp,H' b=none)->∀b∈fp,tQ Xc [] H' b:=fun {H'} hn b hb=>by
  obtain⟨f0,f1,f2,f3,f4,f5⟩:=hf b hb
  refine⟨hn b hb,?_,?_,.inl ?_,?_,?_⟩
  ·rw[eE]; exact Nat.ne_of_lt (Nat.lt_succ_of_lt (EL b hb))
  ·rw[← EM]
   show b∉nG X.stack
   intro hm
   rcases List.mem_cons.mp (I.yb b hm) with z | z
   ·exact f1 z
   ·exact f2 z
  ·rw[← EM]; exact hb
  ·intro x c e
   rw[eE] at e
   exact f4 x c (rE (co.cells I.ok) (fun c h=>by simp at h) e)
  ·intro p hp
   rw[← EM] at hp
   exact absurd (show p∈([]:List (Addr×Obj)) from hp) (by simp)
 obtain⟨W,⟨m0,w0⟩,turn⟩:=hw s.heap.objs.size I.fresh
 have XB:∀b∈fp,upd H s.heap.objs.size (.lst []) b=none:=fun b hb=>by
  rw[az (Nat.ne_of_lt (EL b hb))]
  exact(hf b hb).1
 have loop:∀sx:Shared,sx={ s with heap:=h₁,toks:=s.toks+([]:List (Str×Value)).length } →
   codeAny (model X.prog X.w) X.A (.compLoop (.ListComp elt [⟨tg,iter,ifs,0⟩] scope pos) 0 (.ref it) (.ref s.heap.objs.size) (compEnvC scope (rD X.env scope.names []) (s.heap.objs.size+1) X.env)) (RR (.ref s.heap.objs.size) (s.heap.objs.size+1)) sx:=by
  rintro sx rfl
  refine nQ (fun n s'=>∃i ys σ' H',Inv Xc [] σ' H' s'/\tn i s'.heap/\(∀b∈fp,H' b=none)/\W i n ys σ' H') ?_ m0 ⟨0,[],pe j9 σ,_,J1,V9,XB,w0⟩
  rintro n s3 ⟨i,ys,σ3,H3,I3,L5,PC,w3⟩
  rcases turn i n ys σ3 H3 w3 with⟨stop,qn⟩ | ⟨go,step⟩
  ·have:=T.done Xc eP eW eK ec i [] s3 σ3 H3 (fun _ _=>False) I3 (BW PC) L5 stop
   rw[eA] at this
   refine eh this fun r s4 ⟨hr,I4⟩=>?_
   subst hr
   exact hR H3 s4 σ3 I4 qn
  ·have:=T.item Xc eP eW eK ec i [] s3 σ3 H3 (fun _ _=>False) I3 (BW PC) L5 go
   rw[eA] at this
   refine eh this fun r s4 ⟨u,hr,h4⟩=>?_
   subst hr
   refine eh h4 fun _ s5 ⟨x,H5,I5,r5,y5,MV,Ts⟩=>?_
   have Tt:=I5.pinned (BW Ts) (T.obj _ _ MV)
   have a1:=Xz _ s5 σ3 H5 x u _ Tt r5 (step x H5 y5)
   rw[eP,eW,eA,eE,ex] at a1
   refine eh a1 fun _ s6 ⟨σ6,H6,I6,q6⟩=>?_
   have a2:=Ub _ s6 σ6 H6 _ I6 q6
   rw[eP,eW,eA,eE,ex] at a2
   refine eh a2 fun b s7 ⟨H7,I7,q7⟩=>?_
   have again:∀{σ8:St} {H8:Hp} {s8:Shared} {zs:List V},Inv Xc ([]++uT fp s5.heap) σ8 H8 s8->(∃m',m'<n/\W (i+1) m' zs σ8 H8)->∃m,m<n/\∃i ys σ' H',Inv Xc [] σ' H' s8/\tn i s8.heap/\(∀b∈fp,H' b=none)/\W i m ys σ' H':=fun {σ8 H8 s8 zs} I8 ⟨m',hm,w8⟩=>by
    refine⟨m',hm,i+1,zs,σ8,H8,I8.qc,T.keep _ _ _ MV fun b hb o e=>(I8.pin (b,o) (List.mem_append_right _ (List.mem_append_right _ (mO hb e)))).1,fun b hb=>?_,w8⟩
    obtain⟨o,e,d⟩:=T.obj _ _ MV b hb
    exact(I8.pin (b,o) (List.mem_append_right _ (List.mem_append_right _ (mO hb e)))).2.1
   cases b with
   | false =>
    rw[if_neg Bool.false_ne_true] at q7 ⊢
    exact again I7 q7
   | true =>
    rw[if_pos rfl] at q7 ⊢
    have a3:=XA _ s7 σ6 H7 _ I7 q7
    rw[eP,eW,eA,eE,ex] at a3
    refine eh a3 fun v s8 ⟨y,H8,I8,r8,q1,q2,q3⟩=>?_
    have a4:=xy (X:=Xc) _ s8 σ6 H8 (.ref s.heap.objs.size) [y] (.ref s.heap.objs.size) [v] (fun _ H'=>∃m',m'<n/\W (i+1) m' (ys++[y]) σ6 H') I8 rfl (.cons r8 .nil) ⟨_,ys,y,rfl,rfl,q1,q2,q3⟩
    rw[eP,eW,eA,ex] at a4
    exact eh a4 fun _ s9 ⟨_,H9,I9,_,q9⟩=>again I9 q9
 exact codeAny_compStart_list (loop _ rfl) (T.self X.A 0 _ _ _ V9 (loop _ rfl))
theorem Kq (co:cv X scope N j9) (pf:X.calm=true) (uC:PI X tg iter wi)
  (hg:∀C fp s0 H0,PG (ej X scope N C fp s0 H0) tg g) (hi:∀C fp s0 H0,vd (ej X scope N C fp s0 H0) ifs tt) (he:∀C fp s0 H0,PE (ej X scope N C fp s0 H0) elt te)
  (hs:∀x,foldedSetIterable iter X.env x=pure x:=by intro _; rfl):PE X (.ListComp elt [⟨tg,iter,ifs,0⟩] scope pos) (G2 j9 wi g tt te):=by
 intro pins s σ H Q I h
 rw[eval_ListComp]
 refine wpAny_comprehension_free (use:=none) rfl hs (vb (co.cells I.ok)) co.kind co.names ?_
 refine eh (uC pins s σ H _ I h) fun v s1 h1=>eh h1 fun R4 s2 h2=>?_
 obtain⟨it,fp,tn,J,H2,e,I2,T,PB,f2,w⟩:=h2
 subst e
 refine Al (RR:=fun acc C=>compPost (model X.prog X.w) X.A X.xe none (EP X pins σ Q) acc C) co pf I2 T PB f2 (fun C=>hg C fp) (fun C=>hi C fp) (fun C=>he C fp) w fun H' s' σ' J' q=>?_
 obtain⟨m,hn,_⟩:=J'.loc
 exact⟨m,hn,fun h' Am=>⟨.ref _,H',comp_back I2 f2 J' Am,rfl,q⟩⟩
theorem Cd {i:Nat} {y:Str} {py G3:Pos} (co:cv X scope N j9) (pf:X.calm=true) (uC:PI X tg iter wi)
  (hg:∀C fp s0 H0,PG (ej X scope N C fp s0 H0) tg g) (hi:∀C fp s0 H0,vd (ej X scope N C fp s0 H0) ifs tt) (he:∀C fp s0 H0,PE (ej X scope N C fp s0 H0) elt te)
  (hN:X.N.Nodup) (hy:X.N[i]? = some y) (hx:Loc X.env.scope y) (Uc:swapsWith (.ListComp elt [⟨tg,iter,ifs,0⟩] scope pos) (some (.Name y py)) G3.line X.env=pure true)
  (hf:X.fn y=true\/X.env.scope.names.lookup y=some .local := by first | exact .inl rfl | exact .inr rfl | assumption)
  (hs:∀x,foldedSetIterable iter X.env x=pure x:=by intro _; rfl):PS X (.Assign [.Name y py] (.ListComp elt [⟨tg,iter,ifs,0⟩] scope pos) G3) (MR (G2 j9 wi g tt te) (C4 i)):=by
 intro pins s σ H D I h
 rw[exec_Assign_Name_used _ _ _ _ Uc]
 refine wpAny_bind (wpAny_standAt (wpAny_bind ?_))
 show wpAny _ _ (do let _ ← comprehension (.ListComp elt [⟨tg,iter,ifs,0⟩] scope pos) scope X.env _ (newList []) false (eval iter X.env) (some (assign (.Name y py) X.env))) _ _ s
 refine wpAny_bind (wpAny_mono (wpAny_comprehension_free (use:=some (assign (.Name y py) X.env)) (Q:=fun _ s'=>SP X pins D .next s') rfl hs (vb (co.cells I.ok)) co.kind co.names ?_) (fun _ s' hq=>wpAny_pure (wpAny_pure hq)) fun _ _ e=>e)
 refine eh (uC pins s σ H _ I h) fun v s1 h1=>eh h1 fun R4 s2 h2=>?_
 obtain⟨it,fp,tn,J,H2,e,I2,T,PB,f2,w⟩:=h2
 subst e
 refine Al (Q:=fun v H1=>C4 i v σ H1 D.nx) (RR:=fun acc C=>compPost (model X.prog X.w) X.A X.xe (some (assign (.Name y py) X.env)) (fun _ s'=>SP X pins D .next s') acc C) co pf I2 T PB f2 (fun C=>hg C fp) (fun C=>hi C fp) (fun C=>he C fp) w fun H' s' σ' J' q=>?_
 obtain⟨m,hn,_⟩:=J'.loc
 have B:=comp_back (h2:=s'.heap) I2 f2 J' (Heap.SameBut.refl ..)
 show wpAny _ _ (assign (.Name y py) X.env (.ref s2.heap.objs.size)) _ _ _
 have XC:H' (s2.heap.objs.size+1)=none:=J'.free
 have Wa:s2.heap.objs.size+1≠X.env.locals:=Nat.ne_of_gt (Nat.lt_succ_of_lt I2.lt)
 have Wb:∀x c,X.env.cells.lookup x=some c->c≠s2.heap.objs.size+1:=fun x c e z=>by
  obtain⟨v,q'⟩:=I2.cell x c e
  have:=q'.lt
  rw[z] at this
  exact absurd this (Nat.not_lt.mpr (Nat.le_succ _))
 refine wpAny_assign_Name (xr (s:={ s' with heap:=s'.heap }) B hN hy hx (v:=.ref s2.heap.objs.size) rfl (fun s3 I3 ⟨a,XD,ha⟩=>?_) hf)
 have XE:s2.heap.objs.size+1≠a:=by
  rcases ha with z | z
  ·rw[z]; exact Wa
  ·exact fun e=>Wb y a z e.symm
 refine⟨m,hn.sameBut XD XE,fun h' Am=>?_⟩
 refine⟨_,H',I3.turned (t':=s3.toks) (it:=s2.heap.objs.size+1) (fun b o hb e=>(Am.2 b hb).trans e) XC Wa (.inr (Nat.le_succ_of_le I2.sz)) Wb fun p hp z=>?_,q⟩
 have:=Heap.lt_size (I2.pin p hp).1
 rw[z] at this
 exact absurd this (Nat.not_lt.mpr (Nat.le_succ _))
end
end L2
end
section
namespace L2
open PySem PySem.Spec PyProof.Rows
structure XS (P:Program) (w:World) (outer:List Env) (H:Hp) (s:Shared) (e:Addr) (cls:Value) (H':Hp) (s':Shared):Prop where
 os:s'.os=s.os
 bare:AllBare s'.gens
 Qs:∃(B:Heap) (a0:Value),Heap.FlyingW B outer e cls a0 s'.heap/\mM P w H' B/\(∀b o,s.heap.get? b=some o->H b=none->b∉nG outer->B.get? b=some o) ∧
  ∀b o,s.heap.get? b=some o->b∉nG outer->∃o',B.get? b=some o'
 slot:∀b o,s.heap.get? b=some o->H b=none->b∈nG outer->∃sl,s'.heap.get? b=some { o with slots:=sl }
 free:∀b o,s.heap.get? b=some o->H b=none->H' b=none
 lr:∀b xs,H b=some (.tup xs)->H' b=some (.tup xs)
 j8:∀b o u,H b=some (.ig o u)->H' b=some (.ig o u)
 lu:∀b ps,H b=some (.nO ps)->∃more,H' b=some (.nO (ps++more))
noncomputable def nL (P:Program) (w:World):zZ:=fun outer H s E ev s'=>∃(e:Addr) (cls:Value) (H':Hp),ev=.ref e/\XS P w outer H s e cls H' s'/\E cls none H'
theorem XS.un {P:Program} {w:World} {outer:List Env} {H H':Hp} {s s':Shared} {e:Addr} {cls:Value} (x:XS P w outer H s e cls H' s'):Un (nG outer) [] H H' s.heap s'.heap:=by
 obtain⟨B,a0,f,bO,k1,k2⟩:=x.Qs
 refine⟨fun b o q n hb _=>f.1 b o (k1 b o q n hb),fun b o q n hb _=>x.slot b o q n hb,fun b o q n _=>x.free b o q n,fun b o q _=>?_,x.lr,x.j8,x.lu⟩
 by_cases hb:b∈nG outer
 ·obtain⟨_,o',ho,_⟩:=f.2.2.1.mem hb
  exact⟨o',ho⟩
 ·obtain⟨o',ho⟩:=k2 b o q hb
  exact⟨o',f.1 b o' ho⟩
theorem XS.bO {P:Program} {w:World} {outer:List Env} {H H':Hp} {s s':Shared} {e:Addr} {cls:Value} (x:XS P w outer H s e cls H' s'):mM P w H' s'.heap:=by
 obtain⟨B,a0,f,bO,k1,k2⟩:=x.Qs
 exact bO.kept fun b o q=>f.1 b o q
theorem Kr {P:Program} {w:World} {K:Fg} {mg:Str->Option Value} {base:Heap} {N:List Str} {qual:Str} {scope:Scope} {f:Addr} {cd:Value} {A:Around} {outer:List Env} {s:Shared} {H:Hp} {E:XK} :
  Passes (nL P w) (iU (nL P w) P w K mg base N qual scope f cd A outer s H E) E:=by
 intro pins σ H1 s1 ev s2 I h
 obtain⟨e,cls,H2,rfl,x,q⟩:=h
 obtain⟨B,a0,fl,bO,k1,k2⟩:=x.Qs
 have Ks:(A.deeper (envOfC qual scope s.heap.objs.size f cd)).frames=some (envOfC qual scope s.heap.objs.size f cd::outer):=I.ok.frames
 show wpAny (model P w) (A.deeper (envOfC qual scope s.heap.objs.size f cd)) (leaving (envOfC qual scope s.heap.objs.size f cd) (.ref e)) _ _ s2
 refine wpAny_leaves_onW Ks rfl fl fun h' XF up=>?_
 have hL:∀b o,s.heap.get? b=some o->b≠s.heap.objs.size:=fun b o q=>Nat.ne_of_lt (Heap.lt_size q)
 have nf:∀b o,s.heap.get? b=some o->b∉nG outer->b∉nG (envOfC qual scope s.heap.objs.size f cd::outer):=fun b o q hb hm=>by
  unfold nG at hm
  rw[List.filterMap_cons] at hm
  rcases List.mem_cons.mp hm with z | z
  ·exact hL b o q z
  ·exact hb z
 have nx:∀b:Addr,b∉([]:List Addr):=fun b z=>by simp at z
 refine⟨e,cls,H2,rfl,⟨x.os.trans I.os,x.bare,⟨B,a0,XF,bO,fun b o q n hb=>?_,fun b o q hb=>?_⟩,fun b o q n hb=>?_,fun b o q n=>?_,fun b xs q=>x.lr b xs (I.base.lr b xs q),fun b o u q=>x.j8 b o u (I.base.j8 b o u q),fun b ps q=>?_⟩,q⟩
 ·exact k1 b o (I.base.keep b o q n hb (nx b)) (I.base.free b o q n (nx b)) (nf b o q hb)
 ·obtain⟨o1,q1⟩:=I.base.there b o q (nx b)
  exact k2 b o1 q1 (nf b o q hb)
 ·obtain⟨sl,q1⟩:=I.base.slot b o q n hb (nx b)
  have hm:b∈nG (envOfC qual scope s.heap.objs.size f cd::outer):=by
   unfold nG
   rw[List.filterMap_cons]
   exact List.mem_cons_of_mem _ hb
  obtain⟨TQ,q2⟩:=x.slot b _ q1 (I.base.free b o q n (nx b)) hm
  obtain⟨_,o3,q3,NH⟩:=fl.2.2.1.mem hm
  rw[q2] at q3
  cases q3
  obtain⟨Gf,q4⟩:=up b _ q2 NH
  exact⟨Gf,q4⟩
 ·obtain⟨o1,q1⟩:=I.base.there b o q (nx b)
  exact x.free b o1 q1 (I.base.free b o q n (nx b))
 ·obtain⟨m1,e1⟩:=I.base.lu b ps q
  obtain⟨m2,e2⟩:=x.lu b _ e1
  exact⟨m1++m2,by rw[e2,Array.append_assoc]⟩
structure Mb (K:Fg) (mg:Str->Option Value) (x:Str) (C:Addr):Prop where
 name:mg x=some (.ref C)
 exc:PySem.W.excIn K C [.type "ValueError",.type "Exception",.type "BaseException",.type "object"] "ValueError.__new__" = true
theorem Mb.own {K:Fg} {mg:Str->Option Value} {x:Str} {C:Addr} {h:Heap} (X:Mb K mg x C) (KX:K.In h):OwnCls x C [.type "ValueError",.type "Exception",.type "BaseException",.type "object"] "ValueError.__new__" mg h:=by
 have q:=X.exc
 refine⟨X.name,?_⟩
 unfold PySem.W.excIn at q
 split at q
 ·rename_i dd cd sl ho
  split at q
  ·rename_i C' bm k0 k1 k2 k3 n k5 hm hs
   simp only[Bool.and_eq_true,beq_iff_eq,Bool.not_eq_true'] at q
   obtain⟨⟨⟨⟨⟨rfl,rfl⟩,Qt⟩,ht⟩,bO⟩,Se⟩:=q
   obtain⟨nm,bs,mro,ns,qn,hd,sn,sub,ab,col,del⟩:=cd
   dsimp only at hm Qt bO Se
   subst hm Qt
   have OX:sl=#[k0,k1,k2,k3,some (.builtin "ValueError.__new__"),k5]:=by
    obtain⟨l⟩:=sl
    simp only at hs
    rw[hs]
   subst OX
   exact⟨bm,ns,nm,qn,bs,hd,sn,sub,ab,col,dd,k0,k1,k2,k3,k5,_,KX _ _ ho,.of_isNs (PySem.W.isNs_of_in KX bO),PySem.W.nsMap_none_of_in KX bO Se,PySem.W.tail_of_in KX ht⟩
  ·cases q
 ·cases q
noncomputable def NI (C:Addr) (E:XK) (ta:TA):TS:=fun D σ H=>ta σ H fun vs H1=>vs.length≤sizeLine/\E (.ref C) none H1
theorem An {P:Program} {w:World} {K:Fg} {mg:Str->Option Value} {base:Heap} {N:List Str} {qual:Str} {scope:Scope} {f:Addr} {cd:Value} {A:Around} {outer:List Env} {s:Shared} {H:Hp} {E:XK}
  {x:Str} {C:Addr} {np cI pos:Pos} {e₀:Expr} {rest:List Expr} {ta:TA} (M:Mb K mg x C) (hh:(A.deeper (envOfC qual scope s.heap.objs.size f cd)).handled=none)
  (hg:Gl (iU (nL P w) P w K mg base N qual scope f cd A outer s H E) x) (ha:PA (iU (nL P w) P w K mg base N qual scope f cd A outer s H E) (e₀::rest) ta)
  (hd:(x == ("__debug__" : Str))=false:=by decide)
  (he:starEach (e₀::rest) (envOfC qual scope s.heap.objs.size f cd)=(false,eval e₀ (envOfC qual scope s.heap.objs.size f cd))::starEach rest (envOfC qual scope s.heap.objs.size f cd):=by rfl)
  (mI:(backTo cI (starEach rest (envOfC qual scope s.heap.objs.size f cd))).any (·.1)=false:=by rfl) :
  PS (iU (nL P w) P w K mg base N qual scope f cd A outer s H E) (.Raise (some (.Call (.Name x np) (e₀::rest) [] cI)) none pos) (NI C E ta):=by
 intro pins s1 σ H1 D I h
 have O:=M.own I.qa
 obtain⟨tl,Nn,nm,q,bs,hdct,sn,sub,ab,col,dd,k0,k1,k2,k3,k5,mN,hC,hN,Se,T⟩:=(M.own (I.ok.mod.OT)).obj
 have FB:=PySem.F.excBase_ValueError
 have u9:(backTo cI (starEach (e₀::rest) (envOfC qual scope s.heap.objs.size f cd))).any (·.1)=false:=by
  rw[he]; show(false || (backTo cI (starEach rest (envOfC qual scope s.heap.objs.size f cd))).any (·.1))=false; rw[mI]; rfl
 refine wpAny_Raise_call_subT (C:=C) (nm:=nm) (q:=q) (N:=Nn) (bs:=bs) (bm:=tl) (hdct:=hdct) (sn:=sn) (sub:=sub) (ab:=ab) (col:=col) (dd:=dd) (k0:=k0) (k1:=k1) (k2:=k2) (k3:=k3) (k5:=k5)
  FB (mN:=mN) (T.hasType FB.hasBase) hh u9 Se (uz I hg M.name ⟨rfl,?_⟩ hd)
 have hA:=ha cI pins s1 σ H1 _ I h
 have Zs:=hA
 show wpAny (model P w) (A.deeper (envOfC qual scope s.heap.objs.size f cd)) (evalArgs (.ref C) true (backTo cI (starEach (e₀::rest) (envOfC qual scope s.heap.objs.size f cd))) []) _ _ s1
 have Wc:wpAny (model P w) (A.deeper (envOfC qual scope s.heap.objs.size f cd)) (spliced (backTo cI (starEach (e₀::rest) (envOfC qual scope s.heap.objs.size f cd)))) (AP (iU (nL P w) P w K mg base N qual scope f cd A outer s H E) pins σ _) _ s1:=hA
 rw[he] at Wc ⊢
 refine Calls.evalArgs_plain (wpAny_mono Wc (fun us s2 ⟨vs,H2,I2,r2,hlen,q2⟩=>?_) fun _ _ y=>y)
 refine⟨rfl,by rw[← r2.length]; exact hlen,I2.bk _ _ hC,hN.keeps I2.bk,T.keeps I2.bk,fun h' e mk=>?_⟩
 have L0:s.heap.objs.size<s2.heap.objs.size:=I2.lt
 have Ks:(A.deeper (envOfC qual scope s.heap.objs.size f cd)).frames=some (envOfC qual scope s.heap.objs.size f cd::outer):=I2.ok.frames
 have FF:s2.heap.FunFrames base (envOfC qual scope s.heap.objs.size f cd::outer):=I2.stack
 have EL:∀env∈(envOfC qual scope s.heap.objs.size f cd::outer),∀b,env.frame=some b->b∈nG (envOfC qual scope s.heap.objs.size f cd::outer):=fun env he b hb=>List.mem_filterMap.mpr ⟨env,he,hb⟩
 show wpAny (model P w) (A.deeper (envOfC qual scope s.heap.objs.size f cd)) (leaving (envOfC qual scope s.heap.objs.size f cd) (.ref e)) _ _ { s2 with heap:=h' }
 refine wpAny_leaves_madeW (base:=PySem.W.hideAll s2.heap (nG (envOfC qual scope s.heap.objs.size f cd::outer))) Ks rfl (fun b o q=>PySem.W.of_hideAll _ q) (PySem.W.funFrames_hide FF EL) mk fun h2 t x1 x2 x3 x4=>?_
 have nx:∀b:Addr,b∉([]:List Addr):=fun b z=>by simp at z
 have hL:∀b o,s.heap.get? b=some o->b≠s.heap.objs.size:=fun b o q=>Nat.ne_of_lt (Heap.lt_size q)
 have nf:∀b o,s.heap.get? b=some o->b∉nG outer->b∉nG (envOfC qual scope s.heap.objs.size f cd::outer):=fun b o q hb hm=>by
  unfold nG at hm
  rw[List.filterMap_cons] at hm
  rcases List.mem_cons.mp hm with z | z
  ·exact hL b o q z
  ·exact hb z
 have NJ:∀b o,H2 b=some o->b∉nG (envOfC qual scope s.heap.objs.size f cd::outer):=fun b o q hm=>by
  have:=I2.yc b hm
  rw[q] at this
  cases this
 have XG:∀b y,H2 b=some (.own y)->b∉nG (envOfC qual scope s.heap.objs.size f cd::outer):=fun b y q=>NJ b _ q
 refine⟨e,.ref C,H2,rfl,⟨I2.os,I2.bare,⟨_,.ref t,x1,fun b o q=>?_,fun b o q n hb=>?_,fun b o q hb=>?_⟩,fun b o q n hb=>?_,fun b o q n=>I2.base.free b o q n (nx b),I2.base.lr,I2.base.j8,I2.base.lu⟩,q2⟩
 ·refine(I2.bO b o q).p9 (fun c v hc z=>PySem.W.hideAll_get _ z ?_) (fun _ z=>z) fun _ _ z=>z
  rcases hc with rfl | hc
  ·exact NJ _ _ q
  ·exact NJ _ _ hc
 ·exact PySem.W.hideAll_get _ (I2.base.keep b o q n hb (nx b)) (nf b o q hb)
 ·obtain⟨o',q'⟩:=I2.base.there b o q (nx b)
  exact⟨o',PySem.W.hideAll_get _ q' (nf b o q hb)⟩
 ·obtain⟨sl,q1⟩:=I2.base.slot b o q n hb (nx b)
  have hm:b∈nG (envOfC qual scope s.heap.objs.size f cd::outer):=by
   unfold nG
   rw[List.filterMap_cons]
   exact List.mem_cons_of_mem _ hb
  obtain⟨_,o3,q3,NH⟩:=FF.mem hm
  rw[q1] at q3
  cases q3
  obtain⟨Gf,q4⟩:=x4 b _ (mk.keeps _ _ q1) NH
  exact⟨Gf,q4⟩
end L2
end
section
namespace L2
open PySem PySem.Spec PyProof.Rows
noncomputable def yp (e C:Addr):HO:=.ext fun h=>∃ob vs,h.get? e=some ob/\ob.cls=.ref C/\ob.data=.fields vs
noncomputable abbrev Cx.tr (X:Cx) (pn:List (Addr×Obj)) (E:Value->Shared->Prop):Cx:={ X with pn:=pn,xe:=E }
noncomputable def oK (CX:zZ) (X:Cx) (Ex:St->XK):Prop:=∀(pins:List (Addr×Obj)) (σ:St) (H:Hp) (s:Shared) (e:Value) (s':Shared),Inv X pins σ H s->CX X.stack H s (Ex σ) e s'->X.xe e s'
noncomputable def NK (sp:Sp) (Ew:List V) (Ex:St->XK) (t:TA):TE:=fun σ H Q=>t σ H fun vs H1=>sp (vs++Ew) H1 Q (Ex σ)
noncomputable def G4 (C:Addr) (m:Str) (sp:Sp) (Ew:List V) (Ex:St->XK) (ta:TE) (t:TA):TE:=fun σ H Q=>ta σ H fun x H1=>∃a dx fs,x=.ref a/\H1 a=some (.ins C dx fs)/\fs.lookup m=none ∧
 t σ H1 fun vs H2=>sp (x::(vs++Ew)) H2 Q (Ex σ)
section
variable {X:Cx} {CX:zZ} {k:Nat} {f C:Addr} {fd:FuncData} {ps:List Str} {sp:Sp} {Ew:List V} {ds:List Value} {Ex:St->XK} {x m:Str} {p pos apos:Pos} {e o:Expr} {es:List Expr} {ta:TE} {t:TA}
theorem yq {pins:List (Addr×Obj)} {σ:St} {H:Hp} {s:Shared} {Q:VK} {us:List Value} {vs:List V} (F:lx X.prog X.w X.K X.mg X.base CX k f fd ps sp) (hr:fL k X.A) (hb:Binds X.K fd ps ds) (hd:Vals Ew ds) (hx:oK CX X Ex)
  (I:Inv X pins σ H s) (r:Vals vs us) (h:sp (vs++Ew) H Q (Ex σ)):wpAny (model X.prog X.w) X.A (call (.ref f) us) (EP X pins σ Q) X.xe s:=by
 have r2:Vals (vs++Ew) (us++ds):=r.append hd
 have hl:(us++ds).length=ps.length:=by rw[← r2.length]; exact F.len _ _ _ _ h
 refine wpAny_call (codeAny_mono (F.run X.A X.stack s H ⟨us,[]⟩ (us++ds) (vs++Ew) Q (Ex σ) hr I.PX (hb s us I.qa hl) r2 h) fun r s' hq=>?_)
 cases r with
 | error e=>exact hx pins σ H s e s' I hq
 | ok fl =>
  cases fl with
  | ret u=>exact I.after hq
  | next=>exact False.elim hq
  | brk=>exact False.elim hq
  | cont=>exact False.elim hq
theorem G5 (F:lx X.prog X.w X.K X.mg X.base CX k f fd ps sp) (hr:fL k X.A) (hg:Gl X x) (hm:X.mg x=some (.ref f)) (hk:PySem.W.keepIn X.K (.ref f)=true) (hb:Binds X.K fd ps ds) (hd:Vals Ew ds) (hx:oK CX X Ex)
  (ha:PA X (e::es) t) (Ez:(x == ("__debug__" : Str))=false:=by decide) (he:starEach (e::es) X.env=(false,eval e X.env)::starEach es X.env:=by rfl) (mI:(backTo pos (starEach es X.env)).any (·.1)=false:=by rfl) :
  PE X (.Call (.Name x p) (e::es) [] pos) (NK sp Ew Ex t):=by
 intro pins s σ H Q I h
 refine wpAny_Call_Name_kw (uz I hg hm ?_ Ez)
 refine PySem.W.callWith_K (h₀:=X.base) I.ok.mod.OT hk (eh (ha pos pins s σ H _ I h) fun us s1 ⟨vs,H1,I1,r,q⟩=>⟨I1.qa,?_⟩) he mI
 exact yq F hr hb hd hx I1 r q
theorem G6 {pl:Sem Bool} (he:PE X o ta) (c:BZ X.K C) (hm:Meth X.K C m f) (F:lx X.prog X.w X.K X.mg X.base CX k f fd ps sp) (hr:fL k X.A) (hb:Binds X.K fd ps ds) (hd:Vals Ew ds) (hx:oK CX X Ex) (ha:PA X (e::es) t)
  (wI:starEach (e::es) X.env=(false,eval e X.env)::starEach es X.env:=by rfl) (mI:(backTo pos (starEach es X.env)).any (·.1)=false:=by rfl)
  (ht:eval (.Call (.Attribute o m apos) (e::es) [] pos) X.env=(do
   let ov ← eval o X.env
   standAt apos.atName
   let(f,first) ← holding [ov] (getMethod ov m pl)
   callWith pos f first (backTo pos (starEach (e::es) X.env)) (backToKw pos (keywordEach [] X.env))):=by rfl) :
  PE X (.Call (.Attribute o m apos) (e::es) [] pos) (G4 C m sp Ew Ex ta t):=by
 intro pins s σ H Q I h
 refine PySem.W.methodCall_KW (pl:=pl) (eh (he pins s σ H _ I h) fun u s1 ⟨x,H1,I1,rx,a,dx,fs,ex,ea,l,q⟩=>?_) ht
 subst ex
 obtain rfl:u=Value.ref a:=rx
 refine uW I1 ea c hm l ?_
 refine PySem.W.callWith_K (first:=[.ref a]) (h₀:=X.base) I.ok.mod.OT hm.kp (eh (ha pos pins s1 σ H1 _ I1 q) fun us s2 ⟨vs,H2,I2,r,q2⟩=>⟨I2.qa,?_⟩) wI mI
 exact yq (us:=.ref a::us) (vs:=.ref a::vs) F hr hb hd hx I2 (.cons rfl r) q2
end
theorem XS.next {P:Program} {w:World} {outer:List Env} {H H':Hp} {s s':Shared} {e:Addr} {cls a0:Value} {B h':Heap} (x:XS P w outer H s e cls H' s')
  (f:Heap.FlyingW B outer e cls a0 s'.heap) (bO:mM P w H' B) (k1:∀b o,s.heap.get? b=some o->H b=none->b∉nG outer->B.get? b=some o) (k2:∀b o,s.heap.get? b=some o->b∉nG outer->∃o',B.get? b=some o')
  (f':Heap.FlyingW B outer e cls a0 h') (up:s'.heap.UpToSlots h'):XS P w outer H s e cls H' { s' with heap:=h' }:=by
 refine⟨x.os,x.bare,⟨B,a0,f',bO,k1,k2⟩,fun b o q n hb=>?_,x.free,x.lr,x.j8,x.lu⟩
 obtain⟨sl,q1⟩:=x.slot b o q n hb
 obtain⟨_,o3,q3,NH⟩:=f.2.2.1.mem hb
 rw[q1] at q3
 cases q3
 obtain⟨Gf,q4⟩:=up b _ q1 NH
 exact⟨Gf,q4⟩
theorem XS.G7 {X:Cx} {pins:List (Addr×Obj)} {σ:St} {H H':Hp} {s s':Shared} {e C:Addr} (I:Inv X pins σ H s) (x:XS X.prog X.w X.stack H s e (.ref C) H' s') (wI:X.stack=X.env::X.outer) (hdct:∃ob vs,s'.heap.get? e=some ob/\ob.cls=.ref C/\ob.data=.fields vs) :
  H' e=none/\Inv X pins σ (upd H' e (yp e C)) s':=by
 obtain⟨B,a0,f,bO,k1,k2⟩:=id x.Qs
 have We:B.get? e=none:=f.2.1
 have Qu:H' e=none:=by
  cases q:H' e with
  | none=>rfl
  | some u =>
   have h1:=bO.lt q
   have:∃o,B.get? e=some o:=by
    have z:=bO e u q
    cases u with
    | lst xs=>obtain⟨_,_,_,_,z⟩:=z; exact⟨_,z⟩
    | tup xs=>obtain⟨_,_,_,o,z,_⟩:=z; exact⟨_,z⟩
    | dK kvs=>obtain⟨_,_,_,_,o,_,_,z,_⟩:=z; exact⟨_,z⟩
    | dT kvs=>obtain⟨_,_,_,_,o,_,_,z,_⟩:=z; exact⟨_,z⟩
    | set S n=>obtain⟨o,_,_,_,z,_⟩:=z; exact⟨_,z⟩
    | ins C dx fs=>obtain⟨_,_,_,z,_⟩:=z; exact⟨_,z⟩
    | own y=>obtain⟨_,z⟩:=z; exact⟨_,z⟩
    | xd fs=>obtain⟨_,⟨_,_,_,z,_⟩,_⟩:=z; exact⟨_,z⟩
    | BK lo hi=>obtain⟨_,_,_,z⟩:=z; exact⟨_,z⟩
    | ig ob u=>obtain⟨z,_⟩:=z; exact⟨_,z⟩
    | nO ps=>exact⟨_,(show B.get? e=some _ from z)⟩
    | met f y=>exact⟨_,(show B.get? e=some _ from z)⟩
    | ext φ=>obtain⟨_,⟨_,z⟩,_⟩:=z; exact⟨_,z⟩
   obtain⟨o,z⟩:=this
   rw[We] at z
   cases z
 obtain⟨ob,vs,he,hc,hd⟩:=hdct
 have XH:e∉nG X.stack:=fun hm=>by
  obtain⟨_,o3,q3,NH⟩:=f.2.2.1.mem hm
  rw[he] at q3
  cases q3
  exact NH vs hd
 have new:∀b o,s.heap.get? b=some o->b≠e:=fun b o q z=>by
  subst z
  obtain⟨o',q'⟩:=k2 b o q XH
  rw[We] at q'
  cases q'
 have LX:∀b o,H b=some o->b≠e:=fun b o q=>by
  have wM:∃o',s.heap.get? b=some o':=by
   have z:=I.bO b o q
   cases o with
   | lst xs=>obtain⟨_,_,_,_,z⟩:=z; exact⟨_,z⟩
   | tup xs=>obtain⟨_,_,_,o,z,_⟩:=z; exact⟨_,z⟩
   | dK kvs=>obtain⟨_,_,_,_,o,_,_,z,_⟩:=z; exact⟨_,z⟩
   | dT kvs=>obtain⟨_,_,_,_,o,_,_,z,_⟩:=z; exact⟨_,z⟩
   | set S n=>obtain⟨o,_,_,_,z,_⟩:=z; exact⟨_,z⟩
   | ins C dx fs=>obtain⟨_,_,_,z,_⟩:=z; exact⟨_,z⟩
   | own y=>obtain⟨_,z⟩:=z; exact⟨_,z⟩
   | xd fs=>obtain⟨_,⟨_,_,_,z,_⟩,_⟩:=z; exact⟨_,z⟩
   | BK lo hi=>obtain⟨_,_,_,z⟩:=z; exact⟨_,z⟩
   | ig ob u=>obtain⟨z,_⟩:=z; exact⟨_,z⟩
   | nO ps=>exact⟨_,(show s.heap.get? b=some _ from z)⟩
   | met f y=>exact⟨_,(show s.heap.get? b=some _ from z)⟩
   | ext φ=>obtain⟨_,⟨_,z⟩,_⟩:=z; exact⟨_,z⟩
  obtain⟨o',z⟩:=wM
  exact new b o' z
 have u:=x.un
 refine⟨Qu,I.L4 (ch:=[]) x.os ⟨u.keep,u.slot,fun b o q n z=>?_,u.there,fun b xs q=>?_,fun b o v q=>?_,fun b ps q=>?_⟩ (fun b o q=>?_) x.bare (fun b z=>absurd z (by simp))⟩
 ·rw[az (new b o q)]; exact u.free b o q n z
 ·rw[az (LX b _ q)]; exact u.lr b xs q
 ·rw[az (LX b _ q)]; exact u.j8 b o v q
 ·obtain⟨m,q'⟩:=u.lu b ps q
  exact⟨m,by rw[az (LX b _ q)]; exact q'⟩
 ·have ND:=x.bO
  by_cases hb:b=e
  ·subst hb
   rw[aU] at q
   cases q
   refine⟨⟨ob,vs,he,hc,hd⟩,⟨ob,he⟩,fun h1 h2 p k=>?_⟩
   obtain⟨Ud,XI,z1,z2,z3⟩:=p
   exact⟨Ud,XI,k _ z1,z2,z3⟩
  ·rw[az hb] at q
   refine(ND b o q).p9 (fun _ _ _ z=>z) (fun c z=>?_) fun c xs z=>?_
   ·rw[az (fun zz=>by rw[zz,Qu] at z; cases z)]; exact z
   ·rw[az (fun zz=>by rw[zz,Qu] at z; cases z)]; exact z
noncomputable def Mc (K:Fg) (Cb:Addr) (iy iN:Nat) (nx:St->Hp->Prop):St->XK:=fun σ cls _ H'=>∃C,cls=.ref C/\PySem.W.exmOne K (.ref C) (.ref Cb)=some true ∧
 ∀e,H' e=none->nx ((σ.set iy (some (.ref e))).set iN none) (upd H' e (yp e C))
section
variable {X:Cx}
theorem NL {x n y:Str} {Cb:Addr} {iy iN:Nat} {body:List Stmt} {np py OY apos Kt pos:Pos} {tb:(St->XK)->TS} {P:Program} {w:World} (eP:X.prog=P) (eW:X.w=w)
  (wI:X.stack=X.env::X.outer) (Ks:X.env.frame=some X.env.locals) (pf:X.calm=true) (hN:X.N.Nodup)
  (hx:Gl X x) (hm:X.mg x=some (.ref Cb)) (hy:X.N[iy]? = some y) (ly:X.env.scope.names.lookup y=some .local) (hn:X.N[iN]? = some n) (ln:X.env.scope.names.lookup n=some .local)
  (hb:∀(pn:List (Addr×Obj)) (Et:Value->Shared->Prop) (Ex:St->XK),oK (nL P w) (X.tr pn Et) Ex->BQ (X.tr pn Et) body (tb Ex))
  (G8:swapsWith (.Name n OY) (some (.Name y py)) apos.line X.env=pure false:=by rfl) (Qv:(x == ("__debug__" : Str))=false:=by decide) (Ue:(n == ("__debug__" : Str))=false:=by decide) :
  PS X (.Try body [.ExceptHandler (some (.Name x np)) (some n) [.Assign [.Name y py] (.Name n OY) apos] Kt] [] [] pos) (fun D σ H=>tb (Mc X.K Cb iy iN D.nx) D σ H):=by
 subst eP eW
 intro pins s σ H D I h
 refine wpAny_Try_except ?_
 have C6:=I.ok.kind
 have I0:Inv (X.tr (X.pn++pins) (fun e s₁=>wpAny (model X.prog X.w) X.A (noteFrame e X.env) (fun _ s₂=>wpAny (model X.prog X.w) X.A (setFlight e none) (fun _ s₃=>wpAny (model X.prog X.w) X.A (handleBy e X.env [.ExceptHandler (some (.Name x np)) (some n) [.Assign [.Name y py] (.Name n OY) apos] Kt]) (SP X pins D) X.xe s₃) X.xe s₂) X.xe s₁)) [] σ H s :=
  ⟨⟨I.ok.mod,I.ok.kind,I.ok.glob,I.ok.blt,I.ok.above,I.ok.inj,I.ok.has,I.ok.Pj,I.ok.hd,I.ok.frames,I.ok.RW,I.ok.VQ,I.ok.bs,I.ok.Jy,I.ok.Gs,I.ok.JN,I.ok.tP,I.ok.ME⟩,I.os,I.bare,I.base,I.loc,I.cell,I.free,I.j0,fun p hp=>I.pin p (by simpa using hp),I.bO,I.len⟩
 have back:∀{xq:List (Addr×Obj)} {σ':St} {H':Hp} {s':Shared} {Et:Value->Shared->Prop},Inv (X.tr (X.pn++pins) Et) xq σ' H' s'->Inv X pins σ' H' s':=fun {xq σ' H' s' Et} J =>
  ⟨⟨J.ok.mod,J.ok.kind,J.ok.glob,J.ok.blt,J.ok.above,J.ok.inj,J.ok.has,J.ok.Pj,J.ok.hd,J.ok.frames,J.ok.RW,J.ok.VQ,J.ok.bs,J.ok.Jy,J.ok.Gs,J.ok.JN,J.ok.tP,J.ok.ME⟩,J.os,J.bare,J.base,J.loc,J.cell,J.free,J.j0,fun p hp=>J.pin p (List.mem_append_left _ hp),J.bO,J.len⟩
 refine wpAny_mono (hb (X.pn++pins) _ (Mc X.K Cb iy iN D.nx) ?_ [] s σ H D I0 h) (fun f s1 q=>?_) fun _ _ z=>z
 ·
  intro xq σ1 H1 s1 ev s2 J1 q
  obtain⟨e,cls,H2,rfl,x2,C,rfl,hex,qn⟩:=q
  have J1:=back J1
  obtain⟨B,a0,fl,bO,k1,k2⟩:=id x2.Qs
  have Ug:X.A.frames=some (X.env::X.outer):=by rw[J1.ok.frames,wI]
  rw[show(X.tr (X.pn++pins) _).stack=X.env::X.outer from wI] at fl k1 k2 x2
  show wpAny (model X.prog X.w) X.A (noteFrame (.ref e) X.env) _ _ s2
  refine wpAny_looks_onW Ug Ks fl fun h3 held XJ=>?_
  refine wpAny_landsW held fun h4 Sf XM=>?_
  have x4:=x2.next fl bO k1 k2 Sf (XJ.trans XM)
  have XO:XS X.prog X.w X.stack H1 s1 e (.ref C) H2 { s2 with heap:=h4 }:=by rw[wI]; exact x4
  obtain⟨oe,vs,he,hc,hd,_⟩:=Sf.first
  obtain⟨_,J4⟩:=XS.G7 J1 XO wI ⟨oe,vs,he,hc,hd⟩
  refine wpAny_handleBy_cons (codeAny_handlers_test (Calls.Name_function_global J4.ok.kind hx (Calls.loadGlobal_global (by rw[J4.ok.glob]; exact J4.mod.glob.keeps J4.bk) hm ?_) Qv)) (by intro q; cases q)
  have LT:PySem.W.Looks (model X.prog X.w) h4 (typeOf (.ref e)) (.ref C):=by
   rw[← hc]
   exact(PySem.W.Looks.ld he).andThen .now
  refine PySem.W.Looks.here (PySem.W.exm_one J4.qa LT hex) ?_
  rw[if_pos rfl]
  refine codeAny_handlers_suite_as ?_
  refine lands_againW Sf fun h5 Wf XQ=>?_
  have x5:=x4.next Sf bO k1 k2 Wf XQ
  have XR:XS X.prog X.w X.stack H1 s1 e (.ref C) H2 { s2 with heap:=h5 }:=by rw[wI]; exact x5
  obtain⟨XT,XU,XV,Sh,XW,_⟩:=Wf.first
  obtain⟨Qu,J5⟩:=XS.G7 J1 XR wI ⟨XT,XU,XV,Sh,XW⟩
  refine qb J5 hN hn (.inl ln) (v:=.ref e) rfl (fun s6 J6=>?_) (.inr ln)
  refine wpAny_execs_cons (wpAny_Assign_Name ?_ G8)
  obtain⟨m6,XX,XY⟩:=J6.loc
  have hlen:iN < σ1.length:=by rw[J1.len]; exact(List.getElem?_eq_some_iff.mp hn).1
  obtain⟨u6,XZ,X0⟩:=XY iN n (.ref e) hn (by rw[List.getElem?_set_self hlen]) (.inl ln)
  cases XZ
  have X1:m6 n=some (.ref e):=by
   rcases X0 with⟨_,z⟩ | ⟨k,_⟩
   ·exact z
   ·have X2:X.env.kindOf n=some .local := ln
    rcases k with k | k<;>(rw[X2] at k; cases k)
  refine wpAny_Name (wpAny_loadName_local C6 ln XX X1 ?_) Ue
  refine qb J6 hN hy (.inl ly) (v:=.ref e) rfl (fun s7 J7=>?_) (.inr ly)
  refine wpAny_execs_nil ?_
  obtain⟨m7,Wg,Zt⟩:=id J7.loc
  refine wpAny_nameGoes_keeps ln Wg (by rw[C6]; rfl) fun h8 v8 Wh NM=>?_
  have J8:Inv X pins ((σ1.set iy (some (.ref e))).set iN none) (upd H2 e (yp e C)) { s7 with heap:=h8,toks:=s7.toks+1 }:=by
   have K7:=J7.weak (σ':=(σ1.set iy (some (.ref e))).set iN none) (by simp) (fun i v hv=>by
    by_cases hi:i=iN
    ·subst hi
     rw[List.getElem?_set_self (by simpa using hlen)] at hv
     cases hv
    ·rw[List.getElem?_set_ne (Ne.symm hi)] at hv
     by_cases Ku:i=iy
     ·subst Ku
      have l2:i < σ1.length:=by rw[J1.len]; exact(List.getElem?_eq_some_iff.mp hy).1
      rw[List.getElem?_set_self l2] at hv
      rw[List.getElem?_set_self (by simpa using l2)]
      exact hv
     ·rw[List.getElem?_set_ne (Ne.symm Ku)] at hv
      rw[List.getElem?_set_ne (Ne.symm Ku),List.getElem?_set_ne (Ne.symm hi)]
      exact hv)
   obtain⟨m,X3,X4⟩:=id K7.loc
   have em:m=m7:=by
    obtain⟨o1,Zu,Zv,X5,X6,_,f1⟩:=id X3
    obtain⟨o2,Zw,Zx,JB,Np,_,f2⟩:=id Wg
    rw[X5] at JB
    cases JB
    rw[X6] at Np
    injection Np with Np _
    subst Np
    funext z
    rw[← f1 z,← f2 z]
   subst em
   have tracked:mM X.prog X.w (upd H2 e (yp e C)) h8:=K7.bO.but K7.free NM
   refine⟨K7.ok,K7.os,K7.bare,⟨fun b o q n hb hx=>?_,fun b o q n hb hx=>?_,K7.base.free,fun b o q hx=>?_,K7.base.lr,K7.base.j8,K7.base.lu⟩,⟨_,Wh,fun j z v e1 e2 e3=>?_⟩,fun z c q=>?_,K7.free,K7.j0,fun p hp=>?_,tracked,K7.len⟩
   ·exact(NM.2 b (Nat.ne_of_lt (Nat.lt_of_lt_of_le (Heap.lt_size q) K7.ok.above))).trans (K7.base.keep b o q n hb hx)
   ·obtain⟨sl,q1⟩:=K7.base.slot b o q n hb hx
    exact⟨sl,(NM.2 b (Nat.ne_of_lt (Nat.lt_of_lt_of_le (Heap.lt_size q) K7.ok.above))).trans q1⟩
   ·obtain⟨o',q1⟩:=K7.base.there b o q hx
    exact⟨o',(NM.2 b (Nat.ne_of_lt (Nat.lt_of_lt_of_le (Heap.lt_size q) K7.ok.above))).trans q1⟩
   ·obtain⟨u,ru,lk⟩:=X4 j z v e1 e2 e3
    refine⟨u,ru,?_⟩
    rcases lk with⟨kk,mz⟩ | ⟨kk,c,wG,sM⟩
    ·refine .inl ⟨kk,?_⟩
     have hz:z≠n:=fun ez=>by
      subst ez
      have:=uR hN e1 hn
      subst this
      rw[List.getElem?_set_self (by simpa using hlen)] at e2
      cases e2
     show(if z=n then v8 else m z)=some u
     rw[if_neg hz]
     exact mz
    ·exact .inr ⟨kk,c,wG,sM.sameBut NM (K7.JO z c wG)⟩
   ·obtain⟨v,sM⟩:=K7.cell z c q
    exact⟨v,sM.sameBut NM (K7.JO z c q)⟩
   ·obtain⟨q1,q2,q3,q4,q5⟩:=K7.pin p hp
    exact⟨(NM.2 p.1 q3).trans q1,q2,q3,q4,q5⟩
  exact⟨_,_,J8,qn e Qu⟩
 ·cases f with
  | next =>
   obtain⟨σ',H',J,qq⟩:=q
   exact wpAny_execs_nil ⟨σ',H',back J,qq⟩
  | brk=>obtain⟨σ',H',J,qq⟩:=q; exact⟨σ',H',back J,qq⟩
  | cont=>obtain⟨σ',H',J,qq⟩:=q; exact⟨σ',H',back J,qq⟩
  | ret v=>obtain⟨v',σ',H',J,r,qq⟩:=q; exact⟨v',σ',H',back J,r,qq⟩
end
end L2
end
section
namespace L2
open PySem PySem.Spec PyProof.Rows
inductive PV where
 | aN | bl (b:Bool) | int (i:Int) | str (x:Str) | lst (xs:List PV) | tup (xs:List PV) | obj (n:Nat)
 | mh (ns:List Int)
mutual
noncomputable def PV.jg (n:Nat):PV->Bool
 | .lst xs=>PV.nR n xs
 | .tup xs=>PV.nR n xs
 | .obj m=>decide (m<n)
 | .aN=>true
 | .bl _=>true
 | .int _=>true
 | .str _=>true
 | .mh _=>true
noncomputable def PV.nR (n:Nat):List PV->Bool
 | []=>true
 | x::xs=>PV.jg n x && PV.nR n xs
end
inductive MO where
 | gone
 | lst (xs:List PV)
 | bR (kvs:List (Key×PV))
 | Ce (kvs:List (List Key×PV))
 | sU (kvs:List (Key×PV))
 | ins (C:Addr) (fs:List (Str×PV))
 | exc (C:Addr)
noncomputable abbrev aP:=List MO
noncomputable abbrev dX:=List (Option PV)
noncomputable abbrev lim:Nat:=16000000
theorem nS {n:Nat} (h:n≤lim):n≤sizeLine:=by rw[sizeLine_eq]; exact Nat.le_trans h (by decide)
theorem yr {n:Nat} (h:n<lim):n<sizeLine:=by rw[sizeLine_eq]; exact Nat.lt_of_lt_of_le h (by decide)
section
variable (K:Fg) (ι:List Addr) (S:Hp)
mutual
noncomputable def aJ:PV->V->Prop
 | .aN,v=>v=.aN
 | .bl b,v=>v=.bl b
 | .int i,v=>v=.int i
 | .str x,v=>v=.str x
 | .lst xs,v=>∃a vs,v=.ref a/\S a=some (.lst vs)/\aO xs vs
 | .tup xs,v=>∃a vs,v=.ref a/\S a=some (.tup vs)/\aO xs vs
 | .obj n,v=>∃a,v=.ref a/\ι[n]? = some a
 | .mh ns,v=>∃a,v=.ref a/\nK K S a (ns.map V.int)
noncomputable def aO:List PV->List V->Prop
 | [],vs=>vs=[]
 | x::xs,vs=>∃v r,vs=v::r/\aJ x v/\aO xs r
end
noncomputable def cg {κ:Type} (kvs:List (κ×PV)) (bz:List (κ×V)):Prop:=Paired (fun(p:κ×PV) (q:κ×V)=>p.1=q.1/\aJ K ι S p.2 q.2) kvs bz
end
structure Up (ι:List Addr) (S:Hp) (ι':List Addr) (S':Hp):Prop where
 ix:∀(n:Nat) (a:Addr),ι[n]? = some a->ι'[n]? = some a
 sm:jf S S'
structure Ext (ι:List Addr) (S H:Hp) (ι':List Addr) (S' H':Hp):Prop extends Up ι S ι' S' where
 pre:ι'.take ι.length=ι
 fr:∀b u,H b=some u->b∉ι->S b=none->H' b=some u/\b∉ι'/\S' b=none
theorem Ext.refl {ι:List Addr} {S H:Hp}:Ext ι S H ι S H:=⟨⟨fun _ _ h=>h,jf.refl S⟩,List.take_length,fun _ _ h1 h2 h3=>⟨h1,h2,h3⟩⟩
theorem Ext.trans {ι ι1 ι2:List Addr} {S S1 S2 H H1 H2:Hp} (a:Ext ι S H ι1 S1 H1) (b:Ext ι1 S1 H1 ι2 S2 H2):Ext ι S H ι2 S2 H2 :=
 ⟨⟨fun n x h=>b.ix n x (a.ix n x h),a.sm.trans b.sm⟩,by
  have h1:=a.pre
  have h2:=b.pre
  have hl:ι.length≤ι1.length:=by rw[← h1]; simp; omega
  rw[← h2,List.take_take,Nat.min_eq_left hl] at h1
  exact h1,fun c u h1 h2 h3=>by
  obtain⟨k1,k2,k3⟩:=a.fr c u h1 h2 h3
  exact b.fr c u k1 k2 k3⟩
theorem Up.push {ι:List Addr} {S:Hp} (a:Addr):Up ι S (ι++[a]) S:=by
 refine⟨fun n x h=>?_,jf.refl S⟩
 have hl:n < ι.length:=(List.getElem?_eq_some_iff.mp h).1
 rw[List.getElem?_append_left hl]; exact h
theorem Rd.mono {S S':Hp} (h:jf S S') {a:Addr} {u:HO} (r:Rd S a u):Rd S' a u:=by
 rcases r with r | ⟨o,r⟩
 ·exact .inl (h _ _ r)
 ·exact .inr ⟨o,h _ _ r⟩
theorem nK.mono {K:Fg} {S S':Hp} (h:jf S S') {a:Addr} {vs:List V} (q:nK K S a vs):nK K S' a vs:=by
 rcases q with q | q
 ·exact .inl (q.mono h)
 ·exact .inr q
section
variable {K:Fg}
mutual
theorem aJ.ql {ι ι':List Addr} {S S':Hp} (hi:∀(n:Nat) (a:Addr),ι[n]? = some a->ι'[n]? = some a) (hs:jf S S'):∀(x:PV) (v:V),aJ K ι S x v->aJ K ι' S' x v
 | .aN,v,h=>by simpa[aJ] using h
 | .bl b,v,h=>by simpa[aJ] using h
 | .int i,v,h=>by simpa[aJ] using h
 | .str x,v,h=>by simpa[aJ] using h
 | .lst xs,v,h=>by
  rw[aJ] at h ⊢
  obtain⟨a,vs,e,q,r⟩:=h
  exact⟨a,vs,e,hs _ _ q,aO.ql hi hs xs vs r⟩
 | .tup xs,v,h=>by
  rw[aJ] at h ⊢
  obtain⟨a,vs,e,q,r⟩:=h
  exact⟨a,vs,e,hs _ _ q,aO.ql hi hs xs vs r⟩
 | .obj n,v,h=>by
  rw[aJ] at h ⊢
  obtain⟨a,e,q⟩:=h
  exact⟨a,e,hi _ _ q⟩
 | .mh ns,v,h=>by
  rw[aJ] at h ⊢
  obtain⟨a,e,q⟩:=h
  exact⟨a,e,q.mono hs⟩
theorem aO.ql {ι ι':List Addr} {S S':Hp} (hi:∀(n:Nat) (a:Addr),ι[n]? = some a->ι'[n]? = some a) (hs:jf S S'):∀(xs:List PV) (vs:List V),aO K ι S xs vs->aO K ι' S' xs vs
 | [],vs,h=>by simpa[aO] using h
 | x::xs,vs,h=>by
  rw[aO] at h ⊢
  obtain⟨v,r,e,h1,h2⟩:=h
  exact⟨v,r,e,aJ.ql hi hs x v h1,aO.ql hi hs xs r h2⟩
end
theorem aJ.up {ι ι':List Addr} {S S':Hp} (e:Up ι S ι' S') {x:PV} {v:V} (h:aJ K ι S x v):aJ K ι' S' x v:=aJ.ql e.ix e.sm x v h
theorem aJ.mono {ι ι':List Addr} {S S' H H':Hp} (e:Ext ι S H ι' S' H') {x:PV} {v:V} (h:aJ K ι S x v):aJ K ι' S' x v:=aJ.ql e.ix e.sm x v h
theorem aO.up {ι ι':List Addr} {S S':Hp} (e:Up ι S ι' S') {xs:List PV} {vs:List V} (h:aO K ι S xs vs):aO K ι' S' xs vs:=aO.ql e.ix e.sm xs vs h
theorem aO.mono {ι ι':List Addr} {S S' H H':Hp} (e:Ext ι S H ι' S' H') {xs:List PV} {vs:List V} (h:aO K ι S xs vs):aO K ι' S' xs vs:=aO.ql e.ix e.sm xs vs h
theorem cg.up {κ:Type} {ι ι':List Addr} {S S':Hp} (e:Up ι S ι' S') {kvs:List (κ×PV)} {bz:List (κ×V)} (h:cg K ι S kvs bz):cg K ι' S' kvs bz :=
 Paired.Gq h fun _ _ z=>⟨z.1,z.2.up e⟩
theorem cg.mono {κ:Type} {ι ι':List Addr} {S S' H H':Hp} (e:Ext ι S H ι' S' H') {kvs:List (κ×PV)} {bz:List (κ×V)} (h:cg K ι S kvs bz):cg K ι' S' kvs bz :=
 Paired.Gq h fun _ _ z=>⟨z.1,z.2.mono e⟩
mutual
theorem aJ.jg {ι:List Addr} {S:Hp}:∀(x:PV) (v:V),aJ K ι S x v->PV.jg ι.length x=true
 | .aN,v,h=>rfl
 | .bl b,v,h=>rfl
 | .int i,v,h=>rfl
 | .str x,v,h=>rfl
 | .lst xs,v,h=>by
  rw[aJ] at h
  obtain⟨a,vs,e,q,r⟩:=h
  rw[PV.jg]; exact aO.nR xs vs r
 | .tup xs,v,h=>by
  rw[aJ] at h
  obtain⟨a,vs,e,q,r⟩:=h
  rw[PV.jg]; exact aO.nR xs vs r
 | .obj n,v,h=>by
  rw[aJ] at h
  obtain⟨a,e,q⟩:=h
  rw[PV.jg]
  exact decide_eq_true (List.getElem?_eq_some_iff.mp q).1
 | .mh ns,v,h=>rfl
theorem aO.nR {ι:List Addr} {S:Hp}:∀(xs:List PV) (vs:List V),aO K ι S xs vs->PV.nR ι.length xs=true
 | [],vs,h=>rfl
 | x::xs,vs,h=>by
  rw[aO] at h
  obtain⟨v,r,e,h1,h2⟩:=h
  rw[PV.nR,aJ.jg x v h1,aO.nR xs r h2]; rfl
end
mutual
theorem aJ.cut {ι:List Addr} {S:Hp} {n:Nat}:∀(x:PV) (v:V),PV.jg n x=true->aJ K ι S x v->aJ K (ι.take n) S x v
 | .aN,v,b,h=>by simpa[aJ] using h
 | .bl _,v,b,h=>by simpa[aJ] using h
 | .int i,v,b,h=>by simpa[aJ] using h
 | .str x,v,b,h=>by simpa[aJ] using h
 | .lst xs,v,b,h=>by
  rw[aJ] at h ⊢
  rw[PV.jg] at b
  obtain⟨a,vs,e,q,r⟩:=h
  exact⟨a,vs,e,q,aO.cut xs vs b r⟩
 | .tup xs,v,b,h=>by
  rw[aJ] at h ⊢
  rw[PV.jg] at b
  obtain⟨a,vs,e,q,r⟩:=h
  exact⟨a,vs,e,q,aO.cut xs vs b r⟩
 | .obj m,v,b,h=>by
  rw[aJ] at h ⊢
  rw[PV.jg] at b
  obtain⟨a,e,q⟩:=h
  exact⟨a,e,by rw[List.getElem?_take_of_lt (of_decide_eq_true b)]; exact q⟩
 | .mh ns,v,b,h=>by
  rw[aJ] at h ⊢
  exact h
theorem aO.cut {ι:List Addr} {S:Hp} {n:Nat}:∀(xs:List PV) (vs:List V),PV.nR n xs=true->aO K ι S xs vs->aO K (ι.take n) S xs vs
 | [],vs,b,h=>by simpa[aO] using h
 | x::xs,vs,b,h=>by
  rw[aO] at h ⊢
  rw[PV.nR,Bool.and_eq_true] at b
  obtain⟨v,r,e,h1,h2⟩:=h
  exact⟨v,r,e,aJ.cut x v b.1 h1,aO.cut xs r b.2 h2⟩
end
variable {ι:List Addr} {S:Hp}
theorem aO.nil:aO K ι S [] []:=by rw[aO]
theorem aO.cons {x:PV} {xs:List PV} {v:V} {vs:List V} (h:aJ K ι S x v) (t:aO K ι S xs vs):aO K ι S (x::xs) (v::vs):=by
 rw[aO]; exact⟨v,vs,rfl,h,t⟩
theorem aO.jk {x:PV} {xs:List PV} {vs:List V} (h:aO K ι S (x::xs) vs):∃v r,vs=v::r/\aJ K ι S x v/\aO K ι S xs r:=by
 rw[aO] at h; exact h
theorem aO.length:∀{xs:List PV} {vs:List V},aO K ι S xs vs->xs.length=vs.length
 | [],vs,h=>by rw[aO] at h; subst h; rfl
 | x::xs,vs,h=>by
  obtain⟨v,r,rfl,_,h2⟩:=h.jk
  simp[aO.length h2]
theorem aO.get:∀{xs:List PV} {vs:List V} {i:Nat} {x:PV},aO K ι S xs vs->xs[i]? = some x->∃v,vs[i]? = some v/\aJ K ι S x v
 | [],vs,i,x,h,e=>by simp at e
 | y::xs,vs,i,x,h,e=>by
  obtain⟨v,r,rfl,h1,h2⟩:=h.jk
  cases i with
  | zero=>simp at e; subst e; exact⟨v,rfl,h1⟩
  | succ i =>
   obtain⟨w,q1,q2⟩:=aO.get (i:=i) h2 (by simpa using e)
   exact⟨w,by simpa using q1,q2⟩
theorem aO.append:∀{xs ys:List PV} {vs ws:List V},aO K ι S xs vs->aO K ι S ys ws->aO K ι S (xs++ys) (vs++ws)
 | [],ys,vs,ws,h,t=>by rw[aO] at h; subst h; exact t
 | x::xs,ys,vs,ws,h,t=>by
  obtain⟨v,r,rfl,h1,h2⟩:=h.jk
  exact .cons h1 (aO.append h2 t)
theorem aO.one {x:PV} {v:V} (h:aJ K ι S x v):aO K ι S [x] [v]:=.cons h .nil
theorem aO.set:∀{xs:List PV} {vs:List V} {x:PV} {v:V} (i:Nat),aJ K ι S x v->aO K ι S xs vs->aO K ι S (xs.set i x) (vs.set i v)
 | [],vs,x,v,i,h,t=>by rw[aO] at t; subst t; exact .nil
 | y::xs,vs,x,v,i,h,t=>by
  obtain⟨w,r,rfl,h1,h2⟩:=t.jk
  cases i with
  | zero=>exact .cons h h2
  | succ i=>exact .cons h1 (aO.set i h h2)
theorem aO.drop:∀{xs:List PV} {vs:List V} (n:Nat),aO K ι S xs vs->aO K ι S (xs.drop n) (vs.drop n)
 | xs,vs,0,h=>h
 | [],vs,n+1,h=>by rw[aO] at h; subst h; exact .nil
 | x::xs,vs,n+1,h=>by
  obtain⟨v,r,rfl,h1,h2⟩:=h.jk
  exact aO.drop n h2
theorem aO.take:∀{xs:List PV} {vs:List V} (n:Nat),aO K ι S xs vs->aO K ι S (xs.take n) (vs.take n)
 | xs,vs,0,h=>by simp; exact .nil
 | [],vs,n+1,h=>by rw[aO] at h; subst h; exact .nil
 | x::xs,vs,n+1,h=>by
  obtain⟨v,r,rfl,h1,h2⟩:=h.jk
  exact .cons h1 (aO.take n h2)
theorem aO.rep {xs:List PV} {vs:List V} (h:aO K ι S xs vs):∀k:Nat,aO K ι S (List.replicate k xs).flatten (List.replicate k vs).flatten
 | 0=>.nil
 | k+1=>by
  rw[List.replicate_succ,List.replicate_succ,List.flatten_cons,List.flatten_cons]
  exact h.append (aO.rep h k)
theorem cg.length {κ:Type} {kvs:List (κ×PV)} {bz:List (κ×V)} (h:cg K ι S kvs bz):kvs.length=bz.length:=Paired.length h
theorem aJ.ib {v:V}:aJ K ι S .aN v↔v=.aN:=by rw[aJ]
theorem aJ.cz {b:Bool} {v:V}:aJ K ι S (.bl b) v↔v=.bl b:=by rw[aJ]
theorem aJ.aX {i:Int} {v:V}:aJ K ι S (.int i) v↔v=.int i:=by rw[aJ]
theorem aJ.mQ {x:Str} {v:V}:aJ K ι S (.str x) v↔v=.str x:=by rw[aJ]
theorem aJ.jx {xs:List PV} {v:V}:aJ K ι S (.lst xs) v↔∃a vs,v=.ref a/\S a=some (.lst vs)/\aO K ι S xs vs:=by rw[aJ]
theorem aJ.dm {xs:List PV} {v:V}:aJ K ι S (.tup xs) v↔∃a vs,v=.ref a/\S a=some (.tup vs)/\aO K ι S xs vs:=by rw[aJ]
theorem aJ.qm {ns:List Int} {v:V}:aJ K ι S (.mh ns) v↔∃a,v=.ref a/\nK K S a (ns.map V.int):=by rw[aJ]
theorem aJ.cA {n:Nat} {v:V}:aJ K ι S (.obj n) v↔∃a,v=.ref a/\ι[n]? = some a:=by rw[aJ]
end
theorem xD {α:Type}:∀{l:List α},l.Nodup->∀{n m:Nat} (h1:n<l.length) (h2:m<l.length),l[n]=l[m]->n=m
 | [],_,n,m,h1,h2,e=>by simp at h1
 | x::l,nd,n,m,h1,h2,e=>by
  rw[List.nodup_cons] at nd
  cases n with
  | zero =>
   cases m with
   | zero=>rfl
   | succ m =>
    simp only[List.getElem_cons_zero,List.getElem_cons_succ] at e
    exact absurd (e ▸ List.getElem_mem _) nd.1
  | succ n =>
   cases m with
   | zero =>
    simp only[List.getElem_cons_zero,List.getElem_cons_succ] at e
    exact absurd (e ▸ List.getElem_mem _) nd.1
   | succ m =>
    simp only[List.getElem_cons_succ] at e
    rw[xD nd.2 (by simpa using h1) (by simpa using h2) e]
noncomputable def mR (K:Fg) (ι:List Addr) (S H:Hp) (a:Addr):MO->Prop
 | .gone=>∃o,H a=some o
 | .lst xs=>S a=none/\∃vs,H a=some (.lst vs)/\aO K ι S xs vs
 | .bR kvs=>S a=none/\∃bz,H a=some (.dK bz)/\cg K ι S kvs bz
 | .Ce kvs=>S a=none/\∃bz,H a=some (.dT bz)/\cg K ι S kvs bz
 | .sU kvs=>∃ob bz,S a=some (.ig ob (.dK bz))/\H a=some (.ig ob (.dK bz))/\cg K ι S kvs bz
 | .ins C fs=>S a=none/\∃dx rF,H a=some (.ins C dx rF)/\cg K ι S fs rF
 | .exc C=>S a=none/\H a=some (yp a C)
structure br (K:Fg) (ι:List Addr) (S:Hp) (M:aP) (H:Hp):Prop where
 sub:jf S H
 len:ι.length=M.length
 nd:ι.Nodup
 ob:∀(n:Nat) (a:Addr) (o:MO),ι[n]? = some a->M[n]? = some o->mR K ι S H a o
noncomputable def Slots (K:Fg) (ι:List Addr) (S:Hp) (ρ:dX) (σ:St):Prop :=
 ρ.length=σ.length/\∀(i:Nat) (x:PV),ρ[i]? = some (some x)->∃v,σ[i]? = some (some v)/\aJ K ι S x v
section
variable {K:Fg} {ι ι':List Addr} {S S' H H':Hp} {M M':aP} {ρ:dX} {σ:St}
theorem mR.there {a:Addr} {o:MO} (h:mR K ι S H a o):∃u,H a=some u:=by
 cases o with
 | gone=>exact h
 | lst xs=>obtain⟨_,vs,e,_⟩:=h; exact⟨_,e⟩
 | bR xs=>obtain⟨_,vs,e,_⟩:=h; exact⟨_,e⟩
 | Ce xs=>obtain⟨_,vs,e,_⟩:=h; exact⟨_,e⟩
 | sU xs=>obtain⟨_,_,_,e,_⟩:=h; exact⟨_,e⟩
 | ins C fs=>obtain⟨_,dx,vs,e,_⟩:=h; exact⟨_,e⟩
 | exc C=>obtain⟨_,e⟩:=h; exact⟨_,e⟩
theorem mR.up {a:Addr} {o:MO} (h:mR K ι S H a o) (e:Up ι S ι' S') (hs:S a=none->S' a=none) (hh:H' a=H a):mR K ι' S' H' a o:=by
 cases o with
 | gone=>obtain⟨u,q⟩:=h; exact⟨u,hh.trans q⟩
 | lst xs=>obtain⟨z,vs,q,r⟩:=h; exact⟨hs z,vs,hh.trans q,r.up e⟩
 | bR xs=>obtain⟨z,vs,q,r⟩:=h; exact⟨hs z,vs,hh.trans q,r.up e⟩
 | Ce xs=>obtain⟨z,vs,q,r⟩:=h; exact⟨hs z,vs,hh.trans q,r.up e⟩
 | sU xs=>obtain⟨ob,vs,z,q,r⟩:=h; exact⟨ob,vs,e.sm _ _ z,hh.trans q,r.up e⟩
 | ins C fs=>obtain⟨z,dx,vs,q,r⟩:=h; exact⟨hs z,dx,vs,hh.trans q,r.up e⟩
 | exc C=>obtain⟨z,q⟩:=h; exact⟨hs z,hh.trans q⟩
theorem Slots.mono (s:Slots K ι S ρ σ) (e:Ext ι S H ι' S' H'):Slots K ι' S' ρ σ:=⟨s.1,fun i x h=>by
 obtain⟨v,h1,h2⟩:=s.2 i x h
 exact⟨v,h1,h2.mono e⟩⟩
theorem Slots.set (s:Slots K ι S ρ σ) {x:PV} {v:V} (h:aJ K ι S x v) (i:Nat):Slots K ι S (ρ.set i (some x)) (σ.set i (some v)):=by
 refine⟨by simp[s.1],fun j y hj=>?_⟩
 by_cases Uh:i=j
 ·subst Uh
  have hl:i<(ρ.set i (some x)).length:=(List.getElem?_eq_some_iff.mp hj).1
  rw[List.length_set] at hl
  rw[List.getElem?_set_self hl] at hj
  cases hj
  exact⟨v,by rw[List.getElem?_set_self (by rw[← s.1]; exact hl)],h⟩
 ·rw[List.getElem?_set_ne Uh] at hj
  obtain⟨w,h1,h2⟩:=s.2 j y hj
  exact⟨w,by rw[List.getElem?_set_ne Uh]; exact h1,h2⟩
theorem br.addr (s:br K ι S M H) {n:Nat} {a:Addr} (h:ι[n]? = some a):∃o,M[n]? = some o/\mR K ι S H a o:=by
 have hl:n<M.length:=by rw[← s.len]; exact(List.getElem?_eq_some_iff.mp h).1
 exact⟨M[n],List.getElem?_eq_getElem hl,s.ob n a _ h (List.getElem?_eq_getElem hl)⟩
theorem br.at (s:br K ι S M H) {n:Nat} {o:MO} (h:M[n]? = some o):∃a,ι[n]? = some a/\mR K ι S H a o:=by
 have hl:n < ι.length:=by rw[s.len]; exact(List.getElem?_eq_some_iff.mp h).1
 exact⟨ι[n],List.getElem?_eq_getElem hl,s.ob n _ o (List.getElem?_eq_getElem hl) h⟩
theorem br.fresh (s:br K ι S M H) {p:Addr} (h:H p=none):p∉ι:=fun hm=>by
 obtain⟨n,hn,e⟩:=List.getElem_of_mem hm
 obtain⟨o,_,q⟩:=s.addr (List.getElem?_eq_some_iff.mpr ⟨hn,e⟩)
 obtain⟨u,z⟩:=q.there
 rw[h] at z; cases z
theorem br.pJ (s:br K ι S M H) {p:Addr} (h:H p=none):S p=none:=s.sub.free h
theorem br.tree (s:br K ι S M H) {p:Addr} {o:HO} (h:H p=none):br K ι (upd S p o) M (upd H p o)/\Ext ι S H ι (upd S p o) (upd H p o):=by
 have hS:=s.pJ h
 have sm:jf S (upd S p o):=fun b u q=>by rw[az (bf q hS)]; exact q
 have up:Up ι S ι (upd S p o):=⟨fun _ _ h=>h,sm⟩
 refine⟨⟨fun b u q=>?_,s.len,s.nd,fun n a u h1 h2=>?_⟩,⟨up,List.take_length,fun b u h1 h2 h3=>?_⟩⟩
 ·by_cases hb:b=p
  ·subst hb; rw[aU] at q ⊢; exact q
  ·rw[az hb] at q ⊢; exact s.sub b u q
 ·have fE:a≠p:=fun z=>s.fresh h (z ▸ List.mem_of_getElem? h1)
  exact(s.ob n a u h1 h2).up up (fun z=>by rw[az fE]; exact z) (az fE)
 ·have fE:=bf h1 h
  exact⟨by rw[az fE]; exact h1,h2,by rw[az fE]; exact h3⟩
theorem br.side (s:br K ι S M H) {p:Addr} {o:HO} (h:H p=none):br K ι S M (upd H p o)/\Ext ι S H ι S (upd H p o):=by
 refine⟨⟨fun b u q=>?_,s.len,s.nd,fun n a u h1 h2=>?_⟩,⟨⟨fun _ _ h=>h,jf.refl S⟩,List.take_length,fun b u h1 h2 h3=>?_⟩⟩
 ·rw[az (bf (s.sub b u q) h)]; exact s.sub b u q
 ·have fE:a≠p:=fun z=>s.fresh h (z ▸ List.mem_of_getElem? h1)
  exact(s.ob n a u h1 h2).up ⟨fun _ _ h=>h,jf.refl S⟩ (fun z=>z) (az fE)
 ·have fE:=bf h1 h
  exact⟨by rw[az fE]; exact h1,h2,h3⟩
theorem br.enter (s:br K ι S M H) {p:Addr} {o:MO} (hp:p∉ι) (h:mR K ι S H p o):br K (ι++[p]) S (M++[o]) H:=by
 refine⟨s.sub,by simp[s.len],?_,fun n a u h1 h2=>?_⟩
 ·rw[List.nodup_append]
  refine⟨s.nd,by simp,fun a ha b hb=>?_⟩
  rw[List.mem_singleton] at hb
  subst hb
  exact fun z=>hp (z ▸ ha)
 ·by_cases hn:n < ι.length
  ·rw[List.getElem?_append_left hn] at h1
   rw[List.getElem?_append_left (by rw[← s.len]; exact hn)] at h2
   exact(s.ob n a u h1 h2).up (.push p) (fun z=>z) rfl
  ·have e1:n=ι.length:=by
    have:=(List.getElem?_eq_some_iff.mp h1).1
    simp at this; omega
   subst e1
   simp at h1
   rw[s.len] at h2
   simp at h2
   subst h1; subst h2
   exact h.up (.push _) (fun z=>z) rfl
theorem br.new (s:br K ι S M H) {p:Addr} {u:HO} {o:MO} (h:H p=none) (ho:mR K ι S (upd H p u) p o):br K (ι++[p]) S (M++[o]) (upd H p u)/\Ext ι S H (ι++[p]) S (upd H p u):=by
 refine⟨(s.side h).1.enter (s.fresh h) ho,⟨.push p,by simp,fun b v h1 h2 h3=>?_⟩⟩
 have fE:=bf h1 h
 exact⟨by rw[az fE]; exact h1,by simp[h2,fE],h3⟩
theorem br.inj (s:br K ι S M H) {n m:Nat} {a:Addr} (h1:ι[n]? = some a) (h2:ι[m]? = some a):n=m:=by
 obtain⟨l1,e1⟩:=List.getElem?_eq_some_iff.mp h1
 obtain⟨l2,e2⟩:=List.getElem?_eq_some_iff.mp h2
 exact xD s.nd l1 l2 (e1.trans e2.symm)
theorem br.put (s:br K ι S M H) {n:Nat} {a:Addr} {u:HO} {o:MO} (h:ι[n]? = some a) (hS:S a=none) (ho:mR K ι S (upd H a u) a o):br K ι S (M.set n o) (upd H a u)/\Ext ι S H ι S (upd H a u):=by
 refine⟨⟨fun b v q=>?_,by simp[s.len],s.nd,fun m b v h1 h2=>?_⟩,⟨⟨fun _ _ h=>h,jf.refl S⟩,List.take_length,fun b v h1 h2 h3=>?_⟩⟩
 ·rw[az (bf q hS)]; exact s.sub b v q
 ·by_cases hm:n=m
  ·subst hm
   rw[h] at h1; cases h1
   have hl:n<M.length:=by
    have:=(List.getElem?_eq_some_iff.mp h2).1
    simpa using this
   rw[List.getElem?_set_self hl] at h2
   cases h2
   exact ho
  ·rw[List.getElem?_set_ne hm] at h2
   have fE:b≠a:=fun z=>hm (s.inj h (z ▸ h1))
   exact(s.ob m b v h1 h2).up ⟨fun _ _ h=>h,jf.refl S⟩ (fun z=>z) (az fE)
 ·have fE:b≠a:=fun z=>h2 (z ▸ List.mem_of_getElem? h)
  exact⟨by rw[az fE]; exact h1,h2,h3⟩
theorem br.freeze (s:br K ι S M H) {n:Nat} {a:Addr} {xs:List PV} (h:ι[n]? = some a) (hM:M[n]? = some (.lst xs)) :
  ∃S',br K ι S' (M.set n .gone) H/\Ext ι S H ι S' H/\aJ K ι S' (.lst xs) (.ref a):=by
 obtain⟨hS,vs,hH,hr⟩:=s.ob n a _ h hM
 have sm:jf S (upd S a (.lst vs)):=fun b u q=>by rw[az (bf q hS)]; exact q
 have up:Up ι S ι (upd S a (.lst vs)):=⟨fun _ _ h=>h,sm⟩
 refine⟨upd S a (.lst vs),⟨fun b u q=>?_,by simp[s.len],s.nd,fun m b v h1 h2=>?_⟩,⟨up,List.take_length,fun b v h1 h2 h3=>?_⟩,aJ.jx.mpr ⟨a,vs,rfl,aU,hr.up up⟩⟩
 ·by_cases hb:b=a
  ·subst hb; rw[aU] at q; cases q; exact hH
  ·rw[az hb] at q; exact s.sub b u q
 ·by_cases hm:n=m
  ·subst hm
   rw[h] at h1; cases h1
   have hl:n<M.length:=(List.getElem?_eq_some_iff.mp hM).1
   rw[List.getElem?_set_self hl] at h2
   cases h2
   exact⟨_,hH⟩
  ·rw[List.getElem?_set_ne hm] at h2
   have fE:b≠a:=fun z=>hm (s.inj h (z ▸ h1))
   exact(s.ob m b v h1 h2).up up (fun z=>by rw[az fE]; exact z) rfl
 ·have fE:b≠a:=fun z=>h2 (z ▸ List.mem_of_getElem? h)
  exact⟨h1,h2,by rw[az fE]; exact h3⟩
end
inductive Res (α:Type) where
 | ok (a:α) (M:aP)
 | exc (c:Addr) (M:aP)
 | bad
noncomputable def Res.bind {α β:Type}:Res α->(α->aP->Res β)->Res β
 | .ok a M,f=>f a M
 | .exc c M,_=>.exc c M
 | .bad,_=>.bad
@[simp] theorem Res.ag {α β:Type} {a:α} {M:aP} {f:α->aP->Res β}:(Res.ok a M).bind f=f a M:=rfl
@[simp] theorem Res.G9 {α β:Type} {c:Addr} {M:aP} {f:α->aP->Res β}:(Res.exc c M:Res α).bind f=.exc c M:=rfl
@[simp] theorem Res.Qw {α β:Type} {f:α->aP->Res β}:(Res.bad:Res α).bind f=.bad:=rfl
noncomputable def Res.opt {α:Type} (o:Option α) (M:aP):Res α:=match o with
 | some a=>.ok a M
 | none=>.bad
@[simp] theorem Res.vf {α:Type} {a:α} {M:aP}:Res.opt (some a) M=.ok a M:=rfl
@[simp] theorem Res.Ha {α:Type} {M:aP}:Res.opt (none:Option α) M=.bad:=rfl
noncomputable def bH {α β:Type} (K:Fg) (Rp:List Addr->Hp->α->β->Prop) (Ex:XK) (ι:List Addr) (S H:Hp) (Q:β->Hp->Prop):Res α->Prop
 | .ok x M'=>∀ ι' S' H' v,Ext ι S H ι' S' H'->br K ι' S' M' H'->Rp ι' S' x v->Q v H'
 | .exc c M'=>∀ ι' S' H',Ext ι S H ι' S' H'->br K ι' S' M' H'->Ex (.ref c) none H'
 | .bad=>False
section
variable {α β γ δ:Type} {K:Fg} {Rp:List Addr->Hp->α->β->Prop} {Rq:List Addr->Hp->γ->δ->Prop} {Ex:XK} {ι ι':List Addr} {S S' H H':Hp} {Q Q':β->Hp->Prop} {P:δ->Hp->Prop} {r:Res α}
theorem bH.up (h:bH K Rp Ex ι S H Q r) (e:Ext ι S H ι' S' H'):bH K Rp Ex ι' S' H' Q r:=by
 cases r with
 | ok x M=>exact fun ι1 S1 H1 v e1 s1 r1=>h ι1 S1 H1 v (e.trans e1) s1 r1
 | exc c M=>exact fun ι1 S1 H1 e1 s1=>h ι1 S1 H1 (e.trans e1) s1
 | bad=>exact h
theorem bH.bind {f:α->aP->Res γ} (h:bH K Rq Ex ι S H P (r.bind f))
  (g:∀ ι1 S1 M1 H1 x v,Ext ι S H ι1 S1 H1->br K ι1 S1 M1 H1->Rp ι1 S1 x v->bH K Rq Ex ι1 S1 H1 P (f x M1)->Q v H1):bH K Rp Ex ι S H Q r:=by
 cases r with
 | ok x M=>exact fun ι1 S1 H1 v e1 s1 r1=>g ι1 S1 M H1 x v e1 s1 r1 (bH.up h e1)
 | exc c M=>exact h
 | bad=>exact h
end
noncomputable def tG {α β:Type} (K:Fg) (Rp:List Addr->Hp->α->β->Prop) (Ex:St->XK) (d:dX->aP->Res α) (σ:St) (H:Hp) (Q:β->Hp->Prop):Prop :=
 ∃ ι S M ρ,br K ι S M H/\Slots K ι S ρ σ/\bH K Rp (Ex σ) ι S H Q (d ρ M)
noncomputable abbrev DE:=dX->aP->Res PV
noncomputable abbrev DA:=dX->aP->Res (List PV)
noncomputable abbrev DT:=dX->aP->Res Bool
noncomputable abbrev fb (K:Fg):List Addr->Hp->PV->V->Prop:=fun ι S x v=>aJ K ι S x v
noncomputable abbrev Ui (K:Fg):List Addr->Hp->List PV->List V->Prop:=fun ι S x v=>aO K ι S x v
noncomputable abbrev Gg:List Addr->Hp->Bool->Bool->Prop:=fun _ _ x v=>v=x
structure VE (X:Cx) (Ex:St->XK) (e:Expr) (d:DE):Prop where
 out:PE X e (tG X.K (fb X.K) Ex d)
structure VT (X:Cx) (Ex:St->XK) (e:Expr) (d:DT):Prop where
 out:PT X e (tG X.K Gg Ex d)
structure VW (X:Cx) (Ex:St->XK) (e:Expr) (d:DT):Prop where
 out:PW X e (tG X.K Gg Ex d)
structure VA (X:Cx) (Ex:St->XK) (es:List Expr) (d:DA):Prop where
 out:PA X es (tG X.K (Ui X.K) Ex d)
theorem PE.imp {X:Cx} {e:Expr} {t t':TE} (h:PE X e t) (i:∀ σ H Q,t' σ H Q->t σ H Q):PE X e t':=fun pins s σ H Q I hw=>h pins s σ H Q I (i σ H Q hw)
theorem PT.imp {X:Cx} {e:Expr} {t t':TT} (h:PT X e t) (i:∀ σ H Q,t' σ H Q->t σ H Q):PT X e t':=fun pins s σ H Q I hw=>h pins s σ H Q I (i σ H Q hw)
theorem PW.imp {X:Cx} {e:Expr} {t t':TT} (h:PW X e t) (i:∀ σ H Q,t' σ H Q->t σ H Q):PW X e t':=fun w pins s σ H Q I hw=>h w pins s σ H Q I (i σ H Q hw)
theorem PA.imp {X:Cx} {es:List Expr} {t t':TA} (h:PA X es t) (i:∀ σ H Q,t' σ H Q->t σ H Q):PA X es t':=fun pos pins s σ H Q I hw=>h pos pins s σ H Q I (i σ H Q hw)
theorem VW.vt {X:Cx} {Ex:St->XK} {e:Expr} {d:DT} (h:VW X Ex e d):VT X Ex e d:=⟨PW.pt h.out⟩
end L2
end
section
namespace L2
open PySem PySem.Spec PyProof.Rows
section
variable {X:Cx} {Ex:St->XK} {a b c e:Expr} {es:List Expr} {da db dc d:DE} {ds:List DE} {pos:Pos}
noncomputable def ae (i:Nat):DE:=fun ρ M=>match ρ[i]? with
 | some (some x)=>.ok x M
 | _=>.bad
theorem aa (i:Nat) {x:Str} (hN:X.N[i]? = some x:=by rfl) (hv:SX X.env.scope x:=by first | exact Or.inl rfl | exact Or.inr (Or.inl rfl) | exact Or.inr (Or.inr rfl))
  (hd:(x == ("__debug__" : Str))=false:=by decide) (Gu:(x == ("__classdict__" : Str))=false:=by decide):VE X Ex (.Name x pos) (ae i):=⟨by
 refine PE.imp (MF hN hv hd Gu) fun σ H Q h=>?_
 obtain⟨ι,S,M,ρ,aF,sl,w⟩:=h
 unfold ae at w
 cases q:ρ[i]? with
 | none=>rw[q] at w; exact w.elim
 | some o =>
  cases o with
  | none=>rw[q] at w; exact w.elim
  | some y =>
   rw[q] at w
   obtain⟨v,h1,h2⟩:=sl.2 i y q
   exact⟨v,h1,w ι S H v .refl aF h2⟩⟩
noncomputable def dC (x:PV):DE:=fun _ M=>.ok x M
theorem Hb {x:PV} {v:V} (h:PE X e (tC v)) (r:∀ ι S,aJ X.K ι S x v):VE X Ex e (dC x):=⟨by
 refine PE.imp h fun σ H Q hh=>?_
 obtain⟨ι,S,M,ρ,aF,sl,w⟩:=hh
 exact w ι S H v .refl aF (r ι S)⟩
theorem al {i:Int} {j}:VE X Ex (.Constant (.int i) j pos) (dC (.int i)):=Hb MG fun _ _=>aJ.aX.mpr rfl
theorem nT {b:Bool} {j}:VE X Ex (.Constant (.bool b) j pos) (dC (.bl b)):=Hb Po fun _ _=>aJ.cz.mpr rfl
theorem dS {j}:VE X Ex (.Constant .none j pos) (dC .aN):=Hb MH fun _ _=>aJ.ib.mpr rfl
theorem ay {x:Str} {j}:VE X Ex (.Constant (.str x) j pos) (dC (.str x)):=Hb Gv fun _ _=>aJ.mQ.mpr rfl
theorem mi {x:Str} {i:Int} {t:Tok} (hm:X.mg x=some (.int i t)) (hg:Gl X x:=by rfl) (hd:(x == ("__debug__" : Str))=false:=by decide):VE X Ex (.Name x pos) (dC (.int i)) :=
 Hb (ye hg hm (v:=.int i) ⟨t,rfl⟩ hd) fun _ _=>aJ.aX.mpr rfl
noncomputable def eR:List DE->DA
 | []=>fun _ M=>.ok [] M
 | d::ds=>fun ρ M=>(d ρ M).bind fun x M1=>(eR ds ρ M1).bind fun xs M2=>.ok (x::xs) M2
noncomputable abbrev Gh (K:Fg) (n:Nat):List Addr->Hp->List PV->List V->Prop:=fun ι S x v=>aO K ι S x v/\x.length=n
structure VN (X:Cx) (Ex:St->XK) (es:List Expr) (ds:List DE):Prop where
 out:PA X es (tG X.K (Gh X.K ds.length) Ex (eR ds))
theorem aj:VN X Ex [] []:=⟨by
 refine PA.imp pF fun σ H Q h=>?_
 obtain⟨ι,S,M,ρ,aF,sl,w⟩:=h
 exact w ι S H [] .refl aF ⟨.nil,rfl⟩⟩
theorem af (ha:VE X Ex e d) (hr:VN X Ex es ds) (hs:starEach (e::es) X.env=(false,eval e X.env)::starEach es X.env:=by rfl):VN X Ex (e::es) (d::ds):=⟨by
 refine PA.imp (jw ha.out hr.out hs) fun σ H Q h=>?_
 obtain⟨ι,S,M,ρ,aF,sl,w⟩:=h
 refine⟨ι,S,M,ρ,aF,sl,bH.bind (Rp:=fb X.K) w fun ι1 S1 M1 H1 x v e1 s1 r1 w1=>?_⟩
 refine⟨ι1,S1,M1,ρ,s1,sl.mono e1,bH.bind (Rp:=Gh X.K ds.length) w1 fun ι2 S2 M2 H2 xs vs e2 s2 r2 w2=>?_⟩
 exact w2 ι2 S2 H2 (v::vs) .refl s2 ⟨.cons (aJ.mono e2 r1) r2.1,by simp[r2.2]⟩⟩
noncomputable def rG (live:Bool) (xs:List PV) (M:aP):Res PV:=if xs.length≤lim then(if live=true then .ok (.obj M.length) (M++[.lst xs]) else .ok (.lst xs) M) else .bad
theorem mj {ι:List Addr} {S H:Hp} {M:aP} {E:XK} {Q:VK} {live:Bool} {xs:List PV} {vs:List V} {K:Fg} (aF:br K ι S M H) (r:aO K ι S xs vs) (w:bH K (fb K) E ι S H Q (rG live xs M)) :
  vs.length≤sizeLine/\∀p,H p=none->Q (.ref p) (upd H p (.lst vs)):=by
 unfold rG at w
 split at w
 ·rename_i hl
  refine⟨by rw[← r.length]; exact nS hl,fun p hp=>?_⟩
  split at w
  ·have hS:=aF.pJ hp
   obtain⟨s2,e2⟩:=aF.new (u:=.lst vs) (o:=.lst xs) hp ⟨hS,vs,aU,r⟩
   refine w _ _ _ _ e2 s2 (aJ.cA.mpr ⟨p,rfl,?_⟩)
   rw[← aF.len]; simp
  ·obtain⟨s2,e2⟩:=aF.tree (o:=.lst vs) hp
   exact w _ _ _ _ e2 s2 (aJ.jx.mpr ⟨p,vs,rfl,aU,r.mono e2⟩)
 ·exact w.elim
@[simp] theorem jM {xs:List PV} {M:aP} (h:xs.length≤lim):rG false xs M=.ok (.lst xs) M:=by unfold rG; rw[if_pos h,if_neg (by decide)]
@[simp] theorem nU {xs:List PV} {M:aP} (h:xs.length≤lim):rG true xs M=.ok (.obj M.length) (M++[.lst xs]):=by unfold rG; rw[if_pos h,if_pos rfl]
noncomputable def pK (ds:List DE):DE:=fun ρ M=>(eR ds ρ M).bind fun xs M1=>.ok (.tup xs) M1
noncomputable def fM (live:Bool) (ds:List DE):DE:=fun ρ M=>(eR ds ρ M).bind fun xs M1=>rG live xs M1
theorem jP {x1} (h:VN X Ex es ds) (hn:ds.length≤1000:=by exact Nat.le_of_ble_eq_true rfl):VE X Ex (.Tuple es x1 pos) (pK ds):=⟨by
 refine PE.imp (GJ h.out) fun σ H Q hh=>?_
 obtain⟨ι,S,M,ρ,aF,sl,w⟩:=hh
 refine⟨ι,S,M,ρ,aF,sl,bH.bind (Rp:=Gh X.K ds.length) w fun ι1 S1 M1 H1 xs vs e1 s1 r1 w1=>?_⟩
 refine⟨by rw[← r1.1.length,r1.2]; exact Nat.le_of_lt (xB hn),fun p hp=>?_⟩
 obtain⟨s2,e2⟩:=s1.tree (o:=.tup vs) hp
 exact w1 _ _ _ _ e2 s2 (aJ.dm.mpr ⟨p,vs,rfl,aU,r1.1.mono e2⟩)⟩
theorem cw (live:Bool) (h:VN X Ex es ds):VE X Ex (.List es pos) (fM live ds):=⟨by
 refine PE.imp (Ng h.out) fun σ H Q hh=>?_
 obtain⟨ι,S,M,ρ,aF,sl,w⟩:=hh
 refine⟨ι,S,M,ρ,aF,sl,bH.bind (Rp:=Gh X.K ds.length) w fun ι1 S1 M1 H1 xs vs e1 s1 r1 w1=>?_⟩
 exact mj s1 r1.1 w1⟩
noncomputable def iJ (M:aP):PV->Option (List PV)
 | .lst xs=>some xs
 | .obj n=>match M[n]? with
  | some (.lst xs)=>some xs
  | _=>none
 | _=>none
@[simp] theorem qo {M:aP} {xs:List PV}:iJ M (.lst xs)=some xs:=rfl
@[simp] theorem Qx {M:aP} {xs:List PV}:iJ M (.tup xs)=none:=rfl
@[simp] theorem vg {M:aP} {n:Nat}:iJ M (.obj n)=(match M[n]? with | some (.lst xs)=>some xs | _=>none):=rfl
theorem fy {K:Fg} {ι:List Addr} {S H:Hp} {M:aP} {x:PV} {xs:List PV} {v:V} (aF:br K ι S M H) (r:aJ K ι S x v) (h:iJ M x=some xs):∃p vs,v=.ref p/\H p=some (.lst vs)/\aO K ι S xs vs:=by
 cases x with
 | lst ys =>
  cases h
  obtain⟨p,vs,rfl,e,q⟩:=aJ.jx.mp r
  exact⟨p,vs,rfl,aF.sub _ _ e,q⟩
 | obj n =>
  obtain⟨p,rfl,e⟩:=aJ.cA.mp r
  obtain⟨o,e2,q⟩:=aF.addr e
  simp only[vg,e2] at h
  cases o with
  | lst ys =>
   cases h
   obtain⟨_,vs,h1,h2⟩:=q
   exact⟨p,vs,rfl,h1,h2⟩
  | _=>cases h
 | _=>cases h
noncomputable def o7 (M:aP) (x:PV):Option (List PV):=match x with
 | .tup xs=>some xs
 | .mh ns=>some (ns.map .int)
 | x=>iJ M x
@[simp] theorem Ao {M:aP} {xs:List PV}:o7 M (.lst xs)=some xs:=rfl
@[simp] theorem Hc {M:aP} {xs:List PV}:o7 M (.tup xs)=some xs:=rfl
@[simp] theorem Qy {M:aP} {ns:List Int}:o7 M (.mh ns)=some (ns.map .int):=rfl
@[simp] theorem vh {M:aP} {n:Nat}:o7 M (.obj n)=(match M[n]? with | some (.lst xs)=>some xs | _=>none):=rfl
theorem aO.ints {K:Fg} {ι:List Addr} {S:Hp}:∀ns:List Int,aO K ι S (ns.map PV.int) (ns.map V.int)
 | []=>.nil
 | n::ns=>.cons (aJ.aX.mpr rfl) (aO.ints ns)
theorem qp {K:Fg} {ι:List Addr} {S H:Hp} {M:aP} {x:PV} {xs:List PV} {v:V} (aF:br K ι S M H) (r:aJ K ι S x v) (h:o7 M x=some xs) :
  ∃p vs,v=.ref p/\(nK K H p vs\/wH K H p vs)/\aO K ι S xs vs:=by
 cases x with
 | tup ys =>
  cases h
  obtain⟨p,vs,rfl,e,q⟩:=aJ.dm.mp r
  exact⟨p,vs,rfl,.inr (.of (aF.sub _ _ e)),q⟩
 | mh ns =>
  cases h
  obtain⟨p,rfl,e⟩:=aJ.qm.mp r
  exact⟨p,_,rfl,.inl (e.mono aF.sub),.ints ns⟩
 | lst ys =>
  obtain⟨p,vs,e1,e2,q⟩:=fy aF r h
  exact⟨p,vs,e1,.inl (.of e2),q⟩
 | obj n =>
  obtain⟨p,vs,e1,e2,q⟩:=fy aF r h
  exact⟨p,vs,e1,.inl (.of e2),q⟩
 | _=>cases h
noncomputable abbrev D2:=PV->PV->aP->Res PV
noncomputable def rP (K:Fg) (f:D2):R2:=fun x y H Q=>∃E ι S M p q,br K ι S M H/\aJ K ι S p x/\aJ K ι S q y/\bH K (fb K) E ι S H Q (f p q M)
noncomputable def ax (f:D2) (da db:DE):DE:=fun ρ M=>(da ρ M).bind fun x M1=>(db ρ M1).bind fun y M2=>f x y M2
theorem Dj {f:D2} {K:Fg} {σ:St} {H:Hp} {Q:VK} (h:tG K (fb K) Ex (ax f da db) σ H Q):PD (rP K f) (tG K (fb K) Ex da) (tG K (fb K) Ex db) σ H Q:=by
 obtain⟨ι,S,M,ρ,aF,sl,w⟩:=h
 refine⟨ι,S,M,ρ,aF,sl,bH.bind (Rp:=fb K) w fun ι1 S1 M1 H1 x v e1 s1 r1 w1=>?_⟩
 refine⟨ι1,S1,M1,ρ,s1,sl.mono e1,bH.bind (Rp:=fb K) w1 fun ι2 S2 M2 H2 y u e2 s2 r2 w2=>?_⟩
 exact⟨_,ι2,S2,M2,x,y,s2,aJ.mono e2 r1,r2,w2⟩
theorem aY {op:Operator} {f:D2} (ho:j3 X (binaryOp op) (rP X.K f)) (ha:VE X Ex a da) (hb:VE X Ex b db):VE X Ex (.BinOp a op b pos) (ax f da db):=⟨PE.imp (PF ho ha.out hb.out) fun _ _ _ h=>Dj h⟩
theorem j3.imp {f:Value->Value->Sem Value} {r r':R2} (h:j3 X f r) (i:∀x y H Q,r' x y H Q->r x y H Q):j3 X f r':=fun pins s σ H x y v u Q I rx ry q=>h pins s σ H x y v u Q I rx ry (i x y H Q q)
noncomputable def jl (C:Int->Int->Bool) (g:Int->Int->PV):D2:=fun x y M=>match x,y with
 | .int i,.int j=>if C i j=true then .ok (g i j) M else .bad
 | _,_=>.bad
@[simp] theorem Qz {C:Int->Int->Bool} {g:Int->Int->PV} {i j:Int} {M:aP} (h:C i j=true):jl C g (.int i) (.int j) M=.ok (g i j) M:=by unfold jl; simp[h]
theorem kC {K:Fg} {C:Int->Int->Bool} {g:Int->Int->PV} {x y:V} {H:Hp} {Q:VK} (h:rP K (jl C g) x y H Q) :
  ∃i j,x=.int i/\y=.int j/\C i j=true/\∃ ι S M,br K ι S M H/\∀v,aJ K ι S (g i j) v->Q v H:=by
 obtain⟨E,ι,S,M,p,q,aF,rx,ry,w⟩:=h
 cases p with
 | int i =>
  cases q with
  | int j =>
   have hx:=aJ.aX.mp rx
   have hy:=aJ.aX.mp ry
   simp only[jl] at w
   split at w
   ·rename_i hc
    exact⟨i,j,hx,hy,hc,ι,S,M,aF,fun v hv=>w ι S H v .refl aF hv⟩
   ·exact w.elim
  | _=>exact w.elim
 | _=>exact w.elim
noncomputable def NN:D2:=jl (fun _ _=>true) fun i j=>.int (i-j)
noncomputable def lE:D2:=jl (fun _ j=>decide (0<j/\j<1073741824)) fun i j=>.int (i / j)
noncomputable def dy:D2:=jl (fun _ j=>decide (0<j)) fun i j=>.int (i%j)
theorem Kv:j3 X (binaryOp .Sub) (rP X.K NN):=MZ.imp fun x y H Q h=>by
 obtain⟨i,j,rfl,rfl,_,ι,S,M,aF,k⟩:=kC h
 exact⟨i,j,rfl,rfl,k _ (aJ.aX.mpr rfl)⟩
theorem kD:j3 X (binaryOp .FloorDiv) (rP X.K lE):=JZ.imp fun x y H Q h=>by
 obtain⟨i,j,rfl,rfl,hc,ι,S,M,aF,k⟩:=kC h
 exact⟨i,j,rfl,rfl,(show 0<j/\j<1073741824 from of_decide_eq_true hc),k _ (aJ.aX.mpr rfl)⟩
theorem cQ:j3 X (binaryOp .Mod) (rP X.K dy):=M7.imp fun x y H Q h=>by
 obtain⟨i,j,rfl,rfl,hc,ι,S,M,aF,k⟩:=kC h
 exact⟨i,j,rfl,rfl,of_decide_eq_true hc,k _ (aJ.aX.mpr rfl)⟩
noncomputable def small (i:Int):Bool:=decide (-(2 ^ 64)<i/\i<2 ^ 64)
noncomputable def dn (live:Bool):D2:=fun x y M=>match x,y with
 | .int i,.int j=>.ok (.int (i+j)) M
 | .tup xs,.tup ys=>if xs.isEmpty=false/\xs.length+ys.length≤lim then .ok (.tup (xs++ys)) M else .bad
 | x,y=>match iJ M x,iJ M y with
  | some xs,some ys=>rG live (xs++ys) M
  | _,_=>.bad
@[simp] theorem QA {live:Bool} {i j:Int} {M:aP}:dn live (.int i) (.int j) M=.ok (.int (i+j)) M:=rfl
@[simp] theorem qr {live:Bool} {xs ys:List PV} {M:aP}:dn live (.lst xs) (.lst ys) M=rG live (xs++ys) M:=rfl
theorem Cf {K:Fg} {live:Bool} {x y:V} {H:Hp} {Q:VK} (h:rP K (dn live) x y H Q) :
  (∃i j,x=.int i/\y=.int j/\Q (.int (i+j)) H)\/L9 K x y H Q\/Ko x y H Q:=by
 obtain⟨E,ι,S,M,p,q,aF,rx,ry,w⟩:=h
 have lists:(∀{xs ys:List PV},iJ M p=some xs->iJ M q=some ys->bH K (fb K) E ι S H Q (rG live (xs++ys) M)->Ko x y H Q):=fun {xs ys} h1 h2 w=>by
  obtain⟨l,vs,rfl,e1,r1⟩:=fy aF rx h1
  obtain⟨b,us,rfl,e2,r2⟩:=fy aF ry h2
  obtain⟨w1,w2⟩:=mj aF (r1.append r2) w
  exact⟨l,b,vs,us,rfl,rfl,e1,e2,by simpa using w1,w2⟩
 have other:(dn live p q M=match iJ M p,iJ M q with | some xs,some ys=>rG live (xs++ys) M | _,_=>.bad)->Ko x y H Q:=fun e=>by
  rw[e] at w
  cases h1:iJ M p with
  | none=>rw[h1] at w; exact w.elim
  | some xs =>
   cases h2:iJ M q with
   | none=>rw[h1,h2] at w; exact w.elim
   | some ys=>rw[h1,h2] at w; exact lists h1 h2 w
 cases p with
 | int i =>
  cases q with
  | int j=>exact .inl ⟨i,j,aJ.aX.mp rx,aJ.aX.mp ry,w ι S H _ .refl aF (aJ.aX.mpr rfl)⟩
  | _=>exact .inr (.inr (other rfl))
 | tup xs =>
  cases q with
  | tup ys =>
   refine .inr (.inl ?_)
   simp only[dn] at w
   split at w
   ·rename_i hc
    obtain⟨l,vs,rfl,e1,r1⟩:=aJ.dm.mp rx
    obtain⟨b,us,rfl,e2,r2⟩:=aJ.dm.mp ry
    refine⟨l,b,vs,us,rfl,rfl,.of (aF.sub _ _ e1),.of (aF.sub _ _ e2),fun z=>?_,?_,fun z=>?_,fun _ p hp=>?_⟩
    ·subst z
     have:=r1.length
     cases xs with
     | nil=>cases hc.1
     | cons _ _=>simp at this
    ·rw[← r1.length,← r2.length]; exact nS hc.2
    ·subst z
     have:=r2.length
     cases ys with
     | nil =>
      rw[zI] at w
      exact w ι S H _ .refl aF rx
     | cons _ _=>simp at this
    ·obtain⟨s2,e2⟩:=aF.tree (o:=.tup (vs++us)) hp
     exact w _ _ _ _ e2 s2 (aJ.dm.mpr ⟨p,_,rfl,aU,(r1.append r2).mono e2⟩)
   ·exact w.elim
  | _=>exact .inr (.inr (other rfl))
 | _=>exact .inr (.inr (other (by cases q<;>rfl)))
theorem bF (live:Bool):j3 X (binaryOp .Add) (rP X.K (dn live)):=(MY.or (Kk.or Ny)).imp fun x y H Q h=>by
 rcases Cf h with⟨i,j,hx,hy,q⟩ | h | h
 ·exact .inl ⟨i,j,hx,hy,q⟩
 ·exact .inr (.inl h)
 ·exact .inr (.inr h)
noncomputable def kE (live:Bool):D2:=fun x y M=>match x,y with
 | .int i,.int j=>if (small i || small j)=true then .ok (.int (i*j)) M else .bad
 | x,.int k=>match iJ M x with
  | some xs=>if small k=true/\k<2 ^ 62 /\ -(2 ^ 62)<k/\xs.length*k.toNat≤lim then rG live (List.replicate k.toNat xs).flatten M else .bad
  | none=>.bad
 | _,_=>.bad
@[simp] theorem He {live:Bool} {i j:Int} {M:aP} (h:(small i || small j)=true):kE live (.int i) (.int j) M=.ok (.int (i*j)) M:=by unfold kE; simp only[if_pos h]
theorem ka (live:Bool):j3 X (binaryOp .Mult) (rP X.K (kE live)):=(M6.or Nz).imp fun x y H Q h=>by
 obtain⟨E,ι,S,M,p,q,aF,rx,ry,w⟩:=h
 have rep:∀{k:Int},q=.int k->(kE live p q M=match iJ M p with
  | some xs=>if small k=true/\k<2 ^ 62 /\ -(2 ^ 62)<k/\xs.length*k.toNat≤lim then rG live (List.replicate k.toNat xs).flatten M else .bad
  | none=>.bad)->Qm x y H Q:=fun {k} e1 e2=>by
  subst e1
  rw[e2] at w
  cases h1:iJ M p with
  | none=>rw[h1] at w; exact w.elim
  | some xs =>
   rw[h1] at w
   obtain⟨l,vs,rfl,e3,r1⟩:=fy aF rx h1
   dsimp only at w
   split at w
   ·rename_i hc
    obtain⟨w1,w2⟩:=mj aF (r1.rep k.toNat) w
    have hy:=aJ.aX.mp ry
    subst hy
    refine⟨l,k,vs,rfl,rfl,e3,?_,?_,?_,w2⟩
    ·have:=hc.2.2.1; omega
    ·have:=hc.2.1; omega
    ·rw[← r1.length]; exact nS hc.2.2.2
   ·exact w.elim
 cases q with
 | int j =>
  cases p with
  | int i =>
   left
   simp only[kE] at w
   split at w
   ·rename_i hc
    refine⟨i,j,aJ.aX.mp rx,aJ.aX.mp ry,?_,w ι S H _ .refl aF (aJ.aX.mpr rfl)⟩
    rcases Bool.or_eq_true_iff.mp hc with z | z
    ·exact .inl (of_decide_eq_true z)
    ·exact .inr (of_decide_eq_true z)
   ·exact w.elim
  | _=>exact .inr (rep rfl rfl)
 | _=>cases p<;>exact w.elim
end
end L2
end
section
namespace L2
open PySem PySem.Spec PyProof.Rows
noncomputable def kb {α β:Type} (f:α->Option β):List α->Option (List β)
 | []=>some []
 | x::xs=>match f x,kb f xs with
  | some y,some ys=>some (y::ys)
  | _,_=>none
noncomputable def leaf:PV->Option PyData
 | .aN=>some .none
 | .bl b=>some (.bool b)
 | .int i=>some (.int i)
 | .str x=>if PyData.canLay0 (.str x)=true then some (.str x) else none
 | _=>none
noncomputable def flat (M:aP):Nat->PV->Option PyData
 | 0,x=>leaf x
 | k+1,x=>match x with
  | .lst xs=>(kb (flat M k) xs).map .list
  | .tup xs=>(kb (flat M k) xs).map .tuple
  | .obj n=>match M[n]? with
   | some (.lst xs)=>(kb (flat M k) xs).map .list
   | _=>none
  | x=>leaf x
theorem Dk {K:Fg} {ι:List Addr} {S:Hp} {h:Heap} {x:PV} {v:V} {u:Value} {d:PyData} (r:aJ K ι S x v) (ru:RelV v u) (e:leaf x=some d):Reads h u d []/\d.canLay0=true/\d.depth=0:=by
 cases x with
 | aN =>
  cases e
  cases aJ.ib.mp r
  cases ru
  exact⟨.none,rfl,rfl⟩
 | bl b =>
  cases e
  cases aJ.cz.mp r
  cases ru
  exact⟨.bool b,rfl,rfl⟩
 | int i =>
  cases e
  cases aJ.aX.mp r
  obtain⟨t,rfl⟩:=ru
  exact⟨.int i t,rfl,rfl⟩
 | str z =>
  simp only[leaf] at e
  split at e
  ·rename_i hc
   cases e
   cases aJ.mQ.mp r
   obtain⟨t,rfl⟩:=ru
   exact⟨.str z t,hc,rfl⟩
  ·cases e
 | _=>cases e
theorem ml {K:Fg} {ι:List Addr} {S:Hp} {h:Heap} {k:Nat} {f:PV->Option PyData}
  (ih:∀x v u d,aJ K ι S x v->RelV v u->f x=some d->(∃as,Reads h u d as)/\d.canLay0=true/\d.depth≤k) :
  ∀(xs:List PV) (vs:List V) (us:List Value) (ds:List PyData),aO K ι S xs vs->Vals vs us->kb f xs=some ds->(∃as,ReadsAll h us ds as)/\PyData.canLayAll0 ds=true/\PyData.depthAll ds≤k
 | [],vs,us,ds,r,ru,e=>by
  rw[aO] at r
  subst r
  cases ru
  cases e
  exact⟨⟨_,.nil⟩,rfl,Nat.zero_le _⟩
 | x::xs,vs,us,ds,r,ru,e=>by
  obtain⟨v,r',rfl,h1,h2⟩:=r.jk
  cases ru with
  | cons q1 q2 =>
   rw[kb] at e
   cases e1:f x with
   | none=>rw[e1] at e; cases e
   | some y =>
    cases e2:kb f xs with
    | none=>rw[e1,e2] at e; cases e
    | some ys =>
     rw[e1,e2] at e
     cases e
     obtain⟨⟨as,a1⟩,a2,a3⟩:=ih x v _ y h1 q1 e1
     obtain⟨⟨bs,b1⟩,b2,b3⟩:=ml ih xs r' _ ys h2 q2 e2
     refine⟨⟨_,.cons a1 b1⟩,?_,?_⟩
     ·rw[PyData.canLayAll0,a2,b2]; rfl
     ·rw[PyData.depthAll]; exact Nat.max_le.mpr ⟨a3,b3⟩
theorem jy {P:Program} {w:World} {K:Fg} {ι:List Addr} {S H:Hp} {M:aP} {h:Heap} (aF:br K ι S M H) (bO:mM P w H h) :
  ∀(k:Nat) (x:PV) (v:V) (u:Value) (d:PyData),aJ K ι S x v->RelV v u->flat M k x=some d->(∃as,Reads h u d as)/\d.canLay0=true/\d.depth≤k
 | 0,x,v,u,d,r,ru,e=>by
  obtain⟨h1,h2,h3⟩:=Dk (h:=h) r ru e
  exact⟨⟨_,h1⟩,h2,Nat.le_of_eq h3⟩
 | k+1,x,v,u,d,r,ru,e=>by
  have ih:=jy aF bO k
  have lst:∀{a:Addr} {xs:List PV} {vs:List V},v=.ref a->H a=some (.lst vs)->aO K ι S xs vs->(kb (flat M k) xs).map .list=some d->(∃as,Reads h u d as)/\d.canLay0=true/\d.depth≤k+1:=fun {a xs vs} ev eH hr e=>by
   subst ev
   cases ru
   obtain⟨_,bg,n,hv,hg⟩:=bO a _ eH
   cases e2:kb (flat M k) xs with
   | none=>rw[e2] at e; cases e
   | some ds =>
    rw[e2] at e
    cases e
    obtain⟨⟨as,a1⟩,a2,a3⟩:=ml ih xs vs bg ds hr hv e2
    exact⟨⟨_,.list hg rfl rfl (by simpa using a1)⟩,by rw[PyData.canLay0]; exact a2,by rw[PyData.depth]; exact Nat.succ_le_succ a3⟩
  cases x with
  | lst xs =>
   obtain⟨a,vs,ev,eS,hr⟩:=aJ.jx.mp r
   exact lst ev (aF.sub _ _ eS) hr e
  | tup xs =>
   obtain⟨a,vs,rfl,eS,hr⟩:=aJ.dm.mp r
   cases ru
   obtain⟨_,bg,hv,o,hg,hc,n,hd⟩:=bO a _ (aF.sub _ _ eS)
   have e:(kb (flat M k) xs).map PyData.tuple=some d:=e
   cases e2:kb (flat M k) xs with
   | none=>rw[e2] at e; cases e
   | some ds =>
    rw[e2] at e
    cases e
    obtain⟨⟨as,a1⟩,a2,a3⟩:=ml ih xs vs bg ds hr hv e2
    exact⟨⟨_,.tuple hg hc hd (by simpa using a1)⟩,by rw[PyData.canLay0]; exact a2,by rw[PyData.depth]; exact Nat.succ_le_succ a3⟩
  | obj n =>
   obtain⟨a,ev,ei⟩:=aJ.cA.mp r
   obtain⟨o,eM,mo⟩:=aF.addr ei
   simp only[flat,eM] at e
   cases o with
   | lst xs =>
    obtain⟨_,vs,eH,hr⟩:=mo
    exact lst ev eH hr e
   | _=>cases e
  | _ =>
   obtain⟨h1,h2,h3⟩:=Dk (h:=h) r ru e
   exact⟨⟨_,h1⟩,h2,by omega⟩
noncomputable abbrev deep:Nat:=10
section
variable {X:Cx} {Ex:St->XK} {a b c e:Expr} {es:List Expr} {da db dc d:DE} {ds:List DE} {pos:Pos}
noncomputable def dR (neg:Bool):D2:=fun x y M=>match flat M deep x,flat M deep y with
 | some p,some q=>.ok (.bl (if neg then !PyData.eqv p q else PyData.eqv p q)) M
 | _,_=>.bad
theorem Dl {K:Fg} {neg:Bool} {x y:V} {H:Hp} {Q:VK} (h:rP K (dR neg) x y H Q) :
  ∃ ι S M p q d1 d2,br K ι S M H/\aJ K ι S p x/\aJ K ι S q y/\flat M deep p=some d1/\flat M deep q=some d2/\Q (.bl (if neg then !PyData.eqv d1 d2 else PyData.eqv d1 d2)) H:=by
 obtain⟨E,ι,S,M,p,q,aF,rx,ry,w⟩:=h
 unfold dR at w
 cases e1:flat M deep p with
 | none=>rw[e1] at w; exact w.elim
 | some d1 =>
  cases e2:flat M deep q with
  | none=>rw[e1,e2] at w; exact w.elim
  | some d2 =>
   rw[e1,e2] at w
   exact⟨ι,S,M,p,q,d1,d2,aF,rx,ry,e1,e2,w ι S H _ .refl aF (aJ.cz.mpr rfl)⟩
theorem bQ (hu:X.A.units+64<cLine):j3 X (compareOp .Eq) (rP X.K (dR false)):=by
 intro pins s σ H x y v u Q I rx ry h
 obtain⟨ι,S,M,p,q,d1,d2,aF,px,py,e1,e2,w⟩:=Dl h
 obtain⟨⟨as,a1⟩,a2,a3⟩:=jy aF I.bO deep p x v d1 px rx e1
 obtain⟨⟨bs,b1⟩,b2,b3⟩:=jy aF I.bO deep q y u d2 py ry e2
 exact SeqAt.compareEq_reads a1 b1 a2 b2 (by have:=Nat.min_le_left d1.depth d2.depth; have:d1.depth≤10:=a3; omega) ⟨.bl _,H,I,rfl,w⟩
theorem jQ (hu:X.A.units+64<cLine):j3 X (compareOp .NotEq) (rP X.K (dR true)):=by
 intro pins s σ H x y v u Q I rx ry h
 obtain⟨ι,S,M,p,q,d1,d2,aF,px,py,e1,e2,w⟩:=Dl h
 obtain⟨⟨as,a1⟩,a2,a3⟩:=jy aF I.bO deep p x v d1 px rx e1
 obtain⟨⟨bs,b1⟩,b2,b3⟩:=jy aF I.bO deep q y u d2 py ry e2
 exact SeqAt.compareNe_reads a1 b1 a2 b2 (by have:=Nat.min_le_left d1.depth d2.depth; have:d1.depth≤10:=a3; omega) ⟨.bl _,H,I,rfl,w⟩
noncomputable def kF:PV->Option Key
 | .int i=>some (.inl i)
 | .str x=>some (.inr x)
 | _=>none
noncomputable def Dm:PV->Option (List Key)
 | .tup xs=>kb kF xs
 | _=>none
noncomputable def iK {κ:Type} [DecidableEq κ] (kvs:List (κ×PV)) (k:κ):Option PV:=(kvs.find? fun kv=>decide (kv.1=k)).map (·.2)
noncomputable def mS {κ:Type} [DecidableEq κ] (kvs:List (κ×PV)) (k:κ) (v:PV):List (κ×PV) :=
 if kvs.any (fun kv=>decide (kv.1=k)) then kvs.map (fun kv=>if kv.1=k then(kv.1,v) else kv) else kvs++[(k,v)]
noncomputable def vi {κ:Type} [DecidableEq κ] (kvs:List (κ×PV)) (k:κ):List (κ×PV):=kvs.filter fun kv=>decide (kv.1≠k)
theorem mm {K:Fg} {ι:List Addr} {S:Hp} {x:PV} {v:V} {k:Key} (r:aJ K ι S x v) (e:kF x=some k):v=kV k:=by
 cases x with
 | int i=>cases e; exact aJ.aX.mp r
 | str z=>cases e; exact aJ.mQ.mp r
 | _=>cases e
theorem rH {K:Fg} {ι:List Addr} {S:Hp}:∀{xs:List PV} {vs:List V} {ks:List Key},aO K ι S xs vs->kb kF xs=some ks->vs=ks.map kV
 | [],vs,ks,r,e=>by rw[aO] at r; subst r; cases e; rfl
 | x::xs,vs,ks,r,e=>by
  obtain⟨v,r',rfl,h1,h2⟩:=r.jk
  rw[kb] at e
  cases e1:kF x with
  | none=>rw[e1] at e; cases e
  | some k =>
   cases e2:kb kF xs with
   | none=>rw[e1,e2] at e; cases e
   | some Zy =>
    rw[e1,e2] at e
    cases e
    rw[zC,← mm h1 e1,← rH h2 e2]
theorem cg.val {K:Fg} {ι:List Addr} {S:Hp} {κ:Type} [DecidableEq κ] {kvs:List (κ×PV)} {bz:List (κ×V)} (h:cg K ι S kvs bz) (k:κ) :
  (iK kvs k=none/\mf bz k=none)\/∃x v,iK kvs k=some x/\mf bz k=some v/\aJ K ι S x v:=by
 induction h with
 | nil=>exact .inl ⟨rfl,rfl⟩
 | @cons p q kvs bz r t ih =>
  obtain⟨r1,r2⟩:=r
  by_cases e:p.1=k
  ·refine .inr ⟨p.2,q.2,by simp[iK,List.find?_cons,e],by rw[qf (r1 ▸ e)],r2⟩
  ·have e':¬q.1=k:=r1 ▸ e
   have h1:iK (p::kvs) k=iK kvs k:=by simp[iK,List.find?_cons,e]
   rw[h1,qg e']
   exact ih
theorem cg.any {K:Fg} {ι:List Addr} {S:Hp} {κ:Type} [DecidableEq κ] {kvs:List (κ×PV)} {bz:List (κ×V)} (h:cg K ι S kvs bz) (k:κ):kvs.any (fun kv=>decide (kv.1=k))=bz.any (fun kv=>decide (kv.1=k)):=by
 induction h with
 | nil=>rfl
 | cons r t ih=>rw[List.any_cons,List.any_cons,r.1,ih]
theorem cg.put {K:Fg} {ι:List Addr} {S:Hp} {κ:Type} [DecidableEq κ] {kvs:List (κ×PV)} {bz:List (κ×V)} (h:cg K ι S kvs bz) (k:κ) {x:PV} {v:V} (r:aJ K ι S x v):cg K ι S (mS kvs k x) (putK bz k v):=by
 unfold mS putK
 rw[h.any k]
 split
 ·induction h with
  | nil=>exact .nil
  | @cons p q kvs bz r' t ih =>
   rw[zC,zC]
   refine .cons ?_ ?_
   ·by_cases e:p.1=k
    ·rw[if_pos e,if_pos (r'.1 ▸ e)]; exact⟨r'.1,r⟩
    ·rw[if_neg e,if_neg (r'.1 ▸ e)]; exact r'
   ·rename_i hq
    clear ih hq
    induction t with
    | nil=>exact .nil
    | @cons p q kvs bz r' t ih =>
     rw[zC,zC]
     refine .cons ?_ ih
     by_cases e:p.1=k
     ·rw[if_pos e,if_pos (r'.1 ▸ e)]; exact⟨r'.1,r⟩
     ·rw[if_neg e,if_neg (r'.1 ▸ e)]; exact r'
 ·induction h with
  | nil=>exact .cons ⟨rfl,r⟩ .nil
  | cons r' t ih =>
   rename_i hq
   refine .cons r' (ih ?_)
   intro z
   exact hq (by rw[List.any_cons,z,Bool.or_true])
theorem cg.drop {K:Fg} {ι:List Addr} {S:Hp} {κ:Type} [DecidableEq κ] {kvs:List (κ×PV)} {bz:List (κ×V)} (h:cg K ι S kvs bz) (k:κ):cg K ι S (vi kvs k) (sQ bz k):=by
 unfold vi sQ
 induction h with
 | nil=>exact .nil
 | @cons p q kvs bz r t ih =>
  rw[List.filter_cons,List.filter_cons,← r.1]
  split
  ·exact .cons r ih
  ·exact ih
noncomputable def getD (M:aP) (x k:PV):Option (Option PV):=match x with
 | .obj n=>match M[n]? with
  | some (.bR kvs)=>(kF k).map (iK kvs)
  | some (.Ce kvs)=>(Dm k).map (iK kvs)
  | some (.sU kvs)=>(kF k).map (iK kvs)
  | _=>none
 | _=>none
theorem Ap {K:Fg} {ι:List Addr} {S H:Hp} {M:aP} {x k:PV} {v y:V} {o:Option PV} (aF:br K ι S M H) (r:aJ K ι S x v) (ry:aJ K ι S k y) (h:getD M x k=some o) :
  ∃p ov,v=.ref p/\Qf H p/\pG H p y ov/\((o=none/\ov=none)\/∃z w,o=some z/\ov=some w/\aJ K ι S z w):=by
 cases x with
 | obj n =>
  obtain⟨p,rfl,ei⟩:=aJ.cA.mp r
  obtain⟨mo,eM,q⟩:=aF.addr ei
  simp only[getD,eM] at h
  cases mo with
  | bR kvs =>
   obtain⟨_,bz,eH,rk⟩:=q
   dsimp only at h
   cases ek:kF k with
   | none=>rw[ek] at h; cases h
   | some kk =>
    rw[ek] at h
    cases h
    have:=mm ry ek
    subst this
    refine⟨p,mf bz kk,rfl,.inl ⟨bz,.inl eH⟩,pG.k eH,?_⟩
    rcases rk.val kk with⟨h1,h2⟩ | ⟨z,w,h1,h2,h3⟩
    ·exact .inl ⟨h1,h2⟩
    ·exact .inr ⟨z,w,h1,h2,h3⟩
  | Ce kvs =>
   obtain⟨_,bz,eH,rk⟩:=q
   dsimp only at h
   cases k with
   | tup xs =>
    obtain⟨b,vs,rfl,eS,hr⟩:=aJ.dm.mp ry
    simp only[Dm] at h
    cases ek:kb kF xs with
    | none=>rw[ek] at h; cases h
    | some kk =>
     rw[ek] at h
     cases h
     have:=rH hr ek
     subst this
     refine⟨p,mf bz kk,rfl,.inr ⟨bz,.inl eH⟩,pG.t eH (aF.sub _ _ eS),?_⟩
     rcases rk.val kk with⟨h1,h2⟩ | ⟨z,w,h1,h2,h3⟩
     ·exact .inl ⟨h1,h2⟩
     ·exact .inr ⟨z,w,h1,h2,h3⟩
   | _=>cases h
  | sU kvs =>
   obtain⟨ob,bz,_,eH,rk⟩:=q
   dsimp only at h
   cases ek:kF k with
   | none=>rw[ek] at h; cases h
   | some kk =>
    rw[ek] at h
    cases h
    have:=mm ry ek
    subst this
    refine⟨p,mf bz kk,rfl,.inl ⟨bz,.inr ⟨ob,eH⟩⟩,.inl ⟨bz,kk,.inr ⟨ob,eH⟩,rfl,rfl⟩,?_⟩
    rcases rk.val kk with⟨h1,h2⟩ | ⟨z,w,h1,h2,h3⟩
    ·exact .inl ⟨h1,h2⟩
    ·exact .inr ⟨z,w,h1,h2,h3⟩
  | _=>cases h
 | _=>cases h
noncomputable def lR (neg:Bool):D2:=fun x y M=>match o7 M y with
 | some ys=>match flat M deep x,kb (flat M deep) ys with
  | some p,some qs=>.ok (.bl (if neg then !qs.any (fun q=>PyData.eqv q p) else qs.any (fun q=>PyData.eqv q p))) M
  | _,_=>.bad
 | none=>match getD M y x with
  | some o=>.ok (.bl (if neg then !o.isSome else o.isSome)) M
  | none=>.bad
theorem Hf (neg:Bool) (hu:X.A.units+64<cLine) {op:CmpOp}
  (hL:∀{s:Shared} {c x:Value} {xs:List PyData} {d:PyData} {as bs:List Addr} {Q:Value->Shared->Prop} (rc:Reads s.heap c (.list xs) as) (rx:Reads s.heap x d bs) (Kw:PyData.canLayAll0 xs=true) (hd:d.canLay0=true)
   (hu:X.A.units+1+min (PyData.depthAll xs) d.depth<cLine) (h:Q (.bool (if neg then !xs.any (fun y=>PyData.eqv y d) else xs.any fun y=>PyData.eqv y d)) s),wpAny (model X.prog X.w) X.A (compareOp op x c) Q X.xe s)
  (hT:∀{s:Shared} {c x:Value} {xs:List PyData} {d:PyData} {as bs:List Addr} {Q:Value->Shared->Prop} (rc:Reads s.heap c (.tuple xs) as) (rx:Reads s.heap x d bs) (Kw:PyData.canLayAll0 xs=true) (hd:d.canLay0=true)
   (hu:X.A.units+1+min (PyData.depthAll xs) d.depth<cLine) (h:Q (.bool (if neg then !xs.any (fun y=>PyData.eqv y d) else xs.any fun y=>PyData.eqv y d)) s),wpAny (model X.prog X.w) X.A (compareOp op x c) Q X.xe s)
  (hD:∀{pins:List (Addr×Obj)} {s:Shared} {σ:St} {H:Hp} {p:Addr} {y:V} {u:Value} {o:Option V} {Q:Value->Shared->Prop},Inv X pins σ H s->pG H p y o->RelV y u->(∀s',Inv X pins σ H s'->Q (.bool (if neg then !o.isSome else o.isSome)) s') →
   wpAny (model X.prog X.w) X.A (compareOp op u (.ref p)) Q X.xe s):j3 X (compareOp op) (rP X.K (lR neg)):=by
 intro pins s σ H x y v u Q I rx ry h
 obtain⟨E,ι,S,M,p,q,aF,px,py,w⟩:=h
 unfold lR at w
 cases e1:o7 M q with
 | some ys =>
  rw[e1] at w
  dsimp only at w
  cases e2:flat M deep p with
  | none=>rw[e2] at w; exact w.elim
  | some d =>
   cases e3:kb (flat M deep) ys with
   | none=>rw[e2,e3] at w; exact w.elim
   | some qs =>
    rw[e2,e3] at w
    have fin:=w ι S H _ .refl aF (aJ.cz.mpr rfl)
    obtain⟨⟨as,a1⟩,a2,a3⟩:=jy aF I.bO deep p x v d px rx e2
    obtain⟨l,vs,rfl,hq,rs⟩:=qp aF py e1
    cases ry
    have room:X.A.units+1+min (PyData.depthAll qs) d.depth<cLine:=by have:=Nat.min_le_right (PyData.depthAll qs) d.depth; have:d.depth≤10:=a3; omega
    rcases hq with hq | hq
    ·obtain⟨bg,rv,pl,hz⟩:=I.list hq
     obtain⟨⟨bs,b1⟩,b2,b3⟩:=ml (jy aF I.bO deep) ys vs bg qs rs rv e3
     obtain⟨o,n,ho,hc,_,hd⟩:=pl
     exact hL (.list ho hc hd (by simpa using b1)) a1 b2 a2 room ⟨.bl _,H,I,rfl,fin⟩
    ·obtain⟨bg,rv,pl,hz⟩:=I.tuple hq
     obtain⟨⟨bs,b1⟩,b2,b3⟩:=ml (jy aF I.bO deep) ys vs bg qs rs rv e3
     obtain⟨o,ho,hc,n,hd⟩:=pl
     exact hT (.tuple ho hc hd (by simpa using b1)) a1 b2 a2 room ⟨.bl _,H,I,rfl,fin⟩
 | none =>
  rw[e1] at w
  dsimp only at w
  cases e2:getD M q p with
  | none=>rw[e2] at w; exact w.elim
  | some o =>
   rw[e2] at w
   have fin:=w ι S H _ .refl aF (aJ.cz.mpr rfl)
   obtain⟨l,ov,rfl,_,g,hh⟩:=Ap aF py px e2
   cases ry
   have eo:o.isSome=ov.isSome:=by
    rcases hh with⟨h1,h2⟩ | ⟨z,w',h1,h2,_⟩
    ·rw[h1,h2]; rfl
    ·rw[h1,h2]; rfl
   rw[eo] at fin
   exact hD I g rx fun s' I'=>⟨.bl _,H,I',rfl,fin⟩
theorem ij (hu:X.A.units+64<cLine):j3 X (compareOp .In) (rP X.K (lR false)) :=
 Hf false hu (fun rc rx Kw hd hu h=>SeqAt.in_list_reads rc rx Kw hd hu h) (fun rc rx Kw hd hu h=>SeqAt.in_tuple_reads rc rx Kw hd hu h) fun I g ry h=>TM (by omega) I g ry h
theorem oM (hu:X.A.units+64<cLine):j3 X (compareOp .NotIn) (rP X.K (lR true)) :=
 Hf true hu (fun rc rx Kw hd hu h=>SeqAt.notIn_list_reads rc rx Kw hd hu h) (fun rc rx Kw hd hu h=>SeqAt.notIn_tuple_reads rc rx Kw hd hu h) fun I g ry h=>Kd (by omega) I g ry h
noncomputable def Aq:D2:=jl (fun _ _=>true) fun i j=>.bl (decide (i<j))
noncomputable def OZ:D2:=jl (fun _ _=>true) fun i j=>.bl (decide (i≤j))
noncomputable def yt:D2:=jl (fun _ _=>true) fun i j=>.bl (decide (j<i))
noncomputable def QB:D2:=jl (fun _ _=>true) fun i j=>.bl (decide (j≤i))
theorem rJ:j3 X (compareOp .Lt) (rP X.K Aq):=PK.imp fun x y H Q h=>by
 obtain⟨i,j,rfl,rfl,_,ι,S,M,aF,k⟩:=kC h
 exact⟨i,j,rfl,rfl,k _ (aJ.cz.mpr rfl)⟩
theorem Hg:j3 X (compareOp .LtE) (rP X.K OZ):=PL.imp fun x y H Q h=>by
 obtain⟨i,j,rfl,rfl,_,ι,S,M,aF,k⟩:=kC h
 exact⟨i,j,rfl,rfl,k _ (aJ.cz.mpr rfl)⟩
theorem lS:j3 X (compareOp .Gt) (rP X.K yt):=PM.imp fun x y H Q h=>by
 obtain⟨i,j,rfl,rfl,_,ι,S,M,aF,k⟩:=kC h
 exact⟨i,j,rfl,rfl,k _ (aJ.cz.mpr rfl)⟩
theorem Hh:j3 X (compareOp .GtE) (rP X.K QB):=PN.imp fun x y H Q h=>by
 obtain⟨i,j,rfl,rfl,_,ι,S,M,aF,k⟩:=kC h
 exact⟨i,j,rfl,rfl,k _ (aJ.cz.mpr rfl)⟩
noncomputable def j4:PV->Bool
 | .aN=>true
 | _=>false
theorem xE {K:Fg} {ι:List Addr} {S:Hp} {x:PV} {v:V} (r:aJ K ι S x v):decide (v=.aN)=j4 x:=by
 cases x with
 | aN=>cases aJ.ib.mp r; rfl
 | bl b=>cases aJ.cz.mp r; rfl
 | int i=>cases aJ.aX.mp r; rfl
 | str z=>cases aJ.mQ.mp r; rfl
 | lst xs=>obtain⟨p,vs,rfl,_⟩:=aJ.jx.mp r; rfl
 | tup xs=>obtain⟨p,vs,rfl,_⟩:=aJ.dm.mp r; rfl
 | obj n=>obtain⟨p,rfl,_⟩:=aJ.cA.mp r; rfl
 | mh n=>obtain⟨p,rfl,_⟩:=aJ.qm.mp r; rfl
noncomputable def sV (neg:Bool):D2:=fun x y M=>match y with
 | .aN=>.ok (.bl (if neg then !j4 x else j4 x)) M
 | _=>.bad
theorem pL:j3 X (compareOp .Is) (rP X.K (sV false)):=M9.imp fun x y H Q h=>by
 obtain⟨E,ι,S,M,p,q,aF,rx,ry,w⟩:=h
 cases q with
 | aN =>
  refine⟨aJ.ib.mp ry,?_⟩
  rw[xE rx]
  exact w ι S H _ .refl aF (aJ.cz.mpr rfl)
 | _=>exact w.elim
theorem uD:j3 X (compareOp .IsNot) (rP X.K (sV true)):=J0.imp fun x y H Q h=>by
 obtain⟨E,ι,S,M,p,q,aF,rx,ry,w⟩:=h
 cases q with
 | aN =>
  refine⟨aJ.ib.mp ry,?_⟩
  rw[xE rx]
  exact w ι S H _ .refl aF (aJ.cz.mpr rfl)
 | _=>exact w.elim
theorem iV {op:CmpOp} {f:D2} (ho:j3 X (compareOp op) (rP X.K f)) (ha:VE X Ex a da) (hb:VE X Ex b db) (hm:behindInMarks op b=false:=by rfl):VE X Ex (.Compare a [op] [b] pos) (ax f da db):=⟨PE.imp (J2 ho ha.out hb.out hm) fun _ _ _ h=>Dj h⟩
noncomputable def kd (M:aP):PV->Option Bool
 | .aN=>some false
 | .bl b=>some b
 | .int i=>some (i != 0)
 | .str x=>if x.length≤lim then some ((x.length:Int) != 0) else none
 | .lst xs=>some !xs.isEmpty
 | .tup xs=>some !xs.isEmpty
 | .mh ns=>some !ns.isEmpty
 | .obj n=>match M[n]? with
  | some (.lst xs)=>some !xs.isEmpty
  | some (.bR kvs)=>some !kvs.isEmpty
  | _=>none
theorem isEmpty_eq {α β:Type} {xs:List α} {ys:List β} (h:xs.length=ys.length):xs.isEmpty=ys.isEmpty:=by cases xs<;>cases ys<;>simp_all
theorem Hi {K:Fg} {ι:List Addr} {S H:Hp} {M:aP} {x:PV} {v:V} {k:Bool} (aF:br K ι S M H) (r:aJ K ι S x v) (h:kd M x=some k):Nb K v H k:=by
 cases x with
 | aN=>cases aJ.ib.mp r; cases h; rfl
 | bl b=>cases aJ.cz.mp r; cases h; rfl
 | int i=>cases aJ.aX.mp r; cases h; rfl
 | str z =>
  cases aJ.mQ.mp r
  simp only[kd] at h
  split at h
  ·cases h
   rename_i hl
   exact⟨nS hl,rfl⟩
  ·cases h
 | lst xs =>
  obtain⟨p,vs,rfl,e,q⟩:=aJ.jx.mp r
  cases h
  exact .inl ⟨vs,.of (aF.sub _ _ e),by rw[isEmpty_eq q.length]⟩
 | tup xs =>
  obtain⟨p,vs,rfl,e,q⟩:=aJ.dm.mp r
  cases h
  exact .inr (.inl ⟨vs,.of (aF.sub _ _ e),by rw[isEmpty_eq q.length]⟩)
 | mh ns =>
  obtain⟨p,rfl,e⟩:=aJ.qm.mp r
  cases h
  exact .inl ⟨_,e.mono aF.sub,by rw[isEmpty_eq (by simp:ns.length=(ns.map V.int).length)]⟩
 | obj n =>
  obtain⟨p,rfl,e⟩:=aJ.cA.mp r
  obtain⟨o,eM,q⟩:=aF.addr e
  simp only[kd,eM] at h
  cases o with
  | lst xs =>
   cases h
   obtain⟨_,vs,e,q⟩:=q
   exact .inl ⟨vs,.of e,by rw[isEmpty_eq q.length]⟩
  | bR xs =>
   cases h
   obtain⟨_,vs,e,q⟩:=q
   exact .inr (.inr ⟨vs,e,by rw[isEmpty_eq q.length]⟩)
  | _=>cases h
noncomputable def gZ (d:DE):DT:=fun ρ M=>(d ρ M).bind fun x M1=>Res.opt (kd M1 x) M1
theorem bV (ha:VE X Ex a da) (he:∀whole,isTrue a X.env whole=(do let v ← whole; standAt a.pos; holding [v] (truthy v)):=by intro _; rfl):VT X Ex a (gZ da):=⟨by
 refine PT.imp (GG ha.out he) fun σ H Q h=>?_
 obtain⟨ι,S,M,ρ,aF,sl,w⟩:=h
 refine⟨ι,S,M,ρ,aF,sl,bH.bind (Rp:=fb X.K) w fun ι1 S1 M1 H1 x v e1 s1 r1 w1=>?_⟩
 cases e:kd M1 x with
 | none=>rw[e] at w1; exact w1.elim
 | some k =>
  rw[e] at w1
  exact⟨k,Hi s1 r1 e,w1 ι1 S1 H1 k .refl s1 rfl⟩⟩
noncomputable def aQ (d:DE):DT:=fun ρ M=>(d ρ M).bind fun x M1=>match x with
 | .bl k=>.ok k M1
 | _=>.bad
theorem Hj {K:Fg} {σ:St} {H:Hp} {Q:Bool->Hp->Prop} {t:TE} (h:tG K Gg Ex (aQ d) σ H Q) (hd:∀Q',tG K (fb K) Ex d σ H Q'->t σ H Q'):GC t σ H Q:=by
 obtain⟨ι,S,M,ρ,aF,sl,w⟩:=h
 refine hd _ ⟨ι,S,M,ρ,aF,sl,?_⟩
 refine bH.bind (Rp:=fb K) w fun ι1 S1 M1 H1 x v e1 s1 r1 w1=>?_
 cases x with
 | bl k=>exact⟨k,aJ.cz.mp r1,w1 ι1 S1 H1 k .refl s1 rfl⟩
 | _=>exact w1.elim
theorem aD {op:CmpOp} {f:D2} (ho:j3 X (compareOp op) (rP X.K f)) (ha:VE X Ex a da) (hb:VE X Ex b db) (hm:behindInMarks op b=false:=by rfl) :
  VT X Ex (.Compare a [op] [b] pos) (aQ (ax f da db)):=⟨PT.imp (J3 ho ha.out hb.out hm) fun σ H Q h=>Hj h fun Q' h'=>Dj h'⟩
noncomputable def rK (f g:D2) (da db dc:DE):DE:=fun ρ M=>(da ρ M).bind fun x M1=>(db ρ M1).bind fun y M2=>(f x y M2).bind fun z M3=>match z with
 | .bl true=>(dc ρ M3).bind fun w M4=>g y w M4
 | .bl false=>.ok (.bl false) M3
 | _=>.bad
theorem Hk {f g:D2} {K:Fg} {σ:St} {H:Hp} {Q:VK} (h:tG K (fb K) Ex (rK f g da db dc) σ H Q):GD (rP K f) (rP K g) (tG K (fb K) Ex da) (tG K (fb K) Ex db) (tG K (fb K) Ex dc) σ H Q:=by
 obtain⟨ι,S,M,ρ,aF,sl,w⟩:=h
 refine⟨ι,S,M,ρ,aF,sl,bH.bind (Rp:=fb K) w fun ι1 S1 M1 H1 x v e1 s1 r1 w1=>?_⟩
 refine⟨ι1,S1,M1,ρ,s1,sl.mono e1,bH.bind (Rp:=fb K) w1 fun ι2 S2 M2 H2 y u e2 s2 r2 w2=>?_⟩
 refine⟨_,ι2,S2,M2,x,y,s2,aJ.mono e2 r1,r2,bH.bind (Rp:=fb K) w2 fun ι3 S3 M3 H3 z t e3 s3 r3 w3=>?_⟩
 cases z with
 | bl k =>
  refine⟨k,aJ.cz.mp r3,?_⟩
  cases k with
  | false=>exact Aj (w3 ι3 S3 H3 _ .refl s3 (aJ.cz.mpr rfl))
  | true =>
   refine Ak ⟨ι3,S3,M3,ρ,s3,(sl.mono e1).mono (e2.trans e3),bH.bind (Rp:=fb K) w3 fun ι4 S4 M4 H4 c t4 e4 s4 r4 w4=>?_⟩
   exact⟨_,ι4,S4,M4,y,c,s4,aJ.mono (e3.trans e4) r2,r4,w4⟩
 | _=>exact w3.elim
theorem Hl {op Na:CmpOp} {f g:D2} (ho:j3 X (compareOp op) (rP X.K f)) (C1:j3 X (compareOp Na) (rP X.K g)) (ha:VE X Ex a da) (hb:VE X Ex b db) (hc:VE X Ex c dc)
  (hm:lastMarks [op,Na] [b,c]=false:=by with_unfolding_all rfl):VT X Ex (.Compare a [op,Na] [b,c] pos) (aQ (rK f g da db dc)):=⟨PT.imp (GF ho C1 ha.out hb.out hc.out hm) fun σ H Q h=>Hj h fun Q' h'=>Hk h'⟩
variable {ta tb tc:DT} {rest:List Expr}
noncomputable def mn (ta tb:DT):DT:=fun ρ M=>(ta ρ M).bind fun k M1=>if k=true then tb ρ M1 else .ok false M1
noncomputable def Ar (ta tb:DT):DT:=fun ρ M=>(ta ρ M).bind fun k M1=>if k=true then .ok true M1 else tb ρ M1
noncomputable def mT (ta:DT):DT:=fun ρ M=>(ta ρ M).bind fun k M1=>.ok (!k) M1
theorem iW (h:VT X Ex a ta):VW X Ex (.BoolOp .And [a] pos) ta:=⟨JP h.out⟩
theorem lT (h:VT X Ex a ta):VW X Ex (.BoolOp .Or [a] pos) ta:=⟨MI h.out⟩
theorem iX (ha:VT X Ex a ta) (hb:VW X Ex (.BoolOp .And (b::rest) pos) tb):VW X Ex (.BoolOp .And (a::b::rest) pos) (mn ta tb):=⟨by
 refine PW.imp (MJ ha.out hb.out) fun σ H Q h=>?_
 obtain⟨ι,S,M,ρ,aF,sl,w⟩:=h
 refine⟨ι,S,M,ρ,aF,sl,bH.bind (Rp:=Gg) w fun ι1 S1 M1 H1 x v e1 s1 r1 w1=>?_⟩
 cases r1
 cases x with
 | false=>exact Aj (w1 ι1 S1 H1 false .refl s1 rfl)
 | true=>exact Ak ⟨ι1,S1,M1,ρ,s1,sl.mono e1,w1⟩⟩
theorem ph (ha:VT X Ex a ta) (hb:VW X Ex (.BoolOp .Or (b::rest) pos) tb):VW X Ex (.BoolOp .Or (a::b::rest) pos) (Ar ta tb):=⟨by
 refine PW.imp (Pp ha.out hb.out) fun σ H Q h=>?_
 obtain⟨ι,S,M,ρ,aF,sl,w⟩:=h
 refine⟨ι,S,M,ρ,aF,sl,bH.bind (Rp:=Gg) w fun ι1 S1 M1 H1 x v e1 s1 r1 w1=>?_⟩
 cases r1
 cases x with
 | true=>exact Ak (w1 ι1 S1 H1 true .refl s1 rfl)
 | false=>exact Aj ⟨ι1,S1,M1,ρ,s1,sl.mono e1,w1⟩⟩
theorem jR (ha:VT X Ex a ta):VT X Ex (.UnaryOp .Not a pos) (mT ta):=⟨by
 refine PT.imp (MK ha.out) fun σ H Q h=>?_
 obtain⟨ι,S,M,ρ,aF,sl,w⟩:=h
 refine⟨ι,S,M,ρ,aF,sl,bH.bind (Rp:=Gg) w fun ι1 S1 M1 H1 x v e1 s1 r1 w1=>?_⟩
 cases r1
 exact w1 ι1 S1 H1 _ .refl s1 rfl⟩
noncomputable def As (da db:DE):DE:=fun ρ M=>(da ρ M).bind fun x M1=>match x with
 | .bl true=>db ρ M1
 | .bl false=>.ok (.bl false) M1
 | _=>.bad
noncomputable def Kx (da db:DE):DE:=fun ρ M=>(da ρ M).bind fun x M1=>match x with
 | .bl false=>db ρ M1
 | .bl true=>.ok (.bl true) M1
 | _=>.bad
theorem Cg {op} (h:VE X Ex a da):VE X Ex (.BoolOp op [a] pos) da:=⟨ML h.out⟩
theorem Hm (ha:VE X Ex a da) (hb:VE X Ex (.BoolOp .And (b::rest) pos) db):VE X Ex (.BoolOp .And (a::b::rest) pos) (As da db):=⟨by
 refine PE.imp (MM ha.out hb.out) fun σ H Q h=>?_
 obtain⟨ι,S,M,ρ,aF,sl,w⟩:=h
 refine⟨ι,S,M,ρ,aF,sl,bH.bind (Rp:=fb X.K) w fun ι1 S1 M1 H1 x v e1 s1 r1 w1=>?_⟩
 cases x with
 | bl k =>
  refine⟨k,aJ.cz.mp r1,?_⟩
  cases k with
  | false=>exact Aj (w1 ι1 S1 H1 _ .refl s1 (aJ.cz.mpr rfl))
  | true=>exact Ak ⟨ι1,S1,M1,ρ,s1,sl.mono e1,w1⟩
 | _=>exact w1.elim⟩
theorem QC (ha:VE X Ex a da) (hb:VE X Ex (.BoolOp .Or (b::rest) pos) db):VE X Ex (.BoolOp .Or (a::b::rest) pos) (Kx da db):=⟨by
 refine PE.imp (Pr ha.out hb.out) fun σ H Q h=>?_
 obtain⟨ι,S,M,ρ,aF,sl,w⟩:=h
 refine⟨ι,S,M,ρ,aF,sl,bH.bind (Rp:=fb X.K) w fun ι1 S1 M1 H1 x v e1 s1 r1 w1=>?_⟩
 cases x with
 | bl k =>
  refine⟨k,aJ.cz.mp r1,?_⟩
  cases k with
  | true=>exact Ak (w1 ι1 S1 H1 _ .refl s1 (aJ.cz.mpr rfl))
  | false=>exact Aj ⟨ι1,S1,M1,ρ,s1,sl.mono e1,w1⟩
 | _=>exact w1.elim⟩
noncomputable def Gi (tc:DT) (da db:DE):DE:=fun ρ M=>(tc ρ M).bind fun k M1=>if k=true then da ρ M1 else db ρ M1
theorem sW (hc:VT X Ex c tc) (ha:VE X Ex a da) (hb:VE X Ex b db):VE X Ex (.IfExp c a b pos) (Gi tc da db):=⟨by
 refine PE.imp (Gw hc.out ha.out hb.out) fun σ H Q h=>?_
 obtain⟨ι,S,M,ρ,aF,sl,w⟩:=h
 refine⟨ι,S,M,ρ,aF,sl,bH.bind (Rp:=Gg) w fun ι1 S1 M1 H1 x v e1 s1 r1 w1=>?_⟩
 cases r1
 cases x with
 | true=>exact Ak ⟨ι1,S1,M1,ρ,s1,sl.mono e1,w1⟩
 | false=>exact Aj ⟨ι1,S1,M1,ρ,s1,sl.mono e1,w1⟩⟩
end
end L2
end
section
namespace L2
open PySem PySem.Spec PyProof.Rows
section
variable {X:Cx} {Ex:St->XK} {a b c e o:Expr} {es:List Expr} {da db dc d kG:DE} {ds:List DE} {pos apos cI:Pos}
theorem Ky (hu:X.A.units+64<cLine):Kl X (fun x y H Q=>∃p v,x=.ref p/\pG H p y (some v)/\Q v H):=by
 intro value slice pins s σ H x y v u Q I rx ry h hs
 obtain⟨p,z,rfl,g,q⟩:=h
 cases rx
 exact tail_any (Ad I g) PySem.F.slot_dict_getitem.lookup (EB (by omega) I g ry fun w' s3 I3 B6=>⟨z,H,I3,B6,q⟩) hs
noncomputable def aW:D2:=fun x y M=>match o7 M x with
 | some xs=>match y with
  | .int i=>Res.opt (EF xs i) M
  | _=>.bad
 | none=>match getD M x y with
  | some (some z)=>.ok z M
  | _=>.bad
theorem Hn {K:Fg} {ι:List Addr} {S:Hp} {xs:List PV} {vs:List V} {i:Int} {x:PV} (r:aO K ι S xs vs) (h:EF xs i=some x):∃v,EF vs i=some v/\aJ K ι S x v:=by
 unfold EF at h ⊢
 rw[← r.length]
 cases e:EE xs.length i with
 | none=>rw[e] at h; cases h
 | some j =>
  rw[e] at h
  exact r.get h
theorem Uj (hu:X.A.units+64<cLine):Kl X (rP X.K aW):=by
 have base:=(Km (X:=X)).or (rB.or (Ky hu))
 intro value slice pins s σ H x y v u Q I rx ry h hs
 refine base value slice pins s σ H x y v u Q I rx ry ?_ hs
 obtain⟨E,ι,S,M,p,q,aF,px,py,w⟩:=h
 unfold aW at w
 cases e1:o7 M p with
 | some xs =>
  rw[e1] at w
  dsimp only at w
  cases q with
  | int i =>
   dsimp only at w
   cases e2:EF xs i with
   | none=>rw[e2] at w; exact w.elim
   | some z =>
    rw[e2] at w
    obtain⟨l,vs,rfl,hq,rs⟩:=qp aF px e1
    obtain⟨z',h1,h2⟩:=Hn rs e2
    have fin:=w ι S H z' .refl aF h2
    rcases hq with hq | hq
    ·exact .inl ⟨l,vs,i,z',rfl,aJ.aX.mp py,hq,h1,fin⟩
    ·exact .inr (.inl ⟨l,vs,i,z',rfl,aJ.aX.mp py,hq,h1,fin⟩)
  | _=>exact w.elim
 | none =>
  rw[e1] at w
  dsimp only at w
  cases e2:getD M p q with
  | none=>rw[e2] at w; exact w.elim
  | some oo =>
   cases oo with
   | none=>rw[e2] at w; exact w.elim
   | some z =>
    rw[e2] at w
    obtain⟨l,ov,rfl,_,g,hh⟩:=Ap aF px py e2
    rcases hh with⟨h1,_⟩ | ⟨z',w',h1,h2,h3⟩
    ·cases h1
    ·cases h1
     subst h2
     exact .inr (.inr ⟨l,w',rfl,g,w ι S H w' .refl aF h3⟩)
theorem av (hu:X.A.units+64<cLine) (ha:VE X Ex a da) (hb:VE X Ex b db) (hs:Df b:=by intro _ _; rfl):VE X Ex (.Subscript a b pos) (ax aW da db):=⟨PE.imp (Qj (Uj hu) ha.out hb.out hs) fun _ _ _ h=>Dj h⟩
noncomputable abbrev DO:=dX->aP->Res (Option Int)
noncomputable abbrev Uk:List Addr->Hp->Option Int->Option Int->Prop:=fun _ _ x v=>v=x
structure VO (X:Cx) (Ex:St->XK) (e:Option Expr) (d:DO):Prop where
 out:PO X e (tG X.K Uk Ex d)
theorem PO.imp {e:Option Expr} {t t':TO} (h:PO X e t) (i:∀ σ H Q,t' σ H Q->t σ H Q):PO X e t':=fun pins s σ H Q I hw=>h pins s σ H Q I (i σ H Q hw)
noncomputable def iY:DO:=fun _ M=>.ok none M
noncomputable def nV (d:DE):DO:=fun ρ M=>(d ρ M).bind fun x M1=>match x with
 | .int i=>.ok (some i) M1
 | _=>.bad
theorem ke:VO X Ex none iY:=⟨by
 refine PO.imp Ki fun σ H Q h=>?_
 obtain⟨ι,S,M,ρ,aF,sl,w⟩:=h
 exact w ι S H none .refl aF rfl⟩
theorem kh (h:VE X Ex e d):VO X Ex (some e) (nV d):=⟨by
 refine PO.imp (Kj h.out) fun σ H Q h=>?_
 obtain⟨ι,S,M,ρ,aF,sl,w⟩:=h
 refine⟨ι,S,M,ρ,aF,sl,bH.bind (Rp:=fb X.K) w fun ι1 S1 M1 H1 x v e1 s1 r1 w1=>?_⟩
 cases x with
 | int i=>exact⟨i,aJ.aX.mp r1,w1 ι1 S1 H1 _ .refl s1 rfl⟩
 | _=>exact w1.elim⟩
noncomputable def rL (xs:List PV) (lo hi:Option Int):List PV:=(xs.drop (HT.je xs.length 0 lo)).take (HT.je xs.length xs.length hi-HT.je xs.length 0 lo)
theorem aO.rL {K:Fg} {ι:List Addr} {S:Hp} {xs:List PV} {vs:List V} (r:aO K ι S xs vs) (lo hi:Option Int):aO K ι S (rL xs lo hi) (yj vs lo hi):=by
 unfold L2.rL yj
 rw[r.length]
 exact(r.drop _).take _
noncomputable def EN (live:Bool) (x:PV) (lo hi:Option Int) (M:aP):Res PV:=match x with
 | .tup xs=>if HT.je xs.length 0 lo=0/\HT.je xs.length xs.length hi=xs.length then .bad else .ok (.tup (rL xs lo hi)) M
 | x=>match iJ M x with
  | some xs=>rG live (rL xs lo hi) M
  | none=>.bad
noncomputable def Ul (K:Fg) (live:Bool):V->Option Int->Option Int->Hp->VK->Prop:=fun x lo hi H Q=>∃E ι S M p,br K ι S M H/\aJ K ι S p x/\bH K (fb K) E ι S H Q (EN live p lo hi M)
theorem GR.imp {r r':V->Option Int->Option Int->Hp->VK->Prop} (h:GR X r) (i:∀x lo hi H Q,r' x lo hi H Q->r x lo hi H Q):GR X r':=fun pins s σ H x v vl vu lo hi sl Q I rx hs pl pu q=>h pins s σ H x v vl vu lo hi sl Q I rx hs pl pu (i _ _ _ _ _ q)
theorem Um (live:Bool):GR X (Ul X.K live):=(Kn.or Nr).imp fun x lo hi H Q h=>by
 obtain⟨E,ι,S,M,p,aF,px,w⟩:=h
 have lists:∀{xs:List PV},iJ M p=some xs->bH X.K (fb X.K) E ι S H Q (rG live (rL xs lo hi) M)->Nu X.K x lo hi H Q:=fun {xs} h1 w=>by
  obtain⟨l,vs,rfl,e1,r1⟩:=fy aF px h1
  obtain⟨w1,w2⟩:=mj aF (r1.rL lo hi) w
  exact⟨l,vs,rfl,.of e1,w2⟩
 have other:(EN live p lo hi M=match iJ M p with | some xs=>rG live (rL xs lo hi) M | none=>.bad)->Nu X.K x lo hi H Q:=fun e=>by
  rw[e] at w
  cases h1:iJ M p with
  | none=>rw[h1] at w; exact w.elim
  | some xs=>rw[h1] at w; exact lists h1 w
 cases p with
 | tup xs =>
  right
  simp only[EN] at w
  split at w
  ·exact w.elim
  ·rename_i hc
   obtain⟨l,vs,rfl,e1,r1⟩:=aJ.dm.mp px
   refine⟨l,vs,rfl,.of (aF.sub _ _ e1),by rw[← r1.length]; exact hc,fun p hp=>?_⟩
   obtain⟨s2,e2⟩:=aF.tree (o:=.tup (yj vs lo hi)) hp
   exact w _ _ _ _ e2 s2 (aJ.dm.mpr ⟨p,_,rfl,aU,(r1.rL lo hi).mono e2⟩)
 | _=>exact .inl (other rfl)
noncomputable def Ho (live:Bool) (da:DE) (dl dh:DO):DE:=fun ρ M=>(da ρ M).bind fun x M1=>(dl ρ M1).bind fun lo M2=>(dh ρ M2).bind fun hi M3=>EN live x lo hi M3
theorem qt (live:Bool) {lo hi:Option Expr} {dl dh:DO} {p2:Pos} (he:VE X Ex e d) (hl:VO X Ex lo dl) (hh:VO X Ex hi dh):VE X Ex (.Subscript e (.Slice lo hi none p2) pos) (Ho live d dl dh):=⟨by
 refine PE.imp (GS (Um live) he.out hl.out hh.out) fun σ H Q h=>?_
 obtain⟨ι,S,M,ρ,aF,sl,w⟩:=h
 refine⟨ι,S,M,ρ,aF,sl,bH.bind (Rp:=fb X.K) w fun ι1 S1 M1 H1 x v e1 s1 r1 w1=>?_⟩
 refine⟨ι1,S1,M1,ρ,s1,sl.mono e1,bH.bind (Rp:=Uk) w1 fun ι2 S2 M2 H2 l l' e2 s2 r2 w2=>?_⟩
 cases r2
 refine⟨ι2,S2,M2,ρ,s2,sl.mono (e1.trans e2),bH.bind (Rp:=Uk) w2 fun ι3 S3 M3 H3 h h' e3 s3 r3 w3=>?_⟩
 cases r3
 exact⟨_,ι3,S3,M3,x,s3,aJ.mono (e2.trans e3) r1,w3⟩⟩
noncomputable def yu (x:PV) (M:aP):Res PV:=match x with
 | .obj n=>match M[n]? with
  | some (.lst xs)=>.ok (.lst xs) (M.set n .gone)
  | _=>.ok x M
 | x=>.ok x M
noncomputable def Au (d:DE):DE:=fun ρ M=>(d ρ M).bind fun x M1=>yu x M1
theorem rN (h:VE X Ex e d):VE X Ex e (Au d):=⟨by
 refine PE.imp h.out fun σ H Q hh=>?_
 obtain⟨ι,S,M,ρ,aF,sl,w⟩:=hh
 refine⟨ι,S,M,ρ,aF,sl,bH.bind (Rp:=fb X.K) w fun ι1 S1 M1 H1 x v e1 s1 r1 w1=>?_⟩
 have keep:bH X.K (fb X.K) (Ex σ) ι1 S1 H1 Q (.ok x M1)->Q v H1:=fun w=>w ι1 S1 H1 v .refl s1 r1
 cases x with
 | obj n =>
  simp only[yu] at w1
  cases eM:M1[n]? with
  | none=>rw[eM] at w1; exact keep w1
  | some o =>
   rw[eM] at w1
   cases o with
   | lst xs =>
    obtain⟨p,rfl,ei⟩:=aJ.cA.mp r1
    obtain⟨S',s2,e2,r2⟩:=s1.freeze ei eM
    exact w1 _ _ _ _ e2 s2 r2
   | _=>exact keep w1
 | _=>exact keep w1⟩
noncomputable abbrev D1:=List PV->aP->Res PV
noncomputable def rC (K:Fg) (f:D1):List V->Hp->VK->Prop:=fun vs H Q=>∃E ι S M xs,br K ι S M H/\aO K ι S xs vs/\bH K (fb K) E ι S H Q (f xs M)
theorem dQ.imp {f:Value} {r r':List V->Hp->VK->Prop} (h:dQ X f r) (i:∀xs H Q,r' xs H Q->r xs H Q):dQ X f r':=fun pins s σ H xs us Q I rs q=>h pins s σ H xs us Q I rs (i _ _ _ q)
noncomputable def ao (f:D1) (ds:List DE):DE:=fun ρ M=>(eR ds ρ M).bind fun xs M1=>f xs M1
theorem Dn {f:D1} {K:Fg} {σ:St} {H:Hp} {Q:VK} (h:tG K (fb K) Ex (ao f ds) σ H Q):TL (rC K f) (tG K (Gh K ds.length) Ex (eR ds)) σ H Q:=by
 obtain⟨ι,S,M,ρ,aF,sl,w⟩:=h
 refine⟨ι,S,M,ρ,aF,sl,bH.bind (Rp:=Gh K ds.length) w fun ι1 S1 M1 H1 x v e1 s1 r1 w1=>?_⟩
 exact⟨_,ι1,S1,M1,x,s1,r1.1,w1⟩
theorem bw {f:D1} {x:Str} {id:String} {p:Pos} (hc:dQ X (.builtin id) (rC X.K f)) (hm:X.mg x=none) (hv:bootBuiltins x=some (.builtin id)) (ha:VN X Ex (e::es) ds) (hg:Gl X x:=by rfl) (hn:x ≠ "__name__" := by decide) (Ez:(x == ("__debug__" : Str))=false:=by decide)
  (he:starEach (e::es) X.env=(false,eval e X.env)::starEach es X.env:=by rfl) (mI:(backTo pos (starEach es X.env)).any (·.1)=false:=by rfl):VE X Ex (.Call (.Name x p) (e::es) [] pos) (ao f ds):=⟨PE.imp (qe hc hg hm hv ha.out hn Ez he mI) fun _ _ _ h=>Dn h⟩
theorem fF {f:D1} {x:Str} {T:String} {p:Pos} (hc:dQ X (.type T) (rC X.K f)) (hm:X.mg x=none) (hv:bootBuiltins x=some (.type T)) (ha:VN X Ex (e::es) ds) (hg:Gl X x:=by rfl) (hn:x ≠ "__name__" := by decide) (Ez:(x == ("__debug__" : Str))=false:=by decide)
  (he:starEach (e::es) X.env=(false,eval e X.env)::starEach es X.env:=by rfl) (mI:(backTo pos (starEach es X.env)).any (·.1)=false:=by rfl):VE X Ex (.Call (.Name x p) (e::es) [] pos) (ao f ds):=⟨PE.imp (EA hc hg hm hv ha.out hn Ez he mI) fun _ _ _ h=>Dn h⟩
theorem aO.gB {K:Fg} {ι:List Addr} {S:Hp} {x:PV} {vs:List V} (h:aO K ι S [x] vs):∃v,vs=[v]/\aJ K ι S x v:=by
 obtain⟨v,r,rfl,h1,h2⟩:=h.jk
 rw[aO] at h2
 subst h2
 exact⟨v,rfl,h1⟩
theorem aO.Dp {K:Fg} {ι:List Addr} {S:Hp} {x y:PV} {vs:List V} (h:aO K ι S [x,y] vs):∃v w,vs=[v,w]/\aJ K ι S x v/\aJ K ι S y w:=by
 obtain⟨v,r,rfl,h1,h2⟩:=h.jk
 obtain⟨w,rfl,h3⟩:=h2.gB
 exact⟨v,w,rfl,h1,h3⟩
noncomputable def cc:D1:=fun xs M=>match xs with
 | [x]=>match o7 M x with
  | some ys=>.ok (.int ys.length) M
  | none=>match x with
   | .obj n=>match M[n]? with
    | some (.bR kvs)=>.ok (.int kvs.length) M
    | _=>.bad
   | _=>.bad
 | _=>.bad
theorem bq:dQ X (.builtin "len") (rC X.K cc):=(yn.or EK).imp fun vs H Q h=>by
 obtain⟨E,ι,S,M,xs,aF,r,w⟩:=h
 unfold cc at w
 match xs,r,w with
 | [],r,w=>exact w.elim
 | x::y::z,r,w=>exact w.elim
 | [x],r,w =>
  obtain⟨v,rfl,r1⟩:=r.gB
  dsimp only at w
  cases e1:o7 M x with
  | some ys =>
   rw[e1] at w
   obtain⟨p,vs,rfl,hq,rs⟩:=qp aF r1 e1
   refine .inl ⟨p,vs,rfl,hq,?_⟩
   rw[← rs.length]
   exact w ι S H _ .refl aF (aJ.aX.mpr rfl)
  | none =>
   rw[e1] at w
   dsimp only at w
   cases x with
   | obj n =>
    obtain⟨p,rfl,ei⟩:=aJ.cA.mp r1
    obtain⟨o,eM,q⟩:=aF.addr ei
    simp only[eM] at w
    cases o with
    | bR kvs =>
     obtain⟨_,bz,eH,rk⟩:=q
     refine .inr ⟨p,bz,rfl,eH,?_⟩
     rw[← rk.length]
     exact w ι S H _ .refl aF (aJ.aX.mpr rfl)
    | _=>exact w.elim
   | _=>exact w.elim
noncomputable def mq (live:Bool):D1:=fun xs M=>match xs with
 | [x]=>match o7 M x with
  | some ys=>rG live ys M
  | none=>.bad
 | _=>.bad
theorem kH (live:Bool):dQ X (.type "list") (rC X.K (mq live)):=yo.imp fun vs H Q h=>by
 obtain⟨E,ι,S,M,xs,aF,r,w⟩:=h
 unfold mq at w
 match xs,r,w with
 | [],r,w=>exact w.elim
 | x::y::z,r,w=>exact w.elim
 | [x],r,w =>
  obtain⟨v,rfl,r1⟩:=r.gB
  dsimp only at w
  cases e1:o7 M x with
  | none=>rw[e1] at w; exact w.elim
  | some ys =>
   rw[e1] at w
   obtain⟨p,vs,rfl,hq,rs⟩:=qp aF r1 e1
   exact⟨p,vs,rfl,hq,(mj aF rs w).2⟩
noncomputable def yw:D1:=fun xs M=>match xs with
 | [x]=>match iJ M x with
  | some ys=>.ok (.tup ys) M
  | none=>match x with
   | .tup ys=>.ok (.tup ys) M
   | _=>.bad
 | _=>.bad
theorem Av:dQ X (.type "tuple") (rC X.K yw):=wL.imp fun vs H Q h=>by
 obtain⟨E,ι,S,M,xs,aF,r,w⟩:=h
 unfold yw at w
 match xs,r,w with
 | [],r,w=>exact w.elim
 | x::y::z,r,w=>exact w.elim
 | [x],r,w =>
  obtain⟨v,rfl,r1⟩:=r.gB
  dsimp only at w
  cases e1:iJ M x with
  | some ys =>
   rw[e1] at w
   obtain⟨p,vs,rfl,eH,rs⟩:=fy aF r1 e1
   refine⟨p,vs,rfl,.inl ⟨.of eH,fun l hl=>?_⟩⟩
   obtain⟨s2,e2⟩:=aF.tree (o:=.tup vs) hl
   exact w _ _ _ _ e2 s2 (aJ.dm.mpr ⟨l,_,rfl,aU,rs.mono e2⟩)
  | none =>
   rw[e1] at w
   dsimp only at w
   cases x with
   | tup ys =>
    obtain⟨p,vs,rfl,e,q⟩:=aJ.dm.mp r1
    exact⟨p,vs,rfl,.inr ⟨.of (aF.sub _ _ e),w ι S H _ .refl aF r1⟩⟩
   | _=>exact w.elim
noncomputable def qu:D1:=fun xs M=>match xs with
 | [.int i]=>.ok (.int i) M
 | [.bl b]=>.ok (.int (if b then 1 else 0)) M
 | _=>.bad
theorem vj:dQ X (.type "int") (rC X.K qu):=Eo.imp fun vs H Q h=>by
 obtain⟨E,ι,S,M,xs,aF,r,w⟩:=h
 unfold qu at w
 split at w
 ·obtain⟨v,rfl,r1⟩:=r.gB
  cases aJ.aX.mp r1
  exact .inl ⟨_,rfl,w ι S H _ .refl aF (aJ.aX.mpr rfl)⟩
 ·obtain⟨v,rfl,r1⟩:=r.gB
  cases aJ.cz.mp r1
  exact .inr ⟨_,rfl,w ι S H _ .refl aF (aJ.aX.mpr rfl)⟩
 ·exact w.elim
noncomputable def Kz:D1:=fun xs M=>match xs with
 | [.int i,.int j]=>.ok (.int (if j > i then j else i)) M
 | _=>.bad
noncomputable def KA:D1:=fun xs M=>match xs with
 | [.int i,.int j]=>.ok (.int (if j<i then j else i)) M
 | _=>.bad
theorem EO (hc:X.calm=true):dQ X (.builtin "max") (rC X.K Kz):=(El hc).imp fun vs H Q h=>by
 obtain⟨E,ι,S,M,xs,aF,r,w⟩:=h
 unfold Kz at w
 split at w
 ·obtain⟨v,u,rfl,r1,r2⟩:=r.Dp
  cases aJ.aX.mp r1
  cases aJ.aX.mp r2
  exact⟨_,_,rfl,w ι S H _ .refl aF (aJ.aX.mpr rfl)⟩
 ·exact w.elim
theorem ER (hc:X.calm=true):dQ X (.builtin "min") (rC X.K KA):=(Em hc).imp fun vs H Q h=>by
 obtain⟨E,ι,S,M,xs,aF,r,w⟩:=h
 unfold KA at w
 split at w
 ·obtain⟨v,u,rfl,r1,r2⟩:=r.Dp
  cases aJ.aX.mp r1
  cases aJ.aX.mp r2
  exact⟨_,_,rfl,w ι S H _ .refl aF (aJ.aX.mpr rfl)⟩
 ·exact w.elim
noncomputable abbrev DM:=PV->List PV->aP->Res PV
noncomputable def rM (K:Fg) (f:DM):V->List V->Hp->VK->Prop:=fun v vs H Q=>∃E ι S M x xs,br K ι S M H/\aJ K ι S x v/\aO K ι S xs vs/\bH K (fb K) E ι S H Q (f x xs M)
theorem GU.imp {id:String} {r r':V->List V->Hp->VK->Prop} (h:GU X id r) (i:∀x xs H Q,r' x xs H Q->r x xs H Q):GU X id r':=fun pins s σ H x xs v us Q I rx rs q=>h pins s σ H x xs v us Q I rx rs (i _ _ _ _ q)
noncomputable def iZ (f:DM) (kG:DE) (ds:List DE):DE:=fun ρ M=>(kG ρ M).bind fun x M1=>match iJ M1 x with
 | some _=>(eR ds ρ M1).bind fun xs M2=>f x xs M2
 | none=>.bad
theorem lF {f:DM} {name:Str} {id:String} (slot:Slot "list" name id) (TX:typeOf (.builtin id)=pure (.type "method_descriptor")) (hm:GU X id (rM X.K f)) (ho:VE X Ex o kG) (ha:VN X Ex (e::es) ds)
  (u5:attributeBase o name X.env (eval o X.env)=eval o X.env:=by rfl)
  (GV:((backTo cI (starEach (e::es) X.env)).all (fun x=>!x.1) && (backToKw cI (keywordEach [] X.env)).all (fun x=>x.1.isSome)
   && decide ((e::es).length+([]:List Keyword).length+(if ([]:List Keyword).isEmpty then 0 else 1)<30))=true:=by rfl)
  (u7:(apos.endLine == cI.line)=true:=by rfl) (hs:starEach (e::es) X.env=(false,eval e X.env)::starEach es X.env:=by rfl) (u9:(backTo cI (starEach es X.env)).any (·.1)=false:=by rfl) :
  VE X Ex (.Call (.Attribute o name apos) (e::es) [] cI) (iZ f kG ds):=⟨by
 refine PE.imp (Qk PySem.F.plainAttrs_list slot TX hm ho.out ha.out u5 GV u7 hs u9) fun σ H Q h=>?_
 obtain⟨ι,S,M,ρ,aF,sl,w⟩:=h
 refine⟨ι,S,M,ρ,aF,sl,bH.bind (Rp:=fb X.K) w fun ι1 S1 M1 H1 x v e1 s1 r1 w1=>?_⟩
 cases e2:iJ M1 x with
 | none=>rw[e2] at w1; exact w1.elim
 | some ys =>
  rw[e2] at w1
  obtain⟨p,vs,rfl,eH,rs⟩:=fy s1 r1 e2
  refine⟨.inl ⟨rfl,vs,.of eH⟩,ι1,S1,M1,ρ,s1,sl.mono e1,bH.bind (Rp:=Gh X.K ds.length) w1 fun ι2 S2 M2 H2 xs us e3 s2 r2 w2=>?_⟩
  exact⟨_,ι2,S2,M2,x,xs,s2,aJ.mono e3 r1,r2.1,w2⟩⟩
noncomputable def Dq (x:PV) (M:aP) (k:Nat->List PV->Res PV):Res PV:=match x with
 | .obj n=>match M[n]? with
  | some (.lst xs)=>k n xs
  | _=>.bad
 | _=>.bad
theorem Dr {K:Fg} {E:XK} {ι:List Addr} {S H:Hp} {M:aP} {x:PV} {v:V} {Q:VK} {k:Nat->List PV->Res PV} (aF:br K ι S M H) (r:aJ K ι S x v) (w:bH K (fb K) E ι S H Q (Dq x M k)) :
  ∃n p xs vs,v=.ref p/\ι[n]? = some p/\M[n]? = some (.lst xs)/\H p=some (.lst vs)/\S p=none/\aO K ι S xs vs/\bH K (fb K) E ι S H Q (k n xs):=by
 cases x with
 | obj n =>
  obtain⟨p,rfl,ei⟩:=aJ.cA.mp r
  obtain⟨o,eM,q⟩:=aF.addr ei
  simp only[Dq,eM] at w
  cases o with
  | lst xs =>
   obtain⟨hS,vs,eH,rs⟩:=q
   exact⟨n,p,xs,vs,rfl,ei,eM,eH,hS,rs,w⟩
  | _=>exact w.elim
 | _=>exact w.elim
theorem yx {K:Fg} {ι:List Addr} {S H:Hp} {M:aP} {n:Nat} {p:Addr} {ys:List PV} {us:List V} (aF:br K ι S M H) (hi:ι[n]? = some p) (hS:S p=none) (r:aO K ι S ys us):br K ι S (M.set n (.lst ys)) (upd H p (.lst us))/\Ext ι S H ι S (upd H p (.lst us)) :=
 aF.put hi hS ⟨hS,us,aU,r⟩
noncomputable def dq:DM:=fun x as M=>match as with
 | [y]=>Dq x M fun n xs=>if xs.length<lim then .ok .aN (M.set n (.lst (xs++[y]))) else .bad
 | _=>.bad
theorem fV:GU X "list.append" (rM X.K dq):=GU.imp (r:=Dg) xy fun v vs H Q h=>by
 obtain⟨E,ι,S,M,x,xs,aF,r,rs,w⟩:=h
 unfold dq at w
 split at w
 ·obtain⟨u,rfl,r1⟩:=rs.gB
  obtain⟨n,p,ys,us,rfl,hi,eM,eH,hS,rr,w⟩:=Dr aF r w
  split at w
  ·rename_i hl
   refine⟨p,us,u,rfl,rfl,eH,by rw[← rr.length]; exact yr hl,?_⟩
   obtain⟨sp,ep⟩:=yx aF hi hS (rr.append (.one r1))
   exact w ι S _ _ ep sp (aJ.ib.mpr rfl)
  ·exact w.elim
 ·exact w.elim
noncomputable def uE:DM:=fun x as M=>match as with
 | [y]=>Dq x M fun n xs=>match iJ M y with
  | some ys=>if xs.length+ys.length≤lim then .ok .aN (M.set n (.lst (xs++ys))) else .bad
  | none=>.bad
 | _=>.bad
theorem Ch:GU X "list.extend" (rM X.K uE):=GU.imp (r:=Dh) EH fun v vs H Q h=>by
 obtain⟨E,ι,S,M,x,xs,aF,r,rs,w⟩:=h
 unfold uE at w
 split at w
 ·obtain⟨u,rfl,r1⟩:=rs.gB
  obtain⟨n,p,ys,us,rfl,hi,eM,eH,hS,rr,w⟩:=Dr aF r w
  split at w
  ·rename_i zs hz
   obtain⟨b,ws,rfl,eb,rb⟩:=fy aF r1 hz
   split at w
   ·rename_i hl
    refine⟨p,b,us,ws,rfl,rfl,eH,eb,by rw[← rr.length,← rb.length]; exact nS hl,?_⟩
    obtain⟨sp,ep⟩:=yx aF hi hS (rr.append rb)
    exact w ι S _ _ ep sp (aJ.ib.mpr rfl)
   ·exact w.elim
  ·exact w.elim
 ·exact w.elim
end
end L2
end
section
namespace L2
open PySem PySem.Spec PyProof.Rows
inductive Out where
 | nx (ρ:dX) (M:aP)
 | rt (x:PV) (M:aP)
 | bk (ρ:dX) (M:aP)
 | ct (ρ:dX) (M:aP)
 | exc (c:Addr) (ρ:dX) (M:aP)
 | bad
noncomputable abbrev DS:=dX->aP->Out
noncomputable def fz (K:Fg) (Ex:St->XK) (ι:List Addr) (S H:Hp) (D:Ends):Out->Prop
 | .nx ρ M=>∀ ι' S' H' σ',Ext ι S H ι' S' H'->br K ι' S' M H'->Slots K ι' S' ρ σ'->D.nx σ' H'
 | .bk ρ M=>∀ ι' S' H' σ',Ext ι S H ι' S' H'->br K ι' S' M H'->Slots K ι' S' ρ σ'->D.bk σ' H'
 | .ct ρ M=>∀ ι' S' H' σ',Ext ι S H ι' S' H'->br K ι' S' M H'->Slots K ι' S' ρ σ'->D.ct σ' H'
 | .exc c ρ M=>∀ ι' S' H' σ',Ext ι S H ι' S' H'->br K ι' S' M H'->Slots K ι' S' ρ σ'->Ex σ' (.ref c) none H'
 | .rt x M=>∀ ι' S' H' v,Ext ι S H ι' S' H'->br K ι' S' M H'->aJ K ι' S' x v->D.rt v H'
 | .bad=>False
theorem fz.up {K:Fg} {Ex:St->XK} {ι ι':List Addr} {S H S' H':Hp} {D:Ends} {o:Out} (h:fz K Ex ι S H D o) (e:Ext ι S H ι' S' H'):fz K Ex ι' S' H' D o:=by
 cases o with
 | nx ρ M=>exact fun ι1 S1 H1 σ1 e1 s1 l1=>h ι1 S1 H1 σ1 (e.trans e1) s1 l1
 | bk ρ M=>exact fun ι1 S1 H1 σ1 e1 s1 l1=>h ι1 S1 H1 σ1 (e.trans e1) s1 l1
 | ct ρ M=>exact fun ι1 S1 H1 σ1 e1 s1 l1=>h ι1 S1 H1 σ1 (e.trans e1) s1 l1
 | exc c ρ M=>exact fun ι1 S1 H1 σ1 e1 s1 l1=>h ι1 S1 H1 σ1 (e.trans e1) s1 l1
 | rt x M=>exact fun ι1 S1 H1 v e1 s1 l1=>h ι1 S1 H1 v (e.trans e1) s1 l1
 | bad=>exact h
noncomputable def tS (K:Fg) (Ex:St->XK) (d:DS):TS:=fun D σ H=>∃ ι S M ρ,br K ι S M H/\Slots K ι S ρ σ/\fz K Ex ι S H D (d ρ M)
structure VS (X:Cx) (Ex:St->XK) (st:Stmt) (d:DS):Prop where
 out:PS X st (tS X.K Ex d)
structure BL (X:Cx) (Ex:St->XK) (st:List Stmt) (d:DS):Prop where
 out:BQ X st (tS X.K Ex d)
theorem PS.imp {X:Cx} {st:Stmt} {t t':TS} (h:PS X st t) (i:∀D σ H,t' D σ H->t D σ H):PS X st t':=fun pins s σ H D I hw=>h pins s σ H D I (i D σ H hw)
theorem BQ.imp {X:Cx} {st:List Stmt} {t t':TS} (h:BQ X st t) (i:∀D σ H,t' D σ H->t D σ H):BQ X st t':=fun pins s σ H D I hw=>h pins s σ H D I (i D σ H hw)
noncomputable def Res.out {α:Type} (r:Res α) (ρ:dX) (f:α->aP->Out):Out:=match r with
 | .ok x M=>f x M
 | .exc c M=>.exc c ρ M
 | .bad=>.bad
@[simp] theorem Res.el {α:Type} {x:α} {M:aP} {ρ:dX} {f:α->aP->Out}:(Res.ok x M).out ρ f=f x M:=rfl
@[simp] theorem Res.KB {α:Type} {c:Addr} {M:aP} {ρ:dX} {f:α->aP->Out}:(Res.exc c M:Res α).out ρ f=.exc c ρ M:=rfl
@[simp] theorem Res.Si {α:Type} {ρ:dX} {f:α->aP->Out}:(Res.bad:Res α).out ρ f=.bad:=rfl
theorem fz.res {α β:Type} {K:Fg} {Rp:List Addr->Hp->α->β->Prop} {Ex:St->XK} {ι:List Addr} {S H:Hp} {D:Ends} {ρ:dX} {σ:St} {r:Res α} {f:α->aP->Out} {Q:β->Hp->Prop} (sl:Slots K ι S ρ σ) (h:fz K Ex ι S H D (r.out ρ f))
  (g:∀ ι1 S1 M1 H1 x v,Ext ι S H ι1 S1 H1->br K ι1 S1 M1 H1->Rp ι1 S1 x v->fz K Ex ι1 S1 H1 D (f x M1)->Q v H1):bH K Rp (Ex σ) ι S H Q r:=by
 cases r with
 | ok x M=>exact fun ι1 S1 H1 v e1 s1 r1=>g ι1 S1 M H1 x v e1 s1 r1 (fz.up h e1)
 | exc c M=>exact fun ι1 S1 H1 e1 s1=>h ι1 S1 H1 σ e1 s1 (sl.mono e1)
 | bad=>exact h
section
variable {X:Cx} {Ex:St->XK} {a b c e o:Expr} {es:List Expr} {da db dc d kG:DE} {ds:List DE} {pos pos' apos cI:Pos} {st:Stmt} {rest:List Stmt} {s1 s2:DS} {tc:DT}
noncomputable def fc:DS:=fun ρ M=>.nx ρ M
noncomputable def aE (s1 s2:DS):DS:=fun ρ M=>match s1 ρ M with
 | .nx ρ' M'=>s2 ρ' M'
 | o=>o
theorem aL:BL X Ex [] fc:=⟨BQ.imp JQ fun D σ H h=>by
 obtain⟨ι,S,M,ρ,aF,sl,w⟩:=h
 exact w ι S H σ .refl aF sl⟩
theorem NO {K:Fg} {D:Ends} {σ:St} {H:Hp} (h:tS K Ex (aE s1 s2) D σ H):Pt (tS K Ex s1) (tS K Ex s2) D σ H:=by
 obtain⟨ι,S,M,ρ,aF,sl,w⟩:=h
 refine⟨ι,S,M,ρ,aF,sl,?_⟩
 unfold aE at w
 cases q:s1 ρ M with
 | nx ρ' M' =>
  rw[q] at w
  exact fun ι1 S1 H1 σ1 e1 s1 l1=>⟨ι1,S1,M',ρ',s1,l1,fz.up w e1⟩
 | _=>rw[q] at w; exact w
theorem ah (h1:VS X Ex st s1) (h2:BL X Ex rest s2):BL X Ex (st::rest) (aE s1 s2):=⟨BQ.imp (Gx h1.out h2.out) fun _ _ _ h=>NO h⟩
theorem ai (h1:VS X Ex st s1):BL X Ex [st] s1:=⟨JR h1.out⟩
noncomputable def cK (d:DE):DS:=fun ρ M=>(d ρ M).out ρ fun _ M1=>.nx ρ M1
theorem bG (he:VE X Ex e d) (hs:swapsWith e none pos.line X.env=pure false:=by rfl):VS X Ex (.Expr e pos) (cK d):=⟨PS.imp (JS he.out hs) fun D σ H h=>by
 obtain⟨ι,S,M,ρ,aF,sl,w⟩:=h
 refine⟨ι,S,M,ρ,aF,sl,fz.res (Rp:=fb X.K) sl w fun ι1 S1 M1 H1 x v e1 s1 r1 w1=>?_⟩
 exact w1 ι1 S1 H1 σ .refl s1 (sl.mono e1)⟩
noncomputable def bo (d:DE):DS:=fun ρ M=>(d ρ M).out ρ fun x M1=>.rt x M1
theorem aK (he:VE X Ex e d):VS X Ex (.Return (some e) pos) (bo d):=⟨PS.imp (MN he.out) fun D σ H h=>by
 obtain⟨ι,S,M,ρ,aF,sl,w⟩:=h
 refine⟨ι,S,M,ρ,aF,sl,fz.res (Rp:=fb X.K) sl w fun ι1 S1 M1 H1 x v e1 s1 r1 w1=>?_⟩
 exact w1 ι1 S1 H1 v .refl s1 r1⟩
noncomputable def QD:DS:=fun _ M=>.rt .aN M
noncomputable def bp (tc:DT) (s1 s2:DS):DS:=fun ρ M=>(tc ρ M).out ρ fun k M1=>if k=true then s1 ρ M1 else s2 ρ M1
theorem ba {xs ys:List Stmt} (hc:VT X Ex c tc) (h1:BL X Ex xs s1) (h2:BL X Ex ys s2):VS X Ex (.If c xs ys pos) (bp tc s1 s2):=⟨PS.imp (Pw hc.out h1.out h2.out) fun D σ H h=>by
 obtain⟨ι,S,M,ρ,aF,sl,w⟩:=h
 refine⟨ι,S,M,ρ,aF,sl,fz.res (Rp:=Gg) sl w fun ι1 S1 M1 H1 x v e1 s1 r1 w1=>?_⟩
 cases r1
 cases x with
 | true=>exact Ak ⟨ι1,S1,M1,ρ,s1,sl.mono e1,w1⟩
 | false=>exact Aj ⟨ι1,S1,M1,ρ,s1,sl.mono e1,w1⟩⟩
noncomputable abbrev DG:=PV->dX->Option dX
noncomputable def Sj (K:Fg) (g:DG):TG:=fun v σ H Q=>∃ ι S M ρ x ρ',br K ι S M H/\Slots K ι S ρ σ/\aJ K ι S x v/\g x ρ=some ρ'/\∀ ι' S' H' σ',Ext ι S H ι' S' H'->br K ι' S' M H'->Slots K ι' S' ρ' σ'->Q σ' H'
structure VG (X:Cx) (tg:Expr) (g:DG):Prop where
 out:PG X tg (Sj X.K g)
theorem PG.imp {tg:Expr} {t t':TG} (h:PG X tg t) (i:∀v σ H Q,t' v σ H Q->t v σ H Q):PG X tg t':=fun pins s σ H v u Q I r hw=>h pins s σ H v u Q I r (i v σ H Q hw)
noncomputable def gN (i:Nat):DG:=fun x ρ=>some (ρ.set i (some x))
theorem aM (i:Nat) {x:Str} (hN:X.N.Nodup) (hi:X.N[i]? = some x:=by rfl) (hx:Loc X.env.scope x:=by first | exact Or.inl rfl | exact Or.inr rfl)
  (hf:X.fn x=true\/X.env.scope.names.lookup x=some .local := by first | exact .inl rfl | exact .inr rfl | assumption):VG X (.Name x pos) (gN i):=⟨PG.imp (JV hN hi hx hf) fun v σ H Q h=>by
 obtain⟨ι,S,M,ρ,x,ρ',aF,sl,r,e,k⟩:=h
 cases e
 exact k ι S H _ .refl aF (sl.set r i)⟩
noncomputable abbrev Md:=List PV->dX->Option dX
noncomputable def Uo (K:Fg) (g:Md):JT:=fun vs σ H Q=>∃ ι S M ρ xs ρ',br K ι S M H/\Slots K ι S ρ σ/\aO K ι S xs vs/\g xs ρ=some ρ'/\∀ ι' S' H' σ',Ext ι S H ι' S' H'->br K ι' S' M H'->Slots K ι' S' ρ' σ'->Q σ' H'
structure Sk (X:Cx) (ts:List Expr) (g:Md):Prop where
 out:JA X ts (Uo X.K g)
theorem JA.imp {ts:List Expr} {t t':JT} (h:JA X ts t) (i:∀v σ H Q,t' v σ H Q->t v σ H Q):JA X ts t':=fun pins s σ H v u Q I r hw=>h pins s σ H v u Q I r (i v σ H Q hw)
noncomputable def pj:Md:=fun xs ρ=>match xs with
 | []=>some ρ
 | _=>none
noncomputable def fk (g:DG) (gs:Md):Md:=fun xs ρ=>match xs with
 | x::r=>(g x ρ).bind (gs r)
 | []=>none
theorem mU:Sk X [] pj:=⟨JA.imp JW fun vs σ H Q h=>by
 obtain⟨ι,S,M,ρ,xs,ρ',aF,sl,r,e,k⟩:=h
 cases xs with
 | nil =>
  rw[aO] at r
  cases e
  exact⟨r,k ι S H _ .refl aF sl⟩
 | cons x xs=>cases e⟩
theorem dY {g:DG} {gs:Md} (h1:VG X e g) (h2:Sk X es gs) (hs:(assignEach (e::es) X.env).map (·.2)=assign e X.env::(assignEach es X.env).map (·.2):=by rfl):Sk X (e::es) (fk g gs):=⟨JA.imp (Gy h1.out h2.out hs) fun vs σ H Q h=>by
  obtain⟨ι,S,M,ρ,xs,ρ',aF,sl,r,e,k⟩:=h
  cases xs with
  | nil=>cases e
  | cons x xs =>
   obtain⟨v,vr,rfl,r1,r2⟩:=r.jk
   have e:(g x ρ).bind (gs xs)=some ρ':=e
   cases e1:g x ρ with
   | none=>rw[e1] at e; cases e
   | some ρ1 =>
    rw[e1] at e
    refine⟨v,vr,rfl,ι,S,M,ρ,x,ρ1,aF,sl,r1,e1,fun ι1 S1 H1 σ1 Wi s1 l1=>?_⟩
    exact⟨ι1,S1,M,ρ1,xs,ρ',s1,l1,r2.mono Wi,e,fun ι2 S2 H2 σ2 NP s2 l2=>k ι2 S2 H2 σ2 (Wi.trans NP) s2 l2⟩⟩
noncomputable def gT (n:Nat) (gs:Md):DG:=fun x ρ=>match x with
 | .tup xs=>if xs.length=n then gs xs ρ else none
 | _=>none
theorem pM {k:Nat} {gs:Md} {n:Nat} (hc:X.calm=true) (h:Sk X es gs) (hn:(assignEach es X.env).length=n:=by rfl) (wI:(assignEach es X.env).findIdx? (·.1)=none:=by rfl):VG X (.Tuple es k pos) (gT n gs):=⟨PG.imp (MP hc h.out hn wI) fun v σ H Q h=>by
  obtain⟨ι,S,M,ρ,x,ρ',aF,sl,r,e,k⟩:=h
  cases x with
  | tup xs =>
   simp only[gT] at e
   split at e
   ·rename_i hl
    obtain⟨p,vs,rfl,eS,rs⟩:=aJ.dm.mp r
    exact⟨p,vs,rfl,.of (aF.sub _ _ eS),by rw[← rs.length]; exact hl,ι,S,M,ρ,xs,ρ',aF,sl,rs,e,k⟩
   ·cases e
  | _=>cases e⟩
noncomputable def bx (i:Nat) (d:DE):DS:=fun ρ M=>(d ρ M).out ρ fun x M1=>.nx (ρ.set i (some x)) M1
theorem aR (i:Nat) {x:Str} (hN:X.N.Nodup) (he:VE X Ex e d) (hi:X.N[i]? = some x:=by rfl) (hx:Loc X.env.scope x:=by first | exact Or.inl rfl | exact Or.inr rfl) (hs:swapsWith e (some (.Name x pos')) pos.line X.env=pure false:=by rfl)
  (hf:X.fn x=true\/X.env.scope.names.lookup x=some .local := by first | exact .inl rfl | exact .inr rfl | assumption):VS X Ex (.Assign [.Name x pos'] e pos) (bx i d):=⟨PS.imp (MS hN hi hx he.out hs hf) fun D σ H h=>by
 obtain⟨ι,S,M,ρ,aF,sl,w⟩:=h
 refine⟨ι,S,M,ρ,aF,sl,fz.res (Rp:=fb X.K) sl w fun ι1 S1 M1 H1 x v e1 s1 r1 w1=>?_⟩
 exact w1 ι1 S1 H1 _ .refl s1 ((sl.mono e1).set r1 i)⟩
noncomputable def ES (d:DE) (g:DG):DS:=fun ρ M=>(d ρ M).out ρ fun x M1=>match g x ρ with
 | some ρ'=>.nx ρ' M1
 | none=>.bad
theorem Hq {tg:Expr} {g:DG} (he:VE X Ex e d) (hg:VG X tg g) (hs:swapsWithSole [tg] e pos.line X.env=pure false:=by rfl) (hw:swappedStores [tg] e X.env=pure none:=by rfl)
  (h1:(assignEach [tg] X.env).map (·.2)=[assign tg X.env]:=by rfl):VS X Ex (.Assign [tg] e pos) (ES d g):=⟨PS.imp (Gz he.out hg.out hs hw h1) fun D σ H h=>by
 obtain⟨ι,S,M,ρ,aF,sl,w⟩:=h
 refine⟨ι,S,M,ρ,aF,sl,fz.res (Rp:=fb X.K) sl w fun ι1 S1 M1 H1 x v e1 s1 r1 w1=>?_⟩
 cases e2:g x ρ with
 | none=>rw[e2] at w1; exact w1.elim
 | some ρ' =>
  rw[e2] at w1
  exact⟨ι1,S1,M1,ρ,x,ρ',s1,sl.mono e1,r1,e2,w1⟩⟩
end
end L2
end
section
namespace L2
open PySem PySem.Spec PyProof.Rows
noncomputable abbrev BM:=Option (Nat×MO)
noncomputable def uF (w:BM) (M:aP):Prop:=match w with
 | none=>True
 | some (n,o)=>M[n]? = some o
@[simp] theorem QE {M:aP}:uF none M:=trivial
@[simp] theorem QF {n:Nat} {o:MO} {M:aP}:uF (some (n,o)) M↔M[n]? = some o:=Iff.rfl
noncomputable def Walks (K:Fg) (J:It) (xs:List PV) (w:BM) (ι:List Addr) (S:Hp):Prop :=
 ∀(i:Nat) ι' S' M' H',Up ι S ι' S'->br K ι' S' M' H'->uF w M' →
  (∀x,xs[i]? = some x->J.go i H'/\∀v H2,J.R3 i H' v H2->∃ ι2 S2,Ext ι' S' H' ι2 S2 H2/\br K ι2 S2 M' H2/\aJ K ι2 S2 x v)/\(xs.length≤i->J.stop i H')
noncomputable abbrev DI:=dX->aP->Res (List PV×BM)
noncomputable abbrev Sn (K:Fg):List Addr->Hp->(List PV×BM)->It->Prop:=fun ι S r J=>Walks K J r.1 r.2 ι S
structure VI (X:Cx) (Ex:St->XK) (tg iter:Expr) (d:DI):Prop where
 out:PI X tg iter (tG X.K (Sn X.K) Ex d)
theorem PI.imp {X:Cx} {tg iter:Expr} {t t':TI} (h:PI X tg iter t) (i:∀ σ H R,t' σ H R->t σ H R):PI X tg iter t':=fun pins s σ H R I hw=>h pins s σ H R I (i σ H R hw)
section
variable {X:Cx} {Ex:St->XK} {a b c e o:Expr} {es:List Expr} {da db dc d kG:DE} {ds:List DE} {pos pos' apos cI:Pos} {st:Stmt} {rest:List Stmt} {s1 s2:DS} {tc:DT} {tg iter:Expr} {di:DI} {g:DG}
noncomputable def iL (d:DE):DI:=fun ρ M=>(d ρ M).bind fun x M1=>match x with
 | .lst xs=>.ok (xs,none) M1
 | .obj n=>match M1[n]? with
  | some (.lst xs)=>.ok (xs,some (n,.lst xs)) M1
  | _=>.bad
 | _=>.bad
theorem vk {K:Fg} {ι:List Addr} {S:Hp} {p:Addr} {xs:List PV} {w:BM} (h:∀ ι' S' M' H',Up ι S ι' S'->br K ι' S' M' H'->uF w M'->∃vs,nK K H' p vs/\aO K ι' S' xs vs):Walks K (Tp K p) xs w ι S:=by
 intro i ι' S' M' H' up aF hc
 obtain⟨vs,hq,rs⟩:=h ι' S' M' H' up aF hc
 refine⟨fun x hx=>?_,fun hl=>⟨vs,hq,by rw[← rs.length]; exact hl⟩⟩
 obtain⟨v,hv,r⟩:=rs.get hx
 refine⟨⟨vs,v,hq,hv⟩,fun u H2 y=>?_⟩
 obtain⟨rfl,y⟩:=y
 have:=y vs hq
 rw[hv] at this
 cases this
 exact⟨ι',S',.refl,aF,r⟩
theorem bP (h:VE X Ex iter d):VI X Ex tg iter (iL d):=⟨by
 refine PI.imp (JX h.out) fun σ H R hh=>?_
 obtain⟨ι,S,M,ρ,aF,sl,w⟩:=hh
 refine⟨ι,S,M,ρ,aF,sl,bH.bind (Rp:=fb X.K) w fun ι1 S1 M1 H1 x v e1 s1 r1 w1=>?_⟩
 cases x with
 | lst xs =>
  obtain⟨p,vs,rfl,eS,rs⟩:=aJ.jx.mp r1
  refine⟨p,rfl,⟨vs,.of (s1.sub _ _ eS)⟩,w1 ι1 S1 H1 _ .refl s1 (vk fun ι2 S2 M2 H2 up s2 _=>?_)⟩
  exact⟨vs,.of (s2.sub _ _ (up.sm _ _ eS)),rs.up up⟩
 | obj n =>
  obtain⟨p,rfl,ei⟩:=aJ.cA.mp r1
  obtain⟨o,eM,q⟩:=s1.addr ei
  simp only[eM] at w1
  cases o with
  | lst xs =>
   obtain⟨_,vs,eH,rs⟩:=q
   refine⟨p,rfl,⟨vs,.of eH⟩,w1 ι1 S1 H1 _ .refl s1 (vk fun ι2 S2 M2 H2 up s2 hc=>?_)⟩
   obtain⟨_,Uq,Hr,O0⟩:=s2.ob n p _ (up.ix _ _ ei) hc
   exact⟨Uq,.of Hr,O0⟩
  | _=>exact w1.elim
 | _=>exact w1.elim⟩
noncomputable def iT (d:DE):DI:=fun ρ M=>(d ρ M).bind fun x M1=>match x with
 | .tup xs=>.ok (xs,none) M1
 | _=>.bad
theorem Hs (h:VE X Ex iter d):VI X Ex tg iter (iT d):=⟨by
 refine PI.imp (MT h.out) fun σ H R hh=>?_
 obtain⟨ι,S,M,ρ,aF,sl,w⟩:=hh
 refine⟨ι,S,M,ρ,aF,sl,bH.bind (Rp:=fb X.K) w fun ι1 S1 M1 H1 x v e1 s1 r1 w1=>?_⟩
 cases x with
 | tup xs =>
  obtain⟨p,vs,rfl,eS,rs⟩:=aJ.dm.mp r1
  refine⟨p,rfl,⟨vs,.of (s1.sub _ _ eS)⟩,w1 ι1 S1 H1 _ .refl s1 fun i ι2 S2 M2 H2 up s2 _=>?_⟩
  have hq:wH X.K H2 p vs:=.of (s2.sub _ _ (up.sm _ _ eS))
  have O0:=rs.up up
  refine⟨fun x hx=>?_,fun hl=>⟨vs,hq,by rw[← O0.length]; exact hl⟩⟩
  obtain⟨v,hv,r⟩:=O0.get hx
  refine⟨⟨vs,v,hq,hv⟩,fun u H3 y=>?_⟩
  obtain⟨rfl,y⟩:=y
  have:=y vs hq
  rw[hv] at this
  cases this
  exact⟨ι2,S2,.refl,s2,r⟩
 | _=>exact w1.elim⟩
noncomputable def BK (lo:Int) (n:Nat):List PV:=(List.range n).map fun(k:Nat)=>.int (lo+(k:Int))
theorem ET {K:Fg} {ι:List Addr} {S:Hp} (lo:Int) (n:Nat):Walks K (R5 lo n) (BK lo n) none ι S:=by
 intro i ι' S' M' H' up aF _
 refine⟨fun x hx=>?_,fun hl=>by(have hl:n≤i:=by simpa[BK] using hl); exact hl⟩
 unfold BK at hx
 rw[zJ] at hx
 by_cases hi:i<n
 ·rw[List.getElem?_range hi] at hx
  cases hx
  refine⟨hi,fun v H2 y=>?_⟩
  obtain⟨rfl,rfl⟩:=y
  exact⟨ι',S',.refl,aF,aJ.aX.mpr rfl⟩
 ·rw[List.getElem?_eq_none (by simpa using hi)] at hx
  cases hx
noncomputable def tT (ds:List DE):DI:=fun ρ M=>(eR ds ρ M).bind fun xs M1=>match xs with
 | [.int j]=>if -(2 ^ 62)≤j/\j<2 ^ 62 then .ok (BK 0 j.toNat,none) M1 else .bad
 | _=>.bad
theorem iz {p:Pos} (hm:X.mg "range" = none) (ha:VN X Ex [a] ds) (hg:Gl X "range" := by rfl) (hs:starEach [a] X.env=[(false,eval a X.env)]:=by rfl):VI X Ex tg (.Call (.Name "range" p) [a] [] pos) (tT ds):=⟨by
 refine PI.imp (Ej hg hm ha.out hs) fun σ H R hh=>?_
 obtain⟨ι,S,M,ρ,aF,sl,w⟩:=hh
 refine⟨ι,S,M,ρ,aF,sl,bH.bind (Rp:=Gh X.K ds.length) w fun ι1 S1 M1 H1 xs vs e1 s1 r1 w1=>?_⟩
 split at w1
 ·rename_i j
  obtain⟨v,rfl,r2⟩:=r1.1.gB
  cases aJ.aX.mp r2
  split at w1
  ·rename_i hb
   exact⟨j,rfl,hb.1,hb.2,w1 ι1 S1 H1 _ .refl s1 (ET 0 _)⟩
  ·exact w1.elim
 ·exact w1.elim⟩
open Classical in
noncomputable def qv (w:BM) (g:DG) (s1:DS):List PV->dX->aP->Out
 | [],ρ,M=>.nx ρ M
 | x::xs,ρ,M=>match g x ρ with
  | none=>.bad
  | some ρ1=>match s1 ρ1 M with
   | .nx ρ' M'=>if uF w M' then qv w g s1 xs ρ' M' else .bad
   | .ct ρ' M'=>if uF w M' then qv w g s1 xs ρ' M' else .bad
   | .bk ρ' M'=>.nx ρ' M'
   | .rt x M'=>.rt x M'
   | .exc c ρ' M'=>.exc c ρ' M'
   | .bad=>.bad
noncomputable def hE (di:DI) (g:DG) (s1:DS):DS:=fun ρ M=>(di ρ M).out ρ fun r M1=>open Classical in if uF r.2 M1 then qv r.2 g s1 r.1 ρ M1 else .bad
theorem cT {body:List Stmt} (hp:PassesOwn (model X.prog X.w) X.A X.env X.xe) (hc:X.calm=true) (hi:VI X Ex tg iter di) (hg:VG X tg g) (hb:BL X Ex body s1) (hs:∀x,foldedSetIterable iter X.env x=pure x:=by intro _; rfl) :
  VS X Ex (.For tg iter body [] pos) (hE di g s1):=⟨by
 refine PS.imp (MU hp hc hi.out hg.out hb.out hs) fun D σ H h=>?_
 obtain⟨ι,S,M,ρ,aF,sl,w⟩:=h
 refine⟨ι,S,M,ρ,aF,sl,fz.res (Rp:=Sn X.K) sl w fun ι1 S1 M1 H1 r J e1 Ht wk w1=>?_⟩
 obtain⟨xs,wt⟩:=r
 dsimp only at wk w1
 split at w1
 ·rename_i Ur
  refine⟨fun i m σ' H'=>m=xs.length-i/\i≤xs.length/\∃ ι' S' M' ρ',Ext ι1 S1 H1 ι' S' H'/\br X.K ι' S' M' H'/\Slots X.K ι' S' ρ' σ'/\uF wt M'/\fz X.K Ex ι1 S1 H1 D (qv wt g s1 (xs.drop i) ρ' M'),
   ⟨xs.length,by simp,Nat.zero_le _,ι1,S1,M1,ρ,.refl,Ht,sl.mono e1,Ur,by simpa using w1⟩,?_⟩
  rintro i m σ' H' ⟨rfl,Ub,ι',S',M',ρ',ex,nH,Gd,Us,ww⟩
  obtain⟨Ut,Uu⟩:=wk i ι' S' M' H' ex.toUp nH Us
  by_cases wM:i<xs.length
  ·right
   obtain⟨go,yl⟩:=Ut xs[i] (List.getElem?_eq_getElem wM)
   rw[List.drop_eq_getElem_cons wM,qv] at ww
   refine⟨go,fun σ2 H2=>∃ ι' S' M' ρ',Ext ι1 S1 H1 ι' S' H2/\br X.K ι' S' M' H2/\Slots X.K ι' S' ρ' σ2/\uF wt M'/\fz X.K Ex ι1 S1 H1 D (qv wt g s1 (xs.drop (i+1)) ρ' M'),fun σ2 H2 q=>⟨xs.length-(i+1),by omega,rfl,wM,q⟩,fun v H2 y=>?_⟩
   obtain⟨ι2,S2,NP,NQ,r2⟩:=yl v H2 y
   cases eg:g xs[i] ρ' with
   | none=>rw[eg] at ww; exact ww.elim
   | some ρ1 =>
    rw[eg] at ww
    refine⟨ι2,S2,M',ρ',xs[i],ρ1,NQ,Gd.mono NP,r2,eg,fun ι3 S3 H3 σ3 Uv NR Gf=>?_⟩
    refine⟨ι3,S3,M',ρ1,NR,Gf,?_⟩
    have Hu:=ex.trans (NP.trans Uv)
    dsimp only at ww
    cases eb:s1 ρ1 M' with
    | nx ρ4 M4 =>
     rw[eb] at ww
     dsimp only at ww
     split at ww
     ·rename_i QG
      exact fun ι4 S4 H4 σ4 Dt tU KC=>⟨ι4,S4,M4,ρ4,Hu.trans Dt,tU,KC,QG,ww⟩
     ·exact ww.elim
    | ct ρ4 M4 =>
     rw[eb] at ww
     dsimp only at ww
     split at ww
     ·rename_i QG
      exact fun ι4 S4 H4 σ4 Dt tU KC=>⟨ι4,S4,M4,ρ4,Hu.trans Dt,tU,KC,QG,ww⟩
     ·exact ww.elim
    | bk ρ4 M4 =>
     rw[eb] at ww
     exact fun ι4 S4 H4 σ4 Dt tU KC=>ww ι4 S4 H4 σ4 (Hu.trans Dt) tU KC
    | rt x M4 =>
     rw[eb] at ww
     exact fun ι4 S4 H4 σ4 Dt tU KC=>ww ι4 S4 H4 σ4 (Hu.trans Dt) tU KC
    | exc c ρ4 M4 =>
     rw[eb] at ww
     exact fun ι4 S4 H4 σ4 Dt tU KC=>ww ι4 S4 H4 σ4 (Hu.trans Dt) tU KC
    | bad=>rw[eb] at ww; exact ww.elim
  ·left
   have e:i=xs.length:=by omega
   subst e
   rw[List.drop_length,qv] at ww
   exact⟨Uu (Nat.le_refl _),ww ι' S' H' σ' ex nH Gd⟩
 ·exact w1.elim⟩
noncomputable def Res.sX {α β:Type}:Res α->(α->aP->Res β)->Res β
 | .ok a M,f=>f a M
 | .exc _ _,_=>.bad
 | .bad,_=>.bad
@[simp] theorem Res.Aw {α β:Type} {a:α} {M:aP} {f:α->aP->Res β}:(Res.ok a M).sX f=f a M:=rfl
noncomputable abbrev Hv:St->XK:=fun _ _ _ _=>False
noncomputable def Ax (j9:List (Option Nat)) (ρ:dX):dX:=j9.map fun o=>match o with
 | some i=>(ρ[i]?).join
 | none=>none
theorem Slots.j9 {K:Fg} {ι:List Addr} {S:Hp} {ρ:dX} {σ:St} (sl:Slots K ι S ρ σ) (j9:List (Option Nat)):Slots K ι S (Ax j9 ρ) (pe j9 σ):=by
 refine⟨by simp[Ax,pe],fun i x h=>?_⟩
 unfold Ax at h
 unfold pe
 rw[zJ] at h ⊢
 cases ec:j9[i]? with
 | none=>rw[ec] at h; cases h
 | some o =>
  rw[ec] at h
  cases o with
  | none=>cases h
  | some j =>
   have h':(ρ[j]?).join=some x:=Option.some.inj h
   cases q:ρ[j]? with
   | none=>rw[q] at h'; cases h'
   | some z =>
    rw[q] at h'
    have X7:z=some x:=h'
    subst X7
    obtain⟨v,h1,h2⟩:=sl.2 j x q
    exact⟨v,by simp[h1],h2⟩
open Classical in
noncomputable def nB (w:BM) (g:DG) (tc:DT) (d:DE):List PV->dX->aP->List PV->Res (List PV)
 | [],_,M,acc=>.ok acc M
 | x::xs,ρ,M,acc=>match g x ρ with
  | none=>.bad
  | some ρ1=>(tc ρ1 M).sX fun k M1=>if k=true then(d ρ1 M1).sX fun y M2=>if uF w M2/\acc.length<lim then nB w g tc d xs ρ1 M2 (acc++[y]) else .bad
   else if uF w M1 then nB w g tc d xs ρ1 M1 acc else .bad
open Classical in
noncomputable def dj (live:Bool) (j9:List (Option Nat)) (di:DI) (g:DG) (tc:DT) (d:DE):DE:=fun ρ M=>(di ρ M).bind fun r M1=>if uF r.2 M1 then(nB r.2 g tc d r.1 (Ax j9 ρ) M1 []).sX fun ys M2=>rG live ys M2 else .bad
structure KD (X:Cx) (ifs:List Expr) (t:DT):Prop where
 out:vd X ifs (tG X.K Gg Hv t)
noncomputable def zT:DT:=fun _ M=>.ok true M
theorem vd.imp {ifs:List Expr} {t t':TT} (h:vd X ifs t) (i:∀ σ H Q,t' σ H Q->t σ H Q):vd X ifs t':=fun pins s σ H Q I hw=>h pins s σ H Q I (i σ H Q hw)
theorem fW:KD X [] zT:=⟨vd.imp G0 fun σ H Q h=>by
 obtain⟨ι,S,M,ρ,aF,sl,w⟩:=h
 exact w ι S H true .refl aF rfl⟩
theorem i0 (h:VT X Hv c tc):KD X [c] tc:=⟨G1 h.out⟩
theorem EU {ι ι':List Addr} {S S' H H':Hp} {M:aP} {E:XK} {Q:VK} {live:Bool} {xs:List PV} {vs:List V} {K:Fg} {p:Addr} (h0:H p=none) (ex:Ext ι S H ι' S' H') (aF:br K ι' S' M H') (hp:H' p=some (.lst vs)) (hi:p∉ι') (hS:S' p=none) (r:aO K ι' S' xs vs)
  (w:bH K (fb K) E ι S H Q (rG live xs M)):Q (.ref p) H':=by
 have ne:∀b u,H b=some u->b≠p:=fun b u q=>bf q h0
 unfold rG at w
 split at w
 ·split at w
  ·refine w (ι'++[p]) S' H' _ ⟨⟨fun n a h=>(Up.push (S:=S') p).ix n a (ex.ix n a h),ex.sm⟩,?_,fun b u q1 q2 q3=>?_⟩ (aF.enter hi ⟨hS,vs,hp,r⟩) (aJ.cA.mpr ⟨p,rfl,by rw[← aF.len]; simp⟩)
   ·have h1:=ex.pre
    have hl:ι.length≤ι'.length:=by rw[← h1]; simp; omega
    rw[List.take_append_of_le_length hl]; exact h1
   ·obtain⟨k1,k2,k3⟩:=ex.fr b u q1 q2 q3
    exact⟨k1,by simp[k2,ne b u q1],k3⟩
  ·have sm:jf S' (upd S' p (.lst vs)):=fun b u q=>by rw[az (bf q hS)]; exact q
   have up:Up ι' S' ι' (upd S' p (.lst vs)):=⟨fun _ _ h=>h,sm⟩
   refine w ι' (upd S' p (.lst vs)) H' _ ⟨⟨ex.ix,ex.sm.trans sm⟩,ex.pre,fun b u q1 q2 q3=>?_⟩ ⟨fun b u q=>?_,aF.len,aF.nd,fun n a u h1 h2=>?_⟩ (aJ.jx.mpr ⟨p,vs,rfl,aU,r.up up⟩)
   ·obtain⟨k1,k2,k3⟩:=ex.fr b u q1 q2 q3
    exact⟨k1,k2,by rw[az (ne b u q1)]; exact k3⟩
   ·by_cases hb:b=p
    ·subst hb; rw[aU] at q; cases q; exact hp
    ·rw[az hb] at q; exact aF.sub b u q
   ·have fE:a≠p:=fun z=>hi (z ▸ List.mem_of_getElem? h1)
    exact(aF.ob n a u h1 h2).up up (fun z=>by rw[az fE]; exact z) rfl
 ·exact w.elim
variable {scope:Scope} {N:List Str} {j9:List (Option Nat)} {elt:Expr} {ifs:List Expr}
theorem Du {K:Fg} {live:Bool} {σ:St} {H:Hp} {Q:VK} (h:tG K (fb K) Ex (dj live j9 di g tc d) σ H Q) :
  G2 j9 (tG K (Sn K) Ex di) (Sj K g) (tG K Gg Hv tc) (tG K (fb K) Hv d) σ H Q:=by
 obtain⟨ι,S,M,ρ,aF,sl,w⟩:=h
 refine⟨ι,S,M,ρ,aF,sl,bH.bind (Rp:=Sn K) w fun ι1 S1 M1 H1 r J e1 Ht wk w1=>?_⟩
 obtain⟨xs,wt⟩:=r
 dsimp only at wk w1
 split at w1
 ·rename_i Ur
  intro acc Hw
  have X8:=Ht.pJ Hw
  have X9:=Ht.fresh Hw
  obtain⟨QH,Uw⟩:=Ht.side (o:=.lst []) Hw
  refine⟨fun i m ys σ' H'=>m=xs.length-i/\i≤xs.length/\∃ ι' S' M' ρ' JC,Ext ι1 S1 H1 ι' S' H'/\br K ι' S' M' H'/\Slots K ι' S' ρ' σ'/\H' acc=some (.lst ys)/\acc∉ι'/\S' acc=none/\aO K ι' S' JC ys/\uF wt M' ∧
    bH K (fb K) (Ex σ) ι1 S1 H1 Q ((nB wt g tc d (xs.drop i) ρ' M' JC).sX fun ys M2=>rG live ys M2),
   ⟨xs.length,by simp,Nat.zero_le _,ι1,S1,M1,Ax j9 ρ,[],Uw,QH,(sl.mono e1).j9 j9,aU,X9,X8,.nil,Ur,by simpa using w1⟩,?_⟩
  rintro i m ys σ' H' ⟨rfl,Ub,ι',S',M',ρ',JC,ex,nH,Gd,Ux,Nx,Uy,rs,Us,ww⟩
  obtain⟨Ut,Uu⟩:=wk i ι' S' M' H' ex.toUp nH Us
  by_cases wM:i<xs.length
  ·right
   obtain⟨go,yl⟩:=Ut xs[i] (List.getElem?_eq_getElem wM)
   rw[List.drop_eq_getElem_cons wM,nB] at ww
   refine⟨go,fun v H2 y=>?_⟩
   obtain⟨ι2,S2,NP,NQ,r2⟩:=yl v H2 y
   cases eg:g xs[i] ρ' with
   | none=>rw[eg] at ww; exact ww.elim
   | some ρ1 =>
    rw[eg] at ww
    refine⟨ι2,S2,M',ρ',xs[i],ρ1,NQ,Gd.mono NP,r2,eg,fun ι3 S3 H3 σ3 Uv NR Gf=>?_⟩
    have Uz:=NP.trans Uv
    refine⟨ι3,S3,M',ρ1,NR,Gf,?_⟩
    dsimp only at ww
    cases et:tc ρ1 M' with
    | exc c M4=>rw[et] at ww; exact ww.elim
    | bad=>rw[et] at ww; exact ww.elim
    | ok k M4 =>
     rw[et] at ww
     intro ι4 S4 H4 k' Dt tU rk
     cases rk
     have KG:=Uz.trans Dt
     have UA:=ex.trans KG
     obtain⟨f1,f2,f3⟩:=KG.fr acc _ Ux Nx Uy
     have ww:bH K (fb K) (Ex σ) ι1 S1 H1 Q ((if k=true then(d ρ1 M4).sX fun y M2=>open Classical in if uF wt M2/\JC.length<lim then nB wt g tc d (xs.drop (i+1)) ρ1 M2 (JC++[y]) else .bad else open Classical in if uF wt M4 then nB wt g tc d (xs.drop (i+1)) ρ1 M4 JC else .bad).sX fun ys M2=>rG live ys M2):=ww
     cases k with
     | false =>
      rw[if_neg Bool.false_ne_true] at ww
      refine Aj ⟨xs.length-(i+1),by omega,rfl,wM,ι4,S4,M4,ρ1,JC,UA,tU,Gf.mono Dt,f1,f2,f3,rs.mono KG,?_⟩
      split at ww
      ·rename_i QG; exact⟨QG,ww⟩
      ·exact ww.elim
     | true =>
      rw[if_pos rfl] at ww
      refine Ak ⟨ι4,S4,M4,ρ1,tU,Gf.mono Dt,?_⟩
      cases ed:d ρ1 M4 with
      | exc c M5=>rw[ed] at ww; exact ww.elim
      | bad=>rw[ed] at ww; exact ww.elim
      | ok yv M5 =>
       rw[ed] at ww
       intro ι5 S5 H5 u Wj KH r5
       have NS:=KG.trans Wj
       have NT:=ex.trans NS
       obtain⟨f1,f2,f3⟩:=NS.fr acc _ Ux Nx Uy
       have ww:bH K (fb K) (Ex σ) ι1 S1 H1 Q ((open Classical in if uF wt M5/\JC.length<lim then nB wt g tc d (xs.drop (i+1)) ρ1 M5 (JC++[yv]) else .bad).sX fun ys M2=>rG live ys M2):=ww
       split at ww
       ·rename_i Sh
        refine⟨f1,by rw[← rs.length]; exact yr Sh.2,xs.length-(i+1),by omega,rfl,wM,ι5,S5,M5,ρ1,JC++[yv],?_,?_,Gf.mono (Dt.trans Wj),aU,f2,f3,(rs.mono NS).append (.one r5),Sh.1,ww⟩
        ·refine⟨NT.toUp,NT.pre,fun b u q1 q2 q3=>?_⟩
         obtain⟨k1,k2,k3⟩:=NT.fr b u q1 q2 q3
         exact⟨by rw[az (bf q1 Hw)]; exact k1,k2,k3⟩
        ·refine⟨fun b v q=>by rw[az (bf q f3)]; exact KH.sub b v q,KH.len,KH.nd,fun n a v h1 h2=>?_⟩
         have fE:a≠acc:=fun z=>f2 (z ▸ List.mem_of_getElem? h1)
         exact(KH.ob n a v h1 h2).up ⟨fun _ _ h=>h,jf.refl _⟩ (fun z=>z) (az fE)
       ·exact ww.elim
  ·left
   have e:i=xs.length:=by omega
   subst e
   rw[List.drop_length,nB] at ww
   exact⟨Uu (Nat.le_refl _),EU Hw ex nH Ux Nx Uy rs ww⟩
 ·exact w1.elim
theorem fm (live:Bool) (co:cv X scope N j9) (pf:X.calm=true) (uC:VI X Ex tg iter di)
  (hg:∀C fp s0 H0,VG (ej X scope N C fp s0 H0) tg g) (hi:∀C fp s0 H0,KD (ej X scope N C fp s0 H0) ifs tc) (he:∀C fp s0 H0,VE (ej X scope N C fp s0 H0) Hv elt d)
  (hs:∀x,foldedSetIterable iter X.env x=pure x:=by intro _; rfl):VE X Ex (.ListComp elt [⟨tg,iter,ifs,0⟩] scope pos) (dj live j9 di g tc d):=⟨PE.imp (Kq (g:=Sj X.K g) (tt:=tG X.K Gg Hv tc) (te:=tG X.K (fb X.K) Hv d) co pf uC.out (fun C fp s0 H0=>(hg C fp s0 H0).out) (fun C fp s0 H0=>(hi C fp s0 H0).out) (fun C fp s0 H0=>(he C fp s0 H0).out) hs) fun _ _ _ h=>Du h⟩
theorem kI (live:Bool) (i:Nat) {y:Str} {py G3:Pos} (co:cv X scope N j9) (pf:X.calm=true) (hN:X.N.Nodup) (uC:VI X Ex tg iter di)
  (hg:∀C fp s0 H0,VG (ej X scope N C fp s0 H0) tg g) (hi:∀C fp s0 H0,KD (ej X scope N C fp s0 H0) ifs tc) (he:∀C fp s0 H0,VE (ej X scope N C fp s0 H0) Hv elt d)
  (Uc:swapsWith (.ListComp elt [⟨tg,iter,ifs,0⟩] scope pos) (some (.Name y py)) G3.line X.env=pure true)
  (hy:X.N[i]? = some y:=by rfl) (hx:Loc X.env.scope y:=by first | exact Or.inl rfl | exact Or.inr rfl)
  (hf:X.fn y=true\/X.env.scope.names.lookup y=some .local := by first | exact .inl rfl | exact .inr rfl | assumption)
  (hs:∀x,foldedSetIterable iter X.env x=pure x:=by intro _; rfl):VS X Ex (.Assign [.Name y py] (.ListComp elt [⟨tg,iter,ifs,0⟩] scope pos) G3) (bx i (dj live j9 di g tc d)):=⟨PS.imp (Cd (g:=Sj X.K g) (tt:=tG X.K Gg Hv tc) (te:=tG X.K (fb X.K) Hv d) co pf uC.out (fun C fp s0 H0=>(hg C fp s0 H0).out) (fun C fp s0 H0=>(hi C fp s0 H0).out) (fun C fp s0 H0=>(he C fp s0 H0).out) hN hy hx Uc hf hs) fun D σ H h=>by
  obtain⟨ι,S,M,ρ,aF,sl,w⟩:=h
  refine Du ⟨ι,S,M,ρ,aF,sl,fz.res (Rp:=fb X.K) sl w fun ι1 S1 M1 H1 x v e1 s1 r1 w1=>?_⟩
  exact w1 ι1 S1 H1 _ .refl s1 ((sl.mono e1).set r1 i)⟩
end
end L2
end
section
namespace L2
open PySem PySem.Spec PyProof.Rows
noncomputable def Gj (K:Fg) (n:Nat) (g:D1):Sp:=fun vs H Q E=>vs.length=n/\∃ ι S M xs,br K ι S M H/\aO K ι S xs vs/\bH K (fb K) E ι S H Q (g xs M)
noncomputable def Out.res:Out->Res PV
 | .nx _ M=>.ok .aN M
 | .rt x M=>.ok x M
 | .exc c _ M=>.exc c M
 | _=>.bad
@[simp] theorem Out.NU {ρ:dX} {M:aP}:(Out.nx ρ M).res=.ok .aN M:=rfl
@[simp] theorem Out.NV {x:PV} {M:aP}:(Out.rt x M).res=.ok x M:=rfl
@[simp] theorem Out.KI {c:Addr} {ρ:dX} {M:aP}:(Out.exc c ρ M).res=.exc c M:=rfl
noncomputable def fq (n:Nat) (d:DS):D1:=fun xs M=>(d (xs.map some++List.replicate (n-xs.length) none) M).res
section
variable {P:Program} {w:World} {K:Fg} {mg:Str->Option Value} {base:Heap}
theorem Ay {ι:List Addr} {S:Hp} {xs:List PV} {vs:List V} {N:List Str} (r:aO K ι S xs vs):Slots K ι S (xs.map some++List.replicate (N.length-xs.length) none) (start N vs):=by
 unfold start
 have hl:=r.length
 refine⟨by simp[hl],fun i x h=>?_⟩
 by_cases hi:i<xs.length
 ·rw[List.getElem?_append_left (by simpa using hi),zJ] at h
  rw[List.getElem?_append_left (by simpa[← hl] using hi),zJ]
  cases e:xs[i]? with
  | none=>rw[e] at h; cases h
  | some y =>
   rw[e] at h
   cases h
   obtain⟨v,h1,h2⟩:=r.get e
   exact⟨v,by rw[h1]; rfl,h2⟩
 ·rw[List.getElem?_append_right (by simpa using hi)] at h
  rw[List.getElem?_replicate] at h
  split at h<;>cases h
theorem yy {x qual:Str} {st:Stmt} {f:Addr} {fd:FuncData} {N ps:List Str} {k:Nat} {d:DS} (F:GY K x qual st f fd) (S:aC N ps (ak st))
  (hb:∀(iO:Value) (A:Around) (outer:List Env) (s:Shared) (H:Hp) (E:XK),fL k (A.deeper (envOfC qual (ak st) s.heap.objs.size f iO)) →
   BL (iU (nL P w) P w K mg base N qual (ak st) f iO A outer s H E) (fun _=>E) (dN st) d) :
  lx P w K mg base (nL P w) (k+1) f fd ps (Gj K ps.length (fq N.length d)):=by
 obtain⟨oc,od,kV,doc,pm,an,iO,ct,Kc,rfl,lk,Gu⟩:=F.ex
 refine PZ lk Gu S (fun vs H Q E h=>h.1) fun A outer s H vs Q E hr L7=>⟨_,(hb iO A outer s H E hr).out,?_⟩
 obtain⟨hl,ι,S',M,xs,aF,r,w'⟩:=L7
 refine⟨ι,S',M,_,aF,Ay r,?_⟩
 unfold fq at w'
 cases q:d (xs.map some++List.replicate (N.length-xs.length) none) M with
 | nx ρ M'=>rw[q] at w'; exact fun ι1 S1 H1 σ1 e1 s1 _=>w' ι1 S1 H1 .aN e1 s1 (aJ.ib.mpr rfl)
 | rt y M'=>rw[q] at w'; exact fun ι1 S1 H1 v e1 s1 r1=>w' ι1 S1 H1 v e1 s1 r1
 | exc c ρ M'=>rw[q] at w'; exact fun ι1 S1 H1 σ1 e1 s1 _=>w' ι1 S1 H1 e1 s1
 | bk ρ M'=>rw[q] at w'; exact w'.elim
 | ct ρ M'=>rw[q] at w'; exact w'.elim
 | bad=>rw[q] at w'; exact w'.elim
noncomputable def MO.jg (n:Nat):MO->Bool
 | .gone=>true
 | .lst xs=>PV.nR n xs
 | .bR kvs=>kvs.all fun kv=>PV.jg n kv.2
 | .Ce kvs=>kvs.all fun kv=>PV.jg n kv.2
 | .sU kvs=>kvs.all fun kv=>PV.jg n kv.2
 | .ins _ fs=>fs.all fun kv=>PV.jg n kv.2
 | .exc _=>true
theorem cg.jg {κ:Type} {ι:List Addr} {S:Hp} {kvs:List (κ×PV)} {bz:List (κ×V)} (h:cg K ι S kvs bz):(kvs.all fun kv=>PV.jg ι.length kv.2)=true:=by
 induction h with
 | nil=>rfl
 | cons r t ih=>rw[List.all_cons,ih,aJ.jg _ _ r.2]; rfl
theorem cg.cut {κ:Type} {ι:List Addr} {S:Hp} {n:Nat} {kvs:List (κ×PV)} {bz:List (κ×V)} (h:cg K ι S kvs bz) (hb:(kvs.all fun kv=>PV.jg n kv.2)=true):cg K (ι.take n) S kvs bz:=by
 induction h with
 | nil=>exact .nil
 | cons r t ih =>
  rw[List.all_cons,Bool.and_eq_true] at hb
  exact .cons ⟨r.1,aJ.cut _ _ hb.1 r.2⟩ (ih hb.2)
theorem mR.jg {ι:List Addr} {S H:Hp} {a:Addr} {o:MO} (h:mR K ι S H a o):o.jg ι.length=true:=by
 cases o with
 | gone=>rfl
 | lst xs=>obtain⟨_,vs,_,r⟩:=h; exact aO.nR _ _ r
 | bR kvs=>obtain⟨_,vs,_,r⟩:=h; exact r.jg
 | Ce kvs=>obtain⟨_,vs,_,r⟩:=h; exact r.jg
 | sU kvs=>obtain⟨_,_,_,_,r⟩:=h; exact r.jg
 | ins C fs=>obtain⟨_,dx,vs,_,r⟩:=h; exact r.jg
 | exc C=>rfl
theorem mR.cut {ι:List Addr} {S H:Hp} {a:Addr} {o:MO} {n:Nat} (h:mR K ι S H a o) (hb:o.jg n=true):mR K (ι.take n) S H a o:=by
 cases o with
 | gone=>exact h
 | lst xs=>obtain⟨z,vs,e,r⟩:=h; exact⟨z,vs,e,aO.cut _ _ hb r⟩
 | bR kvs=>obtain⟨z,vs,e,r⟩:=h; exact⟨z,vs,e,r.cut hb⟩
 | Ce kvs=>obtain⟨z,vs,e,r⟩:=h; exact⟨z,vs,e,r.cut hb⟩
 | sU kvs=>obtain⟨ob,vs,z,e,r⟩:=h; exact⟨ob,vs,z,e,r.cut hb⟩
 | ins C fs=>obtain⟨z,dx,vs,e,r⟩:=h; exact⟨z,dx,vs,e,r.cut hb⟩
 | exc C=>exact h
open Classical in
noncomputable def wN (M:aP):Res PV->Res PV
 | .ok x M'=>if M'.take M.length=M/\PV.jg M.length x=true then .ok x M else .bad
 | .exc c M'=>if M'.take M.length=M then .exc c M else .bad
 | .bad=>.bad
noncomputable def trunc (g:D1):D1:=fun xs M=>wN M (g xs M)
theorem Dv {M M':aP} {x:PV} (h:M'.take M.length=M) (hb:PV.jg M.length x=true):wN M (.ok x M')=.ok x M:=by simp only[wN]; rw[if_pos ⟨h,hb⟩]
theorem Hx {M M':aP} {c:Addr} (h:M'.take M.length=M):wN M (.exc c M')=.exc c M:=by simp only[wN]; rw[if_pos h]
@[simp] theorem O1 {M:aP} {x:PV} (hb:PV.jg M.length x=true):wN M (.ok x M)=.ok x M:=Dv List.take_length hb
@[simp] theorem QI {M:aP} {c:Addr}:wN M (.exc c M)=.exc c M:=Hx List.take_length
@[simp] theorem QJ {M:aP}:wN M .bad=.bad:=rfl
theorem Dw {ι ι':List Addr} {S S' H H':Hp} {M M':aP} (aF:br K ι S M H) (nH:br K ι' S' M' H') (ex:Ext ι S H ι' S' H') (h:M'.take M.length=M):br K ι S' M H'/\Ext ι S H ι S' H':=by
 refine⟨⟨nH.sub,aF.len,aF.nd,fun n a o h1 h2=>?_⟩,⟨⟨fun _ _ h=>h,ex.sm⟩,List.take_length,fun b u q1 q2 q3=>?_⟩⟩
 ·have hn:n<M.length:=(List.getElem?_eq_some_iff.mp h2).1
  have Qq:M'[n]? = some o:=by rw[← h,List.getElem?_take_of_lt hn] at h2; exact h2
  have m1:=nH.ob n a o (ex.ix n a h1) Qq
  have m2:=(aF.ob n a o h1 h2).jg
  have:=m1.cut m2
  rw[ex.pre] at this
  exact this
 ·obtain⟨k1,k2,k3⟩:=ex.fr b u q1 q2 q3
  exact⟨k1,q2,k3⟩
theorem EV {n:Nat} {g:D1} {vs:List V} {H:Hp} {Q:VK} {E:XK} (h:Gj K n (trunc g) vs H Q E):Gj K n g vs H Q E:=by
 obtain⟨hl,ι,S,M,xs,aF,r,w'⟩:=h
 refine⟨hl,ι,S,M,xs,aF,r,?_⟩
 unfold trunc at w'
 cases q:g xs M with
 | bad=>rw[q] at w'; exact w'
 | ok x M' =>
  rw[q] at w'
  simp only[wN] at w'
  split at w'
  ·rename_i hc
   intro ι1 S1 H1 v e1 s1 r1
   obtain⟨s2,e2⟩:=Dw aF s1 e1 hc.1
   refine w' ι S1 H1 v e2 s2 ?_
   have:=aJ.cut (n:=M.length) x v hc.2 r1
   rw[← aF.len,e1.pre] at this
   exact this
  ·exact w'.elim
 | exc c M' =>
  rw[q] at w'
  simp only[wN] at w'
  split at w'
  ·rename_i hc
   intro ι1 S1 H1 e1 s1
   obtain⟨s2,e2⟩:=Dw aF s1 e1 hc
   exact w' ι S1 H1 e2 s2
  ·exact w'.elim
end
structure fQ (P:Program) (w:World) (K:Fg) (mg:Str->Option Value) (base:Heap) (k:Nat) (x:Str) (n:Nat) (g:D1):Prop where
 ex:∃f fd ps,lx P w K mg base (nL P w) k f fd ps (Gj K n g)/\mg x=some (.ref f)/\PySem.W.keepIn K (.ref f)=true/\Binds K fd ps []
section
variable {P:Program} {w:World} {K:Fg} {mg:Str->Option Value} {base:Heap}
theorem fQ.mono {j k:Nat} {x:Str} {n:Nat} {g:D1} (F:fQ P w K mg base j x n g) (h:j≤k):fQ P w K mg base k x n g:=by
 obtain⟨f,fd,ps,F,r⟩:=F.ex
 exact⟨f,fd,ps,F.mono h,r⟩
theorem fQ.trunc {k:Nat} {x:Str} {n:Nat} {g:D1} (F:fQ P w K mg base k x n g):fQ P w K mg base k x n (trunc g):=by
 obtain⟨f,fd,ps,F,r⟩:=F.ex
 exact⟨f,fd,ps,F.imp fun _ _ _ _ h=>EV h,r⟩
structure bB (K:Fg) (mg:Str->Option Value) (x:Str) (st:Stmt) (ps:List Str):Prop where
 ex:∃f fd,GY K x x st f fd/\mg x=some (.ref f)/\Binds K fd ps []
theorem fQ.of {x:Str} {st:Stmt} {N ps:List Str} {k:Nat} {d:DS} (D:bB K mg x st ps) (S:aC N ps (ak st))
  (hb:∀(f:Addr) (iO:Value) (A:Around) (outer:List Env) (s:Shared) (H:Hp) (E:XK),fL k (A.deeper (envOfC x (ak st) s.heap.objs.size f iO)) →
   BL (iU (nL P w) P w K mg base N x (ak st) f iO A outer s H E) (fun _=>E) (dN st) d):fQ P w K mg base (k+1) x ps.length (fq N.length d):=by
 obtain⟨f,fd,F,hm,hB⟩:=D.ex
 exact⟨f,fd,ps,yy F S (hb f),hm,F.kp,hB⟩
end
structure Good0 (X:Cx) (Ex:St->XK):Prop where
 hu:X.A.units+64<cLine
 calm:X.calm=true
 ps:oK (nL X.prog X.w) X Ex
 nd:X.N.Nodup
structure Good (X:Cx) (Ex:St->XK):Prop extends Good0 X Ex where
 own:PassesOwn (model X.prog X.w) X.A X.env X.xe
theorem Good.gg {X:Cx} {Ex:St->XK} (G:Good X Ex):Good0 X Ex:=G.toGood0
theorem uG {P:Program} {w:World} {K:Fg} {mg:Str->Option Value} {base:Heap} {N ps:List Str} {qual:Str} {scope:Scope} {f:Addr} {cd:Value} {A:Around} {outer:List Env} {s:Shared} {H:Hp} {E:XK} {k:Nat} (S:aC N ps scope)
  (hr:fL k (A.deeper (envOfC qual scope s.heap.objs.size f cd))):Good (iU (nL P w) P w K mg base N qual scope f cd A outer s H E) (fun _=>E) :=
 ⟨⟨hr.units,rfl,fun pins σ H s e s' I h=>Kr pins σ H s e s' I h,S.nd⟩,PassesOwn.leaving⟩
theorem aA {X:Cx} {Ex:St->XK} (G:Good0 X Ex) {scope:Scope} {N:List Str} {C:Addr} {fp:List Addr} {s:Shared} {H:Hp} (nd:N.Nodup):Good (ej X scope N C fp s H) Hv :=
 ⟨⟨G.hu,G.calm,fun pins σ H s e s' I h=>by obtain⟨_,_,_,_,_,z⟩:=h; exact z.elim,nd⟩,PassesOwn.never⟩
section
variable {X:Cx} {Ex:St->XK} {a b c e o:Expr} {es:List Expr} {da db dc d kG:DE} {ds:List DE} {pos pos' apos cI:Pos} {k n:Nat} {x m:Str} {g:D1}
theorem aw {p:Pos} (F:fQ X.prog X.w X.K X.mg X.base k x n g) (hr:fL k X.A) (G:Good0 X Ex) (ha:VN X Ex (e::es) ds) (hg:Gl X x:=by rfl) (hn:ds.length=n:=by rfl) (Ez:(x == ("__debug__" : Str))=false:=by decide)
  (he:starEach (e::es) X.env=(false,eval e X.env)::starEach es X.env:=by rfl) (mI:(backTo pos (starEach es X.env)).any (·.1)=false:=by rfl):VE X Ex (.Call (.Name x p) (e::es) [] pos) (ao g ds):=⟨by
 obtain⟨f,fd,ps,F,hm,hk,hb⟩:=F.ex
 refine PE.imp (G5 F hr hg hm hk hb .nil G.ps ha.out Ez he mI) fun σ H Q h=>?_
 obtain⟨ι,S,M,ρ,aF,sl,w⟩:=h
 refine⟨ι,S,M,ρ,aF,sl,bH.bind (Rp:=Gh X.K ds.length) w fun ι1 S1 M1 H1 xs vs e1 s1 r1 w1=>?_⟩
 rw[zI]
 exact⟨by rw[← r1.1.length,r1.2,hn],ι1,S1,M1,xs,s1,r1.1,w1⟩⟩
end
noncomputable abbrev So:List Addr->Hp->Unit->Unit->Prop:=fun _ _ _ _=>True
noncomputable def dJ:List (Option DE)->dX->aP->Res Unit
 | [],_,M=>.ok () M
 | none::r,ρ,M=>dJ r ρ M
 | some d::r,ρ,M=>(d ρ M).bind fun x M1=>match x with
  | .int i=>if small i=true then dJ r ρ M1 else .bad
  | _=>.bad
structure VJ (X:Cx) (Ex:St->XK) (es:List Expr) (ps:List (Option DE)):Prop where
 out:∀(pins:List (Addr×Obj)) (s:Shared) (σ:St) (H:Hp) (Q:Unit->Hp->Prop) (acc:Str) (n:Nat),Inv X pins σ H s->tG X.K So Ex (dJ ps) σ H Q →
 acc.length+ps.length*2000≤n->n≤1000000->Joins (model X.prog X.w) X.A X.xe (evalEach es X.env) acc (fun out s₁=>out.length≤n/\∃H',Inv X pins σ H' s₁/\Q () H') s
section
variable {X:Cx} {Ex:St->XK} {a b c e:Expr} {es:List Expr} {d:DE} {ds:List DE} {ps:List (Option DE)} {pos pos' cI:Pos}
theorem gX:VJ X Ex [] []:=⟨fun pins s σ H Q acc n I h hl hn=>by
 obtain⟨ι,S,M,ρ,aF,sl,w⟩:=h
 exact⟨by simpa using hl,H,I,w ι S H () .refl aF trivial⟩⟩
theorem cx {x:Str} {j} (h:VJ X Ex es ps) (hx:x.length≤2000:=by decide) (he:evalEach (.Constant (.str x) j pos::es) X.env=eval (.Constant (.str x) j pos) X.env::evalEach es X.env:=by rfl):VJ X Ex (.Constant (.str x) j pos::es) (none::ps):=⟨fun pins s σ H Q acc n I hw hl hn=>by
 rw[he]
 rw[zE] at hl
 have e1:(acc++x).length=acc.length+x.length:=strLen_append _ _
 refine Calls.Constant_str ⟨x,_,rfl,?_,?_⟩
 ·rw[e1,sizeLine_eq]; omega
 ·exact h.out pins _ σ H Q (acc++x) n (I.tok _) hw (by rw[e1]; omega) hn⟩
theorem EW {i:Int} (h:small i=true):i.natAbs.log2<1920:=by
 have h:=of_decide_eq_true h
 have hn:i.natAbs<2 ^ 64:=by omega
 by_cases h0:i.natAbs=0
 ·rw[h0]; decide
 ·exact Nat.lt_of_lt_of_le ((Nat.log2_lt h0).mpr hn) (by decide)
theorem ft {v:Expr} (hv:VE X Ex v d) (h:VJ X Ex es ps) (he:evalEach (.FormattedValue v (-1) none pos::es) X.env=eval (.FormattedValue v (-1) none pos) X.env::evalEach es X.env:=by rfl):VJ X Ex (.FormattedValue v (-1) none pos::es) (some d::ps):=⟨fun pins s σ H Q acc n I hw hl hn=>by
 rw[he]
 rw[zE] at hl
 refine FormattedValue_plain ?_
 obtain⟨ι,S,M,ρ,aF,sl,w⟩:=hw
 refine eh (hv.out pins s σ H (fun x H1=>∃i,x=.int i/\small i=true/\tG X.K So Ex (dJ ps) σ H1 Q) I ⟨ι,S,M,ρ,aF,sl,bH.bind (Rp:=fb X.K) w fun ι1 S1 M1 H1 x v e1 s1 r1 w1=>?_⟩) fun u s1 ⟨x,H1,I1,rx,i,ex,hs,q⟩=>?_
 ·cases x with
  | int i =>
   dsimp only at w1
   split at w1
   ·rename_i hs
    exact⟨i,aJ.aX.mp r1,hs,ι1,S1,M1,ρ,s1,sl.mono e1,w1⟩
   ·exact w1.elim
  | _=>exact w1.elim
 ·subst ex
  obtain⟨t,rfl⟩:=rx
  have QK:=EW hs
  have hlen:(Str.ofString (toString i)).length≤1921:=by rw[PySem.ofString_length]; exact int_text_length_le (by decide) QK
  have e1:(acc++Str.ofString (toString i)).length=acc.length+(Str.ofString (toString i)).length:=strLen_append _ _
  refine formatField_int_small QK ⟨Str.ofString (toString i),_,rfl,?_,?_⟩
  ·rw[e1,sizeLine_eq]; omega
  ·exact h.out pins _ σ H1 Q (acc++Str.ofString (toString i)) n (I1.tok _) q (by rw[e1]; omega) hn⟩
theorem KJ {v₁ v₂:Expr} {rest:List Expr} (h:VJ X Ex (v₁::v₂::rest) ps) (hp:ps.length≤100:=by decide):PE X (.JoinedStr (v₁::v₂::rest) pos) (fun σ H Q=>tG X.K So Ex (dJ ps) σ H fun _ H'=>∀z,Q (.str z) H'):=by
 intro pins s σ H Q I hw
 refine wpAny_JoinedStr ?_
 have:=h.out pins s σ H _ Str.empty 1000000 I hw (by have:Str.empty.length=0:=rfl; omega) (Nat.le_refl _)
 have mono:∀(parts:List (Sem Value)) (acc:Str) (s:Shared) (Q1 Q2:Str->Shared->Prop),(∀o s,Q1 o s->Q2 o s)->Joins (model X.prog X.w) X.A X.xe parts acc Q1 s->Joins (model X.prog X.w) X.A X.xe parts acc Q2 s:=by
  intro parts
  induction parts with
  | nil=>intro acc s Q1 Q2 hq h; exact hq _ _ h
  | cons p r ih =>
   intro acc s Q1 Q2 hq h
   exact eh h fun v s1 ⟨y,t,e1,e2,e3⟩=>⟨y,t,e1,e2,ih _ _ _ _ hq e3⟩
 refine mono _ _ _ _ _ (fun o s1 ⟨h1,H',I1,q⟩=>?_) this
 refine⟨by rw[sizeLine_eq]; omega,.str o,H',I1.tok _,⟨_,rfl⟩,q o⟩
end
noncomputable def cN (C:Addr) (ps:List (Option DE)):DS:=fun ρ M=>(dJ ps ρ M).out ρ fun _ M1=>.exc C ρ M1
noncomputable def Ci (C:Addr) (ds:List DE):DS:=fun ρ M=>(eR ds ρ M).out ρ fun _ M1=>.exc C ρ M1
section
variable {P:Program} {w:World} {K:Fg} {mg:Str->Option Value} {base:Heap} {N:List Str} {qual:Str} {scope:Scope} {f:Addr} {cd:Value} {A:Around} {outer:List Env} {s:Shared} {H:Hp} {E:XK} {x:Str} {C:Addr} {np cI pos UB:Pos} {k:Nat}
theorem cG {v₁ v₂:Expr} {rest:List Expr} {ps:List (Option DE)} (M:Mb K mg x C) (hr:fL k (A.deeper (envOfC qual scope s.heap.objs.size f cd))) (h:VJ (iU (nL P w) P w K mg base N qual scope f cd A outer s H E) (fun _=>E) (v₁::v₂::rest) ps)
  (hg:Gl (iU (nL P w) P w K mg base N qual scope f cd A outer s H E) x:=by rfl) (hp:ps.length≤100:=by decide) (hd:(x == ("__debug__" : Str))=false:=by decide) :
  VS (iU (nL P w) P w K mg base N qual scope f cd A outer s H E) (fun _=>E) (.Raise (some (.Call (.Name x np) [.JoinedStr (v₁::v₂::rest) UB] [] cI)) none pos) (cN C ps):=⟨by
 refine PS.imp (An M hr.hd hg (jw (KJ h hp) pF) hd) fun D σ H h=>?_
 obtain⟨ι,S,M,ρ,aF,sl,w'⟩:=h
 refine⟨ι,S,M,ρ,aF,sl,fz.res (Rp:=So) sl w' fun ι1 S1 M1 H1 x v e1 s1 r1 w1=>?_⟩
 intro z
 exact⟨by show 1≤sizeLine; rw[sizeLine_eq]; decide,w1 ι1 S1 H1 σ .refl s1 (sl.mono e1)⟩⟩
theorem Hy {e₀:Expr} {rest:List Expr} {ds:List DE} (M:Mb K mg x C) (hr:fL k (A.deeper (envOfC qual scope s.heap.objs.size f cd))) (h:VN (iU (nL P w) P w K mg base N qual scope f cd A outer s H E) (fun _=>E) (e₀::rest) ds)
  (hg:Gl (iU (nL P w) P w K mg base N qual scope f cd A outer s H E) x:=by rfl) (hn:ds.length≤1000:=by decide) (hd:(x == ("__debug__" : Str))=false:=by decide)
  (he:starEach (e₀::rest) (envOfC qual scope s.heap.objs.size f cd)=(false,eval e₀ (envOfC qual scope s.heap.objs.size f cd))::starEach rest (envOfC qual scope s.heap.objs.size f cd):=by rfl)
  (mI:(backTo cI (starEach rest (envOfC qual scope s.heap.objs.size f cd))).any (·.1)=false:=by rfl) :
  VS (iU (nL P w) P w K mg base N qual scope f cd A outer s H E) (fun _=>E) (.Raise (some (.Call (.Name x np) (e₀::rest) [] cI)) none pos) (Ci C ds):=⟨by
 refine PS.imp (An M hr.hd hg h.out hd he mI) fun D σ H h=>?_
 obtain⟨ι,S,M,ρ,aF,sl,w'⟩:=h
 refine⟨ι,S,M,ρ,aF,sl,fz.res (Rp:=Gh K ds.length) sl w' fun ι1 S1 M1 H1 x v e1 s1 r1 w1=>?_⟩
 exact⟨by rw[← r1.1.length,r1.2]; exact Nat.le_of_lt (xB hn),w1 ι1 S1 H1 σ .refl s1 (sl.mono e1)⟩⟩
end
end L2
end
section
namespace L2
open PySem PySem.Spec PyProof.Rows
theorem Inv.Dx {X:Cx} {pins:List (Addr×Obj)} {σ:St} {H:Hp} {s:Shared} {h':Heap} {t':Nat} {fp:List Addr} {vs:List V} (I:Inv X pins σ H s) (hf:∀b∈fp,tQ X pins H b)
  (k:∀b o,b∉fp->s.heap.get? b=some o->h'.get? b=some o) (kf:∀b∈fp,∃o,h'.get? b=some o) (new:dt X.prog X.w (upd H s.heap.objs.size (.tup vs)) h' s.heap.objs.size (.tup vs)) :
  Inv X pins σ (upd H s.heap.objs.size (.tup vs)) { s with heap:=h',toks:=t' }:=by
 have hp:H s.heap.objs.size=none:=I.bO.fresh (Nat.le_refl _)
 have LY:∀b u,H b=some u->b∉fp:=fun b u e z=>by rw[(hf b z).1] at e; cases e
 have np:∀b o,s.heap.get? b=some o->b≠s.heap.objs.size:=fun b o e=>Nat.ne_of_lt (Heap.lt_size e)
 refine I.step (g':=s.gens) (d':=s.drawn) (ch:=fp) (fun b hb=>?_) (fun b o _ _ hc e _=>k b o hc e) (fun b o _ _ hc e _=>⟨o.slots,k b o hc e⟩) (fun b o hc e n=>by rw[az (np b o e)]; exact n)
  (fun b o hc e=>⟨o,k b o hc e⟩) (fun b xs e=>by rw[az (bf e hp)]; exact e) (fun b o u e=>by rw[az (bf e hp)]; exact e) (fun b ps e=>⟨#[],by rw[az (bf e hp),e]; simp⟩) (fun m hm=>?_) (fun b u e=>?_) I.bare
 ·obtain⟨f0,f1,f2,f3,f4,f5⟩:=hf b hb
  exact⟨f3,f1,f4,f5⟩
 ·obtain⟨o,es,ep,ho,r⟩:=hm
  exact⟨o,es,ep,k _ o (fun z=>(hf _ z).2.1 rfl) ho,r⟩
 ·by_cases hb:b=s.heap.objs.size
  ·subst hb
   rw[aU] at e
   cases e
   exact new
  ·rw[az hb] at e
   refine(I.bO b u e).p9 (fun c v hc q=>k c v ?_ q) (fun c q=>by rw[az (bf q hp)]; exact q) fun c xs q=>by rw[az (bf q hp)]; exact q
   rcases hc with z | z
   ·rw[z]; exact LY b u e
   ·exact LY c _ z
theorem Inv.Dy {X:Cx} {pins:List (Addr×Obj)} {σ:St} {H:Hp} {s:Shared} {h':Heap} {t':Nat} {fp:List Addr} (I:Inv X pins σ H s) (hf:∀b∈fp,tQ X pins H b)
  (k:∀b o,b∉fp->s.heap.get? b=some o->h'.get? b=some o):Inv X pins σ H { s with heap:=h',toks:=t' }:=by
 have LY:∀b u,H b=some u->b∉fp:=fun b u e z=>by rw[(hf b z).1] at e; cases e
 refine I.step (g':=s.gens) (d':=s.drawn) (ch:=fp) (fun b hb=>?_) (fun b o _ _ hc e _=>k b o hc e) (fun b o _ _ hc e _=>⟨o.slots,k b o hc e⟩) (fun b o hc e n=>n)
  (fun b o hc e=>⟨o,k b o hc e⟩) (fun b xs e=>e) (fun b o u e=>e) (fun b ps e=>⟨#[],by rw[e]; simp⟩) (fun m hm=>?_) (fun b u e=>?_) I.bare
 ·obtain⟨f0,f1,f2,f3,f4,f5⟩:=hf b hb
  exact⟨f3,f1,f4,f5⟩
 ·obtain⟨o,es,ep,ho,r⟩:=hm
  exact⟨o,es,ep,k _ o (fun z=>(hf _ z).2.1 rfl) ho,r⟩
 ·refine(I.bO b u e).p9 (fun c v hc q=>k c v ?_ q) (fun c q=>q) fun c xs q=>q
  rcases hc with z | z
  ·rw[z]; exact LY b u e
  ·exact LY c _ z
noncomputable def UC (K:Fg) (a:Addr):It :=
 ⟨fun i H=>∃xs x,nK K H a xs/\xs[i]? = some x,fun i H v H'=>∃p,H p=none/\v=.ref p/\∀xs,nK K H a xs->∃x,xs[i]? = some x/\H'=upd H p (.tup [.int i,x]),fun i H=>∃xs,nK K H a xs/\xs.length≤i⟩
theorem EX {P:Program} {w:World} {K:Fg} {elts:List Expr} {x1} {wJ:Pos} (a e it:Addr) (fE:e≠it) :
  Turn P w K (.Tuple elts x1 wJ) (UC K a) [e,it] e (fun i h=>∃old,IsEnum h e it (i:Nat) old/\h.IsListIter it a i) where
 mem:=by simp
 obj:=fun i h ⟨old,he,uC⟩ b hb=>by
  rcases List.mem_cons.mp hb with rfl | hb
  ·exact⟨_,he,fun v z=>by cases z⟩
  ·have eb:b=it:=by simpa using hb
   subst eb
   obtain⟨o,e,c,d⟩:=uC
   exact⟨o,e,fun v z=>by rw[d] at z; cases z⟩
 keep:=fun i h h' ⟨old,he,uC⟩ k=>⟨old,k e (by simp) _ he,uC.at fun o q=>k it (by simp) o q⟩
 item:=by
  intro X hP hw hK hc i pins s σ H E I hf st hg
  subst hP hw hK
  obtain⟨old,he,uC⟩:=st
  obtain⟨xs,x,hq,hx⟩:=hg
  obtain⟨bg,rv,p,hz⟩:=I.list hq
  obtain⟨u,hu,ru⟩:=rv.get hx
  refine wpAny_pyNext_enum_item he uC p.isList (x:=u) (by simpa using hu) fE fun h1 UD QL UE Gk k1=>⟨_,rfl,wpAny_letOwnedTupleGo_enum UD fun h2 Mf UG=>?_⟩
  have JD:e<s.heap.objs.size:=Heap.lt_size he
  have Cj:Heap.SameBut e h1 h2:=UG
  have UH:h2.get? s.heap.objs.size=some { cls:=.type "tuple",data:=.seq #[.int i s.toks,u] }:=(Cj.2 _ (Nat.ne_of_gt JD)).trans UE
  have I1:Inv X pins σ (upd H s.heap.objs.size (.tup [.int i,x])) { s with heap:=h2,toks:=s.toks+1 }:=by
   refine I.Dx (fp:=[e,it]) hf (fun b o hb q=>?_) (fun b hb=>?_) ?_
   ·have n1:b≠e:=fun z=>hb (by simp[z])
    have n2:b≠it:=fun z=>hb (by simp[z])
    exact(Cj.2 b n1).trans (k1 b o n1 n2 q)
   ·rcases List.mem_cons.mp hb with rfl | hb
    ·exact⟨_,Mf⟩
    ·have eb:b=it:=by simpa using hb
     subst eb
     obtain⟨o,q,_⟩:=QL
     exact⟨o,(Cj.2 b (Ne.symm fE)).trans q⟩
   ·exact⟨by show 2≤sizeLine; rw[sizeLine_eq]; decide,[.int i s.toks,u],.cons ⟨_,rfl⟩ (.cons ru .nil),⟨_,UH,rfl,_,rfl⟩⟩
  have hp:=I.bO.fresh (Nat.le_refl s.heap.objs.size)
  refine⟨.ref s.heap.objs.size,_,I1,rfl,⟨s.heap.objs.size,hp,rfl,fun ys hy=>⟨x,by rw[I.zY hy hq]; exact hx,rfl⟩⟩,⟨u,?_,?_⟩,fun b hb=>?_⟩
  ·have:((i+1:Nat):Int)=(i:Int)+1:=by push_cast; rfl
   rw[this]; exact Mf
  ·exact QL.at fun o q=>(Cj.2 it (Ne.symm fE)).trans q
  ·have:b≠s.heap.objs.size:=by
    rcases List.mem_cons.mp hb with rfl | hb
    ·exact Nat.ne_of_lt JD
    ·have eb:b=it:=by simpa using hb
     subst eb
     obtain⟨o,q,_⟩:=uC
     exact Nat.ne_of_lt (Heap.lt_size q)
   rw[az this]
   exact(hf b hb).1
 done:=by
  intro X hP hw hK hc i pins s σ H E I hf st hg
  subst hP hw hK
  obtain⟨old,he,uC⟩:=st
  obtain⟨xs,hq,hx⟩:=hg
  obtain⟨bg,rv,p,hz⟩:=I.list hq
  have hl:=rv.length
  refine wpAny_pyNext_enum_end (I.ok.hd hc) he uC p.isList (by simp; omega) fun h' eb=>⟨rfl,?_⟩
  exact I.Dy (t':=s.toks) (fp:=[e,it]) hf fun b o hb q=>eb b o (fun z=>hb (by simp[z])) q
 self:=fun _ _ _ _ _ ⟨old,he,uC⟩ h=>wpAny_pyIter_enum he h
section
variable {X:Cx} {Ex:St->XK} {a:Expr} {d:DE} {pos p wJ:Pos} {elts:List Expr} {x1:Nat}
noncomputable def pq (xs:List PV):List PV:=(xs.zipIdx).map fun q=>.tup [.int q.2,q.1]
theorem EY {xs:List PV} {i:Nat} {y:PV} (h:(pq xs)[i]? = some y):∃x,xs[i]? = some x/\y=.tup [.int i,x]:=by
 unfold pq at h
 rw[zJ,List.getElem?_zipIdx] at h
 cases e:xs[i]? with
 | none=>rw[e] at h; cases h
 | some x=>rw[e] at h; cases h; exact⟨x,rfl,by simp⟩
noncomputable def iE (d:DE):DI:=fun ρ M=>(d ρ M).bind fun x M1=>match x with
 | .lst xs=>.ok (pq xs,none) M1
 | .obj n=>match M1[n]? with
  | some (.lst xs)=>.ok (pq xs,some (n,.lst xs)) M1
  | _=>.bad
 | _=>.bad
theorem vm {K:Fg} {ι:List Addr} {S:Hp} {q:Addr} {xs:List PV} {w:BM} (h:∀ ι' S' M' H',Up ι S ι' S'->br K ι' S' M' H'->uF w M'->∃vs,nK K H' q vs/\aO K ι' S' xs vs):Walks K (UC K q) (pq xs) w ι S:=by
 intro i ι' S' M' H' up aF hc
 obtain⟨vs,hq,rs⟩:=h ι' S' M' H' up aF hc
 refine⟨fun y hy=>?_,fun hl=>⟨vs,hq,by rw[← rs.length]; simpa[pq] using hl⟩⟩
 obtain⟨x,hx,rfl⟩:=EY hy
 obtain⟨v,hv,r⟩:=rs.get hx
 refine⟨⟨vs,v,hq,hv⟩,fun u H2 y=>?_⟩
 obtain⟨p,hp,rfl,y⟩:=y
 obtain⟨z,hz,rfl⟩:=y vs hq
 rw[hv] at hz
 cases hz
 obtain⟨s2,e2⟩:=aF.tree (o:=.tup [.int i,v]) hp
 exact⟨ι',_,e2,s2,aJ.dm.mpr ⟨p,_,rfl,aU,.cons (aJ.aX.mpr rfl) (.one (r.mono e2))⟩⟩
theorem Dz (h:VE X Ex a d) (hm:X.mg "enumerate" = none) (hg:Gl X "enumerate" := by rfl) (hs:starEach [a] X.env=[(false,eval a X.env)]:=by rfl):VI X Ex (.Tuple elts x1 wJ) (.Call (.Name "enumerate" p) [a] [] pos) (iE d):=⟨by
 intro pins s σ H R I hw
 obtain⟨ι,S,M,ρ,aF,sl,w⟩:=hw
 have A1:PA X [a] (sP (tG X.K (fb X.K) Ex d) Eu):=jw h.out pF (by rw[hs]; rfl)
 refine wpAny_Call_Name_kw (uS I hg hm (u:=.type "enumerate") (by first | rfl | decide) ?_ (by decide) (by decide))
 refine PyProof.Rows.callWith_type1 (eh (A1 pos pins s σ H (fun vs H1=>∃q,vs=[.ref q]/\(∃xs,nK X.K H1 q xs)/\R (UC X.K q) H1) I ?_) fun us s1 ⟨vs,H1,I1,r1,q,ev,⟨xs,hq⟩,k⟩=>?_) (by rw[hs]; rfl) rfl
 ·refine⟨ι,S,M,ρ,aF,sl,bH.bind (Rp:=fb X.K) w fun ι1 S1 M1 H1 x v e1 s1 r1 w1=>?_⟩
  cases x with
  | lst xs =>
   obtain⟨q,vs,rfl,eS,rs⟩:=aJ.jx.mp r1
   refine⟨q,rfl,⟨vs,.of (s1.sub _ _ eS)⟩,w1 ι1 S1 H1 _ .refl s1 (vm fun ι2 S2 M2 H2 up s2 _=>?_)⟩
   exact⟨vs,.of (s2.sub _ _ (up.sm _ _ eS)),rs.up up⟩
  | obj n =>
   obtain⟨q,rfl,ei⟩:=aJ.cA.mp r1
   obtain⟨o,eM,mo⟩:=s1.addr ei
   simp only[eM] at w1
   cases o with
   | lst xs =>
    obtain⟨_,vs,eH,rs⟩:=mo
    refine⟨q,rfl,⟨vs,.of eH⟩,w1 ι1 S1 H1 _ .refl s1 (vm fun ι2 S2 M2 H2 up s2 hc=>?_)⟩
    obtain⟨_,Uq,Hr,O0⟩:=s2.ob n q _ (up.ix _ _ ei) hc
    exact⟨Uq,.of Hr,O0⟩
   | _=>exact w1.elim
  | _=>exact w1.elim
 ·subst ev
  obtain⟨u,rfl,ru⟩:=vals1 r1
  cases ru
  obtain⟨bg,rv,pl,hz⟩:=I1.list hq
  refine call_enumerate_list pl.isList fun h' he uC hsz kp=>?_
  refine wpAny_pyIter_enum he ?_
  have hp:=I1.bO.fresh (Nat.le_refl s1.heap.objs.size)
  have Yb:=I1.bO.fresh (Nat.le_succ s1.heap.objs.size)
  refine⟨s1.heap.objs.size+1,[s1.heap.objs.size+1,s1.heap.objs.size],_,_,H1,rfl,I1.kept (t':=s1.toks) kp,EX q _ _ (Nat.succ_ne_self _),⟨.none,he,uC⟩,fun b hb=>?_,k⟩
  rcases List.mem_cons.mp hb with rfl | hb
  ·exact I1.BS (Nat.le_succ _) Yb
  ·have eb:b=s1.heap.objs.size:=by simpa using hb
   subst eb
   exact I1.BS (Nat.le_refl _) hp⟩
end
end L2
end
section
namespace L2
open PySem PySem.Spec PyProof.Rows
noncomputable def DB (scope sc:Scope) (XN N:List Str) (j9:List (Option Nat)):Bool :=
 decide (scope.kind=.function) && scope.names.all (fun y=>!(y.2 == .cell)) && scope.names.all (fun y=>!(y.2 == .local) || (scope.names.lookup y.1 == some .local)) &&
 scope.names.all (fun y=>!(y.2 == .free) || (sc.names.lookup y.1 == some .cell) || (sc.names.lookup y.1 == some .free)) && decide (j9.length=N.length) &&
 (List.range N.length).all fun j=>match N[j]?,j9[j]? with
  | some x,some (some i)=>(XN[i]? == some x) && scope.names.any (fun y=>y.1 == x && y.2 == .free) && (scope.names.lookup x == some .free)
  | _,_=>true
theorem cv.of {X:Cx} {scope sc:Scope} (XN N:List Str) (j9:List (Option Nat)) (hX:X.N=XN) (hk:∀x,X.env.kindOf x=sc.names.lookup x) (h:DB scope sc XN N j9=true):cv X scope N j9:=by
 subst hX
 unfold DB at h
 simp only[Bool.and_eq_true] at h
 obtain⟨⟨⟨⟨⟨h1,h2⟩,h3⟩,h4⟩,h5⟩,h6⟩:=h
 refine⟨of_decide_eq_true h1,fun y hy e=>?_,fun y hy e=>?_,fun y hy e=>?_,of_decide_eq_true h5,fun j x i e1 e2=>?_⟩
 ·have:=List.all_eq_true.mp h2 y hy
  rw[e] at this
  simp at this
 ·have:=List.all_eq_true.mp h3 y hy
  rw[e] at this
  simpa using this
 ·have:=List.all_eq_true.mp h4 y hy
  rw[e] at this
  rw[hk]
  simpa[or_comm] using this
 ·have hj:j<N.length:=(List.getElem?_eq_some_iff.mp e1).1
  have:=List.all_eq_true.mp h6 j (List.mem_range.mpr hj)
  rw[e1,e2] at this
  simp only[Bool.and_eq_true,beq_iff_eq,List.any_eq_true] at this
  obtain⟨⟨a1,⟨y,a2,a3⟩⟩,a4⟩:=this
  exact⟨a1,by rw[← a3.1,← a3.2]; exact a2,a4⟩
noncomputable def Ck (scope sc:Scope):Scope:={ scope with names:=scope.names.map fun(n,k)=>if (k == NameKind.free && sc.names.lookup n == some .cell) then(n,NameKind.cell) else(n,k) }
theorem EZ {X:Cx} {scope sc:Scope} {N:List Str} {C:Addr} {fp:List Addr} {s:Shared} {H:Hp} (hk:∀x,X.env.kindOf x=sc.names.lookup x) (hf:X.env.scope.kind=.function) (x:Str) :
  (ej X scope N C fp s H).env.kindOf x=(Ck scope sc).names.lookup x:=by
 show(relabel scope X.env).names.lookup x=_
 unfold relabel Ck
 simp only[hk,hf]
 simp only[show(ScopeKind.function == ScopeKind.function)=true from rfl,Bool.and_true]
section
variable {X:Cx} {Ex:St->XK} {a b c e o:Expr} {es:List Expr} {da db dc d kG:DE} {ds:List DE} {pos pos' apos cI:Pos}
noncomputable def KL (d:DE):DE:=fun ρ M=>(d ρ M).bind fun x M1=>match x with
 | .int i=>.ok (.int (-i)) M1
 | _=>.bad
theorem NW (ha:VE X Ex a da):VE X Ex (.UnaryOp .USub a pos) (KL da):=⟨by
 refine PE.imp (PH M8 ha.out) fun σ H Q h=>?_
 obtain⟨ι,S,M,ρ,aF,sl,w⟩:=h
 refine⟨ι,S,M,ρ,aF,sl,bH.bind (Rp:=fb X.K) w fun ι1 S1 M1 H1 x v e1 s1 r1 w1=>?_⟩
 cases x with
 | int i=>exact⟨i,aJ.aX.mp r1,w1 ι1 S1 H1 _ .refl s1 (aJ.aX.mpr rfl)⟩
 | _=>exact w1.elim⟩
theorem Az {X:Cx} {pins:List (Addr×Obj)} {σ:St} {H:Hp} {s:Shared} {ι:List Addr} {S:Hp} {M:aP} {ys:List PV} {vs:List V} {bg:List Value} {x:PV} {v:V} {u:Value} {d:PyData} {qs:List PyData} (hu:X.A.units+64<cLine) (I:Inv X pins σ H s) (aF:br X.K ι S M H)
  (rs:aO X.K ι S ys vs) (rv:Vals vs bg) (px:aJ X.K ι S x v) (rx:RelV v u) (e1:flat M deep x=some d) (e2:kb (flat M deep) ys=some qs) :
  (∀y,y∈bg.toArray->SeqAt.EqAt X.A.in1 s y u (PyData.eqv (SeqAt.readOf s.heap y) d))/\bg.map (fun y=>SeqAt.readOf s.heap y)=qs:=by
 obtain⟨⟨as,a1⟩,a2,a3⟩:=jy aF I.bO deep x v u d px rx e1
 obtain⟨⟨bs,b1⟩,b2,b3⟩:=ml (jy aF I.bO deep) ys vs bg qs rs rv e2
 have Yc:ReadsAll s.heap bg.toArray.toList qs bs:=by simpa using b1
 refine⟨SeqAt.items_eqAt Yc a1 b2 a2 (by have:=Nat.min_le_right (PyData.depthAll qs) d.depth; have:d.depth≤10:=a3; omega),?_⟩
 exact SeqAt.readsAll_map qs bg bs b2 b1
noncomputable def countP:DM:=fun x as M=>match as with
 | [y]=>match iJ M x,flat M deep y with
  | some xs,some d=>match kb (flat M deep) xs with
   | some qs=>.ok (.int (qs.countP fun q=>PyData.eqv q d)) M
   | none=>.bad
  | _,_=>.bad
 | _=>.bad
theorem rO (hu:X.A.units+64<cLine):GU X "list.count" (rM X.K countP):=by
 intro pins s σ H x xs v us Q I rx rs h
 obtain⟨E,ι,S,M,p,ps,aF,r,rr,w⟩:=h
 unfold countP at w
 split at w
 ·obtain⟨z,rfl,r1⟩:=rr.gB
  obtain⟨u,rfl,ru⟩:=vals1 rs
  split at w
  ·rename_i ys d h1 h2
   split at w
   ·rename_i qs h3
    obtain⟨l,vs,rfl,eH,rl⟩:=fy aF r h1
    cases rx
    obtain⟨bg,rv,pl,hz⟩:=I.list (.of eH)
    obtain⟨q1,q2⟩:=Az hu I aF rl rv r1 ru h2 h3
    obtain⟨⟨cls,dd,data,sl⟩,n,ho,hc,UI,hd⟩:=id pl
    simp only at hc hd UI
    subst hc hd
    refine call_meets PySem.F.slot_list_count pl.isList.typeIs PySem.F.entry_list_count (PySem.F.args_list_count_2 _ _) (SeqAt.list_countAt l _ n dd sl u _) ⟨ho,q1,?_⟩
    have e:(List.countP (fun y=>PyData.eqv (SeqAt.readOf s.heap y) d) bg.toArray.toList:Nat)=qs.countP fun q=>PyData.eqv q d:=by
     rw[← q2,List.countP_map]; rfl
    rw[e]
    exact⟨.int _,H,I.tok _,⟨_,rfl⟩,w ι S H _ .refl aF (aJ.aX.mpr rfl)⟩
   ·exact w.elim
  ·exact w.elim
 ·exact w.elim
noncomputable def rQ:DM:=fun x as M=>match as with
 | [y]=>match iJ M x,flat M deep y with
  | some xs,some d=>match kb (flat M deep) xs with
   | some qs=>match qs.findIdx? fun q=>PyData.eqv q d with
    | some j=>.ok (.int j) M
    | none=>.bad
   | none=>.bad
  | _,_=>.bad
 | _=>.bad
theorem xF (hu:X.A.units+64<cLine):GU X "list.index" (rM X.K rQ):=by
 intro pins s σ H x xs v us Q I rx rs h
 obtain⟨E,ι,S,M,p,ps,aF,r,rr,w⟩:=h
 unfold rQ at w
 split at w
 ·obtain⟨z,rfl,r1⟩:=rr.gB
  obtain⟨u,rfl,ru⟩:=vals1 rs
  split at w
  ·rename_i ys d h1 h2
   split at w
   ·rename_i qs h3
    split at w
    ·rename_i j h4
     obtain⟨l,vs,rfl,eH,rl⟩:=fy aF r h1
     cases rx
     obtain⟨bg,rv,pl,hz⟩:=I.list (.of eH)
     obtain⟨q1,q2⟩:=Az hu I aF rl rv r1 ru h2 h3
     obtain⟨⟨cls,dd,data,sl⟩,n,ho,hc,UI,hd⟩:=id pl
     simp only at hc hd UI
     subst hc hd
     obtain⟨hj,ht,Qh⟩:=List.findIdx?_eq_some_iff_getElem.mp h4
     have hlen:bg.length=qs.length:=by rw[← q2]; simp
     have Zz:=rv.length
     have at':∀(m:Nat) (h:m<bg.length),PyData.eqv (SeqAt.readOf s.heap bg[m]) d=PyData.eqv (qs[m]'(by omega)) d:=fun m h=>by
      have:qs[m]? = some (SeqAt.readOf s.heap bg[m]):=by rw[← q2,zJ,List.getElem?_eq_getElem h]; rfl
      rw[List.getElem?_eq_getElem (by omega)] at this
      rw[Option.some.inj this]
     refine call_meets PySem.F.slot_list_index pl.isList.typeIs PySem.F.entry_list_index (PySem.F.args_list_index_2 _ _) (SeqAt.list_indexAt l _ n dd sl u (fun y=>PyData.eqv (SeqAt.readOf s.heap y) d) j (by simpa[hlen] using hj) ?_ ?_ ?_) ⟨ho,q1,?_⟩
     ·have:=sizeLine_eq; omega
     ·simp only[List.getElem_toArray]
      rw[at' j (by omega)]; exact ht
     ·intro m hm wM
      simp only[List.getElem_toArray]
      rw[at' m (by simpa using hm)]
      simpa using Qh m wM
     ·exact⟨.int _,H,I.tok _,⟨_,rfl⟩,w ι S H _ .refl aF (aJ.aX.mpr rfl)⟩
    ·exact w.elim
   ·exact w.elim
  ·exact w.elim
 ·exact w.elim
end
theorem cj:bootBuiltins "len" = some (.builtin "len"):=by decide +kernel
theorem KM:bootBuiltins "max" = some (.builtin "max"):=by decide +kernel
theorem KN:bootBuiltins "min" = some (.builtin "min"):=by decide +kernel
theorem KO:bootBuiltins "any" = some (.builtin "any"):=by decide +kernel
theorem kJ:bootBuiltins "list" = some (.type "list"):=by decide +kernel
theorem E0:bootBuiltins "tuple" = some (.type "tuple"):=by decide +kernel
theorem DC:bootBuiltins "int" = some (.type "int"):=by decide +kernel
end L2
end
section
namespace L2
open PySem PySem.Spec PyProof.Rows
structure j5 (K:Fg) (C:Addr) (f:Str):Prop where
 cl:BZ K C
 no:pE K C f
noncomputable def qw (f:Str) (v:PV):List (Str×PV)->List (Str×PV)
 | []=>[(f,v)]
 | (g,x)::r=>if g=f then(g,v)::r else(g,x)::qw f v r
theorem cg.lookup {K:Fg} {ι:List Addr} {S:Hp} {fs:List (Str×PV)} {rF:List (Str×V)} (h:cg K ι S fs rF) (f:Str) :
  (fs.lookup f=none/\rF.lookup f=none)\/∃x v,fs.lookup f=some x/\rF.lookup f=some v/\aJ K ι S x v:=by
 induction h with
 | nil=>exact .inl ⟨rfl,rfl⟩
 | @cons p q fs rF r t ih =>
  obtain⟨r1,r2⟩:=r
  obtain⟨p1,p2⟩:=p
  obtain⟨q1,q2⟩:=q
  dsimp only at r1 r2
  subst r1
  rw[List.lookup_cons,List.lookup_cons]
  cases e:f == p1 with
  | true=>exact .inr ⟨p2,q2,rfl,rfl,r2⟩
  | false=>exact ih
theorem cg.lQ {K:Fg} {ι:List Addr} {S:Hp} {fs:List (Str×PV)} {rF:List (Str×V)} (h:cg K ι S fs rF) (f:Str) {x:PV} {v:V} (r:aJ K ι S x v):cg K ι S (qw f x fs) (lQ f v rF):=by
 induction h with
 | nil=>exact .cons ⟨rfl,r⟩ .nil
 | @cons p q fs rF r' t ih =>
  obtain⟨p1,p2⟩:=p
  obtain⟨q1,q2⟩:=q
  obtain⟨r1,r2⟩:=r'
  dsimp only at r1 r2
  subst r1
  show cg K ι S (if p1=f then(p1,x)::fs else(p1,p2)::qw f x fs) (if p1=f then(p1,v)::rF else(p1,q2)::L2.lQ f v rF)
  by_cases e:p1=f
  ·rw[if_pos e,if_pos e]; exact .cons ⟨rfl,r⟩ t
  ·rw[if_neg e,if_neg e]; exact .cons ⟨rfl,r2⟩ ih
noncomputable def Hz (C:Addr) (x:PV) (M:aP):Option (Nat×List (Str×PV)):=match x with
 | .obj n=>match M[n]? with
  | some (.ins C' fs)=>if C'=C then some (n,fs) else none
  | _=>none
 | _=>none
theorem oN {C:Addr} {n:Nat} {M:aP} {fs:List (Str×PV)} (h:M[n]? = some (.ins C fs)):Hz C (.obj n) M=some (n,fs):=by simp[Hz,h]
theorem uH {K:Fg} {ι:List Addr} {S H:Hp} {M:aP} {x:PV} {v:V} {C:Addr} {n:Nat} {fs:List (Str×PV)} (aF:br K ι S M H) (r:aJ K ι S x v) (h:Hz C x M=some (n,fs)) :
  ∃a dx rF,v=.ref a/\ι[n]? = some a/\H a=some (.ins C dx rF)/\S a=none/\cg K ι S fs rF:=by
 cases x with
 | obj m =>
  obtain⟨p,rfl,ei⟩:=aJ.cA.mp r
  obtain⟨o,eM,q⟩:=aF.addr ei
  simp only[Hz,eM] at h
  cases o with
  | ins C' gs =>
   dsimp only at h
   split at h
   ·rename_i ec
    cases h
    subst ec
    obtain⟨hS,dx,rF,eH,rr⟩:=q
    exact⟨p,dx,rF,rfl,ei,eH,hS,rr⟩
   ·cases h
  | _=>cases h
 | _=>cases h
section
variable {X:Cx} {Ex:St->XK} {a b c e o value:Expr} {es:List Expr} {da db dc d dv kG:DE} {ds:List DE} {pos pos' apos cI:Pos} {C:Addr} {f:Str}
noncomputable def cM (C:Addr) (f:Str) (d:DE):DE:=fun ρ M=>(d ρ M).bind fun x M1=>match Hz C x M1 with
 | some (_,fs)=>Res.opt (fs.lookup f) M1
 | none=>.bad
theorem bC (h:j5 X.K C f) (ha:VE X Ex a da) (hb:attributeBase a f X.env (eval a X.env)=eval a X.env:=by rfl):VE X Ex (.Attribute a f pos) (cM C f da):=⟨by
 refine PE.imp (Nd ha.out hb) fun σ H Q hh=>?_
 obtain⟨ι,S,M,ρ,aF,sl,w⟩:=hh
 refine⟨ι,S,M,ρ,aF,sl,bH.bind (Rp:=fb X.K) w fun ι1 S1 M1 H1 x v e1 s1 r1 w1=>?_⟩
 cases e2:Hz C x M1 with
 | none=>rw[e2] at w1; exact w1.elim
 | some p =>
  obtain⟨n,fs⟩:=p
  rw[e2] at w1
  dsimp only at w1
  obtain⟨p,dx,rF,rfl,ei,eH,hS,rr⟩:=uH s1 r1 e2
  rcases rr.lookup f with⟨k1,_⟩ | ⟨y,u,k1,k2,k3⟩
  ·rw[k1] at w1; exact w1.elim
  ·rw[k1] at w1
   exact⟨p,C,dx,rF,u,rfl,eH,h.cl,h.no,k2,w1 ι1 S1 H1 u .refl s1 k3⟩⟩
noncomputable def hG (C:Addr) (f:Str) (kG dv:DE):DS:=fun ρ M=>(dv ρ M).out ρ fun y M1=>(kG ρ M1).out ρ fun x M2=>match Hz C x M2 with
 | some (n,fs)=>if fs.length<1000 then .nx ρ (M2.set n (.ins C (qw f y fs))) else .bad
 | none=>.bad
theorem gC (h:j5 X.K C f) (ho:VE X Ex o kG) (hv:VE X Ex value dv) (hs:swapsWith value (some (.Attribute o f pos')) pos.line X.env=pure false:=by rfl):VS X Ex (.Assign [.Attribute o f pos'] value pos) (hG C f kG dv):=⟨by
 refine PS.imp (Nf ho.out hv.out hs) fun D σ H hh=>?_
 obtain⟨ι,S,M,ρ,aF,sl,w⟩:=hh
 refine⟨ι,S,M,ρ,aF,sl,fz.res (Rp:=fb X.K) sl w fun ι1 S1 M1 H1 y u e1 s1 r1 w1=>?_⟩
 refine⟨ι1,S1,M1,ρ,s1,sl.mono e1,fz.res (Rp:=fb X.K) (sl.mono e1) w1 fun ι2 S2 M2 H2 x v e2 s2 r2 w2=>?_⟩
 cases e3:Hz C x M2 with
 | none=>rw[e3] at w2; exact w2.elim
 | some p =>
  obtain⟨n,fs⟩:=p
  rw[e3] at w2
  dsimp only at w2
  split at w2
  ·rename_i hl
   obtain⟨p,dx,rF,rfl,ei,eH,hS,rr⟩:=uH s2 r2 e3
   refine⟨p,C,dx,rF,rfl,eH,h.cl,h.no,by rw[← rr.length]; exact hl,?_⟩
   obtain⟨s3,e4⟩:=s2.put (u:=.ins C dx (lQ f u rF)) (o:=.ins C (qw f y fs)) ei hS ⟨hS,dx,_,aU,rr.lQ f (aJ.mono e2 r1)⟩
   exact w2 _ _ _ σ e4 s3 ((sl.mono (e1.trans e2)).mono e4)
  ·exact w2.elim⟩
end
structure xG (P:Program) (w:World) (K:Fg) (mg:Str->Option Value) (base:Heap) (k:Nat) (C:Addr) (m:Str) (n:Nat) (g:D1):Prop where
 ex:∃f fd ps,lx P w K mg base (nL P w) k f fd ps (Gj K n g)/\Meth K C m f/\BZ K C/\Binds K fd ps []
structure Cm (P:Program) (w:World) (K:Fg) (mg:Str->Option Value) (base:Heap) (k:Nat) (x:Str) (C:Addr) (n:Nat) (g:D1):Prop where
 ex:∃f fd ps,lx P w K mg base (nL P w) k f fd ps (Gj K n g)/\Mk K C f/\mg x=some (.ref C)/\Binds K fd ps []
section
variable {P:Program} {w:World} {K:Fg} {mg:Str->Option Value} {base:Heap} {C:Addr} {m x:Str} {n:Nat} {g g':D1}
theorem xG.mono {j k:Nat} (F:xG P w K mg base j C m n g) (h:j≤k):xG P w K mg base k C m n g:=by
 obtain⟨f,fd,ps,F,r⟩:=F.ex
 exact⟨f,fd,ps,F.mono h,r⟩
theorem Cm.mono {j k:Nat} (F:Cm P w K mg base j x C n g) (h:j≤k):Cm P w K mg base k x C n g:=by
 obtain⟨f,fd,ps,F,r⟩:=F.ex
 exact⟨f,fd,ps,F.mono h,r⟩
structure qx (K:Fg) (C:Addr) (m q:Str) (st:Stmt) (ps:List Str):Prop where
 ex:∃f fd,GY K m q st f fd/\Meth K C m f/\BZ K C/\Binds K fd ps []
structure AA (K:Fg) (mg:Str->Option Value) (x:Str) (C:Addr) (q:Str) (st:Stmt) (ps:List Str):Prop where
 ex:∃f fd,GY K "__init__" q st f fd/\Mk K C f/\mg x=some (.ref C)/\Binds K fd ps []
theorem xG.of {q:Str} {st:Stmt} {N ps:List Str} {k:Nat} {d:DS} (D:qx K C m q st ps) (S:aC N ps (ak st))
  (hb:∀(f:Addr) (iO:Value) (A:Around) (outer:List Env) (s:Shared) (H:Hp) (E:XK),fL k (A.deeper (envOfC q (ak st) s.heap.objs.size f iO)) →
   BL (iU (nL P w) P w K mg base N q (ak st) f iO A outer s H E) (fun _=>E) (dN st) d):xG P w K mg base (k+1) C m ps.length (fq N.length d):=by
 obtain⟨f,fd,F,hm,hc,hB⟩:=D.ex
 exact⟨f,fd,ps,yy F S (hb f),hm,hc,hB⟩
theorem Cm.of {q:Str} {st:Stmt} {N ps:List Str} {k:Nat} {d:DS} (D:AA K mg x C q st ps) (S:aC N ps (ak st))
  (hb:∀(f:Addr) (iO:Value) (A:Around) (outer:List Env) (s:Shared) (H:Hp) (E:XK),fL k (A.deeper (envOfC q (ak st) s.heap.objs.size f iO)) →
   BL (iU (nL P w) P w K mg base N q (ak st) f iO A outer s H E) (fun _=>E) (dN st) d):Cm P w K mg base (k+1) x C ps.length (fq N.length d):=by
 obtain⟨f,fd,F,hm,hc,hB⟩:=D.ex
 exact⟨f,fd,ps,yy F S (hb f),hm,hc,hB⟩
end
section
variable {X:Cx} {Ex:St->XK} {a b c e o:Expr} {es:List Expr} {da d kG:DE} {ds:List DE} {pos apos p:Pos} {C:Addr} {m x:Str} {n k:Nat} {g:D1}
noncomputable def lz (C:Addr) (m:Str) (g:D1) (kG:DE) (ds:List DE):DE:=fun ρ M=>(kG ρ M).bind fun x M1=>match Hz C x M1 with
 | some (_,fs)=>match fs.lookup m with
  | some _=>.bad
  | none=>(eR ds ρ M1).bind fun xs M2=>g (x::xs) M2
 | none=>.bad
theorem lU {pl:Sem Bool} (F:xG X.prog X.w X.K X.mg X.base k C m n g) (hr:fL k X.A) (G:Good0 X Ex) (ho:VE X Ex o kG) (ha:VN X Ex (e::es) ds) (hn:ds.length+1=n:=by rfl)
  (wI:starEach (e::es) X.env=(false,eval e X.env)::starEach es X.env:=by rfl) (mI:(backTo pos (starEach es X.env)).any (·.1)=false:=by rfl)
  (ht:eval (.Call (.Attribute o m apos) (e::es) [] pos) X.env=(do
   let ov ← eval o X.env
   standAt apos.atName
   let(f,first) ← holding [ov] (getMethod ov m pl)
   callWith pos f first (backTo pos (starEach (e::es) X.env)) (backToKw pos (keywordEach [] X.env))):=by rfl) :
  VE X Ex (.Call (.Attribute o m apos) (e::es) [] pos) (lz C m g kG ds):=⟨by
 obtain⟨f,fd,ps,F,hm,hc,hb⟩:=F.ex
 refine PE.imp (G6 ho.out hc hm F hr hb .nil G.ps ha.out wI mI ht) fun σ H Q h=>?_
 obtain⟨ι,S,M,ρ,aF,sl,w⟩:=h
 refine⟨ι,S,M,ρ,aF,sl,bH.bind (Rp:=fb X.K) w fun ι1 S1 M1 H1 x v e1 s1 r1 w1=>?_⟩
 cases e2:Hz C x M1 with
 | none=>rw[e2] at w1; exact w1.elim
 | some q =>
  obtain⟨j,fs⟩:=q
  rw[e2] at w1
  dsimp only at w1
  obtain⟨q,dx,rF,rfl,ei,eH,hS,rr⟩:=uH s1 r1 e2
  rcases rr.lookup m with⟨k1,k2⟩ | ⟨y,u,k1,k2,k3⟩
  ·rw[k1] at w1
   refine⟨q,dx,rF,rfl,eH,k2,ι1,S1,M1,ρ,s1,sl.mono e1,bH.bind (Rp:=Gh X.K ds.length) w1 fun ι2 S2 M2 H2 xs vs e3 s2 r2 w2=>?_⟩
   rw[zI]
   exact⟨by rw[zE,← r2.1.length,r2.2,hn],ι2,S2,M2,_,s2,.cons (aJ.mono e3 r1) r2.1,w2⟩
  ·rw[k1] at w1; exact w1.elim⟩
theorem E1 {CX:zZ} {f:Addr} {fd:FuncData} {ps:List Str} {sp:Sp} {Ex:St->XK} {ta:TE} {pl:Sem Bool} (he:PE X o ta) (c:BZ X.K C) (hm:Meth X.K C m f) (F:lx X.prog X.w X.K X.mg X.base CX k f fd ps sp) (hr:fL k X.A) (hb:Binds X.K fd ps []) (hx:oK CX X Ex)
  (ht:eval (.Call (.Attribute o m apos) [] [] pos) X.env=(do
   let ov ← eval o X.env
   standAt apos.atName
   let(f,first) ← holding [ov] (getMethod ov m pl)
   callWith pos f first (backTo pos (starEach [] X.env)) (backToKw pos (keywordEach [] X.env))):=by rfl) :
  PE X (.Call (.Attribute o m apos) [] [] pos) (G4 C m sp [] Ex ta Eu):=by
 intro pins s σ H Q I h
 refine PySem.W.methodCall_KW (pl:=pl) (eh (he pins s σ H _ I h) fun u s1 ⟨x,H1,I1,rx,a,dx,fs,ex,ea,l,q⟩=>?_) ht
 subst ex
 obtain rfl:u=Value.ref a:=rx
 refine uW I1 ea c hm l ?_
 exact PySem.W.callWith_K0 (first:=[.ref a]) I1.qa hm.kp (yq (us:=[.ref a]) (vs:=[.ref a]) F hr hb .nil hx I1 (.cons rfl .nil) q)
theorem KP {pl:Sem Bool} (F:xG X.prog X.w X.K X.mg X.base k C m 1 g) (hr:fL k X.A) (G:Good0 X Ex) (ho:VE X Ex o kG)
  (ht:eval (.Call (.Attribute o m apos) [] [] pos) X.env=(do
   let ov ← eval o X.env
   standAt apos.atName
   let(f,first) ← holding [ov] (getMethod ov m pl)
   callWith pos f first (backTo pos (starEach [] X.env)) (backToKw pos (keywordEach [] X.env))):=by rfl) :
  VE X Ex (.Call (.Attribute o m apos) [] [] pos) (lz C m g kG []):=⟨by
 obtain⟨f,fd,ps,F,hm,hc,hb⟩:=F.ex
 refine PE.imp (E1 ho.out hc hm F hr hb G.ps ht) fun σ H Q h=>?_
 obtain⟨ι,S,M,ρ,aF,sl,w⟩:=h
 refine⟨ι,S,M,ρ,aF,sl,bH.bind (Rp:=fb X.K) w fun ι1 S1 M1 H1 x v e1 s1 r1 w1=>?_⟩
 cases e2:Hz C x M1 with
 | none=>rw[e2] at w1; exact w1.elim
 | some q =>
  obtain⟨j,fs⟩:=q
  rw[e2] at w1
  dsimp only at w1
  obtain⟨q,dx,rF,rfl,ei,eH,hS,rr⟩:=uH s1 r1 e2
  rcases rr.lookup m with⟨k1,k2⟩ | ⟨y,u,k1,k2,k3⟩
  ·rw[k1] at w1
   exact⟨q,dx,rF,rfl,eH,k2,rfl,ι1,S1,M1,_,s1,.one r1,w1⟩
  ·rw[k1] at w1; exact w1.elim⟩
noncomputable def xH (C:Addr) (g:D1) (ds:List DE):DE:=fun ρ M=>(eR ds ρ M).bind fun xs M1=>(g (.obj M1.length::xs) (M1++[.ins C []])).bind fun r M2=>match r with
 | .aN=>.ok (.obj M1.length) M2
 | _=>.bad
theorem E2 {CX:zZ} {f:Addr} {fd:FuncData} {ps:List Str} {sp:Sp} {E:XK} {pins:List (Addr×Obj)} {σ:St} {H:Hp} {s:Shared} {Q:VK} {us:List Value} {vs:List V} (M:Mk X.K C f) (F:lx X.prog X.w X.K X.mg X.base CX k f fd ps sp) (hr:fL (k+1) X.A) (hb:Binds X.K fd ps [])
  (hx:∀(pins:List (Addr×Obj)) (H:Hp) (s:Shared) (e:Value) (s':Shared),Inv X pins σ H s->CX X.stack H s E e s'->X.xe e s') (I:Inv X pins σ H s) (r:Vals vs us)
  (h:∀x dx,H x=none->H dx=none->dx≠x->sp (.ref x::vs) (upd (upd H dx (.own x)) x (.ins C dx [])) (fun v H2=>v=.aN/\Q (.ref x) H2) E) :
  wpAny (model X.prog X.w) X.A (call (.ref C) us) (EP X pins σ Q) X.xe s:=by
 have hq:=h (s.heap.objs.size+1) s.heap.objs.size (I.bO.fresh (Nat.le_succ _)) (I.bO.fresh (Nat.le_refl _)) (Nat.ne_of_lt (Nat.lt_succ_self _))
 have I2:=Inv.made (C:=C) I
 have r2:Vals (V.ref (s.heap.objs.size+1)::vs) (Value.ref (s.heap.objs.size+1)::us):=.cons rfl r
 have hl:(Value.ref (s.heap.objs.size+1)::us++[]).length=ps.length:=by
  have e:=r2.length
  rw[F.len _ _ _ _ hq] at e
  rw[zI]
  exact e.symm
 have OW:=hb _ (Value.ref (s.heap.objs.size+1)::us) I2.qa hl
 rw[zI] at OW
 refine wpAny_call (GI (f:=f) I.qa M.makes M.init (beq_iff_eq.mp M.fn) (codeAny_mono (F.run _ X.stack _ _ ⟨Value.ref (s.heap.objs.size+1)::us,[]⟩ (Value.ref (s.heap.objs.size+1)::us) _ _ E (hr.make C us [])
  (I2.PX.make C us []) OW r2 hq) fun r s' QM=>?_))
 cases r with
 | error e=>exact hx pins _ _ e s' I2 QM
 | ok fl =>
  cases fl with
  | ret u =>
   obtain⟨v,H',I3,rv,ev,q3⟩:=I2.after QM
   subst ev
   exact⟨rv,⟨V.ref (s.heap.objs.size+1),H',I3,rfl,q3⟩⟩
  | next=>exact False.elim QM
  | brk=>exact False.elim QM
  | cont=>exact False.elim QM
theorem E3 {K:Fg} {ι:List Addr} {S H:Hp} {M:aP} {E:XK} {Q:VK} {xs:List PV} {vs:List V} (aF:br K ι S M H) (r:aO K ι S xs vs) (hn:vs.length+1=n)
  (w:bH K (fb K) E ι S H Q ((g (.obj M.length::xs) (M++[.ins C []])).bind fun r M2=>match r with | .aN=>.ok (.obj M.length) M2 | _=>.bad)) :
  ∀x dx,H x=none->H dx=none->dx≠x->Gj K n g (.ref x::vs) (upd (upd H dx (.own x)) x (.ins C dx [])) (fun v H2=>v=.aN/\Q (.ref x) H2) E:=by
 intro x dx hx Qv fE
 obtain⟨s1,e1⟩:=aF.side (o:=.own x) Qv
 have Sq:upd H dx (.own x) x=none:=by rw[az (Ne.symm fE)]; exact hx
 have hS:=s1.pJ Sq
 obtain⟨s2,e2⟩:=s1.new (u:=.ins C dx []) (o:=.ins C []) Sq ⟨hS,dx,[],aU,.nil⟩
 have Sr:=e1.trans e2
 have hi:(ι++[x])[M.length]? = some x:=by rw[← aF.len]; simp
 refine⟨by rw[zE,hn],ι++[x],S,_,_,s2,.cons (aJ.cA.mpr ⟨x,rfl,hi⟩) (r.mono Sr),bH.bind (Rp:=fb K) (w.up Sr) fun ι1 S1 M1 H1 y v ex sm rp wk=>?_⟩
 cases y with
 | aN=>exact⟨aJ.ib.mp rp,wk ι1 S1 H1 _ .refl sm (aJ.cA.mpr ⟨x,rfl,ex.ix _ _ hi⟩)⟩
 | _=>exact wk.elim
theorem DD (F:Cm X.prog X.w X.K X.mg X.base k x C n g) (hr:fL (k+1) X.A) (G:Good0 X Ex) (ha:VN X Ex (e::es) ds) (hg:Gl X x:=by rfl) (hn:ds.length+1=n:=by rfl) (Ez:(x == ("__debug__" : Str))=false:=by decide)
  (he:starEach (e::es) X.env=(false,eval e X.env)::starEach es X.env:=by rfl) (mI:(backTo pos (starEach es X.env)).any (·.1)=false:=by rfl):VE X Ex (.Call (.Name x p) (e::es) [] pos) (xH C g ds):=⟨by
 obtain⟨f,fd,ps,F,M,hm,hb⟩:=F.ex
 intro pins s σ H Q I h
 obtain⟨ι,S,M',ρ,aF,sl,w⟩:=h
 refine wpAny_Call_Name_kw (uz I hg hm ?_ Ez)
 refine PySem.W.callWith_K (h₀:=X.base) I.ok.mod.OT M.kp (eh (ha.out pos pins s σ H (fun vs H1=>∀x dx,H1 x=none->H1 dx=none->dx≠x->Gj X.K n g (.ref x::vs) (upd (upd H1 dx (.own x)) x (.ins C dx [])) (fun v H2=>v=.aN/\Q (.ref x) H2) (Ex σ)) I ?_) fun us s1 ⟨vs,H1,I1,r,q⟩=>⟨I1.qa,?_⟩) he mI
 ·refine⟨ι,S,M',ρ,aF,sl,bH.bind (Rp:=Gh X.K ds.length) w fun ι1 S1 M1 H1 xs vs e1 s1 r1 w1=>?_⟩
  exact E3 s1 r1.1 (by rw[← r1.1.length,r1.2,hn]) w1
 ·exact E2 M F hr hb (fun pins H s e s' I h=>G.ps pins σ H s e s' I h) I1 r q⟩
end
section
variable {X:Cx} {Ex:St->XK} {a b c e o i value:Expr} {es:List Expr} {da db dc d dv di kG:DE} {ds:List DE} {pos pos' apos cI:Pos}
theorem set_dict (hu:X.A.units+1<cLine):BR X (fun o i v H Q=>∃a H',o=.ref a/\yg H a i v H'/\Q H'):=by
 intro pins s σ H o i v ov iv u Q I ro ri rv h
 obtain⟨p,H',rfl,g,q⟩:=h
 cases ro
 exact EC hu I g ri rv fun s' I'=>⟨H',I',q⟩
noncomputable def vn (x k y:PV) (M:aP):Option aP:=match x with
 | .obj n=>match M[n]? with
  | some (.lst xs)=>match k with
   | .int j=>(EE xs.length j).map fun m=>M.set n (.lst (xs.set m y))
   | _=>none
  | some (.bR kvs)=>match kF k with
   | some kk=>if kvs.length<lim then some (M.set n (.bR (mS kvs kk y))) else none
   | none=>none
  | some (.Ce kvs)=>match Dm k with
   | some kk=>if kvs.length<lim then some (M.set n (.Ce (mS kvs kk y))) else none
   | none=>none
  | _=>none
 | _=>none
theorem HA {K:Fg} {ι:List Addr} {S H:Hp} {M M':aP} {x k y:PV} {v kv u:V} {Q:Hp->Prop} (aF:br K ι S M H) (r:aJ K ι S x v) (rk:aJ K ι S k kv) (ry:aJ K ι S y u) (h:vn x k y M=some M')
  (hQ:∀H',br K ι S M' H'->Ext ι S H ι S H'->Q H'):Ma v kv u H Q\/∃a H',v=.ref a/\yg H a kv u H'/\Q H':=by
 cases x with
 | obj n =>
  obtain⟨p,rfl,ei⟩:=aJ.cA.mp r
  obtain⟨o,eM,q⟩:=aF.addr ei
  simp only[vn,eM] at h
  cases o with
  | lst xs =>
   dsimp only at h
   cases k with
   | int j =>
    dsimp only at h
    obtain⟨hS,vs,eH,rr⟩:=q
    cases e:EE xs.length j with
    | none=>rw[e] at h; cases h
    | some m =>
     rw[e] at h
     cases h
     obtain⟨s2,e2⟩:=yx aF ei hS (rr.set m ry)
     exact .inl ⟨p,vs,j,m,rfl,aJ.aX.mp rk,eH,by rw[← rr.length]; exact e,hQ _ s2 e2⟩
   | _=>cases h
  | bR kvs =>
   dsimp only at h
   obtain⟨hS,bz,eH,rr⟩:=q
   cases e:kF k with
   | none=>rw[e] at h; cases h
   | some kk =>
    rw[e] at h
    dsimp only at h
    split at h
    ·rename_i hl
     cases h
     have:=mm rk e
     subst this
     obtain⟨s2,e2⟩:=aF.put (u:=.dK (putK bz kk u)) (o:=.bR (mS kvs kk y)) ei hS ⟨hS,_,aU,rr.put kk ry⟩
     exact .inr ⟨p,_,rfl,yg.k eH (by rw[← rr.length]; exact yr hl),hQ _ s2 e2⟩
    ·cases h
  | Ce kvs =>
   dsimp only at h
   obtain⟨hS,bz,eH,rr⟩:=q
   cases k with
   | tup ks =>
    obtain⟨b,vs,rfl,eS,rs⟩:=aJ.dm.mp rk
    simp only[Dm] at h
    cases e:kb kF ks with
    | none=>rw[e] at h; cases h
    | some kk =>
     rw[e] at h
     dsimp only at h
     split at h
     ·rename_i hl
      cases h
      have:=rH rs e
      subst this
      obtain⟨s2,e2⟩:=aF.put (u:=.dT (putK bz kk u)) (o:=.Ce (mS kvs kk y)) ei hS ⟨hS,_,aU,rr.put kk ry⟩
      exact .inr ⟨p,_,rfl,yg.t eH (aF.sub _ _ eS) (by rw[← rr.length]; exact yr hl),hQ _ s2 e2⟩
     ·cases h
   | _=>cases h
  | _=>cases h
 | _=>cases h
noncomputable def gU (kG di dv:DE):DS:=fun ρ M=>(dv ρ M).out ρ fun y M1=>(kG ρ M1).out ρ fun x M2=>(di ρ M2).out ρ fun k M3=>match vn x k y M3 with
 | some M4=>.nx ρ M4
 | none=>.bad
theorem BR.or {t t':JU} (h:BR X t) (h':BR X t'):BR X (fun o i v H Q=>t o i v H Q\/t' o i v H Q):=by
 intro pins s σ H o i v ov iv u Q I ro ri rv q
 rcases q with q | q
 ·exact h pins s σ H o i v ov iv u Q I ro ri rv q
 ·exact h' pins s σ H o i v ov iv u Q I ro ri rv q
theorem dZ (hu:X.A.units+64<cLine) (ho:VE X Ex o kG) (hi:VE X Ex i di) (hv:VE X Ex value dv)
  (ha:∀v,assign (.Subscript o i pos') X.env v=(do
   let ov ← holding [v] (eval o X.env)
   let iv ← holding [v,ov] (eval i X.env)
   standAt pos'
   holding [v,ov,iv] (setItem ov iv v)
   release [v,ov,iv] []):=by intro _; rfl)
  (hs:swapsWithSole [.Subscript o i pos'] value pos.line X.env=pure false:=by rfl) (hw:swappedStores [.Subscript o i pos'] value X.env=pure none:=by rfl)
  (h1:(assignEach [.Subscript o i pos'] X.env).map (·.2)=[assign (.Subscript o i pos') X.env]:=by rfl):VS X Ex (.Assign [.Subscript o i pos'] value pos) (gU kG di dv):=⟨by
 refine PS.imp (Gz hv.out (MQ ho.out hi.out (set_list.or (set_dict (by omega))) ha) hs hw h1) fun D σ H hh=>?_
 obtain⟨ι,S,M,ρ,aF,sl,w⟩:=hh
 refine⟨ι,S,M,ρ,aF,sl,fz.res (Rp:=fb X.K) sl w fun ι1 S1 M1 H1 y u e1 s1 r1 w1=>?_⟩
 refine⟨ι1,S1,M1,ρ,s1,sl.mono e1,fz.res (Rp:=fb X.K) (sl.mono e1) w1 fun ι2 S2 M2 H2 x v e2 s2 r2 w2=>?_⟩
 refine⟨ι2,S2,M2,ρ,s2,sl.mono (e1.trans e2),fz.res (Rp:=fb X.K) (sl.mono (e1.trans e2)) w2 fun ι3 S3 M3 H3 k kv e3 s3 r3 w3=>?_⟩
 cases e4:vn x k y M3 with
 | none=>rw[e4] at w3; exact w3.elim
 | some M4 =>
  rw[e4] at w3
  exact HA s3 (aJ.mono e3 r2) r3 (aJ.mono (e2.trans e3) r1) e4 fun H' s' e'=>w3 _ _ _ σ e' s' ((sl.mono (e1.trans (e2.trans e3))).mono e')⟩
end
end L2
end
section
namespace L2
open PySem PySem.Spec PyProof.Rows
noncomputable def bools:List PV->Option (List Bool)
 | []=>some []
 | .bl b::r=>(bools r).map (b::·)
 | _::_=>none
theorem xI {K:Fg} {ι:List Addr} {S:Hp}:∀{xs:List PV} {vs:List V} {bs:List Bool},aO K ι S xs vs->bools xs=some bs->vs=bs.map V.bl
 | [],vs,bs,r,e=>by rw[aO] at r; subst r; cases e; rfl
 | x::xs,vs,bs,r,e=>by
  obtain⟨v,r',rfl,h1,h2⟩:=r.jk
  cases x with
  | bl b =>
   rw[bools] at e
   cases e2:bools xs with
   | none=>rw[e2] at e; cases e
   | some cs =>
    rw[e2] at e
    cases e
    rw[zC,xI h2 e2,aJ.cz.mp h1]
  | _=>cases e
theorem rR {α:Type} (f:α->Bool) (xs:List α):bools (xs.map fun x=>.bl (f x))=some (xs.map f):=by
 induction xs with
 | nil=>rfl
 | cons x xs ih=>rw[zC,bools,ih]; rfl
section
variable {X:Cx} {Ex:St->XK} {a b c e o:Expr} {es:List Expr} {da db dc d kG:DE} {ds:List DE} {pos pos' apos cI:Pos}
noncomputable def Yd:D1:=fun xs M=>match xs with
 | [x]=>match (iJ M x).bind bools with
  | some bs=>.ok (.bl (bs.all id)) M
  | none=>.bad
 | _=>.bad
noncomputable def KQ:D1:=fun xs M=>match xs with
 | [x]=>match (iJ M x).bind bools with
  | some bs=>.ok (.bl (bs.any id)) M
  | none=>.bad
 | _=>.bad
theorem HB {bs:List Bool} {bg:List Value} (rv:Vals (bs.map V.bl) bg) (i:Nat) (v:Value) (h:bg.toArray[i]? = some v):v=.bool (bs.getD i false):=by
 have h':bg[i]? = some v:=by simpa using h
 have hl:=rv.length
 rw[zK] at hl
 have hi:i<bs.length:=by rw[hl]; exact(List.getElem?_eq_some_iff.mp h').1
 obtain⟨u,h1,h2⟩:=rv.get (i:=i) (x:=.bl bs[i]) (by rw[zJ,List.getElem?_eq_getElem hi]; rfl)
 rw[h'] at h1
 cases h1
 rw[List.getD_eq_getElem?_getD,List.getElem?_eq_getElem hi]
 exact h2
theorem E4 {bs:List Bool}:(List.range bs.length).any (fun i=>bs.getD i false)=bs.any id:=by
 induction bs with
 | nil=>rfl
 | cons b bs ih =>
  rw[zE,List.range_succ_eq_map,List.any_cons,List.any_map,List.any_cons,← ih]
  rfl
theorem NX {X:Cx} {pins:List (Addr×Obj)} {σ:St} {H:Hp} {s:Shared} {l:Addr} {bs:List Bool} (I:Inv X pins σ H s) (hc:X.calm=true) (eH:H l=some (.lst (bs.map V.bl))) {f:String} {k:Bool} {Q:VK}
  (call:∀{Q:Value->Shared->Prop},wpAny (model X.prog X.w) X.A.in1 (pyIter (.ref l)) (fun it s₂=>∃I fp wr n P St tr,it=.ref I/\PySem.Walks X.prog X.w X.A.in1 I fp wr n P St/\St 0 s₂.heap/\TruthOf X.prog X.w X.A.in1 P tr ∧
   n=bs.length/\tr=(fun i=>bs.getD i false)/\∀h' tk,(∀b o,b∉wr->s₂.heap.get? b=some o->h'.get? b=some o)->Q (.bool k) { s₂ with heap:=h',toks:=tk }) X.xe s →
   wpAny (model X.prog X.w) X.A (call (.builtin f) [.ref l]) Q X.xe s) (q:Q (.bl k) H):wpAny (model X.prog X.w) X.A (PySem.call (.builtin f) [.ref l]) (EP X pins σ Q) X.xe s:=by
 obtain⟨bg,rv,pl,hz⟩:=I.list (.of eH)
 refine call (wpAny_pyIter_list pl.isList ?_)
 have fE:l≠s.heap.objs.size:=by
  obtain⟨o,n,ho,_⟩:=pl
  exact Nat.ne_of_lt (Heap.lt_size ho)
 have hlen:bg.toArray.size=bs.length:=by have:=rv.length; simp at this; simp[this]
 refine⟨s.heap.objs.size,_,_,_,_,_,fun i=>bs.getD i false,rfl,PySem.Walks.list (A:=X.A.in1) (I.ok.hd hc) s.heap.objs.size l fE bg.toArray,⟨⟨_,Heap.get?_push_size _ rfl,rfl,rfl⟩,pl.isList.at fun o e=>Heap.get?_push_of_some _ e⟩,?_,hlen,rfl,fun h' tk hk=>?_⟩
 ·intro i v s2 Q' E' hP hQ
  have:=HB rv i v hP
  subst this
  exact wpAny_truthy_bool hQ
 ·refine⟨.bl k,H,?_,rfl,q⟩
  refine I.kept (t':=tk) fun b o e=>hk b o ?_ (Heap.get?_push_of_some _ e)
  intro hb
  have:b=s.heap.objs.size:=by simpa using hb
  exact Nat.ne_of_lt (Heap.lt_size e) this
theorem E5 (hc:X.calm=true):dQ X (.builtin "any") (rC X.K KQ):=by
 intro pins s σ H xs us Q I rs h
 obtain⟨E,ι,S,M,ys,aF,r,w⟩:=h
 unfold KQ at w
 split at w
 ·split at w
  ·rename_i x bs hb
   obtain⟨v,rfl,r1⟩:=r.gB
   obtain⟨u,rfl,ru⟩:=vals1 rs
   obtain⟨zs,h1,h2⟩:=Option.bind_eq_some_iff.mp hb
   obtain⟨l,vs,rfl,eH,rr⟩:=fy aF r1 h1
   cases ru
   rw[xI rr h2] at eH
   refine NX I hc eH (fun {Q} h=>call_any_walk (wpAny_mono h (fun it s2 ⟨I1,fp,wr,n,P,St,tr,e1,e2,e3,e4,e5,e6,e7⟩=>⟨I1,fp,wr,n,P,St,tr,e1,e2,e3,e4,fun h' tk hk=>?_⟩) fun _ _ z=>z)) (w ι S H _ .refl aF (aJ.cz.mpr rfl))
   subst e5 e6
   rw[E4]
   exact e7 h' tk hk
  ·exact w.elim
 ·exact w.elim
noncomputable def tyP (M:aP):PV->Option String
 | .aN=>some "NoneType"
 | .bl _=>some "bool"
 | .int _=>some "int"
 | .str _=>some "str"
 | .lst _=>some "list"
 | .tup _=>some "tuple"
 | .mh _=>none
 | .obj n=>match M[n]? with
  | some (.lst _)=>some "list"
  | some (.bR _)=>some "dict"
  | some (.Ce _)=>some "dict"
  | _=>none
theorem KR {K:Fg} {ι:List Addr} {S H:Hp} {M:aP} {x:PV} {v:V} {t:String} (aF:br K ι S M H) (r:aJ K ι S x v) (h:tyP M x=some t):qd K H v (.type t):=by
 cases x with
 | aN=>cases aJ.ib.mp r; cases h; exact .aN
 | bl b=>cases aJ.cz.mp r; cases h; exact .bl b
 | int i=>cases aJ.aX.mp r; cases h; exact .int i
 | str z=>cases aJ.mQ.mp r; cases h; exact .str z
 | lst xs=>obtain⟨p,vs,rfl,e,q⟩:=aJ.jx.mp r; cases h; exact .lst (aF.sub _ _ e)
 | tup xs=>obtain⟨p,vs,rfl,e,q⟩:=aJ.dm.mp r; cases h; exact .tup (aF.sub _ _ e)
 | mh xs=>cases h
 | obj n =>
  obtain⟨p,rfl,e⟩:=aJ.cA.mp r
  obtain⟨o,eM,q⟩:=aF.addr e
  simp only[tyP,eM] at h
  cases o with
  | lst xs=>cases h; obtain⟨_,vs,e,q⟩:=q; exact .lst e
  | bR xs=>cases h; obtain⟨_,vs,e,q⟩:=q; exact .dK e
  | Ce xs=>cases h; obtain⟨_,vs,e,q⟩:=q; exact .dT e
  | _=>cases h
noncomputable def HC (t c:String):Option Bool :=
 if ["NoneType","bool","int","str","list","tuple","dict"].contains t && ["bool","int","list","tuple"].contains c then some (t == c || (t == "bool" && c == "int")) else none
noncomputable def Cn (c:String) (d:DE):DE:=fun ρ M=>(d ρ M).bind fun x M1=>match (tyP M1 x).bind (HC · c) with
 | some k=>.ok (.bl k) M1
 | none=>.bad
theorem QN {K:Fg} {t c:String} {k:Bool} (h:HC t c=some k):PySem.W.kitOne K (.type t) (.type c)=some k:=by
 unfold HC at h
 split at h
 ·rename_i hc
  simp only[Bool.and_eq_true,List.contains_iff_mem,List.mem_cons,List.not_mem_nil,or_false] at hc
  obtain⟨h1,h2⟩:=hc
  rcases h1 with rfl | rfl | rfl | rfl | rfl | rfl | rfl<;>rcases h2 with rfl | rfl | rfl | rfl<;>(cases h; with_unfolding_all rfl)
 ·cases h
theorem HD (T:String) {x:Str} {p q:Pos} (ha:VE X Ex a da) (KS:X.mg "isinstance" = none) (NY:X.mg x=none) (UJ:bootBuiltins x=some (.type T)) (KU:Gl X "isinstance" := by rfl) (O2:Gl X x:=by rfl)
  (hn:x ≠ "__name__" := by decide) (hd:(x == ("__debug__" : Str))=false:=by decide)
  (he:starEach [a,.Name x q] X.env=(false,eval a X.env)::starEach [.Name x q] X.env:=by rfl) (mI:(backTo pos (starEach [.Name x q] X.env)).any (·.1)=false:=by rfl) :
  VE X Ex (.Call (.Name "isinstance" p) [a,.Name x q] [] pos) (Cn T da):=⟨by
 have A1:PA X [a,.Name x q] (sP (tG X.K (fb X.K) Ex da) (sP (tC (.ty T)) Eu)):=jw ha.out (jw (C3 O2 NY UJ (v:=.ty T) rfl hn hd) pF) he
 have hc:dQ X (.builtin "isinstance") (fun vs H Q=>∃v t k,vs=[v,.ty T]/\qd X.K H v (.type t)/\HC t T=some k/\Q (.bl k) H):=by
  intro pins s σ H xs us Q I r h
  obtain⟨v,t,k,rfl,ty,ek,q⟩:=h
  obtain⟨u,w',rfl,r1,r2⟩:=vals2 r
  cases r2
  exact Es I r1 ty (QN ek) fun tk=>⟨.bl k,H,I.tok _,rfl,q⟩
 refine PE.imp (qe hc KU KS (by decide +kernel) A1 (by decide) (by decide) he mI) fun σ H Q h=>?_
 obtain⟨ι,S,M,ρ,aF,sl,w⟩:=h
 refine⟨ι,S,M,ρ,aF,sl,bH.bind (Rp:=fb X.K) w fun ι1 S1 M1 H1 y v e1 s1 r1 w1=>?_⟩
 cases e2:(tyP M1 y).bind (HC · T) with
 | none=>rw[e2] at w1; exact w1.elim
 | some k =>
  rw[e2] at w1
  obtain⟨t,h1,h2⟩:=Option.bind_eq_some_iff.mp e2
  exact⟨v,t,k,rfl,KR s1 r1 h1,h2,w1 ι1 S1 H1 _ .refl s1 (aJ.cz.mpr rfl)⟩⟩
end
end L2
end
section
namespace L2
open PySem PySem.Spec PyProof.Rows
noncomputable def QO:List PV->Option (List Int)
 | []=>some []
 | .int i::r=>(QO r).map (i::·)
 | _::_=>none
section
variable {X:Cx} {Ex:St->XK} {a:Expr} {da:DE} {pos:Pos}
theorem AB:bootBuiltins "bool" = some (.type "bool"):=by decide +kernel
noncomputable def mr:DE:=fun _ M=>.ok (.obj M.length) (M++[.bR []])
theorem oO:VE X Ex (.Dict [] [] pos) mr:=⟨PE.imp GK fun σ H Q h p hp=>by
 obtain⟨ι,S,M,ρ,aF,sl,w⟩:=h
 obtain⟨s1,x1⟩:=aF.new (u:=.dK []) (o:=.bR []) hp ⟨aF.pJ hp,[],if_pos rfl,.nil⟩
 exact w _ _ _ _ x1 s1 (aJ.cA.mpr ⟨p,rfl,by rw[← aF.len,List.getElem?_append_right (Nat.le_refl _)]; simp⟩)⟩
end
end L2
end
section
namespace L2
open PySem PySem.Spec PyProof.Rows
noncomputable def wD (x:PV) (M:aP):Option (Nat×List (Key×PV)):=match x with
 | .obj n=>match M[n]? with
  | some (.bR kvs)=>some (n,kvs)
  | _=>none
 | _=>none
theorem jz {n:Nat} {M:aP} {kvs:List (Key×PV)} (h:M[n]? = some (.bR kvs)):wD (.obj n) M=some (n,kvs):=by simp[wD,h]
theorem oP {K:Fg} {ι:List Addr} {S H:Hp} {M:aP} {x:PV} {v:V} {n:Nat} {kvs:List (Key×PV)} (aF:br K ι S M H) (r:aJ K ι S x v) (h:wD x M=some (n,kvs)) :
  ∃a bz,v=.ref a/\ι[n]? = some a/\H a=some (.dK bz)/\S a=none/\cg K ι S kvs bz/\x=.obj n:=by
 cases x with
 | obj m =>
  obtain⟨p,rfl,ei⟩:=aJ.cA.mp r
  obtain⟨o,eM,q⟩:=aF.addr ei
  simp only[wD,eM] at h
  cases o with
  | bR xs =>
   cases h
   obtain⟨hS,bz,eH,rk⟩:=q
   exact⟨p,bz,rfl,ei,eH,hS,rk,rfl⟩
  | _=>cases h
 | _=>cases h
section
variable {X:Cx} {Ex:St->XK} {a b c e f o:Expr} {es:List Expr} {da db dc d kG dk dx:DE} {ds:List DE} {pos pos' apos cI:Pos}
noncomputable def rS (kG dk:DE):DE:=fun ρ M=>(kG ρ M).bind fun x M1=>match wD x M1 with
 | some _=>(dk ρ M1).bind fun y M2=>match wD x M2,kF y with
  | some (_,kvs),some k=>.ok ((iK kvs k).getD .aN) M2
  | _,_=>.bad
 | none=>.bad
noncomputable def pN (kG dk:DE):DE:=fun ρ M=>(kG ρ M).bind fun x M1=>match wD x M1 with
 | some _=>(dk ρ M1).bind fun y M2=>match wD x M2,kF y with
  | some (n,kvs),some k=>match iK kvs k with
   | some v=>.ok v (M2.set n (.bR (vi kvs k)))
   | none=>.bad
  | _,_=>.bad
 | none=>.bad
theorem HE {K:Fg} {ι:List Addr} {S H:Hp} {M:aP} {x:PV} {v:V} {q:Nat×List (Key×PV)} (aF:br K ι S M H) (r:aJ K ι S x v) (h:wD x M=some q):∃p,v=.ref p/\Qf H p:=by
 obtain⟨p,bz,rfl,_,eH,_⟩:=oP aF r h
 exact⟨p,rfl,.inl ⟨bz,.inl eH⟩⟩
theorem KW {K:Fg} {ι:List Addr} {S H:Hp} {M:aP} {n:Nat} {p:Addr} {ys:List (Key×PV)} {us:List (Key×V)} (aF:br K ι S M H) (hi:ι[n]? = some p) (hS:S p=none) (r:cg K ι S ys us):br K ι S (M.set n (.bR ys)) (upd H p (.dK us))/\Ext ι S H ι S (upd H p (.dK us)) :=
 aF.put hi hS ⟨hS,us,aU,r⟩
theorem AD (hu:X.A.units+64<cLine) (ho:VE X Ex o kG) (he:VE X Ex e dk) (m:M1 X o "get" apos e cI:=by exact⟨rfl,rfl,rfl,rfl⟩):VE X Ex (.Call (.Attribute o "get" apos) [e] [] cI) (rS kG dk):=⟨by
 refine PE.imp (GO (by omega) ho.out he.out m) fun σ H Q h=>?_
 obtain⟨ι,S,M,ρ,aF,sl,w⟩:=h
 refine⟨ι,S,M,ρ,aF,sl,bH.bind (Rp:=fb X.K) w fun ι1 S1 M1 H1 x v e1 s1 r1 w1=>?_⟩
 cases q1:wD x M1 with
 | none=>rw[q1] at w1; exact w1.elim
 | some q =>
  rw[q1] at w1
  obtain⟨p,rfl,hd⟩:=HE s1 r1 q1
  refine⟨p,rfl,hd,ι1,S1,M1,ρ,s1,sl.mono e1,bH.bind (Rp:=fb X.K) w1 fun ι2 S2 M2 H2 y u e2 s2 r2 w2=>?_⟩
  cases q2:wD x M2 with
  | none=>rw[q2] at w2; exact w2.elim
  | some nk =>
   obtain⟨n,kvs⟩:=nk
   cases q3:kF y with
   | none=>rw[q2,q3] at w2; exact w2.elim
   | some k =>
    rw[q2,q3] at w2
    obtain⟨p',bz,ep,ei,eH,hS,rk,_⟩:=oP s2 (aJ.mono e2 r1) q2
    cases ep
    have ek:=mm r2 q3
    subst ek
    refine⟨_,.k eH,?_⟩
    dsimp only at w2
    rcases rk.val k with⟨z1,z2⟩ | ⟨x',v',z1,z2,rr⟩
    ·rw[z1] at w2
     rw[z2]
     exact w2 ι2 S2 H2 _ .refl s2 (aJ.ib.mpr rfl)
    ·rw[z1] at w2
     rw[z2]
     exact w2 ι2 S2 H2 _ .refl s2 rr⟩
theorem qy (hu:X.A.units+64<cLine) (ho:VE X Ex o kG) (he:VE X Ex e dk) (m:M1 X o "pop" apos e cI:=by exact⟨rfl,rfl,rfl,rfl⟩):VE X Ex (.Call (.Attribute o "pop" apos) [e] [] cI) (pN kG dk):=⟨by
 refine PE.imp (GP ho.out he.out m) fun σ H Q h=>?_
 obtain⟨ι,S,M,ρ,aF,sl,w⟩:=h
 refine⟨ι,S,M,ρ,aF,sl,bH.bind (Rp:=fb X.K) w fun ι1 S1 M1 H1 x v e1 s1 r1 w1=>?_⟩
 cases q1:wD x M1 with
 | none=>rw[q1] at w1; exact w1.elim
 | some q =>
  rw[q1] at w1
  obtain⟨p,rfl,hd⟩:=HE s1 r1 q1
  refine⟨p,rfl,hd,ι1,S1,M1,ρ,s1,sl.mono e1,bH.bind (Rp:=fb X.K) w1 fun ι2 S2 M2 H2 y u e2 s2 r2 w2=>?_⟩
  cases q2:wD x M2 with
  | none=>rw[q2] at w2; exact w2.elim
  | some nk =>
   obtain⟨n,kvs⟩:=nk
   cases q3:kF y with
   | none=>rw[q2,q3] at w2; exact w2.elim
   | some k =>
    rw[q2,q3] at w2
    obtain⟨p',bz,ep,ei,eH,hS,rk,_⟩:=oP s2 (aJ.mono e2 r1) q2
    cases ep
    have ek:=mm r2 q3
    subst ek
    dsimp only at w2
    rcases rk.val k with⟨z1,z2⟩ | ⟨x',v',z1,z2,rr⟩
    ·rw[z1] at w2; exact w2.elim
    ·rw[z1] at w2
     refine⟨bz,k,v',eH,rfl,z2,?_⟩
     obtain⟨s4,x4⟩:=KW s2 ei hS (rk.drop k)
     exact w2 ι2 S2 _ _ x4 s4 rr⟩
end
end L2
end
section
namespace L2
open PySem PySem.Spec PyProof.Rows
theorem br.NZ {K:Fg} {ι:List Addr} {S H:Hp} {M:aP} {p:Addr} {u:HO} (s:br K ι S M H) (hp:p∉ι) (hS:S p=none):br K ι S M (upd H p u):=by
 refine⟨fun b o q=>?_,s.len,s.nd,fun n a o h1 h2=>?_⟩
 ·rw[az (bf q hS)]; exact s.sub b o q
 ·have fE:a≠p:=fun z=>hp (z ▸ List.mem_of_getElem? h1)
  exact(s.ob n a o h1 h2).up ⟨fun _ _ h=>h,jf.refl S⟩ (fun z=>z) (az fE)
theorem qz:∀(more kvs:List (Key×V)),(kvs.map (·.1)++more.map (·.1)).Nodup->mP kvs more=kvs++more
 | [],kvs,_=>by simp[mP]
 | p::r,kvs,h=>by
  have h1:¬(kvs.any fun kv=>decide (kv.1=p.1))=true:=by
   rw[List.any_eq_true]
   rintro⟨q,hq,e⟩
   rw[List.nodup_append] at h
   exact h.2.2 q.1 (List.mem_map_of_mem hq) p.1 (by simp) (of_decide_eq_true e)
  have h2:mP kvs (p::r)=mP (putK kvs p.1 p.2) r:=rfl
  rw[h2,putK,if_neg h1,qz r _ (by simpa using h)]
  simp
section
variable {X:Cx} {Ex:St->XK} {v:Expr} {d:DE} {pos p kp:Pos} {keys:List (Option Expr)} {values:List Expr} {sY:List (Str×DE)}
noncomputable abbrev cn (x:Str):Key:=Sum.inr x
noncomputable def E6 (sY:List (Str×DE)):DE:=fun ρ M=>(eR (sY.map (·.2)) ρ M).bind fun xs M1=>.ok (.obj M1.length) (M1++[.bR ((sY.map fun q=>cn q.1).zip xs)])
structure VP (X:Cx) (Ex:St->XK) (pos:Pos) (keys:List (Option Expr)) (values:List Expr) (sY:List (Str×DE)):Prop where
 out:Qd X pos keys values (sY.map fun q=>(tC (.str q.1),tG X.K (fb X.K) Ex q.2))
theorem HF:VP X Ex pos [] [] []:=⟨Ke⟩
theorem lG {k:Str} {j} (hv:VE X Ex v d) (hr:VP X Ex pos keys values sY):VP X Ex pos (some (.Constant (.str k) j kp)::keys) (v::values) ((k,d)::sY):=⟨GL Gv hv.out hr.out⟩
theorem DF {K:Fg} {ρ:dX} {σ:St}:∀(sY:List (Str×DE)) {ι:List Addr} {S H:Hp} {M:aP} {Q:List (V×V)->Hp->Prop},br K ι S M H->Slots K ι S ρ σ →
  bH K (Ui K) (Ex σ) ι S H (fun vs H'=>Q ((sY.map fun q=>V.str q.1).zip vs) H') (eR (sY.map (·.2)) ρ M)->yi (sY.map fun q=>(tC (.str q.1),tG K (fb K) Ex q.2)) σ H Q
 | [],ι,S,H,M,Q,aF,sl,w=>w ι S H [] .refl aF .nil
 | (k,d)::r,ι,S,H,M,Q,aF,sl,w=>by
  refine⟨ι,S,M,ρ,aF,sl,bH.bind (Rp:=fb K) w fun ι1 S1 M1 H1 x v e1 s1 r1 w1=>?_⟩
  refine DF r s1 (sl.mono e1) (bH.bind (Rp:=Ui K) w1 fun ι2 S2 M2 H2 xs vs e2 s2 r2 w2=>?_)
  exact w2 ι2 S2 H2 (v::vs) .refl s2 (.cons (aJ.mono e2 r1) r2)
theorem DH {K:Fg} {ι:List Addr} {S:Hp}:∀{ks:List Key} {xs:List PV} {vs:List V},aO K ι S xs vs->cg K ι S (ks.zip xs) (ks.zip vs)
 | [],xs,vs,_=>.nil
 | k::ks,[],vs,h=>by rw[aO] at h; subst h; exact .nil
 | k::ks,x::xs,vs,h=>by
  obtain⟨v,r,rfl,h1,h2⟩:=h.jk
  exact .cons ⟨rfl,h1⟩ (DH h2)
theorem HG (h:VP X Ex pos keys values sY) (GN:keys.all (·.isSome)=true:=by rfl) (hl:keys.length=values.length:=by rfl) (h0:keys≠[]:=by exact List.cons_ne_nil _ _) (TN:keys.length≤15:=by exact Nat.le_of_ble_eq_true rfl) (hk:sY.length≤15:=by exact Nat.le_of_ble_eq_true rfl)
  (hn:(sY.map fun q=>cn q.1).Nodup:=by decide +kernel):VE X Ex (.Dict keys values pos) (E6 sY):=⟨by
 refine PE.imp (Kf h.out GN hl h0 TN) fun σ H Q hh a ha=>?_
 obtain⟨ι,S,M,ρ,aF,sl,w⟩:=hh
 obtain⟨s0,x0⟩:=aF.side (o:=.dK []) ha
 have Ye:=aF.fresh ha
 have Yg:=aF.pJ ha
 refine DF sY s0 sl ?_
 unfold E6 at w
 cases ed:eR (sY.map (·.2)) ρ M with
 | bad=>rw[ed] at w; exact w.elim
 | exc c M2=>rw[ed] at w; exact fun ι2 S2 H2 e2 s2=>w ι2 S2 H2 (x0.trans e2) s2
 | ok xs M2 =>
  rw[ed] at w
  intro ι2 S2 H2 vs e2 s2 r2
  obtain⟨f1,f2,f3⟩:=e2.fr a _ aU Ye Yg
  have hlen:∀(sY:List (Str×DE)) (vs:List V),(sY.map fun q=>V.str q.1).zip vs=((sY.map fun q=>cn q.1).zip vs).map fun kv=>(kV kv.1,kv.2):=by
   intro sY
   induction sY with
   | nil=>intro vs; rfl
   | cons q r ih =>
    intro vs
    cases vs with
    | nil=>rfl
    | cons v vs=>simp only[zC,List.zip_cons_cons,ih vs]; rfl
  have UK:∀(ks:List Key) (vs:List V),((ks.zip vs).map (·.1)).Sublist ks:=by
   intro ks
   induction ks with
   | nil=>intro vs; exact List.Sublist.slnil
   | cons k r ih =>
    intro vs
    cases vs with
    | nil=>exact List.nil_sublist _
    | cons v vs=>exact(ih vs).cons₂ k
  refine⟨f1,(sY.map fun q=>cn q.1).zip vs,hlen sY vs,?_,?_⟩
  ·rw[List.length_zip,zK]
   omega
  ·have zU:(((sY.map fun q=>cn q.1).zip vs).map (·.1)).Nodup:=hn.sublist (UK _ _)
   rw[qz _ _ (by simpa using zU),zH]
   have s3:br X.K ι2 S2 M2 (upd H2 a (.dK ((sY.map fun q=>cn q.1).zip vs))):=s2.NZ f2 f3
   have e3:=x0.trans e2
   have Nx:ι.length≤ι2.length:=by have:=e3.pre; rw[← this]; simp; omega
   refine w (ι2++[a]) S2 _ _ ⟨⟨fun n b hb=>(Up.push (S:=S2) a).ix n b (e3.ix n b hb),e3.sm⟩,?_,fun b u q1 q2 q3=>?_⟩ (s3.enter f2 ⟨f3,_,aU,DH r2⟩) (aJ.cA.mpr ⟨a,rfl,by rw[← s2.len]; simp⟩)
   ·rw[List.take_append_of_le_length Nx]; exact e3.pre
   ·obtain⟨k1,k2,k3⟩:=e3.fr b u q1 q2 q3
    have hb:b≠a:=fun z=>by rw[z,ha] at q1; cases q1
    exact⟨by rw[az hb]; exact k1,by simp[k2,hb],k3⟩⟩
end
end L2
end
section
namespace L2
open PySem PySem.Spec PySem.Calls PyProof.Rows PySem.W Builtin Builtin.ObjectAttr Builtin.Getset_descriptor
theorem AE:entryFor table "BaseException.__getattribute__" = some Builtin.«object.__getattribute__» :=
 entryFor_alias (id' := "object.__getattribute__") (by kernel_rfl) (by first | rfl | decide +kernel) (by decide +kernel) (by kernel_rfl)
theorem AF:plainId "BaseException.__getattribute__" = true:=by decide +kernel
theorem AG:splitId "BaseException.__getattribute__" = some ("BaseException","__getattribute__"):=by decide +kernel
theorem vo:builtinKind "BaseException.__getattribute__" = some .slot:=by decide +kernel
theorem Co (self:Value):bindSpecial (.builtin "BaseException.__getattribute__") self=pure (.builtin "BaseException.__getattribute__",[self]):=by
 have h1:withoutEnding? "BaseException.__getattribute__" "#opaque" = none:=by decide +kernel
 have h2:withoutEnding? "BaseException.__getattribute__" "#data" = none:=by decide +kernel
 simp only[bindSpecial,typeOf,builtinType,h1,h2,vo]; rfl
structure AH (K:Fg) (C:Addr):Prop where
 ga:PySem.W.findIn K (.ref C) "__getattribute__" = some (some (.builtin "BaseException.__getattribute__"))
 gt:PySem.W.findIn K (.ref C) "__getattr__" = some none
 cl:PySem.W.findIn K (.ref C) "__class__" = some (some (.builtin "object.__class__"))
 gn:PySem.W.specialIn K (.builtin "object.__class__") "__get__" = some (some (.builtin "getset_descriptor.__get__"))
 tk:PySem.W.takesIn K (.builtin "object.__class__")=some true
 mo:PySem.W.mroIn K C (.type "object")=some true
 mb:PySem.W.mroIn K C (.type "BaseException")=some true
 ci:(PySem.W.clsIn K C).isSome=true
section
variable {K:Fg} {C e:Addr} {prog:Program} {w:World} {A:Around} {E:Value->Shared->Prop} {s:Shared}
theorem wO (X:AH K C) {M:Model} {h:Heap} (KX:K.In h):Looks M h (ObjectAttr.find (.ref e) (.ref C) "__class__") (.bind (.builtin "getset_descriptor.__get__") (.builtin "object.__class__")):=by
 have L1:=looks_findIn (M:=M) KX X.cl
 have L2:=looks_specialIn (M:=M) KX X.gn
 have L3:=looks_takesIn (M:=M) KX X.tk
 exact L1.andThen (L2.andThen ((show Looks M h (dataDescriptor? (some (.builtin "object.__class__")) (some (.builtin "getset_descriptor.__get__"))) (some (.builtin "getset_descriptor.__get__",.builtin "object.__class__")) from L3.andThen .now).andThen (Looks.tag .now)))
theorem Cp (X:AH K C) (KX:K.In s.heap) (LT:∀M,Looks M s.heap (typeOf (.ref e)) (.ref C)) {tp:Value} {R:Result->Shared->Prop} (h:R (.ok (.ret (.ref C))) s) :
  codeAny (model prog w) A (.call (.builtin "getset_descriptor.__get__") ⟨[.builtin "object.__class__",.ref e,tp],[]⟩) R s:=by
 obtain⟨hh,g,dr,t,os⟩:=s
 have L0:=LT (model prog w)
 have L1:=looks_mroIn (M:=model prog w) KX X.mo
 refine codeAny_call_builtin KF.slot_gs.plain KF.entry_gs (KF.slot_gs.check _ _ _ _ _ _ _ _ KF.type_class (KF.args_gs _ _ _) ?_)
 unfold Builtin.«getset_descriptor.__get__» descrGet
 rw[dga_obj]
 refine wpAny_bind (wpAny_pure ?_)
 unfold descrGetter descrCheckInstance descrNameAndClass isInstance
 simp only[KF.owner_class]
 repeat lk
 refine⟨Code.quiet_builtin _ (by decide +kernel),codeAny_builtin KF.entry_class ?_⟩
 unfold Builtin.«object.__class__» shownTypeOf
 repeat lk
 exact h
theorem E7 (a b:Value):argsOk "BaseException.__getattribute__" ⟨[a,b],[]⟩:=by
 unfold argsOk
 kernel_rfl
theorem E8 (X:AH K C) (KX:K.In s.heap) (LT:∀M,Looks M s.heap (typeOf (.ref e)) (.ref C)) {b:Value} {Q:Unit->Shared->Prop} (h:Q () s) :
  wpAny (model prog w) A (checkBuiltinCall "BaseException.__getattribute__" ⟨[.ref e,b],[]⟩) Q E s:=by
 obtain⟨hh,g,dr,t,os⟩:=s
 have L0:=LT (model prog w)
 have L1:=looks_mroIn (M:=model prog w) KX X.mb
 have LI:Looks (model prog w) hh (isInstance (.ref e) (.type "BaseException")) true:=L0.andThen L1
 simp only[checkBuiltinCall,vo,AG]
 refine wpAny_bind (LI.at ?_)
 simp only[Bool.not_true,Bool.false_eq_true,if_false]
 have ha:=E7 (.ref e) b
 cases UL:Manifest.signature? "BaseException.__getattribute__" with
 | none=>exact wpAny_pure h
 | some sig =>
  simp only[argsOk,UL] at ha
  have h2:Bind.checkArgs "BaseException.__getattribute__" sig ⟨[.ref e,b],[]⟩=pure ():=ha
  show wpAny _ _ (Bind.checkArgs "BaseException.__getattribute__" sig ⟨[.ref e,b],[]⟩) Q E _
  rw[h2]
  exact wpAny_pure h
theorem E9 (X:AH K C) (KX:K.In s.heap) (LT:∀M,Looks M s.heap (typeOf (.ref e)) (.ref C)) {Q:Option Value->Shared->Prop} (h:Q (some (.ref C)) { s with toks:=s.toks+1 }) :
  wpAny (model prog w) A (getAttr? (.ref e) "__class__") Q E s:=by
 obtain⟨hh,g,dr,t,os⟩:=s
 have L0:=LT (model prog w)
 have L1:=looks_findIn (M:=model prog w) KX X.ga
 have L2:=looks_findIn (M:=model prog w) KX X.gt
 have L3:=wO (e:=e) X (M:=model prog w) KX
 unfold getAttr? getAttrBy? getAttrBy
 refine wpAny_bind (wpAny_mkText (wpAny_bind (wpAny_attempt (wpAny_holding (wpAny_bind (L0.at (wpAny_bind (L1.at ?_))))))))
 dsimp only
 rw[if_neg (by
  have:(Value.builtin "BaseException.__getattribute__" == Value.builtin "object.__getattribute__")=false:=by decide
  rw[this,Bool.and_false]
  exact Bool.false_ne_true)]
 unfold getAttrByItsOwn hookBefore
 refine wpAny_bind ?_
 rw[if_pos (show onTheHeap (.ref C)=true from rfl)]
 refine L2.at ?_
 refine wpAny_bind (wpAny_attempt (wpAny_holding ?_))
 unfold callGetattribute boundAndCalled
 rw[if_neg (by decide),Co]
 refine wpAny_bind (wpAny_pure ?_)
 dsimp only
 refine wpAny_call (codeAny_call_builtin AF AE (E8 (s:=⟨hh,g,dr,t+1,os⟩) X KX LT ?_))
 unfold Builtin.«object.__getattribute__»
 refine wpAny_bind (m:=slotArgs "__getattribute__" 1 _) (wpAny_pure ?_)
 dsimp only
 refine wpAny_bind (m:=attrName _) (wpAny_pure ?_)
 refine wpAny_bind (L0.at ?_)
 refine wpAny_bind (L3.at ?_)
 dsimp only
 show wpAny _ _ (holding [Value.builtin "object.__class__"] (call (.builtin "getset_descriptor.__get__") [.builtin "object.__class__",.ref e,.ref C]) >>= ret) _ _ _
 refine wpAny_bind (wpAny_holding (wpAny_call (Cp (s:=⟨hh,g,dr,t+1,os⟩) X KX LT ?_)))
 refine wpAny_pure ?_
 show wpAny _ _ (handedOut (.ref C)) _ _ _
 exact wpAny_pure (wpAny_pure h)
theorem AI (X:AH K C):KitX K (.ref e) (.ref C) (fun h=>∃ob vs,h.get? e=some ob/\ob.cls=.ref C/\ob.data=.fields vs) where
 ty:=fun _ _ _ ⟨ob,vs,h1,h2,_⟩=>h2 ▸ (Looks.ld h1).andThen .now
 it:=fun _ _ KX _=>by
  have hc:=X.ci
  unfold clsIn at hc
  split at hc
  ·rename_i c' d' Yh Gd ho
   intro A' Q' E' s' k q
   unfold isType loadHead
   exact wpAny_bind (wpAny_loadPart (k _ _ (KX _ _ ho)) (wpAny_pure q))
  ·cases hc
 ne:=fun h tp dd bg n sl KX Yi=>by
  have hc:=X.ci
  refine Bool.eq_false_iff.mpr fun q=>?_
  have e:C=tp:=Value.ref.inj (beq_iff_eq.mp q)
  subst e
  unfold clsIn at hc
  split at hc
  ·rename_i c' d' Yh Gd ho
   have z:=(KX _ _ ho).symm.trans Yi
   cases z
  ·cases hc
 ca:=fun KX ⟨ob,vs,h1,h2,_⟩ k=>E9 X KX (fun _=>h2 ▸ (Looks.ld h1).andThen .now) k
end
end L2
end
section
namespace L2
open PySem PySem.Spec PyProof.Rows
section
variable {X:Cx} {Ex:St->XK} {a:Expr} {da:DE} {pos:Pos}
noncomputable def qA (nO:List (Addr×Bool)) (d:DE):DE:=fun ρ M=>(d ρ M).bind fun x M1=>match x with
 | .obj n=>match M1[n]? with
  | some (.exc C)=>match nO.lookup C with
   | some k=>.ok (.bl k) M1
   | none=>.bad
  | _=>.bad
 | _=>.bad
theorem HH {X:Cx} {pins:List (Addr×Obj)} {σ:St} {H:Hp} {s:Shared} {p C:Addr} (I:Inv X pins σ H s) (h:H p=some (yp p C)):∃ob vs,s.heap.get? p=some ob/\ob.cls=.ref C/\ob.data=.fields vs :=
 (show(∃ob vs,s.heap.get? p=some ob/\ob.cls=.ref C/\ob.data=.fields vs)/\_ from I.bO p _ h).1
structure Fa (K:Fg) (T:Value) (nO:List (Addr×Bool)):Prop where
 all:∀C k,nO.lookup C=some k->AH K C/\PySem.W.kitOne K (.ref C) T=some k
theorem sZ {T:V} {x:Str} {p q:Pos} {u:Value} {nO:List (Addr×Bool)} (ht:RelV T u) (hT:Fa X.K u nO) (hu:∀u',RelV T u'->u'=u) (h2:PE X (.Name x q) (tC T)) (ha:VE X Ex a da) (KS:X.mg "isinstance" = none) (KU:Gl X "isinstance")
  (he:starEach [a,.Name x q] X.env=(false,eval a X.env)::starEach [.Name x q] X.env) (mI:(backTo pos (starEach [.Name x q] X.env)).any (·.1)=false) :
  VE X Ex (.Call (.Name "isinstance" p) [a,.Name x q] [] pos) (qA nO da):=⟨by
 have A1:PA X [a,.Name x q] (sP (tG X.K (fb X.K) Ex da) (sP (tC T) Eu)):=jw ha.out (jw h2 pF) he
 have hc:dQ X (.builtin "isinstance") (fun vs H Q=>∃e C k,vs=[.ref e,T]/\H e=some (yp e C)/\nO.lookup C=some k/\Q (.bl k) H):=by
  intro pins s σ H xs us Q I r h
  obtain⟨e,C,k,rfl,eH,ek,q⟩:=h
  obtain⟨u1,w',rfl,r1,r2⟩:=vals2 r
  cases r1
  rw[hu _ r2]
  obtain⟨h1,h2⟩:=hT.all C k ek
  exact PySem.W.kia_one (AI h1) I.qa (HH I eH) h2 (fun z=>nomatch z) fun tk=>⟨.bl k,H,I.tok _,rfl,q⟩
 refine PE.imp (qe hc KU KS (by decide +kernel) A1 (by decide) (by decide) he mI) fun σ H Q h=>?_
 obtain⟨ι,S,M,ρ,aF,sl,w⟩:=h
 refine⟨ι,S,M,ρ,aF,sl,bH.bind (Rp:=fb X.K) w fun ι1 S1 M1 H1 y v e1 s1 r1 w1=>?_⟩
 cases y with
 | obj n =>
  obtain⟨p,rfl,ei⟩:=aJ.cA.mp r1
  obtain⟨o,eM,q⟩:=s1.addr ei
  simp only[eM] at w1
  cases o with
  | exc C =>
   dsimp only at w1
   split at w1
   ·rename_i k hk
    exact⟨p,C,k,rfl,q.2,hk,w1 ι1 S1 H1 _ .refl s1 (aJ.cz.mpr rfl)⟩
   ·exact w1.elim
  | _=>exact w1.elim
 | _=>exact w1.elim⟩
theorem HI {x:Str} {D:Addr} {p q:Pos} (nO:List (Addr×Bool)) (hT:Fa X.K (.ref D) nO) (ha:VE X Ex a da) (KS:X.mg "isinstance" = none) (NY:X.mg x=some (.ref D)) (KU:Gl X "isinstance" := by rfl) (O2:Gl X x:=by rfl) (hd:(x == ("__debug__" : Str))=false:=by decide)
  (he:starEach [a,.Name x q] X.env=(false,eval a X.env)::starEach [.Name x q] X.env:=by rfl) (mI:(backTo pos (starEach [.Name x q] X.env)).any (·.1)=false:=by rfl) :
  VE X Ex (.Call (.Name "isinstance" p) [a,.Name x q] [] pos) (qA nO da) :=
 sZ (T:=.ref D) rfl hT (fun _ h=>h) (ye O2 NY rfl hd) ha KS KU he mI
theorem KY {x:Str} {T:String} {p q:Pos} (nO:List (Addr×Bool)) (hT:Fa X.K (.type T) nO) (ha:VE X Ex a da) (KS:X.mg "isinstance" = none) (NY:X.mg x=none) (UJ:bootBuiltins x=some (.type T)) (KU:Gl X "isinstance" := by rfl) (O2:Gl X x:=by rfl)
  (hn:x ≠ "__name__" := by decide) (hd:(x == ("__debug__" : Str))=false:=by decide)
  (he:starEach [a,.Name x q] X.env=(false,eval a X.env)::starEach [.Name x q] X.env:=by rfl) (mI:(backTo pos (starEach [.Name x q] X.env)).any (·.1)=false:=by rfl) :
  VE X Ex (.Call (.Name "isinstance" p) [a,.Name x q] [] pos) (qA nO da) :=
 sZ (T:=.ty T) rfl hT (fun _ h=>h) (C3 O2 NY UJ (v:=.ty T) rfl hn hd) ha KS KU he mI
structure QP (K:Fg) (Ds:List Addr) (nO:List (Addr×Bool)):Prop where
 all:∀C k,nO.lookup C=some k->AH K C/\PySem.W.kitAny K (.ref C) (Ds.map Value.ref)=some k
theorem KZ {es:List Expr} {Ds:List Addr} {k:Nat} {p q:Pos} (nO:List (Addr×Bool)) (hT:QP X.K Ds nO) (ha:VE X Ex a da) (KS:X.mg "isinstance" = none) (h2:PA X es (fun σ H Q=>Q (Ds.map V.ref) H)) (hl:Ds.length≤100:=by exact Nat.le_of_ble_eq_true rfl) (KU:Gl X "isinstance" := by rfl)
  (he:starEach [a,.Tuple es k q] X.env=(false,eval a X.env)::starEach [.Tuple es k q] X.env:=by rfl) (Mf:starEach [.Tuple es k q] X.env=(false,eval (.Tuple es k q) X.env)::starEach [] X.env:=by rfl) (mI:(backTo pos (starEach [.Tuple es k q] X.env)).any (·.1)=false:=by rfl) :
  VE X Ex (.Call (.Name "isinstance" p) [a,.Tuple es k q] [] pos) (qA nO da):=⟨by
 have A1:PA X [a,.Tuple es k q] (sP (tG X.K (fb X.K) Ex da) (sP (PU fun σ H Q=>Q (Ds.map V.ref) H) Eu)):=jw ha.out (jw (GJ h2) pF Mf) he
 have hc:dQ X (.builtin "isinstance") (fun vs H Q=>∃e C k t,vs=[.ref e,.ref t]/\H e=some (yp e C)/\H t=some (.tup (Ds.map V.ref))/\nO.lookup C=some k/\Q (.bl k) H):=by
  intro pins s σ H xs us Q I r h
  obtain⟨e,C,k,t,rfl,eH,et,ek,q⟩:=h
  obtain⟨u1,w',rfl,r1,r2⟩:=vals2 r
  cases r1
  cases r2
  obtain⟨h1,h2⟩:=hT.all C k ek
  obtain⟨_,bg,rv,z⟩:=(show dt X.prog X.w H s.heap t (.tup (Ds.map V.ref)) from I.bO t _ et)
  have hits:∀(Ds:List Addr) (bg:List Value),Vals (Ds.map V.ref) bg->bg=Ds.map Value.ref:=by
   intro Ds
   induction Ds with
   | nil=>intro bg r; cases r; rfl
   | cons d Ds ih=>intro bg r; cases r with | cons h t=>cases h; rw[ih _ t]; rfl
  rw[hits Ds bg rv] at z
  obtain⟨o,z1,z2,z3⟩:=z
  obtain⟨n,z3⟩:=z3
  obtain⟨oc,od,ZA,Kc⟩:=o
  dsimp only at z2 z3
  subst z2 z3
  exact PySem.W.kia_tup (AI h1) I.qa (HH I eH) z1 h2 (fun z=>nomatch z) fun tk=>⟨.bl k,H,I.tok _,rfl,q⟩
 refine PE.imp (qe hc KU KS (by decide +kernel) A1 (by decide) (by decide) he mI) fun σ H Q h=>?_
 obtain⟨ι,S,M,ρ,aF,sl,w⟩:=h
 refine⟨ι,S,M,ρ,aF,sl,bH.bind (Rp:=fb X.K) w fun ι1 S1 M1 H1 y v e1 s1 r1 w1=>?_⟩
 cases y with
 | obj n =>
  obtain⟨p,rfl,ei⟩:=aJ.cA.mp r1
  obtain⟨o,eM,q⟩:=s1.addr ei
  simp only[eM] at w1
  cases o with
  | exc C =>
   dsimp only at w1
   split at w1
   ·rename_i k hk
    refine⟨by rw[zK]; exact Nat.le_trans hl (by decide),fun t ht=>?_⟩
    obtain⟨s2,x2⟩:=s1.side (o:=.tup (Ds.map V.ref)) ht
    have fE:p≠t:=fun z=>by rw[← z,q.2] at ht; cases ht
    exact⟨p,C,k,t,rfl,by rw[az fE]; exact q.2,aU,hk,w1 ι1 S1 _ _ x2 s2 (aJ.cz.mpr rfl)⟩
   ·exact w1.elim
  | _=>exact w1.elim
 | _=>exact w1.elim⟩
end
end L2
end
section
namespace L2
open PySem PySem.Spec PyProof.Rows
section
variable {X:Cx} {Ex:St->XK}
noncomputable def HJ (X:Cx) (es:List Expr) (Ds:List Addr):Prop:=PA X es (fun σ H Q=>Q (Ds.map V.ref) H)
theorem N0:HJ X [] []:=pF
theorem DJ {x:Str} {D:Addr} {es:List Expr} {Ds:List Addr} {q:Pos} (hm:X.mg x=some (.ref D)) (h:HJ X es Ds) (hg:Gl X x:=by rfl) (hd:(x == ("__debug__" : Str))=false:=by decide) (he:starEach (.Name x q::es) X.env=(false,eval (.Name x q) X.env)::starEach es X.env:=by rfl):HJ X (.Name x q::es) (D::Ds) :=
 jw (ye hg hm (v:=.ref D) rfl hd) h he
theorem vp:bootBuiltins "ValueError" = some (.type "ValueError"):=by decide +kernel
noncomputable def Cq (cs:List Addr) (iy iN:Nat) (s1:DS):DS:=fun ρ M=>match s1 ρ M with
 | .exc c ρ' M'=>if cs.contains c=true then .nx ((ρ'.set iy (some (.obj M'.length))).set iN none) (M'++[.exc c]) else .bad
 | o=>o
theorem Slots.unset {K:Fg} {ι:List Addr} {S:Hp} {ρ:dX} {σ:St} (s:Slots K ι S ρ σ) (i:Nat):Slots K ι S (ρ.set i none) (σ.set i none):=by
 refine⟨by simp[s.1],fun j x h=>?_⟩
 by_cases e:i=j
 ·subst e
  rw[List.getElem?_set_self'] at h
  cases q:ρ[i]? with
  | none=>rw[q] at h; cases h
  | some z=>rw[q] at h; cases h
 ·rw[List.getElem?_set_ne e] at h ⊢
  exact s.2 j x h
structure Catch (K:Fg) (mg:Str->Option Value) (x:Str) (Cb:Addr) (cs:List Addr):Prop where
 name:mg x=some (.ref Cb)
 all:∀c∈cs,PySem.W.exmOne K (.ref c) (.ref Cb)=some true
theorem N1 {x n y:Str} {Cb:Addr} {cs:List Addr} (iy iN:Nat) {body:List Stmt} {np py OY apos Kt pos:Pos} {s1:DS} (G:Good0 X Ex) (hC:Catch X.K X.mg x Cb cs)
  (hb:∀(pn:List (Addr×Obj)) (Et:Value->Shared->Prop) (Ex:St->XK),Good0 (X.tr pn Et) Ex->BL (X.tr pn Et) Ex body s1)
  (wI:X.stack=X.env::X.outer:=by rfl) (Ks:X.env.frame=some X.env.locals:=by rfl) (hx:Gl X x:=by rfl) (hy:X.N[iy]? = some y:=by rfl) (ly:X.env.scope.names.lookup y=some .local := by rfl) (hn:X.N[iN]? = some n:=by rfl) (ln:X.env.scope.names.lookup n=some .local := by rfl)
  (G8:swapsWith (.Name n OY) (some (.Name y py)) apos.line X.env=pure false:=by rfl) (Qv:(x == ("__debug__" : Str))=false:=by decide) (Ue:(n == ("__debug__" : Str))=false:=by decide) :
  VS X Ex (.Try body [.ExceptHandler (some (.Name x np)) (some n) [.Assign [.Name y py] (.Name n OY) apos] Kt] [] [] pos) (Cq cs iy iN s1):=⟨by
 refine PS.imp (NL (P:=X.prog) (w:=X.w) (tb:=fun Ex=>tS X.K Ex s1) rfl rfl wI Ks G.calm G.nd hx hC.name hy ly hn ln (fun pn Et Yj hp=>(hb pn Et Yj ⟨G.hu,G.calm,hp,G.nd⟩).out) G8 Qv Ue) fun D σ H h=>?_
 obtain⟨ι,S,M,ρ,aF,sl,w⟩:=h
 refine⟨ι,S,M,ρ,aF,sl,?_⟩
 unfold Cq at w
 cases e:s1 ρ M with
 | exc c ρ' M' =>
  rw[e] at w
  dsimp only at w
  split at w
  ·rename_i hc
   intro ι1 S1 H1 σ1 e1 UM QQ
   refine⟨c,rfl,hC.all c (by simpa using hc),fun a ha=>?_⟩
   obtain⟨s2,x2⟩:=UM.new (u:=yp a c) (o:=.exc c) ha ⟨UM.pJ ha,aU⟩
   refine w _ _ _ _ (e1.trans x2) s2 (Slots.unset (Slots.set (QQ.mono x2) (aJ.cA.mpr ⟨a,rfl,by rw[← UM.len]; simp⟩) iy) iN)
  ·exact w.elim
 | nx ρ' M'=>rw[e] at w; exact w
 | rt y M'=>rw[e] at w; exact w
 | bk ρ' M'=>rw[e] at w; exact w
 | ct ρ' M'=>rw[e] at w; exact w
 | bad=>rw[e] at w; exact w⟩
end
end L2
end
section
namespace L2
open PySem PySem.Spec PyProof.Rows
noncomputable def less (S:Hp) (a:Addr):Hp:=fun b=>if b=a then none else S b
theorem lH {S:Hp} {a b:Addr} (h:b≠a):less S a b=S b:=if_neg h
theorem xJ {S:Hp} {a:Addr}:less S a a=none:=if_pos rfl
theorem HK {S:Hp} {a b:Addr} {u:HO} (h:less S a b=some u):S b=some u:=by
 unfold less at h
 split at h
 ·cases h
 ·exact h
section
variable {K:Fg} {ι:List Addr} {S:Hp} {a:Addr} {ob:Obj} {bz:List (Key×V)}
theorem nK.less {p:Addr} {vs:List V} (ha:S a=some (.ig ob (.dK bz))) (q:nK K S p vs):nK K (less S a) p vs:=by
 rcases q with(q | ⟨o,q⟩) | q
 ·have fE:p≠a:=fun z=>by rw[z,ha] at q; cases q
  exact .inl (.inl (by rw[lH fE]; exact q))
 ·have fE:p≠a:=fun z=>by rw[z,ha] at q; cases q
  exact .inl (.inr ⟨o,by rw[lH fE]; exact q⟩)
 ·exact .inr q
mutual
theorem aJ.less (ha:S a=some (.ig ob (.dK bz))):∀(x:PV) (v:V),aJ K ι S x v->aJ K ι (less S a) x v
 | .aN,v,h=>by simpa[aJ] using h
 | .bl b,v,h=>by simpa[aJ] using h
 | .int i,v,h=>by simpa[aJ] using h
 | .str x,v,h=>by simpa[aJ] using h
 | .lst xs,v,h=>by
  rw[aJ] at h ⊢
  obtain⟨p,vs,e,q,r⟩:=h
  have fE:p≠a:=fun z=>by rw[z,ha] at q; cases q
  exact⟨p,vs,e,by rw[lH fE]; exact q,aO.less ha xs vs r⟩
 | .tup xs,v,h=>by
  rw[aJ] at h ⊢
  obtain⟨p,vs,e,q,r⟩:=h
  have fE:p≠a:=fun z=>by rw[z,ha] at q; cases q
  exact⟨p,vs,e,by rw[lH fE]; exact q,aO.less ha xs vs r⟩
 | .obj n,v,h=>by
  rw[aJ] at h ⊢
  exact h
 | .mh ns,v,h=>by
  rw[aJ] at h ⊢
  obtain⟨p,e,q⟩:=h
  exact⟨p,e,q.less ha⟩
theorem aO.less (ha:S a=some (.ig ob (.dK bz))):∀(xs:List PV) (vs:List V),aO K ι S xs vs->aO K ι (less S a) xs vs
 | [],vs,h=>by simpa[aO] using h
 | x::xs,vs,h=>by
  rw[aO] at h ⊢
  obtain⟨v,r,e,h1,h2⟩:=h
  exact⟨v,r,e,aJ.less ha x v h1,aO.less ha xs r h2⟩
end
theorem cg.less {κ:Type} {kvs:List (κ×PV)} {Wk:List (κ×V)} (ha:S a=some (.ig ob (.dK bz))) (h:cg K ι S kvs Wk):cg K ι (less S a) kvs Wk:=by
 induction h with
 | nil=>exact .nil
 | cons r t ih=>exact .cons ⟨r.1,aJ.less ha _ _ r.2⟩ ih
theorem mR.wQ {H:Hp} {b:Addr} {o:MO} (ha:S a=some (.ig ob (.dK bz))) (hb:b≠a) (h:mR K ι S H b o):mR K ι (L2.less S a) (upd H a (.dK bz)) b o:=by
 have hn:S b=none->L2.less S a b=none:=fun z=>by rw[lH hb]; exact z
 have hu:upd H a (.dK bz) b=H b:=az hb
 cases o with
 | gone=>obtain⟨u,q⟩:=h; exact⟨u,hu.trans q⟩
 | lst xs=>obtain⟨z,vs,q,r⟩:=h; exact⟨hn z,vs,hu.trans q,aO.less ha _ _ r⟩
 | bR xs=>obtain⟨z,vs,q,r⟩:=h; exact⟨hn z,vs,hu.trans q,r.less ha⟩
 | Ce xs=>obtain⟨z,vs,q,r⟩:=h; exact⟨hn z,vs,hu.trans q,r.less ha⟩
 | sU xs=>obtain⟨Ud,vs,z,q,r⟩:=h; exact⟨Ud,vs,by rw[lH hb]; exact z,hu.trans q,r.less ha⟩
 | ins C fs=>obtain⟨z,dx,vs,q,r⟩:=h; exact⟨hn z,dx,vs,hu.trans q,r.less ha⟩
 | exc C=>obtain⟨z,q⟩:=h; exact⟨hn z,hu.trans q⟩
theorem br.wQ {M:aP} {H:Hp} {n:Nat} {kvs:List (Key×PV)} (s:br K ι S M H) (hi:ι[n]? = some a) (hM:M[n]? = some (.sU kvs)) :
  ∃ob bz,S a=some (.ig ob (.dK bz))/\H a=some (.ig ob (.dK bz))/\br K ι (L2.less S a) (M.set n (.bR kvs)) (upd H a (.dK bz)):=by
 obtain⟨ob,bz,hS,hH,r⟩:=s.ob n a _ hi hM
 refine⟨ob,bz,hS,hH,fun b u q=>?_,by simp[s.len],s.nd,fun m b o h1 h2=>?_⟩
 ·have hb:b≠a:=fun z=>by rw[z,xJ] at q; cases q
  rw[az hb]
  exact s.sub b u (HK q)
 ·by_cases hm:n=m
  ·subst hm
   rw[hi] at h1
   cases h1
   have hl:n<M.length:=(List.getElem?_eq_some_iff.mp hM).1
   rw[List.getElem?_set_self hl] at h2
   cases h2
   exact⟨xJ,bz,aU,r.less hS⟩
  ·rw[List.getElem?_set_ne hm] at h2
   have fE:b≠a:=fun z=>hm (s.inj hi (z ▸ h1))
   exact(s.ob m b o h1 h2).wQ hS fE
theorem Slots.less {ρ:dX} {σ:St} (ha:S a=some (.ig ob (.dK bz))) (s:Slots K ι S ρ σ):Slots K ι (L2.less S a) ρ σ:=⟨s.1,fun i x h=>by
 obtain⟨v,h1,h2⟩:=s.2 i x h
 exact⟨v,h1,aJ.less ha _ _ h2⟩⟩
theorem Ext.wQ {ι0:List Addr} {S0 H0 H:Hp} {n:Nat} (e:Ext ι0 S0 H0 ι S H) (hi:ι0[n]? = some a) (h0:S0 a=none):Ext ι0 S0 H0 ι (L2.less S a) (upd H a (.dK bz)):=by
 refine⟨⟨e.ix,fun b u q=>?_⟩,e.pre,fun b u q1 q2 q3=>?_⟩
 ·rw[lH (bf q h0)]
  exact e.sm b u q
 ·obtain⟨k1,k2,k3⟩:=e.fr b u q1 q2 q3
  have hb:b≠a:=fun z=>q2 (z ▸ List.mem_of_getElem? hi)
  exact⟨by rw[az hb]; exact k1,k2,by rw[lH hb]; exact k3⟩
theorem br.AJ {M:aP} {H:Hp} {n:Nat} {kvs:List (Key×PV)} (s:br K ι S M H) (hi:ι[n]? = some a) (hM:M[n]? = some (.bR kvs)) (ob:Obj) :
  ∃bz,S a=none/\H a=some (.dK bz)/\cg K ι S kvs bz/\br K ι (upd S a (.ig ob (.dK bz))) (M.set n (.sU kvs)) (upd H a (.ig ob (.dK bz)))/\Ext ι S H ι (upd S a (.ig ob (.dK bz))) (upd H a (.ig ob (.dK bz))):=by
 obtain⟨hS,bz,hH,r⟩:=s.ob n a _ hi hM
 have sm:jf S (upd S a (.ig ob (.dK bz))):=fun b u q=>by rw[az (bf q hS)]; exact q
 have up:Up ι S ι (upd S a (.ig ob (.dK bz))):=⟨fun _ _ h=>h,sm⟩
 refine⟨bz,hS,hH,r,⟨fun b u q=>?_,by simp[s.len],s.nd,fun m b o h1 h2=>?_⟩,up,List.take_length,fun b u q1 q2 q3=>?_⟩
 ·by_cases hb:b=a
  ·subst hb; rw[aU] at q ⊢; exact q
  ·rw[az hb] at q ⊢; exact s.sub b u q
 ·by_cases hm:n=m
  ·subst hm
   rw[hi] at h1
   cases h1
   have hl:n<M.length:=(List.getElem?_eq_some_iff.mp hM).1
   rw[List.getElem?_set_self hl] at h2
   cases h2
   exact⟨ob,bz,aU,aU,r.up up⟩
  ·rw[List.getElem?_set_ne hm] at h2
   have fE:b≠a:=fun z=>hm (s.inj hi (z ▸ h1))
   exact(s.ob m b o h1 h2).up up (fun z=>by rw[az fE]; exact z) (az fE)
 ·have fE:b≠a:=fun z=>q2 (z ▸ List.mem_of_getElem? hi)
  exact⟨by rw[az fE]; exact q1,q2,by rw[az fE]; exact q3⟩
end
section
variable {X:Cx} {pins:List (Addr×Obj)} {σ:St} {H:Hp} {s:Shared} {a:Addr} {ob:Obj} {u:HO}
theorem Inv.wQ (I:Inv X pins σ H s) (h:H a=some (.ig ob u)) (hm:∀o v,X.H₀ a≠some (.ig o v)):Inv X pins σ (upd H a u) s:=by
 have fE:∀b,H b=none->b≠a:=fun b q z=>by rw[z,h] at q; cases q
 refine⟨I.ok,I.os,I.bare,⟨I.base.keep,I.base.slot,fun b o q n hx=>?_,I.base.there,fun b xs q=>?_,fun b o v q=>?_,fun b ps q=>?_⟩,I.loc,I.cell,?_,fun x c q=>?_,fun p hp=>?_,fun b o q=>?_,I.len⟩
 ·have:=I.base.free b o q n hx
  rw[az (fE b this)]; exact this
 ·have:=I.base.lr b xs q
  have hb:b≠a:=fun z=>by rw[z,h] at this; cases this
  rw[az hb]; exact this
 ·have hb:b≠a:=fun z=>by rw[z] at q; exact hm o v q
  rw[az hb]; exact I.base.j8 b o v q
 ·obtain⟨m,e⟩:=I.base.lu b ps q
  have hb:b≠a:=fun z=>by rw[z,h] at e; cases e
  exact⟨m,by rw[az hb]; exact e⟩
 ·rw[az (fE _ I.free)]; exact I.free
 ·rw[az (fE _ (I.j0 x c q))]; exact I.j0 x c q
 ·obtain⟨e,n,r⟩:=I.pin p hp
  exact⟨e,by rw[az (fE _ n)]; exact n,r⟩
 ·have ho:∀c x,H c=some (.own x)->upd H a u c=some (.own x):=fun c x z=>by rw[az (fun y=>by rw[y,h] at z; cases z)]; exact z
  have ht:∀c xs,H c=some (.tup xs)->upd H a u c=some (.tup xs):=fun c xs z=>by rw[az (fun y=>by rw[y,h] at z; cases z)]; exact z
  by_cases hb:b=a
  ·subst hb
   rw[aU] at q
   cases q
   exact(show s.heap.get? b=some ob/\dt X.prog X.w H s.heap b u from I.bO b _ h).2.p9 (fun _ _ _ z=>z) (fun c z=>ho c _ z) ht
  ·rw[az hb] at q
   exact(I.bO b o q).p9 (fun _ _ _ z=>z) (fun c z=>ho c _ z) ht
theorem Inv.AJ {o:Obj} (I:Inv X pins σ H s) (h:H a=some u) (ho:s.heap.get? a=some o) (h1:∀xs,u≠.tup xs) (h2:∀x,u≠.own x) (h3:∀ps,u≠.nO ps) (h4:∀o' v,u≠.ig o' v):Inv X pins σ (upd H a (.ig o u)) s:=by
 have fE:∀b,H b=none->b≠a:=fun b q z=>by rw[z,h] at q; cases q
 have QR:∀{b v},H b=some v->v≠u->b≠a:=fun {b v} q n z=>by rw[z,h] at q; cases q; exact n rfl
 refine⟨I.ok,I.os,I.bare,⟨I.base.keep,I.base.slot,fun b o q n hx=>?_,I.base.there,fun b xs q=>?_,fun b o v q=>?_,fun b ps q=>?_⟩,I.loc,I.cell,?_,fun x c q=>?_,fun p hp=>?_,fun b o' q=>?_,I.len⟩
 ·have:=I.base.free b o q n hx
  rw[az (fE b this)]; exact this
 ·have:=I.base.lr b xs q
  rw[az (QR this (fun z=>h1 xs z.symm))]; exact this
 ·have:=I.base.j8 b o v q
  rw[az (QR this (fun z=>h4 o v z.symm))]; exact this
 ·obtain⟨m,e⟩:=I.base.lu b ps q
  exact⟨m,by rw[az (QR e (fun z=>h3 _ z.symm))]; exact e⟩
 ·rw[az (fE _ I.free)]; exact I.free
 ·rw[az (fE _ (I.j0 x c q))]; exact I.j0 x c q
 ·obtain⟨e,n,r⟩:=I.pin p hp
  exact⟨e,by rw[az (fE _ n)]; exact n,r⟩
 ·have C1:∀c x,H c=some (.own x)->upd H a (.ig o u) c=some (.own x):=fun c x z=>by rw[az (QR z (fun y=>h2 x y.symm))]; exact z
  have ht:∀c xs,H c=some (.tup xs)->upd H a (.ig o u) c=some (.tup xs):=fun c xs z=>by rw[az (QR z (fun y=>h1 xs y.symm))]; exact z
  by_cases hb:b=a
  ·subst hb
   rw[aU] at q
   cases q
   exact⟨ho,(I.bO b _ h).p9 (fun _ _ _ z=>z) (fun c z=>C1 c _ z) ht⟩
  ·rw[az hb] at q
   exact(I.bO b o' q).p9 (fun _ _ _ z=>z) (fun c z=>C1 c _ z) ht
end
end L2
end
section
namespace L2
open PySem PySem.Spec PyProof.Rows
noncomputable def Wl (a:Addr) (ob:Obj):It :=
 ⟨fun i H=>∃bz k v,H a=some (.ig ob (.dK bz))/\bz[i]? = some (k,v),fun i H x H'=>H'=H/\∀bz k v,H a=some (.ig ob (.dK bz))->bz[i]? = some (k,v)->x=kV k,fun i H=>∃bz,H a=some (.ig ob (.dK bz))/\bz.length≤i⟩
theorem KV.get {bz:List (Key×V)} {vs:List (Key×Value)} (h:KV bz vs) {i:Nat} {k:Key} {v:V} (e:bz[i]? = some (k,v)):∃u,vs[i]? = some (k,u)/\RelV v u:=by
 induction h generalizing i with
 | nil=>simp at e
 | cons r t ih =>
  rename_i p q xs ys
  cases i with
  | zero =>
   simp only[zA,Option.some.injEq] at e
   subst e
   obtain⟨q1,q2⟩:=q
   obtain⟨rfl,r2⟩:=r
   exact⟨q2,rfl,r2⟩
  | succ i =>
   simp only[zB] at e ⊢
   exact ih e
theorem KV.len {bz:List (Key×V)} {vs:List (Key×Value)} (h:KV bz vs):bz.length=vs.length:=Paired.length h
theorem yz {P:Program} {w:World} {H:Hp} {h:Heap} {a:Addr} {ob:Obj} {bz:List (Key×V)} {es:Array DictEntry} {ep:Nat} (ok:mM P w H h) (e:H a=some (.ig ob (.dK bz))) (Mg:ob.data=.dict es ep) :
  (a == sysModules)=false/\∃vs,KV bz vs/\h.DictAt (cf P w) a vs ep/\vs.length=es.size:=by
 obtain⟨h1,_,hs,vs,kv,o,RY,RZ,ho,hx,hd,hr⟩:=(show h.get? a=some ob/\dt P w H h a (.dK bz) from ok a _ e)
 rw[h1] at ho
 cases ho
 rw[Mg] at hd
 cases hd
 refine⟨hs,vs,kv,⟨ob,es,h1,hx,Mg,hr⟩,?_⟩
 have:=hr.2.1.length
 simpa using this.symm
theorem Fb {P:Program} {w:World} {K:Fg} {tg:Expr} (a it:Addr) {ob:Obj} {es:Array DictEntry} {ep:Nat} (Mg:ob.data=.dict es ep):Turn P w K tg (Wl a ob) [it] it (fun i h=>h.IsKeyIter it a i es.size ep) where
 mem:=by simp
 obj:=fun i h st b hb=>by
  have e:b=it:=by simpa using hb
  subst e
  obtain⟨o,e,c,d⟩:=st
  exact⟨o,e,fun v z=>by rw[d] at z; cases z⟩
 keep:=fun i h h' st k=>by
  obtain⟨o,e,r⟩:=st
  exact⟨o,k it (by simp) o e,r⟩
 item:=by
  intro X hP hw hK hc i pins s σ H E I hf st hg
  subst hP hw hK
  obtain⟨bz,k,v,eH,hx⟩:=hg
  obtain⟨hs,vs,kv,da,hl⟩:=yz I.bO eH Mg
  obtain⟨u,hu,ru⟩:=kv.get hx
  obtain⟨f0,f1,f2,f3,f4,f5⟩:=hf it (by simp)
  rw[← hl] at st
  refine wpAny_pyNext_dict_item st da hu fun key h' hk Ge sb=>?_
  have I1:Inv X pins σ H { s with heap:=h' }:=I.turned (t':=s.toks) (fun b o hb e=>(sb.2 b hb).trans e) f0 f1 f3 f4 f5
  obtain⟨o,e,c,d⟩:=id Ge
  have rk:RelV (kV k) key:=by
   rcases cJ (show p8 k key=true from hk) with⟨i,t,rfl,rfl⟩ | ⟨x,t,rfl,rfl⟩<;>exact⟨t,rfl⟩
  rw[hl] at Ge
  exact⟨key,rfl,C5 (s:={ s with heap:=h' }) e c d (by decide) ⟨kV k,H,I1,rk,⟨rfl,fun N2 k' v' e1 e2=>by rw[eH] at e1; cases e1; rw[hx] at e2; cases e2; rfl⟩,Ge,fun b hb=>(hf b hb).1⟩⟩
 done:=by
  intro X hP hw hK hc i pins s σ H E I hf st hg
  subst hP hw hK
  obtain⟨bz,eH,hx⟩:=hg
  obtain⟨hs,vs,kv,da,hl⟩:=yz I.bO eH Mg
  obtain⟨f0,f1,f2,f3,f4,f5⟩:=hf it (by simp)
  rw[← hl] at st
  exact wpAny_pyNext_dict_end (I.ok.hd hc) st da (List.getElem?_eq_none (by rw[← kv.len]; exact hx)) fun h' eb=>⟨rfl,I.turned (t':=s.toks) (fun b o hb e=>eb b o hb e) f0 f1 f3 f4 f5⟩
 self:=fun _ _ _ _ _ st h=>wpAny_pyIter_keyiter st h
section
variable {X:Cx} {Ex:St->XK} {tg l iter e:Expr} {tl:TE} {d:DE} {st:Stmt} {s:DS} {di:DI}
noncomputable def N3 (tl:TE):TI:=fun σ H R=>tl σ H fun x H1=>∃a bz,x=.ref a/\H1 a=some (.dK bz)/\∀ob,R (Wl a ob) (upd H1 a (.ig ob (.dK bz)))
theorem K0 (hl:PE X l tl):PI X tg l (N3 tl):=by
 intro pins s σ H R I h
 refine eh (hl pins s σ H _ I h) fun v s1 ⟨x,H1,I1,r1,q1⟩=>?_
 obtain⟨a,bz,rfl,eH,q⟩:=q1
 cases r1
 obtain⟨hz,hs,vs,kv,o,es,ep,ho,hx,hd,hr⟩:=uX I1.bO eH
 have da:s1.heap.DictAt (cf X.prog X.w) a vs ep:=⟨o,es,ho,hx,hd,hr⟩
 refine wpAny_pyIter_dict hs da ?_
 have fE:a≠s1.heap.objs.size:=Nat.ne_of_lt (Heap.lt_size ho)
 have I2:Inv X pins σ H1 { s1 with heap:=s1.heap.push { cls:=.type "dict_keyiterator",data:=.fields #[.ref a,.int 0 0,.int vs.length 0,.int ep 0] } }:=I1.kept (t':=s1.toks) fun b o e=>Heap.get?_push_of_some _ e
 have I3:=I2.AJ (o:=o) eH (Heap.get?_push_of_some _ ho) (fun _ z=>nomatch z) (fun _ z=>nomatch z) (fun _ z=>nomatch z) (fun _ _ z=>nomatch z)
 have hl:vs.length=es.size:=by have:=hr.2.1.length; simpa using this.symm
 refine⟨s1.heap.objs.size,[s1.heap.objs.size],_,_,_,rfl,I3,Fb a _ hd,⟨_,Heap.get?_push_size _ rfl,rfl,by rw[hl]; rfl⟩,fun b hb=>?_,q o⟩
 have e:b=s1.heap.objs.size:=by simpa using hb
 subst e
 exact I1.BS (Nat.le_refl _) (by rw[az (Ne.symm fE)]; exact I1.bO.fresh (Nat.le_refl _))
noncomputable def Cr:Key->PV
 | .inl i=>.int i
 | .inr x=>.str x
theorem vq {K:Fg} {ι:List Addr} {S:Hp} (k:Key):aJ K ι S (Cr k) (kV k):=by
 cases k with
 | inl i=>exact aJ.aX.mpr rfl
 | inr x=>exact aJ.mQ.mpr rfl
noncomputable def nW (d:DE):DI:=fun ρ M=>(d ρ M).bind fun x M1=>match wD x M1 with
 | some (n,kvs)=>.ok (kvs.map fun q=>Cr q.1,some (n,.sU kvs)) (M1.set n (.sU kvs))
 | none=>.bad
theorem cg.get {K:Fg} {ι:List Addr} {S:Hp} {kvs:List (Key×PV)} {bz:List (Key×V)} (h:cg K ι S kvs bz) {i:Nat} {k:Key} {x:PV} (e:kvs[i]? = some (k,x)):∃v,bz[i]? = some (k,v)/\aJ K ι S x v:=by
 induction h generalizing i with
 | nil=>simp at e
 | cons r t ih =>
  rename_i p q xs ys
  cases i with
  | zero =>
   simp only[zA,Option.some.injEq] at e
   subst e
   obtain⟨q1,q2⟩:=q
   obtain⟨rfl,r2⟩:=r
   exact⟨q2,rfl,r2⟩
  | succ i =>
   simp only[zB] at e ⊢
   exact ih e
theorem yA (h:VE X Ex iter d):VI X Ex tg iter (nW d):=⟨by
 refine PI.imp (K0 h.out) fun σ H R hh=>?_
 obtain⟨ι,S,M,ρ,aF,sl,w⟩:=hh
 refine⟨ι,S,M,ρ,aF,sl,bH.bind (Rp:=fb X.K) w fun ι1 S1 M1 H1 x v e1 s1 r1 w1=>?_⟩
 cases q1:wD x M1 with
 | none=>rw[q1] at w1; exact w1.elim
 | some nk =>
  obtain⟨n,kvs⟩:=nk
  rw[q1] at w1
  obtain⟨a,bz,rfl,ei,eH,hS,rk,rfl⟩:=oP s1 r1 q1
  refine⟨a,bz,rfl,eH,fun ob=>?_⟩
  have eM:M1[n]? = some (.bR kvs):=by
   unfold wD at q1
   dsimp only at q1
   split at q1
   ·rename_i z; cases q1; exact z
   ·cases q1
  obtain⟨N2,Yk,QS,Yl,s2,x2⟩:=s1.AJ ei eM ob
  rw[eH] at QS
  cases QS
  refine w1 ι1 _ _ _ x2 s2 fun i ι' S' M' H' up nH _=>?_
  have eS:S' a=some (.ig ob (.dK bz)):=up.sm a _ aU
  have Hr:H' a=some (.ig ob (.dK bz)):=nH.sub a _ eS
  refine⟨fun y hy=>?_,fun hl=>⟨bz,Hr,by rw[← rk.length]; simpa using hl⟩⟩
  rw[zJ] at hy
  obtain⟨⟨k,z⟩,hk,rfl⟩:=Option.map_eq_some_iff.mp hy
  obtain⟨v,hv,_⟩:=rk.get hk
  refine⟨⟨bz,k,v,Hr,hv⟩,fun u H2 yl=>?_⟩
  obtain⟨rfl,yl⟩:=yl
  rw[yl bz k v Hr hv]
  exact⟨ι',S',.refl,nH,vq k⟩⟩
end
noncomputable def QT (H:Hp) (D:Ends):Ends where
 nx:=fun σ' H'=>∃a ob u,H' a=some (.ig ob u)/\(∀o v,H a≠some (.ig o v))/\D.nx σ' (upd H' a u)
 rt:=fun v H'=>∃a ob u,H' a=some (.ig ob u)/\(∀o v,H a≠some (.ig o v))/\D.rt v (upd H' a u)
theorem HL {X:Cx} {pins:List (Addr×Obj)} {σ:St} {H:Hp} {s:Shared} {a:Addr} (I:Inv X pins σ H s) (h:∀o v,H a≠some (.ig o v)):∀o v,X.H₀ a≠some (.ig o v):=fun o v z=>h o v (I.base.j8 a o v z)
theorem K1 {X:Cx} {st:Stmt} {t:TS} (h:PS X st t):PS X st (fun D σ H=>t (QT H D) σ H):=by
 intro pins s σ H D I q
 refine wpAny_mono (h pins s σ H _ I q) (fun f s1 z=>?_) fun _ _ y=>y
 cases f with
 | next =>
  obtain⟨σ',H',I',a,ob,u,e,nf,z⟩:=z
  exact⟨σ',_,I'.wQ e (HL I nf),z⟩
 | brk=>obtain⟨_,_,_,z⟩:=z; exact z.elim
 | cont=>obtain⟨_,_,_,z⟩:=z; exact z.elim
 | ret v =>
  obtain⟨v',σ',H',I',r,a,ob,u,e,nf,z⟩:=z
  exact⟨v',σ',_,I'.wQ e (HL I nf),r,z⟩
noncomputable def O3 (di:DI) (ρ:dX) (M:aP):Option (Nat×List (Key×PV)):=match di ρ M with
 | .ok r _=>match r.2 with
  | some (n,.sU kvs)=>match M[n]? with
   | some (.bR _)=>some (n,kvs)
   | _=>none
  | _=>none
 | _=>none
open Classical in
noncomputable def AK (n:Nat) (kvs:List (Key×PV)):Out->Out
 | .nx ρ M=>if M[n]? = some (.sU kvs) then .nx ρ (M.set n (.bR kvs)) else .bad
 | .rt x M=>if M[n]? = some (.sU kvs) then .rt x (M.set n (.bR kvs)) else .bad
 | _=>.bad
noncomputable def nX (di:DI) (s:DS):DS:=fun ρ M=>match O3 di ρ M with
 | some (n,kvs)=>AK n kvs (s ρ M)
 | none=>.bad
theorem K2 {di:DI} {ρ:dX} {M:aP} {n:Nat} {kvs:List (Key×PV)} (h:O3 di ρ M=some (n,kvs)):∃UN,M[n]? = some (.bR UN):=by
 unfold O3 at h
 split at h
 ·split at h
  ·split at h
   ·rename_i q; cases h; exact⟨_,q⟩
   ·cases h
  ·cases h
 ·cases h
theorem qB {X:Cx} {Ex:St->XK} {st:Stmt} {s:DS} {di:DI} (h:VS X Ex st s):VS X Ex st (nX di s):=⟨by
 refine PS.imp (K1 h.out) fun D σ H q=>?_
 obtain⟨ι,S,M,ρ,aF,sl,w⟩:=q
 refine⟨ι,S,M,ρ,aF,sl,?_⟩
 unfold nX at w
 cases ez:O3 di ρ M with
 | none=>rw[ez] at w; exact w.elim
 | some nk =>
  obtain⟨n,kvs⟩:=nk
  rw[ez] at w
  dsimp only at w
  obtain⟨Ym,e0⟩:=K2 ez
  obtain⟨a,hi,Ss,Yn,Yo,_⟩:=aF.at e0
  have nf:∀o v,H a≠some (.ig o v):=fun o v z=>by rw[Yo] at z; cases z
  cases es:s ρ M with
  | nx ρ' M' =>
   rw[es] at w
   simp only[AK] at w
   split at w
   ·rename_i hM
    intro ι' S' H' σ' ex nH Gd
    obtain⟨ob,bz,eS,eH,s2⟩:=nH.wQ (ex.ix n a hi) hM
    exact⟨a,ob,_,eH,nf,w ι' _ _ σ' (ex.wQ hi Ss) s2 (Gd.less eS)⟩
   ·exact w.elim
  | rt x M' =>
   rw[es] at w
   simp only[AK] at w
   split at w
   ·rename_i hM
    intro ι' S' H' v ex nH r'
    obtain⟨ob,bz,eS,eH,s2⟩:=nH.wQ (ex.ix n a hi) hM
    exact⟨a,ob,_,eH,nf,w ι' _ _ v (ex.wQ hi Ss) s2 (aJ.less eS _ _ r')⟩
   ·exact w.elim
  | bk ρ' M'=>rw[es] at w; exact w.elim
  | ct ρ' M'=>rw[es] at w; exact w.elim
  | exc c ρ' M'=>rw[es] at w; exact w.elim
  | bad=>rw[es] at w; exact w.elim⟩
end L2
end
section
namespace L2
open PySem PySem.Spec PyProof.Rows
theorem o8:entryFor table "dict_itemiterator.__iter__" = some Builtin.«dict_keyiterator.__iter__» :=
 entryFor_alias (id' := "dict_keyiterator.__iter__") (by kernel_rfl) rfl (by decide +kernel) (by kernel_rfl)
theorem nI {prog:Program} {w:World} {A:Around} {E:Value->Shared->Prop} {s:Shared} {it d:Addr} {i n ep:Nat} {ok ov:Value} {Q:Value->Shared->Prop} (uC:IsItemIter s.heap it d i n ep ok ov) (h:Q (.ref it) s):wpAny (model prog w) A (pyIter (.ref it)) Q E s:=by
 have hT:s.TypeIs (.ref it) "dict_itemiterator" := ⟨_,uC,rfl⟩
 refine wpAny_pyIter_slot hT PySem.F.slot_dict_itemiterator_iter (wpAny_call_entry PySem.F.slot_dict_itemiterator_iter hT o8 ?_ (PySem.F.args_dict_itemiterator_iter_1 _))
 show wpAny _ _ (ret (.ref it)) _ _ s
 exact wpAny_pure ⟨_,rfl,"dict_itemiterator",_,hT,PySem.F.slot_dict_itemiterator_next.lookup,h⟩
noncomputable def Wm (a:Addr) (ob:Obj):It :=
 ⟨fun i H=>∃bz k v,H a=some (.ig ob (.dK bz))/\bz[i]? = some (k,v),fun i H x H'=>∃p,H p=none/\x=.ref p/\∀bz k v,H a=some (.ig ob (.dK bz))->bz[i]? = some (k,v)->H'=upd H p (.tup [kV k,v]),fun i H=>∃bz,H a=some (.ig ob (.dK bz))/\bz.length≤i⟩
theorem Ct {P:Program} {w:World} {K:Fg} {elts:List Expr} {x1} {wJ:Pos} (a it:Addr) {ob:Obj} {es:Array DictEntry} {ep:Nat} (Mg:ob.data=.dict es ep) :
  Turn P w K (.Tuple elts x1 wJ) (Wm a ob) [it] it (fun i h=>∃ok ov,IsItemIter h it a i es.size ep ok ov) where
 mem:=by simp
 obj:=fun i h ⟨ok,ov,st⟩ b hb=>by
  have e:b=it:=by simpa using hb
  subst e
  exact⟨_,st,fun v z=>by cases z⟩
 keep:=fun i h h' ⟨ok,ov,st⟩ k=>⟨ok,ov,k it (by simp) _ st⟩
 item:=by
  intro X hP hw hK hc i pins s σ H E I hf st hg
  subst hP hw hK
  obtain⟨ok,ov,st⟩:=st
  obtain⟨bz,k,v,eH,hx⟩:=hg
  obtain⟨hs,vs,kv,da,hl⟩:=yz I.bO eH Mg
  obtain⟨u,hu,ru⟩:=kv.get hx
  rw[← hl] at st
  have JD:it<s.heap.objs.size:=Heap.lt_size st
  refine wpAny_pyNext_items_item st da hu fun key h1 hk UD UE Gk k1=>⟨_,rfl,wpAny_letOwnedTupleGo_items UD fun h2 Mf UG=>?_⟩
  have Cj:Heap.SameBut it h1 h2:=UG
  have UH:h2.get? s.heap.objs.size=some { cls:=.type "tuple",data:=.seq #[key,u] }:=(Cj.2 _ (Nat.ne_of_gt JD)).trans UE
  have rk:RelV (kV k) key:=by
   rcases cJ (show p8 k key=true from hk) with⟨i,t,rfl,rfl⟩ | ⟨x,t,rfl,rfl⟩<;>exact⟨t,rfl⟩
  have I1:Inv X pins σ (upd H s.heap.objs.size (.tup [kV k,v])) { s with heap:=h2 }:=by
   refine I.Dx (t':=s.toks) (fp:=[it]) hf (fun b o hb q=>?_) (fun b hb=>?_) ?_
   ·have n1:b≠it:=fun z=>hb (by simp[z])
    exact(Cj.2 b n1).trans (k1 b o n1 q)
   ·have eb:b=it:=by simpa using hb
    subst eb
    exact⟨_,Mf⟩
   ·exact⟨by show 2≤sizeLine; rw[sizeLine_eq]; decide,[key,u],.cons rk (.cons ru .nil),⟨_,UH,rfl,_,rfl⟩⟩
  have hp:=I.bO.fresh (Nat.le_refl s.heap.objs.size)
  rw[hl] at Mf
  refine⟨.ref s.heap.objs.size,_,I1,rfl,⟨s.heap.objs.size,hp,rfl,fun N2 k' v' e1 e2=>by rw[eH] at e1; cases e1; rw[hx] at e2; cases e2; rfl⟩,⟨key,u,Mf⟩,fun b hb=>?_⟩
  have eb:b=it:=by simpa using hb
  subst eb
  rw[az (Nat.ne_of_lt JD)]
  exact(hf b hb).1
 done:=by
  intro X hP hw hK hc i pins s σ H E I hf st hg
  subst hP hw hK
  obtain⟨ok,ov,st⟩:=st
  obtain⟨bz,eH,hx⟩:=hg
  obtain⟨hs,vs,kv,da,hl⟩:=yz I.bO eH Mg
  rw[← hl] at st
  exact wpAny_pyNext_items_end (I.ok.hd hc) st da (List.getElem?_eq_none (by rw[← kv.len]; exact hx)) fun h' eb=>⟨rfl,I.Dy (t':=s.toks) (fp:=[it]) hf fun b o hb q=>eb b o (fun z=>hb (by simp[z])) q⟩
 self:=fun _ _ _ _ _ ⟨ok,ov,st⟩ h=>nI st h
section
variable {X:Cx} {Ex:St->XK} {tg o:Expr} {to:TE} {d:DE} {apos cI wJ:Pos} {elts:List Expr} {x1:Nat}
noncomputable def K3 (J:Addr->Obj->It) (tl:TE):TI:=fun σ H R=>tl σ H fun x H1=>∃a bz,x=.ref a/\H1 a=some (.dK bz)/\∀ob,R (J a ob) (upd H1 a (.ig ob (.dK bz)))
theorem HM (ho:PE X o to) (u5:attributeBase o "items" X.env (eval o X.env)=eval o X.env:=by rfl) (u7:(apos.endLine == cI.line)=true:=by rfl):PI X (.Tuple elts x1 wJ) (.Call (.Attribute o "items" apos) [] [] cI) (K3 Wm to):=by
 intro pins s σ H R I h
 refine wpAny_Call_method0_late u5 u7 (eh (ho pins s σ H _ I h) fun v s1 ⟨x,H1,I1,r1,a,bz,ex,eH,q⟩=>?_)
 subst ex
 cases r1
 obtain⟨hz,hs,vs,kv,o,es,ep,ho,hx,hd,hr⟩:=uX I1.bO eH
 have dd:s1.heap.DictOf (cf X.prog X.w) a vs:=⟨o,es,ep,ho,hx,hd,hr⟩
 obtain⟨t1,t2,_⟩:=B7 I1 (.inl ⟨bz,.inl eH⟩)
 refine⟨"dict","dict.items",PySem.F.plainAttrs_dict,PySem.F.slot_dict_items,PySem.F.type_dict_items,t1,t2,Calls.callWith_builtin rfl (PySem.evalArgs_none ?_)⟩
 refine call_meetsIn PySem.F.slot_dict_items t1 PySem.F.entry_dict_items (PySem.F.args_dict_items_1 _) (meets_dict_items (cf X.prog X.w) a hs) ⟨⟨vs,dd⟩,?_⟩
 have da:(s1.heap.push { cls:=.type "dict_items",data:=.fields #[.ref a] }).DictAt (cf X.prog X.w) a vs ep:=⟨o,es,Heap.get?_push_of_some _ ho,hx,hd,hr⟩
 refine wpAny_pyIter_items (v:=s1.heap.objs.size) ⟨_,Heap.get?_push_size _ rfl,rfl,rfl⟩ da ?_
 generalize Wn:s1.heap.push { cls:=.type "dict_items",data:=.fields #[.ref a] }=h1
 have hsz:h1.objs.size=s1.heap.objs.size+1:=by rw[← Wn,Heap.size_push]
 have k1:∀b u,s1.heap.get? b=some u->h1.get? b=some u:=fun b u e=>by rw[← Wn]; exact Heap.get?_push_of_some _ e
 have I2:Inv X pins σ H1 { s1 with heap:=h1.push { cls:=.type "dict_itemiterator",data:=.fields #[.none,.bool false,.ref a,.int 0 0,.int vs.length 0,.int ep 0,.none,.none] } }:=I1.kept (t':=s1.toks) fun b o e=>Heap.get?_push_of_some _ (k1 b o e)
 have I3:=I2.AJ (o:=o) eH (Heap.get?_push_of_some _ (k1 a o ho)) (fun _ z=>nomatch z) (fun _ z=>nomatch z) (fun _ z=>nomatch z) (fun _ _ z=>nomatch z)
 have hl:vs.length=es.size:=by have:=hr.2.1.length; simpa using this.symm
 have fE:a≠h1.objs.size:=Nat.ne_of_lt (by rw[hsz]; exact Nat.lt_succ_of_lt (Heap.lt_size ho))
 refine⟨h1.objs.size,[h1.objs.size],_,_,_,rfl,I3,Ct a _ hd,⟨.none,.none,by rw[← hl]; exact Heap.get?_push_size _ rfl⟩,fun b hb=>?_,q o⟩
 have e:b=h1.objs.size:=by simpa using hb
 subst e
 exact I1.BS (by rw[hsz]; exact Nat.le_succ _) (by rw[az (Ne.symm fE)]; exact I1.bO.fresh (by rw[hsz]; exact Nat.le_succ _))
noncomputable def pO (d:DE):DI:=fun ρ M=>(d ρ M).bind fun x M1=>match wD x M1 with
 | some (n,kvs)=>.ok (kvs.map fun q=>.tup [Cr q.1,q.2],some (n,.sU kvs)) (M1.set n (.sU kvs))
 | none=>.bad
theorem K4 {n m:Nat} {M:aP} {kvs:List (Key×PV)} (h:wD (.obj m) M=some (n,kvs)):M[n]? = some (.bR kvs):=by
 unfold wD at h
 dsimp only at h
 split at h
 ·rename_i z; cases h; exact z
 ·cases h
theorem AL (h:VE X Ex o d) (u5:attributeBase o "items" X.env (eval o X.env)=eval o X.env:=by rfl) (u7:(apos.endLine == cI.line)=true:=by rfl):VI X Ex (.Tuple elts x1 wJ) (.Call (.Attribute o "items" apos) [] [] cI) (pO d):=⟨by
 refine PI.imp (HM h.out u5 u7) fun σ H R hh=>?_
 obtain⟨ι,S,M,ρ,aF,sl,w⟩:=hh
 refine⟨ι,S,M,ρ,aF,sl,bH.bind (Rp:=fb X.K) w fun ι1 S1 M1 H1 x v e1 s1 r1 w1=>?_⟩
 cases q1:wD x M1 with
 | none=>rw[q1] at w1; exact w1.elim
 | some nk =>
  obtain⟨n,kvs⟩:=nk
  rw[q1] at w1
  obtain⟨a,bz,rfl,ei,eH,hS,rk,rfl⟩:=oP s1 r1 q1
  refine⟨a,bz,rfl,eH,fun ob=>?_⟩
  obtain⟨N2,Yk,QS,Yl,s2,x2⟩:=s1.AJ ei (K4 q1) ob
  rw[eH] at QS
  cases QS
  refine w1 ι1 _ _ _ x2 s2 fun i ι' S' M' H' up nH _=>?_
  have eS:S' a=some (.ig ob (.dK bz)):=up.sm a _ aU
  have Hr:H' a=some (.ig ob (.dK bz)):=nH.sub a _ eS
  refine⟨fun y hy=>?_,fun hl=>⟨bz,Hr,by rw[← rk.length]; simpa using hl⟩⟩
  rw[zJ] at hy
  obtain⟨⟨k,z⟩,hk,rfl⟩:=Option.map_eq_some_iff.mp hy
  obtain⟨v,hv,rz⟩:=(rk.mono x2).get hk
  refine⟨⟨bz,k,v,Hr,hv⟩,fun u H2 yl=>?_⟩
  obtain⟨p,hp,rfl,yl⟩:=yl
  rw[yl bz k v Hr hv]
  obtain⟨s3,x3⟩:=nH.tree (o:=.tup [kV k,v]) hp
  exact⟨ι',_,x3,s3,aJ.dm.mpr ⟨p,_,rfl,aU,.cons (vq k) (.one ((aJ.up up rz).mono x3))⟩⟩⟩
end
end L2
end
section
namespace L2
open PySem PySem.Spec PyProof.Rows
section
variable {X:Cx} {Ex:St->XK}
theorem wR (hc:X.calm=true):dQ X (.type "list") (fun xs H Q=>∃a bz,xs=[V.ref a]/\H a=some (.dK bz)/\∀l,H l=none->Q (.ref l) (upd H l (.lst (bz.map fun q=>kV q.1)))):=by
 intro pins s σ H xs us Q I r h
 obtain⟨a,bz,rfl,eH,q⟩:=h
 obtain⟨u,rfl,ru⟩:=vals1 r
 cases ru
 obtain⟨hz,hs,vs,kv,dd⟩:=uX I.bO eH
 obtain⟨ep,da⟩:=dd.dictAt
 have hl:=kv.len
 refine PySem.W.kdl_call (PySem.W.kdl_dict (knd:=cf X.prog X.w) (kvs:=vs) (ep:=ep) hs) (I.ok.hd hc) da (by rw[← hl]; exact hz) fun h' tk acc c' kp e uC=>?_
 have hv:∀(bz:List (Key×V)) (vs:List (Key×Value)),KV bz vs->∀bg:List Value,bg.length=vs.length->(∀(i:Nat) (v:Value),bg[i]? = some v->∃(k:Key) (x:Value),vs[i]? = some (k,x)/\p8 k v=true)->Vals (bz.map fun q=>kV q.1) bg:=by
  intro bz vs kv
  induction kv with
  | nil=>intro bg hl _; cases bg with
   | nil=>exact .nil
   | cons _ _=>cases hl
  | cons r t ih =>
   rename_i p q xs ys
   intro bg hl hi
   cases bg with
   | nil=>cases hl
   | cons z bg =>
    obtain⟨k,x,e1,e2⟩:=hi 0 z rfl
    simp only[zA,Option.some.injEq] at e1
    subst e1
    obtain⟨r1,_⟩:=r
    refine .cons ?_ (ih bg (by simpa using hl) fun i v h=>by simpa using hi (i+1) v (by simpa using h))
    dsimp only
    rw[r1]
    rcases cJ e2 with⟨i,t,rfl,rfl⟩ | ⟨x',t,rfl,rfl⟩<;>exact⟨t,rfl⟩
 have QU:Vals (bz.map fun q=>kV q.1) acc.toList:=hv bz vs kv acc.toList (by rw[Array.length_toList]; exact uC.1) fun i v h=>uC.2 i v (by rw[← Array.getElem?_toList]; exact h)
 refine⟨.ref s.heap.objs.size,_,I.laid (t':=tk) kp (Nat.le_refl _) (show dt X.prog X.w _ h' _ (.lst (bz.map fun q=>kV q.1)) from⟨by rw[zK]; exact hz,acc.toList,c',QU,by rw[Array.toArray_toList]; exact e⟩),rfl,q _ (I.bO.fresh (Nat.le_refl _))⟩
noncomputable def tf (live:Bool):D1:=fun xs M=>match xs with
 | [x]=>match wD x M with
  | some (_,kvs)=>rG live (kvs.map fun q=>Cr q.1) M
  | none=>.bad
 | _=>.bad
theorem Fc {K:Fg} {ι:List Addr} {S:Hp}:∀{kvs:List (Key×PV)} {bz:List (Key×V)},cg K ι S kvs bz->aO K ι S (kvs.map fun q=>Cr q.1) (bz.map fun q=>kV q.1):=by
 intro kvs bz h
 induction h with
 | nil=>exact .nil
 | cons r t ih=>exact .cons (by dsimp only; rw[← r.1]; exact vq _) ih
theorem vv (live:Bool) (hc:X.calm=true):dQ X (.type "list") (rC X.K (tf live)):=(wR hc).imp fun vs H Q h=>by
 obtain⟨E,ι,S,M,xs,aF,r,w⟩:=h
 unfold tf at w
 match xs,r,w with
 | [],r,w=>exact w.elim
 | x::y::z,r,w=>exact w.elim
 | [x],r,w =>
  obtain⟨v,rfl,r1⟩:=r.gB
  dsimp only at w
  cases q1:wD x M with
  | none=>rw[q1] at w; exact w.elim
  | some nk =>
   obtain⟨n,kvs⟩:=nk
   rw[q1] at w
   obtain⟨a,bz,rfl,ei,eH,hS,rk,_⟩:=oP aF r1 q1
   exact⟨a,bz,rfl,eH,(mj aF (Fc rk) w).2⟩
end
end L2
end
section
noncomputable section
namespace Sb
open PySem L2
noncomputable def bL:D1:=fq 1 (bo (ao (mq false) [(Ho false (ae 0) (nV (dC (.int 1))) iY)]))
noncomputable def du (bW:D1):D1:=fq 2 (bo (dj false [none,none,some 1] (iE (ae 0)) (gT 2 (fk (gN 0) (fk (gN 1) pj))) (aQ (ax (lR false) (ae 2) (ao bW [(ae 1)]))) (ae 0)))
noncomputable def dz (fX:D1):D1:=fq 4 (aE (hE (iL (ao fX [(ae 0),(ae 2)])) (gN 3) (bp (aQ (ax (dR true) (ae 3) (ae 1))) (bo (ae 3)) fc)) (bo (dC .aN)))
noncomputable def jA (bX:D1):D1:=fq 3 (bo (ax (sV false) (ao bX [(ae 0),(ae 1),(ae 2)]) (dC .aN)))
noncomputable def fY (bW:D1):D1:=fq 2 (aE (bp (aQ (ax (dR false) (ax aW (ae 0) (dC (.int 0))) (dC (.str "plain")))) (bo (dj false [none,some 1] (iL (ao bW [(ae 0)])) (gN 0) (aQ (ax (dR true) (ae 0) (ae 1))) (ae 0))) fc) (aE (bp (aQ (ax (dR false) (ae 1) (ax aW (ae 0) (dC (.int 1))))) (bo (fM false [(ax aW (ae 0) (dC (.int 2))),(ax aW (ae 0) (dC (.int 3)))])) fc) (bo (fM false [(ax aW (ae 0) (dC (.int 1)))]))))
noncomputable def jB:D1:=fq 1 (bo (ax (dR false) (ax aW (ae 0) (dC (.int 0))) (dC (.str "points"))))
noncomputable def lI (fZ:D1):D1:=fq 2 (aE (bp (mn (gZ (ao fZ [(ae 0)])) (aQ (ax (lR false) (ax aW (ae 0) (dC (.int 3))) (Ho false (ae 1) (nV (dC (.int 1))) iY)))) (bo (dC (.str "branch"))) fc) (bo (dC (.str "straight"))))
noncomputable def i3 (kK jS:D1):D1:=fq 2 (aE (cK (ao kK [(ae 0)])) (cK (ao jS [(ae 0),(ae 1)])))
noncomputable def gD (aT:Addr) (kL bW:D1):D1:=fq 2 (aE (bp (aQ (ax (dR false) (ao cc [(ae 0)]) (dC (.int 0)))) (Ci aT [(dC (.str "a yard has at least one piece"))]) fc) (aE (bp (aQ (ax yt (ao cc [(ae 0)]) (dC (.int 16)))) (cN aT [none,some (dC (.int 16)),none]) fc) (hE (iL (ae 0)) (gN 1) (cK (ao kL [(ae 0),(ao bW [(ae 1)])])))))
noncomputable def gE (aT:Addr) (fX:D1):D1:=fq 3 (hE (iL (ae 1)) (gN 2) (aE (bp (Ar (aQ (ax Aq (ae 2) (dC (.int 0)))) (aQ (ax yt (ae 2) (dC (.int 999))))) (cN aT [none,some (ae 2),none,some (dC (.int 999))]) fc) (aE (bp (aQ (ax yt (iZ countP (ae 1) [(ae 2)]) (dC (.int 1)))) (cN aT [none,some (ae 2),none]) fc) (bp (aQ (ax yt (ao cc [(ao fX [(ae 0),(ae 2)])]) (dC (.int 2)))) (cN aT [none,some (ae 2)]) fc))))
noncomputable def fN (aT:Addr) (bW:D1):D1:=fq 4 (aE (bp (aQ (ax yt (ao cc [(ae 1)]) (dC (.int 16)))) (cN aT [none,some (dC (.int 16)),none]) fc) (hE (iL (ae 1)) (gT 2 (fk (gN 2) (fk (gN 3) pj))) (aE (bp (aQ (ax yt (iZ countP (ae 1) [(pK [(ae 2),(ae 3)])]) (dC (.int 1)))) (cN aT [none,some (ae 2),none,some (ae 3)]) fc) (aE (bp (Ar (aQ (ax Aq (ae 3) (dC (.int 0)))) (aQ (ax QB (ae 3) (ao cc [(ae 0)])))) (cN aT [none,some (ae 3),none]) fc) (bp (aQ (ax (lR true) (ae 2) (ao bW [(ax aW (ae 0) (ae 3))]))) (cN aT [none,some (ae 3),none,some (ae 2)]) fc)))))
noncomputable def pP (mV jm:D1):D1:=fq 6 (aE (cK (ao mV [(ae 0),(ae 1)])) (aE (bx 2 (fM true [])) (aE (hE (iE (ae 1)) (gT 2 (fk (gN 3) (fk (gN 4) pj))) (hE (iL (ao jm [(ae 0),(ae 1),(fM false []),(ax aW (ae 4) (dC (.int 0))),(ax aW (ae 4) (dC (.int 1)))])) (gN 5) (cK (iZ dq (ae 2) [(pK [(ae 3),(ae 5)])])))) (bo (Au (ae 2))))))
noncomputable def tj (mW bX jm:D1):D1:=fq 9 (aE (bp (aQ (ax (lR false) (ae 4) (dj false [none] (iL (ae 2)) (gN 0) zT (ax aW (ae 0) (dC (.int 0)))))) (bo (fM false [])) fc) (aE (bx 5 (fM true [])) (aE (hE (iL (ao mW [(ax aW (ae 0) (ae 4)),(ae 3)])) (gN 6) (aE (bx 7 (ax (dn false) (ae 2) (fM false [(pK [(ae 4),(ae 3),(ae 6)])]))) (aE (bx 8 (ao bX [(ae 0),(ae 4),(ae 6)])) (bp (Ar (aQ (ax (sV false) (ae 8) (dC .aN))) (aQ (ax (lR false) (pK [(ae 6),(ae 8)]) (ae 1)))) (cK (iZ dq (ae 5) [(ae 7)])) (cK (iZ uE (ae 5) [(ao jm [(ae 0),(ae 1),(ae 7),(ae 6),(ae 8)])])))))) (bo (Au (ae 5))))))
noncomputable def jn (jT:Addr):D1:=fq 1 (bo (dj false [none] (iL (cM jT "steps" (ae 0))) (gN 0) zT (ax aW (ae 0) (dC (.int 0)))))
noncomputable def lV (au:Addr) (vw:D1):D1:=fq 4 (aE (hG au "found" (ae 0) (ao vw [(ae 1),(ae 2)])) (aE (hG au "pieces" (ae 0) (ao (mq false) [(ae 1)])) (aE (hG au "signals" (ae 0) (ao (mq false) [(ae 2)])) (aE (hG au "wait" (ae 0) (ae 3)) (aE (hG au "ticks" (ae 0) (dC (.int 0))) (aE (hG au "locks" (ae 0) mr) (aE (hG au "lying" (ae 0) (dj true [none] (iL (ae 1)) (gN 0) zT (dC (.str "straight")))) (aE (hG au "greens" (ae 0) mr) (aE (hG au "falls" (ae 0) mr) (hG au "trains" (ae 0) mr))))))))))
noncomputable def jC (au:Addr):D1:=fq 1 (bo (cM au "ticks" (ae 0)))
noncomputable def gF (au:Addr) (cm:D1):D1:=fq 2 (aE (cK (ao cm [(ae 0),(ae 1)])) (bo (rS (cM au "locks" (ae 0)) (ae 1))))
noncomputable def fO (au:Addr) (cm dF:D1):D1:=fq 4 (aE (cK (ao cm [(ae 0),(ae 1)])) (aE (nX (pO (cM au "trains" (ae 0))) (hE (pO (cM au "trains" (ae 0))) (gT 2 (fk (gN 2) (fk (gN 3) pj))) (bp (aQ (ax (lR false) (ae 1) (ao dF [(ae 3)]))) (bo (ae 2)) fc))) (bo (dC .aN))))
noncomputable def jD (au:Addr) (dG:D1):D1:=fq 2 (aE (cK (ao dG [(ae 0),(ae 1)])) (bo (ax aW (cM au "lying" (ae 0)) (ae 1))))
noncomputable def fP (au:Addr) (kM:D1):D1:=fq 2 (aE (cK (ao kM [(ae 0),(ae 1)])) (bo (ax (lR false) (ae 1) (cM au "greens" (ae 0)))))
noncomputable def nY (dF kN:D1):D1:=fq 2 (bo (ao dF [(ao kN [(ae 0),(ae 1)])]))
noncomputable def jE (i4:Addr):D1:=fq 3 (aE (hG i4 "until" (ae 0) (ae 1)) (hG i4 "near" (ae 0) (ae 2)))
noncomputable def fG (au:Addr) (er gi cO rT gk:D1):D1:=fq 4 (aE (cK (ao er [(ae 0),(ae 1)])) (aE (bx 2 (ao gi [(ae 0),(ae 1)])) (aE (hE (iL (ae 2)) (gN 3) (cK (ao cO [(ae 0),(ax aW (ae 3) (dC (.int 0)))]))) (aE (hE (iL (ae 2)) (gN 3) (aE (gU (cM au "locks" (ae 0)) (ax aW (ae 3) (dC (.int 0))) (ae 1)) (gU (cM au "lying" (ae 0)) (ax aW (ae 3) (dC (.int 0))) (ao rT [(ax aW (cM au "pieces" (ae 0)) (ax aW (ae 3) (dC (.int 0)))),(ae 3)])))) (gU (cM au "greens" (ae 0)) (ao gk [(ae 0),(ae 1)]) (ae 1))))))
noncomputable def ik (i4 aH au:Addr) (er gk mX kO nZ kP gi:D1):D1:=fq 4 (aE (cK (ao er [(ae 0),(ae 1)])) (aE (bx 2 (ao gk [(ae 0),(ae 1)])) (aE (bp (aQ (ax (dR true) (rS (cM au "greens" (ae 0)) (ae 2)) (ae 1))) (cN aH [none,some (ae 1)]) fc) (aE (cK (pN (cM au "greens" (ae 0)) (ae 2))) (aE (bx 3 (ao mX [(ae 0),(ae 2)])) (bp (mn (aQ (ax yt (cM au "wait" (ae 0)) (dC (.int 0)))) (Ar (aQ (ax (sV true) (ae 3) (dC .aN))) (gZ (ao kO [(ae 0),(ae 2)])))) (gU (cM au "falls" (ae 0)) (ae 1) (xH i4 nZ [(ax (dn false) (cM au "ticks" (ae 0)) (cM au "wait" (ae 0))),(ae 3)])) (cK (ao kP [(ae 0),(ao gi [(ae 0),(ae 1)])]))))))))
noncomputable def qC (i4 au:Addr) (kP gi:D1):D1:=fq 2 (aE (hG au "ticks" (ae 0) (ax (dn false) (cM au "ticks" (ae 0)) (dC (.int 1)))) (hE (iL (ao (tf false) [(cM au "falls" (ae 0))])) (gN 1) (bp (aQ (ax (dR false) (cM i4 "until" (ax aW (cM au "falls" (ae 0)) (ae 1))) (cM au "ticks" (ae 0)))) (aE (cK (pN (cM au "falls" (ae 0)) (ae 1))) (cK (ao kP [(ae 0),(ao gi [(ae 0),(ae 1)])]))) fc)))
noncomputable def ky (au:Addr) (dG cO:D1):D1:=fq 2 (aE (cK (ao dG [(ae 0),(ae 1)])) (aE (cK (ao cO [(ae 0),(ae 1)])) (gU (cM au "lying" (ae 0)) (ae 1) (Gi (aQ (ax (dR false) (ax aW (cM au "lying" (ae 0)) (ae 1)) (dC (.str "straight")))) (dC (.str "branch")) (dC (.str "straight"))))))
noncomputable def mY (au:Addr):D1:=fq 3 (hE (iL (ae 1)) (gN 2) (cK (pN (cM au "locks" (ae 0)) (ax aW (ae 2) (dC (.int 0))))))
noncomputable def jF (au:Addr):D1:=fq 2 (bo (ax aW (ax aW (cM au "found" (ae 0)) (ae 1)) (dC (.int 0))))
noncomputable def mZ (au:Addr):D1:=fq 2 (bo (ax aW (ax aW (cM au "found" (ae 0)) (ae 1)) (dC (.int 1))))
noncomputable def gG (au:Addr) (n0:D1):D1:=fq 3 (aE (bx 2 (ax aW (cM au "signals" (ae 0)) (ae 1))) (bo (ao n0 [(cM au "pieces" (ae 0)),(ax aW (ae 2) (dC (.int 1))),(ax aW (ae 2) (dC (.int 0)))])))
noncomputable def mv (jT au:Addr) (bX:D1):D1:=fq 4 (aE (bx 2 (ax aW (cM jT "steps" (ae 1)) (dC (.int 0)))) (aE (bx 3 (pK [(ax aW (ae 2) (dC (.int 2))),(ao bX [(cM au "pieces" (ae 0)),(ax aW (ae 2) (dC (.int 0))),(ax aW (ae 2) (dC (.int 2)))])])) (aE (bp (aQ (ax (lR false) (ae 3) (cM au "signals" (ae 0)))) (bo (iZ rQ (cM au "signals" (ae 0)) [(ae 3)])) fc) (bo (dC .aN)))))
noncomputable def i5 (au:Addr) (kQ:D1):D1:=fq 4 (aE (nX (pO (cM au "trains" (ae 0))) (hE (pO (cM au "trains" (ae 0))) (gT 2 (fk (gN 2) (fk (gN 3) pj))) (bp (aQ (ax (dR false) (ao kQ [(ae 0),(ae 3)]) (ae 1))) (bo (ae 2)) fc))) (bo (dC .aN)))
noncomputable def mw (aH au:Addr):D1:=fq 2 (aE (bp (aQ (ax (lR true) (ae 1) (cM au "trains" (ae 0)))) (cN aH [none,some (ae 1),none]) fc) (bo (ax aW (cM au "trains" (ae 0)) (ae 1))))
noncomputable def jU (aH au:Addr) (bY:D1):D1:=fq 2 (bp (mT (gZ (ao bY [(cM au "found" (ae 0)),(ae 1)]))) (cN aH [none,some (ae 1),none]) fc)
noncomputable def jV (aH au:Addr) (bY:D1):D1:=fq 2 (bp (mT (gZ (ao bY [(cM au "pieces" (ae 0)),(ae 1)]))) (cN aH [none,some (ae 1),none]) fc)
noncomputable def gH (aH au:Addr) (cm fZ:D1):D1:=fq 2 (aE (cK (ao cm [(ae 0),(ae 1)])) (bp (mT (gZ (ao fZ [(ax aW (cM au "pieces" (ae 0)) (ae 1))]))) (cN aH [none,some (ae 1),none]) fc))
noncomputable def jo (aH au:Addr) (bY:D1):D1:=fq 2 (bp (mT (gZ (ao bY [(cM au "signals" (ae 0)),(ae 1)]))) (cN aH [none,some (ae 1),none]) fc)
noncomputable def bM:D1:=fq 2 (bo (As (ax QB (ae 1) (dC (.int 0))) (ax Aq (ae 1) (ao cc [(ae 0)]))))
noncomputable def fu (eT au:Addr) (bt:D1):D1:=fq 2 (aE (bp (aQ (ax (lR false) (ae 1) (cM au "locks" (ae 0)))) (cN eT [none,some (ae 1),none]) fc) (bp (aQ (ax (sV true) (lz au "train_in" bt (ae 0) [(ae 1)]) (dC .aN))) (cN eT [none,some (ae 1),none]) fc))
noncomputable def m3:D1:=fq 2 (aE (bp (gZ (ae 0)) (bo (ax aW (ae 0) (ax dy (ae 1) (ao cc [(ae 0)])))) fc) (bo (dC (.int 0))))
noncomputable def oQ (vx:D1):D1:=fq 3 (aE (bx 2 (ax dy (ax (dn false) (ao vx [(ae 0),(ae 1)]) (ax (kE false) (dC (.int 104729)) (ax (dn false) (ae 1) (dC (.int 1))))) (dC (.int 4294967291)))) (aE (bx 2 (ax dy (ax (kE false) (ae 2) (dC (.int 48271))) (dC (.int 4294967279)))) (bo (ax dy (ax (dn false) (ax (kE false) (ax lE (ae 2) (dC (.int 64))) (dC (.int 69621))) (ae 2)) (dC (.int 4294967231))))))
noncomputable def ki:D1:=fq 4 (aE (bx 3 (dj false [none,some 1,some 2,some 0] (tT [(ao cc [(ae 0)])]) (gN 0) (mn (aQ (ax (dR true) (ae 0) (ae 1))) (aQ (ax (lR false) (ae 2) (Ho false (ax aW (ae 3) (ae 0)) (nV (dC (.int 1))) iY)))) (ae 0))) (bo (Gi (gZ (ae 3)) (ax aW (ae 3) (dC (.int 0))) (dC .aN))))
noncomputable def kj (dO:D1):D1:=fq 11 (aE (bx 2 (fM true [])) (aE (bx 3 (fM false [])) (aE (bx 4 (dC (.int 0))) (aE (hE (tT [(ax (dn false) (dC (.int 1)) (ax dy (ao dO [(ae 0),(ae 1)]) (dC (.int 8))))]) (gN 5) (aE (bx 6 (ao dO [(ae 0),(ax (dn false) (ax (dn false) (ae 1) (dC (.int 1))) (ae 5))])) (aE (bx 7 (fM true [])) (aE (hE (tT [(ax (dn false) (dC (.int 2)) (ao qu [(ax Aq (ax dy (ae 6) (dC (.int 5))) (dC (.int 3)))]))]) (gN 8) (aE (bx 9 (ao dO [(ae 0),(ax (dn false) (ax (dn false) (ax (dn false) (ae 1) (dC (.int 10))) (ax (kE false) (dC (.int 3)) (ae 5))) (ae 8))])) (aE (bx 10 (dj false [none,some 7] (iL (ae 3)) (gN 0) (aQ (ax (lR true) (ae 0) (ae 1))) (ae 0))) (bp (mn (gZ (ae 10)) (aQ (ax Aq (ax dy (ae 9) (dC (.int 8))) (ax aW (fM false [(dC (.int 7)),(dC (.int 2)),(dC (.int 2))]) (ae 8))))) (cK (iZ dq (ae 7) [(ax aW (ae 10) (ax dy (ax lE (ae 9) (dC (.int 8))) (ao KA [(dC (.int 4)),(ao cc [(ae 10)])])))])) (aE (cK (iZ dq (ae 7) [(ax dy (ax (dn false) (ao dO [(ae 0),(ax (dn false) (ae 1) (dC (.int 9)))]) (ax (kE false) (dC (.int 37)) (ae 4))) (dC (.int 1000)))])) (bx 4 (ax (dn false) (ae 4) (dC (.int 1))))))))) (aE (bx 3 (ax (dn false) (dj false [none,some 3] (iL (ae 7)) (gN 0) (aQ (ax (lR true) (ae 0) (ae 1))) (ae 0)) (dj false [none,some 7] (iL (ae 3)) (gN 0) (aQ (ax (lR true) (ae 0) (ae 1))) (ae 0)))) (cK (iZ dq (ae 2) [(ax (dn false) (pK [(ax aW (fM false [(dC (.str "plain")),(dC (.str "points"))]) (ax NN (ao cc [(ae 7)]) (dC (.int 2))))]) (ao yw [(ae 7)]))]))))))) (bo (Au (ae 2)))))))
noncomputable def jG (dO dH:D1):D1:=fq 9 (aE (bx 3 (fM true [])) (aE (hE (tT [(ao cc [(ae 2)])]) (gN 4) (hE (iT (Ho false (ax aW (ae 2) (ae 4)) (nV (dC (.int 1))) iY)) (gN 5) (aE (bx 6 (ao dO [(ae 0),(ax (dn false) (ax (dn false) (ae 1) (ax (kE false) (dC (.int 3)) (ae 4))) (ao cc [(ae 3)]))])) (aE (bx 7 (ax (sV false) (ao dH [(ae 2),(ae 4),(ae 5)]) (dC .aN))) (bp (Ar (aQ (ax (dR false) (ax dy (ae 6) (dC (.int 3))) (dC (.int 0)))) (mn (gZ (ae 7)) (aQ (ax (dR false) (ax dy (ae 6) (dC (.int 3))) (dC (.int 1)))))) (cK (iZ dq (ae 3) [(pK [(ae 5),(ae 4)])])) fc))))) (aE (bx 8 (ax dy (ao dO [(ae 0),(ax (dn false) (ae 1) (dC (.int 30)))]) (ax (dn false) (dC (.int 1)) (ao cc [(ae 3)])))) (bo (Ho false (ax (dn false) (Ho false (ae 3) (nV (ae 8)) iY) (Ho false (ae 3) iY (nV (ae 8)))) iY (nV (dC (.int 16))))))))
noncomputable def m4:D1:=fq 2 (aE (bp (aQ (ax (dR false) (ax aW (ae 0) (dC (.int 0))) (dC (.str "plain")))) (bo (dj false [none,some 1] (iT (Ho false (ae 0) (nV (dC (.int 1))) iY)) (gN 0) (aQ (ax (dR true) (ae 0) (ae 1))) (ae 0))) fc) (bo (Gi (aQ (ax (dR false) (ae 1) (ax aW (ae 0) (dC (.int 1))))) (fM false [(ax aW (ae 0) (dC (.int 2))),(ax aW (ae 0) (dC (.int 3)))]) (fM false [(ax aW (ae 0) (dC (.int 1)))]))))
noncomputable def pQ (vy dH kR:D1):D1:=fq 9 (aE (bx 5 (fM true [])) (aE (bp (aQ (ax (lR false) (ae 3) (dj false [none] (iL (ae 2)) (gN 0) zT (ax aW (ae 0) (dC (.int 0)))))) (bo (Au (ae 5))) fc) (aE (hE (iL (ao vy [(ax aW (ae 0) (ae 3)),(ae 4)])) (gN 6) (aE (bx 7 (ax (dn false) (ae 2) (fM false [(pK [(ae 3),(ae 4),(ae 6)])]))) (aE (bx 8 (ao dH [(ae 0),(ae 3),(ae 6)])) (bp (Ar (aQ (ax (sV false) (ae 8) (dC .aN))) (aQ (ax (lR false) (pK [(ae 6),(ae 8)]) (ae 1)))) (cK (iZ dq (ae 5) [(ae 7)])) (bx 5 (ax (dn true) (ae 5) (ao kR [(ae 0),(ae 1),(ae 7),(ae 8),(ae 6)]))))))) (bo (Au (ae 5))))))
noncomputable def m5 (kR:D1):D1:=fq 4 (aE (bx 2 (fM false [])) (aE (hE (tT [(ao cc [(ae 1)])]) (gN 3) (bx 2 (ax (dn false) (ae 2) (dj false [none,some 3] (iL (ao kR [(ae 0),(ae 1),(fM false []),(ax aW (ax aW (ae 1) (ae 3)) (dC (.int 1))),(ax aW (ax aW (ae 1) (ae 3)) (dC (.int 0)))])) (gN 0) zT (pK [(ae 1),(ae 0)]))))) (bo (ae 2))))
noncomputable def oR (pR:D1):D1:=fq 5 (aE (bx 3 (dj true [none] (iL (ae 0)) (gN 0) zT (Gi (aQ (ax (dR false) (ax aW (ae 0) (dC (.int 0))) (dC (.str "points")))) (dC (.str "straight")) (dC .aN)))) (aE (bx 4 (E6 [("pieces",(ae 0)),("signals",(ae 1)),("wait",(ae 2)),("points",(ae 3)),("green",(fM false [])),("now",(dC (.int 0)))])) (aE (gU (ae 4) (dC (.str "routes")) (ao pR [(ae 0),(ae 1)])) (aE (gU (ae 4) (dC (.str "locks")) (ax (kE true) (fM false [(dC .aN)]) (ao cc [(ae 0)]))) (aE (gU (ae 4) (dC (.str "falls")) mr) (aE (gU (ae 4) (dC (.str "trains")) mr) (bo (ae 4))))))))
noncomputable def i6:D1:=fq 3 (aE (nX (nW (ax aW (ae 0) (dC (.str "trains")))) (bx 2 (dj false [none,some 1,some 0] (nW (ax aW (ae 0) (dC (.str "trains")))) (gN 0) (aQ (ax (lR false) (ae 1) (dj false [none] (iL (ax aW (ax aW (ax aW (ae 2) (dC (.str "trains"))) (ae 0)) (dC (.int 0)))) (gN 0) zT (ax aW (ae 0) (dC (.int 0)))))) (ae 0)))) (bo (Gi (gZ (ae 2)) (ax aW (ae 2) (dC (.int 0))) (dC .aN))))
noncomputable def m8 (fv:D1):D1:=fq 2 (bo (Kx (ax (sV true) (ax aW (ax aW (ae 0) (dC (.str "locks"))) (ae 1)) (dC .aN)) (ax (sV true) (ao fv [(ae 0),(ae 1)]) (dC .aN))))
noncomputable def m9:D1:=fq 2 (gU (ae 0) (dC (.str "locks")) (dj true [none,some 1] (iL (ax aW (ae 0) (dC (.str "locks")))) (gN 0) zT (Gi (aQ (ax (dR false) (ae 0) (ae 1))) (dC .aN) (ae 0))))
noncomputable def mx (kS:D1):D1:=fq 5 (aE (bx 2 (ax aW (ax aW (ax aW (ae 0) (dC (.str "routes"))) (ae 1)) (dC (.int 1)))) (aE (bp (gZ (ao KQ [(dj false [none,some 0] (iL (ae 2)) (gN 0) zT (ao kS [(ae 1),(ax aW (ae 0) (dC (.int 0)))]))])) (bo (dC (.str "held"))) fc) (aE (hE (iL (ae 2)) (gN 3) (aE (gU (ax aW (ae 0) (dC (.str "locks"))) (ax aW (ae 3) (dC (.int 0))) (ae 1)) (aE (bx 4 (ax aW (ax aW (ae 0) (dC (.str "pieces"))) (ax aW (ae 3) (dC (.int 0))))) (bp (aQ (ax (dR false) (ax aW (ae 4) (dC (.int 0))) (dC (.str "points")))) (gU (ax aW (ae 0) (dC (.str "points"))) (ax aW (ae 3) (dC (.int 0))) (ax aW (fM false [(dC (.str "branch")),(dC (.str "straight"))]) (ao qu [(ax (lR false) (ax aW (ae 4) (dC (.int 2))) (Ho false (ae 3) (nV (dC (.int 1))) iY))]))) fc)))) (aE (gU (ae 0) (dC (.str "green")) (ax (dn false) (ax aW (ae 0) (dC (.str "green"))) (fM false [(ae 1)]))) (bo (dC (.str "ok")))))))
noncomputable def nc:D1:=fq 8 (aE (ES (ax aW (ax aW (ae 0) (dC (.str "signals"))) (ae 1)) (gT 2 (fk (gN 2) (fk (gN 3) pj)))) (aE (bx 4 (fM true [])) (aE (nX (nW (ax aW (ae 0) (dC (.str "trains")))) (hE (nW (ax aW (ae 0) (dC (.str "trains")))) (gN 5) (aE (bx 6 (ax aW (ax aW (ae 0) (dC (.str "trains"))) (ae 5))) (aE (bx 7 (ax aW (ax aW (ae 6) (dC (.int 0))) (dC (.int 0)))) (bp (mn (aQ (ax (dR false) (ax aW (ae 6) (dC (.int 1))) (fM false []))) (mn (mT (gZ (ax aW (ae 6) (dC (.int 2))))) (mn (aQ (ax (dR false) (ax aW (ae 7) (dC (.int 2))) (ae 2))) (aQ (ax (dR true) (ax aW (ae 7) (dC (.int 0))) (ae 3)))))) (cK (iZ dq (ae 4) [(ae 5)])) fc))))) (bo (Au (ae 4))))))
noncomputable def gI (vz dH kT:D1):D1:=fq 6 (aE (bp (aQ (ax (lR true) (ae 1) (ax aW (ae 0) (dC (.str "green"))))) (bo (dC (.str "none"))) fc) (aE (gU (ae 0) (dC (.str "green")) (dj false [none,some 1] (iL (ax aW (ae 0) (dC (.str "green")))) (gN 0) (aQ (ax (dR true) (ae 0) (ae 1))) (ae 0))) (aE (ES (ax aW (ax aW (ae 0) (dC (.str "signals"))) (ax aW (ax aW (ax aW (ae 0) (dC (.str "routes"))) (ae 1)) (dC (.int 0)))) (gT 2 (fk (gN 2) (fk (gN 3) pj)))) (aE (bx 4 (ao vz [(ae 0),(ax aW (ax aW (ax aW (ae 0) (dC (.str "routes"))) (ae 1)) (dC (.int 0)))])) (aE (bx 5 (ax (sV false) (ao dH [(ax aW (ae 0) (dC (.str "pieces"))),(ae 3),(ae 2)]) (dC .aN))) (aE (bp (mn (aQ (ax yt (ax aW (ae 0) (dC (.str "wait"))) (dC (.int 0)))) (Ar (gZ (ae 4)) (gZ (ae 5)))) (gU (ax aW (ae 0) (dC (.str "falls"))) (ae 1) (pK [(ax (dn false) (ax aW (ae 0) (dC (.str "now"))) (ax aW (ae 0) (dC (.str "wait")))),(ae 4),(ae 5)])) (cK (ao kT [(ae 0),(ae 1)]))) (bo (dC (.str "ok")))))))))
noncomputable def ng (kT:D1):D1:=fq 2 (aE (gU (ae 0) (dC (.str "now")) (ax (dn false) (ax aW (ae 0) (dC (.str "now"))) (dC (.int 1)))) (aE (hE (iL (ao (tf false) [(ax aW (ae 0) (dC (.str "falls")))])) (gN 1) (bp (aQ (ax OZ (ax aW (ax aW (ax aW (ae 0) (dC (.str "falls"))) (ae 1)) (dC (.int 0))) (ax aW (ae 0) (dC (.str "now"))))) (aE (cK (pN (ax aW (ae 0) (dC (.str "falls"))) (ae 1))) (cK (ao kT [(ae 0),(ae 1)]))) fc)) (bo (dC (.str "ok")))))
noncomputable def iA (kS:D1):D1:=fq 2 (aE (bp (aQ (ax (dR false) (ax aW (ax aW (ax aW (ae 0) (dC (.str "pieces"))) (ae 1)) (dC (.int 0))) (dC (.str "plain")))) (bo (dC (.str "none"))) fc) (aE (bp (gZ (ao kS [(ae 0),(ae 1)])) (bo (dC (.str "held"))) fc) (aE (gU (ax aW (ae 0) (dC (.str "points"))) (ae 1) (ax aW (E6 [("straight",(dC (.str "branch"))),("branch",(dC (.str "straight")))]) (ax aW (ax aW (ae 0) (dC (.str "points"))) (ae 1)))) (bo (dC (.str "ok"))))))
noncomputable def qD:D1:=fq 2 (bo (As (ax (dR false) (Cn "bool" (ae 0)) (Cn "bool" (ae 1))) (ax (dR false) (ae 0) (ae 1))))
noncomputable def ni (au:Addr) (rV oa cC fv bt ee cq nj:D1):D1:=fq 6 (aE (bp (mT (gZ (ao rV [(lz au "time" oa (ae 0) []),(ax aW (ae 1) (dC (.str "now")))]))) (bo (dC (.bl false))) fc) (aE (hE (tT [(ao cc [(ax aW (ae 1) (dC (.str "pieces")))])]) (gN 2) (aE (bp (mT (gZ (ao rV [(lz au "lock_of" cC (ae 0) [(ae 2)]),(ax aW (ax aW (ae 1) (dC (.str "locks"))) (ae 2))]))) (bo (dC (.bl false))) fc) (aE (bp (mT (gZ (ao rV [(lz au "train_in" bt (ae 0) [(ae 2)]),(ao fv [(ae 1),(ae 2)])]))) (bo (dC (.bl false))) fc) (bp (mn (aQ (ax (dR false) (ax aW (ax aW (ax aW (ae 1) (dC (.str "pieces"))) (ae 2)) (dC (.int 0))) (dC (.str "points")))) (aQ (ax (dR true) (lz au "lies" ee (ae 0) [(ae 2)]) (ax aW (ax aW (ae 1) (dC (.str "points"))) (ae 2))))) (bo (dC (.bl false))) fc)))) (aE (bx 3 (dj false [none,some 1] (iL (ax aW (ae 1) (dC (.str "green")))) (gN 0) zT (ax aW (ax aW (ax aW (ae 1) (dC (.str "routes"))) (ae 0)) (dC (.int 0))))) (aE (hE (tT [(ao cc [(ax aW (ae 1) (dC (.str "signals")))])]) (gN 4) (bp (mT (gZ (ao rV [(lz au "is_green" cq (ae 0) [(ae 4)]),(ax (lR false) (ae 4) (ae 3))]))) (bo (dC (.bl false))) fc)) (aE (nX (nW (ax aW (ae 1) (dC (.str "trains")))) (hE (nW (ax aW (ae 1) (dC (.str "trains")))) (gN 5) (bp (aQ (ax (dR true) (lz au "where" nj (ae 0) [(ae 5)]) (dj false [none] (iL (ax aW (ax aW (ax aW (ae 1) (dC (.str "trains"))) (ae 5)) (dC (.int 0)))) (gN 0) zT (ax aW (ae 0) (dC (.int 0)))))) (bo (dC (.bl false))) fc))) (bo (dC (.bl true))))))))
noncomputable def fe (aT eT aH lW au:Addr) (jN og qE vA ee cC bt cq:D1):D1:=fq 7 (aE (bx 3 (dC .aN)) (aE (bx 4 (dC .aN)) (aE (Cq [aT,aH,eT,lW] 3 5 (bp (aQ (ax (dR false) (ae 1) (dC (.int 0)))) (bx 4 (ao jN [(ae 0),(ae 2)])) (bp (aQ (ax (dR false) (ae 1) (dC (.int 1)))) (bx 4 (ao og [(ae 0),(ae 2)])) (bp (aQ (ax (dR false) (ae 1) (dC (.int 2)))) (bx 4 (ao qE [(ae 0),(ae 2)])) (bp (aQ (ax (dR false) (ae 1) (dC (.int 3)))) (bx 4 (ao vA [(ae 0)])) (bp (aQ (ax (dR false) (ae 1) (dC (.int 4)))) (bx 4 (lz au "lies" ee (ae 0) [(ae 2)])) (bp (aQ (ax (dR false) (ae 1) (dC (.int 5)))) (bx 4 (lz au "lock_of" cC (ae 0) [(ae 2)])) (bp (aQ (ax (dR false) (ae 1) (dC (.int 6)))) (bx 4 (lz au "train_in" bt (ae 0) [(ae 2)])) (bx 4 (lz au "is_green" cq (ae 0) [(ae 2)])))))))))) (aE (bp (aQ (ax (sV false) (ae 3) (dC .aN))) (bo (Gi (Ar (aQ (ax yt (ae 1) (dC (.int 3)))) (aQ (ax (sV false) (ae 4) (dC .aN)))) (dC (.str "ok")) (dC (.str "wrong")))) fc) (aE (bx 6 (fM false [(qA [(aT,false),(aH,true),(eT,false),(lW,false)] (ae 3)),(qA [(aT,false),(aH,false),(eT,true),(lW,false)] (ae 3)),(qA [(aT,true),(aH,false),(eT,false),(lW,true)] (ae 3))])) (aE (bp (Ar (aQ (ax (dR true) (iZ countP (ae 6) [(dC (.bl true))]) (dC (.int 1)))) (mT (gZ (qA [(aT,true),(aH,true),(eT,true),(lW,true)] (ae 3))))) (bo (dC (.str "wrong"))) fc) (bo (ax aW (fM false [(dC (.str "none")),(dC (.str "held")),(dC (.str "wrong"))]) (iZ rQ (ae 6) [(dC (.bl true))])))))))))
noncomputable def gJ (qF kU my oh:D1):D1:=fq 4 (aE (bx 3 (ao cc [(ax aW (ae 0) (dC (.str "routes")))])) (aE (bp (aQ (ax (lR false) (ae 1) (pK [(dC (.int 2)),(dC (.int 4)),(dC (.int 5)),(dC (.int 6))]))) (bx 3 (ao cc [(ax aW (ae 0) (dC (.str "pieces")))])) fc) (aE (bp (aQ (ax (dR false) (ae 1) (dC (.int 7)))) (bx 3 (ao cc [(ax aW (ae 0) (dC (.str "signals")))])) fc) (aE (bp (mn (aQ (ax (dR true) (ae 1) (dC (.int 3)))) (mT (aQ (rK OZ Aq (dC (.int 0)) (ae 2) (ae 3))))) (bo (dC (.str "none"))) fc) (aE (bp (aQ (ax (dR false) (ae 1) (dC (.int 0)))) (bo (ao qF [(ae 0),(ae 2)])) fc) (aE (bp (aQ (ax (dR false) (ae 1) (dC (.int 1)))) (bo (ao kU [(ae 0),(ae 2)])) fc) (aE (bp (aQ (ax (dR false) (ae 1) (dC (.int 2)))) (bo (ao my [(ae 0),(ae 2)])) fc) (aE (bp (aQ (ax (dR false) (ae 1) (dC (.int 3)))) (bo (ao oh [(ae 0)])) fc) (bo (Gi (mn (aQ (ax (dR false) (ae 1) (dC (.int 4)))) (aQ (ax (dR false) (ax aW (ax aW (ax aW (ae 0) (dC (.str "pieces"))) (ae 2)) (dC (.int 0))) (dC (.str "plain"))))) (dC (.str "none")) (dC (.str "ok"))))))))))))
noncomputable def oi (au:Addr) (pS oj dO om yB vB rW yC:D1):D1:=fq 11 (aE (bx 1 (ao pS [(ae 0),(dC (.int 0))])) (aE (bx 2 (ao oj [(ae 0),(dC (.int 40)),(ae 1)])) (aE (bx 3 (ax dy (ao dO [(ae 0),(dC (.int 39))]) (dC (.int 4)))) (aE (bx 4 (xH au om [(ao (mq false) [(ae 1)]),(ao (mq false) [(ae 2)]),(ae 3)])) (aE (bx 5 (ao yB [(ae 1),(ae 2),(ae 3)])) (aE (hE (tT [(ax dy (ao dO [(ae 0),(dC (.int 38))]) (dC (.int 21)))]) (gN 6) (aE (bx 7 (ao dO [(ae 0),(ax (dn false) (dC (.int 60)) (ax (kE false) (dC (.int 2)) (ae 6)))])) (aE (bx 8 (ax aW (fM false [(dC (.int 0)),(dC (.int 0)),(dC (.int 0)),(dC (.int 1)),(dC (.int 1)),(dC (.int 2)),(dC (.int 2)),(dC (.int 3)),(dC (.int 4)),(dC (.int 5)),(dC (.int 6)),(dC (.int 7))]) (ax dy (ae 7) (dC (.int 12))))) (aE (bx 9 (ax aW (fM false [(ao cc [(ax aW (ae 5) (dC (.str "routes")))]),(ao cc [(ae 1)]),(ao cc [(ae 2)])]) (ax dy (ao dO [(ae 0),(ax (dn false) (dC (.int 61)) (ax (kE false) (dC (.int 2)) (ae 6)))]) (dC (.int 3))))) (aE (bx 10 (ax dy (ax lE (ae 7) (dC (.int 12))) (ao Kz [(dC (.int 1)),(ae 9)]))) (aE (bp (mn (aQ (ax (dR false) (ae 8) (dC (.int 1)))) (mn (gZ (ax aW (ae 5) (dC (.str "green")))) (aQ (ax yt (ax dy (ax lE (ae 7) (dC (.int 12))) (dC (.int 3))) (dC (.int 0)))))) (bx 10 (ax aW (ax aW (ae 5) (dC (.str "green"))) (ax dy (ax lE (ae 7) (dC (.int 36))) (ao cc [(ax aW (ae 5) (dC (.str "green")))])))) fc) (aE (bp (aQ (ax (dR false) (ax dy (ax lE (ae 7) (dC (.int 12))) (dC (.int 12))) (dC (.int 0)))) (bx 10 (ax aW (fM false [(KL (dC (.int 1))),(ao cc [(ae 1)]),(ao cc [(ax aW (ae 5) (dC (.str "routes")))]),(dC (.int 999999999999999))]) (ax dy (ax lE (ae 7) (dC (.int 144))) (dC (.int 4))))) fc) (bp (Ar (aQ (ax (dR true) (ao rW [(ae 4),(ae 8),(ae 10)]) (ao yC [(ae 5),(ae 8),(ae 10)]))) (mT (gZ (ao vB [(ae 4),(ae 5)])))) (bo (dC (.bl false))) fc)))))))) (bo (dC (.bl true)))))))))
end Sb
end
end
section
namespace L2
open PySem
section
variable {ρ:dX} {M:aP}
@[simp] theorem aS {i:Nat}:ae i ρ M=(match ρ[i]? with | some (some x)=>.ok x M | _=>.bad):=rfl
@[simp] theorem dI {x:PV}:dC x ρ M=.ok x M:=rfl
@[simp] theorem bu:eR [] ρ M=.ok [] M:=rfl
@[simp] theorem aB {d:DE} {ds:List DE}:eR (d::ds) ρ M=(d ρ M).bind fun x M1=>(eR ds ρ M1).bind fun xs M2=>.ok (x::xs) M2:=rfl
@[simp] theorem K5 {ds:List DE}:pK ds ρ M=(eR ds ρ M).bind fun xs M1=>.ok (.tup xs) M1:=rfl
@[simp] theorem lJ {l:Bool} {ds:List DE}:fM l ds ρ M=(eR ds ρ M).bind fun xs M1=>rG l xs M1:=rfl
@[simp] theorem aI {f:D2} {a b:DE}:ax f a b ρ M=(a ρ M).bind fun x M1=>(b ρ M1).bind fun y M2=>f x y M2:=rfl
@[simp] theorem bI {f:D1} {ds:List DE}:ao f ds ρ M=(eR ds ρ M).bind fun xs M1=>f xs M1:=rfl
@[simp] theorem kl {d:DE}:gZ d ρ M=(d ρ M).bind fun x M1=>Res.opt (kd M1 x) M1:=rfl
@[simp] theorem cX {d:DE}:aQ d ρ M=(d ρ M).bind fun x M1=>match x with | .bl b=>.ok b M1 | _=>.bad:=rfl
@[simp] theorem nq {a b:DT}:mn a b ρ M=(a ρ M).bind fun k M1=>if k=true then b ρ M1 else .ok false M1:=rfl
@[simp] theorem Cu {a b:DT}:Ar a b ρ M=(a ρ M).bind fun k M1=>if k=true then .ok true M1 else b ρ M1:=rfl
@[simp] theorem nr {a:DT}:mT a ρ M=(a ρ M).bind fun k M1=>.ok (!k) M1:=rfl
@[simp] theorem yD {t:DT} {a b:DE}:Gi t a b ρ M=(t ρ M).bind fun k M1=>if k=true then a ρ M1 else b ρ M1:=rfl
@[simp] theorem HN {l:Bool} {d:DE} {dl dh:DO}:Ho l d dl dh ρ M=(d ρ M).bind fun x M1=>(dl ρ M1).bind fun lo M2=>(dh ρ M2).bind fun hi M3=>EN l x lo hi M3:=rfl
@[simp] theorem vC:iY ρ M=.ok none M:=rfl
@[simp] theorem AM {d:DE}:nV d ρ M=(d ρ M).bind fun x M1=>match x with | .int i=>.ok (some i) M1 | _=>.bad:=rfl
@[simp] theorem Su {d:DE}:Au d ρ M=(d ρ M).bind fun x M1=>yu x M1:=rfl
@[simp] theorem QV {f:DM} {d:DE} {ds:List DE}:iZ f d ds ρ M=(d ρ M).bind fun x M1=>match iJ M1 x with | some _=>(eR ds ρ M1).bind fun xs M2=>f x xs M2 | none=>.bad:=rfl
@[simp] theorem UO:fc ρ M=.nx ρ M:=rfl
@[simp] theorem K6 {a b:DS}:aE a b ρ M=(match a ρ M with | .nx ρ' M'=>b ρ' M' | o=>o):=rfl
@[simp] theorem QW {d:DE}:cK d ρ M=(d ρ M).out ρ fun _ M1=>.nx ρ M1:=rfl
@[simp] theorem Sv {d:DE}:bo d ρ M=(d ρ M).out ρ fun x M1=>.rt x M1:=rfl
@[simp] theorem QX:QD ρ M=.rt .aN M:=rfl
@[simp] theorem Sx {t:DT} {a b:DS}:bp t a b ρ M=(t ρ M).out ρ fun k M1=>if k=true then a ρ M1 else b ρ M1:=rfl
@[simp] theorem K8 {i:Nat} {d:DE}:bx i d ρ M=(d ρ M).out ρ fun x M1=>.nx (ρ.set i (some x)) M1:=rfl
@[simp] theorem Sy {d:DE} {g:DG}:ES d g ρ M=(d ρ M).out ρ fun x M1=>match g x ρ with | some ρ'=>.nx ρ' M1 | none=>.bad:=rfl
@[simp] theorem Wo {i:Nat} {x:PV}:gN i x ρ=some (ρ.set i (some x)):=rfl
@[simp] theorem UP:zT ρ M=.ok true M:=rfl
@[simp] theorem O4 {C:Addr} {ds:List DE}:Ci C ds ρ M=(eR ds ρ M).out ρ fun _ M1=>.exc C ρ M1:=rfl
@[simp] theorem ag {α β:Type} {x:α} {f:α->aP->Res β}:(Res.ok x M).bind f=f x M:=rfl
@[simp] theorem vf {α:Type} {x:α}:Res.opt (some x) M=.ok x M:=rfl
@[simp] theorem Ha {α:Type}:(Res.opt none M:Res α)=.bad:=rfl
@[simp] theorem NV {x:PV}:(Out.rt x M).res=.ok x M:=rfl
@[simp] theorem NU:(Out.nx ρ M).res=.ok .aN M:=rfl
@[simp] theorem KI {c:Addr}:(Out.exc c ρ M).res=.exc c M:=rfl
end
noncomputable def Pl:Nat->PV->Prop
 | 0,x=>match x with
  | .aN=>True
  | .int _=>True
  | .str x=>PyData.canLay0 (.str x)=true
  | _=>False
 | k+1,x=>match x with
  | .aN=>True
  | .int _=>True
  | .str x=>PyData.canLay0 (.str x)=true
  | .lst xs=>∀y∈xs,Pl k y
  | .tup xs=>∀y∈xs,Pl k y
  | _=>False
theorem kW {α β:Type} {f:α->Option β} {g:α->β}:∀{xs:List α},(∀x∈xs,f x=some (g x))->kb f xs=some (xs.map g)
 | [],_=>rfl
 | x::xs,h=>by
  unfold kb
  rw[h x (by simp),kW fun y hy=>h y (List.mem_cons_of_mem _ hy)]
  rfl
noncomputable def dM (k:Nat) (x:PV):PyData:=(flat [] k x).getD .none
theorem jH {M:aP}:∀(k:Nat) (x:PV),Pl k x->flat M k x=some (dM k x)
 | 0,x,h=>by
  cases x<;>simp_all [Pl,dM,flat,leaf]
 | k+1,x,h=>by
  cases x with
  | lst xs =>
   have h':∀y∈xs,Pl k y:=h
   have e:∀N:aP,flat N (k+1) (.lst xs)=some (.list (xs.map (dM k))):=fun N=>by
    simp only[flat]; rw[kW fun y hy=>jH k y (h' y hy)]; rfl
   rw[e,dM,e]; rfl
  | tup xs =>
   have h':∀y∈xs,Pl k y:=h
   have e:∀N:aP,flat N (k+1) (.tup xs)=some (.tuple (xs.map (dM k))):=fun N=>by
    simp only[flat]; rw[kW fun y hy=>jH k y (h' y hy)]; rfl
   rw[e,dM,e]; rfl
  | _=>simp_all [Pl,dM,flat,leaf]
theorem fH {k:Nat} {xs:List PV} (h:∀y∈xs,Pl k y):dM (k+1) (.lst xs)=.list (xs.map (dM k)):=by
 have e:flat [] (k+1) (.lst xs)=some (.list (xs.map (dM k))):=by
  simp only[flat]; rw[kW fun y hy=>jH k y (h y hy)]; rfl
 rw[dM,e]; rfl
theorem fI {k:Nat} {xs:List PV} (h:∀y∈xs,Pl k y):dM (k+1) (.tup xs)=.tuple (xs.map (dM k)):=by
 have e:flat [] (k+1) (.tup xs)=some (.tuple (xs.map (dM k))):=by
  simp only[flat]; rw[kW fun y hy=>jH k y (h y hy)]; rfl
 rw[dM,e]; rfl
theorem rX {k:Nat} (ih:∀x y,Pl k x->Pl k y->(PyData.eqv (dM k x) (dM k y)=true↔x=y)):∀xs ys:List PV,(∀y∈xs,Pl k y)->(∀y∈ys,Pl k y)->(PyData.eqvAll (xs.map (dM k)) (ys.map (dM k))=true↔xs=ys)
 | [],[],_,_=>by simp[PyData.eqvAll]
 | [],y::ys,_,_=>by simp[PyData.eqvAll]
 | x::xs,[],_,_=>by simp[PyData.eqvAll]
 | x::xs,y::ys,hx,hy=>by
  rw[zC,zC,PyData.eqvAll,Bool.and_eq_true,ih x y (hx x (by simp)) (hy y (by simp)),rX ih xs ys (fun z hz=>hx z (by simp[hz])) (fun z hz=>hy z (by simp[hz]))]
  simp
theorem cY {k:Nat}:dM k .aN=.none:=by cases k<;>rfl
theorem cZ {k:Nat} {i:Int}:dM k (.int i)=.int i:=by cases k<;>rfl
theorem cH {k:Nat} {x:Str} (h:PyData.canLay0 (.str x)=true):dM k (.str x)=.str x:=by cases k<;>simp[dM,flat,leaf,h]
inductive Pk:Nat->PV->Prop
 | aN {k:Nat}:Pk k .aN
 | int {k:Nat} (i:Int):Pk k (.int i)
 | str {k:Nat} {x:Str} (h:PyData.canLay0 (.str x)=true):Pk k (.str x)
 | lst {k:Nat} {xs:List PV} (h:∀y∈xs,Pl k y):Pk (k+1) (.lst xs)
 | tup {k:Nat} {xs:List PV} (h:∀y∈xs,Pl k y):Pk (k+1) (.tup xs)
theorem Pl.pk {k:Nat} {x:PV} (h:Pl k x):Pk k x:=by
 cases k with
 | zero =>
  cases x with
  | aN=>exact .aN
  | int i=>exact .int i
  | str x=>exact .str h
  | _=>exact h.elim
 | succ k =>
  cases x with
  | aN=>exact .aN
  | int i=>exact .int i
  | str x=>exact .str h
  | lst xs=>exact .lst h
  | tup xs=>exact .tup h
  | _=>exact h.elim
theorem yE (k:Nat):∀(x y:PV),Pl k x->Pl k y->(PyData.eqv (dM k x) (dM k y)=true↔x=y):=by
 induction k with
 | zero =>
  intro x y hx hy
  cases hx.pk with
  | aN=>cases hy.pk with
   | aN=>simp[cY,PyData.eqv]
   | int j=>simp[cY,cZ,PyData.eqv]
   | str h=>simp[cY,cH h,PyData.eqv]
  | int i=>cases hy.pk with
   | aN=>simp[cY,cZ,PyData.eqv]
   | int j=>simp[cZ,PyData.eqv]
   | str h=>simp[cZ,cH h,PyData.eqv]
  | str h=>cases hy.pk with
   | aN=>simp[cY,cH h,PyData.eqv]
   | int j=>simp[cZ,cH h,PyData.eqv]
   | str h'=>simp[cH h,cH h',PyData.eqv]
 | succ k ih =>
  intro x y hx hy
  cases hx.pk with
  | aN=>cases hy.pk with
   | aN=>simp[cY,PyData.eqv]
   | int j=>simp[cY,cZ,PyData.eqv]
   | str h=>simp[cY,cH h,PyData.eqv]
   | lst h=>simp[cY,fH h,PyData.eqv]
   | tup h=>simp[cY,fI h,PyData.eqv]
  | int i=>cases hy.pk with
   | aN=>simp[cY,cZ,PyData.eqv]
   | int j=>simp[cZ,PyData.eqv]
   | str h=>simp[cZ,cH h,PyData.eqv]
   | lst h=>simp[cZ,fH h,PyData.eqv]
   | tup h=>simp[cZ,fI h,PyData.eqv]
  | str h=>cases hy.pk with
   | aN=>simp[cY,cH h,PyData.eqv]
   | int j=>simp[cZ,cH h,PyData.eqv]
   | str h'=>simp[cH h,cH h',PyData.eqv]
   | lst h'=>simp[cH h,fH h',PyData.eqv]
   | tup h'=>simp[cH h,fI h',PyData.eqv]
  | lst h=>cases hy.pk with
   | aN=>simp[cY,fH h,PyData.eqv]
   | int j=>simp[cZ,fH h,PyData.eqv]
   | str h'=>simp[fH h,cH h',PyData.eqv]
   | lst h'=>rw[fH h,fH h',PyData.eqv,rX ih _ _ h h']; simp
   | tup h'=>simp[fH h,fI h',PyData.eqv]
  | tup h=>cases hy.pk with
   | aN=>simp[cY,fI h,PyData.eqv]
   | int j=>simp[cZ,fI h,PyData.eqv]
   | str h'=>simp[fI h,cH h',PyData.eqv]
   | lst h'=>simp[fI h,fH h',PyData.eqv]
   | tup h'=>rw[fI h,fI h',PyData.eqv,rX ih _ _ h h']; simp
theorem tm {b:Bool} {p:Prop} [Decidable p] (h:b=true↔p):b=decide p:=by
 cases b<;>simp_all
theorem Cv {neg:Bool} {x y:PV} {M:aP} {p:Prop} [Decidable p] (hx:Pl deep x) (hy:Pl deep y) (h:x=y↔p):dR neg x y M=.ok (.bl (if neg then !decide p else decide p)) M:=by
 unfold dR
 rw[jH deep x hx,jH deep y hy]
 dsimp only
 rw[tm ((yE deep x y hx hy).trans h)]
theorem oS {neg:Bool} {α:Type} {enc:α->PV} (hp:∀a,Pl deep (enc a)) (inj:∀a b,enc a=enc b->a=b) {a:α} {as:List α} [Decidable (a∈as)] {y:PV} {M:aP} (hy:o7 M y=some (as.map enc)) :
  lR neg (enc a) y M=.ok (.bl (if neg then !decide (a∈as) else decide (a∈as))) M:=by
 unfold lR
 rw[hy]
 dsimp only
 rw[jH deep _ (hp a),kW (g:=dM deep) fun z hz=>by
  obtain⟨b,_,rfl⟩:=List.mem_map.mp hz
  exact jH deep _ (hp b)]
 dsimp only
 have:((as.map enc).map (dM deep)).any (fun q=>PyData.eqv q (dM deep (enc a)))=decide (a∈as):=by
  refine tm ?_
  rw[List.any_eq_true]
  constructor
  ·rintro⟨q,hq,he⟩
   obtain⟨z,hz,rfl⟩:=List.mem_map.mp hq
   obtain⟨b,hb,rfl⟩:=List.mem_map.mp hz
   have:=inj _ _ ((yE deep _ _ (hp b) (hp a)).mp he)
   subst this
   exact hb
  ·intro hm
   exact⟨_,List.mem_map.mpr ⟨_,List.mem_map.mpr ⟨a,hm,rfl⟩,rfl⟩,(yE deep _ _ (hp a) (hp a)).mpr rfl⟩
 rw[this]
theorem kX {k:Nat} (i:Int):Pl k (.int i):=by cases k<;>trivial
theorem HP {k:Nat}:Pl k .aN:=by cases k<;>trivial
@[simp] theorem kY {neg:Bool} {i j:Int} {M:aP}:dR neg (.int i) (.int j) M=.ok (.bl (if neg then !decide (i=j) else decide (i=j))) M:=Cv (kX i) (kX j) (by simp)
@[simp] theorem HQ {neg:Bool} {i:Int} {ns:List Int} {M:aP}:lR neg (.int i) (.lst (ns.map .int)) M=.ok (.bl (if neg then !decide (i∈ns) else decide (i∈ns))) M:=oS (enc:=PV.int) (fun a=>kX a) (fun a b e=>by cases e; rfl) rfl
@[simp] theorem vD {neg:Bool} {i:Int} {ns:List Int} {M:aP}:lR neg (.int i) (.tup (ns.map .int)) M=.ok (.bl (if neg then !decide (i∈ns) else decide (i∈ns))) M:=oS (enc:=PV.int) (fun a=>kX a) (fun a b e=>by cases e; rfl) rfl
theorem pT {α:Type} {w:BM} {g:DG} {tc:DT} {d:DE} {M:aP} (enc:α->PV) (P:α->Bool) (f:α->PV) (R:dX->Prop) (hc:uF w M) :
  ∀(xs:List α) (ρ:dX) (acc:List PV),R ρ->(∀x∈xs,∀ ρ,R ρ->∃ ρ1,g (enc x) ρ=some ρ1/\R ρ1/\tc ρ1 M=.ok (P x) M/\(P x=true->d ρ1 M=.ok (f x) M))->acc.length+xs.length≤lim →
   nB w g tc d (xs.map enc) ρ M acc=.ok (acc++(xs.filter P).map f) M
 | [],ρ,acc,_,_,_=>by simp[nB]
 | x::xs,ρ,acc,hR,h,hl=>by
  obtain⟨ρ1,h1,h2,h3,h4⟩:=h x (by simp) ρ hR
  simp only[zE] at hl
  rw[zC,nB,h1]
  dsimp only
  rw[h3,Res.Aw]
  cases hp:P x with
  | true =>
   rw[if_pos rfl,h4 hp,Res.Aw,if_pos ⟨hc,by omega⟩,pT enc P f R hc xs ρ1 _ h2 (fun y hy=>h y (by simp[hy])) (by simp; omega),List.filter_cons_of_pos hp]
   simp
  | false =>
   rw[if_neg (by decide),if_pos hc,pT enc P f R hc xs ρ1 _ h2 (fun y hy=>h y (by simp[hy])) (by omega),List.filter_cons_of_neg (by simp[hp])]
theorem cu {α:Type} {live:Bool} {j9:List (Option Nat)} {di:DI} {g:DG} {tc:DT} {d:DE} {ρ:dX} {M M':aP} {w:BM} {xs:List α} (enc:α->PV) (P:α->Bool) (f:α->PV) (R:dX->Prop)
  (hi:di ρ M=.ok (xs.map enc,w) M') (hc:uF w M') (hR:R (Ax j9 ρ)) (h:∀x∈xs,∀ ρ,R ρ->∃ ρ1,g (enc x) ρ=some ρ1/\R ρ1/\tc ρ1 M'=.ok (P x) M'/\(P x=true->d ρ1 M'=.ok (f x) M')) (hl:xs.length≤lim) :
  dj live j9 di g tc d ρ M=rG live ((xs.filter P).map f) M':=by
 unfold dj
 rw[hi,ag,if_pos hc,pT enc P f R hc xs _ _ hR h (by simpa using hl)]
 rfl
theorem DK {di:DI} {g:DG} {s1:DS} {ρ:dX} {M M':aP} {xs:List PV} {w:BM} (hi:di ρ M=.ok (xs,w) M') (hc:uF w M'):hE di g s1 ρ M=qv w g s1 xs ρ M':=by
 unfold hE
 rw[hi,Res.el,if_pos hc]
@[simp] theorem eu {d:DE} {ρ:dX} {M M':aP} {xs:List PV} (h:d ρ M=.ok (.lst xs) M'):iL d ρ M=.ok (xs,none) M':=by unfold iL; rw[h]; rfl
theorem HR {d:DE} {ρ:dX} {M M':aP} {n:Nat} {xs:List PV} (h:d ρ M=.ok (.obj n) M') (hn:M'[n]? = some (.lst xs)):iL d ρ M=.ok (xs,some (n,.lst xs)) M':=by unfold iL; rw[h,ag]; dsimp only; rw[hn]
theorem HS {d:DE} {ρ:dX} {M M':aP} {xs:List PV} (h:d ρ M=.ok (.tup xs) M'):iT d ρ M=.ok (xs,none) M':=by unfold iT; rw[h]; rfl
noncomputable def oq (g:D1) (xs:List PV) (M:aP) (x:PV):Prop:=∃G,g xs M=.ok x (M++G)
theorem oq.trunc {g:D1} {xs:List PV} {M:aP} {x:PV} (h:oq g xs M x) (hb:PV.jg M.length x=true):trunc g xs M=.ok x M:=by
 obtain⟨G,e⟩:=h
 unfold L2.trunc
 rw[e,Dv (by simp) hb]
end L2
end
section
namespace L2
open PySem
section
variable {Q:Out->Prop} {ρ:dX} {M:aP} {s1 s2:DS} {d:DE} {t:DT}
noncomputable def yF (Q:Out->Prop) (s2:DS):Out->Prop
 | .nx ρ M=>Q (s2 ρ M)
 | o=>Q o
theorem aG (h:yF Q s2 (s1 ρ M)):Q (aE s1 s2 ρ M):=by
 unfold aE
 cases e:s1 ρ M<;>rw[e] at h<;>exact h
theorem tq {i:Nat} (x:PV) (M':aP) (h:d ρ M=.ok x M') (q:Q (.nx (ρ.set i (some x)) M')):Q (bx i d ρ M):=by
 unfold bx; rw[h]; exact q
theorem bh {i:Nat} (x:PV) (M':aP) (h:d ρ M=.ok x M') (q:Q (s2 (ρ.set i (some x)) M')):Q (aE (bx i d) s2 ρ M):=aG (tq x M' h q)
theorem hJ (k:Bool) (M':aP) (h:t ρ M=.ok k M') (q1:k=true->Q (s1 ρ M')) (q2:k=false->Q (s2 ρ M')):Q (bp t s1 s2 ρ M):=by
 unfold bp; rw[h,Res.el]
 cases k with
 | true=>exact q1 rfl
 | false=>exact q2 rfl
theorem K9 (M':aP) (h:t ρ M=.ok true M') (q1:Q (s1 ρ M')):Q (bp t s1 s2 ρ M):=hJ true M' h (fun _=>q1) nofun
theorem nu (M':aP) (h:t ρ M=.ok false M') (q2:Q (s2 ρ M')):Q (bp t s1 s2 ρ M):=hJ false M' h nofun (fun _=>q2)
theorem bS (x:PV) (M':aP) (h:d ρ M=.ok x M') (q:Q (.rt x M')):Q (bo d ρ M):=by
 unfold bo; rw[h]; exact q
theorem cD (x:PV) (M':aP) (h:d ρ M=.ok x M') (q:Q (.nx ρ M')):Q (cK d ρ M):=by
 unfold cK; rw[h]; exact q
theorem Mh {g:DG} (x:PV) (ρ':dX) (M':aP) (h:d ρ M=.ok x M') (hg:g x ρ=some ρ') (q:Q (.nx ρ' M')):Q (ES d g ρ M):=by
 unfold ES; rw[h,Res.el,hg]; exact q
theorem dU (q:Q (.nx ρ M)):Q (fc ρ M):=q
noncomputable def Body (w:BM) (R:dX->aP->Prop) (Q:Out->Prop):Out->Prop
 | .nx ρ M=>uF w M/\R ρ M
 | .ct ρ M=>uF w M/\R ρ M
 | .bk ρ M=>Q (.nx ρ M)
 | o=>Q o
theorem Cw {α:Type} {w:BM} {g:DG} (enc:α->PV) (R:List α->dX->aP->Prop) (xs:List α) (k:∀ ρ' M',R xs ρ' M'->Q (.nx ρ' M'))
  (hs:∀pre x post,xs=pre++x::post->∀ ρ M,R pre ρ M->∃ ρ1,g (enc x) ρ=some ρ1/\Body w (R (pre++[x])) Q (s1 ρ1 M)) :
  ∀(post pre:List α) (ρ:dX) (M:aP),xs=pre++post->R pre ρ M->Q (qv w g s1 (post.map enc) ρ M)
 | [],pre,ρ,M,e,h=>by rw[zI] at e; subst e; exact k ρ M h
 | x::post,pre,ρ,M,e,h=>by
  obtain⟨ρ1,h1,h2⟩:=hs pre x post e ρ M h
  rw[zC,qv,h1]
  dsimp only
  cases e2:s1 ρ1 M with
  | nx ρ' M' =>
   rw[e2] at h2
   dsimp only
   rw[if_pos h2.1]
   exact Cw enc R xs k hs post (pre++[x]) ρ' M' (by rw[e]; simp) h2.2
  | ct ρ' M' =>
   rw[e2] at h2
   dsimp only
   rw[if_pos h2.1]
   exact Cw enc R xs k hs post (pre++[x]) ρ' M' (by rw[e]; simp) h2.2
  | bk ρ' M'=>rw[e2] at h2; exact h2
  | rt x M'=>rw[e2] at h2; exact h2
  | exc c ρ' M'=>rw[e2] at h2; exact h2
  | bad=>rw[e2] at h2; exact h2
theorem hU {α:Type} {di:DI} {g:DG} (enc:α->PV) (R:List α->dX->aP->Prop) (xs:List α) (w:BM) (M1:aP) (hi:di ρ M=.ok (xs.map enc,w) M1) (hc:uF w M1) (h0:R [] ρ M1)
  (hs:∀pre x post,xs=pre++x::post->∀ ρ M,R pre ρ M->∃ ρ1,g (enc x) ρ=some ρ1/\Body w (R (pre++[x])) Q (s1 ρ1 M)) (k:∀ ρ' M',R xs ρ' M'->Q (.nx ρ' M')):Q (hE di g s1 ρ M):=by
 unfold hE
 rw[hi,Res.el,if_pos hc]
 exact Cw enc R xs k hs xs [] ρ M1 rfl h0
noncomputable def Fin (P:Res PV->Prop) (o:Out):Prop:=P o.res
theorem cU {n:Nat} {xs:List PV} {d:DS} {P:Res PV->Prop} (h:Fin P (d (xs.map some++List.replicate (n-xs.length) none) M)):P (fq n d xs M):=h
theorem bj {P:Res PV->Prop} {x:PV} (h:P (.ok x M)):Fin P (.rt x M):=h
theorem gY {P:Res PV->Prop} (h:P (.ok .aN M)):Fin P (.nx ρ M):=h
theorem fw {P:Res PV->Prop} {c:Addr} (h:P (.exc c M)):Fin P (.exc c ρ M):=h
theorem aq (h:Q (s2 ρ M)):yF Q s2 (.nx ρ M):=h
theorem jI {x:PV} (h:Q (.rt x M)):yF Q s2 (.rt x M):=h
theorem fA {c:Addr} (h:Q (.exc c ρ M)):yF Q s2 (.exc c ρ M):=h
theorem bK {w:BM} {R:dX->aP->Prop} (hc:uF w M) (h:R ρ M):Body w R Q (.nx ρ M):=⟨hc,h⟩
theorem HU {w:BM} {R:dX->aP->Prop} {c:Addr} (h:Q (.exc c ρ M)):Body w R Q (.exc c ρ M):=h
end
@[simp] theorem AN {M:aP} {o:MO}:(M++[o])[M.length]? = some o:=by simp
@[simp] theorem HV {M:aP} {o o':MO}:(M++[o]).set M.length o'=M++[o']:=by simp
theorem yG {n:Nat}:∀{xs:List PV},(∀x∈xs,PV.jg n x=true)->PV.nR n xs=true
 | [],_=>by rw[PV.nR]
 | x::xs,h=>by rw[PV.nR,h x (by simp),yG fun y hy=>h y (by simp[hy])]; rfl
theorem DL {n:Nat} {xs:List PV} (h:∀x∈xs,PV.jg n x=true):PV.jg n (.lst xs)=true:=by rw[PV.jg]; exact yG h
theorem uI {n:Nat} {xs:List PV} (h:∀x∈xs,PV.jg n x=true):PV.jg n (.tup xs)=true:=by rw[PV.jg]; exact yG h
@[simp] theorem Sz {n:Nat} {i:Int}:PV.jg n (.int i)=true:=by rw[PV.jg]
@[simp] theorem SA {n:Nat}:PV.jg n .aN=true:=by rw[PV.jg]
@[simp] theorem SD {n:Nat} {x:Str}:PV.jg n (.str x)=true:=by rw[PV.jg]
@[simp] theorem UQ {n:Nat} {b:Bool}:PV.jg n (.bl b)=true:=by rw[PV.jg]
end L2
end
section
namespace L2
open PySem PySem.Spec PyProof.Rows
noncomputable def AO (K:Fg):Sp:=fun vs H Q E=>∃(a:Addr) (ns:List Int),vs=[V.ref a]/\nK K H a (ns.map V.int)/\∀H',Q (.bl true) H'
theorem QY {K:Fg} {g:D1} (hg:∀ns M,∃M',g [.mh ns] M=.ok (.bl true) M') {vs:List V} {H:Hp} {Q:VK} {E:XK} (h:AO K vs H Q E):Gj K 1 g vs H Q E:=by
 obtain⟨a,ns,rfl,hS,q⟩:=h
 obtain⟨M',e⟩:=hg ns []
 refine⟨rfl,[],H,[],[.mh ns],⟨jf.refl H,rfl,List.nodup_nil,fun n a o h=>nomatch h⟩,.one (aJ.qm.mpr ⟨a,rfl,hS⟩),?_⟩
 rw[e]
 intro ι' S' H' v _ _ r
 rw[aJ.cz.mp r]
 exact q H'
theorem Fd {K:Fg} {g:D1} (hg:∀ns,∃M',g [.mh ns] []=.ok (.bl true) M') {vs:List V} {H:Hp} {Q:VK} {E:XK} (h:AO K vs H Q E):Gj K 1 g vs H Q E:=by
 obtain⟨a,ns,rfl,hS,q⟩:=h
 obtain⟨M',e⟩:=hg ns
 refine⟨rfl,[],H,[],[.mh ns],⟨jf.refl H,rfl,List.nodup_nil,fun n a o h=>nomatch h⟩,.one (aJ.qm.mpr ⟨a,rfl,hS⟩),?_⟩
 rw[e]
 intro ι' S' H' v _ _ r
 rw[aJ.cz.mp r]
 exact q H'
theorem UR {p:Addr->Prop} {a b c d:Addr} (ha:p a) (hb:p b) (hc:p c) (hd:p d):∀x∈[a,b,c,d],p x:=by
 intro x hx
 simp only[List.mem_cons,List.not_mem_nil,or_false] at hx
 rcases hx with rfl | rfl | rfl | rfl
 ·exact ha
 ·exact hb
 ·exact hc
 ·exact hd
theorem qG {p:Addr->Bool->Prop} {a b c d:Addr} {x y z u:Bool} (ha:p a x) (hb:p b y) (hc:p c z) (hd:p d u):∀C k,([(a,x),(b,y),(c,z),(d,u)]:List (Addr×Bool)).lookup C=some k->p C k:=by
 intro C k h
 simp only[List.lookup] at h
 split at h
 ·rename_i e; cases h; rw[LawfulBEq.eq_of_beq e]; exact ha
 split at h
 ·rename_i e; cases h; rw[LawfulBEq.eq_of_beq e]; exact hb
 split at h
 ·rename_i e; cases h; rw[LawfulBEq.eq_of_beq e]; exact hc
 split at h
 ·rename_i e; cases h; rw[LawfulBEq.eq_of_beq e]; exact hd
 cases h
theorem fQ.bad {P:Program} {w:World} {K:Fg} {mg:Str->Option Value} {base:Heap} {x:Str} {st:Stmt} {N ps:List Str} {k:Nat} (D:bB K mg x st ps) (S:aC N ps (ak st)):fQ P w K mg base (k+1) x ps.length (fq N.length fun _ _=>.bad) :=
 fQ.of D S fun f iO A outer s H E hr=>⟨fun pins s1 σ H1 D I h=>by
  obtain⟨_,_,_,_,_,_,h⟩:=h
  exact h.elim⟩
end L2
end
section
namespace L2
open PySem PySem.Spec PyProof.Rows PySem.W
section
variable {K:Fg} {hp:Heap} {mg:Str->Option Value} {x m q:Str} {st:Stmt} {ps:List Str} {C:Addr}
inductive FnAt (K:Fg) (v:Option (Option Value)) (x q:Str) (st:Stmt):Prop
 | mk {f:Addr} {oc kV dc pm cd ct:Value} {od an:Option Addr} {sl:Array (Option Value)} (a:v=some (some (.ref f)))
  (l:K.lookup f=some ⟨oc,od,.func (PySem.W.fnOf x q (jv st) (dN st) (ak st) .none kV dc pm an cd ct),sl⟩) (c:PySem.W.codeIn K cd q=true) (k:PySem.W.keepIn K (.ref f)=true) (j:PySem.W.isFn K (.ref f)=true):FnAt K v x q st
noncomputable def BO (x q:Str) (st:Stmt) (ps:List Str):Prop:=∀(kV doc pm:Value) (an:Option Addr) (iO ct:Value) (us:List Value),us.length=ps.length->bindArgs (PySem.W.fnOf x q (jv st) (dN st) (ak st) .none kV doc pm an iO ct) ⟨us,[]⟩=pure (ps.zip us)
theorem FnAt.de (h:FnAt K (nsIn K mainGlobals x) x x st) (X:K.In hp) (G:hp.Ns mainGlobals mg) (b:BO x x st ps:=by intro _ _ _ _ _ _ us hl; rcases us with _ | ⟨_,_ | ⟨_,_ | ⟨_,_ | ⟨_,_ | ⟨_,_ | ⟨_,us⟩⟩⟩⟩⟩⟩<;>first | rfl | cases hl | (simp at hl)):bB K mg x st ps:=by
 obtain⟨a,l,c,k,j⟩:=h
 exact⟨_,_,pH l c k,mg_of X G a,(pH l c k).binds b⟩
theorem FnAt.me (h:FnAt K (findIn K (.ref C) m) m q st) (c:BZ K C) (b:BO m q st ps:=by intro _ _ _ _ _ _ us hl; rcases us with _ | ⟨_,_ | ⟨_,_ | ⟨_,_ | ⟨_,_ | ⟨_,_ | ⟨_,us⟩⟩⟩⟩⟩⟩<;>first | rfl | cases hl | (simp at hl)):qx K C m q st ps:=by
 obtain⟨a,l,c',k,j⟩:=h
 exact⟨_,_,pH l c' k,⟨a,j,k⟩,c,(pH l c' k).binds b⟩
theorem FnAt.Wq (h:FnAt K (findIn K (.ref C) "__init__") "__init__" q st) (mk:makesIn K C=true) (kc:keepIn K (.ref C)=true) (nm:mg x=some (.ref C)) (b:BO "__init__" q st ps:=by intro _ _ _ _ _ _ us hl; rcases us with _ | ⟨_,_ | ⟨_,_ | ⟨_,_ | ⟨_,_ | ⟨_,_ | ⟨_,us⟩⟩⟩⟩⟩⟩<;>first | rfl | cases hl | (simp at hl)):AA K mg x C q st ps:=by
 obtain⟨a,l,c,k,j⟩:=h
 exact⟨_,_,pH l c k,⟨mk,a,j,kc⟩,nm,(pH l c k).binds b⟩
theorem FnAt.law {fa:Addr} (h:FnAt K (nsIn K mainGlobals "law") "law" "law" st) (X:K.In hp) (G:hp.Ns mainGlobals mg) (e:mg "law" = some (.ref fa)):∃kV dc pm an cd ct,GY K "law" "law" st fa (PySem.W.fnOf "law" "law" (jv st) (dN st) (ak st) .none kV dc pm an cd ct):=by
 obtain⟨a,l,c,k,j⟩:=h
 cases e.symm.trans (mg_of X G a)
 exact⟨_,_,_,_,_,_,pH l c k⟩
structure La (K:Fg) (x:Str) (C:Addr):Prop where
 a:nsIn K mainGlobals x=some (some (.ref C))
 e1:findIn K (.ref C) "__getattribute__" = some (some (.builtin "BaseException.__getattribute__"))
 e2:findIn K (.ref C) "__getattr__" = some none
 e3:findIn K (.ref C) "__class__" = some (some (.builtin "object.__class__"))
 e4:mroIn K C (.type "object")=some true
 e5:mroIn K C (.type "BaseException")=some true
 e6:isClsIn K C=true
 eg:specialIn K (.builtin "object.__class__") "__get__" = some (some (.builtin "getset_descriptor.__get__"))
 et:takesIn K (.builtin "object.__class__")=some true
theorem La.xc (h:La K x C):AH K C:=⟨h.e1,h.e2,h.e3,h.eg,h.et,h.e4,h.e5,h.e6⟩
structure Fe (K:Fg) (x:Str) (C:Addr):Prop where
 a:nsIn K mainGlobals x=some (some (.ref C))
 pg:plainGet K C Str.empty=true
 hd:hasDictIn K C=true
 po:plainOver K C=true
 sa:findIn K (.ref C) "__setattr__" = some (some (.builtin "object.__setattr__"))
theorem Fe.cl (h:Fe K x C):BZ K C:=⟨h.pg,h.hd,h.po,h.sa⟩
theorem Fe.fd (h:Fe K x C) {f:Str} (n:findIn K (.ref C) f=some none):j5 K C f:=⟨h.cl,n⟩
end
structure Zn where
 P:Program
 w:World
 K:Fg
 mg:Str->Option Value
 base:Heap
noncomputable abbrev Fn (z:Zn):=fQ z.P z.w z.K z.mg z.base
noncomputable abbrev Me (z:Zn):=xG z.P z.w z.K z.mg z.base
noncomputable abbrev In (z:Zn):=Cm z.P z.w z.K z.mg z.base
section
variable {P:Program} {w:World} {K:Fg} {mg:Str->Option Value} {base:Heap} {x m q:Str} {st:Stmt} {N ps:List Str} {k j n:Nat} {d:DS} {C:Addr} {g:D1}
theorem iM {sc:Scope} (a:sc.kind=.function:=by rfl) (b:sc.isCoroutine=false:=by rfl) (c:sc.isGenerator=false:=by rfl) (d:N.Nodup:=by decide +kernel) (e:N.take ps.length=ps:=by rfl)
  (f:∀x∈ps,sc.names.lookup x=some .local \/ sc.names.lookup x=some .cell:=by decide +kernel) (g:∀y∈sc.names,y.2≠.free:=by decide +kernel):aC N ps sc:=⟨a,b,c,d,e,f,g⟩
theorem fQ.go (D:bB K mg x st ps) (S:aC N ps (ak st))
  (hb:∀(f:Addr) (iO:Value) (A:Around) (outer:List Env) (s:Shared) (H:Hp) (E:XK),fL k (A.deeper (envOfC x (ak st) s.heap.objs.size f iO))->Good (iU (nL P w) P w K mg base N x (ak st) f iO A outer s H E) (fun _=>E) →
   BL (iU (nL P w) P w K mg base N x (ak st) f iO A outer s H E) (fun _=>E) (dN st) d):fQ P w K mg base (k+1) x ps.length (fq N.length d):=fQ.of D S fun f iO A outer s H E hr=>hb f iO A outer s H E hr (uG S hr)
theorem xG.go (D:qx K C m q st ps) (S:aC N ps (ak st))
  (hb:∀(f:Addr) (iO:Value) (A:Around) (outer:List Env) (s:Shared) (H:Hp) (E:XK),fL k (A.deeper (envOfC q (ak st) s.heap.objs.size f iO))->Good (iU (nL P w) P w K mg base N q (ak st) f iO A outer s H E) (fun _=>E) →
   BL (iU (nL P w) P w K mg base N q (ak st) f iO A outer s H E) (fun _=>E) (dN st) d):xG P w K mg base (k+1) C m ps.length (fq N.length d):=xG.of D S fun f iO A outer s H E hr=>hb f iO A outer s H E hr (uG S hr)
theorem Cm.go (D:AA K mg x C q st ps) (S:aC N ps (ak st))
  (hb:∀(f:Addr) (iO:Value) (A:Around) (outer:List Env) (s:Shared) (H:Hp) (E:XK),fL k (A.deeper (envOfC q (ak st) s.heap.objs.size f iO))->Good (iU (nL P w) P w K mg base N q (ak st) f iO A outer s H E) (fun _=>E) →
   BL (iU (nL P w) P w K mg base N q (ak st) f iO A outer s H E) (fun _=>E) (dN st) d):Cm P w K mg base (k+1) x C ps.length (fq N.length d):=Cm.of D S fun f iO A outer s H E hr=>hb f iO A outer s H E hr (uG S hr)
theorem QZ {f:Addr} {fd:FuncData} (F:GY K x q st f fd) (S:aC N ps (ak st))
  (hb:∀(iO:Value) (A:Around) (outer:List Env) (s:Shared) (H:Hp) (E:XK),fL k (A.deeper (envOfC q (ak st) s.heap.objs.size f iO))->Good (iU (nL P w) P w K mg base N q (ak st) f iO A outer s H E) (fun _=>E) →
   BL (iU (nL P w) P w K mg base N q (ak st) f iO A outer s H E) (fun _=>E) (dN st) d):lx P w K mg base (nL P w) (k+1) f fd ps (Gj K ps.length (fq N.length d)):=yy F S fun iO A outer s H E hr=>hb iO A outer s H E hr (uG S hr)
theorem fQ.up (F:fQ P w K mg base j x n g) (h:j≤k:=by first | omega | decide):fQ P w K mg base k x n g:=F.mono h
theorem xG.up (F:xG P w K mg base j C m n g) (h:j≤k:=by first | omega | decide):xG P w K mg base k C m n g:=F.mono h
theorem Cm.up (F:Cm P w K mg base j x C n g) (h:j≤k:=by first | omega | decide):Cm P w K mg base k x C n g:=F.mono h
end
end L2
end
section
namespace Hd
open PySem PySem.Spec PyProof.Rows PySem.W L2
section
variable {K:Fg} {l:List En} {e:En}
theorem Sat.at (h:Sat K l) (i:Nat) (hi:l[i]? = some e):e.1 K=e.2:=h _ (List.mem_of_getElem? hi)
theorem AQ {f:Fg->Bool} (h:(eb f).1 K=(eb f).2):f K=true:=by
 have h':zS.b (some (f K))=zS.b (some true):=h
 injection h' with h1; injection h1
theorem DN {f:Fg->Option Bool} {v:Option Bool} (h:(eo f v).1 K=(eo f v).2):f K=v:=by
 have h':zS.b (f K)=zS.b v:=h
 injection h'
theorem tu {f:Fg->Option (Option Value)} {v:Option (Option Value)} (h:(ev f v).1 K=(ev f v).2):f K=v:=by
 have h':zS.v (f K)=zS.v v:=h
 injection h'
theorem Q0 {g:Fg->Option (Option Value)} {x q:Str} {st:Stmt} (h:(ef g x q st).1 K=(ef g x q st).2):FnAt K (g K) x q st:=by
 have h':zS.f (Gp K (g K) q)=zS.f (some (PySem.W.fnOf x q (jv st) (dN st) (ak st) .none .none .none .none none .none .none,true)):=h
 injection h' with h1
 unfold Gp at h1
 split at h1
 ·rename_i f hf
  split at h1
  ·rename_i a1 a2 fd a4 hl
   injection h1 with h2
   injection h2 with h3 h4
   rw[Bool.and_eq_true,Bool.and_eq_true] at h4
   obtain⟨⟨h5,h6⟩,h7⟩:=h4
   obtain⟨n1,n2,n3,n4,n5,n6,n7,n8,n9,ZB,ZC,ZD,ZE,ZF,ZG⟩:=fd
   simp only[PySem.W.fnOf,FuncData.mk.injEq] at h3
   obtain⟨rfl,rfl,rfl,rfl,rfl,rfl,rfl,rfl,_,_,_,_,_,_,rfl⟩:=h3
   exact .mk hf hl h5 h6 h7
  ·cases h1
 ·cases h1
theorem Q3 {x:Str} {C:Addr} (h:Sat K (My x C)):La K x C :=
 ⟨tu (h.at 0 rfl),tu (h.at 1 rfl),tu (h.at 2 rfl),tu (h.at 3 rfl),DN (h.at 4 rfl),DN (h.at 5 rfl),AQ (h.at 6 rfl),tu (h.at 7 rfl),DN (h.at 8 rfl)⟩
theorem Q4 {x:Str} {C:Addr} (h:Sat K (RV x C)):Fe K x C :=
 ⟨tu (h.at 0 rfl),AQ (h.at 1 rfl),AQ (h.at 2 rfl),AQ (h.at 3 rfl),tu (h.at 4 rfl)⟩
variable {L:List (List En)} {g:List En}
theorem All.at (h:All L K) (i:Nat) (hi:L[i]? = some g):Sat K g:=h _ (List.mem_of_getElem? hi)
theorem All.b (h:All L K) (i:Nat) {f:Fg->Bool} (hi:L[i]? = some [eb f]):f K=true:=AQ ((h.at i hi).at 0 rfl)
theorem All.o (h:All L K) (i:Nat) {f:Fg->Option Bool} {v:Option Bool} (hi:L[i]? = some [eo f v]):f K=v:=DN ((h.at i hi).at 0 rfl)
theorem All.v (h:All L K) (i:Nat) {f:Fg->Option (Option Value)} {v:Option (Option Value)} (hi:L[i]? = some [ev f v]):f K=v:=tu ((h.at i hi).at 0 rfl)
theorem All.f (h:All L K) (i:Nat) {g:Fg->Option (Option Value)} {x q:Str} {st:Stmt} (hi:L[i]? = some [ef g x q st]):FnAt K (g K) x q st:=Q0 ((h.at i hi).at 0 rfl)
theorem All.x (h:All L K) (i:Nat) {x:Str} {C:Addr} (hi:L[i]? = some (My x C)):La K x C:=Q3 (h.at i hi)
theorem All.c (h:All L K) (i:Nat) {x:Str} {C:Addr} (hi:L[i]? = some (RV x C)):Fe K x C:=Q4 (h.at i hi)
end
theorem N4 {l:PySem.W.OpenLaw} {n k:Nat} {q:Program} {loose:List Str} {XP:(Str->Option Value)->Heap->Prop} {d:DefRec} {CX:World->zZ} {sp:Fg->Sp} {x:Str} {as:List Addr} {L:List (List En)}
  (hn:l.most=some n) (Ka:n≤sizeLine) (T5:d.params.defaults=[]) (hr:fL k callerA)
  (F:∀(w:World) (mg:Str->Option Value) (fa:Addr) (h:Heap) (K:Fg),K.In h->All L K->h.Ns mainGlobals mg->mg d.name=some (.ref fa) →
   ∃fd:FuncData,(∀(s:Shared) (u:Value),BindsTo s fd ⟨[u],[]⟩ [(x,u)]) ∧
    ∀base:Heap,K.In base->base.Ns mainGlobals mg->lx l.prog w K mg base (CX w) k fa fd [x] (sp K))
  (L7:∀(K:Fg) (H:Hp) (a:Addr) (ns:List Int),ns.length≤n->NC H->nK K H a (ns.map V.int)->sp K [.ref a] H (fun v _=>v=.bl true) fun _ _ _=>False)
  (T8:∀(w:World) (H:Hp) (s:Shared) (e:Value) (s':Shared),CX w [] H s (fun _ _ _=>False) e s'->False) :
  PySem.W.WalkO q loose XP (hook as L).says l.row.toRowW d [] (fun f vs=>PySem.call f vs):=by
 refine Att.Ai hn T5 fun w s₀ s₁ mg mb fa o pm cd doc a vs ns G Y ho hd Gu Qn NB hints hlen hg=>?_
 obtain⟨K,KX,hK⟩:=Y
 obtain⟨fd,hb,hF⟩:=F w mg fa _ K KX hK G.T.g Qn
 exact GX KX G.T.g G.T.b G.T.builtins G.T.nolimit hg NB hints (Nat.le_trans hlen Ka) hr hF hb (fun H hO hS=>L7 K H a ns hlen hO hS) fun H e s'=>T8 w H s₁ e s'
end Hd
end
section
namespace Sb
open PySem L2
inductive Pc where
 | pl (j k:Int)
 | pt (t s b:Int)
noncomputable def Pc.js:Pc->List Int
 | .pl j k=>[j,k]
 | .pt t s b=>[t,s,b]
noncomputable def Pc.enc:Pc->PV
 | .pl j k=>.tup [.str "plain",.int j,.int k]
 | .pt t s b=>.tup [.str "points",.int t,.int s,.int b]
noncomputable abbrev jj:=List Pc
noncomputable abbrev aV (ps:jj):PV:=.lst (ps.map Pc.enc)
noncomputable abbrev Sg:=Int×Nat
noncomputable def cE (s:Sg):PV:=.tup [.int s.1,.int s.2]
noncomputable abbrev bD (ss:List Sg):PV:=.lst (ss.map cE)
noncomputable abbrev gK:=Nat×Int×Int
noncomputable def df (s:gK):PV:=.tup [.int s.1,.int s.2.1,.int s.2.2]
noncomputable abbrev ck (w:List gK):PV:=.lst (w.map df)
noncomputable abbrev Rt:=Nat×List gK
noncomputable def wU (r:Rt):PV:=.tup [.int r.1,ck r.2]
noncomputable abbrev eC (rs:List Rt):PV:=.lst (rs.map wU)
noncomputable def bJ:Option Nat->PV
 | none=>.aN
 | some n=>.int n
noncomputable abbrev nv (ns:List Int):PV:=.lst (ns.map .int)
noncomputable abbrev lX (ns:List Nat):PV:=.lst (ns.map fun(n:Nat)=>PV.int (n:Int))
noncomputable def Pc.at (ps:jj) (n:Nat):Pc:=ps.getD n (.pl 0 0)
noncomputable def beyond (ps:jj) (a:Nat) (j:Int):Option Nat:=(List.range ps.length).find? fun k=>decide (k≠a) && decide (j∈(Pc.at ps k).js)
noncomputable def qH (p:Pc) (j:Int):List Int:=match p with
 | .pl a b=>[a,b].filter fun o=>decide (o≠j)
 | .pt t s b=>if j=t then[s,b] else[t]
theorem Mi (s:Sg):Pl deep (cE s):=by
 intro y hy
 simp only[List.mem_cons,List.not_mem_nil,or_false] at hy
 rcases hy with rfl | rfl<;>exact kX _
theorem HW (a b:Sg) (h:cE a=cE b):a=b:=by
 obtain⟨a1,a2⟩:=a
 obtain⟨b1,b2⟩:=b
 simp[cE] at h
 obtain⟨h1,h2⟩:=h
 subst h1
 have:a2=b2:=by omega
 subst this
 rfl
@[simp] theorem SE {neg:Bool} {j:Int} {n:Nat} {ss:List Sg} {M:aP}:lR neg (.tup [.int j,.int n]) (bD ss) M=.ok (.bl (if neg then !decide ((j,n)∈ss) else decide ((j,n)∈ss))) M:=by
 show lR neg (cE (j,n)) _ M=_
 exact oS (enc:=cE) Mi HW (a:=(j,n)) Ao
@[simp] theorem fR (p:Pc) (M:aP):bL [p.enc] M=.ok (nv p.js) M:=by cases p<;>rfl
@[simp] theorem Wr {M:aP}:dR false (.str "plain") (.str "plain") M=.ok (.bl true) M:=by with_unfolding_all rfl
@[simp] theorem Ws {M:aP}:dR false (.str "points") (.str "plain") M=.ok (.bl false) M:=by with_unfolding_all rfl
@[simp] theorem Wt {M:aP}:dR false (.str "plain") (.str "points") M=.ok (.bl false) M:=by with_unfolding_all rfl
@[simp] theorem Wu {M:aP}:dR false (.str "points") (.str "points") M=.ok (.bl true) M:=by with_unfolding_all rfl
theorem rB {xs:List PV} {i:Nat} {x:PV} {M:aP} (h:xs[i]? = some x):aW (.tup xs) (.int i) M=.ok x M:=by
 have hl:i<xs.length:=(List.getElem?_eq_some_iff.mp h).1
 simp only[aW,Hc,EF,EE]
 rw[if_pos (by omega),if_pos (by omega)]
 simp[h]
theorem eB {xs:List PV} {i:Nat} {x:PV} {M:aP} (h:xs[i]? = some x):aW (.lst xs) (.int i) M=.ok x M:=by
 have hl:i<xs.length:=(List.getElem?_eq_some_iff.mp h).1
 simp only[aW,Ao,EF,EE]
 rw[if_pos (by omega),if_pos (by omega)]
 simp[h]
@[simp] theorem Mj {x:PV} {xs:List PV} {M:aP}:aW (.tup (x::xs)) (.int 0) M=.ok x M:=rB (i:=0) rfl
@[simp] theorem Wv {x y:PV} {xs:List PV} {M:aP}:aW (.tup (x::y::xs)) (.int 1) M=.ok y M:=rB (i:=1) rfl
@[simp] theorem Q5 {x y z:PV} {xs:List PV} {M:aP}:aW (.tup (x::y::z::xs)) (.int 2) M=.ok z M:=rB (i:=2) rfl
@[simp] theorem Q6 {x y z u:PV} {xs:List PV} {M:aP}:aW (.tup (x::y::z::u::xs)) (.int 3) M=.ok u M:=rB (i:=3) rfl
@[simp] theorem bT {xs:List PV} {M:aP} (h:xs.length≤100):rG false xs M=.ok (.lst xs) M:=jM (Nat.le_trans h (by decide))
theorem fi (p:Pc) (j:Int) (M:aP):fY bL [p.enc,.int j] M=.ok (nv (qH p j)) M:=by
 cases p with
 | pl a b =>
  have e:=fR (.pl a b) M
  simp only[Pc.enc] at e
  simp only[fY,fq,Pc.enc]
  simp
  rw[cu (xs:=[a,b]) (w:=none) (M':=M) PV.int (fun o=>decide (o≠j)) PV.int (fun ρ=>∃y,ρ=[y,some (.int j)]) (by simp[e]; rfl) trivial ⟨none,rfl⟩ (fun x _ ρ hρ=>?_) (Nat.le_trans (show 2≤3 by decide) (by decide))]
  ·rw[bT (by simp; exact Nat.le_trans (List.length_filter_le _ _) (show 2≤100 by decide))]
   rfl
  ·obtain⟨y,rfl⟩:=hρ
   exact⟨_,rfl,⟨_,rfl⟩,by simp,fun _=>by simp⟩
 | pt t s b =>
  simp only[fY,fq,Pc.enc]
  simp
  by_cases h:j=t<;>simp[h,qH]
theorem oT {ps:jj} {n:Nat} (h:n<ps.length):ps[n]? = some (Pc.at ps n):=by
 unfold Pc.at
 rw[List.getD_eq_getElem?_getD,List.getElem?_eq_getElem h]
 rfl
theorem Cy {ps:jj} {n:Nat} (h:n<ps.length):Pc.at ps n∈ps:=List.mem_of_getElem? (oT h)
theorem ot {ps:jj} {n:Nat} {M:aP} (h:n<ps.length):aW (aV ps) (.int n) M=.ok (Pc.at ps n).enc M:=eB (by rw[zJ,oT h]; rfl)
noncomputable def Lb (ps:jj) (j:Int):List Nat:=(List.range ps.length).filter fun k=>decide (j∈(Pc.at ps k).js)
theorem HX (ps:jj):pq (ps.map Pc.enc)=(List.range ps.length).map fun k=>.tup [.int k,(Pc.at ps k).enc]:=by
 refine List.ext_getElem? fun i=>?_
 unfold pq
 rw[zJ,List.getElem?_zipIdx,zJ,zJ]
 by_cases h:i<ps.length
 ·rw[oT h,List.getElem?_range h]
  simp
 ·rw[List.getElem?_eq_none (by omega),List.getElem?_eq_none (by simp; omega)]
  rfl
theorem xK {n:Nat} (h:n≤100):(List.range n).length≤lim:=by
 rw[List.length_range]; exact Nat.le_trans h (by decide)
theorem eZ (ps:jj) (j:Int) (M:aP) (hl:ps.length≤100):du bL [aV ps,.int j] M=.ok (lX (Lb ps j)) M:=by
 simp only[du,fq]
 simp
 rw[cu (xs:=List.range ps.length) (w:=none) (M':=M) (fun k=>.tup [.int k,(Pc.at ps k).enc]) (fun k=>decide (j∈(Pc.at ps k).js)) (fun(k:Nat)=>.int k) (fun ρ=>∃y z,ρ=[y,z,some (.int j)]) ?_ trivial ⟨none,none,rfl⟩ (fun x _ ρ hρ=>?_) (xK hl)]
 ·rw[bT (by simp; exact Nat.le_trans (List.length_filter_le _ _) (by rw[List.length_range]; exact hl))]
  rfl
 ·unfold iE; simp[HX]
 ·obtain⟨y,z,rfl⟩:=hρ
  exact⟨_,rfl,⟨_,_,rfl⟩,by simp,fun _=>by simp⟩
theorem dE (ps:jj) (n:Nat) (j:Int) (M:aP) (hl:ps.length≤100):dz (du bL) [aV ps,.int n,.int j] M=.ok (bJ (beyond ps n j)) M:=by
 have loop:∀(xs:List Nat) (y:Option PV),aE (qv none (gN 3) (bp (aQ (ax (dR true) (ae 3) (ae 1))) (bo (ae 3)) fc) (xs.map fun(n:Nat)=>PV.int (n:Int))) (bo (dC .aN)) [some (aV ps),some (.int n),some (.int j),y] M=.rt (bJ (xs.find? fun k=>decide (k≠n))) M:=by
  intro xs
  induction xs with
  | nil=>intro y; rfl
  | cons x xs ih =>
   intro y
   by_cases h:x=n
   ·subst h
    have:=ih (some (.int x))
    simp[qv] at this ⊢
    exact this
   ·have h':¬(x:Int)=n:=by omega
    simp[qv,h,h',bJ]
 simp only[dz,fq]
 have:=loop (Lb ps j) none
 simp only[K6] at this ⊢
 rw[DK (w:=none) (M':=M) (eu (by simp; exact eZ ps j M hl)) trivial]
 simp
 simp at this
 rw[this]
 simp[Lb,beyond,Bool.and_comm]
end Sb
end
section
namespace Sb
open PySem L2
theorem N5 {n:Nat} (s:gK):PV.jg n (df s)=true:=uI fun x hx=>by
 simp only[List.mem_cons,List.not_mem_nil,or_false] at hx
 rcases hx with rfl | rfl | rfl<;>simp
theorem HY {n:Nat} (w:List gK):PV.jg n (ck w)=true:=DL fun x hx=>by
 obtain⟨s,_,rfl⟩:=List.mem_map.mp hx
 exact N5 s
theorem Q7 {n:Nat} (r:Rt):PV.jg n (wU r)=true:=uI fun x hx=>by
 simp only[List.mem_cons,List.not_mem_nil,or_false] at hx
 rcases hx with rfl | rfl
 ·simp
 ·exact HY _
theorem qI {n:Nat} {α:Type} {enc:α->PV} (h:∀a,PV.jg n (enc a)=true) (as:List α):PV.jg n (.lst (as.map enc))=true:=DL fun x hx=>by
 obtain⟨a,_,rfl⟩:=List.mem_map.mp hx
 exact h a
noncomputable def kZ (ps:jj) (ss:List Sg):Nat->List gK->Int->Nat->List (List gK)
 | 0,_,_,_=>[]
 | n+1,way,j,a=>if a∈way.map (·.1) then[] else(qH (Pc.at ps a) j).flatMap fun o=>match beyond ps a o with
  | none=>[way++[(a,j,o)]]
  | some b=>if (o,b)∈ss then[way++[(a,j,o)]] else kZ ps ss n (way++[(a,j,o)]) o b
theorem vE (p:Pc) (j:Int):(qH p j).length≤2:=by
 cases p with
 | pl a b=>exact List.length_filter_le _ _
 | pt t s b=>unfold qH; dsimp only; split<;>simp
theorem xM {ps:jj} {a b:Nat} {j:Int} (h:beyond ps a j=some b):b<ps.length/\b≠a/\j∈(Pc.at ps b).js:=by
 unfold beyond at h
 have h1:=List.mem_of_find?_eq_some h
 have h2:=List.find?_some h
 simp at h1 h2
 exact⟨h1,h2.1,h2.2⟩
theorem k6 {α β:Type} {f:α->List β} {k:Nat}:∀(xs:List α),(∀x∈xs,(f x).length≤k)->(xs.flatMap f).length≤xs.length*k
 | [],_=>by simp
 | x::xs,h=>by
  have h1:=h x (by simp)
  have h2:=k6 xs fun y hy=>h y (by simp[hy])
  rw[List.flatMap_cons,List.length_append,zE,Nat.succ_mul]
  omega
noncomputable def gL (ps:jj) (ss:List Sg) (n:Nat) (way:List gK) (j:Int) (a:Nat) (o:Int):List (List gK):=match beyond ps a o with
  | none=>[way++[(a,j,o)]]
  | some b=>if (o,b)∈ss then[way++[(a,j,o)]] else kZ ps ss n (way++[(a,j,o)]) o b
theorem jq (ps:jj) (ss:List Sg) (n:Nat) (way:List gK) (j:Int) (a:Nat):kZ ps ss (n+1) way j a=if a∈way.map (·.1) then[] else(qH (Pc.at ps a) j).flatMap (gL ps ss n way j a):=rfl
theorem kz (ps:jj) (ss:List Sg):∀(n:Nat) (way:List gK) (j:Int) (a:Nat),(kZ ps ss n way j a).length≤2 ^ n
 | 0,way,j,a=>Nat.zero_le _
 | n+1,way,j,a=>by
  rw[jq]
  split
  ·simp
  ·have h:∀o∈qH (Pc.at ps a) j,(gL ps ss n way j a o).length≤2 ^ n:=fun o _=>by
    have:=Nat.one_le_two_pow (n:=n)
    unfold gL
    split
    ·exact this
    ·split
     ·exact this
     ·exact kz ps ss n _ _ _
   have h1:=k6 _ h
   have h2:=Nat.mul_le_mul_right (2 ^ n) (vE (Pc.at ps a) j)
   rw[Nat.pow_succ]
   omega
theorem qJ (ps:jj) (ss:List Sg) (n:Nat) (way:List gK) (j:Int) (a:Nat) (o:Int):(gL ps ss n way j a o).length≤2 ^ n:=by
 have:=Nat.one_le_two_pow (n:=n)
 unfold gL
 split
 ·exact this
 ·split
  ·exact this
  ·exact kz ps ss n _ _ _
theorem DP {n:Nat} (h:n≤20):2 ^ n≤1048576:=Nat.pow_le_pow_right (by decide) h
structure qK (ps:jj) (way:List gK) (a:Nat):Prop where
 pd:ps.length≤16
 lt:a<ps.length
 nd:(way.map (·.1)).Nodup
 all:∀s∈way,s.1<ps.length
theorem qK.step {ps:jj} {way:List gK} {a b:Nat} {j o:Int} (h:qK ps way a) (ha:a∉way.map (·.1)) (hb:beyond ps a o=some b):qK ps (way++[(a,j,o)]) b:=by
 refine⟨h.pd,(xM hb).1,?_,fun s hs=>?_⟩
 ·rw[List.map_append,List.nodup_append]
  refine⟨h.nd,by simp,fun x hx y hy=>?_⟩
  simp at hy
  subst hy
  rintro rfl
  exact ha hx
 ·rcases List.mem_append.mp hs with hs | hs
  ·exact h.all s hs
  ·simp at hs
   subst hs
   exact h.lt
theorem oU:∀{n:Nat} {xs:List Nat},xs.Nodup->(∀x∈xs,x<n)->xs.length≤n
 | 0,xs,_,hl=>by
  cases xs with
  | nil=>simp
  | cons x xs=>exact absurd (hl x (by simp)) (by omega)
 | n+1,xs,h,hl=>by
  have h1:(xs.erase n).Nodup:=h.erase n
  have h2:∀x∈xs.erase n,x<n:=fun x hx=>by
   have h3:=hl x (List.mem_of_mem_erase hx)
   have h4:x≠n:=fun e=>by subst e; exact(h.not_mem_erase) hx
   omega
  have h3:=oU h1 h2
  have h4:=List.length_erase_le (a:=n) (l:=xs)
  by_cases hm:n∈xs
  ·rw[List.length_erase_of_mem hm] at h3
   omega
  ·rw[List.erase_of_not_mem hm] at h3
   omega
theorem qK.len {ps:jj} {way:List gK} {a:Nat} (h:qK ps way a):way.length≤ps.length:=by
 have:=oU h.nd fun x hx=>by
  obtain⟨s,hs,rfl⟩:=List.mem_map.mp hx
  exact h.all s hs
 simpa using this
noncomputable def DQ (n:Nat) (g:D1):Prop:=∀ps ss way j a M,qK ps way a->ps.length+1≤way.length+n->n≤20->g [aV ps,bD ss,ck way,.int j,.int a] M=.ok (.lst ((kZ ps ss n way j a).map ck)) M
theorem HZ {way:List gK} {a:Nat} {M:aP}:lR false (.int a) (.lst (way.map fun s=>PV.int s.1)) M=.ok (.bl (decide (a∈way.map (·.1)))) M:=by
 have e:(way.map fun s=>PV.int s.1)=(way.map fun s=>((s.1:Nat):Int)).map PV.int:=by simp
 rw[e,HQ]
 have:((a:Int)∈way.map fun s=>((s.1:Nat):Int))↔a∈way.map (·.1):=by
  simp only[List.mem_map]
  constructor
  ·rintro⟨s,hs,h⟩; exact⟨s,hs,by omega⟩
  ·rintro⟨s,hs,h⟩; exact⟨s,hs,by omega⟩
 simp only[this]
 rfl
theorem Ia {ρ:dX} {M:aP} {way:List gK} (i:Nat) (h:ρ[i]? = some (some (ck way))) (hl:way.length≤100):dj false [none] (iL (ae i)) (gN 0) zT (ax aW (ae 0) (dC (.int 0))) ρ M=.ok (.lst (way.map fun s=>PV.int s.1)) M:=by
 rw[cu (xs:=way) (w:=none) (M':=M) df (fun _=>true) (fun s=>PV.int s.1) (fun ρ=>∃y,ρ=[y]) (eu (by rw[aS,h])) trivial ⟨none,rfl⟩ (fun x _ ρ hρ=>?_) (Nat.le_trans hl (by decide))]
 ·rw[List.filter_eq_self.mpr (fun _ _=>rfl),bT (by rw[zK]; exact hl)]
 ·obtain⟨y,rfl⟩:=hρ
  exact⟨_,rfl,⟨_,rfl⟩,rfl,fun _=>by simp[df]⟩
theorem N6 {n:Nat} {g:D1} (h:DQ n g):DQ (n+1) (trunc (tj (fY bL) (dz (du bL)) g)):=by
 intro ps ss way j a M ok hn Ka
 have hl:=ok.len
 have hf:=ok.pd
 refine oq.trunc ?_ (qI HY _)
 refine cU (P:=fun r=>∃G,r=.ok _ (M++G)) ?_
 simp only[zC,zD,zE,zF,Nat.zero_add,Nat.reduceAdd,Nat.reduceSub,List.replicate,zG,zH]
 have EL:aQ (ax (lR false) (ae 4) (dj false [none] (iL (ae 2)) (gN 0) zT (ax aW (ae 0) (dC (.int 0))))) [some (aV ps),some (bD ss),some (ck way),some (.int j),some (.int a),none,none,none,none] M=.ok (decide (a∈way.map (·.1))) M:=by
  simp only[cX,aI,aS,zB,zA,ag]
  rw[Ia (way:=way) 2 rfl (by omega)]
  simp only[ag,HZ]
 refine aG (hJ _ _ EL (fun ha=>?_) fun ha=>?_)
 ·have Lc:=of_decide_eq_true ha
  refine bS (.lst []) M (by simp) (jI (bj ⟨[],?_⟩))
  rw[jq,if_pos Lc]
  simp
 ·have Lc:=of_decide_eq_false ha
  refine dU (aq (bh (.obj M.length) (M++[.lst []]) (by simp) ?_))
  dsimp only[List.set]
  refine aG (hU PV.int (fun pre ρ M'=>∃y6 y7 y8,ρ=[some (aV ps),some (bD ss),some (ck way),some (.int j),some (.int a),some (.obj M.length),y6,y7,y8]/\M'=M++[.lst ((pre.flatMap (gL ps ss n way j a)).map ck)]) (qH (Pc.at ps a) j) none _
   (eu (by simp[ot ok.lt,fi])) trivial ⟨none,none,none,rfl,rfl⟩ ?_ ?_)
  ·rintro pre o post hx ρ M' ⟨y6,y7,y8,rfl,rfl⟩
   have va:(pre.flatMap (gL ps ss n way j a)).length≤2*2 ^ n:=by
    have h1:=k6 pre fun o _=>qJ ps ss n way j a o
    have h2:pre.length≤2:=by
     have:=vE (Pc.at ps a) j
     rw[hx] at this
     simp at this
     omega
    exact Nat.le_trans h1 (Nat.mul_le_mul_right _ h2)
   have Ib:=qJ ps ss n way j a o
   have C7:=DP (n:=n) (by omega)
   refine⟨_,rfl,?_⟩
   dsimp only[List.set]
   refine bh (ck (way++[(a,j,o)])) (M++[.lst ((pre.flatMap (gL ps ss n way j a)).map ck)]) (by simp[df]; rw[bT (by simp; omega)]; simp[df]) ?_
   dsimp only[List.set]
   refine bh (bJ (beyond ps a o)) (M++[.lst ((pre.flatMap (gL ps ss n way j a)).map ck)]) (by simp[dE _ _ _ _ (show ps.length≤100 by omega)]) ?_
   dsimp only[List.set]
   rw[List.flatMap_append,List.flatMap_cons,List.flatMap_nil,zI]
   cases hb:beyond ps a o with
   | none =>
    refine K9 (M++[.lst ((pre.flatMap (gL ps ss n way j a)).map ck)]) (by simp[bJ,sV,j4]) (cD .aN (M++[.lst ((pre.flatMap (gL ps ss n way j a)++[way++[(a,j,o)]]).map ck)]) (by simp[dq,Dq,lim,-List.length_flatMap]; omega) (bK trivial ⟨_,_,_,rfl,?_⟩))
    simp[gL,hb]
   | some b =>
    refine hJ (decide ((o,b)∈ss)) (M++[.lst ((pre.flatMap (gL ps ss n way j a)).map ck)]) (by simp[bJ,sV,j4]) (fun hs=>?_) fun hs=>?_
    ·have Am:=of_decide_eq_true hs
     refine cD .aN (M++[.lst ((pre.flatMap (gL ps ss n way j a)++[way++[(a,j,o)]]).map ck)]) (by simp[dq,Dq,lim,-List.length_flatMap]; omega) (bK trivial ⟨_,_,_,rfl,?_⟩)
     simp[gL,hb,Am]
    ·have Am:=of_decide_eq_false hs
     have hg:=h ps ss (way++[(a,j,o)]) o b (M++[.lst ((pre.flatMap (gL ps ss n way j a)).map ck)]) (ok.step Lc hb) (by simp; omega) (by omega)
     simp only[gL,hb,if_neg Am] at Ib ⊢
     refine cD .aN (M++[.lst ((pre.flatMap (gL ps ss n way j a)++kZ ps ss n (way++[(a,j,o)]) o b).map ck)]) ?_ (bK trivial ⟨_,_,_,rfl,rfl⟩)
     simp[bJ,uE,Dq] at hg ⊢
     rw[hg]
     simp[lim,-List.length_flatMap]
     omega
  ·rintro ρ' M' ⟨y6,y7,y8,rfl,rfl⟩
   refine aq (bS (.lst ((kZ ps ss (n+1) way j a).map ck)) (M++[.gone]) ?_ (bj ⟨[.gone],rfl⟩))
   rw[jq,if_neg Lc]
   simp[yu]
end Sb
end
section
namespace Sb
open PySem L2
theorem US (n:Nat):BK 0 n=(List.range n).map fun(k:Nat)=>PV.int k:=by
 unfold BK
 refine List.map_congr_left fun k _=>?_
 simp
theorem tw {d:DE} {ρ:dX} {M:aP} {n:Nat} (h:d ρ M=.ok (.int n) M) (hn:n≤100000):tT [d] ρ M=.ok ((List.range n).map fun(k:Nat)=>PV.int k,none) M:=by
 have e:eR [d] ρ M=.ok [.int n] M:=by rw[aB,h]; rfl
 unfold tT
 rw[e,ag]
 dsimp only
 have Yp:(2:Int) ^ 62=4611686018427387904:=by simp only[Int.reducePow]
 rw[Yp,if_pos ⟨by omega,by omega⟩,Int.toNat_natCast,US]
theorem QQ (p:Pc) (M:aP):EN false p.enc (some 1) none M=.ok (.tup (p.js.map .int)) M:=by cases p<;>rfl
theorem kA (p:Pc) (j:Int) (M:aP):m4 [p.enc,.int j] M=.ok (nv (qH p j)) M:=by
 cases p with
 | pl a b =>
  simp only[m4,fq,Pc.enc]
  simp
  rw[cu (xs:=[a,b]) (w:=none) (M':=M) PV.int (fun o=>decide (o≠j)) PV.int (fun ρ=>∃y,ρ=[y,some (.int j)]) (HS (QQ (.pl a b) M)) trivial ⟨none,rfl⟩ (fun x _ ρ hρ=>?_) (Nat.le_trans (show 2≤3 by decide) (by decide))]
  ·rw[bT (by simp; exact Nat.le_trans (List.length_filter_le _ _) (show 2≤100 by decide))]
   rfl
  ·obtain⟨y,rfl⟩:=hρ
   exact⟨_,rfl,⟨_,rfl⟩,by simp,fun _=>by simp⟩
 | pt t s b =>
  simp only[m4,fq,Pc.enc]
  simp
  by_cases h:j=t<;>simp[h,qH]
theorem fU (ps:jj) (n:Nat) (j:Int) (M:aP) (hl:ps.length≤100):ki [aV ps,.int n,.int j] M=.ok (bJ (beyond ps n j)) M:=by
 unfold ki
 refine cU (P:=fun r=>r=.ok (bJ (beyond ps n j)) M) ?_
 simp only[zC,zD,zE,zF,Nat.zero_add,Nat.reduceAdd,Nat.reduceSub,List.replicate,zG,zH]
 refine bh (lX ((List.range ps.length).filter fun k=>decide (k≠n) && decide (j∈(Pc.at ps k).js))) M ?_ ?_
 ·rw[cu (xs:=List.range ps.length) (w:=none) (M':=M) (fun(k:Nat)=>PV.int k) (fun k=>decide (k≠n) && decide (j∈(Pc.at ps k).js)) (fun(k:Nat)=>PV.int k) (fun ρ=>∃y,ρ=[y,some (.int n),some (.int j),some (aV ps)])
   (tw (by simp[cc]) (by omega)) trivial ⟨none,rfl⟩ (fun x hx ρ hρ=>?_) (xK hl)]
  ·rw[bT (by rw[zK]; exact Nat.le_trans (List.length_filter_le _ _) (by rw[List.length_range]; exact hl))]
  ·obtain⟨y,rfl⟩:=hρ
   have Yq:x<ps.length:=List.mem_range.mp hx
   refine⟨_,rfl,⟨_,rfl⟩,?_,fun _=>by simp⟩
   by_cases e:x=n
   ·simp[e]
   ·have e':¬(x:Int)=n:=by omega
    simp[e,e',ot Yq,QQ]
 ·dsimp only[List.set]
  refine bS (bJ (beyond ps n j)) M ?_ (bj rfl)
  have hb:beyond ps n j=((List.range ps.length).filter fun k=>decide (k≠n) && decide (j∈(Pc.at ps k).js)).head? := by
   unfold beyond
   rw[List.head?_filter]
  cases e:((List.range ps.length).filter fun k=>decide (k≠n) && decide (j∈(Pc.at ps k).js)) with
  | nil=>rw[hb,e]; simp[kd,bJ]
  | cons x xs =>
   rw[hb,e]
   simp[kd,bJ]
   exact eB (i:=0) rfl
noncomputable def DR (n:Nat) (g:D1):Prop:=∀ps ss way j a M,qK ps way a->ps.length+1≤way.length+n->n≤20->g [aV ps,bD ss,ck way,.int a,.int j] M=.ok (.lst ((kZ ps ss n way j a).map ck)) M
noncomputable def Ld (g:D1):Prop:=∀(p:Pc) (j:Int) (M:aP),g [Pc.enc p,.int j] M=.ok (nv (qH p j)) M
noncomputable def uJ (g:D1):Prop:=∀(ps:jj) (n:Nat) (j:Int) (M:aP),ps.length≤100->g [aV ps,.int n,.int j] M=.ok (bJ (beyond ps n j)) M
theorem N7 {n:Nat} {go gb g:D1} (ho:Ld go) (JK:uJ gb) (h:DR n g):DR (n+1) (trunc (pQ go gb g)):=by
 intro ps ss way j a M ok hn Ka
 have hl:=ok.len
 have hf:=ok.pd
 refine oq.trunc ?_ (qI HY _)
 unfold pQ
 refine cU (P:=fun r=>∃G,r=.ok _ (M++G)) ?_
 simp only[zC,zD,zE,zF,Nat.zero_add,Nat.reduceAdd,Nat.reduceSub,List.replicate,zG,zH]
 refine bh (.obj M.length) (M++[.lst []]) (by simp) ?_
 dsimp only[List.set]
 have EL:aQ (ax (lR false) (ae 3) (dj false [none] (iL (ae 2)) (gN 0) zT (ax aW (ae 0) (dC (.int 0))))) [some (aV ps),some (bD ss),some (ck way),some (.int a),some (.int j),some (.obj M.length),none,none,none] (M++[.lst []])=.ok (decide (a∈way.map (·.1))) (M++[.lst []]):=by
  simp only[cX,aI,aS,zB,zA,ag]
  rw[Ia (way:=way) 2 rfl (by omega)]
  simp only[ag,HZ]
 refine aG (hJ _ _ EL (fun ha=>?_) fun ha=>?_)
 ·have Lc:=of_decide_eq_true ha
  refine bS (.lst []) (M++[.gone]) (by simp[yu]) (jI (bj ⟨[.gone],?_⟩))
  rw[jq,if_pos Lc]
  simp
 ·have Lc:=of_decide_eq_false ha
  refine dU (aq (aG (hU PV.int (fun pre ρ M'=>∃y6 y7 y8 G,ρ=[some (aV ps),some (bD ss),some (ck way),some (.int a),some (.int j),some (.obj (M++G).length),y6,y7,y8]/\M'=(M++G)++[.lst ((pre.flatMap (gL ps ss n way j a)).map ck)]) (qH (Pc.at ps a) j) none (M++[.lst []])
   (eu (by simp[ot ok.lt,ho (Pc.at ps a) j])) trivial ⟨none,none,none,[],by simp,by simp⟩ ?_ ?_)))
  ·rintro pre o post hx ρ M' ⟨y6,y7,y8,G,rfl,rfl⟩
   have va:(pre.flatMap (gL ps ss n way j a)).length≤2*2 ^ n:=by
    have h1:=k6 pre fun o _=>qJ ps ss n way j a o
    have h2:pre.length≤2:=by
     have:=vE (Pc.at ps a) j
     rw[hx] at this
     simp at this
     omega
    exact Nat.le_trans h1 (Nat.mul_le_mul_right _ h2)
   have Ib:=qJ ps ss n way j a o
   have C7:=DP (n:=n) (by omega)
   refine⟨_,rfl,?_⟩
   generalize JE:M++G=M1
   dsimp only[List.set]
   refine bh (ck (way++[(a,j,o)])) (M1++[.lst ((pre.flatMap (gL ps ss n way j a)).map ck)]) (by simp[df]; rw[bT (by simp; omega)]; simp[df]) ?_
   dsimp only[List.set]
   refine bh (bJ (beyond ps a o)) (M1++[.lst ((pre.flatMap (gL ps ss n way j a)).map ck)]) (by simp[JK ps a o _ (by omega)]) ?_
   dsimp only[List.set]
   rw[List.flatMap_append,List.flatMap_cons,List.flatMap_nil,zI]
   cases hb:beyond ps a o with
   | none =>
    refine K9 (M1++[.lst ((pre.flatMap (gL ps ss n way j a)).map ck)]) (by simp[bJ,sV,j4]) (cD .aN (M1++[.lst ((pre.flatMap (gL ps ss n way j a)++[way++[(a,j,o)]]).map ck)]) (by simp[dq,Dq,lim,-List.length_flatMap]; omega) (bK trivial ⟨_,_,_,G,by rw[JE],?_⟩))
    simp[gL,hb,JE]
   | some b =>
    refine hJ (decide ((o,b)∈ss)) (M1++[.lst ((pre.flatMap (gL ps ss n way j a)).map ck)]) (by simp[bJ,sV,j4]) (fun hs=>?_) fun hs=>?_
    ·have Am:=of_decide_eq_true hs
     refine cD .aN (M1++[.lst ((pre.flatMap (gL ps ss n way j a)++[way++[(a,j,o)]]).map ck)]) (by simp[dq,Dq,lim,-List.length_flatMap]; omega) (bK trivial ⟨_,_,_,G,by rw[JE],?_⟩)
     simp[gL,hb,Am,JE]
    ·have Am:=of_decide_eq_false hs
     have hg:=h ps ss (way++[(a,j,o)]) o b (M1++[.lst ((pre.flatMap (gL ps ss n way j a)).map ck)]) (ok.step Lc hb) (by simp; omega) (by omega)
     simp only[gL,hb,if_neg Am] at Ib ⊢
     refine tq (.obj (M1.length+1)) ((M1++[.lst ((pre.flatMap (gL ps ss n way j a)).map ck)])++[.lst ((pre.flatMap (gL ps ss n way j a)++kZ ps ss n (way++[(a,j,o)]) o b).map ck)]) ?_ (bK trivial ⟨some (.int o),some (ck (way++[(a,j,o)])),some (bJ (some b)),G++[.lst ((pre.flatMap (gL ps ss n way j a)).map ck)],?_,?_⟩)
     ·simp[bJ] at hg ⊢
      rw[hg]
      simp[dn]
      rw[nU (by simp[lim,-List.length_flatMap]; omega)]
      simp
     ·rw[← List.append_assoc,JE]
      simp
     ·rw[← List.append_assoc,JE]
  ·rintro ρ' M' ⟨y6,y7,y8,G,rfl,rfl⟩
   refine aq (bS (.lst ((kZ ps ss (n+1) way j a).map ck)) (M++G++[.gone]) ?_ (bj ⟨G++[.gone],by rw[List.append_assoc]⟩))
   rw[jq,if_neg Lc]
   generalize M++G=M1
   simp[yu]
end Sb
end
section
namespace L2
open PySem
theorem vF {α:Type} [BEq α] [LawfulBEq α] {enc:α->PV} (hp:∀a,Pl deep (enc a)) (inj:∀a b,enc a=enc b->a=b) {a:α} {as:List α} {M:aP}:countP (.lst (as.map enc)) [enc a] M=.ok (.int (as.count a)) M:=by
 unfold countP
 dsimp only
 rw[jH deep _ (hp a),qo]
 dsimp only
 rw[kW (g:=dM deep) fun z hz=>by
  obtain⟨b,_,rfl⟩:=List.mem_map.mp hz
  exact jH deep _ (hp b)]
 dsimp only
 have:((as.map enc).map (dM deep)).countP (fun q=>PyData.eqv q (dM deep (enc a)))=as.count a:=by
  rw[List.countP_map,List.countP_map]
  unfold List.count
  refine List.countP_congr fun b _=>?_
  simp only[Function.comp]
  rw[yE deep _ _ (hp b) (hp a)]
  simp only[beq_iff_eq]
  exact⟨fun e=>inj _ _ e,fun e=>by rw[e]⟩
 rw[this]
theorem Yr {i j:Nat} {x y:PV} {ρ:dX}:gT 2 (fk (gN i) (fk (gN j) pj)) (.tup [x,y]) ρ=some ((ρ.set i (some x)).set j (some y)):=rfl
end L2
namespace Sb
open PySem L2
structure mB (ps:jj) (ss:List Sg):Prop where
 Ic:1≤ps.length
 pd:ps.length≤16
 BK:∀p∈ps,∀j∈p.js,0≤j/\j≤999
 once:∀p∈ps,p.js.Nodup
 two:∀j,(Lb ps j).length≤2
 yH:ss.length≤16
 nd:ss.Nodup
 sg:∀s∈ss,s.2<ps.length/\s.1∈(Pc.at ps s.2).js
noncomputable def Le (g:D1):Prop:=∀(ps:jj) (j:Int) (M:aP),ps.length≤100->g [aV ps,.int j] M=.ok (lX (Lb ps j)) M
noncomputable def yI (g:D1):Prop:=∀(p:Pc) (M:aP),g [p.enc] M=.ok (nv p.js) M
noncomputable def nw (g:D1) (xs:List PV):Prop:=∀M,g xs M=.ok .aN M
theorem eJ {c:Addr} {gp:D1} (hp:Le gp) {ps:jj} (hl:ps.length≤100) (h2:∀j,(Lb ps j).length≤2) {js:List Int} (hr:∀j∈js,0≤j/\j≤999) (hn:js.Nodup):nw (gE c gp) [aV ps,nv js]:=by
 intro M
 unfold gE
 refine cU (P:=fun r=>r=.ok .aN M) ?_
 simp only[zC,zD,zE,zF,Nat.zero_add,Nat.reduceAdd,Nat.reduceSub,List.replicate,zG,zH]
 refine hU PV.int (fun pre ρ M'=>∃y2,ρ=[some (aV ps),some (nv js),y2]/\M'=M) js none M (eu rfl) trivial ⟨none,rfl,rfl⟩ ?_ ?_
 ·rintro pre j post hx ρ M' ⟨y2,rfl,rfl⟩
  have hj:j∈js:=by rw[hx]; simp
  obtain⟨r1,r2⟩:=hr j hj
  have hc:js.count j≤1:=List.nodup_iff_count.mp hn j
  refine⟨_,rfl,?_⟩
  dsimp only[List.set]
  refine aG (nu M' ?_ (dU (aq (aG (nu M' ?_ (dU (aq (nu M' ?_ (dU (bK trivial ⟨_,rfl,rfl⟩))))))))))
  ·simp[Aq,yt]
   rw[if_neg (by omega)]
   simp[r2]
  ·simp[yt,vF (enc:=PV.int) (fun a=>kX a) (fun a b e=>by cases e; rfl)]
   omega
  ·simp[hp ps j _ hl,cc,yt]
   have:=h2 j
   omega
 ·rintro ρ' M' ⟨y2,rfl,rfl⟩
  exact gY rfl
theorem eG {c:Addr} {gc gj:D1} {ps:jj} {ss:List Sg} (hg:mB ps ss) (hc:∀p∈ps,nw gc [aV ps,nv p.js]) (hj:yI gj):nw (gD c gc gj) [aV ps]:=by
 intro M
 unfold gD
 refine cU (P:=fun r=>r=.ok .aN M) ?_
 simp only[zC,zD,zE,zF,Nat.zero_add,Nat.reduceAdd,Nat.reduceSub,List.replicate,zG,zH]
 have h1:=hg.Ic
 have h2:=hg.pd
 refine aG (nu M ?_ (dU (aq (aG (nu M ?_ (dU (aq ?_)))))))
 ·simp[cc]
  intro h
  rw[h] at h1
  simp at h1
 ·simp[cc,yt]
  omega
 refine hU Pc.enc (fun pre ρ M'=>∃y2,ρ=[some (aV ps),y2]/\M'=M) ps none M (eu rfl) trivial ⟨none,rfl,rfl⟩ ?_ ?_
 ·rintro pre p post hx ρ M' ⟨y2,rfl,rfl⟩
  refine⟨_,rfl,?_⟩
  dsimp only[List.set]
  refine cD .aN M' ?_ (bK trivial ⟨_,rfl,rfl⟩)
  simp[hj p,hc p (by rw[hx]; simp) M']
 ·rintro ρ' M' ⟨y2,rfl,rfl⟩
  exact gY rfl
theorem dW {c:Addr} {gj:D1} {ps:jj} {ss:List Sg} (hg:mB ps ss) (hj:yI gj):nw (fN c gj) [aV ps,bD ss]:=by
 intro M
 unfold fN
 refine cU (P:=fun r=>r=.ok .aN M) ?_
 simp only[zC,zD,zE,zF,Nat.zero_add,Nat.reduceAdd,Nat.reduceSub,List.replicate,zG,zH]
 have h1:=hg.yH
 refine aG (nu M ?_ (dU (aq ?_)))
 ·simp[cc,yt]
  omega
 refine hU cE (fun pre ρ M'=>∃y2 y3,ρ=[some (aV ps),some (bD ss),y2,y3]/\M'=M) ss none M (eu rfl) trivial ⟨none,none,rfl,rfl⟩ ?_ ?_
 ·rintro pre s post hx ρ M' ⟨y2,y3,rfl,rfl⟩
  have hs:s∈ss:=by rw[hx]; simp
  obtain⟨r1,r2⟩:=hg.sg s hs
  have hc:ss.count s≤1:=List.nodup_iff_count.mp hg.nd s
  have Pn:=vF (enc:=cE) Mi HW (a:=s) (as:=ss) (M:=M')
  obtain⟨j,n⟩:=s
  refine⟨_,rfl,?_⟩
  dsimp only[List.set]
  refine aG (nu M' ?_ (dU (aq (aG (nu M' ?_ (dU (aq (nu M' ?_ (dU (bK trivial ⟨_,_,rfl,rfl⟩))))))))))
  ·simp[cE] at Pn ⊢
   rw[Pn]
   simp[yt]
   omega
  ·dsimp only at r1
   simp[Aq,QB,cc]
   rw[if_neg (by omega)]
   simp
   omega
  ·simp[ot r1,hj (Pc.at ps n)]
   exact r2
 ·rintro ρ' M' ⟨y2,y3,rfl,rfl⟩
  exact gY rfl
theorem gz {gp gs:D1} {x y:PV} (hp:nw gp [x]) (hs:nw gs [x,y]):nw (i3 gp gs) [x,y]:=by
 intro M
 unfold i3
 refine cU (P:=fun r=>r=.ok .aN M) ?_
 exact aG (cD .aN M (by simp[hp M]) (aq (cD .aN M (by simp[hs M]) (gY rfl))))
end Sb
end
section
namespace Sb
open PySem L2
noncomputable def dA (ss:List Sg) (k:Nat):Sg:=ss.getD k (0,0)
theorem yJ {ss:List Sg} {n:Nat} (h:n<ss.length):ss[n]? = some (dA ss n):=by
 unfold dA
 rw[List.getD_eq_getElem?_getD,List.getElem?_eq_getElem h]
 rfl
theorem Ie {ss:List Sg} {n:Nat} (h:n<ss.length):dA ss n∈ss:=List.mem_of_getElem? (yJ h)
theorem DU {ss:List Sg} {n:Nat} {M:aP} (h:n<ss.length):aW (bD ss) (.int n) M=.ok (cE (dA ss n)) M:=eB (by rw[zJ,yJ h]; rfl)
noncomputable def fuel:Nat:=17
noncomputable def lK (ps:jj) (ss:List Sg) (k:Nat):List Rt:=(kZ ps ss fuel [] (dA ss k).1 (dA ss k).2).map fun w=>(k,w)
noncomputable def bU (ps:jj) (ss:List Sg):List Rt:=(List.range ss.length).flatMap (lK ps ss)
theorem Lf (ss:List Sg):pq (ss.map cE)=(List.range ss.length).map fun k=>.tup [.int k,cE (dA ss k)]:=by
 refine List.ext_getElem? fun i=>?_
 unfold pq
 rw[zJ,List.getElem?_zipIdx,zJ,zJ]
 by_cases h:i<ss.length
 ·rw[yJ h,List.getElem?_range h]
  simp
 ·rw[List.getElem?_eq_none (by omega),List.getElem?_eq_none (by simp; omega)]
  rfl
theorem oV (ps:jj) (ss:List Sg) (k:Nat):(lK ps ss k).length≤131072:=by
 unfold lK
 rw[zK]
 exact kz ps ss fuel _ _ _
theorem N8 {ps:jj} {ss:List Sg} (hg:mB ps ss) {k:Nat} (hk:k<ss.length):qK ps [] (dA ss k).2:=⟨hg.pd,(hg.sg _ (Ie hk)).1,by simp,by simp⟩
noncomputable def k7 (g:D1):Prop:=∀ps ss M,mB ps ss->g [aV ps,bD ss] M=.ok (eC (bU ps ss)) M
theorem N9 {n:Nat} (rs:List Rt):PV.jg n (eC rs)=true:=qI Q7 rs
theorem iB {n:Nat} {pre post:List Nat} {k:Nat} (h:List.range n=pre++k::post):k<n/\pre.length<n:=by
 have h1:k∈List.range n:=by rw[h]; simp
 have h2:=congrArg List.length h
 simp at h1 h2
 omega
theorem l4 {gc gw:D1} (hc:∀ps ss,mB ps ss->nw gc [aV ps,bD ss]) (hw:DQ fuel gw):k7 (trunc (pP gc gw)):=by
 intro ps ss M hg
 refine oq.trunc ?_ (N9 _)
 unfold pP
 refine cU (P:=fun r=>∃G,r=.ok (eC (bU ps ss)) (M++G)) ?_
 simp only[zC,zD,zE,zF,Nat.zero_add,Nat.reduceAdd,Nat.reduceSub,List.replicate,zG,zH]
 have Ug:=hg.yH
 refine aG (cD .aN M (by simp[hc ps ss hg M]) (aq (bh (.obj M.length) (M++[.lst []]) (by simp) ?_)))
 dsimp only[List.set]
 refine aG (hU (fun(k:Nat)=>PV.tup [.int k,cE (dA ss k)]) (fun pre ρ M'=>∃y3 y4 y5,ρ=[some (aV ps),some (bD ss),some (.obj M.length),y3,y4,y5]/\M'=M++[.lst ((pre.flatMap (lK ps ss)).map wU)]) (List.range ss.length) none (M++[.lst []])
  (by unfold iE; simp[Lf]) trivial ⟨none,none,none,rfl,rfl⟩ ?_ ?_)
 ·rintro pre k post hx ρ M' ⟨y3,y4,y5,rfl,rfl⟩
  obtain⟨hk,mI⟩:=iB hx
  have va:(pre.flatMap (lK ps ss)).length≤2097152:=by
   have h1:=k6 pre fun k _=>oV ps ss k
   omega
  refine⟨_,Yr,?_⟩
  dsimp only[List.set]
  have Q8:=hw ps ss [] (dA ss k).1 (dA ss k).2 (M++[.lst ((pre.flatMap (lK ps ss)).map wU)]) (N8 hg hk) (by simp; have:=hg.pd; unfold fuel; omega) (by decide)
  refine hU ck (fun qL ρ M'=>∃y5,ρ=[some (aV ps),some (bD ss),some (.obj M.length),some (.int k),some (cE (dA ss k)),y5]/\M'=M++[.lst ((pre.flatMap (lK ps ss)++qL.map fun w=>(k,w)).map wU)])
   (kZ ps ss fuel [] (dA ss k).1 (dA ss k).2) none (M++[.lst ((pre.flatMap (lK ps ss)).map wU)]) (eu (by simp[cE] at Q8 ⊢; exact Q8)) trivial ⟨_,rfl,by simp⟩ ?_ ?_
  ·rintro qL w Ml Mm ρ M' ⟨y5,rfl,rfl⟩
   have C7:qL.length≤131072:=by
    have h1:=kz ps ss fuel [] (dA ss k).1 (dA ss k).2
    rw[Mm] at h1
    simp[fuel] at h1
    omega
   refine⟨_,rfl,?_⟩
   dsimp only[List.set]
   refine cD .aN (M++[.lst ((pre.flatMap (lK ps ss)++(qL++[w]).map fun w=>(k,w)).map wU)]) ?_ (bK trivial ⟨_,rfl,rfl⟩)
   simp[dq,Dq,wU,lim,-List.length_flatMap]
   omega
  ·rintro ρ' M' ⟨y5,rfl,rfl⟩
   refine bK trivial ⟨_,_,_,rfl,?_⟩
   rw[List.flatMap_append,List.flatMap_cons,List.flatMap_nil,zI]
   rfl
 ·rintro ρ' M' ⟨y3,y4,y5,rfl,rfl⟩
  exact aq (bS (eC (bU ps ss)) (M++[.gone]) (by simp[yu,bU]) (bj ⟨[.gone],rfl⟩))
theorem ic {gw:D1} (hw:DR fuel gw):k7 (m5 gw):=by
 intro ps ss M hg
 unfold m5
 refine cU (P:=fun r=>r=.ok (eC (bU ps ss)) M) ?_
 simp only[zC,zD,zE,zF,Nat.zero_add,Nat.reduceAdd,Nat.reduceSub,List.replicate,zG,zH]
 have Ug:=hg.yH
 refine bh (.lst []) M (by simp) ?_
 dsimp only[List.set]
 have hi:tT [(ao cc [(ae 1)])] [some (aV ps),some (bD ss),some (.lst []),none] M=.ok ((List.range ss.length).map fun(k:Nat)=>PV.int k,none) M:=tw (by simp[cc]) (by omega)
 generalize tT [(ao cc [(ae 1)])]=di at hi ⊢
 refine aG (hU (fun(k:Nat)=>PV.int k) (fun pre ρ M'=>∃y3,ρ=[some (aV ps),some (bD ss),some (eC (pre.flatMap (lK ps ss))),y3]/\M'=M) (List.range ss.length) none M
  hi trivial ⟨none,rfl,rfl⟩ ?_ ?_)
 ·rintro pre k post hx ρ M' ⟨y3,rfl,rfl⟩
  obtain⟨hk,mI⟩:=iB hx
  have va:(pre.flatMap (lK ps ss)).length≤2097152:=by
   have h1:=k6 pre fun k _=>oV ps ss k
   omega
  have Ib:=oV ps ss k
  refine⟨_,rfl,?_⟩
  dsimp only[List.set]
  have Q8:=hw ps ss [] (dA ss k).1 (dA ss k).2 M' (N8 hg hk) (by simp; have:=hg.pd; unfold fuel; omega) (by decide)
  refine tq (eC ((pre++[k]).flatMap (lK ps ss))) M' ?_ (bK trivial ⟨_,rfl,rfl⟩)
  rw[aI]
  simp only[aS,zB,zA,ag]
  rw[cu (xs:=kZ ps ss fuel [] (dA ss k).1 (dA ss k).2) (w:=none) (M':=M') ck (fun _=>true) (fun w=>wU (k,w)) (fun ρ=>∃y,ρ=[y,some (.int k)]) (eu (by simp[DU hk,cE] at Q8 ⊢; exact Q8)) trivial ⟨none,rfl⟩ (fun x hx ρ hρ=>?_)
   (Nat.le_trans (kz ps ss fuel _ _ _) (by decide))]
  ·rw[List.filter_eq_self.mpr (fun _ _=>rfl),jM (by rw[zK]; exact Nat.le_trans (kz ps ss fuel _ _ _) (by decide)),ag,qr,jM (by simp[lK,lim,-List.length_flatMap] at Ib ⊢; omega)]
   simp[lK]
  ·obtain⟨y,rfl⟩:=hρ
   exact⟨_,rfl,⟨_,rfl⟩,rfl,fun _=>by simp[wU]⟩
 ·rintro ρ' M' ⟨y3,rfl,rfl⟩
  exact aq (bS (eC (bU ps ss)) M' (by simp[bU]) (bj rfl))
end Sb
end
section
namespace L2
open PySem
theorem Lg {M G:aP} {o:MO}:(M++o::G)[M.length]? = some o:=by simp
theorem DV {M G:aP} {o o':MO}:(M++o::G).set M.length o'=M++o'::G:=by simp
end L2
namespace Sb
open PySem L2
noncomputable def qM (ns:List Int) (k:Int):Int:=ns.getD (k%ns.length).toNat 0
noncomputable def jr (ns:List Int) (k:Int):Int :=
 ((qM ns k+104729*(k+1))%4294967291*48271%4294967279 / 64*69621+(qM ns k+104729*(k+1))%4294967291*48271%4294967279)%4294967231
noncomputable def AR (g:D1):Prop:=∀ns k M,g [.mh ns,.int k] M=.ok (.int (qM ns k)) M
noncomputable def qN (g:D1):Prop:=∀ns k M,g [.mh ns,.int k] M=.ok (.int (jr ns k)) M
theorem l9:AR m3:=by
 intro ns k M
 unfold m3
 refine cU (P:=fun r=>r=.ok (.int (qM ns k)) M) ?_
 by_cases h:ns=[]
 ·subst h
  refine aG (nu M (by simp[kd]) (dU (aq (bS (.int 0) M rfl (bj ?_)))))
  simp[qM]
 ·have hl:0<ns.length:=List.length_pos_iff.mpr h
  refine aG (K9 M (by simp[kd,h]) (bS (.int (qM ns k)) M ?_ (jI (bj rfl))))
  have h1:=Int.emod_nonneg k (b:=ns.length) (by omega)
  have h2:=Int.emod_lt_of_pos k (b:=ns.length) (by omega)
  simp[cc,dy,jl,hl,aW,EF,EE]
  rw[if_pos h1,if_pos h2]
  have h3:(k%(ns.length:Int)).toNat<ns.length:=by omega
  simp[h3,qM]
theorem oI {g:D1} (h:AR g):qN (oQ g):=by
 intro ns k M
 unfold oQ
 refine cU (P:=fun r=>r=.ok (.int (jr ns k)) M) ?_
 refine bh (.int ((qM ns k+104729*(k+1))%4294967291)) M ?_ ?_
 ·simp[h ns k M,dy,jl,kE,small]
 refine bh (.int ((qM ns k+104729*(k+1))%4294967291*48271%4294967279)) M ?_ ?_
 ·simp[dy,jl,kE,small]
 refine bS (.int (jr ns k)) M ?_ (bj rfl)
 simp[dy,lE,jl,kE,small,jr]
theorem ny (ns:List Int) (k:Int):0≤jr ns k:=Int.emod_nonneg _ (by decide)
end Sb
end
section
namespace Sb
open PySem L2
noncomputable def cnt (ps:jj) (j:Int):Nat:=(ps.filter fun p=>decide (j∈p.js)).length
theorem Lh (ps:jj) (j:Int):(Lb ps j).length=cnt ps j:=by
 unfold Lb cnt
 have:ps=(List.range ps.length).map (Pc.at ps):=by
  refine List.ext_getElem? fun i=>?_
  rw[zJ]
  by_cases h:i<ps.length
  ·rw[oT h,List.getElem?_range h]; rfl
  ·rw[List.getElem?_eq_none (by omega),List.getElem?_eq_none (by simp; omega)]; rfl
 conv=>rhs; rw[this]
 rw[List.filter_map,zK]
 rfl
theorem AS (ps:jj) (p:Pc) (j:Int):cnt (ps++[p]) j=cnt ps j+if j∈p.js then 1 else 0:=by
 unfold cnt
 rw[List.filter_append,List.length_append]
 congr 1
 by_cases h:j∈p.js<;>simp[h]
noncomputable def fresh (c:Int) (i:Nat):Int:=(c+37*i)%1000
theorem Ff (c:Int) (i:Nat):0≤fresh c i/\fresh c i≤999:=by
 unfold fresh
 omega
theorem rY (c:Int) {i k:Nat} (hi:i<27) (hk:k<27) (h:fresh c i=fresh c k):i=k:=by
 unfold fresh at h
 omega
structure Fh (c:Int) (ps:jj) (loose:List Int) (many:Nat):Prop where
 pd:many≤3*ps.length
 old:∀p∈ps,∀j∈p.js,∃i,i<many/\j=fresh c i
 once:∀p∈ps,p.js.Nodup
 two:∀j,cnt ps j≤2
 lo:∀j∈loose,cnt ps j≤1/\∃i,i<many/\j=fresh c i
structure Fi (c:Int) (loose:List Int) (m0 many:Nat) (ends:List Int):Prop where
 nd:ends.Nodup
 le:m0≤many
 src:∀j∈ends,j∈loose\/∃i,m0≤i/\i<many/\j=fresh c i
noncomputable def Ig:List Int->Pc
 | [j,k]=>.pl j k
 | [t,s,b]=>.pt t s b
 | _=>.pl 0 0
theorem Li {ends:List Int} (h:ends.length=2\/ends.length=3):(Ig ends).js=ends:=by
 rcases ends with _ | ⟨a,_ | ⟨b,_ | ⟨d,_ | ⟨e,r⟩⟩⟩⟩
 ·simp at h
 ·simp at h
 ·rfl
 ·rfl
 ·simp at h
theorem Ih {ps:jj} {j:Int} (h:∀p∈ps,j∉p.js):cnt ps j=0:=by
 unfold cnt
 rw[List.length_eq_zero_iff,List.filter_eq_nil_iff]
 intro p hp
 simp[h p hp]
theorem Ii {c:Int} {ps:jj} {loose ends:List Int} {m0 many:Nat} (I:Fh c ps loose m0) (E:Fi c loose m0 many ends) (hm:many≤3*(ps.length+1)) (Ys:many≤24) (h:ends.length=2\/ends.length=3) :
  Fh c (ps++[Ig ends]) (ends.filter (fun j=>decide (j∉loose))++loose.filter (fun j=>decide (j∉ends))) many:=by
 have hj:=Li h
 have ig:∀i,m0≤i->i<many->cnt ps (fresh c i)=0:=fun i h1 h2=>Ih fun p hp hm=>by
  obtain⟨i',h3,h4⟩:=I.old p hp _ hm
  have:=rY c (by omega) (by omega) h4
  omega
 refine⟨by rw[List.length_append]; exact hm,fun p hp j hm=>?_,fun p hp=>?_,fun j=>?_,fun j hm=>?_⟩
 ·rcases List.mem_append.mp hp with hp | hp
  ·obtain⟨i,h1,h2⟩:=I.old p hp j hm
   exact⟨i,Nat.lt_of_lt_of_le h1 E.le,h2⟩
  ·simp only[List.mem_cons,List.not_mem_nil,or_false] at hp
   subst hp
   rw[hj] at hm
   rcases E.src j hm with h1 | ⟨i,_,h1,h2⟩
   ·obtain⟨_,i,h2,h3⟩:=I.lo j h1
    exact⟨i,Nat.lt_of_lt_of_le h2 E.le,h3⟩
   ·exact⟨i,h1,h2⟩
 ·rcases List.mem_append.mp hp with hp | hp
  ·exact I.once p hp
  ·simp only[List.mem_cons,List.not_mem_nil,or_false] at hp
   subst hp
   rw[hj]
   exact E.nd
 ·rw[AS,hj]
  have:=I.two j
  split
  ·rename_i hm
   rcases E.src j hm with h1 | ⟨i,h0,h1,rfl⟩
   ·have:=(I.lo j h1).1
    omega
   ·rw[ig i h0 h1]
    omega
  ·omega
 ·rw[AS,hj]
  rcases List.mem_append.mp hm with hm | hm
  ·obtain⟨h1,h2⟩:=List.mem_filter.mp hm
   have h2:=of_decide_eq_true h2
   rcases E.src j h1 with h3 | ⟨i,h0,h3,rfl⟩
   ·exact absurd h3 h2
   ·rw[ig i h0 h3,if_pos h1]
    exact⟨by omega,i,h3,rfl⟩
  ·obtain⟨h1,h2⟩:=List.mem_filter.mp hm
   have h2:=of_decide_eq_true h2
   rw[if_neg h2]
   obtain⟨h3,i,h4,h5⟩:=I.lo j h1
   exact⟨h3,i,Nat.lt_of_lt_of_le h4 E.le,h5⟩
theorem Ij {c:Int} {loose ends:List Int} {m0 many:Nat} (E:Fi c loose m0 many ends) {j:Int} (h1:j∈loose) (h2:j∉ends):Fi c loose m0 many (ends++[j]):=by
 refine⟨?_,E.le,fun k hk=>?_⟩
 ·rw[List.nodup_append]
  refine⟨E.nd,by simp,fun a ha b hb=>?_⟩
  simp at hb
  subst hb
  rintro rfl
  exact h2 ha
 ·rcases List.mem_append.mp hk with hk | hk
  ·exact E.src k hk
  ·simp at hk
   subst hk
   exact .inl h1
theorem Ik {c:Int} {ps:jj} {loose ends:List Int} {m0 many:Nat} (I:Fh c ps loose m0) (E:Fi c loose m0 many ends) (Ys:many<24):Fi c loose m0 (many+1) (ends++[fresh c many]):=by
 have hn:fresh c many∉ends:=fun h=>by
  rcases E.src _ h with h1 | ⟨i,h0,h1,h2⟩
  ·obtain⟨_,i,h2,h3⟩:=I.lo _ h1
   have:=rY c (by omega) (by have:=E.le; omega) h3
   have:=E.le
   omega
  ·have:=rY c (by omega) (by omega) h2
   omega
 refine⟨?_,Nat.le_succ_of_le E.le,fun k hk=>?_⟩
 ·rw[List.nodup_append]
  refine⟨E.nd,by simp,fun a ha b hb=>?_⟩
  simp at hb
  subst hb
  rintro rfl
  exact hn ha
 ·rcases List.mem_append.mp hk with hk | hk
  ·rcases E.src k hk with h1 | ⟨i,h0,h1,h2⟩
   ·exact .inl h1
   ·exact .inr ⟨i,h0,by omega,h2⟩
  ·simp at hk
   subst hk
   exact .inr ⟨many,E.le,by omega,rfl⟩
structure AU (ps:jj):Prop where
 Ic:1≤ps.length
 pd:ps.length≤8
 BK:∀p∈ps,∀j∈p.js,0≤j/\j≤999
 once:∀p∈ps,p.js.Nodup
 two:∀j,(Lb ps j).length≤2
theorem Fh.good {c:Int} {ps:jj} {loose:List Int} {many:Nat} (I:Fh c ps loose many) (h1:1≤ps.length) (h8:ps.length≤8):AU ps :=
 ⟨h1,h8,fun p hp j hj=>by obtain⟨i,_,rfl⟩:=I.old p hp j hj; exact Ff c i,I.once,fun j=>by rw[Lh]; exact I.two j⟩
end Sb
end
section
namespace Sb
open PySem L2
theorem Il {ρ:dX} {M:aP} {xs ys:List Int} {i k:Nat} {y:PV} (hi:ρ[i]? = some (some (nv xs))) (hk:ρ[k]? = some (some y)) (hy:o7 M y=some (ys.map .int)) (hl:xs.length≤100) :
  dj false [none,some k] (iL (ae i)) (gN 0) (aQ (ax (lR true) (ae 0) (ae 1))) (ae 0) ρ M=.ok (nv (xs.filter fun j=>decide (j∉ys))) M:=by
 rw[cu (xs:=xs) (w:=none) (M':=M) PV.int (fun j=>decide (j∉ys)) PV.int (fun ρ=>∃z,ρ=[z,some y]) (eu (by rw[aS,hi])) trivial ⟨none,by simp[Ax,hk]⟩ (fun x _ ρ hρ=>?_) (Nat.le_trans hl (by decide))]
 ·rw[bT (by rw[zK]; exact Nat.le_trans (List.length_filter_le _ _) hl)]
 ·obtain⟨z,rfl⟩:=hρ
  refine⟨_,rfl,⟨_,rfl⟩,?_,fun _=>by simp⟩
  simp[oS (neg:=true) (enc:=PV.int) (fun a=>kX a) (fun a b e=>by cases e; rfl) hy]
theorem Lj {ρ:dX} {M:aP} {xs ys:List Int} {i k n:Nat} {y:PV} (hi:ρ[i]? = some (some (.obj n))) (hn:M[n]? = some (.lst (xs.map .int))) (hk:ρ[k]? = some (some y)) (hy:o7 M y=some (ys.map .int)) (hl:xs.length≤100) :
  dj false [none,some k] (iL (ae i)) (gN 0) (aQ (ax (lR true) (ae 0) (ae 1))) (ae 0) ρ M=.ok (nv (xs.filter fun j=>decide (j∉ys))) M:=by
 rw[cu (xs:=xs) (w:=some (n,.lst (xs.map .int))) (M':=M) PV.int (fun j=>decide (j∉ys)) PV.int (fun ρ=>∃z,ρ=[z,some y]) (HR (by rw[aS,hi]) hn) hn ⟨none,by simp[Ax,hk]⟩ (fun x _ ρ hρ=>?_) (Nat.le_trans hl (by decide))]
 ·rw[bT (by rw[zK]; exact Nat.le_trans (List.length_filter_le _ _) hl)]
 ·obtain⟨z,rfl⟩:=hρ
  refine⟨_,rfl,⟨_,rfl⟩,?_,fun _=>by simp⟩
  simp[oS (neg:=true) (enc:=PV.int) (fun a=>kX a) (fun a b e=>by cases e; rfl) hy]
theorem Lk {xs:List Int} {n:Int} {M:aP} (h:xs≠[]) (hn:0≤n):∃j∈xs,aW (nv xs) (.int (n%(if (xs.length:Int)<4 then(xs.length:Int) else 4))) M=.ok (.int j) M:=by
 have hl:0<xs.length:=List.length_pos_iff.mpr h
 have hd:(0:Int)<(if (xs.length:Int)<4 then(xs.length:Int) else 4):=by split<;>omega
 have hle:(if (xs.length:Int)<4 then(xs.length:Int) else 4)≤xs.length:=by split<;>omega
 generalize (if (xs.length:Int)<4 then(xs.length:Int) else 4)=d at hd hle
 have h1:=Int.emod_nonneg n (b:=d) (by omega)
 have h2:=Int.emod_lt_of_pos n hd
 obtain⟨i,hi⟩:=Int.eq_ofNat_of_zero_le h1
 rw[hi]
 have h3:i<xs.length:=by omega
 exact⟨xs[i],List.getElem_mem h3,eB (by rw[zJ,List.getElem?_eq_getElem h3]; rfl)⟩
theorem Ll {ends:List Int} {M:aP} (h:ends.length=2\/ends.length=3):∃z,aW (.lst [.str "plain",.str "points"]) (.int ((ends.length:Int)-2)) M=.ok z M/\(Ig ends).enc=.tup (z::ends.map .int):=by
 rcases ends with _ | ⟨a,_ | ⟨b,_ | ⟨d,_ | ⟨e,r⟩⟩⟩⟩
 ·simp at h
 ·simp at h
 ·exact⟨.str "plain",eB (i:=0) rfl,rfl⟩
 ·exact⟨.str "points",eB (i:=1) rfl,rfl⟩
 ·simp at h
noncomputable def DW (g:D1):Prop:=∀ns (b:Int) M,∃ps,AU ps/\g [.mh ns,.int b] M=.ok (aV ps) M
theorem Im {n:Nat} {xs:List Int} {z:Str}:PV.jg n (.tup (.str z::xs.map .int))=true:=uI fun x hx=>by
 rcases List.mem_cons.mp hx with rfl | hx
 ·simp
 ·obtain⟨i,_,rfl⟩:=List.mem_map.mp hx
  simp
theorem Oa {n:Nat} (p:Pc):PV.jg n p.enc=true:=by
 cases p with
 | pl j k=>exact Im (xs:=[j,k])
 | pt t s b=>exact Im (xs:=[t,s,b])
theorem fj {gm:D1} (hm:qN gm):DW (trunc (kj gm)):=by
 intro ns b M
 suffices h:∃ps G,AU ps/\kj gm [.mh ns,.int b] M=.ok (aV ps) (M++G) by
  obtain⟨ps,G,hg,e⟩:=h
  exact⟨ps,hg,oq.trunc ⟨G,e⟩ (qI Oa _)⟩
 unfold kj
 refine cU (P:=fun r=>∃ps G,AU ps/\r=.ok (aV ps) (M++G)) ?_
 simp only[zC,zD,zE,zF,Nat.zero_add,Nat.reduceAdd,Nat.reduceSub,List.replicate,zG,zH]
 refine bh (.obj M.length) (M++[.lst []]) (by simp) ?_
 dsimp only[List.set]
 refine bh (.lst []) (M++[.lst []]) (by simp) ?_
 dsimp only[List.set]
 refine bh (.int 0) (M++[.lst []]) (by simp) ?_
 dsimp only[List.set]
 obtain⟨n,hn⟩:=Int.eq_ofNat_of_zero_le (show 0≤1+jr ns b%8 by have:=ny ns b; omega)
 have Wh:1≤n/\n≤8:=by have:=ny ns b; omega
 have hi:tT [(ax (dn false) (dC (.int 1)) (ax dy (ao gm [(ae 0),(ae 1)]) (dC (.int 8))))] [some (.mh ns),some (.int b),some (.obj M.length),some (.lst []),some (.int 0),none,none,none,none,none,none] (M++[.lst []])
   = .ok ((List.range n).map fun(k:Nat)=>PV.int k,none) (M++[.lst []]):=tw (by simp[hm ns b,dy,jl,hn]) (by omega)
 generalize tT [(ax (dn false) (dC (.int 1)) (ax dy (ao gm [(ae 0),(ae 1)]) (dC (.int 8))))]=di at hi ⊢
 refine aG (hU (fun(k:Nat)=>PV.int k) (fun pre ρ M'=>∃y5 y6 y7 y8 y9 Cz G ps loose many,ρ=[some (.mh ns),some (.int b),some (.obj M.length),some (nv loose),some (.int ((many:Nat):Int)),y5,y6,y7,y8,y9,Cz] ∧
   M'=M++.lst (ps.map Pc.enc)::G/\ps.length=pre.length/\loose.length≤3*pre.length/\Fh (jr ns (b+9)) ps loose many) (List.range n) none (M++[.lst []]) hi trivial ?_ ?_ ?_)
 ·exact⟨none,none,none,none,none,none,[],[],[],0,rfl,rfl,rfl,by simp,⟨by simp,by simp,by simp,by simp[cnt],by simp⟩⟩
 ·rintro pre k post hx ρ M' ⟨y5,y6,y7,y8,y9,Cz,G,ps,loose,many,rfl,rfl,mI,Yt,I⟩
  obtain⟨hk,Yu⟩:=iB hx
  refine⟨_,rfl,?_⟩
  generalize JE:M++.lst (ps.map Pc.enc)::G=M1
  dsimp only[List.set]
  refine bh (.int (jr ns (b+1+k))) M1 (by simp[hm ns]) ?_
  dsimp only[List.set]
  refine bh (.obj M1.length) (M1++[.lst []]) (by simp) ?_
  dsimp only[List.set]
  obtain⟨n2,Ka,Yv⟩:∃n2:Nat,(2:Int)+(if jr ns (b+1+k)%5<3 then 1 else 0)=n2/\(n2=2\/n2=3):=by
   split
   ·exact⟨3,rfl,.inr rfl⟩
   ·exact⟨2,rfl,.inl rfl⟩
  have Ku:tT [(ax (dn false) (dC (.int 2)) (ao qu [(ax Aq (ax dy (ae 6) (dC (.int 5))) (dC (.int 3)))]))] [some (.mh ns),some (.int b),some (.obj M.length),some (nv loose),some (.int many),some (.int k),some (.int (jr ns (b+1+k))),some (.obj M1.length),y8,y9,Cz] (M1++[.lst []])
    = .ok ((List.range n2).map fun(k:Nat)=>PV.int k,none) (M1++[.lst []]):=tw (by
   simp[dy,Aq,jl,qu]
   rw[← Ka]) (by omega)
  generalize tT [(ax (dn false) (dC (.int 2)) (ao qu [(ax Aq (ax dy (ae 6) (dC (.int 5))) (dC (.int 3)))]))]=Yw at Ku ⊢
  refine aG (hU (fun(k:Nat)=>PV.int k) (fun qL ρ M'=>∃y8 y9 Cz ends mC,ρ=[some (.mh ns),some (.int b),some (.obj M.length),some (nv loose),some (.int ((mC:Nat):Int)),some (.int k),some (.int (jr ns (b+1+k))),some (.obj M1.length),y8,y9,Cz] ∧
   M'=M1++[.lst (ends.map .int)]/\ends.length=qL.length/\mC≤many+qL.length/\Fi (jr ns (b+9)) loose many mC ends) (List.range n2) none (M1++[.lst []]) Ku trivial ?_ ?_ ?_)
  ·exact⟨y8,y9,Cz,[],many,rfl,rfl,rfl,Nat.le_refl _,⟨by simp,Nat.le_refl _,by simp⟩⟩
  ·rintro qL j Ml Mm ρ M' ⟨z8,z9,Yx,ends,mC,rfl,rfl,JD,Ww,E⟩
   obtain⟨hj,Yy⟩:=iB Mm
   have GV:=I.pd
   refine⟨_,rfl,?_⟩
   dsimp only[List.set]
   generalize Mn:jr ns (b+10+3*k+j)=pick
   have SF:0≤pick:=by rw[← Mn]; exact ny _ _
   refine bh (.int pick) (M1++[.lst (ends.map .int)]) (by simp[hm ns,kE,small,Mn]) ?_
   dsimp only[List.set]
   refine bh (nv (loose.filter fun j=>decide (j∉ends))) (M1++[.lst (ends.map .int)]) (Il (ys:=ends) rfl rfl (by simp) (by omega)) ?_
   obtain⟨L,Wx⟩:∃L,loose.filter (fun j=>decide (j∉ends))=L:=⟨_,rfl⟩
   rw[Wx]
   dsimp only[List.set]
   have UT:∃t,mn (gZ (ae 10)) (aQ (ax Aq (ax dy (ae 9) (dC (.int 8))) (ax aW (fM false [(dC (.int 7)),(dC (.int 2)),(dC (.int 2))]) (ae 8)))) [some (.mh ns),some (.int b),some (.obj M.length),some (nv loose),some (.int mC),some (.int k),some (.int (jr ns (b+1+k))),some (.obj M1.length),some (.int j),some (.int pick),some (nv L)] (M1++[.lst (ends.map .int)])
     = .ok t (M1++[.lst (ends.map .int)])/\(t=true->L≠[]):=by
    have Yz:j=0\/j=1\/j=2:=by omega
    obtain⟨v,hv⟩:∃v:Int,∀M,aW (.lst [.int 7,.int 2,.int 2]) (.int j) M=.ok (.int v) M:=by
     rcases Yz with rfl | rfl | rfl
     ·exact⟨7,fun M=>eB (i:=0) rfl⟩
     ·exact⟨2,fun M=>eB (i:=1) rfl⟩
     ·exact⟨2,fun M=>eB (i:=2) rfl⟩
    cases L with
    | nil=>exact⟨false,by simp[kd],nofun⟩
    | cons x xs=>exact⟨decide (pick%8<v),by simp[kd,dy,jl,Aq,hv],fun _=>by simp⟩
   obtain⟨t,ht,fE⟩:=UT
   refine hJ t _ ht (fun ht=>?_) fun _=>?_
   ·obtain⟨x,hx,YA⟩:=Lk (M:=M1++[.lst (ends.map .int)]) (fE ht) (n:=pick / 8) (by omega)
    obtain⟨Sq,Mm⟩:=List.mem_filter.mp (Wx ▸ hx)
    refine cD .aN (M1++[.lst ((ends++[x]).map .int)]) ?_ (bK trivial ⟨_,_,_,ends++[x],mC,rfl,rfl,by simp[JD],by simp; omega,Ij E Sq (of_decide_eq_true Mm)⟩)
    have hd:(0:Int)<(if (L.length:Int)<4 then(L.length:Int) else 4):=by
     have:=List.length_pos_iff.mpr (fE ht)
     split<;>omega
    simp[cc,KA,lE,dy,jl]
    rw[if_pos hd,ag,YA]
    simp[dq,Dq,lim]
    omega
   ·refine aG (cD .aN (M1++[.lst ((ends++[fresh (jr ns (b+9)) mC]).map .int)]) ?_ (aq (tq (.int ((mC+1:Nat):Int)) (M1++[.lst ((ends++[fresh (jr ns (b+9)) mC]).map .int)]) (by simp) (bK trivial ⟨_,_,_,ends++[fresh (jr ns (b+9)) mC],mC+1,rfl,rfl,by simp[JD],by simp; omega,Ik I E (by omega)⟩))))
    simp[hm ns,kE,small,dy,jl,dq,Dq,fresh,lim]
    omega
  ·rintro ρ' M' ⟨z8,z9,Yx,ends,mC,rfl,rfl,JD,Ww,E⟩
   rw[List.length_range] at JD Ww
   have GV:=I.pd
   refine aq (bh (nv (ends.filter (fun j=>decide (j∉loose))++loose.filter (fun j=>decide (j∉ends)))) (M1++[.lst (ends.map .int)]) ?_ ?_)
   ·rw[aI,Lj (xs:=ends) (ys:=loose) (n:=M1.length) rfl (by simp) rfl rfl (by omega),ag,Il (xs:=loose) (ys:=ends) rfl rfl (by simp) (by omega),ag,qr,← List.map_append,bT]
    rw[zK,List.length_append]
    have h1:=List.length_filter_le (fun j=>decide (j∉loose)) ends
    have h2:=List.length_filter_le (fun j=>decide (j∉ends)) loose
    omega
   ·dsimp only[List.set]
    obtain⟨z,Wy,YB⟩:=Ll (M:=M1++[.lst (ends.map .int)]) (ends:=ends) (by omega)
    refine cD .aN (M++.lst ((ps++[Ig ends]).map Pc.enc)::(G++[.lst (ends.map .int)])) ?_ (bK trivial ⟨_,_,_,_,_,_,G++[.lst (ends.map .int)],ps++[Ig ends],_,mC,rfl,rfl,by simp[mI],?_,Ii I E (by omega) (by omega) (by omega)⟩)
    ·simp[cc,NN,jl] at Wy ⊢
     rw[Wy,YB]
     subst JE
     simp[yw,dn,dq,Dq,lim]
     rw[if_pos (by omega)]
     simp
     omega
    ·rw[List.length_append]
     have h1:=List.length_filter_le (fun j=>decide (j∉loose)) ends
     have h2:=List.length_filter_le (fun j=>decide (j∉ends)) loose
     have h3:(pre++[k]).length=pre.length+1:=by simp
     omega
 ·rintro ρ' M' ⟨y5,y6,y7,y8,y9,Cz,G,ps,loose,many,rfl,rfl,mI,Yt,I⟩
  refine aq (bS (aV ps) (M++.gone::G) ?_ (bj ⟨ps,.gone::G,I.good ?_ ?_,rfl⟩))
  ·simp[yu]
  ·rw[mI]; simp; omega
  ·rw[mI]; simp; omega
end Sb
end
section
namespace Sb
open PySem L2
theorem Io {n:Nat} {pre post:List Nat} {k:Nat} (h:List.range n=pre++k::post):k=pre.length:=by
 have h1:(List.range n)[pre.length]? = some k:=by rw[h]; simp
 have h2:=(iB h).2
 rw[List.getElem?_range h2] at h1
 exact(Option.some.inj h1).symm
theorem Fj (p:Pc):p.js.length≤3:=by cases p<;>simp[Pc.js]
theorem Ob {n:Nat} (s:Sg):PV.jg n (cE s)=true:=uI fun x hx=>by
 simp only[List.mem_cons,List.not_mem_nil,or_false] at hx
 rcases hx with rfl | rfl<;>simp
noncomputable def DX (g:D1):Prop:=∀ns (b:Int) ps M,AU ps->∃ss,mB ps ss/\g [.mh ns,.int b,aV ps] M=.ok (bD ss) M
theorem Oc {xs:List PV} {k:Nat} (h:k≤xs.length):rL xs (some k) none=xs.drop k:=by
 unfold rL
 rw[HT.C8,HT.Af,Nat.min_eq_left h]
 exact List.take_of_length_le (by simp)
theorem Ip {xs:List PV} {k:Nat}:rL xs none (some k)=xs.take k:=by
 unfold rL
 rw[HT.C8,HT.Af]
 simp
theorem iw {gm gb:D1} (hm:qN gm) (hb:uJ gb):DX (trunc (jG gm gb)):=by
 intro ns b ps M hg
 have ZH:=hg.pd
 suffices h:∃ss G,mB ps ss/\jG gm gb [.mh ns,.int b,aV ps] M=.ok (bD ss) (M++G) by
  obtain⟨ss,G,hg,e⟩:=h
  exact⟨ss,hg,oq.trunc ⟨G,e⟩ (qI Ob _)⟩
 unfold jG
 refine cU (P:=fun r=>∃ss G,mB ps ss/\r=.ok (bD ss) (M++G)) ?_
 simp only[zC,zD,zE,zF,Nat.zero_add,Nat.reduceAdd,Nat.reduceSub,List.replicate,zG,zH]
 refine bh (.obj M.length) (M++[.lst []]) (by simp) ?_
 dsimp only[List.set]
 have hi:tT [(ao cc [(ae 2)])] [some (.mh ns),some (.int b),some (aV ps),some (.obj M.length),none,none,none,none,none] (M++[.lst []])=.ok ((List.range ps.length).map fun(k:Nat)=>PV.int k,none) (M++[.lst []]):=tw (by simp[cc]) (by omega)
 generalize tT [(ao cc [(ae 2)])]=di at hi ⊢
 refine aG (hU (fun(k:Nat)=>PV.int k) (fun pre ρ M'=>∃y4 y5 y6 y7 ss,ρ=[some (.mh ns),some (.int b),some (aV ps),some (.obj M.length),y4,y5,y6,y7,none]/\M'=M++[.lst (ss.map cE)]/\ss.length≤3*pre.length/\ss.Nodup ∧
  ∀s∈ss,s.2<pre.length/\s.1∈(Pc.at ps s.2).js) (List.range ps.length) none (M++[.lst []]) hi trivial ⟨none,none,none,none,[],rfl,rfl,by simp,by simp,by simp⟩ ?_ ?_)
 ·rintro pre k post hx ρ M' ⟨y4,y5,y6,y7,ss,rfl,rfl,hl,zU,hs⟩
  obtain⟨hk,mI⟩:=iB hx
  have ZI:=Io hx
  have ZJ:=Fj (Pc.at ps k)
  refine⟨_,rfl,?_⟩
  dsimp only[List.set]
  refine hU PV.int (fun qL ρ M'=>∃y5 y6 y7 ss,ρ=[some (.mh ns),some (.int b),some (aV ps),some (.obj M.length),some (.int k),y5,y6,y7,none]/\M'=M++[.lst (ss.map cE)]/\ss.length≤3*pre.length+qL.length/\ss.Nodup ∧
   ∀s∈ss,(s.2<pre.length/\s.1∈(Pc.at ps s.2).js)\/(s.2=k/\s.1∈qL)) (Pc.at ps k).js none (M++[.lst (ss.map cE)]) (HS (by simp[ot hk,QQ])) trivial ⟨y5,y6,y7,ss,rfl,rfl,by simp; exact hl,zU,fun s h=>.inl (hs s h)⟩ ?_ ?_
  ·rintro qL j Ml Mm ρ M' ⟨z5,z6,z7,tt,rfl,rfl,YC,SG,Q9⟩
   have Wz:(Pc.at ps k).js.Nodup:=hg.once _ (Cy hk)
   have YD:j∉qL:=by
    rw[Mm,List.nodup_append] at Wz
    exact fun h=>Wz.2.2 j h j (by simp) rfl
   have YE:qL.length<3:=by
    have:=congrArg List.length Mm
    simp at this
    omega
   refine⟨_,rfl,?_⟩
   dsimp only[List.set]
   generalize UU:jr ns (b+3*k+tt.length)=num
   refine bh (.int num) (M++[.lst (tt.map cE)]) (by simp[hm ns,cc,kE,small,UU]) ?_
   dsimp only[List.set]
   refine bh (.bl (j4 (bJ (beyond ps k j)))) (M++[.lst (tt.map cE)]) (by simp[hb ps k j _ (by omega),sV]) ?_
   dsimp only[List.set]
   have NA:(tt++[(j,k)]).Nodup:=by
    rw[List.nodup_append]
    refine⟨SG,by simp,fun s Gk s2 PQ=>?_⟩
    simp only[List.mem_cons,List.not_mem_nil,or_false] at PQ
    subst PQ
    rintro rfl
    rcases Q9 _ Gk with h | h
    ·omega
    ·exact YD h.2
   have UT:∃t,Ar (aQ (ax (dR false) (ax dy (ae 6) (dC (.int 3))) (dC (.int 0)))) (mn (gZ (ae 7)) (aQ (ax (dR false) (ax dy (ae 6) (dC (.int 3))) (dC (.int 1))))) [some (.mh ns),some (.int b),some (aV ps),some (.obj M.length),some (.int k),some (.int j),some (.int num),some (.bl (j4 (bJ (beyond ps k j)))),none] (M++[.lst (tt.map cE)])=.ok t (M++[.lst (tt.map cE)]):=by
    by_cases h1:num%3=0
    ·exact⟨true,by simp[dy,jl,h1]⟩
    ·by_cases h2:j4 (bJ (beyond ps k j))=true
     ·exact⟨decide (num%3=1),by simp[dy,jl,kd,h1,h2]⟩
     ·exact⟨false,by simp[dy,jl,kd,h1,h2]⟩
   obtain⟨t,ht⟩:=UT
   refine hJ t _ ht (fun _=>?_) fun _=>?_
   ·refine cD .aN (M++[.lst ((tt++[(j,k)]).map cE)]) ?_ (bK trivial ⟨_,_,_,tt++[(j,k)],rfl,rfl,by simp; omega,NA,fun s hs=>?_⟩)
    ·simp[dq,Dq,lim,cE]
     omega
    ·rcases List.mem_append.mp hs with h | h
     ·rcases Q9 s h with h | h
      ·exact .inl h
      ·exact .inr ⟨h.1,by simp[h.2]⟩
     ·simp only[List.mem_cons,List.not_mem_nil,or_false] at h
      subst h
      exact .inr ⟨rfl,by simp⟩
   ·refine dU (bK trivial ⟨_,_,_,tt,rfl,rfl,by simp; omega,SG,fun s hs=>?_⟩)
    rcases Q9 s hs with h | h
    ·exact .inl h
    ·exact .inr ⟨h.1,by simp[h.2]⟩
  ·rintro ρ' M' ⟨z5,z6,z7,tt,rfl,rfl,YC,SG,Q9⟩
   refine bK trivial ⟨_,_,_,_,tt,rfl,rfl,by simp; omega,SG,fun s hs=>?_⟩
   rw[List.length_append,List.length_singleton]
   rcases Q9 s hs with h | h
   ·exact⟨by omega,h.2⟩
   ·rw[h.1]
    exact⟨by omega,h.2⟩
 ·rintro ρ' M' ⟨y4,y5,y6,y7,ss,rfl,rfl,hl,zU,hs⟩
  rw[List.length_range] at hl hs
  obtain⟨sh,T4⟩:=Int.eq_ofNat_of_zero_le (Int.emod_nonneg (jr ns (b+30)) (b:=1+(ss.length:Int)) (by omega))
  have OX:sh≤ss.length:=by have:=Int.emod_lt_of_pos (jr ns (b+30)) (b:=1+(ss.length:Int)) (by omega); omega
  refine aq (bh (.int sh) (M++[.lst (ss.map cE)]) ?_ ?_)
  ·simp[hm ns,cc,dy,jl]
   rw[if_pos (by omega),T4]
  ·dsimp only[List.set]
   have Mo:(ss.drop sh++ss.take sh).Perm ss:=by
    have:=List.perm_append_comm (l₁:=ss.drop sh) (l₂:=ss.take sh)
    rwa[List.take_append_drop] at this
   refine bS (bD ((ss.drop sh++ss.take sh).take 16)) (M++[.lst (ss.map cE)]) ?_ (bj ⟨_,[.lst (ss.map cE)],⟨hg.Ic,by omega,hg.BK,hg.once,hg.two,?_,?_,fun s h=>?_⟩,rfl⟩)
   ·have e1:∀M:aP,EN false (.obj M.length) (some (sh:Int)) none (M++[.lst (ss.map cE)])=.ok (bD (ss.drop sh)) (M++[.lst (ss.map cE)]):=fun M=>by
     simp only[EN,vg,AN]
     rw[Oc (by simp; exact OX),← List.map_drop,bT (by simp; omega)]
    have e2:∀M:aP,EN false (.obj M.length) none (some (sh:Int)) (M++[.lst (ss.map cE)])=.ok (bD (ss.take sh)) (M++[.lst (ss.map cE)]):=fun M=>by
     simp only[EN,vg,AN]
     rw[Ip,← List.map_take,bT (by simp; omega)]
    have e3:∀(M:aP) (xs:List Sg),xs.length≤100->EN false (bD xs) none (some 16) M=.ok (bD (xs.take 16)) M:=fun M xs hx=>by
     simp only[EN,qo]
     rw[show(some (16:Int))=some ((16:Nat):Int) from rfl,Ip,← List.map_take,bT (by simp; omega)]
    simp only[HN,aI,aS,AM,vC,dI,ag,zB,zA,e1,e2,qr]
    rw[← List.map_append,bT (by simp; omega),ag,e3 _ _ (by simp; omega)]
   ·rw[List.length_take]; omega
   ·exact((Mo.nodup_iff).mpr zU).sublist (List.take_sublist _ _)
   ·exact hs s (Mo.mem_iff.mp (List.mem_of_mem_take h))
end Sb
end
section
namespace Sb
open PySem L2 PyProof.Rows
structure Iq (p:Pc) (j o:Int):Prop where
 ne:o≠j
 mem:o∈p.js
 YF:p.js.length=3->p.js.headD 0=j\/p.js.headD 0=o
theorem Lm {p:Pc} {j o:Int} (hn:p.js.Nodup) (h:o∈qH p j):Iq p j o:=by
 cases p with
 | pl a b =>
  obtain⟨h1,h2⟩:=List.mem_filter.mp h
  exact⟨of_decide_eq_true h2,h1,by simp[Pc.js]⟩
 | pt t s b =>
  simp only[Pc.js,List.nodup_cons,List.mem_cons,List.not_mem_nil,or_false,not_or] at hn
  unfold qH at h
  dsimp only at h
  split at h
  ·rename_i e
   subst e
   simp only[List.mem_cons,List.not_mem_nil,or_false] at h
   refine⟨?_,by rcases h with rfl | rfl<;>simp[Pc.js],fun _=>.inl rfl⟩
   rcases h with rfl | rfl
   ·exact fun e=>hn.1.1 e.symm
   ·exact fun e=>hn.1.2 e.symm
  ·rename_i e
   simp only[List.mem_cons,List.not_mem_nil,or_false] at h
   subst h
   exact⟨fun z=>e z.symm,by simp[Pc.js],fun _=>.inr rfl⟩
noncomputable def Chain (ps:jj) (ss:List Sg):Bool->Int->Option Nat->List gK->Prop
 | _,j,a,[]=>∀b,a=some b->(j,b)∈ss
 | f,j,a,(a',j',o)::r=>a=some a'/\j'=j/\(f=false->(j,a')∉ss)/\a'<ps.length/\Iq (Pc.at ps a') j o/\Chain ps ss false o (beyond ps a' o) r
theorem vG {ps:jj} {ss:List Sg} (hn:∀p∈ps,p.js.Nodup):∀(n:Nat) (way w:List gK) (j:Int) (a:Nat) (f:Bool),qK ps way a->(f=false->(j,a)∉ss)->w∈kZ ps ss n way j a →
  ∃r,w=way++r/\r≠[]/\Chain ps ss f j (some a) r/\(w.map (·.1)).Nodup/\w.length≤ps.length
 | 0,way,w,j,a,f,ok,hf,h=>by simp[kZ] at h
 | n+1,way,w,j,a,f,ok,hf,h=>by
  rw[jq] at h
  split at h
  ·simp at h
  rename_i ha
  obtain⟨o,ho,hw⟩:=List.mem_flatMap.mp h
  have UW:=Lm (hn _ (Cy ok.lt)) ho
  have zU:((way++[(a,j,o)]).map (·.1)).Nodup:=by
   rw[List.map_append,List.nodup_append]
   refine⟨ok.nd,by simp,fun x hx y hy=>?_⟩
   simp at hy
   subst hy
   rintro rfl
   exact ha hx
  have hlen:(way++[(a,j,o)]).length≤ps.length:=by
   have:=oU (n:=ps.length) zU fun x hx=>by
    obtain⟨s,hs,rfl⟩:=List.mem_map.mp hx
    rcases List.mem_append.mp hs with hs | hs
    ·exact ok.all s hs
    ·simp at hs
     subst hs
     exact ok.lt
   simpa using this
  unfold gL at hw
  cases hb:beyond ps a o with
  | none =>
   rw[hb] at hw
   simp only[List.mem_cons,List.not_mem_nil,or_false] at hw
   subst hw
   exact⟨[(a,j,o)],rfl,by simp,⟨rfl,rfl,hf,ok.lt,UW,by rw[hb]; exact nofun⟩,zU,hlen⟩
  | some b =>
   rw[hb] at hw
   dsimp only at hw
   split at hw
   ·rename_i hs
    simp only[List.mem_cons,List.not_mem_nil,or_false] at hw
    subst hw
    exact⟨[(a,j,o)],rfl,by simp,⟨rfl,rfl,hf,ok.lt,UW,by rw[hb]; intro b' e; cases e; exact hs⟩,zU,hlen⟩
   ·rename_i hs
    obtain⟨r,e,hr,hc,h1,h2⟩:=vG hn n (way++[(a,j,o)]) w o b false (ok.step ha hb) (fun _=>hs) hw
    exact⟨(a,j,o)::r,by rw[e]; simp,by simp,⟨rfl,rfl,hf,ok.lt,UW,by rw[hb]; exact hc⟩,h1,h2⟩
structure DY (ps:jj) (ss:List Sg) (r:Rt):Prop where
 lt:r.1<ss.length
 ne:r.2≠[]
 chain:Chain ps ss true (dA ss r.1).1 (some (dA ss r.1).2) r.2
 nd:(r.2.map (·.1)).Nodup
 len:r.2.length≤ps.length
theorem Ir {ps:jj} {ss:List Sg} (hg:mB ps ss) {r:Rt} (h:r∈bU ps ss):DY ps ss r:=by
 obtain⟨k,hk,h⟩:=List.mem_flatMap.mp h
 have hk:=List.mem_range.mp hk
 obtain⟨w,hw,rfl⟩:=List.mem_map.mp h
 obtain⟨r,e,h1,h2,h3,h4⟩:=vG hg.once fuel [] w (dA ss k).1 (dA ss k).2 true (N8 hg hk) nofun hw
 rw[zH] at e
 subst e
 exact⟨hk,h1,h2,h3,h4⟩
end Sb
end
section
namespace L2
open PySem
theorem Od {Q:Out->Prop} {C:Addr} {f:Str} {kG dv:DE} {ρ:dX} {M:aP} (y:PV) (M1:aP) (n:Nat) (fs Gb:List (Str×PV)) (h:dv ρ M=.ok y M1) (ho:kG ρ M1=.ok (.obj n) M1) (hn:M1[n]? = some (.ins C fs)) (hl:fs.length<1000) (hf:qw f y fs=Gb)
  (q:Q (.nx ρ (M1.set n (.ins C Gb)))):Q (hG C f kG dv ρ M):=by
 unfold hG
 rw[h,Res.el,ho,Res.el,oN hn]
 dsimp only
 rw[if_pos hl,hf]
 exact q
theorem lY {Q:Out->Prop} {c:Addr} {f:Str} {dv:DE} {ρ:dX} {M G G':aP} {fs:List (Str×PV)} {s2:DS} (y:PV) (Gb:List (Str×PV)) (h0:ρ[0]? = some (some (.obj M.length))) (h:dv ρ (M++.ins c fs::G)=.ok y (M++.ins c fs::G')) (hl:fs.length<1000) (hf:qw f y fs=Gb)
  (q:Q (.nx ρ (M++.ins c Gb::G'))):Q (hG c f (ae 0) dv ρ (M++.ins c fs::G)):=by
 refine Od y _ M.length fs Gb h (by rw[aS,h0]) (by simp) hl hf ?_
 rw[DV]
 exact q
end L2
namespace Sb
open PySem L2
noncomputable def Oe (L:Nat) (ps:jj) (ss:List Sg) (rs:List Rt) (wait:Int):List (Str×PV) :=
 [("found",eC rs),("pieces",aV ps),("signals",bD ss),("wait",.int wait),("ticks",.int 0),("locks",.obj (L+1)),("lying",.obj (L+2)),("greens",.obj (L+3)),("falls",.obj (L+4)),("trains",.obj (L+5))]
noncomputable def lL (c:Addr) (L:Nat) (ps:jj) (ss:List Sg) (rs:List Rt) (wait:Int):aP :=
 [.ins c (Oe L ps ss rs wait),.bR [],.lst (ps.map fun _=>.str "straight"),.bR [],.bR [],.bR []]
theorem fT {c:Addr} {gr:D1} (hr:k7 gr) {ps:jj} {ss:List Sg} (hg:mB ps ss) (wait:Int) (M:aP):lV c gr [.obj M.length,aV ps,bD ss,.int wait] (M++[.ins c []])=.ok .aN (M++lL c M.length ps ss (bU ps ss) wait):=by
 have JF:=hg.pd
 have UX:=hg.yH
 unfold lV
 refine cU (P:=fun r=>r=.ok .aN (M++lL c M.length ps ss (bU ps ss) wait)) ?_
 simp only[zC,zD,zE,zF,Nat.zero_add,Nat.reduceAdd,Nat.reduceSub,List.replicate,zG,zH,zI]
 generalize UY:bU ps ss=rs
 have Ln:∀N:aP,dj true [none] (iL (ae 1)) (gN 0) zT (dC (.str "straight")) [some (.obj M.length),some (aV ps),some (bD ss),some (.int wait)] N=.ok (.obj N.length) (N++[.lst (ps.map fun _=>.str "straight")]):=fun N=>by
  rw[cu (xs:=ps) (w:=none) (M':=N) Pc.enc (fun _=>true) (fun _=>.str "straight") (fun ρ=>∃y,ρ=[y]) (eu (by simp)) trivial ⟨none,rfl⟩ (fun x _ ρ hρ=>by
   obtain⟨y,rfl⟩:=hρ
   exact⟨_,rfl,⟨_,rfl⟩,rfl,fun _=>rfl⟩) (Nat.le_trans JF (by decide)),List.filter_eq_self.mpr (fun _ _=>rfl),nU (by rw[zK]; exact Nat.le_trans JF (by decide))]
 refine aG (lY (M:=M) (G':=[]) (s2:=fc) (eC rs) [("found",eC rs)] rfl (by simp[hr ps ss _ hg,UY]) (by show 0<1000; decide) (by with_unfolding_all rfl) (aq ?_))
 refine aG (lY (M:=M) (G':=[]) (s2:=fc) (aV ps) [("found",eC rs),("pieces",aV ps)] rfl (by simp[mq]; exact bT (by simp; omega)) (by show 1<1000; decide) (by with_unfolding_all rfl) (aq ?_))
 refine aG (lY (M:=M) (G':=[]) (s2:=fc) (bD ss) [("found",eC rs),("pieces",aV ps),("signals",bD ss)] rfl (by simp[mq]; exact bT (by simp; omega)) (by show 2<1000; decide) (by with_unfolding_all rfl) (aq ?_))
 refine aG (lY (M:=M) (G':=[]) (s2:=fc) (.int wait) [("found",eC rs),("pieces",aV ps),("signals",bD ss),("wait",.int wait)] rfl (rfl) (by show 3<1000; decide) (by with_unfolding_all rfl) (aq ?_))
 refine aG (lY (M:=M) (G':=[]) (s2:=fc) (.int 0) [("found",eC rs),("pieces",aV ps),("signals",bD ss),("wait",.int wait),("ticks",.int 0)] rfl (rfl) (by show 4<1000; decide) (by with_unfolding_all rfl) (aq ?_))
 refine aG (lY (M:=M) (G':=[.bR []]) (s2:=fc) (.obj (M.length+1)) [("found",eC rs),("pieces",aV ps),("signals",bD ss),("wait",.int wait),("ticks",.int 0),("locks",.obj (M.length+1))] rfl (by simp[mr]) (by show 5<1000; decide) (by with_unfolding_all rfl) (aq ?_))
 refine aG (lY (M:=M) (G':=[.bR [],.lst (ps.map fun _=>.str "straight")]) (s2:=fc) (.obj (M.length+2)) [("found",eC rs),("pieces",aV ps),("signals",bD ss),("wait",.int wait),("ticks",.int 0),("locks",.obj (M.length+1)),("lying",.obj (M.length+2))] rfl (by rw[Ln]; simp) (by show 6<1000; decide) (by with_unfolding_all rfl) (aq ?_))
 refine aG (lY (M:=M) (G':=[.bR [],.lst (ps.map fun _=>.str "straight"),.bR []]) (s2:=fc) (.obj (M.length+3)) [("found",eC rs),("pieces",aV ps),("signals",bD ss),("wait",.int wait),("ticks",.int 0),("locks",.obj (M.length+1)),("lying",.obj (M.length+2)),("greens",.obj (M.length+3))] rfl (by simp[mr]) (by show 7<1000; decide) (by with_unfolding_all rfl) (aq ?_))
 refine aG (lY (M:=M) (G':=[.bR [],.lst (ps.map fun _=>.str "straight"),.bR [],.bR []]) (s2:=fc) (.obj (M.length+4)) [("found",eC rs),("pieces",aV ps),("signals",bD ss),("wait",.int wait),("ticks",.int 0),("locks",.obj (M.length+1)),("lying",.obj (M.length+2)),("greens",.obj (M.length+3)),("falls",.obj (M.length+4))] rfl (by simp[mr]) (by show 8<1000; decide) (by with_unfolding_all rfl) (aq ?_))
 exact lY (M:=M) (G':=[.bR [],.lst (ps.map fun _=>.str "straight"),.bR [],.bR [],.bR []]) (s2:=fc) (.obj (M.length+5)) [("found",eC rs),("pieces",aV ps),("signals",bD ss),("wait",.int wait),("ticks",.int 0),("locks",.obj (M.length+1)),("lying",.obj (M.length+2)),("greens",.obj (M.length+3)),("falls",.obj (M.length+4)),("trains",.obj (M.length+5))] rfl (by simp[mr]) (by show 9<1000; decide) (by with_unfolding_all rfl) (gY rfl)
end Sb
end
section
namespace Sb
open PySem L2
section
variable {α:Type}
noncomputable def bA (d:List (Nat×α)) (k:Nat):Option α:=(d.find? fun q=>decide (q.1=k)).map (·.2)
noncomputable def jh (d:List (Nat×α)) (k:Nat) (v:α):List (Nat×α) :=
 if d.any (fun q=>decide (q.1=k)) then d.map (fun q=>if q.1=k then(q.1,v) else q) else d++[(k,v)]
noncomputable def ji (d:List (Nat×α)) (k:Nat):List (Nat×α):=d.filter fun q=>decide (q.1≠k)
theorem mD (k:Nat):bA ([]:List (Nat×α)) k=none:=rfl
theorem eU (q:Nat×α) (d:List (Nat×α)) (k:Nat):bA (q::d) k=if q.1=k then some q.2 else bA d k:=by
 unfold bA
 rw[List.find?_cons]
 by_cases h:q.1=k<;>simp[h]
theorem AV (d:List (Nat×α)) (k:Nat) (v:α) (k':Nat):bA (d++[(k,v)]) k'=(bA d k').or (if k=k' then some v else none):=by
 induction d with
 | nil=>rw[zH,eU,mD]; rfl
 | cons q d ih =>
  rw[zG,eU,eU,ih]
  by_cases h:q.1=k'<;>simp[h]
theorem Iu (d:List (Nat×α)) (k:Nat) (v:α) (k':Nat):bA (d.map fun q=>if q.1=k then(q.1,v) else q) k'=if k'=k then(bA d k').map (fun _=>v) else bA d k':=by
 induction d with
 | nil=>simp[mD]
 | cons q d ih =>
  rw[zC,eU,eU,ih]
  by_cases h:q.1=k
  ·by_cases h2:k=k'
   ·simp[h,h2]
   ·have h3:¬k'=k:=fun e=>h2 e.symm
    simp[h,h2,h3]
  ·by_cases h2:q.1=k'
   ·subst h2; simp[h]
   ·simp[h,h2]
theorem mem_keys (d:List (Nat×α)) (k:Nat):k∈d.map (·.1)↔(bA d k).isSome=true:=by
 induction d with
 | nil=>simp[mD]
 | cons q d ih =>
  rw[zC,List.mem_cons,ih,eU]
  by_cases h:q.1=k
  ·simp[h]
  ·rw[if_neg h]; exact⟨fun o=>o.elim (fun e=>absurd e.symm h) id,.inr⟩
theorem any_keys (d:List (Nat×α)) (k:Nat):d.any (fun q=>decide (q.1=k))=true↔k∈d.map (·.1):=by
 rw[List.any_eq_true]
 constructor
 ·rintro⟨q,hq,h⟩
  exact List.mem_map.mpr ⟨q,hq,of_decide_eq_true h⟩
 ·intro h
  obtain⟨q,hq,e⟩:=List.mem_map.mp h
  exact⟨q,hq,decide_eq_true e⟩
theorem rZ (d:List (Nat×α)) (k:Nat) (v:α) (k':Nat):bA (jh d k v) k'=if k'=k then some v else bA d k':=by
 unfold jh
 by_cases h:d.any (fun q=>decide (q.1=k))=true
 ·rw[if_pos h,Iu]
  by_cases h2:k'=k
  ·subst h2
   have:=(mem_keys d k').mp ((any_keys d k').mp h)
   rw[if_pos rfl,if_pos rfl]
   cases e:bA d k' with
   | none=>rw[e] at this; simp at this
   | some x=>rfl
  ·rw[if_neg h2,if_neg h2]
 ·rw[if_neg h,AV]
  by_cases h2:k'=k
  ·subst h2
   have h3:¬(bA d k').isSome=true:=fun e=>h ((any_keys d k').mpr ((mem_keys d k').mpr e))
   rw[if_pos rfl,if_pos rfl]
   cases e:bA d k' with
   | none=>rfl
   | some x=>rw[e] at h3; simp at h3
  ·rw[if_neg h2,if_neg (fun e=>h2 e.symm)]
   simp
theorem oW (d:List (Nat×α)) (k k':Nat):bA (ji d k) k'=if k'=k then none else bA d k':=by
 unfold ji
 induction d with
 | nil=>simp[mD]
 | cons q d ih =>
  rw[List.filter_cons]
  by_cases h:q.1=k
  ·rw[if_neg (by simp[h]),ih,eU]
   by_cases h2:k'=k
   ·rw[if_pos h2,if_pos h2]
   ·rw[if_neg h2,if_neg h2,if_neg (fun e=>h2 (e.symm.trans h))]
  ·rw[if_pos (by simp[h]),eU,ih,eU]
   by_cases h2:k'=k
   ·rw[if_pos h2,if_pos h2,if_neg (fun e=>h (e.trans h2))]
   ·rw[if_neg h2,if_neg h2]
theorem Fm (d:List (Nat×α)) (k:Nat) (v:α):(jh d k v).map (·.1)=if k∈d.map (·.1) then d.map (·.1) else d.map (·.1)++[k]:=by
 unfold jh
 by_cases h:d.any (fun q=>decide (q.1=k))=true
 ·rw[if_pos h,if_pos ((any_keys d k).mp h),List.map_map]
  refine List.map_congr_left fun q _=>?_
  by_cases h2:q.1=k<;>simp[h2]
 ·rw[if_neg h,if_neg (fun e=>h ((any_keys d k).mpr e)),List.map_append]
  rfl
theorem Iv (d:List (Nat×α)) (k:Nat) (v:α) (k':Nat):k'∈(jh d k v).map (·.1)↔k'=k\/k'∈d.map (·.1):=by
 rw[mem_keys,rZ,mem_keys]
 by_cases h:k'=k<;>simp[h]
theorem Iw (d:List (Nat×α)) (k:Nat) (k':Nat):k'∈(ji d k).map (·.1)↔k'≠k/\k'∈d.map (·.1):=by
 rw[mem_keys,oW,mem_keys]
 by_cases h:k'=k<;>simp[h]
theorem yK {d:List (Nat×α)} {k:Nat} {v:α} (h:(d.map (·.1)).Nodup):((jh d k v).map (·.1)).Nodup:=by
 rw[Fm]
 split
 ·exact h
 ·rename_i hk
  rw[List.nodup_append]
  refine⟨h,by simp,fun a ha b hb=>?_⟩
  simp at hb
  subst hb
  rintro rfl
  exact hk ha
theorem uK {d:List (Nat×α)} {k:Nat} (h:(d.map (·.1)).Nodup):((ji d k).map (·.1)).Nodup:=by
 unfold ji
 have:((d.filter fun q=>decide (q.1≠k)).map (·.1)).Sublist (d.map (·.1)):=List.filter_sublist.map _
 exact h.sublist this
theorem vH {d:List (Nat×α)} {k:Nat} {v:α} (h:k∉d.map (·.1)):jh d k v=d++[(k,v)]:=by
 unfold jh
 rw[if_neg (fun e=>h ((any_keys d k).mp e))]
theorem AW {d:List (Nat×α)} {k:Nat} {v:α} (h:bA d k=some v):(k,v)∈d:=by
 unfold bA at h
 obtain⟨q,hq,e⟩:=Option.map_eq_some_iff.mp h
 have h1:=List.mem_of_find?_eq_some hq
 have h2:=List.find?_some hq
 have h3:q.1=k:=of_decide_eq_true h2
 obtain⟨a,b⟩:=q
 cases h3; cases e
 exact h1
theorem AX {d:List (Nat×α)} (hn:(d.map (·.1)).Nodup) {q:Nat×α} (h:q∈d):bA d q.1=some q.2:=by
 induction d with
 | nil=>simp at h
 | cons q' d ih =>
  rw[eU]
  rw[zC,List.nodup_cons] at hn
  rcases List.mem_cons.mp h with rfl | h
  ·simp
  ·rw[if_neg (fun e=>hn.1 (by rw[e]; exact List.mem_map.mpr ⟨q,h,rfl⟩)),ih hn.2 h]
end
noncomputable def bN (bE:List Rt) (r:Nat):List gK:=(bE.getD r (0,[])).2
noncomputable def bb (bE:List Rt) (r:Nat):Nat:=(bE.getD r (0,[])).1
noncomputable def hV (bE:List Rt) (r:Nat):List Nat:=(bN bE r).map (·.1)
structure Wd where
 locks:List (Option Nat)
 points:List (Option Bool)
 green:List Nat
 falls:List (Nat×Int)
 now:Int
structure Bx where
 locks:List (Nat×Nat)
 lying:List Bool
 greens:List (Nat×Nat)
 falls:List (Nat×Int)
 ticks:Int
structure iC (n:Nat) (bE:List Rt):Prop where
 nd:∀r<bE.length,(hV bE r).Nodup
 lt:∀r<bE.length,∀p∈hV bE r,p<n
 hd:∀r<bE.length,∀r'<bE.length,bb bE r=bb bE r'->∃p,p∈hV bE r/\p∈hV bE r'
structure Inv (n:Nat) (bE:List Rt) (W:Wd):Prop where
 ln:W.locks.length=n
 own:∀r,r∈W.green\/r∈W.falls.map (·.1)->r<bE.length/\∀p∈hV bE r,W.locks[p]? = some (some r)
 lk:∀p r,W.locks[p]? = some (some r)->p∈hV bE r
 DZ:W.green.Nodup
 Iy:(W.falls.map (·.1)).Nodup
 JG:∀r∈W.green,r∉W.falls.map (·.1)
structure vI (n:Nat) (bE:List Rt) (lA:Nat->Bool) (W:Wd) (B:Bx):Prop where
 locks:∀p<n,W.locks[p]? = some (bA B.locks p)
 O5:(B.locks.map (·.1)).Nodup
 O6:∀p∈B.locks.map (·.1),p<n
 Gm:B.lying.length=n
 pn:W.points.length=n
 lies:∀p<n,lA p=true->W.points[p]? = some B.lying[p]?
 greens:∀s r,bA B.greens s=some r↔r∈W.green/\bb bE r=s
 DZ:(B.greens.map (·.1)).Nodup
 falls:B.falls=W.falls
 ticks:B.ticks=W.now
section
variable {n:Nat} {bE:List Rt} {lA:Nat->Bool} {W:Wd} {B:Bx}
theorem Inv.Iz (I:Inv n bE W) {r:Nat} (h:r∈W.green):r<bE.length:=(I.own r (.inl h)).1
theorem Inv.one (I:Inv n bE W) (R:iC n bE) {r r':Nat} (h:r∈W.green\/r∈W.falls.map (·.1)) (h':r'∈W.green\/r'∈W.falls.map (·.1)) (e:bb bE r=bb bE r'):r=r':=by
 obtain⟨p,h1,h2⟩:=R.hd r (I.own r h).1 r' (I.own r' h').1 e
 have e1:=(I.own r h).2 p h1
 have e2:=(I.own r' h').2 p h2
 rw[e1] at e2
 cases e2
 rfl
noncomputable def iD (r:Nat) (w:List gK) (l:List (Option Nat)):List (Option Nat):=w.foldl (fun l s=>l.set s.1 (some r)) l
noncomputable def iF (r:Nat) (w:List gK) (d:List (Nat×Nat)):List (Nat×Nat):=w.foldl (fun d s=>jh d s.1 r) d
noncomputable def ff (r:Nat) (l:List (Option Nat)):List (Option Nat):=l.map fun o=>if o=some r then none else o
noncomputable def dP (w:List gK) (d:List (Nat×Nat)):List (Nat×Nat):=w.foldl (fun d s=>ji d s.1) d
noncomputable def jW (lA:Nat->Bool) (p6:gK->Bool) (w:List gK) (l:List (Option Bool)):List (Option Bool):=w.foldl (fun l s=>if lA s.1 then l.set s.1 (some (p6 s)) else l) l
noncomputable def vJ (p6:gK->Bool) (w:List gK) (l:List Bool):List Bool:=w.foldl (fun l s=>l.set s.1 (p6 s)) l
theorem oX (r:Nat):∀(w:List gK) (l:List (Option Nat)),(iD r w l).length=l.length
 | [],l=>rfl
 | s::w,l=>by show(iD r w (l.set s.1 (some r))).length=_; rw[oX r w]; simp
theorem r6 (r p:Nat):∀(w:List gK) (l:List (Option Nat)),p<l.length->(iD r w l)[p]? = if p∈w.map (·.1) then some (some r) else l[p]?
 | [],l,h=>by simp[iD]
 | s::w,l,h=>by
  show(iD r w (l.set s.1 (some r)))[p]? = _
  rw[r6 r p w _ (by simpa using h),zC]
  by_cases h1:p∈w.map (·.1)
  ·rw[if_pos h1,if_pos (List.mem_cons_of_mem _ h1)]
  ·rw[if_neg h1]
   by_cases h2:s.1=p
   ·subst h2
    rw[if_pos (by simp),List.getElem?_set_self h]
   ·rw[if_neg (fun e=>(List.mem_cons.mp e).elim (fun e=>h2 e.symm) h1),List.getElem?_set_ne h2]
theorem r9 (r p:Nat):∀(w:List gK) (d:List (Nat×Nat)),bA (iF r w d) p=if p∈w.map (·.1) then some r else bA d p
 | [],d=>by simp[iF]
 | s::w,d=>by
  show bA (iF r w (jh d s.1 r)) p=_
  rw[r9 r p w,zC,rZ]
  by_cases h1:p∈w.map (·.1)
  ·rw[if_pos h1,if_pos (List.mem_cons_of_mem _ h1)]
  ·rw[if_neg h1]
   by_cases h2:p=s.1
   ·subst h2
    rw[if_pos rfl,if_pos (by simp)]
   ·rw[if_neg h2,if_neg (fun e=>(List.mem_cons.mp e).elim h2 h1)]
theorem lM (p:Nat):∀(w:List gK) (d:List (Nat×Nat)),bA (dP w d) p=if p∈w.map (·.1) then none else bA d p
 | [],d=>by simp[dP]
 | s::w,d=>by
  show bA (dP w (ji d s.1)) p=_
  rw[lM p w,zC,oW]
  by_cases h1:p∈w.map (·.1)
  ·rw[if_pos h1,if_pos (List.mem_cons_of_mem _ h1)]
  ·rw[if_neg h1]
   by_cases h2:p=s.1
   ·subst h2
    rw[if_pos rfl,if_pos (by simp)]
   ·rw[if_neg h2,if_neg (fun e=>(List.mem_cons.mp e).elim h2 h1)]
theorem vK (r:Nat):∀(w:List gK) (d:List (Nat×Nat)),(d.map (·.1)).Nodup->((iF r w d).map (·.1)).Nodup
 | [],d,h=>h
 | s::w,d,h=>vK r w _ (yK h)
theorem vL:∀(w:List gK) (d:List (Nat×Nat)),(d.map (·.1)).Nodup->((dP w d).map (·.1)).Nodup
 | [],d,h=>h
 | s::w,d,h=>vL w _ (uK h)
theorem AY {n:Nat} (r:Nat) (w:List gK) (d:List (Nat×Nat)) (hw:∀p∈w.map (·.1),p<n) (h:∀p∈d.map (·.1),p<n):∀p∈(iF r w d).map (·.1),p<n:=by
 intro p hp
 rw[mem_keys,r9] at hp
 by_cases h1:p∈w.map (·.1)
 ·exact hw p h1
 ·rw[if_neg h1,← mem_keys] at hp
  exact h p hp
theorem CA {n:Nat} (w:List gK) (d:List (Nat×Nat)) (h:∀p∈d.map (·.1),p<n):∀p∈(dP w d).map (·.1),p<n:=by
 intro p hp
 rw[mem_keys,lM] at hp
 by_cases h1:p∈w.map (·.1)
 ·rw[if_pos h1] at hp; simp at hp
 ·rw[if_neg h1,← mem_keys] at hp
  exact h p hp
theorem sd (r p:Nat) (l:List (Option Nat)):(ff r l)[p]? = l[p]?.map fun o=>if o=some r then none else o:=by
 unfold ff; rw[zJ]
theorem pU (p6:gK->Bool):∀(w:List gK) (l:List (Option Bool)),(jW lA p6 w l).length=l.length
 | [],l=>rfl
 | s::w,l=>by
  show(jW lA p6 w (if lA s.1 then l.set s.1 (some (p6 s)) else l)).length=_
  rw[pU p6 w]
  split<;>simp
theorem vM (p6:gK->Bool):∀(w:List gK) (l:List Bool),(vJ p6 w l).length=l.length
 | [],l=>rfl
 | s::w,l=>by
  show(vJ p6 w (l.set s.1 (p6 s))).length=_
  rw[vM p6 w]; simp
theorem xN {lw lb:gK->Bool}:∀(w:List gK) (l:List (Option Bool)) (b:List Bool),(∀s∈w,lA s.1=true->lw s=lb s)->l.length=b.length->(∀p<l.length,lA p=true->l[p]? = some b[p]?) →
  ∀p<l.length,lA p=true->(jW lA lw w l)[p]? = some (vJ lb w b)[p]?
 | [],l,b,_,_,h=>h
 | s::w,l,b,hw,hl,h=>by
  show ∀p<l.length,lA p=true->(jW lA lw w (if lA s.1 then l.set s.1 (some (lw s)) else l))[p]? = some (vJ lb w (b.set s.1 (lb s)))[p]?
  have ih:=xN (lw:=lw) (lb:=lb) w (if lA s.1 then l.set s.1 (some (lw s)) else l) (b.set s.1 (lb s)) (fun s hs=>hw s (by simp[hs])) (by split<;>simp[hl]) (by
   intro p hp wF
   have Of:p<l.length:=by split at hp<;>simpa using hp
   by_cases e:s.1=p
   ·subst e
    rw[if_pos wF,List.getElem?_set_self Of,List.getElem?_set_self (by omega),hw s (by simp) wF]
   ·rw[List.getElem?_set_ne e]
    split
    ·rw[List.getElem?_set_ne e]; exact h p Of wF
    ·exact h p Of wF)
  intro p hp
  exact ih p (by split<;>simpa using hp)
noncomputable def IA (bE:List Rt) (lA:Nat->Bool) (p6:gK->Bool) (W:Wd) (r:Nat):Wd :=
 { W with locks:=iD r (bN bE r) W.locks,points:=jW lA p6 (bN bE r) W.points,green:=W.green++[r] }
noncomputable def setB (bE:List Rt) (p6:gK->Bool) (B:Bx) (r:Nat):Bx :=
 { B with locks:=iF r (bN bE r) B.locks,lying:=vJ p6 (bN bE r) B.lying,greens:=jh B.greens (bb bE r) r }
theorem set_inv {p6:gK->Bool} (R:iC n bE) (I:Inv n bE W) {r:Nat} (hr:r<bE.length) (fE:bN bE r≠[]) (hf:∀p∈hV bE r,W.locks[p]? = some none):Inv n bE (IA bE lA p6 W r):=by
 have YG:∃p,p∈hV bE r:=by
  unfold hV
  cases e:bN bE r with
  | nil=>exact absurd e fE
  | cons s w=>exact⟨s.1,by simp⟩
 have hold:∀r',r'∈W.green\/r'∈W.falls.map (·.1)->∀p∈hV bE r',p∉hV bE r:=fun r' h' p hp Of=>by
  have e1:=(I.own r' h').2 p hp
  rw[hf p Of] at e1
  cases e1
 have Ra:∀r',r'∈W.green\/r'∈W.falls.map (·.1)->r'≠r:=fun r' h' e=>by
  subst e
  obtain⟨p,hp⟩:=YG
  exact hold _ h' p hp hp
 have get:∀p<n,(iD r (bN bE r) W.locks)[p]? = if p∈hV bE r then some (some r) else W.locks[p]? := fun p hp=>r6 r p _ _ (by rw[I.ln]; exact hp)
 have lt:∀p (o:Option Nat),(iD r (bN bE r) W.locks)[p]? = some o->p<n:=fun p o h=>by
  have:=(List.getElem?_eq_some_iff.mp h).1
  rwa[oX,I.ln] at this
 refine⟨by show(iD _ _ _).length=_; rw[oX]; exact I.ln,?_,?_,?_,I.Iy,?_⟩
 ·intro r' h'
  show _/\∀p∈hV bE r',(iD r (bN bE r) W.locks)[p]? = _
  have h':(r'∈W.green\/r'∈W.falls.map (·.1))\/r'=r:=by
   rcases h' with h' | h'
   ·rcases List.mem_append.mp h' with h' | h'
    ·exact .inl (.inl h')
    ·exact .inr (by simpa using h')
   ·exact .inl (.inr h')
  rcases h' with h' | rfl
  ·refine⟨(I.own r' h').1,fun p hp=>?_⟩
   rw[get p (R.lt r' (I.own r' h').1 p hp),if_neg (hold r' h' p hp)]
   exact(I.own r' h').2 p hp
  ·exact⟨hr,fun p hp=>by rw[get p (R.lt _ hr p hp),if_pos hp]⟩
 ·intro p r' h
  have h:(iD r (bN bE r) W.locks)[p]? = some (some r'):=h
  rw[get p (lt p _ h)] at h
  split at h
  ·rename_i hp
   cases h
   exact hp
  ·exact I.lk p r' h
 ·show(W.green++[r]).Nodup
  rw[List.nodup_append]
  refine⟨I.DZ,by simp,fun a ha b hb=>?_⟩
  simp at hb
  subst hb
  exact Ra a (.inl ha)
 ·intro r' h' h2
  have h':r'∈W.green++[r]:=h'
  rcases List.mem_append.mp h' with h' | h'
  ·exact I.JG r' h' h2
  ·simp at h'
   exact Ra r' (.inr h2) h'
theorem Lo {lw lb:gK->Bool} (R:iC n bE) (I:Inv n bE W) (S:vI n bE lA W B) {r:Nat} (hr:r<bE.length) (hf:∀p∈hV bE r,W.locks[p]? = some none) (hl:∀s∈bN bE r,lA s.1=true->lw s=lb s) :
  vI n bE lA (IA bE lA lw W r) (setB bE lb B r):=by
 refine⟨?_,vK r _ _ S.O5,AY r _ _ (R.lt r hr) S.O6,by show(vJ _ _ _).length=_; rw[vM]; exact S.Gm,by show(jW _ _ _ _).length=_; rw[pU]; exact S.pn,?_,?_,yK S.DZ,S.falls,S.ticks⟩
 ·intro p hp
  show(iD r (bN bE r) W.locks)[p]? = some (bA (iF r (bN bE r) B.locks) p)
  rw[r6 _ _ _ _ (by rw[I.ln]; exact hp),r9,S.locks p hp]
  split<;>rfl
 ·intro p hp
  exact xN (bN bE r) W.points B.lying hl (by rw[S.pn,S.Gm]) (fun p hp=>S.lies p (by rw[S.pn] at hp; exact hp)) p (by rw[S.pn]; exact hp)
 ·intro s r'
  show bA (jh B.greens (bb bE r) r) s=some r'↔r'∈W.green++[r]/\bb bE r'=s
  rw[rZ]
  by_cases h:s=bb bE r
  ·subst h
   rw[if_pos rfl]
   constructor
   ·intro e; cases e; simp
   ·rintro⟨h1,h2⟩
    rcases List.mem_append.mp h1 with h1 | h1
    ·obtain⟨p,hp,Of⟩:=R.hd r' (I.Iz h1) r hr h2
     have:=(I.own r' (.inl h1)).2 p hp
     rw[hf p Of] at this
     cases this
    ·simp at h1; rw[h1]
  ·rw[if_neg h,S.greens]
   constructor
   ·rintro⟨h1,h2⟩; exact⟨by simp[h1],h2⟩
   ·rintro⟨h1,h2⟩
    rcases List.mem_append.mp h1 with h1 | h1
    ·exact⟨h1,h2⟩
    ·simp at h1; subst h1; exact absurd h2.symm h
theorem xO {s r' r:Nat} (R:iC n bE) (I:Inv n bE W) (S:vI n bE lA W B) (h:r∈W.green):bA (ji B.greens (bb bE r)) s=some r'↔r'∈(W.green.filter fun x=>decide (x≠r))/\bb bE r'=s:=by
 rw[oW,List.mem_filter]
 by_cases e:s=bb bE r
 ·rw[if_pos e]
  constructor
  ·intro h; cases h
  ·rintro⟨⟨h1,h2⟩,h3⟩
   exact absurd (I.one R (.inl h1) (.inl h) (h3.trans e)) (of_decide_eq_true h2)
 ·rw[if_neg e,S.greens]
  constructor
  ·rintro⟨h1,h2⟩
   exact⟨⟨h1,decide_eq_true fun e'=>e (by rw[← h2,e'])⟩,h2⟩
  ·rintro⟨⟨h1,_⟩,h2⟩
   exact⟨h1,h2⟩
theorem IB (I:Inv n bE W) {r p:Nat} (h:r∈W.green\/r∈W.falls.map (·.1)) (hp:p<n):(ff r W.locks)[p]? = if p∈hV bE r then some none else W.locks[p]? := by
 rw[sd]
 by_cases h1:p∈hV bE r
 ·rw[(I.own r h).2 p h1,if_pos h1]; simp
 ·rw[if_neg h1]
  have hl:p<W.locks.length:=by rw[I.ln]; exact hp
  cases e:W.locks[p]? with
  | none=>rfl
  | some o =>
   rw[Option.map_some]
   split
   ·rename_i e2
    subst e2
    exact absurd (I.lk p r e) h1
   ·rfl
theorem AZ (R:iC n bE) (I:Inv n bE W) {r:Nat} (h:r∈W.green\/r∈W.falls.map (·.1)) {g:List Nat} {f:List (Nat×Int)} {t:Int} (hg:g.Sublist W.green) (hf:(f.map (·.1)).Sublist (W.falls.map (·.1))) (JH:r∉g) (Ks:r∉f.map (·.1)) :
  Inv n bE { W with locks:=ff r W.locks,green:=g,falls:=f,now:=t }:=by
 have old:∀r',r'∈g\/r'∈f.map (·.1)->(r'∈W.green\/r'∈W.falls.map (·.1))/\r'≠r:=fun r' h'=>by
  rcases h' with h' | h'
  ·exact⟨.inl (hg.subset h'),fun e=>JH (e ▸ h')⟩
  ·exact⟨.inr (hf.subset h'),fun e=>Ks (e ▸ h')⟩
 refine⟨by simp[ff,I.ln],?_,?_,I.DZ.sublist hg,I.Iy.sublist hf,fun r' h1 h2=>I.JG r' (hg.subset h1) (hf.subset h2)⟩
 ·intro r' h'
  obtain⟨h1,h2⟩:=old r' h'
  refine⟨(I.own r' h1).1,fun p hp=>?_⟩
  show(ff r W.locks)[p]? = _
  rw[sd,(I.own r' h1).2 p hp]
  simp[h2]
 ·intro p r' h'
  have h':(ff r W.locks)[p]? = some (some r'):=h'
  rw[sd] at h'
  obtain⟨o,ho,e⟩:=Option.map_eq_some_iff.mp h'
  split at e
  ·cases e
  ·subst e; exact I.lk p r' ho
theorem A0 (R:iC n bE) (I:Inv n bE W) (S:vI n bE lA W B) {r:Nat} (h:r∈W.green\/r∈W.falls.map (·.1)) {g:List Nat} {gs:List (Nat×Nat)} {f:List (Nat×Int)} {t:Int} (hg:∀s r,bA gs s=some r↔r∈g/\bb bE r=s) (UZ:(gs.map (·.1)).Nodup) :
  vI n bE lA { W with locks:=ff r W.locks,green:=g,falls:=f,now:=t } { B with locks:=dP (bN bE r) B.locks,greens:=gs,falls:=f,ticks:=t }:=by
 refine⟨?_,vL _ _ S.O5,CA _ _ S.O6,S.Gm,S.pn,S.lies,hg,UZ,rfl,rfl⟩
 intro p hp
 show(ff r W.locks)[p]? = some (bA (dP (bN bE r) B.locks) p)
 rw[IB I h hp,lM,S.locks p hp]
 show(if p∈hV bE r then _ else _)=some (if p∈hV bE r then _ else _)
 split<;>rfl
noncomputable def oY (bE:List Rt) (W:Wd) (r:Nat):Wd:={ W with locks:=ff r W.locks,green:=W.green.filter fun x=>decide (x≠r) }
noncomputable def qO (bE:List Rt) (B:Bx) (r:Nat):Bx:={ B with locks:=dP (bN bE r) B.locks,greens:=ji B.greens (bb bE r) }
theorem A2 {g:List Nat} {r:Nat}:r∉g.filter fun x=>decide (x≠r):=fun h=>of_decide_eq_true (List.mem_filter.mp h).2 rfl
theorem CB (R:iC n bE) (I:Inv n bE W) {r:Nat} (h:r∈W.green):Inv n bE (oY bE W r) :=
 AZ (t:=W.now) R I (.inl h) List.filter_sublist (List.Sublist.refl _) A2 (I.JG r h)
theorem CC (R:iC n bE) (I:Inv n bE W) (S:vI n bE lA W B) {r:Nat} (h:r∈W.green):vI n bE lA (oY bE W r) (qO bE B r):=by
 have:=A0 (f:=W.falls) (t:=W.now) R I S (.inl h) (fun s r'=>xO (s:=s) (r':=r') R I S h) (uK S.DZ)
 have e1:=S.falls
 have e2:=S.ticks
 unfold oY qO
 rw[← e1,← e2] at this
 rw[← e1,← e2]
 exact this
noncomputable def xP (W:Wd) (r:Nat) (u:Int):Wd:={ W with green:=W.green.filter (fun x=>decide (x≠r)),falls:=jh W.falls r u }
noncomputable def A3 (bE:List Rt) (B:Bx) (r:Nat) (u:Int):Bx:={ B with greens:=ji B.greens (bb bE r),falls:=jh B.falls r u }
theorem IC (I:Inv n bE W) {r:Nat} {u:Int} (h:r∈W.green):Inv n bE (xP W r u):=by
 have hm:∀r',r'∈(jh W.falls r u).map (·.1)↔r'=r\/r'∈W.falls.map (·.1):=Iv _ _ _
 refine⟨I.ln,?_,I.lk,I.DZ.sublist List.filter_sublist,yK I.Iy,?_⟩
 ·intro r' h'
  refine I.own r' ?_
  rcases h' with h' | h'
  ·exact .inl (List.mem_filter.mp h').1
  ·rcases(hm r').mp h' with rfl | h'
   ·exact .inl h
   ·exact .inr h'
 ·intro r' h1 h2
  rcases(hm r').mp h2 with rfl | h2
  ·exact A2 h1
  ·exact I.JG r' (List.mem_filter.mp h1).1 h2
theorem ID (R:iC n bE) (I:Inv n bE W) (S:vI n bE lA W B) {r:Nat} {u:Int} (h:r∈W.green):vI n bE lA (xP W r u) (A3 bE B r u) :=
 ⟨S.locks,S.O5,S.O6,S.Gm,S.pn,S.lies,fun s r'=>xO R I S h,uK S.DZ,by show jh B.falls r u=jh W.falls r u; rw[S.falls],S.ticks⟩
noncomputable def pv (f:List (Nat×Int)) (t:Int) (r:Nat):Bool:=match bA f r with
 | some u=>decide (u≤t)
 | none=>false
noncomputable def cb (W:Wd) (r:Nat):Wd:=if pv W.falls W.now r then { W with locks:=ff r W.locks,falls:=ji W.falls r } else W
noncomputable def fx (bE:List Rt) (B:Bx) (r:Nat):Bx:=if pv B.falls B.ticks r then { B with locks:=dP (bN bE r) B.locks,falls:=ji B.falls r } else B
theorem se {f:List (Nat×Int)} {t:Int} {r:Nat} (h:pv f t r=true):r∈f.map (·.1):=by
 unfold pv at h
 rw[mem_keys]
 cases e:bA f r with
 | none=>rw[e] at h; cases h
 | some u=>rfl
theorem xQ (R:iC n bE) (I:Inv n bE W) {r:Nat}:Inv n bE (cb W r):=by
 unfold cb
 split
 ·rename_i h
  refine AZ (t:=W.now) R I (.inr (se h)) (List.Sublist.refl _) (List.filter_sublist.map _) (fun h'=>I.JG r h' (se h)) (fun h'=>((Iw _ _ _).mp h').1 rfl)
 ·exact I
theorem Fo (R:iC n bE) (I:Inv n bE W) (S:vI n bE lA W B) {r:Nat}:vI n bE lA (cb W r) (fx bE B r):=by
 unfold cb fx
 rw[S.falls,S.ticks]
 split
 ·rename_i h
  have:=A0 (f:=ji W.falls r) (t:=W.now) R I S (.inr (se h)) (fun s r'=>S.greens s r') S.DZ
  have e2:=S.ticks
  rw[← e2] at this
  rw[← e2]
  exact this
 ·exact S
theorem xR {r:Nat}:(cb W r).now=W.now:=by unfold cb; split<;>rfl
noncomputable def o9 (W:Wd):Wd:={ W with now:=W.now+1 }
noncomputable def qP (B:Bx):Bx:={ B with ticks:=B.ticks+1 }
theorem uL (I:Inv n bE W):Inv n bE (o9 W):=⟨I.ln,I.own,I.lk,I.DZ,I.Iy,I.JG⟩
theorem D0 (S:vI n bE lA W B):vI n bE lA (o9 W) (qP B):=⟨S.locks,S.O5,S.O6,S.Gm,S.pn,S.lies,S.greens,S.DZ,S.falls,by show B.ticks+1=W.now+1; rw[S.ticks]⟩
noncomputable def Due (W:Wd):Prop:=∀q∈W.falls,W.now<q.2
noncomputable def tB (W:Wd):Wd:=(W.falls.map (·.1)).foldl cb (o9 W)
noncomputable def vN (bE:List Rt) (B:Bx):Bx:=(B.falls.map (·.1)).foldl (fx bE) (qP B)
theorem sf (R:iC n bE):∀(rs:List Nat) (W:Wd),Inv n bE W->Inv n bE (rs.foldl cb W)
 | [],W,I=>I
 | r::rs,W,I=>sf R rs _ (xQ R I)
theorem si (R:iC n bE):∀(rs:List Nat) (W:Wd) (B:Bx),Inv n bE W->vI n bE lA W B->vI n bE lA (rs.foldl cb W) (rs.foldl (fx bE) B)
 | [],W,B,I,S=>S
 | r::rs,W,B,I,S=>si R rs _ _ (xQ R I) (Fo R I S)
theorem IE (R:iC n bE) (I:Inv n bE W):Inv n bE (tB W):=sf R _ _ (uL I)
theorem A4 (R:iC n bE) (I:Inv n bE W) (S:vI n bE lA W B):vI n bE lA (tB W) (vN bE B):=by
 unfold tB vN
 rw[S.falls]
 exact si R _ _ _ (uL I) (D0 S)
theorem pV:∀(rs:List Nat) (W:Wd),(W.falls.map (·.1)).Nodup->(rs.foldl cb W).now=W.now/\∀q∈(rs.foldl cb W).falls,q∈W.falls/\(q.1∈rs->W.now<q.2)
 | [],W,_=>⟨rfl,fun q hq=>⟨hq,by simp⟩⟩
 | r::rs,W,hn=>by
  rw[List.foldl_cons]
  have U0:((cb W r).falls.map (·.1)).Nodup:=by
   unfold cb
   split
   ·exact uK hn
   ·exact hn
  obtain⟨h1,h2⟩:=pV rs (cb W r) U0
  rw[xR] at h1 h2
  refine⟨h1,fun q hq=>?_⟩
  obtain⟨h3,h4⟩:=h2 q hq
  unfold cb at h3
  split at h3
  ·have h5:=List.mem_filter.mp h3
   exact⟨h5.1,fun h=>(List.mem_cons.mp h).elim (fun e=>absurd e (of_decide_eq_true h5.2)) h4⟩
  ·rename_i hd
   refine⟨h3,fun h=>(List.mem_cons.mp h).elim (fun e=>?_) h4⟩
   subst e
   unfold pv at hd
   rw[AX hn h3] at hd
   simp at hd
   omega
theorem IF (I:Inv n bE W):Due (tB W):=by
 obtain⟨h1,h2⟩:=pV (W.falls.map (·.1)) (o9 W) I.Iy
 intro q hq
 have h3:=h2 q hq
 unfold tB
 rw[h1]
 exact h3.2 (List.mem_map.mpr ⟨q,h3.1,rfl⟩)
theorem IG (D:Due W) {r:Nat} {w:Int} (hw:0<w) (hr:r∉W.falls.map (·.1)):Due (xP W r (W.now+w)):=by
 intro q hq
 have hq:q∈jh W.falls r (W.now+w):=hq
 show W.now<q.2
 rw[vH hr] at hq
 rcases List.mem_append.mp hq with hq | hq
 ·exact D q hq
 ·simp at hq; subst hq; show W.now<W.now+w; omega
noncomputable def ou (W:Wd) (p:Nat):Wd:={ W with points:=W.points.set p ((W.points.getD p none).map (!·)) }
noncomputable def vO (B:Bx) (p:Nat):Bx:={ B with lying:=B.lying.set p (!(B.lying.getD p true)) }
theorem Fp (I:Inv n bE W) {p:Nat}:Inv n bE (ou W p):=⟨I.ln,I.own,I.lk,I.DZ,I.Iy,I.JG⟩
theorem Fq (S:vI n bE lA W B) {p:Nat} (hp:p<n) (wF:lA p=true):vI n bE lA (ou W p) (vO B p):=by
 refine⟨S.locks,S.O5,S.O6,by simp[vO,S.Gm],by simp[ou,S.pn],?_,S.greens,S.DZ,S.falls,S.ticks⟩
 intro q hq YH
 show(W.points.set p ((W.points.getD p none).map (!·)))[q]? = some (B.lying.set p (!(B.lying.getD p true)))[q]?
 have h1:=S.lies p hp wF
 have h2:=S.lies q hq YH
 have SH:p<B.lying.length:=by rw[S.Gm]; exact hp
 by_cases e:p=q
 ·subst e
  rw[List.getElem?_set_self (by rw[S.pn]; exact hp),List.getElem?_set_self SH,List.getD_eq_getElem?_getD,h1,List.getD_eq_getElem?_getD,List.getElem?_eq_getElem SH]
  rfl
 ·rw[List.getElem?_set_ne e,List.getElem?_set_ne e]
  exact h2
theorem Fs (D:Due W) {p:Nat}:Due (ou W p):=D
end
end Sb
end
section
namespace Sb
open PySem L2
section
variable {α:Type}
noncomputable def encD (e:Nat->α->PV) (d:List (Nat×α)):List (Key×PV):=d.map fun q=>((Sum.inl (q.1:Int):Key),e q.1 q.2)
theorem yL {a b:Nat}:((Sum.inl (a:Int):Key)=Sum.inl (b:Int))↔a=b:=by
 rw[Sum.inl.injEq]; omega
theorem gq (e:Nat->α->PV) (k:Nat):∀d:List (Nat×α),iK (encD e d) (Sum.inl (k:Int))=(bA d k).map (e k)
 | []=>rfl
 | q::d=>by
  have ih:=gq e k d
  unfold iK encD at ih ⊢
  rw[zC,List.find?_cons,eU]
  by_cases h:q.1=k
  ·subst h
   simp
  ·rw[if_neg h]
   have h':decide ((Sum.inl (q.1:Int):Key)=Sum.inl (k:Int))=false:=decide_eq_false fun e=>h (yL.mp e)
   dsimp only
   rw[h']
   exact ih
theorem qQ (e:Nat->α->PV) (k:Nat) (v:α) (d:List (Nat×α)):mS (encD e d) (Sum.inl (k:Int)) (e k v)=encD e (jh d k v):=by
 unfold mS jh encD
 have ha:(d.map fun q=>((Sum.inl (q.1:Int):Key),e q.1 q.2)).any (fun kv=>decide (kv.1=Sum.inl (k:Int)))=d.any fun q=>decide (q.1=k):=by
  rw[List.any_map]
  congr 1
  funext q
  exact decide_eq_decide.mpr yL
 rw[ha]
 split
 ·rw[List.map_map,List.map_map]
  refine List.map_congr_left fun q _=>?_
  by_cases h:q.1=k
  ·subst h; simp
  ·have h':¬((Sum.inl (q.1:Int):Key)=Sum.inl (k:Int)):=fun e=>h (yL.mp e)
   simp only[Function.comp,if_neg h,if_neg h']
 ·simp
theorem oZ (e:Nat->α->PV) (k:Nat) (d:List (Nat×α)):vi (encD e d) (Sum.inl (k:Int))=encD e (ji d k):=by
 unfold vi ji encD
 rw[List.filter_map]
 congr 1
 refine List.filter_congr fun q _=>?_
 exact decide_eq_decide.mpr (not_congr yL)
theorem qR (e:Nat->α->PV) (d:List (Nat×α)):(encD e d).length=d.length:=by simp[encD]
end
section
variable {M:aP} {n:Nat} {kvs:List (Key×PV)}
theorem IH {neg:Bool} {x:PV} {k:Key} (h:M[n]? = some (.bR kvs)) (hk:kF x=some k):lR neg x (.obj n) M=.ok (.bl (if neg then !(iK kvs k).isSome else(iK kvs k).isSome)) M:=by
 unfold lR
 rw[vh,h]
 dsimp only
 simp only[L2.getD,h,hk,Option.map_some]
theorem sj {x v:PV} {k:Key} (h:M[n]? = some (.bR kvs)) (hk:kF x=some k) (hv:iK kvs k=some v):aW (.obj n) x M=.ok v M:=by
 unfold aW
 rw[vh,h]
 dsimp only
 simp only[L2.getD,h,hk,Option.map_some,hv]
theorem o4 {xs:List PV} {i:Nat} {x:PV} (h:M[n]? = some (.lst xs)) (hx:xs[i]? = some x):aW (.obj n) (.int i) M=.ok x M:=by
 have hl:i<xs.length:=(List.getElem?_eq_some_iff.mp hx).1
 simp only[aW,vh,h,EF,EE]
 rw[if_pos (by omega),if_pos (by omega)]
 simp[hx]
theorem i7 {k v:PV} {kk:Key} (h:M[n]? = some (.bR kvs)) (hk:kF k=some kk) (hl:kvs.length<lim):vn (.obj n) k v M=some (M.set n (.bR (mS kvs kk v))):=by
 simp only[vn,h,hk,if_pos hl]
theorem ow {xs:List PV} {i:Nat} {v:PV} (h:M[n]? = some (.lst xs)) (hi:i<xs.length):vn (.obj n) (.int i) v M=some (M.set n (.lst (xs.set i v))):=by
 simp only[vn,h,EE]
 rw[if_pos (by omega),if_pos (by omega)]
 simp
theorem cP {o:MO} (h:M[n]? = some o):n<M.length:=(List.getElem?_eq_some_iff.mp h).1
theorem get_set {o o':MO} (h:M[n]? = some o):(M.set n o')[n]? = some o':=List.getElem?_set_self (cP h)
theorem ar {m:Nat} {o':MO} (h:n≠m):(M.set n o')[m]? = M[m]? := List.getElem?_set_ne h
end
theorem jt {Q:Out->Prop} {kG di dv:DE} {ρ:dX} {M:aP} (y:PV) (M1:aP) (x:PV) (M2:aP) (k:PV) (M3 M':aP) (hv:dv ρ M=.ok y M1) (ho:kG ρ M1=.ok x M2) (hk:di ρ M2=.ok k M3) (hp:vn x k y M3=some M') (q:Q (.nx ρ M')):Q (gU kG di dv ρ M):=by
 unfold gU
 rw[hv,Res.el,ho,Res.el,hk,Res.el,hp]
 exact q
theorem vP {Q:Out->Prop} {C:Addr} {ps:List (Option DE)} {ρ:dX} {M:aP} (h:dJ ps ρ M=.ok () M) (q:Q (.exc C ρ M)):Q (cN C ps ρ M):=by
 unfold cN; rw[h]; exact q
theorem lZ {Q:Out->Prop} {d:DE} {ρ:dX} {M:aP} (c:Addr) (M':aP) (h:d ρ M=.exc c M') (q:Q (.exc c ρ M')):Q (cK d ρ M):=by
 unfold cK; rw[h]; exact q
@[simp] theorem G9 {α β:Type} {c:Addr} {M:aP} {f:α->aP->Res β}:(Res.exc c M:Res α).bind f=.exc c M:=rfl
@[simp] theorem II {a b:DE} {ρ:dX} {M:aP}:As a b ρ M=(a ρ M).bind fun x M1=>match x with | .bl k=>if k=true then b ρ M1 else .ok (.bl false) M1 | _=>.bad:=by
 unfold As
 congr 1
 funext x M1
 cases x<;>try rfl
 rename_i k
 cases k<;>rfl
@[simp] theorem Lp {a b:DE} {ρ:dX} {M:aP}:Kx a b ρ M=(a ρ M).bind fun x M1=>match x with | .bl k=>if k=true then .ok (.bl true) M1 else b ρ M1 | _=>.bad:=by
 unfold Kx
 congr 1
 funext x M1
 cases x<;>try rfl
 rename_i k
 cases k<;>rfl
@[simp] theorem SI {neg:Bool} {i:Int} {M:aP}:sV neg (.int i) .aN M=.ok (.bl neg) M:=by cases neg<;>rfl
@[simp] theorem SJ {neg:Bool} {M:aP}:sV neg .aN .aN M=.ok (.bl !neg) M:=by cases neg<;>rfl
@[simp] theorem SK {neg:Bool} {n:Nat} {M:aP}:sV neg (.obj n) .aN M=.ok (.bl neg) M:=by cases neg<;>rfl
@[simp] theorem IJ {i j:Int} {M:aP}:Aq (.int i) (.int j) M=.ok (.bl (decide (i<j))) M:=rfl
@[simp] theorem A5 {i j:Int} {M:aP}:OZ (.int i) (.int j) M=.ok (.bl (decide (i≤j))) M:=rfl
@[simp] theorem A6 {i j:Int} {M:aP}:yt (.int i) (.int j) M=.ok (.bl (decide (j<i))) M:=rfl
@[simp] theorem Rb {i j:Int} {M:aP}:QB (.int i) (.int j) M=.ok (.bl (decide (j≤i))) M:=rfl
end Sb
end
section
namespace Sb
open PySem L2
structure Cs where
 yd:Addr
 fa:Addr
 nt:Addr
 he:Addr
structure nM where
 ps:jj
 ss:List Sg
 rs:List Rt
 wait:Int
noncomputable def tD (Y:nM) (t:Int):List (Str×PV) :=
 [("found",eC Y.rs),("pieces",aV Y.ps),("signals",bD Y.ss),("wait",.int Y.wait),("ticks",.int t),("locks",.obj 1),("lying",.obj 2),("greens",.obj 3),("falls",.obj 4),("trains",.obj 5)]
noncomputable def i8 (b:Bool):PV:=.str (if b then "straight" else "branch")
noncomputable def eI:Nat->Nat->PV:=fun _ r=>.int r
noncomputable def eF (fo:Nat->Nat):Nat->Int->PV:=fun r _=>.obj (fo r)
structure dB (C:Cs) (Y:nM) (eY:List (Key×PV)) (M:aP) (B:Bx) (fo:Nat->Nat):Prop where
 y0:M[0]? = some (.ins C.yd (tD Y B.ticks))
 y1:M[1]? = some (.bR (encD eI B.locks))
 y2:M[2]? = some (.lst (B.lying.map i8))
 y3:M[3]? = some (.bR (encD eI B.greens))
 y4:M[4]? = some (.bR (encD (eF fo) B.falls))
 y5:M[5]? = some (.bR eY)
 yf:∀q∈B.falls,5<fo q.1/\M[fo q.1]? = some (.ins C.fa [("until",.int q.2),("near",.aN)])
structure jJ (M M':aP):Prop where
 len:M.length≤M'.length
 out:∀i,5<i->i<M.length->M'[i]? = M[i]?
theorem jJ.refl {M:aP}:jJ M M:=⟨Nat.le_refl _,fun _ _ _=>rfl⟩
theorem jJ.trans {M M1 M2:aP} (a:jJ M M1) (b:jJ M1 M2):jJ M M2:=⟨Nat.le_trans a.len b.len,fun i h1 h2=>(b.out i h1 (Nat.lt_of_lt_of_le h2 a.len)).trans (a.out i h1 h2)⟩
theorem jJ.set {M:aP} {n:Nat} {o:MO} (h:n≤5):jJ M (M.set n o):=⟨by simp,fun i hi _=>ar (by omega)⟩
theorem jJ.push {M:aP} {o:MO}:jJ M (M++[o]):=⟨by simp,fun i _ hi=>List.getElem?_append_left hi⟩
section
variable {C:Cs} {Y:nM} {eY:List (Key×PV)} {M:aP} {B:Bx} {fo:Nat->Nat} {ρ:dX}
theorem dB.U1 (h:dB C Y eY M B fo) (t:Int):dB C Y eY (M.set 0 (.ins C.yd (tD Y t))) { B with ticks:=t } fo :=
 ⟨get_set h.y0,(ar (by decide)).trans h.y1,(ar (by decide)).trans h.y2,(ar (by decide)).trans h.y3,(ar (by decide)).trans h.y4,(ar (by decide)).trans h.y5,fun q hq=>⟨(h.yf q hq).1,(ar (by have:=(h.yf q hq).1; omega)).trans (h.yf q hq).2⟩⟩
theorem dB.Rc (h:dB C Y eY M B fo) (l:List (Nat×Nat)):dB C Y eY (M.set 1 (.bR (encD eI l))) { B with locks:=l } fo :=
 ⟨(ar (by decide)).trans h.y0,get_set h.y1,(ar (by decide)).trans h.y2,(ar (by decide)).trans h.y3,(ar (by decide)).trans h.y4,(ar (by decide)).trans h.y5,fun q hq=>⟨(h.yf q hq).1,(ar (by have:=(h.yf q hq).1; omega)).trans (h.yf q hq).2⟩⟩
theorem dB.put2 (h:dB C Y eY M B fo) (l:List Bool):dB C Y eY (M.set 2 (.lst (l.map i8))) { B with lying:=l } fo :=
 ⟨(ar (by decide)).trans h.y0,(ar (by decide)).trans h.y1,get_set h.y2,(ar (by decide)).trans h.y3,(ar (by decide)).trans h.y4,(ar (by decide)).trans h.y5,fun q hq=>⟨(h.yf q hq).1,(ar (by have:=(h.yf q hq).1; omega)).trans (h.yf q hq).2⟩⟩
theorem dB.put3 (h:dB C Y eY M B fo) (l:List (Nat×Nat)):dB C Y eY (M.set 3 (.bR (encD eI l))) { B with greens:=l } fo :=
 ⟨(ar (by decide)).trans h.y0,(ar (by decide)).trans h.y1,(ar (by decide)).trans h.y2,get_set h.y3,(ar (by decide)).trans h.y4,(ar (by decide)).trans h.y5,fun q hq=>⟨(h.yf q hq).1,(ar (by have:=(h.yf q hq).1; omega)).trans (h.yf q hq).2⟩⟩
theorem dB.Rf (h:dB C Y eY M B fo) (r:Nat):dB C Y eY (M.set 4 (.bR (encD (eF fo) (ji B.falls r)))) { B with falls:=ji B.falls r } fo :=
 ⟨(ar (by decide)).trans h.y0,(ar (by decide)).trans h.y1,(ar (by decide)).trans h.y2,(ar (by decide)).trans h.y3,get_set h.y4,(ar (by decide)).trans h.y5,fun q hq=>by
  have hq:=(List.mem_filter.mp hq).1
  exact⟨(h.yf q hq).1,(ar (by have:=(h.yf q hq).1; omega)).trans (h.yf q hq).2⟩⟩
theorem dB.push (h:dB C Y eY M B fo) (o:MO):dB C Y eY (M++[o]) B fo:=by
 have g:∀{i:Nat} {o':MO},M[i]? = some o'->(M++[o])[i]? = some o':=fun e=>(List.getElem?_append_left (cP e)).trans e
 exact⟨g h.y0,g h.y1,g h.y2,g h.y3,g h.y4,g h.y5,fun q hq=>⟨(h.yf q hq).1,g (h.yf q hq).2⟩⟩
theorem dB.keep (h:dB C Y eY M B fo) {M':aP} (h1:∀i≤5,M'[i]? = M[i]?) (h2:∀q∈B.falls,M'[fo q.1]? = M[fo q.1]?):dB C Y eY M' B fo :=
 ⟨(h1 0 (by decide)).trans h.y0,(h1 1 (by decide)).trans h.y1,(h1 2 (by decide)).trans h.y2,(h1 3 (by decide)).trans h.y3,(h1 4 (by decide)).trans h.y4,(h1 5 (by decide)).trans h.y5,fun q hq=>⟨(h.yf q hq).1,(h2 q hq).trans (h.yf q hq).2⟩⟩
theorem dB.fld (h:dB C Y eY M B fo) {f:Str} {x:PV} {d:DE} (hd:d ρ M=.ok (.obj 0) M) (hf:(tD Y B.ticks).lookup f=some x):cM C.yd f d ρ M=.ok x M:=by
 unfold cM
 rw[hd,ag,oN h.y0]
 dsimp only
 rw[hf]
 rfl
variable {t:Int}
theorem yM:(tD Y t).lookup (Str.ofString "found")=some (eC Y.rs):=by with_unfolding_all rfl
theorem qS:(tD Y t).lookup (Str.ofString "pieces")=some (aV Y.ps):=by with_unfolding_all rfl
theorem xS:(tD Y t).lookup (Str.ofString "signals")=some (bD Y.ss):=by with_unfolding_all rfl
theorem Og:(tD Y t).lookup (Str.ofString "wait")=some (.int Y.wait):=by with_unfolding_all rfl
theorem uM:(tD Y t).lookup (Str.ofString "ticks")=some (.int t):=by with_unfolding_all rfl
theorem uN:(tD Y t).lookup (Str.ofString "locks")=some (.obj 1):=by with_unfolding_all rfl
theorem yN:(tD Y t).lookup (Str.ofString "lying")=some (.obj 2):=by with_unfolding_all rfl
theorem vQ:(tD Y t).lookup (Str.ofString "greens")=some (.obj 3):=by with_unfolding_all rfl
theorem yO:(tD Y t).lookup (Str.ofString "falls")=some (.obj 4):=by with_unfolding_all rfl
theorem A7:(tD Y t).lookup (Str.ofString "trains")=some (.obj 5):=by with_unfolding_all rfl
theorem pW:(tD Y t).lookup (Str.ofString "train_in")=none:=by with_unfolding_all rfl
theorem xT:(tD Y t).lookup (Str.ofString "lock_of")=none:=by with_unfolding_all rfl
theorem IK:(tD Y t).lookup (Str.ofString "lies")=none:=by with_unfolding_all rfl
theorem vR:(tD Y t).lookup (Str.ofString "is_green")=none:=by with_unfolding_all rfl
theorem Oh:(tD Y t).lookup (Str.ofString "time")=none:=by with_unfolding_all rfl
theorem dB.met (h:dB C Y eY M B fo) {m:Str} {g:D1} {d:DE} {ds:List DE} {xs:List PV} (hd:d ρ M=.ok (.obj 0) M) (hf:(tD Y B.ticks).lookup m=none) (ha:eR ds ρ M=.ok xs M):lz C.yd m g d ds ρ M=g (.obj 0::xs) M:=by
 unfold lz
 rw[hd,ag,oN h.y0]
 dsimp only
 rw[hf]
 dsimp only
 rw[ha,ag]
noncomputable def aZ (i:Int) (n:Nat):Bool:=decide (0≤i) && decide (i<n)
theorem A8 {xs:List PV} {i:Int}:bM [.lst xs,.int i] M=.ok (.bl (aZ i xs.length)) M:=by
 unfold bM
 refine cU (P:=fun r=>r=.ok (.bl (aZ i xs.length)) M) ?_
 refine bS (.bl (aZ i xs.length)) M ?_ (bj rfl)
 by_cases h:0≤i<;>simp[cc,h,aZ]
theorem qT {i:Int} (h : -1≤i) (h2:i≤999999999999999):small i=true:=by
 unfold small
 refine decide_eq_true ⟨?_,?_⟩
 ·have:(-(2 ^ 64):Int) = -18446744073709551616:=by decide
  omega
 ·have:(2 ^ 64:Int)=18446744073709551616:=by decide
  omega
noncomputable def Sm (i:Int):Prop := -1≤i/\i≤999999999999999
theorem Lq {i:Int} {y:PV} (hi:Sm i):dJ [none,some (ae 1),none] [some y,some (.int i)] M=.ok () M:=by
 have h:=qT hi.1 hi.2
 simp only[dJ,aS,zB,zA,ag,h,if_true]
theorem yP {xs:List PV} {nt yd:Addr} {f:Str} {i:Int} (h:dB C Y eY M B fo) (hi:Sm i) (hf:(tD Y B.ticks).lookup f=some (.lst xs)) :
  fq 2 (bp (mT (gZ (ao bM [(cM C.yd f (ae 0)),(ae 1)]))) (cN nt [none,some (ae 1),none]) fc) [.obj 0,.int i] M=if aZ i xs.length then .ok .aN M else .exc nt M:=by
 refine cU (P:=fun r=>r=if aZ i xs.length then .ok .aN M else .exc nt M) ?_
 have e:=h.fld (ρ:=[some (.obj 0),some (.int i)]) (d:=ae 0) rfl hf
 refine hJ (!aZ i xs.length) M ?_ (fun hk=>?_) (fun hk=>?_)
 ·simp[e,A8,kd]
 ·refine vP (Lq hi) (fw ?_)
  rw[if_neg (by simpa using hk)]
 ·refine dU (gY ?_)
  rw[if_pos (by simpa using hk)]
theorem fC {i:Int} (h:dB C Y eY M B fo) (hi:Sm i):jU C.nt C.yd bM [.obj 0,.int i] M=if aZ i Y.rs.length then .ok .aN M else .exc C.nt M:=by
 have:=yP (nt:=C.nt) (yd:=C.yd) h hi yM
 rw[zK] at this
 exact this
theorem fD {i:Int} (h:dB C Y eY M B fo) (hi:Sm i):jV C.nt C.yd bM [.obj 0,.int i] M=if aZ i Y.ps.length then .ok .aN M else .exc C.nt M:=by
 have:=yP (nt:=C.nt) (yd:=C.yd) h hi qS
 rw[zK] at this
 exact this
theorem eO {i:Int} (h:dB C Y eY M B fo) (hi:Sm i):jo C.nt C.yd bM [.obj 0,.int i] M=if aZ i Y.ss.length then .ok .aN M else .exc C.nt M:=by
 have:=yP (nt:=C.nt) (yd:=C.yd) h hi xS
 rw[zK] at this
 exact this
noncomputable def nJ:Pc->Bool
 | .pl _ _=>false
 | .pt _ _ _=>true
theorem ip (p:Pc):jB [p.enc] M=.ok (.bl (nJ p)) M:=by
 unfold jB
 refine cU (P:=fun r=>r=.ok (.bl (nJ p)) M) ?_
 refine bS (.bl (nJ p)) M ?_ (bj rfl)
 cases p<;>simp[Pc.enc,nJ]
theorem gM {i:Int} {n:Nat} (h:aZ i n=true):∃k:Nat,i=k/\k<n:=by
 unfold aZ at h
 simp at h
 exact⟨i.toNat,by omega,by omega⟩
theorem jO {k n:Nat} (h:k<n):aZ (k:Int) n=true:=by
 unfold aZ; simp; exact h
noncomputable def bZ (ps:jj) (p:Nat):Bool:=nJ (Pc.at ps p)
noncomputable def i9 (i:Int) (ps:jj):Bool:=aZ i ps.length && bZ ps i.toNat
theorem eN {i:Int} {gc gp:D1} (h:dB C Y eY M B fo) (hi:Sm i) (hc:gc [.obj 0,.int i] M=if aZ i Y.ps.length then .ok .aN M else .exc C.nt M) (hp:∀p:Pc,gp [p.enc] M=.ok (.bl (nJ p)) M) :
  gH C.nt C.yd gc gp [.obj 0,.int i] M=if i9 i Y.ps then .ok .aN M else .exc C.nt M:=by
 unfold gH
 refine cU (P:=fun r=>r=if i9 i Y.ps then .ok .aN M else .exc C.nt M) ?_
 unfold i9
 by_cases ho:aZ i Y.ps.length=true
 ·rw[if_pos ho] at hc
  obtain⟨k,rfl,hk⟩:=gM ho
  refine aG (cD .aN M (by simp[hc]) (aq ?_))
  have e:=h.fld (ρ:=[some (.obj 0),some (.int k)]) (d:=ae 0) rfl qS
  rw[ho]
  refine hJ (!bZ Y.ps k) M ?_ (fun hk=>?_) (fun hk=>?_)
  ·simp[e,ot hk,hp,kd,bZ]
  ·refine vP (Lq hi) (fw ?_)
   have hk:bZ Y.ps k=false:=by simpa using hk
   rw[Int.toNat_natCast,hk]
   rfl
  ·refine dU (gY ?_)
   have hk:bZ Y.ps k=true:=by simpa using hk
   rw[Int.toNat_natCast,hk]
   rfl
 ·have ho:aZ i Y.ps.length=false:=by simpa using ho
  rw[ho] at hc ⊢
  refine aG (lZ C.nt M (by simp[hc]) (fA (fw ?_)))
  rfl
theorem D3 {rs:List Rt} {r:Nat} (h:r<rs.length):rs[r]? = some (bb rs r,bN rs r):=by
 unfold bb bN
 rw[List.getD_eq_getElem?_getD,List.getElem?_eq_getElem h]
 rfl
theorem A9 {rs:List Rt} {r:Nat} (h:r<rs.length):aW (eC rs) (.int r) M=.ok (.tup [.int (bb rs r),ck (bN rs r)]) M:=eB (by rw[zJ,D3 h]; rfl)
theorem iu {r:Nat} (h:dB C Y eY M B fo) (hr:r<Y.rs.length):jF C.yd [.obj 0,.int r] M=.ok (.int (bb Y.rs r)) M:=by
 unfold jF
 refine cU (P:=fun q=>q=.ok (.int (bb Y.rs r)) M) ?_
 have e:=h.fld (ρ:=[some (.obj 0),some (.int r)]) (d:=ae 0) rfl yM
 exact bS (.int (bb Y.rs r)) M (by simp[e,A9 hr]) (bj rfl)
theorem l8 {r:Nat} (h:dB C Y eY M B fo) (hr:r<Y.rs.length):mZ C.yd [.obj 0,.int r] M=.ok (ck (bN Y.rs r)) M:=by
 unfold mZ
 refine cU (P:=fun q=>q=.ok (ck (bN Y.rs r)) M) ?_
 have e:=h.fld (ρ:=[some (.obj 0),some (.int r)]) (d:=ae 0) rfl yM
 exact bS (ck (bN Y.rs r)) M (by simp[e,A9 hr]) (bj rfl)
theorem il {gb:D1} (hb:∀(a:Nat) (j:Int),gb [aV Y.ps,.int a,.int j] M=.ok (bJ (beyond Y.ps a j)) M) (a:Nat) (j:Int):jA gb [aV Y.ps,.int a,.int j] M=.ok (.bl (beyond Y.ps a j).isNone) M:=by
 unfold jA
 refine cU (P:=fun q=>q=.ok (.bl (beyond Y.ps a j).isNone) M) ?_
 refine bS (.bl (beyond Y.ps a j).isNone) M ?_ (bj rfl)
 cases e:beyond Y.ps a j<;>simp[hb,e,bJ]
noncomputable def fg (Y:nM) (s:Nat):Bool:=(beyond Y.ps (dA Y.ss s).2 (dA Y.ss s).1).isNone
theorem eL {gb:D1} {s:Nat} (h:dB C Y eY M B fo) (hs:s<Y.ss.length) (hb:∀(a:Nat) (j:Int),gb [aV Y.ps,.int a,.int j] M=.ok (.bl (beyond Y.ps a j).isNone) M):gG C.yd gb [.obj 0,.int s] M=.ok (.bl (fg Y s)) M:=by
 unfold gG
 refine cU (P:=fun q=>q=.ok (.bl (fg Y s)) M) ?_
 have e1:=h.fld (ρ:=[some (.obj 0),some (.int s),none]) (d:=ae 0) rfl xS
 have e2:=h.fld (ρ:=[some (.obj 0),some (.int s),some (cE (dA Y.ss s))]) (d:=ae 0) rfl qS
 refine bh (cE (dA Y.ss s)) M (by simp[e1,DU hs]) ?_
 exact bS (.bl (fg Y s)) M (by simp[e2,cE,hb,fg] at e2 ⊢) (bj rfl)
theorem Oi (h:dB C Y eY M B fo):jC C.yd [.obj 0] M=.ok (.int B.ticks) M:=by
 unfold jC
 refine cU (P:=fun q=>q=.ok (.int B.ticks) M) ?_
 exact bS (.int B.ticks) M (h.fld rfl uM) (bj rfl)
theorem Ft {i:Int} {gc:D1} (h:dB C Y eY M B fo) (hc:gc [.obj 0,.int i] M=if aZ i Y.ps.length then .ok .aN M else .exc C.nt M) :
  gF C.yd gc [.obj 0,.int i] M=if aZ i Y.ps.length then .ok (bJ (bA B.locks i.toNat)) M else .exc C.nt M:=by
 unfold gF
 refine cU (P:=fun q=>q=if aZ i Y.ps.length then .ok (bJ (bA B.locks i.toNat)) M else .exc C.nt M) ?_
 by_cases ho:aZ i Y.ps.length=true
 ·rw[ho] at hc ⊢
  obtain⟨k,rfl,hk⟩:=gM ho
  refine aG (cD .aN M (by simp[hc]) (aq (bS (bJ (bA B.locks k)) M ?_ (bj rfl))))
  have e:=h.fld (ρ:=[some (.obj 0),some (.int k)]) (d:=ae 0) rfl uN
  unfold rS
  rw[show([PV.obj 0,PV.int ↑k].map some++List.replicate (2 - [PV.obj 0,PV.int ↑k].length) none:dX)=[some (.obj 0),some (.int k)] from rfl,e,ag,jz h.y1]
  simp only[aS,zB,zA,ag]
  rw[jz h.y1]
  simp only[kF]
  rw[gq]
  cases bA B.locks k<;>rfl
 ·have ho:aZ i Y.ps.length=false:=by simpa using ho
  rw[ho] at hc ⊢
  exact aG (lZ C.nt M (by simp[hc]) (fA (fw rfl)))
theorem Oj {i:Int} {gc:D1} (h:dB C Y eY M B fo) (hl:B.lying.length=Y.ps.length) (hc:gc [.obj 0,.int i] M=if i9 i Y.ps then .ok .aN M else .exc C.nt M) :
  jD C.yd gc [.obj 0,.int i] M=if i9 i Y.ps then .ok (i8 (B.lying.getD i.toNat true)) M else .exc C.nt M:=by
 unfold jD
 refine cU (P:=fun q=>q=if i9 i Y.ps then .ok (i8 (B.lying.getD i.toNat true)) M else .exc C.nt M) ?_
 by_cases ho:i9 i Y.ps=true
 ·rw[ho] at hc ⊢
  obtain⟨k,rfl,hk⟩:=gM (Bool.and_eq_true_iff.mp ho).1
  refine aG (cD .aN M (by simp[hc]) (aq (bS (i8 (B.lying.getD k true)) M ?_ (bj rfl))))
  have e:=h.fld (ρ:=[some (.obj 0),some (.int k)]) (d:=ae 0) rfl yN
  have rh:k<B.lying.length:=by rw[hl]; exact hk
  simp only[zC,zD,zE,zF,Nat.zero_add,Nat.reduceAdd,Nat.reduceSub,List.replicate,zG,zH,zI,aI,e,ag,aS,zB,zA]
  exact o4 h.y2 (by rw[zJ,List.getD_eq_getElem?_getD,List.getElem?_eq_getElem rh]; rfl)
 ·have ho:i9 i Y.ps=false:=by simpa using ho
  rw[ho] at hc ⊢
  exact aG (lZ C.nt M (by simp[hc]) (fA (fw rfl)))
theorem CD {i:Int} {gc:D1} (h:dB C Y eY M B fo) (hc:gc [.obj 0,.int i] M=if aZ i Y.ss.length then .ok .aN M else .exc C.nt M) :
  fP C.yd gc [.obj 0,.int i] M=if aZ i Y.ss.length then .ok (.bl (bA B.greens i.toNat).isSome) M else .exc C.nt M:=by
 unfold fP
 refine cU (P:=fun q=>q=if aZ i Y.ss.length then .ok (.bl (bA B.greens i.toNat).isSome) M else .exc C.nt M) ?_
 by_cases ho:aZ i Y.ss.length=true
 ·rw[ho] at hc ⊢
  obtain⟨k,rfl,hk⟩:=gM ho
  refine aG (cD .aN M (by simp[hc]) (aq (bS (.bl (bA B.greens k).isSome) M ?_ (bj rfl))))
  have e:=h.fld (ρ:=[some (.obj 0),some (.int k)]) (d:=ae 0) rfl vQ
  simp only[zC,zD,zE,zF,Nat.zero_add,Nat.reduceAdd,Nat.reduceSub,List.replicate,zG,zH,zI,aI,e,ag,aS,zB,zA]
  rw[IH h.y3 (k:=Sum.inl (k:Int)) rfl,gq]
  simp
 ·have ho:aZ i Y.ss.length=false:=by simpa using ho
  rw[ho] at hc ⊢
  exact aG (lZ C.nt M (by simp[hc]) (fA (fw rfl)))
end
end Sb
end
section
namespace Sb
open PySem L2
theorem IL {M:aP} {n:Nat} {o:MO} (h:M[n]? = some o):M.set n o=M:=by
 refine List.ext_getElem? fun i=>?_
 by_cases e:n=i
 ·subst e; rw[get_set h,h]
 ·rw[ar e]
theorem Ba {M:aP} {n:Nat} {o o':MO} (h:M[n]? = some o):(M.set n o').set n o=M:=by
 rw[List.set_set,IL h]
theorem qU {di:DI} {ρ:dX} {M:aP} {n:Nat} {g:DG} {s1:DS} (h:M[n]? = some (.bR [])) (hi:di ρ M=.ok ([],some (n,.sU [])) (M.set n (.sU []))):nX di (hE di g s1) ρ M=.nx ρ M:=by
 unfold nX O3
 rw[hi]
 dsimp only
 rw[h]
 dsimp only
 rw[DK hi (get_set h)]
 unfold qv AK
 dsimp only
 rw[if_pos (get_set h),Ba h]
theorem xU {d:DE} {ρ:dX} {M:aP} {n:Nat} (h:M[n]? = some (.bR [])) (hd:d ρ M=.ok (.obj n) M):pO d ρ M=.ok ([],some (n,.sU [])) (M.set n (.sU [])):=by
 unfold pO; rw[hd,ag,jz h]; rfl
theorem keys_nil {d:DE} {ρ:dX} {M:aP} {n:Nat} (h:M[n]? = some (.bR [])) (hd:d ρ M=.ok (.obj n) M):nW d ρ M=.ok ([],some (n,.sU [])) (M.set n (.sU [])):=by
 unfold nW; rw[hd,ag,jz h]; rfl
section
variable {C:Cs} {Y:nM} {eY:List (Key×PV)} {M:aP} {B:Bx} {fo:Nat->Nat} {ρ:dX}
theorem Bb {i:Int} {gc gu:D1} (h:dB C Y [] M B fo) (hc:gc [.obj 0,.int i] M=if aZ i Y.ps.length then .ok .aN M else .exc C.nt M) :
  fO C.yd gc gu [.obj 0,.int i] M=if aZ i Y.ps.length then .ok .aN M else .exc C.nt M:=by
 unfold fO
 refine cU (P:=fun q=>q=if aZ i Y.ps.length then .ok .aN M else .exc C.nt M) ?_
 by_cases ho:aZ i Y.ps.length=true
 ·rw[ho] at hc ⊢
  refine aG (cD .aN M (by simp[hc]) (aq (aG ?_)))
  rw[qU h.y5 (xU h.y5 (h.fld rfl A7))]
  exact aq (bS .aN M rfl (bj rfl))
 ·have ho:aZ i Y.ps.length=false:=by simpa using ho
  rw[ho] at hc ⊢
  exact aG (lZ C.nt M (by simp[hc]) (fA (fw rfl)))
theorem wV {s:Nat} {ga:D1} (h:dB C Y [] M B fo):i5 C.yd ga [.obj 0,.int s] M=.ok .aN M:=by
 unfold i5
 refine cU (P:=fun q=>q=.ok .aN M) ?_
 refine aG ?_
 rw[qU h.y5 (xU h.y5 (h.fld rfl A7))]
 exact aq (bS .aN M rfl (bj rfl))
noncomputable def Ol (g:D1) (n:Nat) (M:aP) (ti:Nat->Bool):Prop:=∀p:Nat,p<n->∃x,g [.obj 0,.int p] M=.ok x M/\sV true x .aN M=.ok (.bl (ti p)) M
theorem dw {p:Nat} {gt:D1} {ti:Nat->Bool} (h:dB C Y eY M B fo) (ht:Ol gt Y.ps.length M ti) (hp:p<Y.ps.length) (hs:Sm p) :
  fu C.he C.yd gt [.obj 0,.int p] M=if (bA B.locks p).isSome || ti p then .exc C.he M else .ok .aN M:=by
 unfold fu
 refine cU (P:=fun q=>q=if (bA B.locks p).isSome || ti p then .exc C.he M else .ok .aN M) ?_
 simp only[zC,zD,zE,zF,Nat.zero_add,Nat.reduceAdd,Nat.reduceSub,List.replicate,zG,zH,zI]
 have e:=h.fld (ρ:=[some (.obj 0),some (.int p)]) (d:=ae 0) rfl uN
 refine aG (hJ (bA B.locks p).isSome M ?_ (fun hk=>?_) (fun hk=>?_))
 ·simp[e]
  rw[IH h.y1 (k:=Sum.inl (p:Int)) rfl,gq]
  simp
 ·have e3:=Lq (M:=M) (y:=.obj 0) hs
  unfold cN
  rw[e3,Res.el]
  refine fA (fw ?_)
  rw[hk,Bool.true_or,if_pos rfl]
 ·obtain⟨x,h1,h2⟩:=ht p hp
  have e2:=h.met (ρ:=[some (.obj 0),some (.int p)]) (g:=gt) (d:=ae 0) (ds:=[ae 1]) (xs:=[.int p]) rfl pW rfl
  refine dU (aq (hJ (ti p) M ?_ (fun rh=>?_) (fun rh=>?_)))
  ·show(aQ (ax (sV true) (lz C.yd "train_in" gt (ae 0) [(ae 1)]) (dC .aN))) [some (.obj 0),some (.int p)] M=_
   rw[cX,aI,e2,h1,ag,dI,ag,h2]
   rfl
  ·refine vP (Lq hs) (fw ?_)
   rw[rh,Bool.or_true,if_pos rfl]
  ·refine dU (gY ?_)
   rw[hk,rh,Bool.or_false,if_neg Bool.false_ne_true]
noncomputable def yQ (p:Pc) (s:gK):Bool:=match p with
 | .pl _ _=>true
 | .pt _ _ b=>!decide (b∈[s.2.1,s.2.2])
noncomputable def tE (ps:jj) (s:gK):Bool:=yQ (Pc.at ps s.1) s
theorem D4 (s:gK):EN false (df s) (some 1) none M=.ok (.tup ([s.2.1,s.2.2].map .int)) M:=rfl
theorem kq {gp:D1} (hp:∀p:Pc,gp [p.enc] M=.ok (.bl (nJ p)) M) (p:Pc) (s:gK):lI gp [p.enc,df s] M=.ok (i8 (yQ p s)) M:=by
 unfold lI
 refine cU (P:=fun q=>q=.ok (i8 (yQ p s)) M) ?_
 cases p with
 | pl a b =>
  refine aG (nu M ?_ (dU (aq (bS (.str "straight") M rfl (bj rfl)))))
  simp[hp,kd,nJ]
 | pt t u b =>
  have e:lR false (.int b) (.tup ([s.2.1,s.2.2].map .int)) M=_:=vD
  refine aG (hJ (decide (b∈[s.2.1,s.2.2])) M ?_ (fun hk=>?_) (fun hk=>?_))
  ·simp[hp,kd,nJ]
   simp only[Pc.enc,Q6,ag,D4]
   rw[e]
   simp
  ·refine bS (.str "branch") M rfl (jI (bj ?_))
   simp only[yQ,hk,i8]; rfl
  ·refine dU (aq (bS (.str "straight") M rfl (bj ?_)))
   simp only[yQ,hk,i8]; rfl
noncomputable def mE (B:Bx) (ti:Nat->Bool) (w:List gK):Bool:=w.any fun s=>(bA B.locks s.1).isSome || ti s.1
theorem CF (r:Nat) (w:List gK) (s:gK) (d:List (Nat×Nat)):iF r (w++[s]) d=jh (iF r w d) s.1 r:=by unfold iF; rw[List.foldl_append]; rfl
theorem Fu (p6:gK->Bool) (w:List gK) (s:gK) (l:List Bool):vJ p6 (w++[s]) l=(vJ p6 w l).set s.1 (p6 s):=by unfold vJ; rw[List.foldl_append]; rfl
theorem gO {n:Nat} {l:List Nat} (h:l.Nodup) (hl:∀x∈l,x<n):l.length≤n:=oU h hl
theorem ir {i:Int} {gc gw gn gl gs:D1} {ti:Nat->Bool} (h:dB C Y eY M B fo) (R:iC Y.ps.length Y.rs) (JF:Y.ps.length≤16) (UX:Y.ss.length≤16) (WA:∀r<Y.rs.length, bb Y.rs r<Y.ss.length)
    (zU:(B.locks.map (·.1)).Nodup) (wM:∀p∈B.locks.map (·.1), p<Y.ps.length) (Ln:B.lying.length=Y.ps.length) (UZ:(B.greens.map (·.1)).Nodup) (Gn:∀s∈B.greens.map (·.1), s<Y.ss.length)
    (hc:gc [.obj 0, .int i] M=if aZ i Y.rs.length then .ok .aN M else .exc C.nt M)
    (hw:∀r:Nat, r<Y.rs.length->gw [.obj 0, .int r] M=.ok (ck (bN Y.rs r)) M)
    (hn:∀p:Nat, p<Y.ps.length->gn [.obj 0, .int p] M=if (bA B.locks p).isSome || ti p then .exc C.he M else .ok .aN M)
    (hl:∀M p s, gl [Pc.enc p, df s] M=.ok (i8 (yQ p s)) M)
    (hs:∀M B (r:Nat), dB C Y eY M B fo->r<Y.rs.length->gs [.obj 0, .int r] M=.ok (.int (bb Y.rs r)) M) :
    (aZ i Y.rs.length=false/\fG C.yd gc gw gn gl gs [.obj 0, .int i] M=.exc C.nt M)\/∃r:Nat, i=r/\r<Y.rs.length ∧
      ((mE B ti (bN Y.rs r)=true/\fG C.yd gc gw gn gl gs [.obj 0, .int i] M=.exc C.he M) ∨
       (mE B ti (bN Y.rs r)=false/\∃M', fG C.yd gc gw gn gl gs [.obj 0, .int i] M=.ok .aN M'/\dB C Y eY M' (setB Y.rs (tE Y.ps) B r) fo/\jJ M M')):=by
  unfold fG
  by_cases ho:aZ i Y.rs.length=true
  · rw[ho] at hc
    obtain⟨r, rfl, hr⟩:=gM ho
    refine .inr ⟨r, rfl, hr, ?_⟩
    refine cU (P:=fun q=>(mE B ti (bN Y.rs r)=true/\q=.exc C.he M)\/(mE B ti (bN Y.rs r)=false/\∃M', q=.ok .aN M'/\dB C Y eY M' (setB Y.rs (tE Y.ps) B r) fo/\jJ M M')) ?_
    simp only[zC, zD, zE, zF, Nat.zero_add, Nat.reduceAdd, Nat.reduceSub, List.replicate, zG, zH, zI]
    refine aG (cD .aN M (by simp[hc]) (aq ?_))
    refine bh (ck (bN Y.rs r)) M (by simp[hw r hr]) ?_
    dsimp only[List.set]
    have Fv:∀s∈bN Y.rs r, s.1<Y.ps.length:=fun s Am=>R.lt r hr s.1 (List.mem_map.mpr ⟨s, Am, rfl⟩)
    refine aG (hU df (fun pre ρ M'=>∃y, ρ=[some (.obj 0), some (.int r), some (ck (bN Y.rs r)), y]/\M'=M/\mE B ti pre=false) (bN Y.rs r) none M (eu (by simp)) trivial ⟨none, rfl, rfl, rfl⟩ ?_ ?_)
    · rintro pre s post hx ρ M' ⟨y, rfl, rfl, va⟩
      refine⟨_, rfl, ?_⟩
      dsimp only[List.set]
      have Gk:=Fv s (by rw[hx]; simp)
      have e:=hn s.1 Gk
      by_cases hh:((bA B.locks s.1).isSome || ti s.1)=true
      · rw[if_pos hh] at e
        refine lZ C.he M' ?_ (HU (fA (fw (.inl ⟨?_, rfl⟩))))
        · simp[df, e]
        · rw[hx]; unfold mE; rw[List.any_append, List.any_cons, hh]; simp
      · rw[if_neg hh] at e
        refine cD .aN M' ?_ (bK trivial ⟨_, rfl, rfl, ?_⟩)
        · simp[df, e]
        · unfold mE at va ⊢
          rw[List.any_append, va, List.any_cons]
          simp only[Bool.not_eq_true] at hh
          rw[hh]; rfl
    · rintro ρ' M' ⟨y, rfl, rfl, Rg⟩
      refine aq (aG (hU df (fun pre ρ M1=>∃y, ρ=[some (.obj 0), some (.int r), some (ck (bN Y.rs r)), y]/\dB C Y eY M1 { B with locks:=iF r pre B.locks, lying:=vJ (tE Y.ps) pre B.lying } fo/\jJ M' M1)
        (bN Y.rs r) none M' (eu (by simp)) trivial ⟨_, rfl, h, jJ.refl⟩ ?_ ?_))
      · rintro pre s post hx ρ M1 ⟨y, rfl, h1, f1⟩
        refine⟨_, rfl, ?_⟩
        dsimp only[List.set]
        have Gk:=Fv s (by rw[hx]; simp)
        have Om:∀p∈pre.map (·.1), p<Y.ps.length:=fun p hp=>by
          obtain⟨s', Am, rfl⟩:=List.mem_map.mp hp
          exact Fv s' (by rw[hx]; simp[Am])
        have hlen:(iF r pre B.locks).length≤16:=by
          have:=gO (vK r pre _ zU) (AY r pre _ Om wM)
          rw[zK] at this
          omega
        have e1:=h1.fld (ρ:=[some (.obj 0), some (.int r), some (ck (bN Y.rs r)), some (df s)]) (d:=ae 0) rfl uN
        refine aG (jt (.int r) M1 (.obj 1) M1 (.int s.1) M1 (M1.set 1 (.bR (encD eI (iF r (pre++[s]) B.locks)))) (by simp) e1 (by simp[df]) ?_ (aq ?_))
        · rw[i7 h1.y1 (kk:=Sum.inl (s.1:Int)) rfl (by rw[qR]; show(iF r pre B.locks).length<_; exact Nat.lt_of_le_of_lt hlen (by decide)), CF]
          congr 3
          exact qQ eI s.1 r _
        have h2:=h1.Rc (iF r (pre++[s]) B.locks)
        have e2:=h2.fld (ρ:=[some (.obj 0), some (.int r), some (ck (bN Y.rs r)), some (df s)]) (d:=ae 0) rfl yN
        have e3:=h2.fld (ρ:=[some (.obj 0), some (.int r), some (ck (bN Y.rs r)), some (df s)]) (d:=ae 0) rfl qS
        refine jt (i8 (tE Y.ps s)) (M1.set 1 (.bR (encD eI (iF r (pre++[s]) B.locks)))) (.obj 2) (M1.set 1 (.bR (encD eI (iF r (pre++[s]) B.locks)))) (.int s.1) (M1.set 1 (.bR (encD eI (iF r (pre++[s]) B.locks)))) ((M1.set 1 (.bR (encD eI (iF r (pre++[s]) B.locks)))).set 2 (.lst ((vJ (tE Y.ps) (pre++[s]) B.lying).map i8))) ?_ e2 (by simp[df]) ?_ (bK trivial ⟨_, rfl, ?_, ?_⟩)
        · rw[bI, aB, aI, e3, ag]
          simp only[aI, aS, dI, zB, zA, ag, aB, bu]
          rw[show aW (df s) (.int 0) (M1.set 1 (.bR (encD eI (iF r (pre++[s]) B.locks))))=.ok (.int s.1) _ from Mj, ag, ot Gk, ag, ag, hl]
          rfl
        · rw[ow h2.y2 (by simp; rw[vM, Ln]; exact Gk), Fu, List.map_set]
        · exact h2.put2 _
        · exact(f1.trans (jJ.set (by decide))).trans (jJ.set (by decide))
      · rintro ρ' M1 ⟨y, rfl, h1, f1⟩
        have e1:=h1.fld (ρ:=[some (.obj 0), some (.int r), some (ck (bN Y.rs r)), y]) (d:=ae 0) rfl vQ
        have hlen:B.greens.length≤16:=by
          have:=gO UZ Gn
          rw[zK] at this
          omega
        refine aq (jt (.int r) M1 (.obj 3) M1 (.int (bb Y.rs r)) M1 (M1.set 3 (.bR (encD eI (jh B.greens (bb Y.rs r) r)))) (by simp) e1 ?_ ?_ (gY (.inr ⟨Rg, _, rfl, h1.put3 _, f1.trans (jJ.set (by decide))⟩)))
        · simp[hs M1 _ r h1 hr]
        · rw[i7 h1.y3 (kk:=Sum.inl (bb Y.rs r:Int)) rfl (by rw[qR]; exact Nat.lt_of_le_of_lt hlen (by decide))]
          congr 3
          exact qQ eI (bb Y.rs r) r _
  · have ho:aZ i Y.rs.length=false:=by simpa using ho
    rw[ho] at hc
    refine .inl ⟨ho, ?_⟩
    refine cU (P:=fun q=>q=.exc C.nt M) ?_
    exact aG (lZ C.nt M (by simp[hc]) (fA (fw rfl)))
end
end Sb
end
section
namespace Sb
open PySem L2
section
variable {C:Cs} {Y:nM} {eY:List (Key×PV)} {M:aP} {B:Bx} {fo:Nat->Nat} {ρ:dX}
theorem yR (w:List gK) (s:gK) (d:List (Nat×Nat)):dP (w++[s]) d=ji (dP w d) s.1:=by unfold dP; rw[List.foldl_append]; rfl
theorem D5 {Q:Out->Prop} {kG dk:DE} {ρ:dX} {M:aP} {n:Nat} {kvs:List (Key×PV)} {y:PV} {k:Key} (v:PV) (ho:kG ρ M=.ok (.obj n) M) (hn:M[n]? = some (.bR kvs)) (hk:dk ρ M=.ok y M) (hy:kF y=some k) (hv:iK kvs k=some v) (q:Q (.nx ρ (M.set n (.bR (vi kvs k))))):Q (cK (pN kG dk) ρ M):=by
 refine cD v (M.set n (.bR (vi kvs k))) ?_ q
 unfold pN
 rw[ho,ag,jz hn]
 dsimp only
 rw[hk,ag,jz hn,hy]
 dsimp only
 rw[hv]
theorem l7 {w:List gK} (h:dB C Y eY M B fo) (hn:(w.map (·.1)).Nodup) (hl:∀p∈w.map (·.1),(bA B.locks p).isSome=true) :
  ∃M',mY C.yd [.obj 0,ck w] M=.ok .aN M'/\dB C Y eY M' { B with locks:=dP w B.locks } fo/\jJ M M'/\M'.length=M.length:=by
 unfold mY
 refine cU (P:=fun q=>∃M',q=.ok .aN M'/\dB C Y eY M' { B with locks:=dP w B.locks } fo/\jJ M M'/\M'.length=M.length) ?_
 simp only[zC,zD,zE,zF,Nat.zero_add,Nat.reduceAdd,Nat.reduceSub,List.replicate,zG,zH,zI]
 refine hU df (fun pre ρ M1=>∃y,ρ=[some (.obj 0),some (ck w),y]/\dB C Y eY M1 { B with locks:=dP pre B.locks } fo/\jJ M M1/\M1.length=M.length) w none M (eu (by simp)) trivial ⟨none,rfl,h,jJ.refl,rfl⟩ ?_ ?_
 ·rintro pre s post hx ρ M1 ⟨y,rfl,h1,f1,l1⟩
  refine⟨_,rfl,?_⟩
  dsimp only[List.set]
  have e1:=h1.fld (ρ:=[some (.obj 0),some (ck w),some (df s)]) (d:=ae 0) rfl uN
  have hs:s.1∉pre.map (·.1):=fun hm=>by
   rw[hx,List.map_append,List.nodup_append] at hn
   exact hn.2.2 s.1 hm s.1 (by simp) rfl
  have hv:=hl s.1 (by rw[hx]; simp)
  obtain⟨v,hv⟩:=Option.isSome_iff_exists.mp hv
  refine D5 (k:=Sum.inl (s.1:Int)) (y:=.int s.1) (.int v) e1 h1.y1 (by simp[df]) rfl ?_ (bK trivial ⟨_,rfl,?_,f1.trans (jJ.set (by decide)),by rw[List.length_set]; exact l1⟩)
  ·rw[gq,lM,if_neg hs,hv]; rfl
  ·rw[oZ,yR]
   exact h1.Rc _
 ·rintro ρ' M1 ⟨y,rfl,h1,f1,l1⟩
  exact gY ⟨M1,rfl,h1,f1,l1⟩
theorem Rh {i:Int} (hi:Sm i) (hr:ρ[1]? = some (some (.int i))):dJ [none,some (ae 1)] ρ M=.ok () M:=by
 have h:=qT hi.1 hi.2
 simp only[dJ,aS,hr,ag,h,if_true]
noncomputable def Bc (fo:Nat->Nat) (r n:Nat):Nat->Nat:=fun x=>if x=r then n else fo x
theorem Lr {fo:Nat->Nat} {r n:Nat} {d:List (Nat×Int)} (h:r∉d.map (·.1)):encD (eF (Bc fo r n)) d=encD (eF fo) d:=by
 unfold encD
 refine List.map_congr_left fun q hq=>?_
 have:q.1≠r:=fun e=>h (List.mem_map.mpr ⟨q,hq,e⟩)
 simp[eF,Bc,this]
theorem iq {u:Int} {n:Nat} {fs:List (Str×PV)}:jE C.fa [.obj M.length,.int u,.aN] (M++[.ins C.fa []])=.ok .aN (M++[.ins C.fa [("until",.int u),("near",.aN)]]):=by
 unfold jE
 refine cU (P:=fun q=>q=.ok .aN (M++[.ins C.fa [("until",.int u),("near",.aN)]])) ?_
 simp only[zC,zD,zE,zF,Nat.zero_add,Nat.reduceAdd,Nat.reduceSub,List.replicate,zG,zH,zI]
 have put:∀{Q:Out->Prop} {f:Str} {dv:DE} {ρ:dX} (y:PV) (fs Gb:List (Str×PV)),ρ[0]? = some (some (.obj M.length))->dv ρ (M++[.ins C.fa fs])=.ok y (M++[.ins C.fa fs])->fs.length<1000->qw f y fs=Gb->Q (.nx ρ (M++[.ins C.fa Gb]))->Q (hG C.fa f (ae 0) dv ρ (M++[.ins C.fa fs])):=fun y fs Gb h0 h hl hf q=>by
  unfold hG
  rw[h,Res.el,aS,h0,Res.el,oN (C:=C.fa) (fs:=fs) (by simp)]
  dsimp only
  rw[if_pos hl,hf,HV]
  exact q
 refine aG (put (.int u) [] [("until",.int u)] rfl (by simp) (by show 0<1000; decide) (by with_unfolding_all rfl) (aq ?_))
 exact put .aN [("until",.int u)] [("until",.int u),("near",.aN)] rfl (by simp) (by show 1<1000; decide) (by with_unfolding_all rfl) (gY rfl)
theorem dB.U2 (h:dB C Y eY M B fo) {r:Nat} {u:Int} (hr:r∉B.falls.map (·.1)) :
  dB C Y eY ((M++[MO.ins C.fa [("until",.int u),("near",.aN)]]).set 4 (.bR (encD (eF (Bc fo r M.length)) (jh B.falls r u)))) { B with falls:=jh B.falls r u } (Bc fo r M.length):=by
 have hp:=h.push (.ins C.fa [("until",.int u),("near",.aN)])
 have h5:5<M.length:=cP h.y5
 refine⟨(ar (by decide)).trans hp.y0,(ar (by decide)).trans hp.y1,(ar (by decide)).trans hp.y2,(ar (by decide)).trans hp.y3,get_set hp.y4,(ar (by decide)).trans hp.y5,fun q hq=>?_⟩
 have hq:q∈jh B.falls r u:=hq
 rw[vH hr] at hq
 rcases List.mem_append.mp hq with hq | hq
 ·have fE:q.1≠r:=fun e=>hr (List.mem_map.mpr ⟨q,hq,e⟩)
  have e:Bc fo r M.length q.1=fo q.1:=by unfold Bc; rw[if_neg fE]
  rw[e]
  have:=hp.yf q hq
  exact⟨this.1,(ar (by omega)).trans this.2⟩
 ·simp at hq
  subst hq
  have e:Bc fo r M.length r=M.length:=by unfold Bc; rw[if_pos rfl]
  show 5<Bc fo r M.length r/\_
  rw[e]
  exact⟨h5,(ar (by omega)).trans (by simp)⟩
theorem l6 {i:Int} {gc gs gt gb gf gu gw:D1} {W:Wd} (h:dB C Y eY M B fo) (hi:Sm i) (R:iC Y.ps.length Y.rs) (I:Inv Y.ps.length Y.rs W) (S:vI Y.ps.length Y.rs (bZ Y.ps) W B) (SM:Y.rs.length≤2097152) (WA:∀r<Y.rs.length, bb Y.rs r<Y.ss.length)
    (hc:gc [.obj 0, .int i] M=if aZ i Y.rs.length then .ok .aN M else .exc C.nt M)
    (hs:∀M B (r:Nat), dB C Y eY M B fo->r<Y.rs.length->gs [.obj 0, .int r] M=.ok (.int (bb Y.rs r)) M)
    (ht:∀M B (s:Nat), dB C Y eY M B fo->s<Y.ss.length->gt [.obj 0, .int s] M=.ok .aN M)
    (hb:∀M B (s:Nat), dB C Y eY M B fo->s<Y.ss.length->gb [.obj 0, .int s] M=.ok (.bl (fg Y s)) M)
    (hf:∀(M:aP) (u:Int), gf [.obj M.length, .int u, .aN] (M++[.ins C.fa []])=.ok .aN (M++[.ins C.fa [("until", .int u), ("near", .aN)]]))
    (hu:∀M B w, dB C Y eY M B fo->(w.map (·.1)).Nodup->(∀p∈w.map (·.1), (bA B.locks p).isSome=true)->∃M', gu [.obj 0, ck w] M=.ok .aN M'/\dB C Y eY M' { B with locks:=dP w B.locks } fo/\jJ M M'/\M'.length=M.length)
    (hw:∀M B (r:Nat), dB C Y eY M B fo->r<Y.rs.length->gw [.obj 0, .int r] M=.ok (ck (bN Y.rs r)) M) :
    (aZ i Y.rs.length=false/\ik C.fa C.nt C.yd gc gs gt gb gf gu gw [.obj 0, .int i] M=.exc C.nt M)\/∃r:Nat, i=r/\r<Y.rs.length ∧
      ((r∉W.green/\ik C.fa C.nt C.yd gc gs gt gb gf gu gw [.obj 0, .int i] M=.exc C.nt M) ∨
       (r∈W.green/\(((decide (0<Y.wait) && fg Y (bb Y.rs r))=true/\∃M', ik C.fa C.nt C.yd gc gs gt gb gf gu gw [.obj 0, .int i] M=.ok .aN M'/\dB C Y eY M' (A3 Y.rs B r (B.ticks+Y.wait)) (Bc fo r M.length)/\jJ M M')
          \/ (decide (0<Y.wait) && fg Y (bb Y.rs r))=false/\∃M', ik C.fa C.nt C.yd gc gs gt gb gf gu gw [.obj 0, .int i] M=.ok .aN M'/\dB C Y eY M' (qO Y.rs B r) fo/\jJ M M'))):=by
  unfold ik
  by_cases ho:aZ i Y.rs.length=true
  · rw[ho] at hc
    obtain⟨r, rfl, hr⟩:=gM ho
    refine .inr ⟨r, rfl, hr, ?_⟩
    refine cU (P:=fun q=>(r∉W.green/\q=.exc C.nt M) ∨
       (r∈W.green/\(((decide (0<Y.wait) && fg Y (bb Y.rs r))=true/\∃M', q=.ok .aN M'/\dB C Y eY M' (A3 Y.rs B r (B.ticks+Y.wait)) (Bc fo r M.length)/\jJ M M')
          \/ (decide (0<Y.wait) && fg Y (bb Y.rs r))=false/\∃M', q=.ok .aN M'/\dB C Y eY M' (qO Y.rs B r) fo/\jJ M M'))) ?_
    simp only[zC, zD, zE, zF, Nat.zero_add, Nat.reduceAdd, Nat.reduceSub, List.replicate, zG, zH, zI]
    refine aG (cD .aN M (by simp[hc]) (aq ?_))
    refine bh (.int (bb Y.rs r)) M (by simp[hs M B r h hr]) ?_
    dsimp only[List.set]
    have OX:=WA r hr
    have e1:=h.fld (ρ:=[some (.obj 0), some (.int r), some (.int (bb Y.rs r)), none]) (d:=ae 0) rfl vQ
    have U3:rS (cM C.yd "greens" (ae 0)) (ae 2) [some (.obj 0), some (.int r), some (.int (bb Y.rs r)), none] M=.ok (bJ (bA B.greens (bb Y.rs r))) M:=by
      unfold rS
      rw[e1, ag, jz h.y3]
      dsimp only
      simp only[aS, zB, zA, ag]
      rw[jz h.y3]
      simp only[kF]
      rw[gq]
      cases bA B.greens (bb Y.rs r)<;>rfl
    have JH:bA B.greens (bb Y.rs r)=some r↔r∈W.green:=by
      rw[S.greens]; exact⟨fun a=>a.1, fun a=>⟨a, rfl⟩⟩
    refine aG (hJ (!decide (r∈W.green)) M ?_ (fun hk=>?_) (fun hk=>?_))
    · rw[cX, aI, U3]
      simp only[aS, zB, zA, ag]
      cases e:bA B.greens (bb Y.rs r) with
      | none =>
        have:r∉W.green:=fun h=>by rw[JH.mpr h] at e; cases e
        rw[show bJ none=.aN from rfl, Cv (p:=False) HP (kX _) (by simp)]
        simp[this]
      | some r' =>
        rw[show bJ (some r')=.int r' from rfl, kY]
        by_cases e2:r'=r
        · subst e2
          have:=JH.mp e
          simp[this]
        · have:r∉W.green:=fun h=>by rw[JH.mpr h] at e; cases e; exact e2 rfl
          have e3:¬((r':Int)=r):=by omega
          simp[this, e3]
    · have hk:r∉W.green:=by simpa using hk
      have e3:=Rh (M:=M) (ρ:=[some (.obj 0), some (.int (r:Int)), some (.int (bb Y.rs r)), none]) hi rfl
      unfold cN
      rw[e3, Res.el]
      exact fA (fw (.inl ⟨hk, rfl⟩))
    · have hk:r∈W.green:=by simpa using hk
      have hg:=JH.mpr hk
      refine dU (aq (aG (D5 (k:=Sum.inl (bb Y.rs r:Int)) (y:=.int (bb Y.rs r)) (.int r) e1 h.y3 (by simp) rfl (by rw[gq, hg]; rfl) (aq ?_))))
      rw[oZ]
      have h1:=h.put3 (ji B.greens (bb Y.rs r))
      have f1:jJ M (M.set 3 (.bR (encD eI (ji B.greens (bb Y.rs r))))):=jJ.set (by decide)
      have l1:(M.set 3 (.bR (encD eI (ji B.greens (bb Y.rs r))))).length=M.length:=List.length_set
      generalize M.set 3 (.bR (encD eI (ji B.greens (bb Y.rs r))))=M1 at h1 f1 l1
      refine bh .aN M1 (by simp[ht M1 _ (bb Y.rs r) h1 OX]) ?_
      dsimp only[List.set]
      have e2:=h1.fld (ρ:=[some (.obj 0), some (.int r), some (.int (bb Y.rs r)), some .aN]) (d:=ae 0) rfl Og
      have e4:=h1.fld (ρ:=[some (.obj 0), some (.int r), some (.int (bb Y.rs r)), some .aN]) (d:=ae 0) rfl uM
      have OW:=hb M1 _ (bb Y.rs r) h1 OX
      refine hJ (decide (0<Y.wait) && fg Y (bb Y.rs r)) M1 ?_ (fun rh=>?_) (fun rh=>?_)
      · simp[e2, kd, OW]
        by_cases Ri:0<Y.wait<;>simp[Ri]
      · have SN:r∉B.falls.map (·.1):=by rw[S.falls]; exact I.JG r hk
        have Ls:B.falls.length≤2097152:=by
          have h1:=gO (n:=Y.rs.length) (l:=B.falls.map (·.1)) (by rw[S.falls]; exact I.Iy) (fun x hx=>(I.own x (.inr (by rw[← S.falls]; exact hx))).1)
          rw[zK] at h1
          omega
        have h2:=h1.U2 (u:=B.ticks+Y.wait) SN
        have e5:xH C.fa gf [(ax (dn false) (cM C.yd "ticks" (ae 0)) (cM C.yd "wait" (ae 0))), (ae 3)] [some (.obj 0), some (.int r), some (.int (bb Y.rs r)), some .aN] M1=.ok (.obj M1.length) (M1++[.ins C.fa [("until", .int (B.ticks+Y.wait)), ("near", .aN)]]):=by
          unfold xH
          simp only[aB, bu, aI, e2, e4, ag, aS, zB, zA]
          rw[show dn false (.int _) (.int _) M1=.ok (.int (B.ticks+Y.wait)) M1 from rfl]
          simp only[ag]
          rw[hf, ag]
        have hp:=h1.push (.ins C.fa [("until", .int (B.ticks+Y.wait)), ("near", .aN)])
        have e6:=hp.fld (ρ:=[some (.obj 0), some (.int r), some (.int (bb Y.rs r)), some .aN]) (d:=ae 0) rfl yO
        refine jt (.obj M1.length) _ (.obj 4) (M1++[.ins C.fa [("until", .int (B.ticks+Y.wait)), ("near", .aN)]]) (.int r) (M1++[.ins C.fa [("until", .int (B.ticks+Y.wait)), ("near", .aN)]]) _ e5 e6 (by simp) (i7 hp.y4 (kk:=Sum.inl (r:Int)) rfl (by rw[qR]; exact Nat.lt_of_le_of_lt Ls (by decide))) (gY (.inr ⟨hk, .inl ⟨rh, _, rfl, ?_, ?_⟩⟩))
        · rw[l1] at h2 ⊢
          have:mS (encD (eF fo) B.falls) (Sum.inl (r:Int)) (.obj M.length)=encD (eF (Bc fo r M.length)) (jh B.falls r (B.ticks+Y.wait)):=by
            rw[← qQ, Lr SN]
            simp[eF, Bc]
          show dB C Y eY (List.set _ 4 (.bR (mS (encD (eF fo) B.falls) (Sum.inl (r:Int)) (.obj M.length)))) _ _
          rw[this]
          exact h2
        · exact(f1.trans jJ.push).trans (jJ.set (by decide))
      · have Oo:∀p∈(bN Y.rs r).map (·.1), (bA B.locks p).isSome=true:=fun p hp=>by
          have h1:=(I.own r (.inl hk)).2 p hp
          rw[S.locks p (R.lt r hr p hp)] at h1
          cases Rj:bA B.locks p with
          | none=>rw[Rj] at h1; cases h1
          | some _=>rfl
        obtain⟨M2, u1, u2, u3, u4⟩:=hu M1 _ (bN Y.rs r) h1 (R.nd r hr) Oo
        refine cD .aN M2 ?_ (gY (.inr ⟨hk, .inr ⟨rh, M2, rfl, u2, f1.trans u3⟩⟩))
        simp[hw M1 _ r h1 hr, u1]
  · have ho:aZ i Y.rs.length=false:=by simpa using ho
    rw[ho] at hc
    refine .inl ⟨ho, ?_⟩
    refine cU (P:=fun q=>q=.exc C.nt M) ?_
    exact aG (lZ C.nt M (by simp[hc]) (fA (fw rfl)))
end
end Sb
end
section
namespace Sb
open PySem L2
section
variable {C:Cs} {Y:nM} {eY:List (Key×PV)} {M:aP} {B:Bx} {fo:Nat->Nat} {ρ:dX}
theorem sk {r:Nat}:∀(rs:List Nat) (W:Wd),r∉rs->bA (rs.foldl cb W).falls r=bA W.falls r
 | [],W,_=>rfl
 | x::rs,W,h=>by
  rw[List.foldl_cons,sk rs _ (fun e=>h (by simp[e]))]
  unfold cb
  split
  ·rw[oW,if_neg (fun e=>h (by simp[e]))]
  ·rfl
theorem so:∀(rs:List Nat) (W:Wd),(rs.foldl cb W).now=W.now
 | [],W=>rfl
 | x::rs,W=>by rw[List.foldl_cons,so rs,xR]
theorem D6 {α:Type} {xs pre post:List α} {x:α} (h:xs.Nodup) (e:xs=pre++x::post):x∉pre:=fun hm=>by
 rw[e,List.nodup_append] at h
 exact h.2.2 x hm x (by simp) rfl
theorem Lu {u:Int}:([(Str.ofString "until",PV.int u),(Str.ofString "near",PV.aN)]:List (Str×PV)).lookup (Str.ofString "until")=some (.int u):=by with_unfolding_all rfl
theorem Lv {t t':Int}:qw "ticks" (.int t') (tD Y t)=tD Y t':=by with_unfolding_all rfl
theorem rj {gu gw:D1} {W:Wd} (h:dB C Y eY M B fo) (R:iC Y.ps.length Y.rs) (I:Inv Y.ps.length Y.rs W) (S:vI Y.ps.length Y.rs (bZ Y.ps) W B) (D:Due W) (SM:Y.rs.length≤2097152)
  (hu:∀M B w,dB C Y eY M B fo->(w.map (·.1)).Nodup->(∀p∈w.map (·.1),(bA B.locks p).isSome=true)->∃M',gu [.obj 0,ck w] M=.ok .aN M'/\dB C Y eY M' { B with locks:=dP w B.locks } fo/\jJ M M'/\M'.length=M.length)
  (hw:∀M B (r:Nat),dB C Y eY M B fo->r<Y.rs.length->gw [.obj 0,.int r] M=.ok (ck (bN Y.rs r)) M) :
  ∃M',qC C.fa C.yd gu gw [.obj 0] M=.ok .aN M'/\dB C Y eY M' (vN Y.rs B) fo/\jJ M M':=by
 unfold qC
 refine cU (P:=fun q=>∃M',q=.ok .aN M'/\dB C Y eY M' (vN Y.rs B) fo/\jJ M M') ?_
 simp only[zC,zD,zE,zF,Nat.zero_add,Nat.reduceAdd,Nat.reduceSub,List.replicate,zG,zH,zI]
 have e1:=h.fld (ρ:=[some (.obj 0),none]) (d:=ae 0) rfl uM
 refine aG ?_
 have ep:hG C.yd "ticks" (ae 0) (ax (dn false) (cM C.yd "ticks" (ae 0)) (dC (.int 1))) [some (.obj 0),none] M=.nx [some (.obj 0),none] (M.set 0 (.ins C.yd (tD Y (B.ticks+1)))):=by
  unfold hG
  rw[aI,e1,ag,dI,ag,show dn false (.int B.ticks) (.int 1) M=.ok (.int (B.ticks+1)) M from rfl,Res.el,show ae 0 [some (.obj 0),none] M=.ok (.obj 0) M from rfl,Res.el,oN h.y0]
  dsimp only
  rw[if_pos (by show 10<1000; decide),Lv]
 rw[ep]
 refine aq ?_
 have h1:=h.U1 (B.ticks+1)
 have f1:jJ M (M.set 0 (.ins C.yd (tD Y (B.ticks+1)))):=jJ.set (by decide)
 generalize M.set 0 (.ins C.yd (tD Y (B.ticks+1)))=M1 at h1 f1
 have zU:(B.falls.map (·.1)).Nodup:=by rw[S.falls]; exact I.Iy
 have wM:∀r∈B.falls.map (·.1),r<Y.rs.length:=fun r hr=>(I.own r (.inr (by rw[← S.falls]; exact hr))).1
 have hlen:B.falls.length≤2097152:=by
  have h1:=gO zU wM
  rw[zK] at h1
  omega
 have e2:=h1.fld (ρ:=[some (.obj 0),none]) (d:=ae 0) rfl yO
 have ei:ao (tf false) [(cM C.yd "falls" (ae 0))] [some (.obj 0),none] M1=.ok (.lst ((B.falls.map (·.1)).map fun(r:Nat)=>PV.int r)) M1:=by
  rw[bI,aB,e2]
  simp only[ag,bu]
  unfold tf
  dsimp only
  rw[jz h1.y4]
  dsimp only
  have e3:(encD (eF fo) B.falls).map (fun q=>Cr q.1)=(B.falls.map (·.1)).map fun(r:Nat)=>PV.int r:=by
   unfold encD
   rw[List.map_map,List.map_map]
   rfl
  rw[show({ B with ticks:=B.ticks+1 }:Bx).falls=B.falls from rfl,e3,jM (by simp; exact Nat.le_trans hlen (by decide))]
 refine hU (fun(r:Nat)=>PV.int r) (fun pre ρ M2=>∃y,ρ=[some (.obj 0),y]/\dB C Y eY M2 (pre.foldl (fx Y.rs) (qP B)) fo/\jJ M M2) (B.falls.map (·.1)) none M1 (eu ei) trivial ⟨none,rfl,h1,f1⟩ ?_ ?_
 ·rintro pre r post hx ρ M2 ⟨y,rfl,h2,f2⟩
  refine⟨_,rfl,?_⟩
  dsimp only[List.set]
  have hr:r<Y.rs.length:=wM r (by rw[hx]; simp)
  have U4:=D6 zU hx
  have I2:=sf R pre _ (uL I)
  have S2:=si R pre _ _ (uL I) (D0 S)
  have yS:bA (pre.foldl (fx Y.rs) (qP B)).falls r=bA W.falls r:=by
   rw[S2.falls,sk pre _ U4]; rfl
  have Oq:r∈W.falls.map (·.1):=by rw[← S.falls,hx]; simp
  obtain⟨u,JI⟩:=Option.isSome_iff_exists.mp ((mem_keys _ _).mp Oq)
  have U5:=D _ (AW JI)
  have IM:(pre.foldl (fx Y.rs) (qP B)).ticks=W.now+1:=by rw[S2.ticks,so]; rfl
  have hq:(r,u)∈(pre.foldl (fx Y.rs) (qP B)).falls:=AW (by rw[yS,JI])
  have hf:=(h2.yf _ hq).2
  have e3:=h2.fld (ρ:=[some (.obj 0),some (.int r)]) (d:=ae 0) rfl yO
  have e4:=h2.fld (ρ:=[some (.obj 0),some (.int r)]) (d:=ae 0) rfl uM
  have e5:ax aW (cM C.yd "falls" (ae 0)) (ae 1) [some (.obj 0),some (.int r)] M2=.ok (.obj (fo r)) M2:=by
   rw[aI,e3,ag]
   simp only[aS,zB,zA,ag]
   exact sj h2.y4 (k:=Sum.inl (r:Int)) rfl (by rw[gq,yS,JI]; rfl)
  have e6:cM C.fa "until" (ax aW (cM C.yd "falls" (ae 0)) (ae 1)) [some (.obj 0),some (.int r)] M2=.ok (.int u) M2:=by
   unfold cM at e5 ⊢
   rw[e5,ag,oN hf]
   dsimp only
   rw[Lu]
   rfl
  have vS:fx Y.rs (pre.foldl (fx Y.rs) (qP B)) r=(pre++[r]).foldl (fx Y.rs) (qP B):=by rw[List.foldl_append]; rfl
  have Ot:pv (pre.foldl (fx Y.rs) (qP B)).falls (pre.foldl (fx Y.rs) (qP B)).ticks r=decide (u=W.now+1):=by
   unfold pv
   rw[yS,JI,IM]
   dsimp only
   refine decide_eq_decide.mpr ⟨fun h=>?_,fun h=>?_⟩
   ·have:W.now<u:=U5
    omega
   ·omega
  refine hJ (decide (u=W.now+1)) M2 ?_ (fun hk=>?_) (fun hk=>?_)
  ·rw[cX,aI,e6,ag,e4,ag,IM,kY]
   rfl
  ·have Oo:∀p∈(bN Y.rs r).map (·.1),(bA (pre.foldl (fx Y.rs) (qP B)).locks p).isSome=true:=fun p hp=>by
    have NY:r∈(pre.foldl cb (o9 W)).falls.map (·.1):=by rw[mem_keys,← S2.falls,yS,JI]; rfl
    have h1:=(I2.own r (.inr NY)).2 p hp
    rw[S2.locks p (R.lt r hr p hp)] at h1
    cases Rj:bA (pre.foldl (fx Y.rs) (qP B)).locks p with
    | none=>rw[Rj] at h1; cases h1
    | some _=>rfl
   refine aG (D5 (k:=Sum.inl (r:Int)) (y:=.int r) (.obj (fo r)) e3 h2.y4 (by simp) rfl (by rw[gq,yS,JI]; rfl) (aq ?_))
   rw[oZ]
   have h3:=h2.Rf r
   have f3:jJ M (M2.set 4 (.bR (encD (eF fo) (ji (pre.foldl (fx Y.rs) (qP B)).falls r)))):=f2.trans (jJ.set (by decide))
   generalize M2.set 4 (.bR (encD (eF fo) (ji (pre.foldl (fx Y.rs) (qP B)).falls r)))=M3 at h3 f3
   obtain⟨M4,u1,u2,u3,u4⟩:=hu M3 _ (bN Y.rs r) h3 (R.nd r hr) Oo
   refine cD .aN M4 (by simp[hw M3 _ r h3 hr,u1]) (bK trivial ⟨_,rfl,?_,f3.trans u3⟩)
   rw[← vS]
   unfold fx
   rw[if_pos (by show pv _ _ _=true; exact Ot.trans hk)]
   exact u2
  ·refine dU (bK trivial ⟨_,rfl,?_,f2⟩)
   rw[← vS]
   unfold fx
   rw[if_neg (fun hc=>by have h9:=Ot.symm.trans hc; rw[hk] at h9; cases h9)]
   exact h2
 ·rintro ρ' M2 ⟨y,rfl,h2,f2⟩
  exact gY ⟨M2,rfl,h2,f2⟩
@[simp] theorem Lw {neg b:Bool}:dR neg (i8 b) (.str "straight") M=.ok (.bl (if neg then !b else b)) M:=by cases b<;>cases neg<;>with_unfolding_all rfl
theorem oH {i:Int} {gc gn:D1} {ti:Nat->Bool} (h:dB C Y eY M B fo) (Ln:B.lying.length=Y.ps.length)
    (hc:gc [.obj 0, .int i] M=if i9 i Y.ps then .ok .aN M else .exc C.nt M)
    (hn:∀p:Nat, p<Y.ps.length->gn [.obj 0, .int p] M=if (bA B.locks p).isSome || ti p then .exc C.he M else .ok .aN M) :
    (i9 i Y.ps=false/\ky C.yd gc gn [.obj 0, .int i] M=.exc C.nt M)\/∃p:Nat, i=p/\p<Y.ps.length/\bZ Y.ps p=true ∧
      ((((bA B.locks p).isSome || ti p)=true/\ky C.yd gc gn [.obj 0, .int i] M=.exc C.he M) ∨
       (((bA B.locks p).isSome || ti p)=false/\∃M', ky C.yd gc gn [.obj 0, .int i] M=.ok .aN M'/\dB C Y eY M' (vO B p) fo/\jJ M M')):=by
  unfold ky
  by_cases ho:i9 i Y.ps=true
  · rw[ho] at hc
    have JB:=Bool.and_eq_true_iff.mp ho
    obtain⟨p, rfl, hp⟩:=gM JB.1
    refine .inr ⟨p, rfl, hp, by simpa using JB.2, ?_⟩
    refine cU (P:=fun q=>(((bA B.locks p).isSome || ti p)=true/\q=.exc C.he M)\/(((bA B.locks p).isSome || ti p)=false/\∃M', q=.ok .aN M'/\dB C Y eY M' (vO B p) fo/\jJ M M')) ?_
    simp only[zC, zD, zE, zF, Nat.zero_add, Nat.reduceAdd, Nat.reduceSub, List.replicate, zG, zH, zI]
    refine aG (cD .aN M (by simp[hc]) (aq ?_))
    have e:=hn p hp
    by_cases hh:((bA B.locks p).isSome || ti p)=true
    · rw[if_pos hh] at e
      exact aG (lZ C.he M (by simp[e]) (fA (fw (.inl ⟨hh, rfl⟩))))
    · rw[if_neg hh] at e
      refine aG (cD .aN M (by simp[e]) (aq ?_))
      have C7:p<B.lying.length:=by rw[Ln]; exact hp
      have e1:=h.fld (ρ:=[some (.obj 0), some (.int p)]) (d:=ae 0) rfl yN
      have e2:ax aW (cM C.yd "lying" (ae 0)) (ae 1) [some (.obj 0), some (.int p)] M=.ok (i8 (B.lying.getD p true)) M:=by
        rw[aI, e1, ag]
        simp only[aS, zB, zA, ag]
        exact o4 h.y2 (by rw[zJ, List.getD_eq_getElem?_getD, List.getElem?_eq_getElem C7]; rfl)
      refine jt (i8 (!(B.lying.getD p true))) M (.obj 2) M (.int p) M (M.set 2 (.lst ((B.lying.set p (!(B.lying.getD p true))).map i8))) ?_ e1 (by simp) (by rw[ow h.y2 (by simpa using C7), List.map_set]) (gY (.inr ⟨by simpa using hh, _, rfl, h.put2 _, jJ.set (by decide)⟩))
      rw[yD, cX, aI, e2, ag, dI, ag, Lw, ag, ag]
      cases B.lying.getD p true<;>rfl
  · have ho:i9 i Y.ps=false:=by simpa using ho
    rw[ho] at hc
    refine .inl ⟨ho, ?_⟩
    refine cU (P:=fun q=>q=.exc C.nt M) ?_
    exact aG (lZ C.nt M (by simp[hc]) (fA (fw rfl)))
end
end Sb
end
section
namespace Sb
open PySem L2
noncomputable def wW:Option Bool->PV
 | none=>.aN
 | some b=>i8 b
noncomputable def eW:Nat->Int->PV:=fun _ u=>.tup [.int u,.lst [],.bl true]
noncomputable def wKs (Y:nM) (g:List Nat) (t:Int) (j:Nat):List (Key×PV) :=
 [(cn "pieces",aV Y.ps),(cn "signals",bD Y.ss),(cn "wait",.int Y.wait),(cn "points",.obj 6),(cn "green",lX g),(cn "now",.int t),(cn "routes",eC Y.rs),(cn "locks",.obj j),(cn "falls",.obj 9),(cn "trains",.obj 10)]
structure gW (Y:nM) (M:aP) (W:Wd) (j:Nat):Prop where
 w6:M[6]? = some (.lst (W.points.map wW))
 w7:M[7]? = some (.bR (wKs Y W.green W.now j))
 wl:M[j]? = some (.lst (W.locks.map bJ))
 wj:7<j/\j≠9/\j≠10
 w9:M[9]? = some (.bR (encD eW W.falls))
 zV:M[10]? = some (.bR [])
structure k8 (j:Nat) (M M':aP):Prop where
 len:M.length≤M'.length
 out:∀i,i≠6->i≠7->i≠9->i≠10->i≠j->i<M.length->M'[i]? = M[i]?
section
variable {Y:nM} {M:aP} {W:Wd} {j:Nat} {ρ:dX}
theorem k8.refl:k8 j M M:=⟨Nat.le_refl _,fun _ _ _ _ _ _ _=>rfl⟩
theorem k8.trans {M1 M2:aP} (a:k8 j M M1) (b:k8 j M1 M2):k8 j M M2:=⟨Nat.le_trans a.len b.len,fun i h1 h2 h3 h4 h5 h6=>(b.out i h1 h2 h3 h4 h5 (Nat.lt_of_lt_of_le h6 a.len)).trans (a.out i h1 h2 h3 h4 h5 h6)⟩
theorem k8.set {n:Nat} {o:MO} (h:n=6\/n=7\/n=9\/n=10\/n=j):k8 j M (M.set n o):=⟨by simp,fun i h1 h2 h3 h4 h5 _=>ar (by omega)⟩
theorem k8.push {o:MO}:k8 j M (M++[o]):=⟨by simp,fun i _ _ _ _ _ hi=>List.getElem?_append_left hi⟩
theorem gW.keep (h:gW Y M W j) {M':aP} (h1:∀i,5<i->i<M.length->M'[i]? = M[i]?):gW Y M' W j :=
 ⟨(h1 6 (by decide) (cP h.w6)).trans h.w6,(h1 7 (by decide) (cP h.w7)).trans h.w7,(h1 j (by have:=h.wj; omega) (cP h.wl)).trans h.wl,h.wj,(h1 9 (by decide) (cP h.w9)).trans h.w9,(h1 10 (by decide) (cP h.zV)).trans h.zV⟩
theorem gW.push (h:gW Y M W j) (o:MO):gW Y (M++[o]) W j:=h.keep fun i _ hi=>List.getElem?_append_left hi
theorem gW.Rk (h:gW Y M W j) (l:List (Option Bool)):gW Y (M.set 6 (.lst (l.map wW))) { W with points:=l } j :=
 ⟨get_set h.w6,(ar (by decide)).trans h.w7,(ar (by have:=h.wj; omega)).trans h.wl,h.wj,(ar (by decide)).trans h.w9,(ar (by decide)).trans h.zV⟩
theorem gW.U6 (h:gW Y M W j) (l:List (Option Nat)):gW Y (M.set j (.lst (l.map bJ))) { W with locks:=l } j :=
 ⟨(ar (by have:=h.wj; omega)).trans h.w6,(ar (by have:=h.wj; omega)).trans h.w7,get_set h.wl,h.wj,(ar (by have:=h.wj; omega)).trans h.w9,(ar (by have:=h.wj; omega)).trans h.zV⟩
theorem gW.Ou (h:gW Y M W j) (g:List Nat) (t:Int):gW Y (M.set 7 (.bR (wKs Y g t j))) { W with green:=g,now:=t } j :=
 ⟨(ar (by decide)).trans h.w6,get_set h.w7,(ar (by have:=h.wj; omega)).trans h.wl,h.wj,(ar (by decide)).trans h.w9,(ar (by decide)).trans h.zV⟩
theorem gW.Rl (h:gW Y M W j) (f:List (Nat×Int)):gW Y (M.set 9 (.bR (encD eW f))) { W with falls:=f } j :=
 ⟨(ar (by decide)).trans h.w6,(ar (by decide)).trans h.w7,(ar (by have:=h.wj; omega)).trans h.wl,h.wj,get_set h.w9,(ar (by decide)).trans h.zV⟩
theorem gW.Rm (h:gW Y M W j) (l:List (Option Nat)):gW Y ((M++[MO.lst (l.map bJ)]).set 7 (.bR (wKs Y W.green W.now M.length))) { W with locks:=l } M.length:=by
 have hp:=h.push (.lst (l.map bJ))
 have ZK:=cP h.zV
 exact⟨(ar (by decide)).trans hp.w6,get_set hp.w7,(ar (by omega)).trans (by simp),⟨by omega,by omega,by omega⟩,(ar (by decide)).trans hp.w9,(ar (by decide)).trans hp.zV⟩
variable {g:List Nat} {t:Int}
theorem k9:iK (wKs Y g t j) (cn "pieces")=some (aV Y.ps):=by with_unfolding_all rfl
theorem o5:iK (wKs Y g t j) (cn "signals")=some (bD Y.ss):=by with_unfolding_all rfl
theorem Ov:iK (wKs Y g t j) (cn "wait")=some (.int Y.wait):=by with_unfolding_all rfl
theorem vT:iK (wKs Y g t j) (cn "points")=some (.obj 6):=by with_unfolding_all rfl
theorem qV:iK (wKs Y g t j) (cn "green")=some (lX g):=by with_unfolding_all rfl
theorem D7:iK (wKs Y g t j) (cn "now")=some (.int t):=by with_unfolding_all rfl
theorem ox:iK (wKs Y g t j) (cn "routes")=some (eC Y.rs):=by with_unfolding_all rfl
theorem uO:iK (wKs Y g t j) (cn "locks")=some (.obj j):=by with_unfolding_all rfl
theorem yT:iK (wKs Y g t j) (cn "falls")=some (.obj 9):=by with_unfolding_all rfl
theorem vU:iK (wKs Y g t j) (cn "trains")=some (.obj 10):=by with_unfolding_all rfl
theorem D8 {g':List Nat}:mS (wKs Y g t j) (cn "green") (lX g')=wKs Y g' t j:=by with_unfolding_all rfl
theorem Rn {t':Int}:mS (wKs Y g t j) (cn "now") (.int t')=wKs Y g t' j:=by with_unfolding_all rfl
theorem Lx {j':Nat}:mS (wKs Y g t j) (cn "locks") (.obj j')=wKs Y g t j':=by with_unfolding_all rfl
theorem Ly:(wKs Y g t j).length<lim:=by show 10<16000000; decide
theorem gW.ix (h:gW Y M W j) {d:DE} {x:Str} {v:PV} (hd:d ρ M=.ok (.obj 7) M) (hv:iK (wKs Y W.green W.now j) (cn x)=some v):ax aW d (dC (.str x)) ρ M=.ok v M:=by
 rw[aI,hd,ag,dI,ag]
 exact sj h.w7 rfl hv
theorem gW.put (h:gW Y M W j) {x:Str} {v:PV}:vn (.obj 7) (.str x) v M=some (M.set 7 (.bR (mS (wKs Y W.green W.now j) (cn x) v))):=i7 h.w7 rfl Ly
theorem wX {p:Nat} (h:gW Y M W j):i6 [.obj 7,.int p] M=.ok .aN M:=by
 unfold i6
 refine cU (P:=fun q=>q=.ok .aN M) ?_
 simp only[zC,zD,zE,zF,Nat.zero_add,Nat.reduceAdd,Nat.reduceSub,List.replicate,zG,zH,zI]
 have e:=h.ix (ρ:=[some (.obj 7),some (.int p),none]) (d:=ae 0) rfl vU
 have hi:=keys_nil h.zV e
 refine aG ?_
 have e2:∀(g:DG) (tc:DT) (d:DE),nX (nW (ax aW (ae 0) (dC (.str "trains")))) (bx 2 (dj false [none,some 1,some 0] (nW (ax aW (ae 0) (dC (.str "trains")))) g tc d)) [some (.obj 7),some (.int p),none] M=.nx [some (.obj 7),some (.int p),some (.lst [])] M:=fun g tc d=>by
  unfold nX O3
  rw[hi]
  dsimp only
  rw[h.zV]
  dsimp only
  rw[K8,cu (xs:=([]:List Nat)) (w:=some (10,.sU [])) (M':=M.set 10 (.sU [])) (fun(n:Nat)=>PV.int n) (fun _=>true) (fun(n:Nat)=>PV.int n) (fun _=>True) hi (get_set h.zV) trivial (by simp) (by simp),bT (by simp),Res.el]
  unfold AK
  dsimp only
  rw[if_pos (get_set h.zV),Ba h.zV]
  rfl
 rw[e2]
 refine aq (bS .aN M ?_ (bj rfl))
 simp[kd]
theorem ma {p:Nat} {gt:D1} (h:gW Y M W j) (hp:p<W.locks.length) (ht:gt [.obj 7,.int p] M=.ok .aN M):m8 gt [.obj 7,.int p] M=.ok (.bl (W.locks.getD p none).isSome) M:=by
 unfold m8
 refine cU (P:=fun q=>q=.ok (.bl (W.locks.getD p none).isSome) M) ?_
 simp only[zC,zD,zE,zF,Nat.zero_add,Nat.reduceAdd,Nat.reduceSub,List.replicate,zG,zH,zI]
 have e:=h.ix (ρ:=[some (.obj 7),some (.int p)]) (d:=ae 0) rfl uO
 refine bS (.bl (W.locks.getD p none).isSome) M ?_ (bj rfl)
 have e2:aW (.obj j) (.int p) M=.ok (bJ (W.locks.getD p none)) M:=o4 h.wl (by rw[zJ,List.getD_eq_getElem?_getD,List.getElem?_eq_getElem hp]; rfl)
 rw[Lp,aI,aI,e,ag]
 simp only[aS,zB,zA,ag,e2,dI]
 cases W.locks.getD p none with
 | none=>simp[bJ,ht]
 | some r=>simp[bJ]
theorem Lz {l:List (Option Nat)} {r:Nat}:(l.filter fun _=>true).map (fun o=>if o=some r then PV.aN else bJ o)=(ff r l).map bJ:=by
 rw[List.filter_eq_self.mpr (fun _ _=>rfl)]
 unfold ff
 rw[List.map_map]
 refine List.map_congr_left fun o _=>?_
 dsimp only[Function.comp]
 split<;>rfl
theorem kB {r:Nat} (h:gW Y M W j) (hl:W.locks.length≤100):m9 [.obj 7,.int r] M=.ok .aN ((M++[MO.lst ((ff r W.locks).map bJ)]).set 7 (.bR (wKs Y W.green W.now M.length))):=by
 unfold m9
 refine cU (P:=fun q=>q=.ok .aN ((M++[MO.lst ((ff r W.locks).map bJ)]).set 7 (.bR (wKs Y W.green W.now M.length)))) ?_
 simp only[zC,zD,zE,zF,Nat.zero_add,Nat.reduceAdd,Nat.reduceSub,List.replicate,zG,zH,zI]
 have e:=h.ix (ρ:=[some (.obj 7),some (.int r)]) (d:=ae 0) rfl uO
 have hp:=h.push (.lst ((ff r W.locks).map bJ))
 refine jt (.obj M.length) (M++[MO.lst ((ff r W.locks).map bJ)]) (.obj 7) (M++[MO.lst ((ff r W.locks).map bJ)]) (.str "locks") (M++[MO.lst ((ff r W.locks).map bJ)]) ((M++[MO.lst ((ff r W.locks).map bJ)]).set 7 (.bR (wKs Y W.green W.now M.length))) ?_ (by simp) (by simp) (by rw[hp.put,Lx]) (gY rfl)
 rw[cu (xs:=W.locks) (w:=some (j,.lst (W.locks.map bJ))) (M':=M) bJ (fun _=>true) (fun o=>if o=some r then PV.aN else bJ o) (fun ρ=>∃y,ρ=[y,some (.int r)]) (HR e h.wl) h.wl ⟨none,rfl⟩ (fun o _ ρ hρ=>?_) (Nat.le_trans hl (by decide))]
 ·rw[Lz,nU (by simp[ff]; exact Nat.le_trans hl (by decide))]
 ·obtain⟨y,rfl⟩:=hρ
  refine⟨_,rfl,⟨_,rfl⟩,rfl,fun _=>?_⟩
  simp only[List.set_cons_zero,yD,cX,aI,aS,zB,zA,ag,dI]
  cases o with
  | none =>
   rw[show bJ none=.aN from rfl,Cv (p:=False) HP (kX _) (by simp)]
   simp
  | some r' =>
   rw[show bJ (some r')=.int r' from rfl,kY]
   by_cases e2:r'=r
   ·subst e2; simp
   ·have e3:¬((r':Int)=r):=by omega
    simp[e2,e3]
end
end Sb
end
section
namespace Sb
open PySem L2
section
variable {Y:nM} {M:aP} {W:Wd} {j:Nat} {ρ:dX}
theorem rR:∀bs:List Bool,bools (bs.map PV.bl)=some bs
 | []=>rfl
 | b::bs=>by rw[zC,bools,rR bs]; rfl
noncomputable def Ow (p:Pc) (s:gK):Bool:=match p with
 | .pl _ _=>true
 | .pt _ u _=>decide (u∈[s.2.1,s.2.2])
noncomputable def qW (ps:jj) (s:gK):Bool:=Ow (Pc.at ps s.1) s
noncomputable def heldW (W:Wd) (w:List gK):Bool:=w.any fun s=>(W.locks.getD s.1 none).isSome
theorem CG (r:Nat) (w:List gK) (s:gK) (l:List (Option Nat)):iD r (w++[s]) l=(iD r w l).set s.1 (some r):=by unfold iD; rw[List.foldl_append]; rfl
theorem tF (lA:Nat->Bool) (p6:gK->Bool) (w:List gK) (s:gK) (l:List (Option Bool)):jW lA p6 (w++[s]) l=if lA s.1 then(jW lA p6 w l).set s.1 (some (p6 s)) else jW lA p6 w l:=by unfold jW; rw[List.foldl_append]; rfl
theorem Ro {b:Bool} {d:DE} (hd:d ρ M=.ok (.bl b) M):(ax aW (fM false [(dC (.str "branch")),(dC (.str "straight"))]) (ao qu [d])) ρ M=.ok (i8 b) M:=by
 have e:∀i:Nat,∀x,([.str "branch",.str "straight"]:List PV)[i]? = some x->aW (.lst [.str "branch",.str "straight"]) (.int i) M=.ok x M:=fun i x h=>eB h
 simp only[aI,lJ,aB,bu,dI,ag,bI,hd]
 rw[bT (by simp),ag,hd,ag,ag,show qu [.bl b] M=.ok (.int (if b then 1 else 0)) M from rfl,ag]
 cases b
 ·exact e 0 _ rfl
 ·exact e 1 _ rfl
theorem mK {r:Nat} {gh:D1} (h:gW Y M W j) (R:iC Y.ps.length Y.rs) (JF:Y.ps.length≤16) (SM:Y.rs.length≤2097152) (hr:r<Y.rs.length) (OV:(bN Y.rs r).length≤100) (BN:W.locks.length=Y.ps.length) (SF:W.points.length=Y.ps.length) (Gn:W.green.length≤2097152)
  (hh:∀p:Nat,p<W.locks.length->gh [.obj 7,.int p] M=.ok (.bl (W.locks.getD p none).isSome) M) :
  (heldW W (bN Y.rs r)=true/\mx gh [.obj 7,.int r] M=.ok (.str "held") M) ∨
  (heldW W (bN Y.rs r)=false/\∃M',mx gh [.obj 7,.int r] M=.ok (.str "ok") M'/\gW Y M' (IA Y.rs (bZ Y.ps) (qW Y.ps) W r) j/\k8 j M M'):=by
 unfold mx
 refine cU (P:=fun q=>(heldW W (bN Y.rs r)=true/\q=.ok (.str "held") M)\/(heldW W (bN Y.rs r)=false/\∃M',q=.ok (.str "ok") M'/\gW Y M' (IA Y.rs (bZ Y.ps) (qW Y.ps) W r) j/\k8 j M M')) ?_
 simp only[zC,zD,zE,zF,Nat.zero_add,Nat.reduceAdd,Nat.reduceSub,List.replicate,zG,zH,zI]
 have e1:=h.ix (ρ:=[some (.obj 7),some (.int r),none,none,none]) (d:=ae 0) rfl ox
 refine bh (ck (bN Y.rs r)) M ?_ ?_
 ·rw[aI,aI,e1]
  simp[A9 hr]
 dsimp only[List.set]
 have Fv:∀s∈bN Y.rs r,s.1<Y.ps.length:=fun s Am=>R.lt r hr s.1 (List.mem_map.mpr ⟨s,Am,rfl⟩)
 refine aG (hJ (heldW W (bN Y.rs r)) M ?_ (fun hk=>?_) (fun hk=>?_))
 ·have e2:dj false [none,some 0] (iL (ae 2)) (gN 0) zT (ao gh [(ae 1),(ax aW (ae 0) (dC (.int 0)))]) [some (.obj 7),some (.int r),some (ck (bN Y.rs r)),none,none] M=.ok (.lst (((bN Y.rs r).map fun s=>(W.locks.getD s.1 none).isSome).map .bl)) M:=by
   rw[cu (xs:=bN Y.rs r) (w:=none) (M':=M) df (fun _=>true) (fun s=>.bl (W.locks.getD s.1 none).isSome) (fun ρ=>∃y,ρ=[y,some (.obj 7)]) (eu (by simp)) trivial ⟨none,rfl⟩ (fun s hs ρ hρ=>?_) (Nat.le_trans OV (by decide))]
   ·rw[List.filter_eq_self.mpr (fun _ _=>rfl),bT (by simpa using OV),List.map_map]
    rfl
   ·obtain⟨y,rfl⟩:=hρ
    refine⟨_,rfl,⟨_,rfl⟩,rfl,fun _=>?_⟩
    have:=hh s.1 (by rw[BN]; exact Fv s hs)
    simp[df]
    simpa using this
  rw[kl,bI,aB,e2]
  simp only[ag,bu]
  unfold KQ
  simp only[qo,Option.bind_some,rR,ag,kd,vf]
  unfold heldW
  rw[List.any_map]
  rfl
 ·exact bS (.str "held") M rfl (jI (bj (.inl ⟨hk,rfl⟩)))
 refine dU (aq (aG (hU df (fun pre ρ M1=>∃y z,ρ=[some (.obj 7),some (.int r),some (ck (bN Y.rs r)),y,z]/\gW Y M1 { W with locks:=iD r pre W.locks,points:=jW (bZ Y.ps) (qW Y.ps) pre W.points } j/\k8 j M M1)
  (bN Y.rs r) none M (eu (by simp)) trivial ⟨none,none,rfl,h,k8.refl⟩ ?_ ?_)))
 ·rintro pre s post hx ρ M1 ⟨y,z,rfl,h1,f1⟩
  refine⟨_,rfl,?_⟩
  dsimp only[List.set]
  have Gk:=Fv s (by rw[hx]; simp)
  have e2:=h1.ix (ρ:=[some (.obj 7),some (.int r),some (ck (bN Y.rs r)),some (df s),z]) (d:=ae 0) rfl uO
  refine aG (jt (.int r) M1 (.obj j) M1 (.int s.1) M1 (M1.set j (.lst ((iD r (pre++[s]) W.locks).map bJ))) (by simp) e2 (by simp[df]) ?_ (aq ?_))
  ·rw[ow h1.wl (by simp; rw[oX,BN]; exact Gk),CG,List.map_set]
   rfl
  have h2:=h1.U6 (iD r (pre++[s]) W.locks)
  have f2:k8 j M (M1.set j (.lst ((iD r (pre++[s]) W.locks).map bJ))):=f1.trans (k8.set (by simp))
  generalize M1.set j (.lst ((iD r (pre++[s]) W.locks).map bJ))=M2 at h2 f2
  have e3:=h2.ix (ρ:=[some (.obj 7),some (.int r),some (ck (bN Y.rs r)),some (df s),z]) (d:=ae 0) rfl k9
  refine bh (Pc.at Y.ps s.1).enc M2 ?_ ?_
  ·rw[aI,e3]
   simp only[aI,aS,dI,zB,zA,ag]
   rw[show aW (df s) (.int 0) M2=.ok (.int s.1) M2 from Mj,ag,ot Gk]
  dsimp only[List.set]
  refine hJ (bZ Y.ps s.1) M2 ?_ (fun rh=>?_) (fun rh=>?_)
  ·unfold bZ
   cases hp:Pc.at Y.ps s.1<;>simp[Pc.enc,nJ]
  ·have e4:=h2.ix (ρ:=[some (.obj 7),some (.int r),some (ck (bN Y.rs r)),some (df s),some (Pc.at Y.ps s.1).enc]) (d:=ae 0) rfl vT
   refine jt (i8 (qW Y.ps s)) M2 (.obj 6) M2 (.int s.1) M2 (M2.set 6 (.lst ((jW (bZ Y.ps) (qW Y.ps) (pre++[s]) W.points).map wW))) ?_ e4 (by simp[df]) ?_ (bK trivial ⟨_,_,rfl,h2.Rk _,f2.trans (k8.set (by simp))⟩)
   ·unfold bZ at rh
    unfold qW
    cases hp:Pc.at Y.ps s.1 with
    | pl a b=>rw[hp] at rh; cases rh
    | pt t u b =>
     have e:lR false (.int u) (.tup ([s.2.1,s.2.2].map .int)) M2=_:=vD
     refine Ro ?_
     rw[aI,aI]
     simp only[aS,dI,HN,AM,vC,zB,zA,ag,Pc.enc,Q5]
     rw[D4,ag,e]
     rfl
   ·rw[ow h2.w6 (by simp; rw[pU,SF]; exact Gk),tF,if_pos rh,List.map_set]
    rfl
  ·refine dU (bK trivial ⟨_,_,rfl,?_,f2⟩)
   rw[tF,if_neg (by rw[rh]; exact Bool.false_ne_true)]
   exact h2
 ·rintro ρ' M1 ⟨y,z,rfl,h1,f1⟩
  have e2:=h1.ix (ρ:=[some (.obj 7),some (.int r),some (ck (bN Y.rs r)),y,z]) (d:=ae 0) rfl qV
  refine aq (aG (jt (lX (W.green++[r])) M1 (.obj 7) M1 (.str "green") M1 (M1.set 7 (.bR (wKs Y (W.green++[r]) W.now j))) ?_ (by simp) (by simp) (by rw[h1.put,D8]) (aq (bS (.str "ok") _ rfl (bj (.inr ⟨hk,_,rfl,h1.Ou _ _,f1.trans (k8.set (by simp))⟩))))))
  rw[aI,e2]
  simp only[lJ,aB,bu,aS,zB,zA,ag]
  rw[bT (by simp),ag,qr,jM (by simp[lim]; omega)]
  simp
end
end Sb
end
section
namespace Sb
open PySem L2
section
variable {Y:nM} {M:aP} {W:Wd} {j:Nat} {ρ:dX}
theorem Rr {a b:Nat} {x y:PV}:gT 2 (fk (gN a) (fk (gN b) pj)) (.tup [x,y]) ρ=some ((ρ.set a (some x)).set b (some y)):=rfl
theorem Fx {s:Nat} (h:gW Y M W j) (hs:s<Y.ss.length):trunc nc [.obj 7,.int s] M=.ok (.lst []) M:=by
 refine oq.trunc ?_ (by simp[PV.jg,PV.nR])
 unfold nc
 refine cU (P:=fun q=>∃G,q=.ok (.lst []) (M++G)) ?_
 simp only[zC,zD,zE,zF,Nat.zero_add,Nat.reduceAdd,Nat.reduceSub,List.replicate,zG,zH,zI]
 have e1:=h.ix (ρ:=[some (.obj 7),some (.int s),none,none,none,none,none,none]) (d:=ae 0) rfl o5
 refine aG (Mh (cE (dA Y.ss s)) [some (.obj 7),some (.int s),some (.int (dA Y.ss s).1),some (.int (dA Y.ss s).2),none,none,none,none] M ?_ Rr (aq ?_))
 ·rw[aI,e1]
  simp[DU hs]
 refine bh (.obj M.length) (M++[.lst []]) (by simp) ?_
 dsimp only[List.set]
 have hp:=h.push (.lst [])
 have e2:=hp.ix (ρ:=[some (.obj 7),some (.int s),some (.int (dA Y.ss s).1),some (.int (dA Y.ss s).2),some (.obj M.length),none,none,none]) (d:=ae 0) rfl vU
 refine aG ?_
 rw[qU hp.zV (keys_nil hp.zV e2)]
 refine aq (bS (.lst []) (M++[.gone]) ?_ (bj ⟨[.gone],rfl⟩))
 simp[yu]
theorem D9 {neg:Bool} {r:Nat} {ns:List Nat}:lR neg (.int r) (lX ns) M=.ok (.bl (if neg then !decide (r∈ns) else decide (r∈ns))) M :=
 oS (enc:=fun(n:Nat)=>PV.int (n:Int)) (fun a=>kX _) (fun a b e=>by cases e; rfl) (a:=r) (as:=ns) rfl
theorem ie {r:Nat} {gn gb gf:D1} (h:gW Y M W j) (hr:r<Y.rs.length) (hs:bb Y.rs r<Y.ss.length) (Gn:W.green.length≤2097152) (Ls:W.falls.length≤2097152)
  (hn:∀M W (s:Nat),gW Y M W j->s<Y.ss.length->gn [.obj 7,.int s] M=.ok (.lst []) M)
  (hb:∀M (a:Nat) (x:Int),gb [aV Y.ps,.int a,.int x] M=.ok (bJ (beyond Y.ps a x)) M)
  (hf:∀M W,gW Y M W j->W.locks.length=Y.ps.length->gf [.obj 7,.int r] M=.ok .aN ((M++[MO.lst ((ff r W.locks).map bJ)]).set 7 (.bR (wKs Y W.green W.now M.length))))
  (BN:W.locks.length=Y.ps.length) :
  (r∉W.green/\gI gn gb gf [.obj 7,.int r] M=.ok (.str "none") M) ∨
  (r∈W.green/\(((decide (0<Y.wait) && fg Y (bb Y.rs r))=true/\∃M',gI gn gb gf [.obj 7,.int r] M=.ok (.str "ok") M'/\gW Y M' (xP W r (W.now+Y.wait)) j/\k8 j M M') ∨
   ((decide (0<Y.wait) && fg Y (bb Y.rs r))=false/\∃M',gI gn gb gf [.obj 7,.int r] M=.ok (.str "ok") M'/\gW Y M' (oY Y.rs W r) M.length/\k8 j M M'))):=by
 unfold gI
 refine cU (P:=fun q=>(r∉W.green/\q=.ok (.str "none") M) ∨
  (r∈W.green/\(((decide (0<Y.wait) && fg Y (bb Y.rs r))=true/\∃M',q=.ok (.str "ok") M'/\gW Y M' (xP W r (W.now+Y.wait)) j/\k8 j M M') ∨
   ((decide (0<Y.wait) && fg Y (bb Y.rs r))=false/\∃M',q=.ok (.str "ok") M'/\gW Y M' (oY Y.rs W r) M.length/\k8 j M M')))) ?_
 simp only[zC,zD,zE,zF,Nat.zero_add,Nat.reduceAdd,Nat.reduceSub,List.replicate,zG,zH,zI]
 have e1:=h.ix (ρ:=[some (.obj 7),some (.int r),none,none,none,none]) (d:=ae 0) rfl qV
 refine aG (hJ (!decide (r∈W.green)) M ?_ (fun hk=>?_) (fun hk=>?_))
 ·rw[cX,aI,show ae 1 [some (.obj 7),some (.int r),none,none,none,none] M=.ok (.int r) M from rfl,ag,e1,ag,D9]
  rfl
 ·exact bS (.str "none") M rfl (jI (bj (.inl ⟨by simpa using hk,rfl⟩)))
 have hk:r∈W.green:=by simpa using hk
 refine dU (aq (aG (jt (lX (W.green.filter fun x=>decide (x≠r))) M (.obj 7) M (.str "green") M (M.set 7 (.bR (wKs Y (W.green.filter fun x=>decide (x≠r)) W.now j))) ?_ (by simp) (by simp) (by rw[h.put,D8]) (aq ?_))))
 ·rw[cu (xs:=W.green) (w:=none) (M':=M) (fun(n:Nat)=>PV.int (n:Int)) (fun x=>decide (x≠r)) (fun(n:Nat)=>PV.int (n:Int)) (fun ρ=>∃y,ρ=[y,some (.int r)]) (eu e1) trivial ⟨none,rfl⟩ (fun x _ ρ hρ=>?_) (Nat.le_trans Gn (by decide))]
  ·exact jM (by rw[zK]; exact Nat.le_trans (List.length_filter_le _ _) (Nat.le_trans Gn (by decide)))
  ·obtain⟨y,rfl⟩:=hρ
   refine⟨_,rfl,⟨_,rfl⟩,?_,fun _=>rfl⟩
   simp only[List.set_cons_zero,cX,aI,aS,zB,zA,ag,kY]
   by_cases e2:x=r
   ·subst e2; simp
   ·have e3:¬((x:Int)=r):=by omega
    simp[e2,e3]
 have h1:=h.Ou (W.green.filter fun x=>decide (x≠r)) W.now
 have f1:k8 j M (M.set 7 (.bR (wKs Y (W.green.filter fun x=>decide (x≠r)) W.now j))):=k8.set (by simp)
 have l1:(M.set 7 (.bR (wKs Y (W.green.filter fun x=>decide (x≠r)) W.now j))).length=M.length:=List.length_set
 generalize M.set 7 (.bR (wKs Y (W.green.filter fun x=>decide (x≠r)) W.now j))=M1 at h1 f1 l1
 have WB:∀(ρ:dX),ρ[0]? = some (some (.obj 7))->ρ[1]? = some (some (.int r))->ax aW (ax aW (ax aW (ae 0) (dC (.str "routes"))) (ae 1)) (dC (.int 0)) ρ M1=.ok (.int (bb Y.rs r)) M1:=fun ρ h0 Rj=>by
  have:=h1.ix (ρ:=ρ) (d:=ae 0) (by rw[aS,h0]) ox
  rw[aI,aI,this,ag,aS,Rj]
  simp[A9 hr]
 have e2:=h1.ix (ρ:=[some (.obj 7),some (.int r),none,none,none,none]) (d:=ae 0) rfl o5
 refine aG (Mh (cE (dA Y.ss (bb Y.rs r))) [some (.obj 7),some (.int r),some (.int (dA Y.ss (bb Y.rs r)).1),some (.int (dA Y.ss (bb Y.rs r)).2),none,none] M1 ?_ Rr (aq ?_))
 ·rw[aI,e2,ag,WB _ rfl rfl,ag,DU hs]
 refine bh (.lst []) M1 ?_ ?_
 ·rw[bI,aB,aS]
  simp only[zB,zA,ag]
  rw[aB,WB _ rfl rfl]
  simp[hn M1 _ (bb Y.rs r) h1 hs]
 dsimp only[List.set]
 have e3:=h1.ix (ρ:=[some (.obj 7),some (.int r),some (.int (dA Y.ss (bb Y.rs r)).1),some (.int (dA Y.ss (bb Y.rs r)).2),some (.lst []),none]) (d:=ae 0) rfl k9
 refine bh (.bl (fg Y (bb Y.rs r))) M1 ?_ ?_
 ·rw[aI,bI,aB,e3]
  simp only[aB,bu,aS,zB,zA,ag,dI,hb]
  unfold fg
  cases beyond Y.ps (dA Y.ss (bb Y.rs r)).2 (dA Y.ss (bb Y.rs r)).1<;>rfl
 dsimp only[List.set]
 have e4:=h1.ix (ρ:=[some (.obj 7),some (.int r),some (.int (dA Y.ss (bb Y.rs r)).1),some (.int (dA Y.ss (bb Y.rs r)).2),some (.lst []),some (.bl (fg Y (bb Y.rs r)))]) (d:=ae 0) rfl Ov
 have e5:=h1.ix (ρ:=[some (.obj 7),some (.int r),some (.int (dA Y.ss (bb Y.rs r)).1),some (.int (dA Y.ss (bb Y.rs r)).2),some (.lst []),some (.bl (fg Y (bb Y.rs r)))]) (d:=ae 0) rfl D7
 have e6:=h1.ix (ρ:=[some (.obj 7),some (.int r),some (.int (dA Y.ss (bb Y.rs r)).1),some (.int (dA Y.ss (bb Y.rs r)).2),some (.lst []),some (.bl (fg Y (bb Y.rs r)))]) (d:=ae 0) rfl yT
 refine aG (hJ (decide (0<Y.wait) && fg Y (bb Y.rs r)) M1 ?_ (fun rh=>?_) (fun rh=>?_))
 ·rw[nq,cX,aI,e4]
  simp only[ag,dI,A6,Cu,kl,aS,zB,zA,kd,vf]
  by_cases Ri:0<Y.wait<;>simp[Ri]
 ·have YI:fg Y (bb Y.rs r)=true:=(Bool.and_eq_true_iff.mp rh).2
  refine jt (eW r (W.now+Y.wait)) M1 (.obj 9) M1 (.int r) M1 (M1.set 9 (.bR (encD eW (jh W.falls r (W.now+Y.wait))))) ?_ e6 (by simp) ?_ (aq (bS (.str "ok") _ rfl (bj (.inr ⟨hk,.inl ⟨rh,_,rfl,h1.Rl _,f1.trans (k8.set (by simp))⟩⟩))))
  ·rw[K5,aB,aI,e5,ag,e4,ag,show dn false (.int W.now) (.int Y.wait) M1=.ok (.int (W.now+Y.wait)) M1 from rfl]
   simp[eW,YI]
  ·rw[i7 h1.w9 (kk:=Sum.inl (r:Int)) rfl (by rw[qR]; exact Nat.lt_of_le_of_lt Ls (by decide))]
   congr 3
   exact qQ eW r _ _
 ·have e7:=hf M1 _ h1 BN
  refine cD .aN _ (by simp; exact e7) (aq (bS (.str "ok") _ rfl (bj (.inr ⟨hk,.inr ⟨rh,_,rfl,?_,(f1.trans k8.push).trans (k8.set (by simp))⟩⟩))))
  have:=h1.Rm (ff r W.locks)
  rw[l1] at this ⊢
  exact this
theorem md {gf:D1} (h:gW Y M W j) (zU:(W.falls.map (·.1)).Nodup) (Ls:W.falls.length≤2097152) (BN:W.locks.length=Y.ps.length)
  (hf:∀M W j (r:Nat),gW Y M W j->W.locks.length=Y.ps.length->gf [.obj 7,.int r] M=.ok .aN ((M++[MO.lst ((ff r W.locks).map bJ)]).set 7 (.bR (wKs Y W.green W.now M.length)))) :
  ∃M' j',ng gf [.obj 7] M=.ok (.str "ok") M'/\gW Y M' (tB W) j'/\k8 j M M'/\(j'=j\/M.length≤j'):=by
 unfold ng
 refine cU (P:=fun q=>∃M' j',q=.ok (.str "ok") M'/\gW Y M' (tB W) j'/\k8 j M M'/\(j'=j\/M.length≤j')) ?_
 simp only[zC,zD,zE,zF,Nat.zero_add,Nat.reduceAdd,Nat.reduceSub,List.replicate,zG,zH,zI]
 have e1:=h.ix (ρ:=[some (.obj 7),none]) (d:=ae 0) rfl D7
 refine aG (jt (.int (W.now+1)) M (.obj 7) M (.str "now") M (M.set 7 (.bR (wKs Y W.green (W.now+1) j))) ?_ (by simp) (by simp) (by rw[h.put,Rn]) (aq ?_))
 ·rw[aI,e1,ag,dI,ag]; rfl
 have h1:=h.Ou W.green (W.now+1)
 have f1:k8 j M (M.set 7 (.bR (wKs Y W.green (W.now+1) j))):=k8.set (by simp)
 generalize M.set 7 (.bR (wKs Y W.green (W.now+1) j))=M1 at h1 f1
 have e2:=h1.ix (ρ:=[some (.obj 7),none]) (d:=ae 0) rfl yT
 have ei:ao (tf false) [(ax aW (ae 0) (dC (.str "falls")))] [some (.obj 7),none] M1=.ok (.lst ((W.falls.map (·.1)).map fun(r:Nat)=>PV.int r)) M1:=by
  rw[bI,aB,e2]
  simp only[ag,bu]
  unfold tf
  dsimp only
  rw[jz h1.w9]
  dsimp only
  have e3:(encD eW W.falls).map (fun q=>Cr q.1)=(W.falls.map (·.1)).map fun(r:Nat)=>PV.int r:=by
   unfold encD
   rw[List.map_map,List.map_map]
   rfl
  rw[e3,jM (by simp; exact Nat.le_trans Ls (by decide))]
 refine aG (hU (fun(r:Nat)=>PV.int r) (fun pre ρ M2=>∃y j2,ρ=[some (.obj 7),y]/\gW Y M2 (pre.foldl cb (o9 W)) j2/\k8 j M M2/\(j2=j\/M.length≤j2)/\(pre.foldl cb (o9 W)).locks.length=Y.ps.length) (W.falls.map (·.1)) none M1 (eu ei) trivial ⟨none,j,rfl,h1,f1,.inl rfl,BN⟩ ?_ ?_)
 ·rintro pre r post hx ρ M2 ⟨y,j2,rfl,h2,f2,o2,l2⟩
  refine⟨_,rfl,?_⟩
  dsimp only[List.set]
  have U4:=D6 zU hx
  have yS:bA (pre.foldl cb (o9 W)).falls r=bA W.falls r:=sk pre _ U4
  have Oq:r∈W.falls.map (·.1):=by rw[hx]; simp
  obtain⟨u,JI⟩:=Option.isSome_iff_exists.mp ((mem_keys _ _).mp Oq)
  have IM:(pre.foldl cb (o9 W)).now=W.now+1:=by rw[so]; rfl
  have e3:=h2.ix (ρ:=[some (.obj 7),some (.int r)]) (d:=ae 0) rfl yT
  have e4:=h2.ix (ρ:=[some (.obj 7),some (.int r)]) (d:=ae 0) rfl D7
  have e5:ax aW (ax aW (ax aW (ae 0) (dC (.str "falls"))) (ae 1)) (dC (.int 0)) [some (.obj 7),some (.int r)] M2=.ok (.int u) M2:=by
   rw[aI,aI,e3,ag]
   simp only[aS,zB,zA,ag]
   rw[sj h2.w9 (k:=Sum.inl (r:Int)) (v:=eW r u) rfl (by rw[gq,yS,JI]; rfl)]
   simp[eW]
  have vS:(pre++[r]).foldl cb (o9 W)=cb (pre.foldl cb (o9 W)) r:=by rw[List.foldl_append]; rfl
  have Ot:pv (pre.foldl cb (o9 W)).falls (pre.foldl cb (o9 W)).now r=decide (u≤W.now+1):=by
   unfold pv
   rw[yS,JI,IM]
  generalize pre.foldl cb (o9 W)=W2 at *
  refine hJ (decide (u≤W.now+1)) M2 ?_ (fun hk=>?_) (fun hk=>?_)
  ·rw[cX,aI,e5,ag,e4,ag,IM,A5]
   rfl
  ·refine aG (D5 (k:=Sum.inl (r:Int)) (y:=.int r) (eW r u) e3 h2.w9 (by simp) rfl (by rw[gq,yS,JI]; rfl) (aq ?_))
   rw[oZ]
   have h3:=h2.Rl (ji W2.falls r)
   have f3:k8 j M (M2.set 9 (.bR (encD eW (ji W2.falls r)))):=f2.trans (k8.set (by simp))
   have l3:(M2.set 9 (.bR (encD eW (ji W2.falls r)))).length=M2.length:=List.length_set
   generalize M2.set 9 (.bR (encD eW (ji W2.falls r)))=M3 at h3 f3 l3
   have e7:=hf M3 _ _ r h3 l2
   refine cD .aN _ (by simp; exact e7) (bK trivial ⟨_,M3.length,rfl,?_,(f3.trans k8.push).trans (k8.set (by simp)),.inr f3.len,?_⟩)
   ·rw[vS]
    unfold cb
    rw[if_pos (Ot.trans hk)]
    exact h3.Rm _
   ·rw[vS]
    unfold cb
    rw[if_pos (Ot.trans hk)]
    simpa[ff] using l2
  ·refine dU (bK trivial ⟨_,j2,rfl,?_,f2,o2,?_⟩)
   ·rw[vS]
    unfold cb
    rw[if_neg (fun hc=>by have h9:=Ot.symm.trans hc; rw[hk] at h9; cases h9)]
    exact h2
   ·rw[vS]
    unfold cb
    rw[if_neg (fun hc=>by have h9:=Ot.symm.trans hc; rw[hk] at h9; cases h9)]
    exact l2
 ·rintro ρ' M2 ⟨y,j2,rfl,h2,f2,o2,l2⟩
  exact aq (bS (.str "ok") M2 rfl (bj ⟨M2,j2,rfl,h2,f2,o2⟩))
theorem kr {p:Nat} {gh:D1} (h:gW Y M W j) (hp:p<Y.ps.length) (BN:W.locks.length=Y.ps.length) (wF:bZ Y.ps p=true->∃b,W.points[p]? = some (some b))
  (hh:gh [.obj 7,.int p] M=.ok (.bl (W.locks.getD p none).isSome) M) :
  (bZ Y.ps p=false/\iA gh [.obj 7,.int p] M=.ok (.str "none") M) ∨
  (bZ Y.ps p=true/\(((W.locks.getD p none).isSome=true/\iA gh [.obj 7,.int p] M=.ok (.str "held") M) ∨
   ((W.locks.getD p none).isSome=false/\∃M',iA gh [.obj 7,.int p] M=.ok (.str "ok") M'/\gW Y M' (ou W p) j/\k8 j M M'))):=by
 unfold iA
 refine cU (P:=fun q=>(bZ Y.ps p=false/\q=.ok (.str "none") M) ∨
  (bZ Y.ps p=true/\(((W.locks.getD p none).isSome=true/\q=.ok (.str "held") M) ∨
   ((W.locks.getD p none).isSome=false/\∃M',q=.ok (.str "ok") M'/\gW Y M' (ou W p) j/\k8 j M M')))) ?_
 simp only[zC,zD,zE,zF,Nat.zero_add,Nat.reduceAdd,Nat.reduceSub,List.replicate,zG,zH,zI]
 have e1:=h.ix (ρ:=[some (.obj 7),some (.int p)]) (d:=ae 0) rfl k9
 refine aG (hJ (!bZ Y.ps p) M ?_ (fun hk=>?_) (fun hk=>?_))
 ·rw[cX,aI,aI,aI,e1]
  simp only[aS,zB,zA,ag,ot hp,dI]
  unfold bZ
  cases hp:Pc.at Y.ps p<;>simp[Pc.enc,nJ]
 ·exact bS (.str "none") M rfl (jI (bj (.inl ⟨by simpa using hk,rfl⟩)))
 have hk:bZ Y.ps p=true:=by simpa using hk
 refine dU (aq (aG (hJ (W.locks.getD p none).isSome M ?_ (fun rh=>?_) (fun rh=>?_))))
 ·simp[hh,kd]
 ·exact bS (.str "held") M rfl (jI (bj (.inr ⟨hk,.inl ⟨rh,rfl⟩⟩)))
 obtain⟨b,hb⟩:=wF hk
 have YJ:p<W.points.length:=(List.getElem?_eq_some_iff.mp hb).1
 have h1:=h.push (.bR [(cn "straight",.str "branch"),(cn "branch",.str "straight")])
 have f1:k8 j M (M++[.bR [(cn "straight",.str "branch"),(cn "branch",.str "straight")]]):=k8.push
 have g1:(M++[MO.bR [(cn "straight",.str "branch"),(cn "branch",.str "straight")]])[M.length]? = some (.bR [(cn "straight",.str "branch"),(cn "branch",.str "straight")]):=by simp
 have ed:E6 [("straight",(dC (.str "branch"))),("branch",(dC (.str "straight")))] [some (.obj 7),some (.int p)] M=.ok (.obj M.length) (M++[MO.bR [(cn "straight",.str "branch"),(cn "branch",.str "straight")]]):=by
  with_unfolding_all rfl
 generalize M++[MO.bR [(cn "straight",.str "branch"),(cn "branch",.str "straight")]]=M1 at h1 f1 g1 ed
 have e2:=h1.ix (ρ:=[some (.obj 7),some (.int p)]) (d:=ae 0) rfl vT
 have e3:aW (.obj 6) (.int p) M1=.ok (i8 b) M1:=o4 h1.w6 (by rw[zJ,hb]; rfl)
 refine dU (aq (aG (jt (i8 (!b)) M1 (.obj 6) M1 (.int p) M1 (M1.set 6 (.lst ((W.points.set p (some !b)).map wW))) ?_ e2 (by simp) (by rw[ow h1.w6 (by simpa using YJ),List.map_set]; rfl) (aq (bS (.str "ok") _ rfl (bj (.inr ⟨hk,.inr ⟨rh,_,rfl,?_,f1.trans (k8.set (by simp))⟩⟩)))))))
 ·rw[aI,ed,ag,aI,e2,ag]
  simp only[aS,zB,zA,ag,e3]
  cases b
  ·exact sj g1 (k:=cn "branch") rfl (by with_unfolding_all rfl)
  ·exact sj g1 (k:=cn "straight") rfl (by with_unfolding_all rfl)
 ·have:=h1.Rk (W.points.set p (some !b))
  unfold ou
  rw[List.getD_eq_getElem?_getD,hb]
  exact this
end
end Sb
end
section
namespace Sb
open PySem L2
theorem Bd {ps:jj} {ss:List Sg}:∀(w:List gK) (f:Bool) (j:Int) (a:Option Nat),Chain ps ss f j a w->∀s∈w,s.1<ps.length
 | [],_,_,_,_,s,h=>by simp at h
 | (a',j',o)::w,f,j,a,c,s,h=>by
  obtain⟨_,_,_,h1,_,h2⟩:=c
  rcases List.mem_cons.mp h with rfl | h
  ·exact h1
  ·exact Bd w false o _ h2 s h
theorem IP {p:Pc} {a:Nat} {j o:Int} (hn:p.js.Nodup) (hj:j∈p.js) (ho:Iq p j o) (hp:nJ p=true):Ow p (a,j,o)=yQ p (a,j,o):=by
 cases p with
 | pl x y=>cases hp
 | pt t u b =>
  have h1:=ho.ne
  have h2:=ho.mem
  have h3:=ho.YF rfl
  simp only[Pc.js,List.nodup_cons,List.mem_cons,List.not_mem_nil,or_false,not_or,List.headD_cons] at hn hj h2 h3
  simp only[Ow,yQ,List.mem_cons,List.not_mem_nil,or_false]
  rw[← decide_not]
  refine decide_eq_decide.mpr ?_
  have n1:=hn.1.1
  have n2:=hn.1.2
  have n3:=hn.2.1
  constructor
  ·rintro(e | e) (e' | e')<;>rcases h3 with h3 | h3<;>omega
  ·intro hh
   rcases h3 with h3 | h3
   ·rcases h2 with h2 | h2 | h2
    ·omega
    ·exact .inr h2.symm
    ·exact absurd (.inr h2.symm) hh
   ·rcases hj with hj | hj | hj
    ·omega
    ·exact .inl hj.symm
    ·exact absurd (.inl hj.symm) hh
theorem xV {ps:jj} {ss:List Sg} (hn:∀p∈ps,p.js.Nodup):∀(w:List gK) (f:Bool) (j:Int) (a:Option Nat),Chain ps ss f j a w->(∀b,a=some b->j∈(Pc.at ps b).js)->∀s∈w,bZ ps s.1=true->qW ps s=tE ps s
 | [],_,_,_,_,_,s,h,_=>by simp at h
 | (a',j',o)::w,f,j,a,c,hj,s,h,hp=>by
  obtain⟨e1,e2,_,h1,h3,h2⟩:=c
  subst e2
  rcases List.mem_cons.mp h with rfl | h
  ·exact IP (hn _ (Cy h1)) (hj a' e1) h3 hp
  ·exact xV hn w false o _ h2 (fun b hb=>(xM hb).2.2) s h hp
structure cy (Y:nM):Prop where
 g:mB Y.ps Y.ss
 rs:Y.rs=bU Y.ps Y.ss
 wt:0≤Y.wait
theorem Ox {rs:List Rt} {r:Nat} (h:r<rs.length):(bb rs r,bN rs r)∈rs:=List.mem_of_getElem? (D3 h)
section
variable {Y:nM}
theorem cy.ok (G:cy Y) {r:Nat} (hr:r<Y.rs.length):DY Y.ps Y.ss (bb Y.rs r,bN Y.rs r):=Ir G.g (by rw[← G.rs]; exact Ox hr)
theorem cy.head (G:cy Y) {r:Nat} (hr:r<Y.rs.length):(dA Y.ss (bb Y.rs r)).2∈hV Y.rs r:=by
 have h:=G.ok hr
 have h1:=h.ne
 have h2:=h.chain
 unfold hV
 dsimp only at h1 h2
 cases e:bN Y.rs r with
 | nil=>exact absurd e h1
 | cons s w =>
  rw[e] at h2
  obtain⟨a',j',o⟩:=s
  obtain⟨h3,_⟩:=h2
  cases h3
  simp
theorem cy.bE (G:cy Y):iC Y.ps.length Y.rs:=by
 refine⟨fun r hr=>(G.ok hr).nd,fun r hr p hp=>?_,fun r hr r' YK e=>?_⟩
 ·obtain⟨s,hs,rfl⟩:=List.mem_map.mp hp
  exact Bd _ _ _ _ (G.ok hr).chain s hs
 ·exact⟨(dA Y.ss (bb Y.rs r)).2,G.head hr,by rw[e]; exact G.head YK⟩
theorem cy.sg (G:cy Y) {r:Nat} (hr:r<Y.rs.length):bb Y.rs r<Y.ss.length:=(G.ok hr).lt
theorem cy.p6 (G:cy Y) {r:Nat} (hr:r<Y.rs.length):∀s∈bN Y.rs r,bZ Y.ps s.1=true->qW Y.ps s=tE Y.ps s:=by
 refine xV G.g.once _ _ _ _ (G.ok hr).chain fun b hb=>?_
 cases hb
 exact(G.g.sg _ (Ie (G.sg hr))).2
theorem cy.len (G:cy Y):Y.rs.length≤2097152:=by
 rw[G.rs]
 unfold bU
 have:=k6 (List.range Y.ss.length) fun k _=>oV Y.ps Y.ss k
 have h2:=G.g.yH
 rw[List.length_range] at this
 omega
theorem cy.wl (G:cy Y) {r:Nat} (hr:r<Y.rs.length):(bN Y.rs r).length≤100:=by
 have h1:=(G.ok hr).len
 have h2:=G.g.pd
 dsimp only at h1
 omega
end
section
variable {M:aP} {ρ:dX}
noncomputable def Sc:PV->Prop
 | .int _=>True
 | .aN=>True
 | .bl _=>True
 | _=>False
theorem IQ {b c:Bool}:dR false (.bl b) (.bl c) M=.ok (.bl (b == c)) M:=by cases b<;>cases c<;>with_unfolding_all rfl
theorem Oy {x:PV} (h:Sc x):dR false x x M=.ok (.bl true) M:=by
 cases x with
 | int i=>simp
 | aN=>with_unfolding_all rfl
 | bl b=>rw[IQ]; cases b<;>rfl
 | _=>exact h.elim
theorem Oz {x:PV} {d:DE} (h:Sc x) (hd:d ρ M=.ok x M):∃k,Cn "bool" d ρ M=.ok (.bl k) M:=by
 unfold Cn
 rw[hd,ag]
 cases x with
 | int i=>exact⟨false,by with_unfolding_all rfl⟩
 | aN=>exact⟨false,by with_unfolding_all rfl⟩
 | bl b=>exact⟨true,by with_unfolding_all rfl⟩
 | _=>exact h.elim
theorem rm {x:PV} (h:Sc x):qD [x,x] M=.ok (.bl true) M:=by
 unfold qD
 refine cU (P:=fun q=>q=.ok (.bl true) M) ?_
 simp only[zC,zD,zE,zF,Nat.zero_add,Nat.reduceAdd,Nat.reduceSub,List.replicate,zG,zH,zI]
 obtain⟨k,e1⟩:=Oz (ρ:=[some x,some x]) (d:=ae 0) (M:=M) h rfl
 have e2:Cn "bool" (ae 1) [some x,some x] M=Cn "bool" (ae 0) [some x,some x] M:=rfl
 refine bS (.bl true) M ?_ (bj rfl)
 rw[II,aI,e1,ag,e2,e1,ag,IQ,ag]
 cases k<;>simp[Oy h]
theorem U7 (o:Option Nat):Sc (bJ o):=by cases o<;>trivial
end
end Sb
end
section
namespace Sb
open PySem L2
theorem IS {M:aP} {b:Bool}:dR true (i8 b) (i8 b) M=.ok (.bl false) M:=by cases b<;>with_unfolding_all rfl
section
variable {C:Cs} {Y:nM} {eY:List (Key×PV)} {M:aP} {B:Bx} {W:Wd} {fo:Nat->Nat} {j:Nat} {ρ:dX}
theorem jL {Ru O7 O8 Iz O9 OA Pa SO:D1} (hy:dB C Y eY M B fo) (h:gW Y M W j) (I:Inv Y.ps.length Y.rs W) (S:vI Y.ps.length Y.rs (bZ Y.ps) W B) (G:cy Y) (Gn:W.green.length≤2097152)
  (Pb:∀x,Sc x->Ru [x,x] M=.ok (.bl true) M) (U8:O7 [.obj 0] M=.ok (.int B.ticks) M) (U9:∀p:Nat,p<Y.ps.length->O8 [.obj 0,.int p] M=.ok (bJ (bA B.locks p)) M)
  (wM:∀p:Nat,p<Y.ps.length->Iz [.obj 7,.int p] M=.ok .aN M) (Va:∀p:Nat,p<Y.ps.length->O9 [.obj 0,.int p] M=.ok .aN M)
  (Ln:∀p:Nat,p<Y.ps.length->bZ Y.ps p=true->OA [.obj 0,.int p] M=.ok (i8 (B.lying.getD p true)) M)
  (JH:∀s:Nat,s<Y.ss.length->Pa [.obj 0,.int s] M=.ok (.bl (bA B.greens s).isSome) M) :
  ni C.yd Ru O7 O8 Iz O9 OA Pa SO [.obj 0,.obj 7] M=.ok (.bl true) M:=by
 have JF:=G.g.pd
 have UX:=G.g.yH
 unfold ni
 refine cU (P:=fun q=>q=.ok (.bl true) M) ?_
 simp only[zC,zD,zE,zF,Nat.zero_add,Nat.reduceAdd,Nat.reduceSub,List.replicate,zG,zH,zI]
 have e1:=h.ix (ρ:=[some (.obj 0),some (.obj 7),none,none,none,none]) (d:=ae 1) rfl D7
 have e2:=hy.met (ρ:=[some (.obj 0),some (.obj 7),none,none,none,none]) (g:=O7) (d:=ae 0) (ds:=[]) (xs:=[]) rfl Oh rfl
 refine aG (nu M ?_ (dU (aq ?_)))
 ·rw[nr,kl,bI,aB,e2,U8,ag,aB,e1,ag,bu,ag,ag,ag,S.ticks,Pb (.int W.now) trivial]
  rfl
 have e3:=h.ix (ρ:=[some (.obj 0),some (.obj 7),none,none,none,none]) (d:=ae 1) rfl k9
 have hi:tT [(ao cc [(ax aW (ae 1) (dC (.str "pieces")))])] [some (.obj 0),some (.obj 7),none,none,none,none] M=.ok ((List.range Y.ps.length).map fun(k:Nat)=>PV.int k,none) M:=tw (by
  rw[bI,aB,e3]
  simp[cc]) (by omega)
 generalize tT [(ao cc [(ax aW (ae 1) (dC (.str "pieces")))])]=di at hi ⊢
 refine aG (hU (fun(k:Nat)=>PV.int k) (fun pre ρ M'=>(∃y,ρ=[some (.obj 0),some (.obj 7),y,none,none,none])/\M'=M) (List.range Y.ps.length) none M hi trivial ⟨⟨none,rfl⟩,rfl⟩ ?_ ?_)
 ·rintro pre p post hx ρ M' ⟨⟨y,rfl⟩,rfl⟩
  obtain⟨hp,_⟩:=iB hx
  refine⟨_,rfl,?_⟩
  dsimp only[List.set]
  have e4:=h.ix (ρ:=[some (.obj 0),some (.obj 7),some (.int p),none,none,none]) (d:=ae 1) rfl uO
  have e5:=hy.met (ρ:=[some (.obj 0),some (.obj 7),some (.int p),none,none,none]) (g:=O8) (d:=ae 0) (ds:=[ae 2]) (xs:=[.int p]) rfl xT rfl
  have e6:=hy.met (ρ:=[some (.obj 0),some (.obj 7),some (.int p),none,none,none]) (g:=O9) (d:=ae 0) (ds:=[ae 2]) (xs:=[.int p]) rfl pW rfl
  have e7:=hy.met (ρ:=[some (.obj 0),some (.obj 7),some (.int p),none,none,none]) (g:=OA) (d:=ae 0) (ds:=[ae 2]) (xs:=[.int p]) rfl IK rfl
  have e8:=h.ix (ρ:=[some (.obj 0),some (.obj 7),some (.int p),none,none,none]) (d:=ae 1) rfl k9
  have e9:=h.ix (ρ:=[some (.obj 0),some (.obj 7),some (.int p),none,none,none]) (d:=ae 1) rfl vT
  have ev:ae 2 [some (.obj 0),some (.obj 7),some (.int p),none,none,none] M'=.ok (.int p) M':=rfl
  refine aG (nu M' ?_ (dU (aq (aG (nu M' ?_ (dU (aq (nu M' ?_ (dU (bK trivial ⟨⟨_,rfl⟩,rfl⟩))))))))))
  ·have hl:aW (.obj j) (.int p) M'=.ok (bJ (bA B.locks p)) M':=o4 h.wl (by rw[zJ,S.locks p hp]; rfl)
   rw[nr,kl,bI,aB,e5,U9 p hp,ag,aB,aI,e4,ag,ev,ag,hl,ag,bu,ag,ag,ag,Pb _ (U7 _)]
   rfl
  ·rw[nr,kl,bI,aB,e6,Va p hp,ag,aB,bI,aB,show ae 1 [some (.obj 0),some (.obj 7),some (.int p),none,none,none] M'=.ok (.obj 7) M' from rfl,ag,aB,ev,ag,bu,ag,ag,ag,wM p hp,ag,bu,ag,ag,ag,Pb .aN trivial]
   rfl
  ·rw[nq,cX,aI,aI,aI,e8,ag,ev,ag,ot hp,ag,dI,ag]
   cases Mp:bZ Y.ps p with
   | false =>
    unfold bZ at Mp
    cases C7:Pc.at Y.ps p with
    | pl a b=>simp[Pc.enc]
    | pt a b c=>rw[C7] at Mp; cases Mp
   | true =>
    have hl:p<B.lying.length:=by rw[S.Gm]; exact hp
    have h6:aW (.obj 6) (.int p) M'=.ok (i8 (B.lying.getD p true)) M':=o4 h.w6 (by
     rw[zJ,S.lies p hp Mp,List.getElem?_eq_getElem hl,List.getD_eq_getElem?_getD,List.getElem?_eq_getElem hl]; rfl)
    have YL:(aQ (ax (dR true) (lz C.yd "lies" OA (ae 0) [(ae 2)]) (ax aW (ax aW (ae 1) (dC (.str "points"))) (ae 2)))) [some (.obj 0),some (.obj 7),some (.int p),none,none,none] M'=.ok false M':=by
     rw[cX,aI,e7,Ln p hp Mp,ag,aI,e9,ag,ev,ag,h6,ag,IS]
     rfl
    unfold bZ at Mp
    cases C7:Pc.at Y.ps p with
    | pl a b=>rw[C7] at Mp; cases Mp
    | pt a b c=>simp[Pc.enc]; simpa using YL
 rintro ρ' M' ⟨⟨y,rfl⟩,rfl⟩
 have e4:=h.ix (ρ:=[some (.obj 0),some (.obj 7),y,none,none,none]) (d:=ae 1) rfl qV
 refine aq (bh (lX (W.green.map (bb Y.rs))) M' ?_ ?_)
 ·rw[cu (xs:=W.green) (w:=none) (M':=M') (fun(n:Nat)=>PV.int (n:Int)) (fun _=>true) (fun r=>PV.int (bb Y.rs r:Int)) (fun ρ=>∃y,ρ=[y,some (.obj 7)]) (eu e4) trivial ⟨none,rfl⟩ (fun r hr ρ hρ=>?_) (Nat.le_trans Gn (by decide))]
  ·rw[List.filter_eq_self.mpr (fun _ _=>rfl),jM (by rw[zK]; exact Nat.le_trans Gn (by decide))]
   unfold lX
   rw[List.map_map]
   rfl
  ·obtain⟨y,rfl⟩:=hρ
   have e5:=h.ix (ρ:=[some (.int r),some (.obj 7)]) (d:=ae 1) rfl ox
   refine⟨_,rfl,⟨_,rfl⟩,rfl,fun _=>?_⟩
   simp only[List.set_cons_zero]
   rw[aI,aI,e5]
   simp[A9 (I.Iz hr)]
 dsimp only[List.set]
 have e5:=h.ix (ρ:=[some (.obj 0),some (.obj 7),y,some (lX (W.green.map (bb Y.rs))),none,none]) (d:=ae 1) rfl o5
 have Ku:tT [(ao cc [(ax aW (ae 1) (dC (.str "signals")))])] [some (.obj 0),some (.obj 7),y,some (lX (W.green.map (bb Y.rs))),none,none] M'=.ok ((List.range Y.ss.length).map fun(k:Nat)=>PV.int k,none) M':=tw (by
  rw[bI,aB,e5]
  simp[cc]) (by omega)
 generalize tT [(ao cc [(ax aW (ae 1) (dC (.str "signals")))])]=Yw at Ku ⊢
 refine aG (hU (fun(k:Nat)=>PV.int k) (fun pre ρ M2=>(∃z,ρ=[some (.obj 0),some (.obj 7),y,some (lX (W.green.map (bb Y.rs))),z,none])/\M2=M') (List.range Y.ss.length) none M' Ku trivial ⟨⟨none,rfl⟩,rfl⟩ ?_ ?_)
 ·rintro pre s post hx ρ M2 ⟨⟨z,rfl⟩,rfl⟩
  obtain⟨hs,_⟩:=iB hx
  refine⟨_,rfl,?_⟩
  dsimp only[List.set]
  have e6:=hy.met (ρ:=[some (.obj 0),some (.obj 7),y,some (lX (W.green.map (bb Y.rs))),some (.int s),none]) (g:=Pa) (d:=ae 0) (ds:=[ae 4]) (xs:=[.int s]) rfl vR rfl
  have hb:decide (s∈W.green.map (bb Y.rs))=(bA B.greens s).isSome:=by
   cases e:bA B.greens s with
   | none =>
    refine decide_eq_false fun hm=>?_
    obtain⟨r,hr,rfl⟩:=List.mem_map.mp hm
    rw[(S.greens _ r).mpr ⟨hr,rfl⟩] at e
    cases e
   | some r =>
    obtain⟨h1,h2⟩:=(S.greens s r).mp e
    exact decide_eq_true (List.mem_map.mpr ⟨r,h1,h2⟩)
  refine nu M2 ?_ (dU (bK trivial ⟨⟨_,rfl⟩,rfl⟩))
  rw[nr,kl,bI,aB,e6,JH s hs,ag,aB,aI,show ae 4 [some (.obj 0),some (.obj 7),y,some (lX (W.green.map (bb Y.rs))),some (.int s),none] M2=.ok (.int s) M2 from rfl,ag,show ae 3 [some (.obj 0),some (.obj 7),y,some (lX (W.green.map (bb Y.rs))),some (.int s),none] M2=.ok (lX (W.green.map (bb Y.rs))) M2 from rfl,ag,D9,ag,bu,ag,ag,ag,if_neg Bool.false_ne_true,hb,Pb (.bl _) trivial]
  rfl
 rintro ρ' M2 ⟨⟨z,rfl⟩,rfl⟩
 have e6:=h.ix (ρ:=[some (.obj 0),some (.obj 7),y,some (lX (W.green.map (bb Y.rs))),z,none]) (d:=ae 1) rfl vU
 refine aq (aG ?_)
 rw[qU h.zV (keys_nil h.zV e6)]
 exact aq (bS (.bl true) M2 rfl (bj rfl))
end
end Sb
end
section
namespace Sb
open PySem L2
section
variable {C:Cs} {Y:nM} {eY:List (Key×PV)} {M:aP} {B:Bx} {W:Wd} {fo:Nat->Nat} {j:Nat} {ρ:dX}
noncomputable def wY (g0 g1 g2 g3 g4 g5 g6 g7:D1) (w:Nat) (i:Int) (M:aP):Res PV:=match w with
 | 0=>g0 [.obj 0,.int i] M
 | 1=>g1 [.obj 0,.int i] M
 | 2=>g2 [.obj 0,.int i] M
 | 3=>g3 [.obj 0] M
 | 4=>g4 [.obj 0,.int i] M
 | 5=>g5 [.obj 0,.int i] M
 | 6=>g6 [.obj 0,.int i] M
 | _=>g7 [.obj 0,.int i] M
noncomputable def lB (w:Nat) (i:Int):dX:=[some (.obj 0),some (.int w),some (.int i),some .aN,some .aN,none,none]
noncomputable def LA (yd:Addr) (jN og qE vA ee cC bt cq:D1):DS :=
  (bp (aQ (ax (dR false) (ae 1) (dC (.int 0))))
  (bx 4 (ao jN [(ae 0),(ae 2)]))
  (bp (aQ (ax (dR false) (ae 1) (dC (.int 1))))
  (bx 4 (ao og [(ae 0),(ae 2)]))
  (bp (aQ (ax (dR false) (ae 1) (dC (.int 2))))
  (bx 4 (ao qE [(ae 0),(ae 2)]))
  (bp (aQ (ax (dR false) (ae 1) (dC (.int 3))))
  (bx 4 (ao vA [(ae 0)]))
  (bp (aQ (ax (dR false) (ae 1) (dC (.int 4))))
  (bx 4 (lz yd "lies" ee (ae 0) [(ae 2)]))
  (bp (aQ (ax (dR false) (ae 1) (dC (.int 5))))
  (bx 4 (lz yd "lock_of" cC (ae 0) [(ae 2)]))
  (bp (aQ (ax (dR false) (ae 1) (dC (.int 6))))
  (bx 4 (lz yd "train_in" bt (ae 0) [(ae 2)]))
  (bx 4 (lz yd "is_green" cq (ae 0) [(ae 2)])))))))))
theorem pX {w k:Nat} {i:Int} {s1 s2:DS}:bp (aQ (ax (dR false) (ae 1) (dC (.int k)))) s1 s2 (lB w i) M=if w=k then s1 (lB w i) M else s2 (lB w i) M:=by
 have e:(aQ (ax (dR false) (ae 1) (dC (.int k)))) (lB w i) M=.ok (decide (w=k)) M:=by
  rw[cX,aI,show ae 1 (lB w i) M=.ok (.int w) M from rfl,ag,dI,ag,kY]
  have:decide ((w:Int)=(k:Int))=decide (w=k):=decide_eq_decide.mpr (by omega)
  simp only[Bool.false_eq_true,if_false,ag,this]
 unfold bp
 rw[e,Res.el]
 by_cases h:w=k<;>simp[h]
theorem LB {g:D1} {w:Nat} {i:Int} {ds:List DE} {xs:List PV} (h:eR ds (lB w i) M=.ok xs M):bx 4 (ao g ds) (lB w i) M=(g xs M).out (lB w i) fun x M1=>.nx ((lB w i).set 4 (some x)) M1:=by
 unfold bx
 rw[bI,h,ag]
theorem IT {g0 g1 g2 g3 g4 g5 g6 g7:D1} {w:Nat} {i:Int} (hy:dB C Y eY M B fo) (hw:w<8) :
  LA C.yd g0 g1 g2 g3 g4 g5 g6 g7 (lB w i) M=(wY g0 g1 g2 g3 g4 g5 g6 g7 w i M).out (lB w i) fun x M1=>.nx ((lB w i).set 4 (some x)) M1:=by
 have hm:∀{m:Str} {g:D1},(tD Y B.ticks).lookup m=none->bx 4 (lz C.yd m g (ae 0) [(ae 2)]) (lB w i) M=(g [.obj 0,.int i] M).out (lB w i) fun x M1=>.nx ((lB w i).set 4 (some x)) M1:=fun {m g} hf=>by
  unfold bx
  rw[hy.met (ρ:=lB w i) (g:=g) (d:=ae 0) (ds:=[ae 2]) (xs:=[.int i]) rfl hf rfl]
 have h2:eR [(ae 0),(ae 2)] (lB w i) M=.ok [.obj 0,.int i] M:=rfl
 have h1:eR [(ae 0)] (lB w i) M=.ok [.obj 0] M:=rfl
 unfold LA
 rw[show(PV.int 0)=.int ((0:Nat):Int) from rfl,pX,show(PV.int 1)=.int ((1:Nat):Int) from rfl,pX,show(PV.int 2)=.int ((2:Nat):Int) from rfl,pX,show(PV.int 3)=.int ((3:Nat):Int) from rfl,pX,show(PV.int 4)=.int ((4:Nat):Int) from rfl,pX,show(PV.int 5)=.int ((5:Nat):Int) from rfl,pX,show(PV.int 6)=.int ((6:Nat):Int) from rfl,pX,
  LB h2,LB h2,LB h2,LB h1,hm IK,hm xT,hm pW,hm vR]
 unfold wY
 have:w=0\/w=1\/w=2\/w=3\/w=4\/w=5\/w=6\/w=7:=by omega
 rcases this with rfl | rfl | rfl | rfl | rfl | rfl | rfl | rfl<;>rfl
noncomputable def LC (cB nt he cR:Addr):DS :=
  (aE (bp (aQ (ax (sV false) (ae 3) (dC .aN)))
  (bo (Gi (Ar (aQ (ax yt (ae 1) (dC (.int 3)))) (aQ (ax (sV false) (ae 4) (dC .aN)))) (dC (.str "ok")) (dC (.str "wrong"))))
  fc)
  (aE (bx 6 (fM false [(qA [(cB,false),(nt,true),(he,false),(cR,false)] (ae 3)),(qA [(cB,false),(nt,false),(he,true),(cR,false)] (ae 3)),(qA [(cB,true),(nt,false),(he,false),(cR,true)] (ae 3))]))
  (aE (bp (Ar (aQ (ax (dR true) (iZ countP (ae 6) [(dC (.bl true))]) (dC (.int 1)))) (mT (gZ (qA [(cB,true),(nt,true),(he,true),(cR,true)] (ae 3)))))
  (bo (dC (.str "wrong")))
  fc)
  (bo (ax aW (fM false [(dC (.str "none")),(dC (.str "held")),(dC (.str "wrong"))]) (iZ rQ (ae 6) [(dC (.bl true))]))))))
structure Rv (a b c d:Addr):Prop where
 ab:a≠b
 ac:a≠c
 ad:a≠d
 bc:b≠c
 bd:b≠d
 cd:c≠d
section
variable {cB cR:Addr}
theorem Ea {nO:List (Addr×Bool)} {n:Nat} {c:Addr} {k:Bool} {d:DE} (hd:d ρ M=.ok (.obj n) M) (hn:M[n]? = some (.exc c)) (ht:nO.lookup c=some k):qA nO d ρ M=.ok (.bl k) M:=by
 unfold qA
 rw[hd,ag]
 dsimp only
 rw[hn]
 dsimp only
 rw[ht]
theorem tH {a b c d:Addr} {x y z u:Bool} (h:Rv a b c d):([(a,x),(b,y),(c,z),(d,u)]:List (Addr×Bool)).lookup b=some y/\([(a,x),(b,y),(c,z),(d,u)]:List (Addr×Bool)).lookup c=some z:=by
 have h1:(b == a)=false:=beq_eq_false_iff_ne.mpr h.ab.symm
 have h2:(c == a)=false:=beq_eq_false_iff_ne.mpr h.ac.symm
 have h3:(c == b)=false:=beq_eq_false_iff_ne.mpr h.bc.symm
 simp only[List.lookup,h1,h2,h3,BEq.rfl,and_self]
theorem Vb {a b c:Bool}:countP (.lst [.bl a,.bl b,.bl c]) [.bl true] M=.ok (.int (([a,b,c].filter id).length:Nat)) M:=by
 cases a<;>cases b<;>cases c<;>with_unfolding_all rfl
theorem Vc {a b c:Bool} (k:Nat) (h:[a,b,c].findIdx? id=some k):rQ (.lst [.bl a,.bl b,.bl c]) [.bl true] M=.ok (.int k) M:=by
 cases a<;>cases b<;>cases c<;>cases h<;>with_unfolding_all rfl
noncomputable def sq (res:Res PV) (w:Nat) (nt he:Addr):Res PV:=match res with
 | .ok x M1=>.ok (if decide (3<w) || j4 x then .str "ok" else .str "wrong") M1
 | .exc c M1=>if c=nt then .ok (.str "none") (M1++[.exc c]) else if c=he then .ok (.str "held") (M1++[.exc c]) else .bad
 | .bad=>.bad
theorem kt {g0 g1 g2 g3 g4 g5 g6 g7:D1} {w:Nat} {i:Int} (hd:Rv cB C.nt C.he cR) (hy:dB C Y eY M B fo) (hw:w<8)
  (hk:(∃x M1,wY g0 g1 g2 g3 g4 g5 g6 g7 w i M=.ok x M1)\/(∃M1,wY g0 g1 g2 g3 g4 g5 g6 g7 w i M=.exc C.nt M1)\/(∃M1,wY g0 g1 g2 g3 g4 g5 g6 g7 w i M=.exc C.he M1)) :
  fe cB C.he C.nt cR C.yd g0 g1 g2 g3 g4 g5 g6 g7 [.obj 0,.int w,.int i] M=sq (wY g0 g1 g2 g3 g4 g5 g6 g7 w i M) w C.nt C.he:=by
 unfold fe
 have hb:=IT (g0:=g0) (g1:=g1) (g2:=g2) (g3:=g3) (g4:=g4) (g5:=g5) (g6:=g6) (g7:=g7) (i:=i) hy hw
 generalize wY g0 g1 g2 g3 g4 g5 g6 g7 w i M=res at hb hk ⊢
 refine cU (P:=fun q=>q=sq res w C.nt C.he) ?_
 simp only[zC,zD,zE,zF,Nat.zero_add,Nat.reduceAdd,Nat.reduceSub,List.replicate,zG,zH,zI]
 refine bh .aN M rfl (bh .aN M rfl ?_)
 dsimp only[List.set]
 refine aG ?_
 have exc:∀(c:Addr) (M1:aP) (k0 k1 k2:Bool) (k:Nat) (r:Str),res=.exc c M1->[cB,C.nt,C.he,cR].contains c=true->([(cB,false),(C.nt,true),(C.he,false),(cR,false)]:List (Addr×Bool)).lookup c=some k0->([(cB,false),(C.nt,false),(C.he,true),(cR,false)]:List (Addr×Bool)).lookup c=some k1->([(cB,true),(C.nt,false),(C.he,false),(cR,true)]:List (Addr×Bool)).lookup c=some k2 →
   ([(cB,true),(C.nt,true),(C.he,true),(cR,true)]:List (Addr×Bool)).lookup c=some true->([k0,k1,k2].filter id).length=1->[k0,k1,k2].findIdx? id=some k->([.str "none",.str "held",.str "wrong"]:List PV)[k]? = some (.str r)->sq res w C.nt C.he=.ok (.str r) (M1++[.exc c]) →
   yF (L2.Fin fun q=>q=sq res w C.nt C.he) (LC cB C.nt C.he cR) (Cq [cB,C.nt,C.he,cR] 3 5 (LA C.yd g0 g1 g2 g3 g4 g5 g6 g7) (lB w i) M):=by
  intro c M1 k0 k1 k2 k r e hc h0 h1 h2 h3 hf hi hr ht
  unfold Cq
  rw[hb,e,Res.KB]
  dsimp only
  rw[if_pos hc]
  refine aq ?_
  have hn:(M1++[MO.exc c])[M1.length]? = some (.exc c):=by simp
  generalize M1++[MO.exc c]=M2 at hn ht
  unfold lB
  dsimp only[List.set]
  unfold LC
  refine aG (nu M2 (by simp) (dU (aq (bh (.lst [.bl k0,.bl k1,.bl k2]) M2 ?_ ?_))))
  ·rw[lJ,aB,Ea rfl hn h0,ag,aB,Ea rfl hn h1,ag,aB,Ea rfl hn h2,ag,bu,ag,ag,ag,ag,bT (by simp)]
  dsimp only[List.set]
  refine aG (nu M2 ?_ (dU (aq (bS (.str r) M2 ?_ (bj (e ▸ ht.symm))))))
  ·have e3:=Ea (ρ:=[some (.obj 0),some (.int w),some (.int i),some (.obj M1.length),some .aN,none,some (.lst [.bl k0,.bl k1,.bl k2])]) (d:=ae 3) rfl hn h3
   have e4:(aQ (ax (dR true) (iZ countP (ae 6) [(dC (.bl true))]) (dC (.int 1)))) [some (.obj 0),some (.int w),some (.int i),some (.obj M1.length),some .aN,none,some (.lst [.bl k0,.bl k1,.bl k2])] M2=.ok false M2:=by
    simp[Vb,hf]
   rw[Cu,e4,ag,if_neg Bool.false_ne_true,nr,kl,e3]
   rfl
  ·simp[Vc k hi]
   rw[eB hr]
 rcases hk with⟨x,M1,e⟩ | ⟨M1,e⟩ | ⟨M1,e⟩
 ·show yF (L2.Fin fun q=>q=sq res w C.nt C.he) (LC cB C.nt C.he cR) (Cq [cB,C.nt,C.he,cR] 3 5 (LA C.yd g0 g1 g2 g3 g4 g5 g6 g7) (lB w i) M)
  unfold Cq
  rw[hb,e,Res.el]
  dsimp only
  refine aq ?_
  unfold lB
  dsimp only[List.set]
  unfold LC
  refine aG (K9 M1 (by simp) (bS (if decide (3<w) || j4 x then .str "ok" else .str "wrong") M1 ?_ (jI (bj rfl))))
  have h3:decide ((3:Int)<(w:Int))=decide (3<w):=decide_eq_decide.mpr (by omega)
  have hx:sV false x .aN M1=.ok (.bl (j4 x)) M1:=rfl
  simp[h3,hx]
  by_cases hh:3<w
  ·simp[hh]
  ·simp[hh]
   cases j4 x<;>rfl
 ·exact exc C.nt M1 true false false 0 "none" e (by simp) (tH hd).1 (tH hd).1 (tH hd).1 (tH hd).1 rfl rfl rfl (by rw[e]; simp[sq])
 ·exact exc C.he M1 false true false 1 "held" e (by simp) (tH hd).2 (tH hd).2 (tH hd).2 (tH hd).2 rfl rfl rfl (by rw[e]; simp[sq,hd.bc.symm])
end
end
end Sb
end
section
namespace Sb
open PySem L2
section
variable {Y:nM} {M:aP} {W:Wd} {j:Nat} {ρ:dX}
noncomputable def dg (Y:nM) (w:Nat):Nat:=if w=7 then Y.ss.length else if w=2\/w=4\/w=5\/w=6 then Y.ps.length else Y.rs.length
noncomputable def km (Y:nM) (g0 g1 g2 g3:D1) (w:Nat) (i:Int) (M:aP):Res PV:=if w≠3/\aZ i (dg Y w)=false then .ok (.str "none") M else match w with
 | 0=>g0 [.obj 7,.int i] M
 | 1=>g1 [.obj 7,.int i] M
 | 2=>g2 [.obj 7,.int i] M
 | 3=>g3 [.obj 7] M
 | 4=>.ok (.str (if bZ Y.ps i.toNat then "ok" else "none")) M
 | _=>.ok (.str "ok") M
theorem in4 {i:Int}:lR false (.int i) (.tup [.int 2,.int 4,.int 5,.int 6]) M=.ok (.bl (decide (i∈[2,4,5,6]))) M:=by
 have:=vD (neg:=false) (i:=i) (ns:=[2,4,5,6]) (M:=M)
 simpa using this
theorem Fy {i:Int} {n:Nat} {x:DE} (hx:x ρ M=.ok (.int i) M) {y:DE} (hy:y ρ M=.ok (.int n) M):aQ (rK OZ Aq (dC (.int 0)) x y) ρ M=.ok (aZ i n) M:=by
 unfold aQ rK aZ
 rw[dI,ag,hx,ag,A5,ag]
 by_cases h:0≤i
 ·simp only[h,decide_true]
  rw[hy,ag,IJ]
  rfl
 ·simp only[h,decide_false]
  rfl
noncomputable def Rx (qF kU my oh:D1):DS :=
  (aE (bp (mn (aQ (ax (dR true) (ae 1) (dC (.int 3)))) (mT (aQ (rK OZ Aq (dC (.int 0)) (ae 2) (ae 3)))))
  (bo (dC (.str "none")))
  fc)
  (aE (bp (aQ (ax (dR false) (ae 1) (dC (.int 0))))
  (bo (ao qF [(ae 0),(ae 2)]))
  fc)
  (aE (bp (aQ (ax (dR false) (ae 1) (dC (.int 1))))
  (bo (ao kU [(ae 0),(ae 2)]))
  fc)
  (aE (bp (aQ (ax (dR false) (ae 1) (dC (.int 2))))
  (bo (ao my [(ae 0),(ae 2)]))
  fc)
  (aE (bp (aQ (ax (dR false) (ae 1) (dC (.int 3))))
  (bo (ao oh [(ae 0)]))
  fc)
  (bo (Gi (mn (aQ (ax (dR false) (ae 1) (dC (.int 4)))) (aQ (ax (dR false) (ax aW (ax aW (ax aW (ae 0) (dC (.str "pieces"))) (ae 2)) (dC (.int 0))) (dC (.str "plain"))))) (dC (.str "none")) (dC (.str "ok")))))))))
theorem uP {P:Res PV->Prop} {d:DE} {s2:DS} {r:Res PV} (h:d ρ M=r) (q:P r):yF (L2.Fin P) s2 (bo d ρ M):=by
 unfold bo
 rw[h]
 cases r<;>exact q
theorem IU {g0 g1 g2 g3:D1} {w m:Nat} {i:Int} (h:gW Y M W j) (hw:w<8) (hm:m=dg Y w):L2.Fin (fun q=>q=km Y g0 g1 g2 g3 w i M) (Rx g0 g1 g2 g3 [some (.obj 7),some (.int w),some (.int i),some (.int m)] M):=by
 subst hm
 have Fz:∀(neg:Bool) (k:Nat),(aQ (ax (dR neg) (ae 1) (dC (.int k)))) [some (.obj 7),some (.int w),some (.int i),some (.int (dg Y w))] M=.ok (if neg then !decide (w=k) else decide (w=k)) M:=fun neg k=>by
  have e:decide ((w:Int)=(k:Int))=decide (w=k):=decide_eq_decide.mpr (by omega)
  simp[e]
 have hc:=Fy (ρ:=[some (.obj 7),some (.int w),some (.int i),some (.int (dg Y w))]) (M:=M) (x:=ae 2) (y:=ae 3) (i:=i) (n:=dg Y w) rfl rfl
 unfold Rx km
 refine aG (hJ (!decide (w=3) && !aZ i (dg Y w)) M ?_ (fun hk=>?_) (fun hk=>?_))
 ·have e:=Fz true 3
  rw[nq,show(PV.int 3)=.int ((3:Nat):Int) from rfl,e,ag,nr,hc,ag]
  by_cases h3:w=3<;>simp[h3]
 ·have hk:¬w=3/\aZ i (dg Y w)=false:=by simpa using hk
  refine bS (.str "none") M rfl (jI (bj ?_))
  rw[if_pos hk]
 have hk:¬(w≠3/\aZ i (dg Y w)=false):=by simpa using hk
 rw[if_neg hk]
 have e0:=Fz false 0
 have e1:=Fz false 1
 have e2:=Fz false 2
 have e3:=Fz false 3
 have e4:=Fz false 4
 have a2:∀g:D1,ao g [(ae 0),(ae 2)] [some (.obj 7),some (.int w),some (.int i),some (.int (dg Y w))] M=g [.obj 7,.int i] M:=fun g=>rfl
 have a1:∀g:D1,ao g [(ae 0)] [some (.obj 7),some (.int w),some (.int i),some (.int (dg Y w))] M=g [.obj 7] M:=fun g=>rfl
 refine dU (aq (aG (hJ _ M e0 (fun h0=>?_) (fun h0=>?_))))
 ·have h0:w=0:=by simpa using h0
  subst h0
  exact uP (a2 g0) rfl
 refine dU (aq (aG (hJ _ M e1 (fun h1=>?_) (fun h1=>?_))))
 ·have h1:w=1:=by simpa using h1
  subst h1
  exact uP (a2 g1) rfl
 refine dU (aq (aG (hJ _ M e2 (fun h2=>?_) (fun h2=>?_))))
 ·have h2:w=2:=by simpa using h2
  subst h2
  exact uP (a2 g2) rfl
 refine dU (aq (aG (hJ _ M e3 (fun h3=>?_) (fun h3=>?_))))
 ·have h3:w=3:=by simpa using h3
  subst h3
  exact uP (a1 g3) rfl
 have h0:w≠0:=by simpa using h0
 have h1:w≠1:=by simpa using h1
 have h2:w≠2:=by simpa using h2
 have h3:w≠3:=by simpa using h3
 by_cases h4:w=4
 ·subst h4
  have Qh:aZ i Y.ps.length=true:=by
   have rh:¬aZ i (dg Y 4)=false:=fun e=>hk ⟨by decide,e⟩
   have:dg Y 4=Y.ps.length:=rfl
   rw[this] at rh
   simpa using rh
  obtain⟨p,rfl,hp⟩:=gM Qh
  refine dU (aq (bS (.str (if bZ Y.ps p then "ok" else "none")) M ?_ (bj rfl)))
  have e5:=h.ix (ρ:=[some (.obj 7),some (.int ((4:Nat):Int)),some (.int p),some (.int (dg Y 4))]) (d:=ae 0) rfl k9
  have e6:(aQ (ax (dR false) (ax aW (ax aW (ax aW (ae 0) (dC (.str "pieces"))) (ae 2)) (dC (.int 0))) (dC (.str "plain")))) [some (.obj 7),some (.int ((4:Nat):Int)),some (.int p),some (.int (dg Y 4))] M=.ok (!bZ Y.ps p) M:=by
   rw[cX,aI,aI,aI,e5,ag]
   simp only[aS,zB,zA,ag,ot hp,dI]
   unfold bZ
   cases C7:Pc.at Y.ps p<;>simp[Pc.enc,nJ]
  rw[yD,nq,show(PV.int 4)=.int ((4:Nat):Int) from rfl,e4,ag]
  simp only[decide_true,if_true,Bool.false_eq_true,if_false]
  rw[e6,ag]
  cases bZ Y.ps p<;>rfl
 ·refine dU (aq (bS (.str "ok") M ?_ (bj ?_)))
  ·rw[yD,nq,show(PV.int 4)=.int ((4:Nat):Int) from rfl,e4,ag]
   simp[h4]
  ·have:w=5\/w=6\/w=7:=by omega
   rcases this with rfl | rfl | rfl<;>rfl
theorem oJ {g0 g1 g2 g3:D1} {w:Nat} {i:Int} (h:gW Y M W j) (hw:w<8):gJ g0 g1 g2 g3 [.obj 7,.int w,.int i] M=km Y g0 g1 g2 g3 w i M:=by
 unfold gJ
 refine cU (P:=fun q=>q=km Y g0 g1 g2 g3 w i M) ?_
 simp only[zC,zD,zE,zF,Nat.zero_add,Nat.reduceAdd,Nat.reduceSub,List.replicate,zG,zH,zI]
 have OB:∀{x:Str} {xs:List PV} {y:Option PV},iK (wKs Y W.green W.now j) (cn x)=some (.lst xs)->ao cc [(ax aW (ae 0) (dC (.str x)))] [some (.obj 7),some (.int w),some (.int i),y] M=.ok (.int xs.length) M:=fun {x xs y} hv=>by
  have e:=h.ix (ρ:=[some (.obj 7),some (.int w),some (.int i),y]) (d:=ae 0) rfl hv
  rw[bI,aB,e]
  simp[cc]
 have l1:=fun {y:Option PV}=>OB (y:=y) ox
 have l2:=fun {y:Option PV}=>OB (y:=y) k9
 have l3:=fun {y:Option PV}=>OB (y:=y) o5
 rw[zK] at l1 l2 l3
 refine bh (.int Y.rs.length) M l1 ?_
 dsimp only[List.set]
 have t1:∀m:Int,aQ (ax (lR false) (ae 1) (pK [(dC (.int 2)),(dC (.int 4)),(dC (.int 5)),(dC (.int 6))])) [some (.obj 7),some (.int w),some (.int i),some (.int m)] M=.ok (decide ((w:Int)∈[2,4,5,6])) M:=fun m=>by
  simp[in4]
 have t2:∀m:Int,aQ (ax (dR false) (ae 1) (dC (.int 7))) [some (.obj 7),some (.int w),some (.int i),some (.int m)] M=.ok (decide (w=7)) M:=fun m=>by
  have e:decide ((w:Int)=7)=decide (w=7):=decide_eq_decide.mpr (by omega)
  simp[e]
 refine aG (hJ (decide ((w:Int)∈[2,4,5,6])) M (t1 _) (fun hk=>tq (.int Y.ps.length) M l2 (aq ?_)) (fun hk=>dU (aq ?_)))
 all_goals
  try dsimp only[List.set]
  simp only[decide_eq_true_eq,decide_eq_false_iff_not,List.mem_cons,List.not_mem_nil,or_false] at hk
  refine aG (hJ (decide (w=7)) M (t2 _) (fun h7=>tq (.int Y.ss.length) M l3 (aq ?_)) (fun h7=>dU (aq ?_)))
  all_goals
   simp only[decide_eq_true_eq,decide_eq_false_iff_not] at h7
   refine IU h hw ?_
   unfold dg
 ·omega
 ·rw[if_neg h7,if_pos (by omega)]
 ·rw[if_pos h7]
 ·rw[if_neg h7,if_neg (by omega)]
end
end Sb
end
section
namespace Sb
open PySem L2
structure Sd (C:Cs) (Y:nM) (M:aP) (B:Bx) (W:Wd) (fo:Nat->Nat) (j:Nat):Prop where
 y:dB C Y [] M B fo
 w:gW Y M W j
 I:Inv Y.ps.length Y.rs W
 S:vI Y.ps.length Y.rs (bZ Y.ps) W B
 D:Due W
 sep:∀q∈B.falls,fo q.1≠j/\10<fo q.1
noncomputable def tV (C:Cs) (Y:nM) (M:aP):Prop:=∃B W fo j,Sd C Y M B W fo j
section
variable {C:Cs} {Y:nM} {M:aP} {B:Bx} {W:Wd} {fo:Nat->Nat} {j:Nat}
theorem Sd.push (s:Sd C Y M B W fo j) (o:MO):Sd C Y (M++[o]) B W fo j:=⟨s.y.push o,s.w.push o,s.I,s.S,s.D,s.sep⟩
theorem Be {M':aP} (h:dB C Y [] M B fo) (f:k8 j M M') (hj:7<j) (sep:∀q∈B.falls,fo q.1≠j/\10<fo q.1):dB C Y [] M' B fo:=by
 have h5:=cP h.y5
 refine h.keep (fun i hi=>f.out i (by omega) (by omega) (by omega) (by omega) (by omega) (by omega)) fun q hq=>?_
 have h1:=sep q hq
 exact f.out _ (by omega) (by omega) (by omega) (by omega) h1.1 (cP (h.yf q hq).2)
theorem xW {M':aP} (h:gW Y M W j) (f:jJ M M'):gW Y M' W j:=h.keep f.out
theorem Sd.FA (s:Sd C Y M B W fo j) (G:cy Y):W.green.length≤2097152:=Nat.le_trans (gO s.I.DZ fun _ h=>s.I.Iz h) G.len
theorem Sd.LD (s:Sd C Y M B W fo j) (G:cy Y):W.falls.length≤2097152:=by
 have:=gO s.I.Iy fun x h=>(s.I.own x (.inr h)).1
 rw[zK] at this
 exact Nat.le_trans this G.len
theorem Sd.Ry (s:Sd C Y M B W fo j) (G:cy Y):∀x∈B.greens.map (·.1),x<Y.ss.length:=fun x hx=>by
 obtain⟨r,hr⟩:=Option.isSome_iff_exists.mp ((mem_keys _ _).mp hx)
 obtain⟨h1,h2⟩:=(s.S.greens x r).mp hr
 rw[← h2]
 exact G.sg (s.I.Iz h1)
theorem Sd.IV (s:Sd C Y M B W fo j) {p:Nat} (hp:p<Y.ps.length):W.locks.getD p none=bA B.locks p:=by
 rw[List.getD_eq_getElem?_getD,s.S.locks p hp]; rfl
theorem Sd.held (s:Sd C Y M B W fo j) (G:cy Y) {r:Nat} (hr:r<Y.rs.length):heldW W (bN Y.rs r)=mE B (fun _=>false) (bN Y.rs r):=by
 unfold heldW mE
 have:∀w:List gK,(∀x∈w,x.1<Y.ps.length)->(w.any fun x=>(W.locks.getD x.1 none).isSome)=w.any fun x=>(bA B.locks x.1).isSome || false:=fun w hw=>by
  induction w with
  | nil=>rfl
  | cons x w ih=>rw[List.any_cons,List.any_cons,ih (fun y hy=>hw y (by simp[hy])),s.IV (hw x (by simp)),Bool.or_false]
 exact this _ fun x hx=>G.bE.lt r hr x.1 (List.mem_map.mpr ⟨x,hx,rfl⟩)
theorem Sd.free (s:Sd C Y M B W fo j) (G:cy Y) {r:Nat} (hr:r<Y.rs.length) (h:mE B (fun _=>false) (bN Y.rs r)=false):∀p∈hV Y.rs r,W.locks[p]? = some none:=by
 intro p hp
 have C7:=G.bE.lt r hr p hp
 obtain⟨x,hx,rfl⟩:=List.mem_map.mp hp
 rw[s.S.locks x.1 C7]
 unfold mE at h
 rw[List.any_eq_false] at h
 have:=h x hx
 cases e:bA B.locks x.1 with
 | none=>rfl
 | some _=>rw[e] at this; simp at this
variable (C)
noncomputable def S0 (g:D1):Prop:=∀Y M B W fo j (i:Int), cy Y->Sd C Y M B W fo j->Sm i->(aZ i Y.rs.length=false/\g [.obj 0, .int i] M=.exc C.nt M)\/∃r:Nat, i=r/\r<Y.rs.length ∧
      ((mE B (fun _=>false) (bN Y.rs r)=true/\g [.obj 0, .int i] M=.exc C.he M) ∨
       (mE B (fun _=>false) (bN Y.rs r)=false/\∃M', g [.obj 0, .int i] M=.ok .aN M'/\dB C Y [] M' (setB Y.rs (tE Y.ps) B r) fo/\jJ M M'))
noncomputable def S1 (g:D1):Prop:=∀Y M B W fo j (i:Int), cy Y->Sd C Y M B W fo j->Sm i->(aZ i Y.rs.length=false/\g [.obj 0, .int i] M=.exc C.nt M)\/∃r:Nat, i=r/\r<Y.rs.length ∧
      ((r∉W.green/\g [.obj 0, .int i] M=.exc C.nt M) ∨
       (r∈W.green/\(((decide (0<Y.wait) && fg Y (bb Y.rs r))=true/\∃M', g [.obj 0, .int i] M=.ok .aN M'/\dB C Y [] M' (A3 Y.rs B r (B.ticks+Y.wait)) (Bc fo r M.length)/\jJ M M')
          \/ (decide (0<Y.wait) && fg Y (bb Y.rs r))=false/\∃M', g [.obj 0, .int i] M=.ok .aN M'/\dB C Y [] M' (qO Y.rs B r) fo/\jJ M M')))
noncomputable def S2 (g:D1):Prop:=∀Y M B W fo j (i:Int), cy Y->Sd C Y M B W fo j->Sm i->(i9 i Y.ps=false/\g [.obj 0, .int i] M=.exc C.nt M)\/∃p:Nat, i=p/\p<Y.ps.length/\bZ Y.ps p=true ∧
      (((bA B.locks p).isSome=true/\g [.obj 0, .int i] M=.exc C.he M) ∨
       ((bA B.locks p).isSome=false/\∃M', g [.obj 0, .int i] M=.ok .aN M'/\dB C Y [] M' (vO B p) fo/\jJ M M'))
noncomputable def S3 (g:D1):Prop:=∀Y M B W fo j,cy Y->Sd C Y M B W fo j->∃M',g [.obj 0] M=.ok .aN M'/\dB C Y [] M' (vN Y.rs B) fo/\jJ M M'
noncomputable def S4 (g:D1):Prop:=∀Y M B W fo j (i:Int),cy Y->Sd C Y M B W fo j->Sm i->g [.obj 0,.int i] M=if i9 i Y.ps then .ok (i8 (B.lying.getD i.toNat true)) M else .exc C.nt M
noncomputable def S5 (g:D1):Prop:=∀Y M B W fo j (i:Int),cy Y->Sd C Y M B W fo j->Sm i->g [.obj 0,.int i] M=if aZ i Y.ps.length then .ok (bJ (bA B.locks i.toNat)) M else .exc C.nt M
noncomputable def S6 (g:D1):Prop:=∀Y M B W fo j (i:Int),cy Y->Sd C Y M B W fo j->Sm i->g [.obj 0,.int i] M=if aZ i Y.ps.length then .ok .aN M else .exc C.nt M
noncomputable def S7 (g:D1):Prop:=∀Y M B W fo j (i:Int),cy Y->Sd C Y M B W fo j->Sm i->g [.obj 0,.int i] M=if aZ i Y.ss.length then .ok (.bl (bA B.greens i.toNat).isSome) M else .exc C.nt M
noncomputable def T0 (g:D1):Prop:=∀Y M W j (r:Nat),cy Y->gW Y M W j->W.locks.length=Y.ps.length->W.points.length=Y.ps.length->W.green.length≤2097152->r<Y.rs.length →
  (heldW W (bN Y.rs r)=true/\g [.obj 7,.int r] M=.ok (.str "held") M) ∨
  (heldW W (bN Y.rs r)=false/\∃M',g [.obj 7,.int r] M=.ok (.str "ok") M'/\gW Y M' (IA Y.rs (bZ Y.ps) (qW Y.ps) W r) j/\k8 j M M')
noncomputable def T1 (g:D1):Prop:=∀Y M W j (r:Nat),cy Y->gW Y M W j->W.locks.length=Y.ps.length->W.green.length≤2097152->W.falls.length≤2097152->r<Y.rs.length →
  (r∉W.green/\g [.obj 7,.int r] M=.ok (.str "none") M) ∨
  (r∈W.green/\(((decide (0<Y.wait) && fg Y (bb Y.rs r))=true/\∃M',g [.obj 7,.int r] M=.ok (.str "ok") M'/\gW Y M' (xP W r (W.now+Y.wait)) j/\k8 j M M') ∨
   ((decide (0<Y.wait) && fg Y (bb Y.rs r))=false/\∃M',g [.obj 7,.int r] M=.ok (.str "ok") M'/\gW Y M' (oY Y.rs W r) M.length/\k8 j M M')))
noncomputable def T2 (g:D1):Prop:=∀Y M W j (p:Nat),cy Y->gW Y M W j->W.locks.length=Y.ps.length->p<Y.ps.length->(bZ Y.ps p=true->∃b,W.points[p]? = some (some b)) →
  (bZ Y.ps p=false/\g [.obj 7,.int p] M=.ok (.str "none") M) ∨
  (bZ Y.ps p=true/\(((W.locks.getD p none).isSome=true/\g [.obj 7,.int p] M=.ok (.str "held") M) ∨
   ((W.locks.getD p none).isSome=false/\∃M',g [.obj 7,.int p] M=.ok (.str "ok") M'/\gW Y M' (ou W p) j/\k8 j M M')))
noncomputable def T3 (g:D1):Prop:=∀Y M W j,cy Y->gW Y M W j->W.locks.length=Y.ps.length->(W.falls.map (·.1)).Nodup->W.falls.length≤2097152 →
  ∃M' j',g [.obj 7] M=.ok (.str "ok") M'/\gW Y M' (tB W) j'/\k8 j M M'/\(j'=j\/M.length≤j')
variable {C}
noncomputable def zS (s:Str):Prop:=s = "ok" \/ s = "none" \/ s = "held"
theorem OC {w:Nat} {nt he:Addr} {x:PV} {M1:aP} (h:3<w\/x=.aN):sq (.ok x M1) w nt he=.ok (.str "ok") M1:=by
 unfold sq
 have:(decide (3<w) || j4 x)=true:=by
  rcases h with h | rfl
  ·simp[h]
  ·simp[j4]
 simp only[this,if_true]
theorem OD {w:Nat} {nt he:Addr} {M1:aP}:sq (.exc nt M1) w nt he=.ok (.str "none") (M1++[.exc nt]):=by simp[sq]
theorem OE {w:Nat} {nt he:Addr} {M1:aP} (h:nt≠he):sq (.exc he M1) w nt he=.ok (.str "held") (M1++[.exc he]):=by simp[sq,h.symm]
theorem IW (s:Sd C Y M B W fo j) (G:cy Y):∀q∈(vN Y.rs B).falls,q∈B.falls:=fun q hq=>by
 have h1:=(A4 G.bE s.I s.S).falls
 rw[h1] at hq
 rw[s.S.falls]
 have hq:q∈((W.falls.map (·.1)).foldl cb (o9 W)).falls:=hq
 exact((pV (W.falls.map (·.1)) (o9 W) s.I.Iy).2 q hq).1
theorem step {g0 g1 g2 g3 g4 g5 g6 g7 h0 h1 h2 h3:D1} {cB cR:Addr} (hd:Rv cB C.nt C.he cR) (G:cy Y) (s0:S0 C g0) (s1:S1 C g1) (s2:S2 C g2) (s3:S3 C g3) (s4:S4 C g4) (s5:S5 C g5) (s6:S6 C g6) (s7:S7 C g7) (t0:T0 h0) (t1:T1 h1) (t2:T2 h2) (t3:T3 h3)
  (s:Sd C Y M B W fo j) {w:Nat} {i:Int} (hw:w<8) (hi:Sm i) :
  ∃r M1 M2,zS r/\fe cB C.he C.nt cR C.yd g0 g1 g2 g3 g4 g5 g6 g7 [.obj 0,.int w,.int i] M=.ok (.str r) M1/\gJ h0 h1 h2 h3 [.obj 7,.int w,.int i] M1=.ok (.str r) M2/\tV C Y M2:=by
 have ask:=fun hk=>kt (cB:=cB) (cR:=cR) (g0:=g0) (g1:=g1) (g2:=g2) (g3:=g3) (g4:=g4) (g5:=g5) (g6:=g6) (g7:=g7) (i:=i) hd s.y hw hk
 have Vd:∀{M1:aP} {W1:Wd} {j1:Nat},gW Y M1 W1 j1->gJ h0 h1 h2 h3 [.obj 7,.int w,.int i] M1=km Y h0 h1 h2 h3 w i M1:=fun h=>oJ h hw
 have hj:=s.w.wj
 have qX:wY g0 g1 g2 g3 g4 g5 g6 g7 w i M=.exc C.nt M->km Y h0 h1 h2 h3 w i (M++[.exc C.nt])=.ok (.str "none") (M++[.exc C.nt])->∃r M1 M2,zS r/\fe cB C.he C.nt cR C.yd g0 g1 g2 g3 g4 g5 g6 g7 [.obj 0,.int w,.int i] M=.ok (.str r) M1/\gJ h0 h1 h2 h3 [.obj 7,.int w,.int i] M1=.ok (.str r) M2/\tV C Y M2:=fun e e2=>by
  have s':=s.push (.exc C.nt)
  refine⟨"none",_,_,.inr (.inl rfl),?_,(Vd s'.w).trans e2,B,W,fo,j,s'⟩
  rw[ask (.inr (.inl ⟨M,e⟩)),e,OD]
 have Mq:wY g0 g1 g2 g3 g4 g5 g6 g7 w i M=.exc C.he M->km Y h0 h1 h2 h3 w i (M++[.exc C.he])=.ok (.str "held") (M++[.exc C.he])->∃r M1 M2,zS r/\fe cB C.he C.nt cR C.yd g0 g1 g2 g3 g4 g5 g6 g7 [.obj 0,.int w,.int i] M=.ok (.str r) M1/\gJ h0 h1 h2 h3 [.obj 7,.int w,.int i] M1=.ok (.str r) M2/\tV C Y M2:=fun e e2=>by
  have s':=s.push (.exc C.he)
  refine⟨"held",_,_,.inr (.inr rfl),?_,(Vd s'.w).trans e2,B,W,fo,j,s'⟩
  rw[ask (.inr (.inr ⟨M,e⟩)),e,OE hd.bc]
 have LF:∀(x:PV) (M1 M2:aP),wY g0 g1 g2 g3 g4 g5 g6 g7 w i M=.ok x M1->(3<w\/x=.aN)->jJ M M1->km Y h0 h1 h2 h3 w i M1=.ok (.str "ok") M2->tV C Y M2->∃r M1 M2,zS r/\fe cB C.he C.nt cR C.yd g0 g1 g2 g3 g4 g5 g6 g7 [.obj 0,.int w,.int i] M=.ok (.str r) M1/\gJ h0 h1 h2 h3 [.obj 7,.int w,.int i] M1=.ok (.str r) M2/\tV C Y M2:=fun x M1 M2 e hx f e2 st=>by
  refine⟨"ok",M1,M2,.inl rfl,?_,(Vd (xW s.w f)).trans e2,st⟩
  rw[ask (.inl ⟨x,M1,e⟩),e,OC hx]
 have vV:∀M1,w≠3->aZ i (dg Y w)=false->km Y h0 h1 h2 h3 w i M1=.ok (.str "none") M1:=fun M1 h3 hn=>by
  unfold km; rw[if_pos ⟨h3,hn⟩]
 have hk:w=0\/w=1\/w=2\/w=3\/w=4\/w=5\/w=6\/w=7:=by omega
 rcases hk with rfl | rfl | rfl | rfl | rfl | rfl | rfl | rfl
 ·
  rcases s0 Y M B W fo j i G s hi with⟨hn,e⟩ | ⟨r,rfl,hr,c⟩
  ·exact qX e (vV _ (by decide) hn)
  have IX:∀M1,km Y h0 h1 h2 h3 0 (r:Int) M1=h0 [.obj 7,.int r] M1:=fun M1=>by
   unfold km
   rw[if_neg (fun h=>by have h2:=h.2; rw[show dg Y 0=Y.rs.length from rfl,jO hr] at h2; cases h2)]
   rfl
  rcases c with⟨hh,e⟩ | ⟨hh,M1,e,y1,f1⟩
  ·refine Mq e ?_
   rw[IX]
   have s':=s.push (.exc C.he)
   rcases t0 Y _ W j r G s'.w s.I.ln s.S.pn (s.FA G) hr with⟨_,e2⟩ | ⟨hc,_⟩
   ·exact e2
   ·rw[s.held G hr,hh] at hc; cases hc
  ·have w1:=xW s.w f1
   rcases t0 Y _ W j r G w1 s.I.ln s.S.pn (s.FA G) hr with⟨hc,e2⟩ | ⟨_,M2,e2,w2,f2⟩
   ·rw[s.held G hr,hh] at hc; cases hc
   ·have hf:=s.free G hr hh
    refine LF .aN M1 M2 e (.inr rfl) f1 ((IX M1).trans e2) ⟨_,_,fo,j,?_,w2,set_inv G.bE s.I hr (G.ok hr).ne hf,Lo G.bE s.I s.S hr hf (G.p6 hr),s.D,s.sep⟩
    exact Be y1 f2 hj.1 s.sep
 ·
  rcases s1 Y M B W fo j i G s hi with⟨hn,e⟩ | ⟨r,rfl,hr,c⟩
  ·exact qX e (vV _ (by decide) hn)
  have IX:∀M1,km Y h0 h1 h2 h3 1 (r:Int) M1=h1 [.obj 7,.int r] M1:=fun M1=>by
   unfold km
   rw[if_neg (fun h=>by have h2:=h.2; rw[show dg Y 1=Y.rs.length from rfl,jO hr] at h2; cases h2)]
   rfl
  rcases c with⟨hh,e⟩ | ⟨hh,c⟩
  ·refine qX e ?_
   rw[IX]
   have s':=s.push (.exc C.nt)
   rcases t1 Y _ W j r G s'.w s.I.ln (s.FA G) (s.LD G) hr with⟨_,e2⟩ | ⟨hc,_⟩
   ·exact e2
   ·exact absurd hc hh
  rcases c with⟨hb,M1,e,y1,f1⟩ | ⟨hb,M1,e,y1,f1⟩
  ·have w1:=xW s.w f1
   rcases t1 Y _ W j r G w1 s.I.ln (s.FA G) (s.LD G) hr with⟨hc,_⟩ | ⟨_,⟨_,M2,e2,w2,f2⟩ | ⟨hc,_⟩⟩
   ·exact absurd hh hc
   ·have YM:=cP s.w.zV
    have ZL:=cP s.w.wl
    have SN:r∉B.falls.map (·.1):=by rw[s.S.falls]; exact s.I.JG r hh
    have FC:∀q∈(A3 Y.rs B r (B.ticks+Y.wait)).falls,Bc fo r M.length q.1≠j/\10<Bc fo r M.length q.1:=fun q hq=>by
     unfold Bc
     split
     ·omega
     ·rename_i fE
      have hq:q∈jh B.falls r (B.ticks+Y.wait):=hq
      rw[vH SN] at hq
      rcases List.mem_append.mp hq with hq | hq
      ·exact s.sep q hq
      ·simp at hq; subst hq; exact absurd rfl fE
    have Ri:0<Y.wait:=of_decide_eq_true (Bool.and_eq_true_iff.mp hb).1
    have S2:=ID (u:=W.now+Y.wait) G.bE s.I s.S hh
    rw[← s.S.ticks] at S2 w2
    refine LF .aN M1 M2 e (.inr rfl) f1 ((IX M1).trans e2) ⟨_,_,_,j,Be y1 f2 hj.1 FC,w2,IC s.I hh,S2,?_,FC⟩
    rw[s.S.ticks]
    exact IG s.D Ri (s.I.JG r hh)
   ·rw[hb] at hc; cases hc
  ·have w1:=xW s.w f1
   rcases t1 Y _ W j r G w1 s.I.ln (s.FA G) (s.LD G) hr with⟨hc,_⟩ | ⟨_,⟨hc,_⟩ | ⟨_,M2,e2,w2,f2⟩⟩
   ·exact absurd hh hc
   ·rw[hb] at hc; cases hc
   ·refine LF .aN M1 M2 e (.inr rfl) f1 ((IX M1).trans e2) ⟨_,_,_,M1.length,Be y1 f2 hj.1 s.sep,w2,CB G.bE s.I hh,CC G.bE s.I s.S hh,s.D,fun q hq=>⟨?_,(s.sep q hq).2⟩⟩
    have:=cP (y1.yf q hq).2
    omega
 ·
  rcases s2 Y M B W fo j i G s hi with⟨hn,e⟩ | ⟨p,rfl,hp,wF,c⟩
  ·by_cases ho:aZ i Y.ps.length=true
   ·obtain⟨p,rfl,hp⟩:=gM ho
    have wF:bZ Y.ps p=false:=by
     unfold i9 at hn
     rw[ho] at hn
     simpa using hn
    refine qX e ?_
    have s':=s.push (.exc C.nt)
    unfold km
    rw[if_neg (fun h=>by have h2:=h.2; rw[show dg Y 2=Y.ps.length from rfl,ho] at h2; cases h2)]
    rcases t2 Y _ W j p G s'.w s.I.ln hp (fun h=>by rw[wF] at h; cases h) with⟨_,e2⟩ | ⟨hc,_⟩
    ·exact e2
    ·rw[wF] at hc; cases hc
   ·exact qX e (vV _ (by decide) (by show aZ i Y.ps.length=false; simpa using ho))
  have IX:∀M1,km Y h0 h1 h2 h3 2 (p:Int) M1=h2 [.obj 7,.int p] M1:=fun M1=>by
   unfold km
   rw[if_neg (fun h=>by have h2:=h.2; rw[show dg Y 2=Y.ps.length from rfl,jO hp] at h2; cases h2)]
   rfl
  have SQ:bZ Y.ps p=true->∃b,W.points[p]? = some (some b):=fun _=>by
   have hl:p<B.lying.length:=by rw[s.S.Gm]; exact hp
   exact⟨B.lying[p],by rw[s.S.lies p hp wF,List.getElem?_eq_getElem hl]⟩
  rcases c with⟨hh,e⟩ | ⟨hh,M1,e,y1,f1⟩
  ·refine Mq e ?_
   rw[IX]
   have s':=s.push (.exc C.he)
   rcases t2 Y _ W j p G s'.w s.I.ln hp SQ with⟨hc,_⟩ | ⟨_,⟨_,e2⟩ | ⟨hc,_⟩⟩
   ·rw[wF] at hc; cases hc
   ·exact e2
   ·rw[s.IV hp,hh] at hc; cases hc
  ·have w1:=xW s.w f1
   rcases t2 Y _ W j p G w1 s.I.ln hp SQ with⟨hc,_⟩ | ⟨_,⟨hc,_⟩ | ⟨_,M2,e2,w2,f2⟩⟩
   ·rw[wF] at hc; cases hc
   ·rw[s.IV hp,hh] at hc; cases hc
   ·exact LF .aN M1 M2 e (.inr rfl) f1 ((IX M1).trans e2) ⟨_,_,fo,j,Be y1 f2 hj.1 s.sep,w2,Fp s.I,Fq s.S hp wF,Fs s.D,s.sep⟩
 ·
  obtain⟨M1,e,y1,f1⟩:=s3 Y M B W fo j G s
  have w1:=xW s.w f1
  obtain⟨M2,j',e2,w2,f2,ZM⟩:=t3 Y M1 W j G w1 s.I.ln s.I.Iy (s.LD G)
  have IX:km Y h0 h1 h2 h3 3 i M1=h3 [.obj 7] M1:=by
   unfold km
   rw[if_neg (fun h=>h.1 rfl)]
   rfl
  have FC:∀q∈(vN Y.rs B).falls,fo q.1≠j/\10<fo q.1:=fun q hq=>s.sep q (IW s G q hq)
  refine LF .aN M1 M2 e (.inr rfl) f1 (IX.trans e2) ⟨_,_,fo,j',Be y1 f2 hj.1 FC,w2,IE G.bE s.I,A4 G.bE s.I s.S,IF s.I,fun q hq=>⟨?_,(FC q hq).2⟩⟩
  have h1:=cP (y1.yf q hq).2
  have h2:=(FC q hq).1
  omega
 ·
  have e:=s4 Y M B W fo j i G s hi
  by_cases hp:i9 i Y.ps=true
  ·rw[if_pos hp] at e
   refine LF _ M M e (.inl (by decide)) jJ.refl ?_ ⟨B,W,fo,j,s⟩
   have h:=Bool.and_eq_true_iff.mp hp
   unfold km
   rw[if_neg (fun hh=>by have h2:=hh.2; rw[show dg Y 4=Y.ps.length from rfl,h.1] at h2; cases h2)]
   show Res.ok (PV.str (if bZ Y.ps i.toNat then "ok" else "none")) M=_
   rw[h.2]
   rfl
  ·rw[if_neg hp] at e
   refine qX e ?_
   by_cases ho:aZ i Y.ps.length=true
   ·have wF:bZ Y.ps i.toNat=false:=by
     unfold i9 at hp
     rw[ho] at hp
     simpa using hp
    unfold km
    rw[if_neg (fun h=>by have h2:=h.2; rw[show dg Y 4=Y.ps.length from rfl,ho] at h2; cases h2)]
    show Res.ok (PV.str (if bZ Y.ps i.toNat then "ok" else "none")) _=_
    rw[wF]
    rfl
   ·exact vV _ (by decide) (by show aZ i Y.ps.length=false; simpa using ho)
 ·have e:=s5 Y M B W fo j i G s hi
  by_cases ho:aZ i Y.ps.length=true
  ·rw[if_pos ho] at e
   refine LF _ M M e (.inl (by decide)) jJ.refl ?_ ⟨B,W,fo,j,s⟩
   unfold km
   rw[if_neg (fun hh=>by have h2:=hh.2; rw[show dg Y 5=Y.ps.length from rfl,ho] at h2; cases h2)]
   rfl
  ·rw[if_neg ho] at e
   exact qX e (vV _ (by decide) (by show aZ i Y.ps.length=false; simpa using ho))
 ·have e:=s6 Y M B W fo j i G s hi
  by_cases ho:aZ i Y.ps.length=true
  ·rw[if_pos ho] at e
   refine LF _ M M e (.inl (by decide)) jJ.refl ?_ ⟨B,W,fo,j,s⟩
   unfold km
   rw[if_neg (fun hh=>by have h2:=hh.2; rw[show dg Y 6=Y.ps.length from rfl,ho] at h2; cases h2)]
   rfl
  ·rw[if_neg ho] at e
   exact qX e (vV _ (by decide) (by show aZ i Y.ps.length=false; simpa using ho))
 ·have e:=s7 Y M B W fo j i G s hi
  by_cases ho:aZ i Y.ss.length=true
  ·rw[if_pos ho] at e
   refine LF _ M M e (.inl (by decide)) jJ.refl ?_ ⟨B,W,fo,j,s⟩
   unfold km
   rw[if_neg (fun hh=>by have h2:=hh.2; rw[show dg Y 7=Y.ss.length from rfl,ho] at h2; cases h2)]
   rfl
  ·rw[if_neg ho] at e
   exact qX e (vV _ (by decide) (by show aZ i Y.ss.length=false; simpa using ho))
end
end Sb
end
section
namespace Sb
open PySem L2
noncomputable def IY (c:Addr) (g:D1):Prop:=∀ps ss (wait:Int) (M:aP),mB ps ss->g [.obj M.length,aV ps,bD ss,.int wait] (M++[.ins c []])=.ok .aN (M++lL c M.length ps ss (bU ps ss) wait)
noncomputable def yU (ps:jj):List (Option Bool):=ps.map fun p=>if nJ p then some true else none
noncomputable def W0 (Y:nM):Wd:=⟨List.replicate Y.ps.length none,yU Y.ps,[],[],0⟩
noncomputable def B0 (Y:nM):Bx:=⟨[],Y.ps.map fun _=>true,[],[],0⟩
noncomputable def CH (Y:nM):aP:=[.lst ((yU Y.ps).map wW),.bR (wKs Y [] 0 8),.lst ((List.replicate Y.ps.length (none:Option Nat)).map bJ),.bR [],.bR []]
section
variable {C:Cs} {Y:nM} {M:aP}
theorem uQ {kG di dv:DE} {ρ:dX} {M:aP} (y:PV) (M1:aP) (x:PV) (M2:aP) (k:PV) (M3 M':aP) (hv:dv ρ M=.ok y M1) (ho:kG ρ M1=.ok x M2) (hk:di ρ M2=.ok k M3) (hp:vn x k y M3=some M'):gU kG di dv ρ M=.nx ρ M':=by
 unfold gU
 rw[hv,Res.el,ho,Res.el,hk,Res.el,hp]
theorem Bf:∀n:Nat,(List.replicate n [PV.aN]).flatten=(List.replicate n (none:Option Nat)).map bJ
 | 0=>rfl
 | n+1=>by rw[List.replicate_succ,List.flatten_cons,Bf n,List.replicate_succ]; rfl
theorem LG {n:Nat} (h:n≤16):kE true (.lst [.aN]) (.int n) M=.ok (.obj M.length) (M++[.lst ((List.replicate n (none:Option Nat)).map bJ)]):=by
 have hs:small (n:Int)=true:=qT (by omega) (by omega)
 have YN:(2:Int) ^ 62=4611686018427387904:=by simp only[Int.reducePow]
 unfold kE
 dsimp only
 rw[qo]
 dsimp only
 rw[YN,Int.toNat_natCast,if_pos ⟨hs,by omega,by omega,by simp[lim]; omega⟩,Bf,nU (by simp[lim]; omega)]
noncomputable def w6 (Y:nM):List (Key×PV):=[(cn "pieces",aV Y.ps),(cn "signals",bD Y.ss),(cn "wait",.int Y.wait),(cn "points",.obj 6),(cn "green",.lst []),(cn "now",.int 0)]
noncomputable def w7 (Y:nM):List (Key×PV):=w6 Y++[(cn "routes",eC Y.rs)]
noncomputable def w8 (Y:nM):List (Key×PV):=w7 Y++[(cn "locks",.obj 8)]
noncomputable def w9 (Y:nM):List (Key×PV):=w8 Y++[(cn "falls",.obj 9)]
theorem YO:mS (w6 Y) (cn "routes") (eC Y.rs)=w7 Y:=by with_unfolding_all rfl
theorem YQ:mS (w7 Y) (cn "locks") (.obj 8)=w8 Y:=by with_unfolding_all rfl
theorem YR:mS (w8 Y) (cn "falls") (.obj 9)=w9 Y:=by with_unfolding_all rfl
theorem Ve:mS (w9 Y) (cn "trains") (.obj 10)=wKs Y [] 0 8:=by with_unfolding_all rfl
theorem mJ {gr:D1} (hr:k7 gr) (G:cy Y) (h6:M.length=6):oR gr [aV Y.ps,bD Y.ss,.int Y.wait] M=.ok (.obj 7) (M++CH Y):=by
 have JF:=G.g.pd
 have UY:=G.rs
 unfold oR
 refine cU (P:=fun q=>q=.ok (.obj 7) (M++CH Y)) ?_
 simp only[zC,zD,zE,zF,Nat.zero_add,Nat.reduceAdd,Nat.reduceSub,List.replicate,zG,zH,zI]
 refine bh (.obj 6) (M++[.lst ((yU Y.ps).map wW)]) ?_ ?_
 ·rw[cu (xs:=Y.ps) (w:=none) (M':=M) Pc.enc (fun _=>true) (fun p=>wW (if nJ p then some true else none)) (fun ρ=>∃y,ρ=[y]) (eu (by simp)) trivial ⟨none,rfl⟩ (fun p _ ρ hρ=>?_) (Nat.le_trans JF (by decide))]
  ·rw[List.filter_eq_self.mpr (fun _ _=>rfl),nU (by rw[zK]; exact Nat.le_trans JF (by decide)),h6]
   unfold yU
   rw[List.map_map]
   rfl
  ·obtain⟨y,rfl⟩:=hρ
   refine⟨_,rfl,⟨_,rfl⟩,rfl,fun _=>?_⟩
   cases p<;>simp[Pc.enc,nJ,wW,i8]
 dsimp only[List.set]
 have l1:(M++[MO.lst ((yU Y.ps).map wW)]).length=7:=by simp[h6]
 generalize JE:M++[MO.lst ((yU Y.ps).map wW)]=M1 at l1
 refine bh (.obj 7) (M1++[.bR (w6 Y)]) ?_ ?_
 ·unfold E6
  simp only[zC,zD,aB,bu,aS,zB,zA,ag,dI,lJ]
  rw[bT (by simp)]
  simp only[ag]
  rw[l1]
  rfl
 dsimp only[List.set]
 have LH:∀(G:aP) (o o':MO),(M1++o::G).set 7 o'=M1++o'::G:=fun G o o'=>by rw[← l1]; exact DV
 have LJ:∀(G:aP) (o:MO),(M1++o::G)[7]? = some o:=fun G o=>by rw[← l1]; exact Lg
 refine aG ?_
 rw[uQ (eC Y.rs) (M1++[.bR (w6 Y)]) (.obj 7) (M1++[.bR (w6 Y)]) (.str "routes") (M1++[.bR (w6 Y)]) (M1++[.bR (w7 Y)]) ?_ rfl rfl ?_]
 refine aq ?_
 rotate_left
 ·simp[hr Y.ps Y.ss _ G.g,UY]
 ·rw[i7 (LJ [] _) (kk:=cn "routes") rfl (by show 6<16000000; decide),YO,LH]
 refine aG ?_
 rw[uQ (.obj 8) (M1++[.bR (w7 Y),.lst ((List.replicate Y.ps.length (none:Option Nat)).map bJ)]) (.obj 7) (M1++[.bR (w7 Y),.lst ((List.replicate Y.ps.length (none:Option Nat)).map bJ)]) (.str "locks") (M1++[.bR (w7 Y),.lst ((List.replicate Y.ps.length (none:Option Nat)).map bJ)]) (M1++[.bR (w8 Y),.lst ((List.replicate Y.ps.length (none:Option Nat)).map bJ)]) ?_ rfl rfl ?_]
 refine aq ?_
 rotate_left
 ·simp only[aI,lJ,aB,bu,dI,ag,bI,aS,zB,zA]
  rw[bT (by simp),ag,show cc [aV Y.ps] (M1++[MO.bR (w7 Y)])=.ok (.int Y.ps.length) (M1++[MO.bR (w7 Y)]) from by simp[cc],ag,LG JF]
  simp[l1]
 ·rw[i7 (LJ _ _) (kk:=cn "locks") rfl (by show 7<16000000; decide),YQ,LH]
 refine aG ?_
 rw[uQ (.obj 9) (M1++[.bR (w8 Y),.lst ((List.replicate Y.ps.length (none:Option Nat)).map bJ),.bR []]) (.obj 7) (M1++[.bR (w8 Y),.lst ((List.replicate Y.ps.length (none:Option Nat)).map bJ),.bR []]) (.str "falls") (M1++[.bR (w8 Y),.lst ((List.replicate Y.ps.length (none:Option Nat)).map bJ),.bR []]) (M1++[.bR (w9 Y),.lst ((List.replicate Y.ps.length (none:Option Nat)).map bJ),.bR []]) ?_ rfl rfl ?_]
 refine aq ?_
 rotate_left
 ·simp[mr,l1]
 ·rw[i7 (LJ _ _) (kk:=cn "falls") rfl (by show 8<16000000; decide),YR,LH]
 refine aG ?_
 rw[uQ (.obj 10) (M1++[.bR (w9 Y),.lst ((List.replicate Y.ps.length (none:Option Nat)).map bJ),.bR [],.bR []]) (.obj 7) (M1++[.bR (w9 Y),.lst ((List.replicate Y.ps.length (none:Option Nat)).map bJ),.bR [],.bR []]) (.str "trains") (M1++[.bR (w9 Y),.lst ((List.replicate Y.ps.length (none:Option Nat)).map bJ),.bR [],.bR []]) (M1++[.bR (wKs Y [] 0 8),.lst ((List.replicate Y.ps.length (none:Option Nat)).map bJ),.bR [],.bR []]) ?_ rfl rfl ?_]
 refine aq ?_
 rotate_left
 ·simp[mr,l1]
 ·rw[i7 (LJ _ _) (kk:=cn "trains") rfl (by show 9<16000000; decide),Ve,LH]
 refine bS (.obj 7) _ (by simp; rfl) (bj ?_)
 rw[← JE]
 unfold CH
 simp
theorem start (G:cy Y):Sd C Y (lL C.yd 0 Y.ps Y.ss Y.rs Y.wait++CH Y) (B0 Y) (W0 Y) (fun _=>0) 8:=by
 refine⟨⟨rfl,rfl,?_,rfl,rfl,rfl,by simp[B0]⟩,⟨rfl,rfl,rfl,by decide,rfl,rfl⟩,⟨by simp[W0],by simp[W0],?_,by simp[W0],by simp[W0],by simp[W0]⟩,⟨?_,by simp[B0],by simp[B0],by simp[B0],by simp[W0,yU],?_,?_,by simp[B0],rfl,rfl⟩,by simp[Due,W0],by simp[B0]⟩
 ·show some (MO.lst (Y.ps.map fun _=>PV.str "straight"))=some (.lst ((Y.ps.map fun _=>true).map i8))
  rw[List.map_map]
  rfl
 ·intro p r h
  simp[W0,List.getElem?_replicate] at h
 ·intro p hp
  simp[W0,B0,mD,List.getElem?_replicate,hp]
 ·intro p hp wF
  have e:(W0 Y).points[p]? = some (some true):=by
   show(yU Y.ps)[p]? = _
   unfold yU
   rw[zJ,oT hp]
   have:nJ (Pc.at Y.ps p)=true:=wF
   simp[this]
  rw[e]
  show _=some ((Y.ps.map fun _=>true)[p]?)
  rw[zJ,oT hp]
  rfl
 ·intro s r
  simp[B0,W0,mD]
end
end Sb
end
section
namespace Sb
open PySem L2
section
variable {C:Cs} {Y:nM} {M:aP} {ρ:dX}
noncomputable def Bg (C:Cs) (ga gd:D1):Prop:=∀Y M (w:Nat) (i:Int),cy Y->tV C Y M->w<8->Sm i->∃r M1 M2,zS r/\ga [.obj 0,.int w,.int i] M=.ok (.str r) M1/\gd [.obj 7,.int w,.int i] M1=.ok (.str r) M2/\tV C Y M2
noncomputable def Bh (C:Cs) (g:D1):Prop:=∀Y M,cy Y->tV C Y M->g [.obj 0,.obj 7] M=.ok (.bl true) M
noncomputable def Eb (g:D1):Prop:=∀Y M,cy Y->M.length=6->g [aV Y.ps,bD Y.ss,.int Y.wait] M=.ok (.obj 7) (M++CH Y)
theorem OF {r:Str} (h:zS r):dR true (.str r) (.str r) M=.ok (.bl false) M:=by
 rcases h with rfl | rfl | rfl<;>with_unfolding_all rfl
theorem o6 {N m:Int} (hm:0<m):∃k:Nat,N%m=k/\(k:Int)<m:=by
 have h1:=Int.emod_nonneg N (b:=m) (by omega)
 have h2:=Int.emod_lt_of_pos N hm
 exact⟨(N%m).toNat,by omega,by omega⟩
noncomputable def Vf:List Nat:=[0,0,0,1,1,2,2,3,4,5,6,7]
theorem OG {k:Nat} (h:k<12):∃w,Vf[k]? = some w/\w<8:=by
 have:k=0\/k=1\/k=2\/k=3\/k=4\/k=5\/k=6\/k=7\/k=8\/k=9\/k=10\/k=11:=by omega
 rcases this with rfl | rfl | rfl | rfl | rfl | rfl | rfl | rfl | rfl | rfl | rfl | rfl<;>exact⟨_,rfl,by decide⟩
theorem OH {k w:Nat} (h:Vf[k]? = some w):aW (.lst [.int 0,.int 0,.int 0,.int 1,.int 1,.int 2,.int 2,.int 3,.int 4,.int 5,.int 6,.int 7]) (.int k) M=.ok (.int w) M:=by
 refine eB (xs:=Vf.map fun(n:Nat)=>PV.int (n:Int)) ?_
 rw[zJ,h]
 rfl
theorem YS {a b c:PV} {k:Nat} (h:k<3):∃x,(x=a\/x=b\/x=c)/\aW (.lst [a,b,c]) (.int k) M=.ok x M:=by
 have:k=0\/k=1\/k=2:=by omega
 rcases this with rfl | rfl | rfl
 ·exact⟨a,.inl rfl,eB rfl⟩
 ·exact⟨b,.inr (.inl rfl),eB rfl⟩
 ·exact⟨c,.inr (.inr rfl),eB rfl⟩
theorem YT {a b c d:PV} {k:Nat} (h:k<4):∃x,(x=a\/x=b\/x=c\/x=d)/\aW (.lst [a,b,c,d]) (.int k) M=.ok x M:=by
 have:k=0\/k=1\/k=2\/k=3:=by omega
 rcases this with rfl | rfl | rfl | rfl
 ·exact⟨a,.inl rfl,eB rfl⟩
 ·exact⟨b,.inr (.inl rfl),eB rfl⟩
 ·exact⟨c,.inr (.inr (.inl rfl)),eB rfl⟩
 ·exact⟨d,.inr (.inr (.inr rfl)),eB rfl⟩
theorem kn {N m:Int} (h:0<m):dy (.int N) (.int m) M=.ok (.int (N%m)) M:=by
 unfold dy jl; simp[h]
theorem oy {N m:Int} (h:0<m) (h2:m<1073741824):lE (.int N) (.int m) M=.ok (.int (N / m)) M:=by
 unfold lE jl; simp[h,h2]
theorem Rz {k:Nat}:kE false (.int 2) (.int k) M=.ok (.int (2*k)) M:=He (by rw[qT (by decide) (by decide)]; rfl)
theorem eQ {gp gs gm WC WD SR ga gd:D1} (hp:DW gp) (hs:DX gs) (hm:qN gm) (EL:IY C.yd WC) (YU:Eb WD) (Vg:Bh C SR) (wI:Bg C ga gd) (ns:List Int) :
  ∃M',oi C.yd gp gs gm WC WD SR ga gd [.mh ns] []=.ok (.bl true) M':=by
 obtain⟨ps,YV,ep⟩:=hp ns 0 []
 obtain⟨ss,hg,es⟩:=hs ns 40 ps [] YV
 have JF:=hg.pd
 have UX:=hg.yH
 unfold oi
 refine cU (P:=fun r=>∃M',r=.ok (.bl true) M') ?_
 simp only[zC,zD,zE,zF,Nat.zero_add,Nat.reduceAdd,Nat.reduceSub,List.replicate,zG,zH]
 refine bh (aV ps) [] (by simp[ep]) ?_
 dsimp only[List.set]
 refine bh (bD ss) [] (by simp[es]) ?_
 dsimp only[List.set]
 refine bh (.int (jr ns 39%4)) [] (by simp[hm ns 39 [],kn]) ?_
 dsimp only[List.set]
 have WE:0≤jr ns 39%4:=Int.emod_nonneg _ (by decide)
 generalize jr ns 39%4=wait at WE
 have G:cy ⟨ps,ss,bU ps ss,wait⟩:=⟨hg,rfl,WE⟩
 have YW:(⟨ps,ss,bU ps ss,wait⟩:nM).ps=ps:=rfl
 have YX:(⟨ps,ss,bU ps ss,wait⟩:nM).ss=ss:=rfl
 have YY:(⟨ps,ss,bU ps ss,wait⟩:nM).wait=wait:=rfl
 have ZN:(⟨ps,ss,bU ps ss,wait⟩:nM).rs=bU ps ss:=rfl
 have ei:=EL ps ss wait [] hg
 have en:=YU ⟨ps,ss,bU ps ss,wait⟩ (lL C.yd 0 ps ss (bU ps ss) wait) G rfl
 have Vh:tV C ⟨ps,ss,bU ps ss,wait⟩ (lL C.yd 0 ps ss (bU ps ss) wait++CH ⟨ps,ss,bU ps ss,wait⟩):=⟨_,_,_,_,start (C:=C) G⟩
 refine bh (.obj 0) (lL C.yd 0 ps ss (bU ps ss) wait) ?_ ?_
 ·unfold xH
  simp only[aB,bu,bI,aS,zB,zA,ag]
  rw[show mq false [aV ps] ([]:aP)=.ok (aV ps) [] from by simp[mq]; exact bT (by simp; omega),ag,show mq false [bD ss] ([]:aP)=.ok (bD ss) [] from by simp[mq]; exact bT (by simp; omega)]
  simp only[ag]
  rw[ei,ag]
  rfl
 dsimp only[List.set]
 generalize lL C.yd 0 ps ss (bU ps ss) wait=M0 at en Vh
 generalize (⟨ps,ss,bU ps ss,wait⟩:nM)=Y at *
 subst YW YX YY
 generalize M0++CH Y=M1 at en Vh
 refine bh (.obj 7) M1 ?_ ?_
 ·simp only[aB,bu,bI,aS,zB,zA,ag]
  exact en
 dsimp only[List.set]
 obtain⟨n,YZ,Ka⟩:=o6 (N:=jr ns 38) (m:=21) (by decide)
 have hi:tT [(ax dy (ao gm [(ae 0),(dC (.int 38))]) (dC (.int 21)))] [some (.mh ns),some (aV Y.ps),some (bD Y.ss),some (.int Y.wait),some (.obj 0),some (.obj 7),none,none,none,none,none] M1=.ok ((List.range n).map fun(k:Nat)=>PV.int k,none) M1:=tw (by simp[hm ns 38 M1,kn,YZ]) (by omega)
 generalize tT [(ax dy (ao gm [(ae 0),(dC (.int 38))]) (dC (.int 21)))]=di at hi ⊢
 refine aG (hU (fun(k:Nat)=>PV.int k) (fun pre ρ M'=>(∃y6 y7 y8 y9 Cz,ρ=[some (.mh ns),some (aV Y.ps),some (bD Y.ss),some (.int Y.wait),some (.obj 0),some (.obj 7),y6,y7,y8,y9,Cz])/\tV C Y M') (List.range n) none M1 hi trivial ⟨⟨none,none,none,none,none,rfl⟩,Vh⟩ ?_ ?_)
 ·rintro pre k post hx ρ M ⟨⟨y6,y7,y8,y9,Cz,rfl⟩,st⟩
  refine⟨_,rfl,?_⟩
  dsimp only[List.set]
  have hN:=ny ns (60+2*(k:Int))
  refine bh (.int (jr ns (60+2*(k:Int)))) M ?_ ?_
  ·simp[Rz,hm ns _ M]
  dsimp only[List.set]
  generalize jr ns (60+2*(k:Int))=N at hN
  obtain⟨Y0,Sr,ZO⟩:=o6 (N:=N) (m:=12) (by decide)
  obtain⟨w,Y1,Y2⟩:=OG (k:=Y0) (by omega)
  refine bh (.int w) M ?_ ?_
  ·simp only[aI,lJ,aB,bu,dI,ag,aS,zB,zA]
   rw[bT (by simp),ag,kn (by decide),ag,Sr,OH Y1]
  dsimp only[List.set]
  obtain⟨B,W,fo,j,s⟩:=st
  have SM:=G.len
  have WG:∀{ρ:dX} {x:Str} {v:PV},ρ[5]? = some (some (.obj 7))->iK (wKs Y W.green W.now j) (cn x)=some v->ax aW (ae 5) (dC (.str x)) ρ M=.ok v M:=fun h1 h2=>s.w.ix (by rw[aS,h1]) h2
  have RA:∀{ρ:dX},ρ[5]? = some (some (.obj 7))->ao cc [(ax aW (ae 5) (dC (.str "routes")))] ρ M=.ok (.int Y.rs.length) M:=fun h1=>by
   rw[bI,aB,WG h1 ox]
   simp[cc]
  obtain⟨k3,e3,h3⟩:=o6 (N:=jr ns (61+2*(k:Int))) (m:=3) (by decide)
  obtain⟨many,WH,em⟩:∃many:Nat,many≤2097152/\aW (.lst [.int Y.rs.length,.int Y.ps.length,.int Y.ss.length]) (.int k3) M=.ok (.int many) M:=by
   obtain⟨x,hx,e⟩:=YS (M:=M) (a:=.int Y.rs.length) (b:=.int Y.ps.length) (c:=.int Y.ss.length) (k:=k3) (by omega)
   rcases hx with rfl | rfl | rfl
   ·exact⟨_,SM,e⟩
   ·exact⟨_,by omega,e⟩
   ·exact⟨_,by omega,e⟩
  refine bh (.int many) M ?_ ?_
  ·rw[aI,lJ,aB,RA rfl]
   simp only[aI,bI,aB,bu,dI,ag,aS,zB,zA]
   rw[show cc [aV Y.ps] M=.ok (.int Y.ps.length) M from by simp[cc],ag,show cc [bD Y.ss] M=.ok (.int Y.ss.length) M from by simp[cc]]
   simp only[ag]
   rw[bT (by show 3≤100; decide)]
   simp only[ag]
   rw[Rz]
   simp only[ag]
   rw[show dn false (.int 61) (.int (2*(k:Int))) M=.ok (.int (61+2*(k:Int))) M from rfl]
   simp only[ag]
   rw[hm ns _ M,ag,kn (by decide),ag,e3,em]
  dsimp only[List.set]
  have WI:0<(if (many:Int) > 1 then(many:Int) else 1):=by split<;>omega
  obtain⟨a0,Y3,Y4⟩:=o6 (N:=N / 12) WI
  have Y5:a0≤2097152:=by split at Y4<;>omega
  refine bh (.int a0) M ?_ ?_
  ·simp only[aI,bI,aB,bu,dI,ag,aS,zB,zA]
   rw[oy (by decide) (by decide),ag,show Kz [.int 1,.int many] M=.ok (.int (if (many:Int) > 1 then(many:Int) else 1)) M from rfl,ag,kn WI,Y3]
  dsimp only[List.set]
  have last:∀LK:Int,Sm LK->Body none (fun ρ M'=>(∃y6 y7 y8 y9 Cz,ρ=[some (.mh ns),some (aV Y.ps),some (bD Y.ss),some (.int Y.wait),some (.obj 0),some (.obj 7),y6,y7,y8,y9,Cz])/\tV C Y M') (yF (L2.Fin fun r=>∃M',r=.ok (.bl true) M') (bo (dC (.bl true))))
    ((bp (Ar (aQ (ax (dR true) (ao ga [(ae 4),(ae 8),(ae 10)]) (ao gd [(ae 5),(ae 8),(ae 10)]))) (mT (gZ (ao SR [(ae 4),(ae 5)])))) (bo (dC (.bl false))) fc) [some (.mh ns),some (aV Y.ps),some (bD Y.ss),some (.int Y.wait),some (.obj 0),some (.obj 7),some (.int k),some (.int N),some (.int w),some (.int many),some (.int LK)] M):=fun LK Vi=>by
   obtain⟨r,M2,M3,hr,ea,ed,L5⟩:=wI Y M w LK G ⟨B,W,fo,j,s⟩ Y2 Vi
   refine nu M3 ?_ (dU (bK trivial ⟨⟨_,_,_,_,_,rfl⟩,L5⟩))
   simp only[Cu,cX,aI,bI,aB,bu,dI,ag,aS,zB,zA,ea,ed,OF hr,nr,kl,Vg Y M3 G L5]
   rfl
  have mid:∀LK:Int,Sm LK->Body none (fun ρ M'=>(∃y6 y7 y8 y9 Cz,ρ=[some (.mh ns),some (aV Y.ps),some (bD Y.ss),some (.int Y.wait),some (.obj 0),some (.obj 7),y6,y7,y8,y9,Cz])/\tV C Y M') (yF (L2.Fin fun r=>∃M',r=.ok (.bl true) M') (bo (dC (.bl true))))
    ((aE (bp (aQ (ax (dR false) (ax dy (ax lE (ae 7) (dC (.int 12))) (dC (.int 12))) (dC (.int 0))))
  (bx 10 (ax aW (fM false [(KL (dC (.int 1))),(ao cc [(ae 1)]),(ao cc [(ax aW (ae 5) (dC (.str "routes")))]),(dC (.int 999999999999999))]) (ax dy (ax lE (ae 7) (dC (.int 144))) (dC (.int 4)))))
  fc)
  (bp (Ar (aQ (ax (dR true) (ao ga [(ae 4),(ae 8),(ae 10)]) (ao gd [(ae 5),(ae 8),(ae 10)]))) (mT (gZ (ao SR [(ae 4),(ae 5)])))) (bo (dC (.bl false))) fc)) [some (.mh ns),some (aV Y.ps),some (bD Y.ss),some (.int Y.wait),some (.obj 0),some (.obj 7),some (.int k),some (.int N),some (.int w),some (.int many),some (.int LK)] M):=fun LK Vi=>by
   refine aG (hJ (decide (N / 12%12=0)) M ?_ (fun hk=>?_) (fun hk=>?_))
   ·simp only[cX,aI,dI,ag,aS,zB,zA]
    rw[oy (by decide) (by decide),ag,kn (by decide),ag,kY]
    rfl
   ·obtain⟨k4,e4,h4⟩:=o6 (N:=N / 144) (m:=4) (by decide)
    obtain⟨at2,Vj,Y6⟩:∃at2:Int,Sm at2/\aW (.lst [.int (-1),.int Y.ps.length,.int Y.rs.length,.int 999999999999999]) (.int k4) M=.ok (.int at2) M:=by
     obtain⟨x,hx,e⟩:=YT (M:=M) (a:=.int (-1)) (b:=.int Y.ps.length) (c:=.int Y.rs.length) (d:=.int 999999999999999) (k:=k4) (by omega)
     rcases hx with rfl | rfl | rfl | rfl
     ·exact⟨_,⟨by omega,by omega⟩,e⟩
     ·exact⟨_,⟨by omega,by omega⟩,e⟩
     ·exact⟨_,⟨by omega,by omega⟩,e⟩
     ·exact⟨_,⟨by omega,by omega⟩,e⟩
    refine tq (.int at2) M ?_ (aq (last at2 Vj))
    have Y7:∀ ρ:dX,KL (dC (.int 1)) ρ M=.ok (.int (-1)) M:=fun ρ=>rfl
    rw[aI,lJ,aB,Y7,ag,aB,bI,aB]
    simp only[aS,zB,zA,ag,bu]
    rw[show cc [aV Y.ps] M=.ok (.int Y.ps.length) M from by simp[cc],ag,aB,RA rfl,ag,aB,dI,ag,bu,ag,ag,ag,ag,ag,bT (by simp),ag]
    simp only[aI,dI,ag,aS,zB,zA]
    rw[oy (by decide) (by decide),ag,kn (by decide),ag,e4,Y6]
   ·exact dU (aq (last LK Vi))
  have WJ:=fun {ρ:dX} (h:ρ[5]? = some (some (.obj 7)))=>WG h qV
  refine aG (hJ (decide (w=1) && (!W.green.isEmpty && decide (0<N / 12%3))) M ?_ (fun hk=>?_) (fun hk=>?_))
  ·have e1:decide ((w:Int)=1)=decide (w=1):=decide_eq_decide.mpr (by omega)
   have et:∀ ρ:dX,ρ[5]? = some (some (.obj 7))->gZ (ax aW (ae 5) (dC (.str "green"))) ρ M=.ok (!W.green.isEmpty) M:=fun ρ h=>by
    rw[kl,WJ h,ag]
    simp[kd]
   rw[nq,cX,aI]
   simp only[dI,ag,aS,zB,zA,kY,Bool.false_eq_true,if_false,e1]
   by_cases h1:w=1
   ·simp only[h1,decide_true,if_true,Bool.true_and]
    rw[nq,et _ rfl,ag]
    cases ZP:W.green.isEmpty with
    | true=>rfl
    | false =>
     simp only[Bool.not_false,if_true,Bool.true_and,cX,aI,dI,ag,aS,zB,zA]
     rw[oy (by decide) (by decide),ag,kn (by decide),ag,A6,ag]
   ·simp[h1]
  ·have fE:0<W.green.length:=by
    have h1:=(Bool.and_eq_true_iff.mp hk).2
    have h2:=(Bool.and_eq_true_iff.mp h1).1
    rw[Bool.not_eq_true',List.isEmpty_eq_false_iff] at h2
    exact List.length_pos_iff.mpr h2
   obtain⟨kg,eg,O2⟩:=o6 (N:=N / 36) (m:=W.green.length) (by omega)
   have WK:kg<W.green.length:=by omega
   have ZQ:W.green[kg]<Y.rs.length:=s.I.Iz (List.getElem_mem WK)
   refine tq (.int W.green[kg]) M ?_ (aq (mid _ ⟨by omega,by omega⟩))
   rw[aI,WJ rfl,ag]
   simp only[aI,bI,aB,bu,dI,ag,aS,zB,zA]
   have Y8:aW (.obj 7) (.str "green") M=.ok (lX W.green) M:=sj s.w.w7 rfl qV
   rw[oy (by decide) (by decide),ag,Y8,ag,ag,show cc [lX W.green] M=.ok (.int W.green.length) M from by simp[cc],ag,kn (by omega),ag,eg]
   exact eB (by rw[zJ,List.getElem?_eq_getElem WK]; rfl)
  ·exact dU (aq (mid a0 ⟨by omega,by omega⟩))
 ·rintro ρ' M' ⟨⟨y6,y7,y8,y9,Cz,rfl⟩,_⟩
  exact aq (bS (.bl true) M' rfl (bj ⟨_,rfl⟩))
end
end Sb
end
section
namespace Sb
open PySem L2
section
variable (C:Cs)
noncomputable def Vk (g:D1):Prop:=∀Y M B fo (i:Int),dB C Y [] M B fo->Sm i->g [.obj 0,.int i] M=if aZ i Y.rs.length then .ok .aN M else .exc C.nt M
noncomputable def OI (g:D1):Prop:=∀Y M B fo (i:Int),dB C Y [] M B fo->Sm i->g [.obj 0,.int i] M=if aZ i Y.ps.length then .ok .aN M else .exc C.nt M
noncomputable def WL (g:D1):Prop:=∀Y M B fo (i:Int),dB C Y [] M B fo->Sm i->g [.obj 0,.int i] M=if aZ i Y.ss.length then .ok .aN M else .exc C.nt M
noncomputable def Vl (g:D1):Prop:=∀Y M B fo (i:Int),dB C Y [] M B fo->Sm i->g [.obj 0,.int i] M=if i9 i Y.ps then .ok .aN M else .exc C.nt M
noncomputable def Vm (g:D1):Prop:=∀Y M B fo (p:Nat),dB C Y [] M B fo->Y.ps.length≤16->p<Y.ps.length->g [.obj 0,.int p] M=if (bA B.locks p).isSome || false then .exc C.he M else .ok .aN M
noncomputable def SS (g:D1):Prop:=∀Y M B fo (r:Nat),dB C Y [] M B fo->r<Y.rs.length->g [.obj 0,.int r] M=.ok (ck (bN Y.rs r)) M
noncomputable def Vn (g:D1):Prop:=∀Y M B fo (r:Nat),dB C Y [] M B fo->r<Y.rs.length->g [.obj 0,.int r] M=.ok (.int (bb Y.rs r)) M
noncomputable def WM (g:D1):Prop:=∀Y M B fo (s:Nat),dB C Y [] M B fo->s<Y.ss.length->g [.obj 0,.int s] M=.ok .aN M
noncomputable def WN (g:D1):Prop:=∀Y M B fo (s:Nat),dB C Y [] M B fo->Y.ps.length≤100->s<Y.ss.length->g [.obj 0,.int s] M=.ok (.bl (fg Y s)) M
noncomputable def WO (g:D1):Prop:=∀(M:aP) (u:Int),g [.obj M.length,.int u,.aN] (M++[.ins C.fa []])=.ok .aN (M++[.ins C.fa [("until",.int u),("near",.aN)]])
noncomputable def Vo (g:D1):Prop:=∀Y M B fo w,dB C Y [] M B fo->(w.map (·.1)).Nodup->(∀p∈w.map (·.1),(bA B.locks p).isSome=true)->∃M',g [.obj 0,ck w] M=.ok .aN M'/\dB C Y [] M' { B with locks:=dP w B.locks } fo/\jJ M M'/\M'.length=M.length
noncomputable def WQ (g:D1):Prop:=∀M p s,g [Pc.enc p,df s] M=.ok (i8 (yQ p s)) M
noncomputable def Vp (g:D1):Prop:=∀(p:Pc) M,g [p.enc] M=.ok (.bl (nJ p)) M
noncomputable def RB (g:D1):Prop:=∀(ps:jj) (a:Nat) (x:Int) M,ps.length≤100->g [aV ps,.int a,.int x] M=.ok (.bl (beyond ps a x).isNone) M
noncomputable def WR (g:D1):Prop:=∀(ps:jj) (a:Nat) (x:Int) M,ps.length≤100->g [aV ps,.int a,.int x] M=.ok (bJ (beyond ps a x)) M
variable {C}
theorem Mr:Vp jB:=fun p M=>ip p
theorem Ms:Vk C (jU C.nt C.yd bM):=fun Y M B fo i h hi=>fC h hi
theorem RC:OI C (jV C.nt C.yd bM):=fun Y M B fo i h hi=>fD h hi
theorem RD:WL C (jo C.nt C.yd bM):=fun Y M B fo i h hi=>eO h hi
theorem RE {gc gp:D1} (hc:OI C gc) (hp:Vp gp):Vl C (gH C.nt C.yd gc gp):=fun Y M B fo i h hi=>eN h hi (hc Y M B fo i h hi) (fun p=>hp p M)
theorem IZ:SS C (mZ C.yd):=fun Y M B fo r h hr=>l8 h hr
theorem Mt:Vn C (jF C.yd):=fun Y M B fo r h hr=>iu h hr
theorem RF {gc gu:D1} (hc:OI C gc):OI C (fO C.yd gc gu):=fun Y M B fo i h hi=>Bb h (hc Y M B fo i h hi)
theorem RG {gt:D1} (ht:OI C gt):Vm C (fu C.he C.yd gt):=fun Y M B fo p h hs hp=>by
 refine dw (ti:=fun _=>false) h (fun q hq=>⟨.aN,?_,rfl⟩) hp ⟨by omega,by omega⟩
 have:=ht Y M B fo q h ⟨by omega,by omega⟩
 rw[if_pos (jO hq)] at this
 exact this
theorem RH {ga:D1}:WM C (i5 C.yd ga):=fun Y M B fo s h hs=>wV h
theorem OJ {gb:D1} (hb:WR gb):RB (jA gb):=fun ps a x M hl=>il (Y:=⟨ps,[],[],0⟩) (fun a x=>hb ps a x M hl) a x
theorem RI {gb:D1} (hb:RB gb):WN C (gG C.yd gb):=fun Y M B fo s h hl hs=>eL h hs (fun a x=>hb Y.ps a x M hl)
theorem RJ:WO C (jE C.fa):=fun M u=>iq (n:=0) (fs:=[])
theorem Mu:Vo C (mY C.yd):=fun Y M B fo w h hn hl=>l7 h hn hl
theorem RK {gp:D1} (hp:Vp gp):WQ (lI gp):=fun M p s=>kq (fun p=>hp p M) p s
theorem yV {n:Nat} (h:n≤2097152):Sm (n:Int):=⟨by omega,by omega⟩
theorem Vq {gc gw gn gl gs:D1} (hc:Vk C gc) (hw:SS C gw) (hn:Vm C gn) (hl:WQ gl) (hs:Vn C gs):S0 C (fG C.yd gc gw gn gl gs):=fun Y M B W fo j i G s hi =>
 ir (ti:=fun _=>false) s.y G.bE G.g.pd G.g.yH (fun r hr=>G.sg hr) s.S.O5 s.S.O6 s.S.Gm s.S.DZ (s.Ry G) (hc Y M B fo i s.y hi) (fun r hr=>hw Y M B fo r s.y hr)
  (fun p hp=>hn Y M B fo p s.y G.g.pd hp) hl (fun M B r h hr=>hs Y M B fo r h hr)
theorem Vr {gc gs gt gb gf gu gw:D1} (hc:Vk C gc) (hs:Vn C gs) (ht:WM C gt) (hb:WN C gb) (hf:WO C gf) (hu:Vo C gu) (hw:SS C gw):S1 C (ik C.fa C.nt C.yd gc gs gt gb gf gu gw):=fun Y M B W fo j i G s hi =>
 l6 s.y hi G.bE s.I s.S G.len (fun r hr=>G.sg hr) (hc Y M B fo i s.y hi) (fun M B r h hr=>hs Y M B fo r h hr) (fun M B s h hs=>ht Y M B fo s h hs) (fun M B s h hs=>hb Y M B fo s h (by have:=G.g.pd; omega) hs) hf (fun M B w h=>hu Y M B fo w h) (fun M B r h hr=>hw Y M B fo r h hr)
theorem Vs {gc gn:D1} (hc:Vl C gc) (hn:Vm C gn):S2 C (ky C.yd gc gn):=fun Y M B W fo j i G s hi=>by
 have:=oH (ti:=fun _=>false) s.y s.S.Gm (hc Y M B fo i s.y hi) (fun p hp=>hn Y M B fo p s.y G.g.pd hp)
 simpa only[Bool.or_false] using this
theorem Vt {gu gw:D1} (hu:Vo C gu) (hw:SS C gw):S3 C (qC C.fa C.yd gu gw):=fun Y M B W fo j G s =>
 rj s.y G.bE s.I s.S s.D G.len (fun M B w h=>hu Y M B fo w h) (fun M B r h hr=>hw Y M B fo r h hr)
theorem Vu {gc:D1} (hc:Vl C gc):S4 C (jD C.yd gc):=fun Y M B W fo j i G s hi=>Oj s.y s.S.Gm (hc Y M B fo i s.y hi)
theorem Vv {gc:D1} (hc:OI C gc):S5 C (gF C.yd gc):=fun Y M B W fo j i G s hi=>Ft s.y (hc Y M B fo i s.y hi)
theorem Vw {g:D1} (h:OI C g):S6 C g:=fun Y M B W fo j i G s hi=>h Y M B fo i s.y hi
theorem Vx {gc:D1} (hc:WL C gc):S7 C (fP C.yd gc):=fun Y M B W fo j i G s hi=>CD s.y (hc Y M B fo i s.y hi)
noncomputable def Vy (g:D1):Prop:=∀Y M W j (p:Nat),gW Y M W j->g [.obj 7,.int p] M=.ok .aN M
noncomputable def Vz (g:D1):Prop:=∀Y M W j (p:Nat),gW Y M W j->p<W.locks.length->g [.obj 7,.int p] M=.ok (.bl (W.locks.getD p none).isSome) M
noncomputable def VB (g:D1):Prop:=∀Y M W j (r:Nat),gW Y M W j->W.locks.length≤100->g [.obj 7,.int r] M=.ok .aN ((M++[MO.lst ((ff r W.locks).map bJ)]).set 7 (.bR (wKs Y W.green W.now M.length)))
noncomputable def WS (g:D1):Prop:=∀Y M W j (s:Nat),gW Y M W j->s<Y.ss.length->g [.obj 7,.int s] M=.ok (.lst []) M
theorem Mv:Vy i6:=fun Y M W j p h=>wX h
theorem RL {gt:D1} (ht:Vy gt):Vz (m8 gt):=fun Y M W j p h hp=>ma h hp (ht Y M W j p h)
theorem Mw:VB m9:=fun Y M W j r h hl=>kB h hl
theorem RM:WS (trunc nc):=fun Y M W j s h hs=>Fx h hs
theorem VC {gh:D1} (hh:Vz gh):T0 (mx gh):=fun Y M W j r G h BN SF Gn hr=>mK h G.bE G.g.pd G.len hr (G.wl hr) BN SF Gn (fun p hp=>hh Y M W j p h hp)
theorem VD {gn gb gf:D1} (hn:WS gn) (hb:uJ gb) (hf:VB gf):T1 (gI gn gb gf):=fun Y M W j r G h BN Gn Ls hr =>
 ie h hr (G.sg hr) Gn Ls (fun M W s h hs=>hn Y M W j s h hs) (fun M a x=>hb Y.ps a x M (by have:=G.g.pd; omega)) (fun M W h hl=>hf Y M W j r h (by have:=G.g.pd; omega)) BN
theorem VF {gh:D1} (hh:Vz gh):T2 (iA gh):=fun Y M W j p G h BN hp SQ=>kr h hp BN SQ (hh Y M W j p h (by rw[BN]; exact hp))
theorem VH {gf:D1} (hf:VB gf):T3 (ng gf):=fun Y M W j G h BN zU Ls=>md h zU Ls BN (fun M W j r h hl=>hf Y M W j r h (by have:=G.g.pd; omega))
theorem OK {g0 g1 g2 g3 g4 g5 g6 g7 h0 h1 h2 h3:D1} {cB cR:Addr} (hd:Rv cB C.nt C.he cR) (s0:S0 C g0) (s1:S1 C g1) (s2:S2 C g2) (s3:S3 C g3) (s4:S4 C g4) (s5:S5 C g5) (s6:S6 C g6) (s7:S7 C g7) (t0:T0 h0) (t1:T1 h1) (t2:T2 h2) (t3:T3 h3) :
  Bg C (fe cB C.he C.nt cR C.yd g0 g1 g2 g3 g4 g5 g6 g7) (gJ h0 h1 h2 h3):=fun Y M w i G ⟨B,W,fo,j,s⟩ hw hi=>step hd G s0 s1 s2 s3 s4 s5 s6 s7 t0 t1 t2 t3 s hw hi
noncomputable def WT (g:D1):Prop:=∀M x,Sc x->g [x,x] M=.ok (.bl true) M
noncomputable def WU (C:Cs) (g:D1):Prop:=∀Y M B fo,dB C Y [] M B fo->g [.obj 0] M=.ok (.int B.ticks) M
theorem RN:WT qD:=fun M x h=>rm h
theorem RO:WU C (jC C.yd):=fun Y M B fo h=>Oi h
theorem OL {Ru O7 O8 Iz O9 OA Pa SO:D1} (Pb:WT Ru) (U8:WU C O7) (U9:S5 C O8) (wM:Vy Iz) (Va:S6 C O9) (Ln:S4 C OA) (JH:S7 C Pa):Bh C (ni C.yd Ru O7 O8 Iz O9 OA Pa SO):=fun Y M G ⟨B,W,fo,j,s⟩=>by
 have ZR:=G.g.pd
 have Y9:=G.g.yH
 refine jL s.y s.w s.I s.S G (s.FA G) (fun x h=>Pb M x h) (U8 Y M B fo s.y) (fun p hp=>?_) (fun p hp=>wM Y M W j p s.w) (fun p hp=>?_) (fun p hp wF=>?_) (fun x hx=>?_)
 ·have:=U9 Y M B W fo j p G s (yV (by omega))
  rw[if_pos (jO hp)] at this
  exact this
 ·have:=Va Y M B W fo j p G s (yV (by omega))
  rw[if_pos (jO hp)] at this
  exact this
 ·have:=Ln Y M B W fo j p G s (yV (by omega))
  rw[if_pos (by unfold i9; rw[jO hp]; exact wF)] at this
  exact this
 ·have:=JH Y M B W fo j x G s (yV (by omega))
  rw[if_pos (jO hx)] at this
  exact this
theorem RP {gr:D1} (hr:k7 gr):Eb (oR gr):=fun Y M G h6=>mJ hr G h6
end
end Sb
end
section
namespace Rw
open PySem L2 Sb PySem.W
structure Top (K:Fg) (mg:Str->Option Value) (aT sr eT aH lW i4 jT au:Addr):Prop where
 gP:Mb K mg "BadYard" aT
 Ja:Mb K mg "Held" eT
 ju:Mb K mg "NotThere" aH
 FD:mg "BadYard" = some (.ref aT)
 OM:mg "Held" = some (.ref eT)
 CI:mg "NotThere" = some (.ref aH)
 RQ:mg "Red" = some (.ref lW)
 su:Catch K mg "BoxError" sr [aT,aH,eT,lW]
 ON:Fa K (.ref eT) [(aT,false),(aH,false),(eT,true),(lW,false)]
 CJ:Fa K (.ref aH) [(aT,false),(aH,true),(eT,false),(lW,false)]
 yW:Fa K (.type "ValueError") [(aT,true),(aH,true),(eT,true),(lW,true)]
 wZ:QP K [aT,lW] [(aT,true),(aH,false),(eT,false),(lW,true)]
 Za:Rv aT aH eT lW
 Bi:j5 K i4 "near"
 qY:j5 K i4 "until"
 pw:j5 K jT "steps"
 ja:j5 K au "falls"
 ko:j5 K au "found"
 hW:j5 K au "greens"
 jb:j5 K au "locks"
 jc:j5 K au "lying"
 fJ:j5 K au "pieces"
 gv:j5 K au "signals"
 gQ:j5 K au "ticks"
 hY:j5 K au "trains"
 oz:j5 K au "wait"
 yX:mg "ValueError" = none
 RS:mg "any" = none
 Jb:mg "bool" = none
 tI:mg "enumerate" = none
 Mx:mg "int" = none
 gR:mg "isinstance" = none
 fh:mg "len" = none
 pY:mg "list" = none
 RT:mg "max" = none
 RU:mg "min" = none
 lN:mg "range" = none
 LM:mg "tuple" = none
 qZ:∃t:Tok,mg "LAST_JOINT" = some (.int 999 t)
 pz:∃t:Tok,mg "MOST_PIECES" = some (.int 16 t)
 oA:∃t:Tok,mg "MOST_SIGNALS" = some (.int 16 t)
 Bj:bB K mg "joints_of" fR ["piece"]
 Bk:bB K mg "pieces_at" eZ ["pieces","joint"]
 vW:bB K mg "piece_beyond" dE ["pieces","number","joint"]
 Bl:bB K mg "is_border" il ["pieces","number","joint"]
 yY:bB K mg "joints_out" fi ["piece","joint"]
 Bm:bB K mg "is_points" ip ["piece"]
 FE:bB K mg "lie_for" kq ["piece","step"]
 yZ:bB K mg "check_yard" gz ["pieces","signals"]
 vX:bB K mg "check_pieces" eG ["pieces"]
 vY:bB K mg "check_joints" eJ ["pieces","joints"]
 tW:bB K mg "check_signals" dW ["pieces","signals"]
 Jc:bB K mg "routes" l4 ["pieces","signals"]
 xX:bB K mg "ways_on" l5 ["pieces","signals","way","joint","piece"]
 vZ:bB K mg "pieces_under" fS ["train"]
 Bn:AA K mg "Yard" au "Yard.__init__" fT ["self","pieces","signals","wait"]
 Bo:qx K au "time" "Yard.time" lC ["self"]
 v3:qx K au "lock_of" "Yard.lock_of" iP ["self","piece"]
 tX:qx K au "train_in" "Yard.train_in" hZ ["self","piece"]
 Bp:qx K au "lies" "Yard.lies" lD ["self","piece"]
 tY:qx K au "is_green" "Yard.is_green" ia ["self","signal"]
 za:qx K au "where" "Yard.where" j6 ["self","name"]
 Bq:AA K mg "Fall" i4 "Fall.__init__" iq ["self","until","near"]
 Br:bB K mg "set_route" ir ["yard","route"]
 Jd:bB K mg "cancel" l6 ["yard","route"]
 OO:bB K mg "tick" rj ["yard"]
 LN:bB K mg "throw" oH ["yard","piece"]
 Je:bB K mg "unlock" l7 ["yard","steps"]
 Bs:bB K mg "signal_of" iu ["yard","route"]
 Jf:bB K mg "way_of" l8 ["yard","route"]
 v5:bB K mg "is_at_border" eL ["yard","signal"]
 v7:bB K mg "signal_ahead" iQ ["yard","train"]
 zb:bB K mg "train_near" j7 ["yard","signal"]
 v9:bB K mg "train_called" iR ["yard","name"]
 w5:bB K mg "check_route" fC ["yard","route"]
 xa:bB K mg "check_piece" fD ["yard","piece"]
 wa:bB K mg "check_points" eN ["yard","piece"]
 wb:bB K mg "check_signal" eO ["yard","signal"]
 wc:bB K mg "is_number_of" iS ["things","number"]
 sv:bB K mg "check_not_held" dw ["yard","piece"]
 Jg:bB K mg "_law_cell" l9 ["_law_script","_law_k"]
 LO:bB K mg "_law_mix" oI ["_law_script","_law_k"]
 CK:bB K mg "_law_beyond" fU ["_law_pieces_here","_law_at","_law_joint"]
 CL:bB K mg "_law_pieces" fj ["_law_script","_law_base"]
 Bt:bB K mg "_law_signals" iw ["_law_script","_law_base","_law_pieces_here"]
 Jh:bB K mg "_law_outs" kA ["_law_piece","_law_joint"]
 Bu:bB K mg "_law_ways" nN ["_law_pieces_here","_law_signals_here","_law_way","_law_at","_law_joint"]
 CM:bB K mg "_law_routes" ic ["_law_pieces_here","_law_signals_here"]
 LP:bB K mg "_law_new" mJ ["_law_pieces_here","_law_signals_here","_law_wait"]
 zc:bB K mg "_law_train_in" gA ["_law_world","_law_at"]
 Ji:bB K mg "_law_held" ma ["_law_world","_law_at"]
 Jj:bB K mg "_law_free" kB ["_law_world","_law_route"]
 LQ:bB K mg "_law_set" mK ["_law_world","_law_route"]
 Jk:bB K mg "_law_near" p7 ["_law_world","_law_signal"]
 CN:bB K mg "_law_cancel" ie ["_law_world","_law_route"]
 Jl:bB K mg "_law_tick" md ["_law_world"]
 FG:bB K mg "_law_throw" kr ["_law_world","_law_at"]
 OP:bB K mg "_law_is" rm ["_law_found","_law_due_here"]
 Jm:bB K mg "_law_same" jL ["_law_yard","_law_world"]
 FH:bB K mg "_law_asked" kt ["_law_yard","_law_way","_law_number"]
 LR:bB K mg "_law_due" oJ ["_law_world","_law_way","_law_number"]
section
variable {z:Zn} {aT sr eT aH lW i4 jT au:Addr} (T:Top z.K z.mg aT sr eT aH lW i4 jT au)
include T
omit T in theorem zd:aC ["piece"] ["piece"] (ak fR):=iM
theorem q0:Fn z (k+1) "joints_of" 1 (bL):=fQ.go T.Bj zd fun _ _ _ _ _ _ _ hr G=>(ai (aK (fF (kH false) T.pY kJ (af (qt false (aa 0) (kh al) ke) aj))))
omit T in theorem ze:aC ["pieces","joint"] ["pieces","joint"] (ak eZ):=iM
omit T in theorem gx:(["number","piece","joint"]:List Str).Nodup:=by decide +kernel
theorem q8 (cV:Fn z k "joints_of" 1 bW):Fn z (k+1) "pieces_at" 2 (du bW):=fQ.go T.Bk ze fun _ _ _ _ _ _ _ hr G=>(ai (aK (fm false (cv.of (sc:=(ak eZ)) ["pieces","joint"] ["number","piece","joint"] [none,none,some 1] rfl (fun _=>rfl) (by decide +kernel)) G.calm (Dz (aa 0) T.tI) (fun _ _ _ _=>(pM (aA G.gg gx).calm (dY (aM 0 (aA G.gg gx).nd) (dY (aM 1 (aA G.gg gx).nd) mU)))) (fun _ _ _ _=>(i0 (aD (ij (aA G.gg gx).hu) (aa 2) (aw cV hr (aA G.gg gx).gg (af (aa 1) aj))))) (fun _ _ _ _=>(aa 0)))))
omit T in theorem tZ:aC ["pieces","number","joint","other"] ["pieces","number","joint"] (ak dE):=iM
theorem nC (iG:Fn z k "pieces_at" 2 fX):Fn z (k+1) "piece_beyond" 3 (dz fX):=fQ.go T.vW tZ fun _ _ _ _ _ _ _ hr G=>(ah (cT G.own G.calm (bP (aw iG hr G.gg (af (aa 0) (af (aa 2) aj)))) (aM 3 G.nd) (ai (ba (aD (jQ G.hu) (aa 3) (aa 1)) (ai (aK (aa 3))) aL))) (ai (aK dS)))
omit T in theorem zf:aC ["pieces","number","joint"] ["pieces","number","joint"] (ak il):=iM
theorem zg (cW:Fn z k "piece_beyond" 3 bX):Fn z (k+1) "is_border" 3 (jA bX):=fQ.go T.Bl zf fun _ _ _ _ _ _ _ hr G=>(ai (aK (iV pL (aw cW hr G.gg (af (aa 0) (af (aa 1) (af (aa 2) aj)))) dS)))
omit T in theorem xb:aC ["piece","joint"] ["piece","joint"] (ak fi):=iM
omit T in theorem nD:(["other","joint"]:List Str).Nodup:=by decide +kernel
theorem xf (cV:Fn z k "joints_of" 1 bW):Fn z (k+1) "joints_out" 2 (fY bW):=fQ.go T.yY xb fun _ _ _ _ _ _ _ hr G=>(ah (ba (aD (bQ G.hu) (av G.hu (aa 0) al) ay) (ai (aK (fm false (cv.of (sc:=(ak fi)) ["piece","joint"] ["other","joint"] [none,some 1] rfl (fun _=>rfl) (by decide +kernel)) G.calm (bP (aw cV hr G.gg (af (aa 0) aj))) (fun _ _ _ _=>(aM 0 (aA G.gg nD).nd)) (fun _ _ _ _=>(i0 (aD (jQ (aA G.gg nD).hu) (aa 0) (aa 1)))) (fun _ _ _ _=>(aa 0))))) aL) (ah (ba (aD (bQ G.hu) (aa 1) (av G.hu (aa 0) al)) (ai (aK (cw false (af (av G.hu (aa 0) al) (af (av G.hu (aa 0) al) aj))))) aL) (ai (aK (cw false (af (av G.hu (aa 0) al) aj))))))
omit T in theorem zh:aC ["piece"] ["piece"] (ak ip):=iM
theorem zi:Fn z (k+1) "is_points" 1 (jB):=fQ.go T.Bm zh fun _ _ _ _ _ _ _ hr G=>(ai (aK (iV (bQ G.hu) (av G.hu (aa 0) al) ay)))
omit T in theorem CO:aC ["piece","step"] ["piece","step"] (ak kq):=iM
theorem CP (iH:Fn z k "is_points" 1 fZ):Fn z (k+1) "lie_for" 2 (lI fZ):=fQ.go T.FE CO fun _ _ _ _ _ _ _ hr G=>(ah (ba (VW.vt (iX (bV (aw iH hr G.gg (af (aa 0) aj))) (iW (aD (ij G.hu) (av G.hu (aa 0) al) (qt false (aa 1) (kh al) ke))))) (ai (aK ay)) aL) (ai (aK ay)))
omit T in theorem xg:aC ["pieces","signals"] ["pieces","signals"] (ak gz):=iM
theorem xh (la:Fn z k "check_pieces" 1 kK) (jX:Fn z k "check_signals" 2 jS):Fn z (k+1) "check_yard" 2 (i3 kK jS):=fQ.go T.yZ xg fun _ _ _ _ _ _ _ hr G=>(ah (bG (aw la hr G.gg (af (aa 0) aj))) (ai (bG (aw jX hr G.gg (af (aa 0) (af (aa 1) aj))))))
omit T in theorem ua:aC ["pieces","piece"] ["pieces"] (ak eG):=iM
theorem ub (lg:Fn z k "check_joints" 2 kL) (cV:Fn z k "joints_of" 1 bW):Fn z (k+1) "check_pieces" 1 (gD aT kL bW):=fQ.go T.vX ua fun _ _ _ _ _ _ _ hr G=>(ah (ba (aD (bQ G.hu) (bw bq T.fh cj (af (aa 0) aj)) al) (ai (Hy T.gP hr (af ay aj))) aL) (ah (ba (aD lS (bw bq T.fh cj (af (aa 0) aj)) (mi T.pz.choose_spec)) (ai (cG T.gP hr (cx (ft (mi T.pz.choose_spec) (cx gX))))) aL) (ai (cT G.own G.calm (bP (aa 0)) (aM 1 G.nd) (ai (bG (aw lg hr G.gg (af (aa 0) (af (aw cV hr G.gg (af (aa 1) aj)) aj)))))))))
omit T in theorem uc:aC ["pieces","joints","joint"] ["pieces","joints"] (ak eJ):=iM
theorem ud (iG:Fn z k "pieces_at" 2 fX):Fn z (k+1) "check_joints" 2 (gE aT fX):=fQ.go T.vY uc fun _ _ _ _ _ _ _ hr G=>(ai (cT G.own G.calm (bP (aa 1)) (aM 2 G.nd) (ah (ba (VW.vt (ph (aD rJ (aa 2) al) (lT (aD lS (aa 2) (mi T.qZ.choose_spec))))) (ai (cG T.gP hr (cx (ft (aa 2) (cx (ft (mi T.qZ.choose_spec) gX)))))) aL) (ah (ba (aD lS (lF PySem.F.slot_list_count PySem.F.type_list_count (rO G.hu) (aa 1) (af (aa 2) aj)) al) (ai (cG T.gP hr (cx (ft (aa 2) (cx gX))))) aL) (ai (ba (aD lS (bw bq T.fh cj (af (aw iG hr G.gg (af (aa 0) (af (aa 2) aj))) aj)) al) (ai (cG T.gP hr (cx (ft (aa 2) gX)))) aL))))))
omit T in theorem sy:aC ["pieces","signals","joint","number"] ["pieces","signals"] (ak dW):=iM
theorem sA (cV:Fn z k "joints_of" 1 bW):Fn z (k+1) "check_signals" 2 (fN aT bW):=fQ.go T.tW sy fun _ _ _ _ _ _ _ hr G=>(ah (ba (aD lS (bw bq T.fh cj (af (aa 1) aj)) (mi T.oA.choose_spec)) (ai (cG T.gP hr (cx (ft (mi T.oA.choose_spec) (cx gX))))) aL) (ai (cT G.own G.calm (bP (aa 1)) (pM G.calm (dY (aM 2 G.nd) (dY (aM 3 G.nd) mU))) (ah (ba (aD lS (lF PySem.F.slot_list_count PySem.F.type_list_count (rO G.hu) (aa 1) (af (jP (af (aa 2) (af (aa 3) aj))) aj)) al) (ai (cG T.gP hr (cx (ft (aa 2) (cx (ft (aa 3) gX)))))) aL) (ah (ba (VW.vt (ph (aD rJ (aa 3) al) (lT (aD Hh (aa 3) (bw bq T.fh cj (af (aa 0) aj)))))) (ai (cG T.gP hr (cx (ft (aa 3) (cx gX))))) aL) (ai (ba (aD (oM G.hu) (aa 2) (aw cV hr G.gg (af (av G.hu (aa 0) (aa 3)) aj))) (ai (cG T.gP hr (cx (ft (aa 3) (cx (ft (aa 2) gX)))))) aL)))))))
omit T in theorem FI:aC ["pieces","signals","told","number","signal","way"] ["pieces","signals"] (ak l4):=iM
theorem FJ (nz:Fn z k "check_yard" 2 mV) (sC:Fn z k "ways_on" 5 jm):Fn z (k+1) "routes" 2 (pP mV jm):=fQ.go T.Jc FI fun _ _ _ _ _ _ _ hr G=>(ah (bG (aw nz hr G.gg (af (aa 0) (af (aa 1) aj)))) (ah (aR 2 G.nd (cw true aj)) (ah (cT G.own G.calm (Dz (aa 1) T.tI) (pM G.calm (dY (aM 3 G.nd) (dY (aM 4 G.nd) mU))) (ai (cT G.own G.calm (bP (aw sC hr G.gg (af (aa 0) (af (aa 1) (af (cw false aj) (af (av G.hu (aa 4) al) (af (av G.hu (aa 4) al) aj))))))) (aM 5 G.nd) (ai (bG (lF PySem.F.slot_list_append PySem.F.type_list_append fV (aa 2) (af (jP (af (aa 3) (af (aa 5) aj))) aj))))))) (ai (aK (rN (aa 2)))))))
omit T in theorem wd:aC ["pieces","signals","way","joint","piece","found","out","longer","beyond"] ["pieces","signals","way","joint","piece"] (ak l5):=iM
omit T in theorem ra:(["step"]:List Str).Nodup:=by decide +kernel
theorem CQ (zj:Fn z k "joints_out" 2 mW) (cW:Fn z k "piece_beyond" 3 bX) (sC:Fn z k "ways_on" 5 jm):Fn z (k+1) "ways_on" 5 (tj mW bX jm):=fQ.go T.xX wd fun _ _ _ _ _ _ _ hr G=>(ah (ba (aD (ij G.hu) (aa 4) (fm false (cv.of (sc:=(ak l5)) ["pieces","signals","way","joint","piece","found","out","longer","beyond"] ["step"] [none] rfl (fun _=>rfl) (by decide +kernel)) G.calm (bP (aa 2)) (fun _ _ _ _=>(aM 0 (aA G.gg ra).nd)) (fun _ _ _ _=>fW) (fun _ _ _ _=>(av (aA G.gg ra).hu (aa 0) al)))) (ai (aK (cw false aj))) aL) (ah (aR 5 G.nd (cw true aj)) (ah (cT G.own G.calm (bP (aw zj hr G.gg (af (av G.hu (aa 0) (aa 4)) (af (aa 3) aj)))) (aM 6 G.nd) (ah (aR 7 G.nd (aY (bF false) (aa 2) (cw false (af (jP (af (aa 4) (af (aa 3) (af (aa 6) aj)))) aj)))) (ah (aR 8 G.nd (aw cW hr G.gg (af (aa 0) (af (aa 4) (af (aa 6) aj))))) (ai (ba (VW.vt (ph (aD pL (aa 8) dS) (lT (aD (ij G.hu) (jP (af (aa 6) (af (aa 8) aj))) (aa 1))))) (ai (bG (lF PySem.F.slot_list_append PySem.F.type_list_append fV (aa 5) (af (aa 7) aj)))) (ai (bG (lF PySem.F.slot_list_extend PySem.F.type_list_extend Ch (aa 5) (af (aw sC hr G.gg (af (aa 0) (af (aa 1) (af (aa 7) (af (aa 6) (af (aa 8) aj)))))) aj))))))))) (ai (aK (rN (aa 5)))))))
omit T in theorem ue:aC ["train"] ["train"] (ak fS):=iM
omit T in theorem lO:(["step"]:List Str).Nodup:=by decide +kernel
theorem uf:Fn z (k+1) "pieces_under" 1 (jn jT):=fQ.go T.vZ ue fun _ _ _ _ _ _ _ hr G=>(ai (aK (fm false (cv.of (sc:=(ak fS)) ["train"] ["step"] [none] rfl (fun _=>rfl) (by decide +kernel)) G.calm (bP (bC T.pw (aa 0))) (fun _ _ _ _=>(aM 0 (aA G.gg lO).nd)) (fun _ _ _ _=>fW) (fun _ _ _ _=>(av (aA G.gg lO).hu (aa 0) al)))))
omit T in theorem zk:aC ["self","pieces","signals","wait"] ["self","pieces","signals","wait"] (ak fT):=iM
omit T in theorem we:(["piece"]:List Str).Nodup:=by decide +kernel
theorem zl (wg:Fn z k "routes" 2 vw):In z (k+1) "Yard" au 4 (lV au vw):=Cm.go T.Bn zk fun _ _ _ _ _ _ _ hr G=>(ah (gC T.ko (aa 0) (aw wg hr G.gg (af (aa 1) (af (aa 2) aj)))) (ah (gC T.fJ (aa 0) (fF (kH false) T.pY kJ (af (aa 1) aj))) (ah (gC T.gv (aa 0) (fF (kH false) T.pY kJ (af (aa 2) aj))) (ah (gC T.oz (aa 0) (aa 3)) (ah (gC T.gQ (aa 0) al) (ah (gC T.jb (aa 0) oO) (ah (gC T.jc (aa 0) (fm true (cv.of (sc:=(ak fT)) ["self","pieces","signals","wait"] ["piece"] [none] rfl (fun _=>rfl) (by decide +kernel)) G.calm (bP (aa 1)) (fun _ _ _ _=>(aM 0 (aA G.gg we).nd)) (fun _ _ _ _=>fW) (fun _ _ _ _=>ay))) (ah (gC T.hW (aa 0) oO) (ah (gC T.ja (aa 0) oO) (ai (gC T.hY (aa 0) oO)))))))))))
omit T in theorem zm:aC ["self"] ["self"] (ak lC):=iM
theorem zo:Me z (k+1) au "time" 1 (jC au):=xG.go T.Bo zm fun _ _ _ _ _ _ _ hr G=>(ai (aK (bC T.gQ (aa 0))))
omit T in theorem ug:aC ["self","piece"] ["self","piece"] (ak iP):=iM
theorem uh (cS:Fn z k "check_piece" 2 cm):Me z (k+1) au "lock_of" 2 (gF au cm):=xG.go T.v3 ug fun _ _ _ _ _ _ _ hr G=>(ah (bG (aw cS hr G.gg (af (aa 0) (af (aa 1) aj)))) (ai (aK (AD G.hu (bC T.jb (aa 0)) (aa 1)))))
omit T in theorem sD:aC ["self","piece","name","train"] ["self","piece"] (ak hZ):=iM
theorem sE (cS:Fn z k "check_piece" 2 cm) (eV:Fn z k "pieces_under" 1 dF):Me z (k+1) au "train_in" 2 (fO au cm dF):=xG.go T.tX sD fun _ _ _ _ _ _ _ hr G=>(ah (bG (aw cS hr G.gg (af (aa 0) (af (aa 1) aj)))) (ah (qB (cT G.own G.calm (AL (bC T.hY (aa 0))) (pM G.calm (dY (aM 2 G.nd) (dY (aM 3 G.nd) mU))) (ai (ba (aD (ij G.hu) (aa 1) (aw eV hr G.gg (af (aa 3) aj))) (ai (aK (aa 2))) aL)))) (ai (aK dS))))
omit T in theorem zp:aC ["self","piece"] ["self","piece"] (ak lD):=iM
theorem zq (eX:Fn z k "check_points" 2 dG):Me z (k+1) au "lies" 2 (jD au dG):=xG.go T.Bp zp fun _ _ _ _ _ _ _ hr G=>(ah (bG (aw eX hr G.gg (af (aa 0) (af (aa 1) aj)))) (ai (aK (av G.hu (bC T.jc (aa 0)) (aa 1)))))
omit T in theorem sF:aC ["self","signal"] ["self","signal"] (ak ia):=iM
theorem sG (lh:Fn z k "check_signal" 2 kM):Me z (k+1) au "is_green" 2 (fP au kM):=xG.go T.tY sF fun _ _ _ _ _ _ _ hr G=>(ah (bG (aw lh hr G.gg (af (aa 0) (af (aa 1) aj)))) (ai (aK (iV (ij G.hu) (aa 1) (bC T.hW (aa 0))))))
omit T in theorem xi:aC ["self","name"] ["self","name"] (ak j6):=iM
theorem xj (eV:Fn z k "pieces_under" 1 dF) (lj:Fn z k "train_called" 2 kN):Me z (k+1) au "where" 2 (nY dF kN):=xG.go T.za xi fun _ _ _ _ _ _ _ hr G=>(ai (aK (aw eV hr G.gg (af (aw lj hr G.gg (af (aa 0) (af (aa 1) aj))) aj))))
omit T in theorem zr:aC ["self","until","near"] ["self","until","near"] (ak iq):=iM
theorem zt:In z (k+1) "Fall" i4 3 (jE i4):=Cm.go T.Bq zr fun _ _ _ _ _ _ _ hr G=>(ah (gC T.qY (aa 0) (aa 1)) (ai (gC T.Bi (aa 0) (aa 2))))
omit T in theorem zu:aC ["yard","route","way","step"] ["yard","route"] (ak ir):=iM
theorem zv (fK:Fn z k "check_route" 2 er) (jd:Fn z k "way_of" 2 gi) (dD:Fn z k "check_not_held" 2 cO) (sH:Fn z k "lie_for" 2 rT) (iI:Fn z k "signal_of" 2 gk):Fn z (k+1) "set_route" 2 (fG au er gi cO rT gk):=fQ.go T.Br zu fun _ _ _ _ _ _ _ hr G=>(ah (bG (aw fK hr G.gg (af (aa 0) (af (aa 1) aj)))) (ah (aR 2 G.nd (aw jd hr G.gg (af (aa 0) (af (aa 1) aj)))) (ah (cT G.own G.calm (bP (aa 2)) (aM 3 G.nd) (ai (bG (aw dD hr G.gg (af (aa 0) (af (av G.hu (aa 3) al) aj)))))) (ah (cT G.own G.calm (bP (aa 2)) (aM 3 G.nd) (ah (dZ G.hu (bC T.jb (aa 0)) (av G.hu (aa 3) al) (aa 1)) (ai (dZ G.hu (bC T.jc (aa 0)) (av G.hu (aa 3) al) (aw sH hr G.gg (af (av G.hu (bC T.fJ (aa 0)) (av G.hu (aa 3) al)) (af (aa 3) aj))))))) (ai (dZ G.hu (bC T.hW (aa 0)) (aw iI hr G.gg (af (aa 0) (af (aa 1) aj))) (aa 1)))))))
omit T in theorem FK:aC ["yard","route","signal","near"] ["yard","route"] (ak l6):=iM
theorem FL (fK:Fn z (k+1) "check_route" 2 er) (iI:Fn z (k+1) "signal_of" 2 gk) (nA:Fn z (k+1) "train_near" 2 mX) (ll:Fn z (k+1) "is_at_border" 2 kO) (Bv:In z k "Fall" i4 3 nZ) (mF:Fn z (k+1) "unlock" 2 kP) (jd:Fn z (k+1) "way_of" 2 gi):Fn z (k+2) "cancel" 2 (ik i4 aH au er gk mX kO nZ kP gi):=fQ.go T.Jd FK fun _ _ _ _ _ _ _ hr G=>(ah (bG (aw fK hr G.gg (af (aa 0) (af (aa 1) aj)))) (ah (aR 2 G.nd (aw iI hr G.gg (af (aa 0) (af (aa 1) aj)))) (ah (ba (aD (jQ G.hu) (AD G.hu (bC T.hW (aa 0)) (aa 2)) (aa 1)) (ai (cG T.ju hr (cx (ft (aa 1) gX)))) aL) (ah (bG (qy G.hu (bC T.hW (aa 0)) (aa 2))) (ah (aR 3 G.nd (aw nA hr G.gg (af (aa 0) (af (aa 2) aj)))) (ai (ba (VW.vt (iX (aD lS (bC T.oz (aa 0)) al) (iW (VW.vt (ph (aD uD (aa 3) dS) (lT (bV (aw ll hr G.gg (af (aa 0) (af (aa 2) aj)))))))))) (ai (dZ G.hu (bC T.ja (aa 0)) (aa 1) (DD Bv hr G.gg (af (aY (bF false) (bC T.gQ (aa 0)) (bC T.oz (aa 0))) (af (aa 3) aj))))) (ai (bG (aw mF hr G.gg (af (aa 0) (af (aw jd hr G.gg (af (aa 0) (af (aa 1) aj))) aj))))))))))))
omit T in theorem LS:aC ["yard","route"] ["yard"] (ak rj):=iM
theorem LU (mF:Fn z k "unlock" 2 kP) (jd:Fn z k "way_of" 2 gi):Fn z (k+1) "tick" 1 (qC i4 au kP gi):=fQ.go T.OO LS fun _ _ _ _ _ _ _ hr G=>(ah (gC T.gQ (aa 0) (aY (bF false) (bC T.gQ (aa 0)) al)) (ai (cT G.own G.calm (bP (fF (vv false G.calm) T.pY kJ (af (bC T.ja (aa 0)) aj))) (aM 1 G.nd) (ai (ba (aD (bQ G.hu) (bC T.qY (av G.hu (bC T.ja (aa 0)) (aa 1))) (bC T.gQ (aa 0))) (ah (bG (qy G.hu (bC T.ja (aa 0)) (aa 1))) (ai (bG (aw mF hr G.gg (af (aa 0) (af (aw jd hr G.gg (af (aa 0) (af (aa 1) aj))) aj)))))) aL)))))
omit T in theorem Jn:aC ["yard","piece"] ["yard","piece"] (ak oH):=iM
theorem Jo (eX:Fn z k "check_points" 2 dG) (dD:Fn z k "check_not_held" 2 cO):Fn z (k+1) "throw" 2 (ky au dG cO):=fQ.go T.LN Jn fun _ _ _ _ _ _ _ hr G=>(ah (bG (aw eX hr G.gg (af (aa 0) (af (aa 1) aj)))) (ah (bG (aw dD hr G.gg (af (aa 0) (af (aa 1) aj)))) (ai (dZ G.hu (bC T.jc (aa 0)) (aa 1) (sW (aD (bQ G.hu) (av G.hu (bC T.jc (aa 0)) (aa 1)) ay) ay ay)))))
omit T in theorem FN:aC ["yard","steps","step"] ["yard","steps"] (ak l7):=iM
theorem FO:Fn z (k+1) "unlock" 2 (mY au):=fQ.go T.Je FN fun _ _ _ _ _ _ _ hr G=>(ai (cT G.own G.calm (bP (aa 1)) (aM 2 G.nd) (ai (bG (qy G.hu (bC T.jb (aa 0)) (av G.hu (aa 2) al))))))
omit T in theorem zw:aC ["yard","route"] ["yard","route"] (ak iu):=iM
theorem zx:Fn z (k+1) "signal_of" 2 (jF au):=fQ.go T.Bs zw fun _ _ _ _ _ _ _ hr G=>(ai (aK (av G.hu (av G.hu (bC T.ko (aa 0)) (aa 1)) al)))
omit T in theorem FP:aC ["yard","route"] ["yard","route"] (ak l8):=iM
theorem FQ:Fn z (k+1) "way_of" 2 (mZ au):=fQ.go T.Jf FP fun _ _ _ _ _ _ _ hr G=>(ai (aK (av G.hu (av G.hu (bC T.ko (aa 0)) (aa 1)) al)))
omit T in theorem ui:aC ["yard","signal","place"] ["yard","signal"] (ak eL):=iM
theorem uj (oB:Fn z k "is_border" 3 n0):Fn z (k+1) "is_at_border" 2 (gG au n0):=fQ.go T.v5 ui fun _ _ _ _ _ _ _ hr G=>(ah (aR 2 G.nd (av G.hu (bC T.gv (aa 0)) (aa 1))) (ai (aK (aw oB hr G.gg (af (bC T.fJ (aa 0)) (af (av G.hu (aa 2) al) (af (av G.hu (aa 2) al) aj)))))))
omit T in theorem uk:aC ["yard","train","head","place"] ["yard","train"] (ak iQ):=iM
theorem um (cW:Fn z k "piece_beyond" 3 bX):Fn z (k+1) "signal_ahead" 2 (mv jT au bX):=fQ.go T.v7 uk fun _ _ _ _ _ _ _ hr G=>(ah (aR 2 G.nd (av G.hu (bC T.pw (aa 1)) al)) (ah (aR 3 G.nd (jP (af (av G.hu (aa 2) al) (af (aw cW hr G.gg (af (bC T.fJ (aa 0)) (af (av G.hu (aa 2) al) (af (av G.hu (aa 2) al) aj)))) aj)))) (ah (ba (aD (ij G.hu) (aa 3) (bC T.gv (aa 0))) (ai (aK (lF PySem.F.slot_list_index PySem.F.type_list_index (xF G.hu) (bC T.gv (aa 0)) (af (aa 3) aj)))) aL) (ai (aK dS)))))
omit T in theorem xk:aC ["yard","signal","name","train"] ["yard","signal"] (ak j7):=iM
theorem xl (lp:Fn z k "signal_ahead" 2 kQ):Fn z (k+1) "train_near" 2 (i5 au kQ):=fQ.go T.zb xk fun _ _ _ _ _ _ _ hr G=>(ah (qB (cT G.own G.calm (AL (bC T.hY (aa 0))) (pM G.calm (dY (aM 2 G.nd) (dY (aM 3 G.nd) mU))) (ai (ba (aD (bQ G.hu) (aw lp hr G.gg (af (aa 0) (af (aa 3) aj))) (aa 1)) (ai (aK (aa 2))) aL)))) (ai (aK dS)))
omit T in theorem uo:aC ["yard","name"] ["yard","name"] (ak iR):=iM
theorem uq:Fn z (k+1) "train_called" 2 (mw aH au):=fQ.go T.v9 uo fun _ _ _ _ _ _ _ hr G=>(ah (ba (aD (oM G.hu) (aa 1) (bC T.hY (aa 0))) (ai (cG T.ju hr (cx (ft (aa 1) (cx gX))))) aL) (ai (aK (av G.hu (bC T.hY (aa 0)) (aa 1)))))
omit T in theorem wm:aC ["yard","route"] ["yard","route"] (ak fC):=iM
theorem wo (cF:Fn z k "is_number_of" 2 bY):Fn z (k+1) "check_route" 2 (jU aH au bY):=fQ.go T.w5 wm fun _ _ _ _ _ _ _ hr G=>(ai (ba (jR (bV (aw cF hr G.gg (af (bC T.ko (aa 0)) (af (aa 1) aj))))) (ai (cG T.ju hr (cx (ft (aa 1) (cx gX))))) aL))
omit T in theorem wq:aC ["yard","piece"] ["yard","piece"] (ak fD):=iM
theorem wu (cF:Fn z k "is_number_of" 2 bY):Fn z (k+1) "check_piece" 2 (jV aH au bY):=fQ.go T.xa wq fun _ _ _ _ _ _ _ hr G=>(ai (ba (jR (bV (aw cF hr G.gg (af (bC T.fJ (aa 0)) (af (aa 1) aj))))) (ai (cG T.ju hr (cx (ft (aa 1) (cx gX))))) aL))
omit T in theorem ur:aC ["yard","piece"] ["yard","piece"] (ak eN):=iM
theorem uu (cS:Fn z k "check_piece" 2 cm) (iH:Fn z k "is_points" 1 fZ):Fn z (k+1) "check_points" 2 (gH aH au cm fZ):=fQ.go T.wa ur fun _ _ _ _ _ _ _ hr G=>(ah (bG (aw cS hr G.gg (af (aa 0) (af (aa 1) aj)))) (ai (ba (jR (bV (aw iH hr G.gg (af (av G.hu (bC T.fJ (aa 0)) (aa 1)) aj)))) (ai (cG T.ju hr (cx (ft (aa 1) (cx gX))))) aL)))
omit T in theorem uv:aC ["yard","signal"] ["yard","signal"] (ak eO):=iM
theorem uw (cF:Fn z k "is_number_of" 2 bY):Fn z (k+1) "check_signal" 2 (jo aH au bY):=fQ.go T.wb uv fun _ _ _ _ _ _ _ hr G=>(ai (ba (jR (bV (aw cF hr G.gg (af (bC T.gv (aa 0)) (af (aa 1) aj))))) (ai (cG T.ju hr (cx (ft (aa 1) (cx gX))))) aL))
omit T in theorem ux:aC ["things","number"] ["things","number"] (ak iS):=iM
theorem uy:Fn z (k+1) "is_number_of" 2 (bM):=fQ.go T.wc ux fun _ _ _ _ _ _ _ hr G=>(ai (aK (Hm (iV Hh (aa 1) al) (Cg (iV rJ (aa 1) (bw bq T.fh cj (af (aa 0) aj)))))))
omit T in theorem rf:aC ["yard","piece"] ["yard","piece"] (ak dw):=iM
theorem rg (fB:Me z k au "train_in" 2 bt):Fn z (k+1) "check_not_held" 2 (fu eT au bt):=fQ.go T.sv rf fun _ _ _ _ _ _ _ hr G=>(ah (ba (aD (ij G.hu) (aa 1) (bC T.jb (aa 0))) (ai (cG T.Ja hr (cx (ft (aa 1) (cx gX))))) aL) (ai (ba (aD uD (lU fB hr G.gg (aa 0) (af (aa 1) aj)) dS) (ai (cG T.Ja hr (cx (ft (aa 1) (cx gX))))) aL)))
omit T in theorem FR:aC ["_law_script","_law_k"] ["_law_script","_law_k"] (ak l9):=iM
theorem FT:Fn z (k+1) "_law_cell" 2 (m3):=fQ.go T.Jg FR fun _ _ _ _ _ _ _ hr G=>(ah (ba (bV (aa 0)) (ai (aK (av G.hu (aa 0) (aY cQ (aa 1) (bw bq T.fh cj (af (aa 0) aj)))))) aL) (ai (aK al)))
omit T in theorem Jp:aC ["_law_script","_law_k","_law_number"] ["_law_script","_law_k"] (ak oI):=iM
theorem Jq (wx:Fn z k "_law_cell" 2 vx):Fn z (k+1) "_law_mix" 2 (oQ vx):=fQ.go T.LO Jp fun _ _ _ _ _ _ _ hr G=>(ah (aR 2 G.nd (aY cQ (aY (bF false) (aw wx hr G.gg (af (aa 0) (af (aa 1) aj))) (aY (ka false) al (aY (bF false) (aa 1) al))) al)) (ah (aR 2 G.nd (aY cQ (aY (ka false) (aa 2) al) al)) (ai (aK (aY cQ (aY (bF false) (aY (ka false) (aY kD (aa 2) al) al) (aa 2)) al)))))
omit T in theorem Bw:aC ["_law_pieces_here","_law_at","_law_joint","_law_found"] ["_law_pieces_here","_law_at","_law_joint"] (ak fU):=iM
omit T in theorem jK:(["_law_k","_law_at","_law_joint","_law_pieces_here"]:List Str).Nodup:=by decide +kernel
theorem tJ:Fn z (k+1) "_law_beyond" 3 (ki):=fQ.go T.CK Bw fun _ _ _ _ _ _ _ hr G=>(ah (kI false 3 (cv.of (sc:=(ak fU)) ["_law_pieces_here","_law_at","_law_joint","_law_found"] ["_law_k","_law_at","_law_joint","_law_pieces_here"] [none,some 1,some 2,some 0] rfl (fun _=>rfl) (by decide +kernel)) G.calm G.nd (iz T.lN (af (bw bq T.fh cj (af (aa 0) aj)) aj)) (fun _ _ _ _=>(aM 0 (aA G.gg jK).nd)) (fun _ _ _ _=>(i0 (VW.vt (iX (aD (jQ (aA G.gg jK).hu) (aa 0) (aa 1)) (iW (aD (ij (aA G.gg jK).hu) (aa 2) (qt false (av (aA G.gg jK).hu (aa 3) (aa 0)) (kh al) ke))))))) (fun _ _ _ _=>(aa 0)) (by with_unfolding_all rfl)) (ai (aK (sW (bV (aa 3)) (av G.hu (aa 3) al) dS))))
omit T in theorem By:aC ["_law_script","_law_base","_law_pieces_here","_law_loose","_law_many","_law_k","_law_number","_law_ends","_law_j","_law_pick","_law_others"] ["_law_script","_law_base"] (ak fj):=iM
omit T in theorem pA:(["_law_joint","_law_ends"]:List Str).Nodup:=by decide +kernel
omit T in theorem pB:(["_law_joint","_law_loose"]:List Str).Nodup:=by decide +kernel
omit T in theorem pC:(["_law_joint","_law_ends"]:List Str).Nodup:=by decide +kernel
theorem Bz (eD:Fn z k "_law_mix" 2 dO):Fn z (k+1) "_law_pieces" 2 (kj dO):=fQ.go T.CL By fun _ _ _ _ _ _ _ hr G=>(ah (aR 2 G.nd (cw true aj)) (ah (aR 3 G.nd (cw false aj)) (ah (aR 4 G.nd al) (ah (cT G.own G.calm (iz T.lN (af (aY (bF false) al (aY cQ (aw eD hr G.gg (af (aa 0) (af (aa 1) aj))) al)) aj)) (aM 5 G.nd) (ah (aR 6 G.nd (aw eD hr G.gg (af (aa 0) (af (aY (bF false) (aY (bF false) (aa 1) al) (aa 5)) aj)))) (ah (aR 7 G.nd (cw true aj)) (ah (cT G.own G.calm (iz T.lN (af (aY (bF false) al (fF vj T.Mx DC (af (iV rJ (aY cQ (aa 6) al) al) aj))) aj)) (aM 8 G.nd) (ah (aR 9 G.nd (aw eD hr G.gg (af (aa 0) (af (aY (bF false) (aY (bF false) (aY (bF false) (aa 1) al) (aY (ka false) al (aa 5))) (aa 8)) aj)))) (ah (kI false 10 (cv.of (sc:=(ak fj)) ["_law_script","_law_base","_law_pieces_here","_law_loose","_law_many","_law_k","_law_number","_law_ends","_law_j","_law_pick","_law_others"] ["_law_joint","_law_ends"] [none,some 7] rfl (fun _=>rfl) (by decide +kernel)) G.calm G.nd (bP (aa 3)) (fun _ _ _ _=>(aM 0 (aA G.gg pA).nd)) (fun _ _ _ _=>(i0 (aD (oM (aA G.gg pA).hu) (aa 0) (aa 1)))) (fun _ _ _ _=>(aa 0)) (by with_unfolding_all rfl)) (ai (ba (VW.vt (iX (bV (aa 10)) (iW (aD rJ (aY cQ (aa 9) al) (av G.hu (cw false (af al (af al (af al aj)))) (aa 8)))))) (ai (bG (lF PySem.F.slot_list_append PySem.F.type_list_append fV (aa 7) (af (av G.hu (aa 10) (aY cQ (aY kD (aa 9) al) (bw (ER G.calm) T.RU KN (af al (af (bw bq T.fh cj (af (aa 10) aj)) aj))))) aj)))) (ah (bG (lF PySem.F.slot_list_append PySem.F.type_list_append fV (aa 7) (af (aY cQ (aY (bF false) (aw eD hr G.gg (af (aa 0) (af (aY (bF false) (aa 1) al) aj))) (aY (ka false) al (aa 4))) al) aj))) (ai (aR 4 G.nd (aY (bF false) (aa 4) al))))))))) (ah (aR 3 G.nd (aY (bF false) (fm false (cv.of (sc:=(ak fj)) ["_law_script","_law_base","_law_pieces_here","_law_loose","_law_many","_law_k","_law_number","_law_ends","_law_j","_law_pick","_law_others"] ["_law_joint","_law_loose"] [none,some 3] rfl (fun _=>rfl) (by decide +kernel)) G.calm (bP (aa 7)) (fun _ _ _ _=>(aM 0 (aA G.gg pB).nd)) (fun _ _ _ _=>(i0 (aD (oM (aA G.gg pB).hu) (aa 0) (aa 1)))) (fun _ _ _ _=>(aa 0))) (fm false (cv.of (sc:=(ak fj)) ["_law_script","_law_base","_law_pieces_here","_law_loose","_law_many","_law_k","_law_number","_law_ends","_law_j","_law_pick","_law_others"] ["_law_joint","_law_ends"] [none,some 7] rfl (fun _=>rfl) (by decide +kernel)) G.calm (bP (aa 3)) (fun _ _ _ _=>(aM 0 (aA G.gg pC).nd)) (fun _ _ _ _=>(i0 (aD (oM (aA G.gg pC).hu) (aa 0) (aa 1)))) (fun _ _ _ _=>(aa 0))))) (ai (bG (lF PySem.F.slot_list_append PySem.F.type_list_append fV (aa 2) (af (aY (bF false) (jP (af (av G.hu (cw false (af ay (af ay aj))) (aY Kv (bw bq T.fh cj (af (aa 7) aj)) al)) aj)) (fF Av T.LM E0 (af (aa 7) aj))) aj))))))))) (ai (aK (rN (aa 2))))))))
omit T in theorem zy:aC ["_law_script","_law_base","_law_pieces_here","_law_found","_law_at","_law_joint","_law_number","_law_border","_law_shift"] ["_law_script","_law_base","_law_pieces_here"] (ak iw):=iM
theorem zL (eD:Fn z k "_law_mix" 2 dO) (gy:Fn z k "_law_beyond" 3 dH):Fn z (k+1) "_law_signals" 3 (jG dO dH):=fQ.go T.Bt zy fun _ _ _ _ _ _ _ hr G=>(ah (aR 3 G.nd (cw true aj)) (ah (cT G.own G.calm (iz T.lN (af (bw bq T.fh cj (af (aa 2) aj)) aj)) (aM 4 G.nd) (ai (cT G.own G.calm (Hs (qt false (av G.hu (aa 2) (aa 4)) (kh al) ke)) (aM 5 G.nd) (ah (aR 6 G.nd (aw eD hr G.gg (af (aa 0) (af (aY (bF false) (aY (bF false) (aa 1) (aY (ka false) al (aa 4))) (bw bq T.fh cj (af (aa 3) aj))) aj)))) (ah (aR 7 G.nd (iV pL (aw gy hr G.gg (af (aa 2) (af (aa 4) (af (aa 5) aj)))) dS)) (ai (ba (VW.vt (ph (aD (bQ G.hu) (aY cQ (aa 6) al) al) (lT (VW.vt (iX (bV (aa 7)) (iW (aD (bQ G.hu) (aY cQ (aa 6) al) al))))))) (ai (bG (lF PySem.F.slot_list_append PySem.F.type_list_append fV (aa 3) (af (jP (af (aa 5) (af (aa 4) aj))) aj)))) aL))))))) (ah (aR 8 G.nd (aY cQ (aw eD hr G.gg (af (aa 0) (af (aY (bF false) (aa 1) al) aj))) (aY (bF false) al (bw bq T.fh cj (af (aa 3) aj))))) (ai (aK (qt false (aY (bF false) (qt false (aa 3) (kh (aa 8)) ke) (qt false (aa 3) ke (kh (aa 8)))) ke (kh al)))))))
omit T in theorem FU:aC ["_law_piece","_law_joint"] ["_law_piece","_law_joint"] (ak kA):=iM
omit T in theorem tK:(["_law_one","_law_joint"]:List Str).Nodup:=by decide +kernel
theorem FV:Fn z (k+1) "_law_outs" 2 (m4):=fQ.go T.Jh FU fun _ _ _ _ _ _ _ hr G=>(ah (ba (aD (bQ G.hu) (av G.hu (aa 0) al) ay) (ai (aK (fm false (cv.of (sc:=(ak kA)) ["_law_piece","_law_joint"] ["_law_one","_law_joint"] [none,some 1] rfl (fun _=>rfl) (by decide +kernel)) G.calm (Hs (qt false (aa 0) (kh al) ke)) (fun _ _ _ _=>(aM 0 (aA G.gg tK).nd)) (fun _ _ _ _=>(i0 (aD (jQ (aA G.gg tK).hu) (aa 0) (aa 1)))) (fun _ _ _ _=>(aa 0))))) aL) (ai (aK (sW (aD (bQ G.hu) (aa 1) (av G.hu (aa 0) al)) (cw false (af (av G.hu (aa 0) al) (af (av G.hu (aa 0) al) aj))) (cw false (af (av G.hu (aa 0) al) aj))))))
omit T in theorem xY:aC ["_law_pieces_here","_law_signals_here","_law_way","_law_at","_law_joint","_law_found","_law_out","_law_here","_law_behind"] ["_law_pieces_here","_law_signals_here","_law_way","_law_at","_law_joint"] (ak nN):=iM
omit T in theorem tL:(["_law_step"]:List Str).Nodup:=by decide +kernel
theorem FW (Jr:Fn z k "_law_outs" 2 vy) (gy:Fn z k "_law_beyond" 3 dH) (wy:Fn z k "_law_ways" 5 kR):Fn z (k+1) "_law_ways" 5 (pQ vy dH kR):=fQ.go T.Bu xY fun _ _ _ _ _ _ _ hr G=>(ah (aR 5 G.nd (cw true aj)) (ah (ba (aD (ij G.hu) (aa 3) (fm false (cv.of (sc:=(ak nN)) ["_law_pieces_here","_law_signals_here","_law_way","_law_at","_law_joint","_law_found","_law_out","_law_here","_law_behind"] ["_law_step"] [none] rfl (fun _=>rfl) (by decide +kernel)) G.calm (bP (aa 2)) (fun _ _ _ _=>(aM 0 (aA G.gg tL).nd)) (fun _ _ _ _=>fW) (fun _ _ _ _=>(av (aA G.gg tL).hu (aa 0) al)))) (ai (aK (rN (aa 5)))) aL) (ah (cT G.own G.calm (bP (aw Jr hr G.gg (af (av G.hu (aa 0) (aa 3)) (af (aa 4) aj)))) (aM 6 G.nd) (ah (aR 7 G.nd (aY (bF false) (aa 2) (cw false (af (jP (af (aa 3) (af (aa 4) (af (aa 6) aj)))) aj)))) (ah (aR 8 G.nd (aw gy hr G.gg (af (aa 0) (af (aa 3) (af (aa 6) aj))))) (ai (ba (VW.vt (ph (aD pL (aa 8) dS) (lT (aD (ij G.hu) (jP (af (aa 6) (af (aa 8) aj))) (aa 1))))) (ai (bG (lF PySem.F.slot_list_append PySem.F.type_list_append fV (aa 5) (af (aa 7) aj)))) (ai (aR 5 G.nd (aY (bF true) (aa 5) (aw wy hr G.gg (af (aa 0) (af (aa 1) (af (aa 7) (af (aa 8) (af (aa 6) aj)))))))))))))) (ai (aK (rN (aa 5)))))))
omit T in theorem BA:aC ["_law_pieces_here","_law_signals_here","_law_found","_law_k"] ["_law_pieces_here","_law_signals_here"] (ak ic):=iM
omit T in theorem xm:(["_law_way","_law_k"]:List Str).Nodup:=by decide +kernel
theorem BB (wy:Fn z k "_law_ways" 5 kR):Fn z (k+1) "_law_routes" 2 (m5 kR):=fQ.go T.CM BA fun _ _ _ _ _ _ _ hr G=>(ah (aR 2 G.nd (cw false aj)) (ah (cT G.own G.calm (iz T.lN (af (bw bq T.fh cj (af (aa 1) aj)) aj)) (aM 3 G.nd) (ai (aR 2 G.nd (aY (bF false) (aa 2) (fm false (cv.of (sc:=(ak ic)) ["_law_pieces_here","_law_signals_here","_law_found","_law_k"] ["_law_way","_law_k"] [none,some 3] rfl (fun _=>rfl) (by decide +kernel)) G.calm (bP (aw wy hr G.gg (af (aa 0) (af (aa 1) (af (cw false aj) (af (av G.hu (av G.hu (aa 1) (aa 3)) al) (af (av G.hu (av G.hu (aa 1) (aa 3)) al) aj))))))) (fun _ _ _ _=>(aM 0 (aA G.gg xm).nd)) (fun _ _ _ _=>fW) (fun _ _ _ _=>(jP (af (aa 1) (af (aa 0) aj))))))))) (ai (aK (aa 2)))))
omit T in theorem Js:aC ["_law_pieces_here","_law_signals_here","_law_wait","_law_points","_law_world"] ["_law_pieces_here","_law_signals_here","_law_wait"] (ak mJ):=iM
omit T in theorem pZ:(["_law_piece"]:List Str).Nodup:=by decide +kernel
theorem Jt (p0:Fn z k "_law_routes" 2 pR):Fn z (k+1) "_law_new" 3 (oR pR):=fQ.go T.LP Js fun _ _ _ _ _ _ _ hr G=>(ah (kI true 3 (cv.of (sc:=(ak mJ)) ["_law_pieces_here","_law_signals_here","_law_wait","_law_points","_law_world"] ["_law_piece"] [none] rfl (fun _=>rfl) (by decide +kernel)) G.calm G.nd (bP (aa 0)) (fun _ _ _ _=>(aM 0 (aA G.gg pZ).nd)) (fun _ _ _ _=>fW) (fun _ _ _ _=>(sW (aD (bQ (aA G.gg pZ).hu) (av (aA G.gg pZ).hu (aa 0) al) ay) ay dS)) (by with_unfolding_all rfl)) (ah (aR 4 G.nd (HG (lG (aa 0) (lG (aa 1) (lG (aa 2) (lG (aa 3) (lG (cw false aj) (lG al HF)))))))) (ah (dZ G.hu (aa 4) ay (aw p0 hr G.gg (af (aa 0) (af (aa 1) aj)))) (ah (dZ G.hu (aa 4) ay (aY (ka true) (cw false (af dS aj)) (bw bq T.fh cj (af (aa 0) aj)))) (ah (dZ G.hu (aa 4) ay oO) (ah (dZ G.hu (aa 4) ay oO) (ai (aK (aa 4)))))))))
omit T in theorem xn:aC ["_law_world","_law_at","_law_found"] ["_law_world","_law_at"] (ak gA):=iM
omit T in theorem cL:(["_law_name","_law_at","_law_world"]:List Str).Nodup:=by decide +kernel
omit T in theorem nE:(["_law_step"]:List Str).Nodup:=by decide +kernel
theorem xp:Fn z (k+1) "_law_train_in" 2 (i6):=fQ.go T.zc xn fun _ _ _ _ _ _ _ hr G=>(ah (qB (kI false 2 (cv.of (sc:=(ak gA)) ["_law_world","_law_at","_law_found"] ["_law_name","_law_at","_law_world"] [none,some 1,some 0] rfl (fun _=>rfl) (by decide +kernel)) G.calm G.nd (yA (av G.hu (aa 0) ay)) (fun _ _ _ _=>(aM 0 (aA G.gg cL).nd)) (fun _ _ _ _=>(i0 (aD (ij (aA G.gg cL).hu) (aa 1) (fm false (cv.of (sc:=(Ck _ (ak gA))) ["_law_name","_law_at","_law_world"] ["_law_step"] [none] rfl (EZ (fun _=>rfl) rfl) (by decide +kernel)) (aA G.gg cL).calm (bP (av (aA G.gg cL).hu (av (aA G.gg cL).hu (av (aA G.gg cL).hu (aa 2) ay) (aa 0)) al)) (fun _ _ _ _=>(aM 0 (aA (aA G.gg cL).gg nE).nd)) (fun _ _ _ _=>fW) (fun _ _ _ _=>(av (aA (aA G.gg cL).gg nE).hu (aa 0) al)))))) (fun _ _ _ _=>(aa 0)) (by with_unfolding_all rfl))) (ai (aK (sW (bV (aa 2)) (av G.hu (aa 2) al) dS))))
omit T in theorem FX:aC ["_law_world","_law_at"] ["_law_world","_law_at"] (ak ma):=iM
theorem FY (gS:Fn z k "_law_train_in" 2 fv):Fn z (k+1) "_law_held" 2 (m8 fv):=fQ.go T.Ji FX fun _ _ _ _ _ _ _ hr G=>(ai (aK (QC (iV uD (av G.hu (av G.hu (aa 0) ay) (aa 1)) dS) (Cg (iV uD (aw gS hr G.gg (af (aa 0) (af (aa 1) aj))) dS)))))
omit T in theorem FZ:aC ["_law_world","_law_route"] ["_law_world","_law_route"] (ak kB):=iM
omit T in theorem tM:(["_law_lock","_law_route"]:List Str).Nodup:=by decide +kernel
theorem F0:Fn z (k+1) "_law_free" 2 (m9):=fQ.go T.Jj FZ fun _ _ _ _ _ _ _ hr G=>(ai (dZ G.hu (aa 0) ay (fm true (cv.of (sc:=(ak kB)) ["_law_world","_law_route"] ["_law_lock","_law_route"] [none,some 1] rfl (fun _=>rfl) (by decide +kernel)) G.calm (bP (av G.hu (aa 0) ay)) (fun _ _ _ _=>(aM 0 (aA G.gg tM).nd)) (fun _ _ _ _=>fW) (fun _ _ _ _=>(sW (aD (bQ (aA G.gg tM).hu) (aa 0) (aa 1)) dS (aa 0))))))
omit T in theorem Ju:aC ["_law_world","_law_route","_law_way","_law_step","_law_piece"] ["_law_world","_law_route"] (ak mK):=iM
omit T in theorem p3:(["_law_step","_law_world"]:List Str).Nodup:=by decide +kernel
theorem Jv (mG:Fn z k "_law_held" 2 kS):Fn z (k+1) "_law_set" 2 (mx kS):=fQ.go T.LQ Ju fun _ _ _ _ _ _ _ hr G=>(ah (aR 2 G.nd (av G.hu (av G.hu (av G.hu (aa 0) ay) (aa 1)) al)) (ah (ba (bV (bw (E5 G.calm) T.RS KO (af (fm false (cv.of (sc:=(ak mK)) ["_law_world","_law_route","_law_way","_law_step","_law_piece"] ["_law_step","_law_world"] [none,some 0] rfl (fun _=>rfl) (by decide +kernel)) G.calm (bP (aa 2)) (fun _ _ _ _=>(aM 0 (aA G.gg p3).nd)) (fun _ _ _ _=>fW) (fun _ _ _ _=>(aw mG hr (aA G.gg p3).gg (af (aa 1) (af (av (aA G.gg p3).hu (aa 0) al) aj))))) aj))) (ai (aK ay)) aL) (ah (cT G.own G.calm (bP (aa 2)) (aM 3 G.nd) (ah (dZ G.hu (av G.hu (aa 0) ay) (av G.hu (aa 3) al) (aa 1)) (ah (aR 4 G.nd (av G.hu (av G.hu (aa 0) ay) (av G.hu (aa 3) al))) (ai (ba (aD (bQ G.hu) (av G.hu (aa 4) al) ay) (ai (dZ G.hu (av G.hu (aa 0) ay) (av G.hu (aa 3) al) (av G.hu (cw false (af ay (af ay aj))) (fF vj T.Mx DC (af (iV (ij G.hu) (av G.hu (aa 4) al) (qt false (aa 3) (kh al) ke)) aj))))) aL))))) (ah (dZ G.hu (aa 0) ay (aY (bF false) (av G.hu (aa 0) ay) (cw false (af (aa 1) aj)))) (ai (aK ay))))))
omit T in theorem F5:aC ["_law_world","_law_signal","_law_joint","_law_at","_law_found","_law_name","_law_train","_law_head"] ["_law_world","_law_signal"] (ak p7):=iM
theorem F6:Fn z (k+1) "_law_near" 2 (nc):=fQ.go T.Jk F5 fun _ _ _ _ _ _ _ hr G=>(ah (Hq (av G.hu (av G.hu (aa 0) ay) (aa 1)) (pM G.calm (dY (aM 2 G.nd) (dY (aM 3 G.nd) mU)))) (ah (aR 4 G.nd (cw true aj)) (ah (qB (cT G.own G.calm (yA (av G.hu (aa 0) ay)) (aM 5 G.nd) (ah (aR 6 G.nd (av G.hu (av G.hu (aa 0) ay) (aa 5))) (ah (aR 7 G.nd (av G.hu (av G.hu (aa 6) al) al)) (ai (ba (VW.vt (iX (aD (bQ G.hu) (av G.hu (aa 6) al) (cw false aj)) (iX (jR (bV (av G.hu (aa 6) al))) (iX (aD (bQ G.hu) (av G.hu (aa 7) al) (aa 2)) (iW (aD (jQ G.hu) (av G.hu (aa 7) al) (aa 3))))))) (ai (bG (lF PySem.F.slot_list_append PySem.F.type_list_append fV (aa 4) (af (aa 5) aj)))) aL)))))) (ai (aK (rN (aa 4)))))))
omit T in theorem BC:aC ["_law_world","_law_route","_law_joint","_law_at","_law_names","_law_border"] ["_law_world","_law_route"] (ak ie):=iM
omit T in theorem pD:(["_law_one","_law_route"]:List Str).Nodup:=by decide +kernel
theorem BD (wz:Fn z k "_law_near" 2 vz) (gy:Fn z k "_law_beyond" 3 dH) (mH:Fn z k "_law_free" 2 kT):Fn z (k+1) "_law_cancel" 2 (gI vz dH kT):=fQ.go T.CN BC fun _ _ _ _ _ _ _ hr G=>(ah (ba (aD (oM G.hu) (aa 1) (av G.hu (aa 0) ay)) (ai (aK ay)) aL) (ah (dZ G.hu (aa 0) ay (fm false (cv.of (sc:=(ak ie)) ["_law_world","_law_route","_law_joint","_law_at","_law_names","_law_border"] ["_law_one","_law_route"] [none,some 1] rfl (fun _=>rfl) (by decide +kernel)) G.calm (bP (av G.hu (aa 0) ay)) (fun _ _ _ _=>(aM 0 (aA G.gg pD).nd)) (fun _ _ _ _=>(i0 (aD (jQ (aA G.gg pD).hu) (aa 0) (aa 1)))) (fun _ _ _ _=>(aa 0)))) (ah (Hq (av G.hu (av G.hu (aa 0) ay) (av G.hu (av G.hu (av G.hu (aa 0) ay) (aa 1)) al)) (pM G.calm (dY (aM 2 G.nd) (dY (aM 3 G.nd) mU)))) (ah (aR 4 G.nd (aw wz hr G.gg (af (aa 0) (af (av G.hu (av G.hu (av G.hu (aa 0) ay) (aa 1)) al) aj)))) (ah (aR 5 G.nd (iV pL (aw gy hr G.gg (af (av G.hu (aa 0) ay) (af (aa 3) (af (aa 2) aj)))) dS)) (ah (ba (VW.vt (iX (aD lS (av G.hu (aa 0) ay) al) (iW (VW.vt (ph (bV (aa 4)) (lT (bV (aa 5)))))))) (ai (dZ G.hu (av G.hu (aa 0) ay) (aa 1) (jP (af (aY (bF false) (av G.hu (aa 0) ay) (av G.hu (aa 0) ay)) (af (aa 4) (af (aa 5) aj)))))) (ai (bG (aw mH hr G.gg (af (aa 0) (af (aa 1) aj)))))) (ai (aK ay))))))))
omit T in theorem F7:aC ["_law_world","_law_route"] ["_law_world"] (ak md):=iM
theorem F8 (mH:Fn z k "_law_free" 2 kT):Fn z (k+1) "_law_tick" 1 (ng kT):=fQ.go T.Jl F7 fun _ _ _ _ _ _ _ hr G=>(ah (dZ G.hu (aa 0) ay (aY (bF false) (av G.hu (aa 0) ay) al)) (ah (cT G.own G.calm (bP (fF (vv false G.calm) T.pY kJ (af (av G.hu (aa 0) ay) aj))) (aM 1 G.nd) (ai (ba (aD Hg (av G.hu (av G.hu (av G.hu (aa 0) ay) (aa 1)) al) (av G.hu (aa 0) ay)) (ah (bG (qy G.hu (av G.hu (aa 0) ay) (aa 1))) (ai (bG (aw mH hr G.gg (af (aa 0) (af (aa 1) aj)))))) aL))) (ai (aK ay))))
omit T in theorem CS:aC ["_law_world","_law_at"] ["_law_world","_law_at"] (ak kr):=iM
theorem CT (mG:Fn z k "_law_held" 2 kS):Fn z (k+1) "_law_throw" 2 (iA kS):=fQ.go T.FG CS fun _ _ _ _ _ _ _ hr G=>(ah (ba (aD (bQ G.hu) (av G.hu (av G.hu (av G.hu (aa 0) ay) (aa 1)) al) ay) (ai (aK ay)) aL) (ah (ba (bV (aw mG hr G.gg (af (aa 0) (af (aa 1) aj)))) (ai (aK ay)) aL) (ah (dZ G.hu (av G.hu (aa 0) ay) (aa 1) (av G.hu (HG (lG ay (lG ay HF))) (av G.hu (av G.hu (aa 0) ay) (aa 1)))) (ai (aK ay)))))
omit T in theorem LV:aC ["_law_found","_law_due_here"] ["_law_found","_law_due_here"] (ak rm):=iM
theorem LW:Fn z (k+1) "_law_is" 2 (qD):=fQ.go T.OP LV fun _ _ _ _ _ _ _ hr G=>(ai (aK (Hm (iV (bQ G.hu) (HD "bool" (aa 0) T.gR T.Jb AB) (HD "bool" (aa 1) T.gR T.Jb AB)) (Cg (iV (bQ G.hu) (aa 0) (aa 1))))))
omit T in theorem F9:aC ["_law_yard","_law_world","_law_at","_law_signals_here","_law_signal","_law_name"] ["_law_yard","_law_world"] (ak jL):=iM
omit T in theorem lP:(["_law_route","_law_world"]:List Str).Nodup:=by decide +kernel
omit T in theorem tN:(["_law_step"]:List Str).Nodup:=by decide +kernel
theorem Ga (sI:Fn z k "_law_is" 2 rV) (BE:Me z k au "time" 1 oa) (lq:Me z k au "lock_of" 2 cC) (gS:Fn z k "_law_train_in" 2 fv) (fB:Me z k au "train_in" 2 bt) (oC:Me z k au "lies" 2 ee) (jY:Me z k au "is_green" 2 cq) (zM:Me z k au "where" 2 nj):Fn z (k+1) "_law_same" 2 (ni au rV oa cC fv bt ee cq nj):=fQ.go T.Jm F9 fun _ _ _ _ _ _ _ hr G=>(ah (ba (jR (bV (aw sI hr G.gg (af (KP BE hr G.gg (aa 0)) (af (av G.hu (aa 1) ay) aj))))) (ai (aK nT)) aL) (ah (cT G.own G.calm (iz T.lN (af (bw bq T.fh cj (af (av G.hu (aa 1) ay) aj)) aj)) (aM 2 G.nd) (ah (ba (jR (bV (aw sI hr G.gg (af (lU lq hr G.gg (aa 0) (af (aa 2) aj)) (af (av G.hu (av G.hu (aa 1) ay) (aa 2)) aj))))) (ai (aK nT)) aL) (ah (ba (jR (bV (aw sI hr G.gg (af (lU fB hr G.gg (aa 0) (af (aa 2) aj)) (af (aw gS hr G.gg (af (aa 1) (af (aa 2) aj))) aj))))) (ai (aK nT)) aL) (ai (ba (VW.vt (iX (aD (bQ G.hu) (av G.hu (av G.hu (av G.hu (aa 1) ay) (aa 2)) al) ay) (iW (aD (jQ G.hu) (lU oC hr G.gg (aa 0) (af (aa 2) aj)) (av G.hu (av G.hu (aa 1) ay) (aa 2)))))) (ai (aK nT)) aL))))) (ah (kI false 3 (cv.of (sc:=(ak jL)) ["_law_yard","_law_world","_law_at","_law_signals_here","_law_signal","_law_name"] ["_law_route","_law_world"] [none,some 1] rfl (fun _=>rfl) (by decide +kernel)) G.calm G.nd (bP (av G.hu (aa 1) ay)) (fun _ _ _ _=>(aM 0 (aA G.gg lP).nd)) (fun _ _ _ _=>fW) (fun _ _ _ _=>(av (aA G.gg lP).hu (av (aA G.gg lP).hu (av (aA G.gg lP).hu (aa 1) ay) (aa 0)) al)) (by with_unfolding_all rfl)) (ah (cT G.own G.calm (iz T.lN (af (bw bq T.fh cj (af (av G.hu (aa 1) ay) aj)) aj)) (aM 4 G.nd) (ai (ba (jR (bV (aw sI hr G.gg (af (lU jY hr G.gg (aa 0) (af (aa 4) aj)) (af (iV (ij G.hu) (aa 4) (aa 3)) aj))))) (ai (aK nT)) aL))) (ah (qB (cT G.own G.calm (yA (av G.hu (aa 1) ay)) (aM 5 G.nd) (ai (ba (aD (jQ G.hu) (lU zM hr G.gg (aa 0) (af (aa 5) aj)) (fm false (cv.of (sc:=(ak jL)) ["_law_yard","_law_world","_law_at","_law_signals_here","_law_signal","_law_name"] ["_law_step"] [none] rfl (fun _=>rfl) (by decide +kernel)) G.calm (bP (av G.hu (av G.hu (av G.hu (aa 1) ay) (aa 5)) al)) (fun _ _ _ _=>(aM 0 (aA G.gg tN).nd)) (fun _ _ _ _=>fW) (fun _ _ _ _=>(av (aA G.gg tN).hu (aa 0) al)))) (ai (aK nT)) aL)))) (ai (aK nT)))))))
omit T in theorem CU:aC ["_law_yard","_law_way","_law_number","_law_kept","_law_found","e","_law_kinds"] ["_law_yard","_law_way","_law_number"] (ak kt):=iM
theorem CV (oE:Fn z k "set_route" 2 jN) (wA:Fn z k "cancel" 2 og) (zN:Fn z k "throw" 2 qE) (CW:Fn z k "tick" 1 vA) (oC:Me z k au "lies" 2 ee) (lq:Me z k au "lock_of" 2 cC) (fB:Me z k au "train_in" 2 bt) (jY:Me z k au "is_green" 2 cq):Fn z (k+1) "_law_asked" 3 (fe aT eT aH lW au jN og qE vA ee cC bt cq):=fQ.go T.FH CU fun _ _ _ _ _ _ _ hr G=>(ah (aR 3 G.nd dS) (ah (aR 4 G.nd dS) (ah (N1 3 5 G.gg T.su (fun pn Et Ex Gt=>(ai (ba (aD (bQ Gt.hu) (aa 1) al) (ai (aR 4 Gt.nd (aw oE hr Gt (af (aa 0) (af (aa 2) aj))))) (ai (ba (aD (bQ Gt.hu) (aa 1) al) (ai (aR 4 Gt.nd (aw wA hr Gt (af (aa 0) (af (aa 2) aj))))) (ai (ba (aD (bQ Gt.hu) (aa 1) al) (ai (aR 4 Gt.nd (aw zN hr Gt (af (aa 0) (af (aa 2) aj))))) (ai (ba (aD (bQ Gt.hu) (aa 1) al) (ai (aR 4 Gt.nd (aw CW hr Gt (af (aa 0) aj)))) (ai (ba (aD (bQ Gt.hu) (aa 1) al) (ai (aR 4 Gt.nd (lU oC hr Gt (aa 0) (af (aa 2) aj)))) (ai (ba (aD (bQ Gt.hu) (aa 1) al) (ai (aR 4 Gt.nd (lU lq hr Gt (aa 0) (af (aa 2) aj)))) (ai (ba (aD (bQ Gt.hu) (aa 1) al) (ai (aR 4 Gt.nd (lU fB hr Gt (aa 0) (af (aa 2) aj)))) (ai (aR 4 Gt.nd (lU jY hr Gt (aa 0) (af (aa 2) aj)))))))))))))))))))) (ah (ba (aD pL (aa 3) dS) (ai (aK (sW (VW.vt (ph (aD lS (aa 1) al) (lT (aD pL (aa 4) dS)))) ay ay))) aL) (ah (aR 6 G.nd (cw false (af (HI [(aT,false),(aH,true),(eT,false),(lW,false)] T.CJ (aa 3) T.gR T.CI) (af (HI [(aT,false),(aH,false),(eT,true),(lW,false)] T.ON (aa 3) T.gR T.OM) (af (KZ [(aT,true),(aH,false),(eT,false),(lW,true)] T.wZ (aa 3) T.gR (DJ T.FD (DJ T.RQ N0))) aj))))) (ah (ba (VW.vt (ph (aD (jQ G.hu) (lF PySem.F.slot_list_count PySem.F.type_list_count (rO G.hu) (aa 6) (af nT aj)) al) (lT (jR (bV (KY [(aT,true),(aH,true),(eT,true),(lW,true)] T.yW (aa 3) T.gR T.yX vp)))))) (ai (aK ay)) aL) (ai (aK (av G.hu (cw false (af ay (af ay (af ay aj)))) (lF PySem.F.slot_list_index PySem.F.type_list_index (xF G.hu) (aa 6) (af nT aj)))))))))))
omit T in theorem Jw:aC ["_law_world","_law_way","_law_number","_law_many"] ["_law_world","_law_way","_law_number"] (ak oJ):=iM
theorem Jx (zO:Fn z k "_law_set" 2 qF) (p4:Fn z k "_law_cancel" 2 kU) (sJ:Fn z k "_law_throw" 2 my) (wB:Fn z k "_law_tick" 1 oh):Fn z (k+1) "_law_due" 3 (gJ qF kU my oh):=fQ.go T.LR Jw fun _ _ _ _ _ _ _ hr G=>(ah (aR 3 G.nd (bw bq T.fh cj (af (av G.hu (aa 0) ay) aj))) (ah (ba (aD (ij G.hu) (aa 1) (jP (af al (af al (af al (af al aj)))))) (ai (aR 3 G.nd (bw bq T.fh cj (af (av G.hu (aa 0) ay) aj)))) aL) (ah (ba (aD (bQ G.hu) (aa 1) al) (ai (aR 3 G.nd (bw bq T.fh cj (af (av G.hu (aa 0) ay) aj)))) aL) (ah (ba (VW.vt (iX (aD (jQ G.hu) (aa 1) al) (iW (jR (Hl Hg rJ al (aa 2) (aa 3)))))) (ai (aK ay)) aL) (ah (ba (aD (bQ G.hu) (aa 1) al) (ai (aK (aw zO hr G.gg (af (aa 0) (af (aa 2) aj))))) aL) (ah (ba (aD (bQ G.hu) (aa 1) al) (ai (aK (aw p4 hr G.gg (af (aa 0) (af (aa 2) aj))))) aL) (ah (ba (aD (bQ G.hu) (aa 1) al) (ai (aK (aw sJ hr G.gg (af (aa 0) (af (aa 2) aj))))) aL) (ah (ba (aD (bQ G.hu) (aa 1) al) (ai (aK (aw wB hr G.gg (af (aa 0) aj)))) aL) (ai (aK (sW (VW.vt (iX (aD (bQ G.hu) (aa 1) al) (iW (aD (bQ G.hu) (av G.hu (av G.hu (av G.hu (aa 0) ay) (aa 2)) al) ay)))) ay ay)))))))))))
omit T in theorem CY:aC ["_law_script","_law_pieces_here","_law_signals_here","_law_wait","_law_yard","_law_world","_law_k","_law_number","_law_way","_law_many","_law_at"] ["_law_script"] (ak eQ):=iM
theorem CZ {f fd} (D:GY z.K "law" "law" eQ f fd) (p5:Fn z (k+1) "_law_pieces" 2 pS) (oF:Fn z (k+1) "_law_signals" 3 oj) (eD:Fn z (k+1) "_law_mix" 2 dO) (BF:In z k "Yard" au 4 om) (zP:Fn z (k+1) "_law_new" 3 yB) (wC:Fn z (k+1) "_law_same" 2 vB) (sL:Fn z (k+1) "_law_asked" 3 rW) (zQ:Fn z (k+1) "_law_due" 3 yC):lx z.P z.w z.K z.mg z.base (nL z.P z.w) (k+2) f fd ["_law_script"] (Gj z.K 1 (oi au pS oj dO om yB vB rW yC)):=QZ D CY fun _ _ _ _ _ _ hr G=>(ah (aR 1 G.nd (aw p5 hr G.gg (af (aa 0) (af al aj)))) (ah (aR 2 G.nd (aw oF hr G.gg (af (aa 0) (af al (af (aa 1) aj))))) (ah (aR 3 G.nd (aY cQ (aw eD hr G.gg (af (aa 0) (af al aj))) al)) (ah (aR 4 G.nd (DD BF hr G.gg (af (fF (kH false) T.pY kJ (af (aa 1) aj)) (af (fF (kH false) T.pY kJ (af (aa 2) aj)) (af (aa 3) aj))))) (ah (aR 5 G.nd (aw zP hr G.gg (af (aa 1) (af (aa 2) (af (aa 3) aj))))) (ah (cT G.own G.calm (iz T.lN (af (aY cQ (aw eD hr G.gg (af (aa 0) (af al aj))) al) aj)) (aM 6 G.nd) (ah (aR 7 G.nd (aw eD hr G.gg (af (aa 0) (af (aY (bF false) al (aY (ka false) al (aa 6))) aj)))) (ah (aR 8 G.nd (av G.hu (cw false (af al (af al (af al (af al (af al (af al (af al (af al (af al (af al (af al (af al aj))))))))))))) (aY cQ (aa 7) al))) (ah (aR 9 G.nd (av G.hu (cw false (af (bw bq T.fh cj (af (av G.hu (aa 5) ay) aj)) (af (bw bq T.fh cj (af (aa 1) aj)) (af (bw bq T.fh cj (af (aa 2) aj)) aj)))) (aY cQ (aw eD hr G.gg (af (aa 0) (af (aY (bF false) al (aY (ka false) al (aa 6))) aj))) al))) (ah (aR 10 G.nd (aY cQ (aY kD (aa 7) al) (bw (EO G.calm) T.RT KM (af al (af (aa 9) aj))))) (ah (ba (VW.vt (iX (aD (bQ G.hu) (aa 8) al) (iX (bV (av G.hu (aa 5) ay)) (iW (aD lS (aY cQ (aY kD (aa 7) al) al) al))))) (ai (aR 10 G.nd (av G.hu (av G.hu (aa 5) ay) (aY cQ (aY kD (aa 7) al) (bw bq T.fh cj (af (av G.hu (aa 5) ay) aj)))))) aL) (ah (ba (aD (bQ G.hu) (aY cQ (aY kD (aa 7) al) al) al) (ai (aR 10 G.nd (av G.hu (cw false (af (NW al) (af (bw bq T.fh cj (af (aa 1) aj)) (af (bw bq T.fh cj (af (av G.hu (aa 5) ay) aj)) (af al aj))))) (aY cQ (aY kD (aa 7) al) al)))) aL) (ai (ba (VW.vt (ph (aD (jQ G.hu) (aw sL hr G.gg (af (aa 4) (af (aa 8) (af (aa 10) aj)))) (aw zQ hr G.gg (af (aa 5) (af (aa 8) (af (aa 10) aj))))) (lT (jR (bV (aw wC hr G.gg (af (aa 4) (af (aa 5) aj)))))))) (ai (aK nT)) aL))))))))) (ai (aK nT))))))))
theorem Ec:∀n,∃g,Fn z (3+n) "ways_on" 5 g/\DQ n g
 | 0=>⟨_,fQ.bad T.xX wd,fun ps ss way j a M ok hn _=>by have:=ok.len; omega⟩
 | n+1=>by
  obtain⟨g,F,S⟩:=Ec n
  have F1:Fn z 1 "joints_of" 1 _:=q0 T
  have F2:Fn z 2 "pieces_at" 2 _:=q8 T F1
  have F3:Fn z 3 "piece_beyond" 3 _:=nC T F2
  have F4:Fn z 2 "joints_out" 2 _:=xf T F1
  exact⟨_,(CQ T (F4.mono (by omega)) (F3.mono (by omega)) F).trunc,N6 S⟩
theorem BG:∀n,∃g,Fn z (3+n) "_law_ways" 5 g/\DR n g
 | 0=>⟨_,fQ.bad T.Bu xY,fun ps ss way j a M ok hn _=>by have:=ok.len; omega⟩
 | n+1=>by
  obtain⟨g,F,S⟩:=BG n
  have F1:Fn z 1 "_law_outs" 2 _:=FV T
  have F2:Fn z 1 "_law_beyond" 3 _:=tJ T
  exact⟨_,(FW T (F1.mono (by omega)) (F2.mono (by omega)) F).trunc,N7 (fun p j M=>Sb.kA p j M) (fun ps n j M h=>Sb.fU ps n j M h) S⟩
theorem OQ {f:Addr} {fd:FuncData} (F:GY z.K "law" "law" eQ f fd):lx z.P z.w z.K z.mg z.base (nL z.P z.w) 40 f fd ["_law_script"] (AO z.K):=by
 obtain⟨gw,Fw,Sw⟩:=Ec T fuel
 obtain⟨gl,Fl,Sl⟩:=BG T fuel
 have wx:Fn z 1 "_law_cell" 2 _:=FT T
 have eD:Fn z 2 "_law_mix" 2 _:=Jq T wx.up
 have p5:Fn z 3 "_law_pieces" 2 _:=(Bz T eD.up).trunc
 have gy:Fn z 1 "_law_beyond" 3 _:=tJ T
 have oF:Fn z 3 "_law_signals" 3 _:=(zL T eD.up gy.up).trunc
 have cV:Fn z 1 "joints_of" 1 _:=q0 T
 have iG:Fn z 2 "pieces_at" 2 _:=q8 T cV.up
 have lg:Fn z 3 "check_joints" 2 _:=ud T iG.up
 have la:Fn z 4 "check_pieces" 1 _:=ub T lg.up cV.up
 have jX:Fn z 2 "check_signals" 2 _:=sA T cV.up
 have nz:Fn z 5 "check_yard" 2 _:=xh T la.up jX.up
 have wg:Fn z 21 "routes" 2 _:=(FJ T nz.up Fw.up).trunc
 have BH:In z 22 "Yard" au 4 _:=zl T wg.up
 have p0:Fn z 21 "_law_routes" 2 _:=BB T Fl.up
 have zP:Fn z 22 "_law_new" 3 _:=Jt T p0.up
 have sI:Fn z 1 "_law_is" 2 _:=LW T
 have BI:Me z 1 au "time" 1 _:=zo T
 have cF:Fn z 1 "is_number_of" 2 _:=uy T
 have cS:Fn z 2 "check_piece" 2 _:=wu T cF.up
 have oG:Me z 3 au "lock_of" 2 _:=uh T cS.up
 have gS:Fn z 1 "_law_train_in" 2 _:=xp T
 have eV:Fn z 1 "pieces_under" 1 _:=uf T
 have jZ:Me z 3 au "train_in" 2 _:=sE T cS.up eV.up
 have iH:Fn z 1 "is_points" 1 _:=zi T
 have eX:Fn z 3 "check_points" 2 _:=uu T cS.up iH.up
 have tO:Me z 4 au "lies" 2 _:=zq T eX.up
 have lh:Fn z 2 "check_signal" 2 _:=uw T cF.up
 have nF:Me z 3 au "is_green" 2 _:=sG T lh.up
 have lj:Fn z 1 "train_called" 2 _:=uq T
 have zR:Me z 2 au "where" 2 _:=xj T eV.up lj.up
 have wC:Fn z 5 "_law_same" 2 _:=Ga T sI.up BI.up oG.up gS.up jZ.up tO.up nF.up zR.up
 have fK:Fn z 2 "check_route" 2 _:=wo T cF.up
 have jd:Fn z 1 "way_of" 2 _:=FQ T
 have dD:Fn z 4 "check_not_held" 2 _:=rg T jZ.up
 have sH:Fn z 2 "lie_for" 2 _:=CP T iH.up
 have iI:Fn z 1 "signal_of" 2 _:=zx T
 have oE:Fn z 5 "set_route" 2 _:=zv T fK.up jd.up dD.up sH.up iI.up
 have cW:Fn z 3 "piece_beyond" 3 _:=nC T iG.up
 have lp:Fn z 4 "signal_ahead" 2 _:=um T cW.up
 have nA:Fn z 5 "train_near" 2 _:=xl T lp.up
 have oB:Fn z 4 "is_border" 3 _:=zg T cW.up
 have ll:Fn z 5 "is_at_border" 2 _:=uj T oB.up
 have BJ:In z 1 "Fall" i4 3 _:=zt T
 have mF:Fn z 1 "unlock" 2 _:=FO T
 have wA:Fn z 6 "cancel" 2 _:=FL T fK.up iI.up nA.up ll.up BJ.up mF.up jd.up
 have zN:Fn z 5 "throw" 2 _:=Jo T eX.up dD.up
 have CW:Fn z 2 "tick" 1 _:=LU T mF.up jd.up
 have sL:Fn z 7 "_law_asked" 3 _:=CV T oE.up wA.up zN.up CW.up tO.up oG.up jZ.up nF.up
 have mG:Fn z 2 "_law_held" 2 _:=FY T gS.up
 have zO:Fn z 3 "_law_set" 2 _:=Jv T mG.up
 have wz:Fn z 1 "_law_near" 2 _:=(F6 T ).trunc
 have mH:Fn z 1 "_law_free" 2 _:=F0 T
 have p4:Fn z 2 "_law_cancel" 2 _:=BD T wz.up gy.up mH.up
 have sJ:Fn z 3 "_law_throw" 2 _:=CT T mG.up
 have wB:Fn z 2 "_law_tick" 1 _:=F8 T mH.up
 have zQ:Fn z 4 "_law_due" 3 _:=Jx T zO.up p4.up sJ.up wB.up
 have LL:=CZ (k:=38) T F p5.up oF.up eD.up BH.up zP.up wC.up sL.up zQ.up
 have hj:yI bL:=fun p M=>Sb.fR p M
 have hc:∀ps ss,mB ps ss->nw (i3 (gD aT (gE aT (du bL)) bL) (fN aT bL)) [aV ps,bD ss]:=fun ps ss hg =>
  Sb.gz (Sb.eG hg (fun p hp=>Sb.eJ (fun ps j M h=>Sb.eZ ps j M h) (by have:=hg.pd; omega) hg.two (hg.BK p hp) (hg.once p hp)) hj) (Sb.dW hg hj)
 have S9:=Sb.l4 hc Sw
 have hm:qN (oQ m3):=Sb.oI Sb.l9
 have hb:uJ ki:=fun ps n j M h=>Sb.fU ps n j M h
 have SH:WR (dz (du bL)):=fun ps a x M h=>Sb.dE ps a x M h
 let C:Cs:=⟨au,i4,aH,eT⟩
 have VL:=RC (C:=C)
 have ti:=RF (C:=C) (gu:=jn jT) VL
 have nh:=RG (C:=C) ti
 have WV:=RE (C:=C) VL Mr
 have Ss:=Vq (C:=C) Ms IZ nh (RK Mr) Mt
 have Zb:=Vr (C:=C) Ms Mt (RH (ga:=mv jT au (dz (du bL)))) (RI (OJ SH)) RJ Mu IZ
 have Zc:=Vs (C:=C) WV nh
 have Zd:=Vt (C:=C) Mu IZ
 have WW:=Vu (C:=C) WV
 have WX:=Vv (C:=C) VL
 have WY:=Vw (C:=C) ti
 have WZ:=Vx (C:=C) RD
 have he:=RL Mv
 have Ze:=VC he
 have Zf:=VD RM hb Mw
 have Zg:=VF he
 have Zh:=VH Mw
 have wI:=OK (C:=C) T.Za Ss Zb Zc Zd WW WX WY WZ Ze Zf Zg Zh
 have Vg:=OL (C:=C) (SO:=nY (jn jT) (mw aH au)) RN RO WX Mv WY WW WZ
 exact(LL.imp fun _ _ _ _ h=>Fd (fun ns=>Sb.eQ (C:=C) (Sb.fj hm) (Sb.iw hm hb) hm (fun ps ss wait M hg=>Sb.fT S9 hg wait M) (RP (Sb.ic Sl)) Vg wI ns) h).mono (by decide)
end
open Hd
theorem all_mk {P:Program} {w:World} {K:Fg} {h:Heap} {mg:Str->Option Value} {fa:Addr} (X:K.In h) (G:h.Ns mainGlobals mg) (Zi:mg "law" = some (.ref fa)) (H:All facts K) :
  ∃fd:FuncData,(∀(s:Shared) (u:Value),BindsTo s fd ⟨[u],[]⟩ [("_law_script",u)])/\∀base:Heap,K.In base->base.Ns mainGlobals mg->lx P w K mg base (nL P w) 40 fa fd ["_law_script"] (AO K):=by
 have T:Top K mg 44 31 68 56 80 257 236 236:=⟨⟨mg_of X G (H.x 0 rfl).a,(H.b 5 rfl)⟩,⟨mg_of X G (H.x 2 rfl).a,(H.b 6 rfl)⟩,⟨mg_of X G (H.x 3 rfl).a,(H.b 7 rfl)⟩,mg_of X G (H.x 0 rfl).a,mg_of X G (H.x 2 rfl).a,mg_of X G (H.x 3 rfl).a,mg_of X G (H.x 4 rfl).a,⟨mg_of X G (H.x 1 rfl).a,UR (H.o 8 rfl) (H.o 9 rfl) (H.o 10 rfl) (H.o 11 rfl)⟩,⟨qG ⟨(H.x 0 rfl).xc,(H.o 12 rfl)⟩ ⟨(H.x 3 rfl).xc,(H.o 13 rfl)⟩ ⟨(H.x 2 rfl).xc,(H.o 14 rfl)⟩ ⟨(H.x 4 rfl).xc,(H.o 15 rfl)⟩⟩,⟨qG ⟨(H.x 0 rfl).xc,(H.o 16 rfl)⟩ ⟨(H.x 3 rfl).xc,(H.o 17 rfl)⟩ ⟨(H.x 2 rfl).xc,(H.o 18 rfl)⟩ ⟨(H.x 4 rfl).xc,(H.o 19 rfl)⟩⟩,⟨qG ⟨(H.x 0 rfl).xc,(H.o 20 rfl)⟩ ⟨(H.x 3 rfl).xc,(H.o 21 rfl)⟩ ⟨(H.x 2 rfl).xc,(H.o 22 rfl)⟩ ⟨(H.x 4 rfl).xc,(H.o 23 rfl)⟩⟩,⟨qG ⟨(H.x 0 rfl).xc,(H.o 24 rfl)⟩ ⟨(H.x 3 rfl).xc,(H.o 25 rfl)⟩ ⟨(H.x 2 rfl).xc,(H.o 26 rfl)⟩ ⟨(H.x 4 rfl).xc,(H.o 27 rfl)⟩⟩,⟨(by decide),(by decide),(by decide),(by decide),(by decide),(by decide)⟩,(H.c 28 rfl).fd (H.v 34 rfl),(H.c 28 rfl).fd (H.v 35 rfl),(H.c 31 rfl).fd (H.v 36 rfl),(H.c 31 rfl).fd (H.v 37 rfl),(H.c 31 rfl).fd (H.v 38 rfl),(H.c 31 rfl).fd (H.v 39 rfl),(H.c 31 rfl).fd (H.v 40 rfl),(H.c 31 rfl).fd (H.v 41 rfl),(H.c 31 rfl).fd (H.v 42 rfl),(H.c 31 rfl).fd (H.v 43 rfl),(H.c 31 rfl).fd (H.v 44 rfl),(H.c 31 rfl).fd (H.v 45 rfl),(H.c 31 rfl).fd (H.v 46 rfl),mg_none_of X G (H.v 47 rfl),mg_none_of X G (H.v 48 rfl),mg_none_of X G (H.v 49 rfl),mg_none_of X G (H.v 50 rfl),mg_none_of X G (H.v 51 rfl),mg_none_of X G (H.v 52 rfl),mg_none_of X G (H.v 53 rfl),mg_none_of X G (H.v 54 rfl),mg_none_of X G (H.v 55 rfl),mg_none_of X G (H.v 56 rfl),mg_none_of X G (H.v 57 rfl),mg_none_of X G (H.v 58 rfl),⟨284,mg_of X G (H.v 59 rfl)⟩,⟨280,mg_of X G (H.v 60 rfl)⟩,⟨282,mg_of X G (H.v 61 rfl)⟩,(H.f 62 rfl:FnAt K (nsIn K mainGlobals "joints_of") "joints_of" "joints_of" fR).de X G,(H.f 63 rfl:FnAt K (nsIn K mainGlobals "pieces_at") "pieces_at" "pieces_at" eZ).de X G,(H.f 64 rfl:FnAt K (nsIn K mainGlobals "piece_beyond") "piece_beyond" "piece_beyond" dE).de X G,(H.f 65 rfl:FnAt K (nsIn K mainGlobals "is_border") "is_border" "is_border" il).de X G,(H.f 66 rfl:FnAt K (nsIn K mainGlobals "joints_out") "joints_out" "joints_out" fi).de X G,(H.f 67 rfl:FnAt K (nsIn K mainGlobals "is_points") "is_points" "is_points" ip).de X G,(H.f 68 rfl:FnAt K (nsIn K mainGlobals "lie_for") "lie_for" "lie_for" kq).de X G,(H.f 69 rfl:FnAt K (nsIn K mainGlobals "check_yard") "check_yard" "check_yard" gz).de X G,(H.f 70 rfl:FnAt K (nsIn K mainGlobals "check_pieces") "check_pieces" "check_pieces" eG).de X G,(H.f 71 rfl:FnAt K (nsIn K mainGlobals "check_joints") "check_joints" "check_joints" eJ).de X G,(H.f 72 rfl:FnAt K (nsIn K mainGlobals "check_signals") "check_signals" "check_signals" dW).de X G,(H.f 73 rfl:FnAt K (nsIn K mainGlobals "routes") "routes" "routes" l4).de X G,(H.f 74 rfl:FnAt K (nsIn K mainGlobals "ways_on") "ways_on" "ways_on" l5).de X G,(H.f 75 rfl:FnAt K (nsIn K mainGlobals "pieces_under") "pieces_under" "pieces_under" fS).de X G,(H.f 76 rfl:FnAt K (findIn K (.ref 236) "__init__") "__init__" "Yard.__init__" fT).Wq (H.b 32 rfl) (H.b 33 rfl) (mg_of X G (H.c 31 rfl).a),(H.f 77 rfl:FnAt K (findIn K (.ref 236) "time") "time" "Yard.time" lC).me (H.c 31 rfl).cl,(H.f 78 rfl:FnAt K (findIn K (.ref 236) "lock_of") "lock_of" "Yard.lock_of" iP).me (H.c 31 rfl).cl,(H.f 79 rfl:FnAt K (findIn K (.ref 236) "train_in") "train_in" "Yard.train_in" hZ).me (H.c 31 rfl).cl,(H.f 80 rfl:FnAt K (findIn K (.ref 236) "lies") "lies" "Yard.lies" lD).me (H.c 31 rfl).cl,(H.f 81 rfl:FnAt K (findIn K (.ref 236) "is_green") "is_green" "Yard.is_green" ia).me (H.c 31 rfl).cl,(H.f 82 rfl:FnAt K (findIn K (.ref 236) "where") "where" "Yard.where" j6).me (H.c 31 rfl).cl,(H.f 83 rfl:FnAt K (findIn K (.ref 257) "__init__") "__init__" "Fall.__init__" iq).Wq (H.b 29 rfl) (H.b 30 rfl) (mg_of X G (H.c 28 rfl).a),(H.f 84 rfl:FnAt K (nsIn K mainGlobals "set_route") "set_route" "set_route" ir).de X G,(H.f 85 rfl:FnAt K (nsIn K mainGlobals "cancel") "cancel" "cancel" l6).de X G,(H.f 86 rfl:FnAt K (nsIn K mainGlobals "tick") "tick" "tick" rj).de X G,(H.f 87 rfl:FnAt K (nsIn K mainGlobals "throw") "throw" "throw" oH).de X G,(H.f 88 rfl:FnAt K (nsIn K mainGlobals "unlock") "unlock" "unlock" l7).de X G,(H.f 89 rfl:FnAt K (nsIn K mainGlobals "signal_of") "signal_of" "signal_of" iu).de X G,(H.f 90 rfl:FnAt K (nsIn K mainGlobals "way_of") "way_of" "way_of" l8).de X G,(H.f 91 rfl:FnAt K (nsIn K mainGlobals "is_at_border") "is_at_border" "is_at_border" eL).de X G,(H.f 92 rfl:FnAt K (nsIn K mainGlobals "signal_ahead") "signal_ahead" "signal_ahead" iQ).de X G,(H.f 93 rfl:FnAt K (nsIn K mainGlobals "train_near") "train_near" "train_near" j7).de X G,(H.f 94 rfl:FnAt K (nsIn K mainGlobals "train_called") "train_called" "train_called" iR).de X G,(H.f 95 rfl:FnAt K (nsIn K mainGlobals "check_route") "check_route" "check_route" fC).de X G,(H.f 96 rfl:FnAt K (nsIn K mainGlobals "check_piece") "check_piece" "check_piece" fD).de X G,(H.f 97 rfl:FnAt K (nsIn K mainGlobals "check_points") "check_points" "check_points" eN).de X G,(H.f 98 rfl:FnAt K (nsIn K mainGlobals "check_signal") "check_signal" "check_signal" eO).de X G,(H.f 99 rfl:FnAt K (nsIn K mainGlobals "is_number_of") "is_number_of" "is_number_of" iS).de X G,(H.f 100 rfl:FnAt K (nsIn K mainGlobals "check_not_held") "check_not_held" "check_not_held" dw).de X G,(H.f 101 rfl:FnAt K (nsIn K mainGlobals "_law_cell") "_law_cell" "_law_cell" l9).de X G,(H.f 102 rfl:FnAt K (nsIn K mainGlobals "_law_mix") "_law_mix" "_law_mix" oI).de X G,(H.f 103 rfl:FnAt K (nsIn K mainGlobals "_law_beyond") "_law_beyond" "_law_beyond" fU).de X G,(H.f 104 rfl:FnAt K (nsIn K mainGlobals "_law_pieces") "_law_pieces" "_law_pieces" fj).de X G,(H.f 105 rfl:FnAt K (nsIn K mainGlobals "_law_signals") "_law_signals" "_law_signals" iw).de X G,(H.f 106 rfl:FnAt K (nsIn K mainGlobals "_law_outs") "_law_outs" "_law_outs" kA).de X G,(H.f 107 rfl:FnAt K (nsIn K mainGlobals "_law_ways") "_law_ways" "_law_ways" nN).de X G,(H.f 108 rfl:FnAt K (nsIn K mainGlobals "_law_routes") "_law_routes" "_law_routes" ic).de X G,(H.f 109 rfl:FnAt K (nsIn K mainGlobals "_law_new") "_law_new" "_law_new" mJ).de X G,(H.f 110 rfl:FnAt K (nsIn K mainGlobals "_law_train_in") "_law_train_in" "_law_train_in" gA).de X G,(H.f 111 rfl:FnAt K (nsIn K mainGlobals "_law_held") "_law_held" "_law_held" ma).de X G,(H.f 112 rfl:FnAt K (nsIn K mainGlobals "_law_free") "_law_free" "_law_free" kB).de X G,(H.f 113 rfl:FnAt K (nsIn K mainGlobals "_law_set") "_law_set" "_law_set" mK).de X G,(H.f 114 rfl:FnAt K (nsIn K mainGlobals "_law_near") "_law_near" "_law_near" p7).de X G,(H.f 115 rfl:FnAt K (nsIn K mainGlobals "_law_cancel") "_law_cancel" "_law_cancel" ie).de X G,(H.f 116 rfl:FnAt K (nsIn K mainGlobals "_law_tick") "_law_tick" "_law_tick" md).de X G,(H.f 117 rfl:FnAt K (nsIn K mainGlobals "_law_throw") "_law_throw" "_law_throw" kr).de X G,(H.f 118 rfl:FnAt K (nsIn K mainGlobals "_law_is") "_law_is" "_law_is" rm).de X G,(H.f 119 rfl:FnAt K (nsIn K mainGlobals "_law_same") "_law_same" "_law_same" jL).de X G,(H.f 120 rfl:FnAt K (nsIn K mainGlobals "_law_asked") "_law_asked" "_law_asked" kt).de X G,(H.f 121 rfl:FnAt K (nsIn K mainGlobals "_law_due") "_law_due" "_law_due" oJ).de X G⟩
 obtain⟨_,_,_,_,_,_,F⟩:=(H.f 122 rfl:FnAt K (nsIn K mainGlobals "law") "law" "law" eQ).law X G Zi
 exact⟨_,fun s u=>.of_eq rfl,fun base _ _=>OQ (z:=⟨P,w,K,mg,base⟩) T F⟩
end Rw
open PySem PySem.W PyProof.Rows
set_option maxRecDepth 100000 in
set_option maxHeartbeats 0 in
theorem PySem.Challenge.cw_signalbox_k10_box_holds : PySem.Challenge.rw_signalbox_k10_box.Holds := by
 refine PySem.W.holds_law Rw.W6 fun VM=>?_
 refine PySem.W.holds_open (q:=Rw.Q) (loose:=Rw.ks) (Xt:=fun s=>xlAt Rw.Q [] s && recOk [] s) (XP:=XL Rw.Q []) (Yf:=Hook.obs Rw.hk) (Ya:=Hook.val Rw.hk) (YP:=Hook.says Rw.hk) (N:=6928) (d:=⟨"law",L2.jv Rw.eQ,L2.dN Rw.eQ,L2.ak Rw.eQ,Rw.W3⟩) (kwd:=[])
  (Hd.JJ (boot_open Rw.W4 rfl Rw.W5) Rw.W7 Rw.W8 Rw.run Rw.W9 rfl) (Hook.of Rw.hk) (Hook.keeps Rw.hk) (fun s e=>xl_of s (Bool.and_eq_true_iff.mp e).1) XL.keeps (by kernel_rfl) (by kernel_rfl) (by kernel_rfl) (fun s e=>recFacts_of (Bool.and_eq_true_iff.mp e).2) (by kernel_rfl) VM (by kernel_rfl) ⟨rfl,rfl,rfl,rfl,rfl,by kernel_rfl⟩ ?hw ?hc
 case hw=>w_witness2
 refine Hd.N4 (l:=PySem.Challenge.rw_signalbox_k10_box) (n:=63) (k:=40) (x := "_law_script") (CX:=fun w=>L2.nL PySem.Challenge.rw_signalbox_k10_box.prog w) (sp:=L2.AO) rfl (by decide) (by kernel_rfl) ⟨rfl,by decide,by decide⟩ (fun w mg fa h K KX H G Qn=>Rw.all_mk KX G Qn H) (fun K H a ns _ _ hS=>⟨a,ns,rfl,hS,fun _=>rfl⟩) (fun w H s e s' z=>by obtain⟨_,_,_,_,_,q⟩:=z; exact q)
end
