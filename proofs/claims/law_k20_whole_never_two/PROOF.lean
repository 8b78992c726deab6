import PyProof.Rows.All
import Wide.All
import Wide.FinOn
import Open.Boot
import Open.Tree
import Open.Line
import KE.KTryMore
import KE.KIsAll
import KE.KFromBytes
import KE.KDictList
import KE.KDictOf
import KE.KItem
import Lean
import PyProof.EqAt
import PyProof.EqKinds
import PyProof.TupleCall
import PyProof.Rows.SetFrom
import PyProof.DictWalks
import KE.KRevIter
import KE.KRevSl
import PySem.Challenge.RW_signalbox_k20_whole_never_two
set_option Elab.async false
set_option linter.all false
set_option maxRecDepth 100000
set_option maxHeartbeats 4000000
noncomputable abbrev Fg:=PySem.W.Frag
theorem zA {α:Type _} {a:α} {l:List α}:(a::l)[0]? = some a:=rfl
theorem zB {α:Type _} {a:α} {i:Nat} {l:List α}:(a::l)[i+1]? = l[i]? := rfl
theorem zC {α β:Type _} {f:α->β} {a:α} {l:List α}:(a::l).map f=f a::l.map f:=rfl
theorem zD {α β:Type _} {f:α->β}:([]:List α).map f=[]:=rfl
theorem zE {α:Type _} {a:α} {l:List α}:(a::l).length=l.length+1:=rfl
theorem zF {α:Type _}:([]:List α).length=0:=rfl
theorem zG {α:Type _} {a:α} {l m:List α}:(a::l)++m=a::(l++m):=rfl
theorem zH {α:Type _} {l:List α}:[]++l=l:=rfl
theorem zI {α:Type _} {l:List α}:l++[]=l:=by simp
theorem zJ {α β:Type _} {f:α->β} {l:List α} {i:Nat}:(l.map f)[i]? = l[i]?.map f:=by simp
theorem zK {α β:Type _} {f:α->β} {l:List α}:(l.map f).length=l.length:=by simp
section
namespace L2
open PySem PySem.Spec PyProof.Rows
noncomputable def inClass (s:Stmt) (j:Nat):Stmt:=match s with
 | .ClassDef _ _ _ body _ _ _ _ _ _ _=>body.getD j (.Pass ⟨0,0,0,0⟩)
 | _=>.Pass ⟨0,0,0,0⟩
noncomputable def mQ (s:Stmt):Arguments:=match s with
 | .FunctionDef _ a _ _ _ _ _ _ _ _=>a
 | _=>{ posonlyargs:=[],args:=[],vararg:=none,kwonlyargs:=[],kw_defaults:=[],kwarg:=none,defaults:=[] }
noncomputable def gM (s:Stmt):List Stmt:=match s with
 | .FunctionDef _ _ b _ _ _ _ _ _ _=>b
 | _=>[]
noncomputable def au (s:Stmt):Scope:=match s with
 | .FunctionDef _ _ _ _ _ _ sc _ _ _=>sc
 | _=>{ kind:=.function,names:=[],isGenerator:=false,isCoroutine:=false }
end L2
namespace Hd
open PySem PySem.W PySem.Calls PyProof.Rows
noncomputable def IL (st:SharedT->Thread->Option (SharedT×Thread)) (m:Nat) (ann:Option Value):Nat->SharedT->Thread->Option SharedT
 | 0,_,_=>none
 | n+1,s,t=>match through t with
  | true=>some s
  | false=>match stepOk m ann t with
   | false=>none
   | true=>match st s t with
    | some x=>IL st m ann n x.1 x.2
    | none=>none
theorem KB {tb:String->Option Builtin} {p:Program} {w:World} {m:Nat} {ann:Option Value}:∀{n:Nat} {s s':SharedT} {t:Thread},
  IL (stepT (denote tb) p w) m ann n s t=some s'->topRun tb p w m ann n s.abs t=some s'.abs
 | 0,_,_,_,h=>by cases h
 | n+1,s,s',t,h=>by
  unfold IL at h;unfold topRun;cases ht:through t with
  | true=>rw[ht] at h; cases h; rfl
  | false =>
   rw[ht] at h;cases hk:stepOk m ann t with
   | false=>rw[hk] at h; cases h
   | true =>
    rw[hk] at h;cases hs:stepT (denote tb) p w s t with
    | none=>rw[hs] at h; cases h
    | some x =>
     rw[hs] at h;rw[stepT_spec hs];exact KB h
noncomputable def OA (p q:Program) (loose:List Str) (Xt:Shared->Bool) (g0:Bool) (H₀:Heap) (s:Shared) :=
 ((staticsOk (importedModules p.main.body) H₀ s.heap && namesBound p s.heap && gensDone s && laidKept H₀ s.heap),openSeen q loose (importedModules p.main.body) Xt g0 s)
theorem Sy {p q:Program} {loose:List Str} {Xt:Shared->Bool} {α:Type} {Yf:Shared->α} {Ya:World->α} {N:Nat} {g0:Bool} {H₀:Params->Heap} {ZI:Array GenState} {d₀:Drawn} {k₀:Nat} {m₀:Nat} {ann:Option Value} {M:Nat}
  {T₀:Params->BT} {n₀:Nat} {l₀:Life}
  (ZJ:∀w:World,(fencedOpening treeTable p w N).map (λs=>(s.heap,s.gens,s.drawn,s.toks))=some (H₀ w.params,ZI,d₀,k₀))
  (size:∀w:World,((H₀ w.params).isNs mainGlobals && ZI.size == 0,(H₀ w.params).objs.size,(H₀ w.params).nsMap mainGlobals "__annotations__")=(true,m₀,ann))
  (tree:∀P:Params,absHeap (T₀ P) n₀ l₀=H₀ P)
  (run:∀(w:World) (os:OsState),(IL (stepT (denote treeTable) p w) m₀ ann M ⟨T₀ w.params,n₀,l₀,ZI,d₀,k₀,os⟩ (topStub p)).map (λs=>OA p q loose Xt g0 (H₀ w.params) s.abs)=some (true,openGood q loose))
  (ruB:∀(w:World) (os:OsState),(IL (stepT (denote treeTable) p w) m₀ ann M ⟨T₀ w.params,n₀,l₀,ZI,d₀,k₀,os⟩ (topStub p)).map (λs=>Yf s.abs)=some (Ya w))
  (le:Nat.ble M N=true):LeftO p q loose Xt Yf Ya N g0:=λw=>by
 obtain⟨⟨h,gs,d,k,os⟩,e,e'⟩:=Option.map_eq_some_iff.mp (ZJ w)
 obtain⟨rfl,rfl,rfl,rfl⟩:h=H₀ w.params/\gs=ZI/\d=d₀/\k=k₀:=by simpa using e'
 obtain⟨z1,z2,z3⟩:_/\_/\_:=by simpa only[Prod.mk.injEq] using size w
 obtain⟨sT,r0,l0⟩:=Option.map_eq_some_iff.mp (run w os);unfold OA at l0
 obtain⟨l1,l2⟩:_/\_:=by simpa only[Prod.mk.injEq] using l0
 have l3:Yf sT.abs=Ya w:=by
  have:=ruB w os;rw[r0] at this;exact Option.some.inj this
 have r1:=KB r0;have r:=topRun_mono (N-M) _ _ _ _ r1;rw[show M+(N-M)=N by have:=Nat.le_of_ble_eq_true le; omega] at r
 have a0:SharedT.abs ⟨T₀ w.params,n₀,l₀,gs,d,k,os⟩=⟨H₀ w.params,gs,d,k,os⟩:=by
  show(⟨absHeap (T₀ w.params) n₀ l₀,gs,d,k,os⟩:Shared)=_;rw[tree]
 rw[a0] at r
 have t:topFrom treeTable p w N ⟨H₀ w.params,gs,d,k,os⟩=some sT.abs:=by
  unfold topFrom;dsimp only;rw[z1,z2,z3,r];show(match staticsOk (importedModules p.main.body) (H₀ w.params) sT.abs.heap && namesBound p sT.abs.heap && gensDone sT.abs && laidKept (H₀ w.params) sT.abs.heap with | true=>_ | false=>_)=_
  rw[l1]
 unfold openEnds;rw[e];show(topFrom treeTable p w N _).map _=_;rw[t];exact congrArg some (Prod.ext l2 l3)
noncomputable def treeOf (l:List Obj):BT:=l.zipIdx.foldl (λt x=>t.ins x.2 x.1) .nil
open L2
inductive OB where
 | v (x:Option (Option Value))
 | b (x:Option Bool)
 | f (x:Option (FuncData×Bool))
noncomputable abbrev En:=(Fg->OB)×OB
noncomputable def Sat (K:Fg) (l:List En):Prop:=∀e∈l,e.1 K=e.2
noncomputable def eb (f:Fg->Bool):En:=(λK=>.b (some (f K)),.b (some true))
noncomputable def eo (f:Fg->Option Bool) (v:Option Bool):En:=(λK=>.b (f K),.b v)
noncomputable def ev (f:Fg->Option (Option Value)) (v:Option (Option Value)):En:=(λK=>.v (f K),.v v)
noncomputable def OC (K:Fg) (v:Option (Option Value)) (q:Str):Option (FuncData×Bool):=match v with
 | some (some (.ref f))=>match K.lookup f with
  | some ⟨_,_,.func fd,_⟩=>some ({ fd with kwdefaults:=.none,doc:=.none,pyModule:=.none,annotations:=none,code:=.none,closureTuple:=.none },codeIn K fd.code q && keepIn K (.ref f) && isFn K (.ref f))
  | _=>none
 | _=>none
noncomputable def ef (g:Fg->Option (Option Value)) (x q:Str) (st:Stmt):En:=(λK=>.f (OC K (g K) q),.f (some (PySem.W.fnOf x q (mQ st) (gM st) (au st) .none .none .none .none none .none .none,true)))
noncomputable def WH (x:Str) (C:Addr):List En :=
  [ev (λK=>nsIn K mainGlobals x) (some (some (.ref C))), ev (λK=>findIn K (.ref C) "__getattribute__") (some (some (.builtin "BaseException.__getattribute__"))), ev (λK=>findIn K (.ref C) "__getattr__") (some none),
   ev (λK=>findIn K (.ref C) "__class__") (some (some (.builtin "object.__class__"))), eo (λK=>mroIn K C (.type "object")) (some true), eo (λK=>mroIn K C (.type "BaseException")) (some true), eb (λK=>isClsIn K C),
   ev (λK=>specialIn K (.builtin "object.__class__") "__get__") (some (some (.builtin "getset_descriptor.__get__"))), eo (λK=>takesIn K (.builtin "object.__class__")) (some true)]
noncomputable def ZK (x:Str) (C:Addr):List En :=
 [ev (λK=>nsIn K mainGlobals x) (some (some (.ref C))),eb (λK=>plainGet K C Str.empty),eb (λK=>hasDictIn K C),eb (λK=>plainOver K C),ev (λK=>findIn K (.ref C) "__setattr__") (some (some (.builtin "object.__setattr__")))]
noncomputable def All (l:List (List En)) (K:Fg):Prop:=∀g∈l,Sat K g
noncomputable def Es (as:List Addr) (h:Heap):Fg:=as.filterMap λa=>match h.get? a with
 | some o=>some (a,o)
 | none=>none
theorem L6 (as:List Addr) (h:Heap):(Es as h).In h:=by
 induction as with
 | nil=>intro a o e; cases e
 | cons b as ih =>
  intro a o e;unfold Es at e;rw[List.filterMap_cons] at e;cases hb:h.get? b with
  | none=>rw[hb] at e; exact ih a o e
  | some x =>
   rw[hb] at e;simp only[List.lookup_cons] at e;split at e
   ·rename_i q; cases e; rw[beq_iff_eq.mp q]; exact hb
   ·exact ih a o e
noncomputable def hook (as:List Addr) (L:List (List En)):Hook where
 α:=List (List OB)
 obs s:=L.map λg=>g.map λe=>e.1 (Es as s.heap)
 val _:=L.map λg=>g.map (·.2)
 says _ h:=∃K:Fg,K.In h/\All L K
 of w s e:=⟨Es as s.heap,L6 as s.heap,λg hg x hx=>List.map_inj_left.mp (List.map_inj_left.mp e g hg) x hx⟩
 keeps w h h' x k:=by obtain⟨K,a,b⟩:=x; exact⟨K,a.keeps k,b⟩
end Hd
end
section
namespace Rw
open PySem L2 PySem.W PyProof.Rows PySem.Calls Hd
noncomputable def top (i:Nat):Stmt:=PySem.Challenge.pw_signalbox_k20_whole_never_two.main.body.getD i (.Pass ⟨0,0,0,0⟩)
noncomputable abbrev jT:Stmt:=top 11
noncomputable abbrev iU:Stmt:=top 12
noncomputable abbrev gv:Stmt:=top 13
noncomputable abbrev lz:Stmt:=top 14
noncomputable abbrev iX:Stmt:=top 15
noncomputable abbrev lA:Stmt:=top 16
noncomputable abbrev om:Stmt:=top 17
noncomputable abbrev ko:Stmt:=top 18
noncomputable abbrev iz:Stmt:=top 19
noncomputable abbrev iA:Stmt:=top 20
noncomputable abbrev gX:Stmt:=top 21
noncomputable abbrev ql:Stmt:=top 23
noncomputable abbrev qm:Stmt:=top 24
noncomputable abbrev kq:Stmt:=inClass (top 26) 0
noncomputable abbrev gx:Stmt:=top 27
noncomputable abbrev qo:Stmt:=top 28
noncomputable abbrev jU:Stmt:=inClass (top 30) 0
noncomputable abbrev jV:Stmt:=inClass (top 30) 1
noncomputable abbrev lR:Stmt:=inClass (top 30) 3
noncomputable abbrev kX:Stmt:=inClass (top 30) 4
noncomputable abbrev pQ:Stmt:=inClass (top 30) 5
noncomputable abbrev kY:Stmt:=inClass (top 30) 6
noncomputable abbrev nR:Stmt:=inClass (top 30) 7
noncomputable abbrev lB:Stmt:=inClass (top 31) 0
noncomputable abbrev lC:Stmt:=top 32
noncomputable abbrev qp:Stmt:=top 33
noncomputable abbrev xB:Stmt:=top 34
noncomputable abbrev ur:Stmt:=top 35
noncomputable abbrev qr:Stmt:=top 36
noncomputable abbrev ni:Stmt:=top 37
noncomputable abbrev tu:Stmt:=top 38
noncomputable abbrev jW:Stmt:=top 39
noncomputable abbrev iB:Stmt:=top 40
noncomputable abbrev kr:Stmt:=top 41
noncomputable abbrev iC:Stmt:=top 42
noncomputable abbrev jq:Stmt:=top 43
noncomputable abbrev jr:Stmt:=top 44
noncomputable abbrev iD:Stmt:=top 45
noncomputable abbrev iF:Stmt:=top 46
noncomputable abbrev lS:Stmt:=top 47
noncomputable abbrev fX:Stmt:=top 48
noncomputable abbrev uu:Stmt:=top 50
noncomputable abbrev L7:Stmt:=top 51
noncomputable abbrev xC:Stmt:=top 52
noncomputable abbrev vh:Stmt:=top 53
noncomputable abbrev kt:Stmt:=top 54
noncomputable abbrev jt:Stmt:=top 55
noncomputable abbrev oq:Stmt:=top 56
noncomputable abbrev qt:Stmt:=top 58
noncomputable abbrev uv:Stmt:=top 59
noncomputable abbrev jX:Stmt:=top 60
noncomputable abbrev iY:Stmt:=top 61
noncomputable abbrev lD:Stmt:=top 62
noncomputable abbrev oM:Stmt:=top 63
noncomputable abbrev tw:Stmt:=top 64
noncomputable abbrev k8:Stmt:=top 65
noncomputable abbrev q8:Stmt:=top 66
noncomputable abbrev gZ:Stmt:=top 67
noncomputable abbrev qu:Stmt:=top 68
noncomputable abbrev oN:Stmt:=top 69
noncomputable abbrev ra:Stmt:=top 70
noncomputable abbrev qv:Stmt:=top 71
noncomputable abbrev k9:Stmt:=top 72
noncomputable abbrev qw:Stmt:=top 73
noncomputable abbrev ou:Stmt:=top 74
noncomputable abbrev oO:Stmt:=top 75
noncomputable abbrev ow:Stmt:=top 76
noncomputable abbrev xD:Stmt:=top 77
noncomputable abbrev qx:Stmt:=top 78
noncomputable abbrev nj:Stmt:=top 79
noncomputable abbrev ox:Stmt:=top 80
noncomputable abbrev qy:Stmt:=top 81
noncomputable abbrev oy:Stmt:=top 82
noncomputable abbrev gy:Stmt:=top 83
noncomputable abbrev qz:Stmt:=top 84
noncomputable abbrev iZ:Stmt:=top 85
noncomputable abbrev jY:Stmt:=top 86
noncomputable abbrev fY:Stmt:=top 87
noncomputable def facts:List (List En):=[WH "BadYard" 44,
 WH "BoxError" 31,
 WH "Held" 68,
 WH "NotThere" 56,
 WH "Red" 80,
 [eb λK=>excIn K 44 [.type "ValueError",.type "Exception",.type "BaseException",.type "object"] "ValueError.__new__"],
 [eb λK=>excIn K 68 [.type "ValueError",.type "Exception",.type "BaseException",.type "object"] "ValueError.__new__"],
 [eb λK=>excIn K 56 [.type "ValueError",.type "Exception",.type "BaseException",.type "object"] "ValueError.__new__"],
 [eb λK=>excIn K 80 [.type "ValueError",.type "Exception",.type "BaseException",.type "object"] "ValueError.__new__"],
 [eo (λK=>exmOne K (.ref 44) (.ref 31)) (some true)],
 [eo (λK=>exmOne K (.ref 56) (.ref 31)) (some true)],
 [eo (λK=>exmOne K (.ref 68) (.ref 31)) (some true)],
 [eo (λK=>exmOne K (.ref 80) (.ref 31)) (some true)],
 ZK "Fall" 283,
 [eb λK=>makesIn K 283],
 [eb λK=>keepIn K (.ref 283)],
 ZK "Train" 184,
 [eb λK=>makesIn K 184],
 [eb λK=>keepIn K (.ref 184)],
 ZK "Yard" 262,
 [eb λK=>makesIn K 262],
 [eb λK=>keepIn K (.ref 262)],
 [ev (λK=>findIn K (.ref 283) "near") (some none)],
 [ev (λK=>findIn K (.ref 283) "until") (some none)],
 [ev (λK=>findIn K (.ref 184) "ahead") (some none)],
 [ev (λK=>findIn K (.ref 184) "is_out") (some none)],
 [ev (λK=>findIn K (.ref 184) "steps") (some none)],
 [ev (λK=>findIn K (.ref 262) "falls") (some none)],
 [ev (λK=>findIn K (.ref 262) "found") (some none)],
 [ev (λK=>findIn K (.ref 262) "greens") (some none)],
 [ev (λK=>findIn K (.ref 262) "locks") (some none)],
 [ev (λK=>findIn K (.ref 262) "lying") (some none)],
 [ev (λK=>findIn K (.ref 262) "pieces") (some none)],
 [ev (λK=>findIn K (.ref 262) "signals") (some none)],
 [ev (λK=>findIn K (.ref 262) "ticks") (some none)],
 [ev (λK=>findIn K (.ref 262) "trains") (some none)],
 [ev (λK=>findIn K (.ref 262) "wait") (some none)],
 [ev (λK=>nsIn K mainGlobals "all") (some none)],
 [ev (λK=>nsIn K mainGlobals "any") (some none)],
 [ev (λK=>nsIn K mainGlobals "enumerate") (some none)],
 [ev (λK=>nsIn K mainGlobals "int") (some none)],
 [ev (λK=>nsIn K mainGlobals "len") (some none)],
 [ev (λK=>nsIn K mainGlobals "list") (some none)],
 [ev (λK=>nsIn K mainGlobals "max") (some none)],
 [ev (λK=>nsIn K mainGlobals "min") (some none)],
 [ev (λK=>nsIn K mainGlobals "range") (some none)],
 [ev (λK=>nsIn K mainGlobals "reversed") (some none)],
 [ev (λK=>nsIn K mainGlobals "tuple") (some none)],
 [ev (λK=>nsIn K mainGlobals "LAST_JOINT") (some (some (.int 999 284)))],
 [ev (λK=>nsIn K mainGlobals "MOST_PIECES") (some (some (.int 16 280)))],
 [ev (λK=>nsIn K mainGlobals "MOST_SIGNALS") (some (some (.int 16 282)))],
 [ef (λK=>nsIn K mainGlobals "joints_of") "joints_of" "joints_of" jT],
 [ef (λK=>nsIn K mainGlobals "pieces_at") "pieces_at" "pieces_at" iU],
 [ef (λK=>nsIn K mainGlobals "piece_beyond") "piece_beyond" "piece_beyond" gv],
 [ef (λK=>nsIn K mainGlobals "is_border") "is_border" "is_border" lz],
 [ef (λK=>nsIn K mainGlobals "joints_out") "joints_out" "joints_out" iX],
 [ef (λK=>nsIn K mainGlobals "is_points") "is_points" "is_points" lA],
 [ef (λK=>nsIn K mainGlobals "lie_for") "lie_for" "lie_for" om],
 [ef (λK=>nsIn K mainGlobals "check_yard") "check_yard" "check_yard" ko],
 [ef (λK=>nsIn K mainGlobals "check_pieces") "check_pieces" "check_pieces" iz],
 [ef (λK=>nsIn K mainGlobals "check_joints") "check_joints" "check_joints" iA],
 [ef (λK=>nsIn K mainGlobals "check_signals") "check_signals" "check_signals" gX],
 [ef (λK=>nsIn K mainGlobals "routes") "routes" "routes" ql],
 [ef (λK=>nsIn K mainGlobals "ways_on") "ways_on" "ways_on" qm],
 [ef (λK=>findIn K (.ref 184) "__init__") "__init__" "Train.__init__" kq],
 [ef (λK=>nsIn K mainGlobals "pieces_under") "pieces_under" "pieces_under" gx],
 [ef (λK=>nsIn K mainGlobals "turned") "turned" "turned" qo],
 [ef (λK=>findIn K (.ref 262) "__init__") "__init__" "Yard.__init__" jU],
 [ef (λK=>findIn K (.ref 262) "ways") "ways" "Yard.ways" jV],
 [ef (λK=>findIn K (.ref 262) "lock_of") "lock_of" "Yard.lock_of" lR],
 [ef (λK=>findIn K (.ref 262) "train_in") "train_in" "Yard.train_in" kX],
 [ef (λK=>findIn K (.ref 262) "lies") "lies" "Yard.lies" pQ],
 [ef (λK=>findIn K (.ref 262) "is_green") "is_green" "Yard.is_green" kY],
 [ef (λK=>findIn K (.ref 262) "where") "where" "Yard.where" nR],
 [ef (λK=>findIn K (.ref 283) "__init__") "__init__" "Fall.__init__" lB],
 [ef (λK=>nsIn K mainGlobals "set_route") "set_route" "set_route" lC],
 [ef (λK=>nsIn K mainGlobals "cancel") "cancel" "cancel" qp],
 [ef (λK=>nsIn K mainGlobals "tick") "tick" "tick" xB],
 [ef (λK=>nsIn K mainGlobals "throw") "throw" "throw" ur],
 [ef (λK=>nsIn K mainGlobals "unlock") "unlock" "unlock" qr],
 [ef (λK=>nsIn K mainGlobals "signal_of") "signal_of" "signal_of" ni],
 [ef (λK=>nsIn K mainGlobals "way_of") "way_of" "way_of" tu],
 [ef (λK=>nsIn K mainGlobals "is_at_border") "is_at_border" "is_at_border" jW],
 [ef (λK=>nsIn K mainGlobals "signal_ahead") "signal_ahead" "signal_ahead" iB],
 [ef (λK=>nsIn K mainGlobals "train_near") "train_near" "train_near" kr],
 [ef (λK=>nsIn K mainGlobals "train_called") "train_called" "train_called" iC],
 [ef (λK=>nsIn K mainGlobals "check_route") "check_route" "check_route" jq],
 [ef (λK=>nsIn K mainGlobals "check_piece") "check_piece" "check_piece" jr],
 [ef (λK=>nsIn K mainGlobals "check_points") "check_points" "check_points" iD],
 [ef (λK=>nsIn K mainGlobals "check_signal") "check_signal" "check_signal" iF],
 [ef (λK=>nsIn K mainGlobals "is_number_of") "is_number_of" "is_number_of" lS],
 [ef (λK=>nsIn K mainGlobals "check_not_held") "check_not_held" "check_not_held" fX],
 [ef (λK=>nsIn K mainGlobals "enter") "enter" "enter" uu],
 [ef (λK=>nsIn K mainGlobals "go") "go" "go" L7],
 [ef (λK=>nsIn K mainGlobals "draw") "draw" "draw" xC],
 [ef (λK=>nsIn K mainGlobals "turn") "turn" "turn" vh],
 [ef (λK=>nsIn K mainGlobals "route_past") "route_past" "route_past" kt],
 [ef (λK=>nsIn K mainGlobals "pass_signal") "pass_signal" "pass_signal" jt],
 [ef (λK=>nsIn K mainGlobals "come_on") "come_on" "come_on" oq],
 [ef (λK=>nsIn K mainGlobals "_law_cell") "_law_cell" "_law_cell" qt],
 [ef (λK=>nsIn K mainGlobals "_law_mix") "_law_mix" "_law_mix" uv],
 [ef (λK=>nsIn K mainGlobals "_law_beyond") "_law_beyond" "_law_beyond" jX],
 [ef (λK=>nsIn K mainGlobals "_law_pieces") "_law_pieces" "_law_pieces" iY],
 [ef (λK=>nsIn K mainGlobals "_law_signals") "_law_signals" "_law_signals" lD],
 [ef (λK=>nsIn K mainGlobals "_law_outs") "_law_outs" "_law_outs" oM],
 [ef (λK=>nsIn K mainGlobals "_law_ways") "_law_ways" "_law_ways" tw],
 [ef (λK=>nsIn K mainGlobals "_law_routes") "_law_routes" "_law_routes" k8],
 [ef (λK=>nsIn K mainGlobals "_law_new") "_law_new" "_law_new" q8],
 [ef (λK=>nsIn K mainGlobals "_law_train_in") "_law_train_in" "_law_train_in" gZ],
 [ef (λK=>nsIn K mainGlobals "_law_held") "_law_held" "_law_held" qu],
 [ef (λK=>nsIn K mainGlobals "_law_free") "_law_free" "_law_free" oN],
 [ef (λK=>nsIn K mainGlobals "_law_set") "_law_set" "_law_set" ra],
 [ef (λK=>nsIn K mainGlobals "_law_near") "_law_near" "_law_near" qv],
 [ef (λK=>nsIn K mainGlobals "_law_cancel") "_law_cancel" "_law_cancel" k9],
 [ef (λK=>nsIn K mainGlobals "_law_tick") "_law_tick" "_law_tick" qw],
 [ef (λK=>nsIn K mainGlobals "_law_throw") "_law_throw" "_law_throw" ou],
 [ef (λK=>nsIn K mainGlobals "_law_pass") "_law_pass" "_law_pass" oO],
 [ef (λK=>nsIn K mainGlobals "_law_enter") "_law_enter" "_law_enter" ow],
 [ef (λK=>nsIn K mainGlobals "_law_go") "_law_go" "_law_go" xD],
 [ef (λK=>nsIn K mainGlobals "_law_draw") "_law_draw" "_law_draw" qx],
 [ef (λK=>nsIn K mainGlobals "_law_turn") "_law_turn" "_law_turn" nj],
 [ef (λK=>nsIn K mainGlobals "_law_there") "_law_there" "_law_there" ox],
 [ef (λK=>nsIn K mainGlobals "_law_done") "_law_done" "_law_done" qy],
 [ef (λK=>nsIn K mainGlobals "_law_asked") "_law_asked" "_law_asked" oy],
 [ef (λK=>nsIn K mainGlobals "_law_near_deeds") "_law_near_deeds" "_law_near_deeds" gy],
 [ef (λK=>nsIn K mainGlobals "_law_deed") "_law_deed" "_law_deed" qz],
 [ef (λK=>nsIn K mainGlobals "_law_joined") "_law_joined" "_law_joined" iZ],
 [ef (λK=>nsIn K mainGlobals "_law_safe") "_law_safe" "_law_safe" jY],
 [ef (λK=>nsIn K mainGlobals "law") "law" "law" fY]]
noncomputable abbrev PW:=PySem.Challenge.pw_signalbox_k20_whole_never_two
noncomputable def Q:Program:=PySem.W.view PW [87]
noncomputable def ks:List Str:=(["_wall","BoxError","BadYard","NotThere","Held","Red","MOST_PIECES","MOST_SIGNALS","LAST_JOINT","joints_of","pieces_at","piece_beyond","is_border","joints_out","is_points","lie_for","check_yard","check_pieces","check_joints","check_signals","routes","ways_on","Train","pieces_under","turned","Yard","Fall","set_route","cancel","tick","throw","unlock","signal_of","way_of","is_at_border","signal_ahead","train_near","train_called","check_route","check_piece","check_points","check_signal","is_number_of","check_not_held","enter","go","draw","turn","route_past","pass_signal","come_on","_law_cell","_law_mix","_law_beyond","_law_pieces","_law_signals","_law_outs","_law_ways","_law_routes","_law_new","_law_train_in","_law_held","_law_free","_law_set","_law_near","_law_cancel","_law_tick","_law_throw","_law_pass","_law_enter","_law_go","_law_draw","_law_turn","_law_there","_law_done","_law_asked","_law_near_deeds","_law_deed","_law_joined","_law_safe"]:List String).map Str.ofString
noncomputable def psn:Pos:=match fY with
 | .FunctionDef _ _ _ _ _ _ _ _ _ p=>p
 | _=>⟨0,0,0,0⟩
noncomputable def hk:Hook:=hook [3,2,31,30,44,43,56,55,68,67,80,79,184,183,262,261,283,282,21,20,89,88,94,93,101,100,108,107,113,112,120,119,127,126,134,133,141,140,148,147,155,154,162,161,167,166,181,180,193,192,200,199,212,211,217,216,224,223,231,230,238,237,245,244,252,251,259,258,280,279,294,293,301,300,308,307,315,314,322,321,329,328,336,335,343,342,350,349,357,356,364,363,371,370,378,377,385,384,392,391,399,398,406,405,413,412,420,419,427,426,432,431,439,438,446,445,453,452,460,459,467,466,472,471,477,476,484,483,489,488,494,493,499,498,504,503,509,508,516,515,521,520,526,525,533,532,538,537,545,544,552,551,557,556,564,563,571,570,578,577,583,582,590,589,597,596,604,603,609,608,616,615,621,620,626,625,631,630] facts
noncomputable def tr (P:Params):BT:=treeOf (boot_heap P).objs.toList
theorem opn:opening PW=plainProg PW.main.scope.names:=by kernel_rfl
theorem fen (s:Shared):fenceModules? PW s=some s:=by kernel_rfl
theorem zW1:PySem.Challenge.rw_signalbox_k20_whole_never_two.row.wellSaid=true:=by kernel_rfl
theorem wsd:PySem.Challenge.rw_signalbox_k20_whole_never_two.wellSaid=true:=by
 unfold PySem.W.OpenLaw.wellSaid
 rw[zW1,Bool.true_and]
 kernel_rfl
theorem siz (w:World):((boot_heap w.params).isNs mainGlobals && (Array.mk ([]:List GenState)).size == 0,(boot_heap w.params).objs.size,(boot_heap w.params).nsMap mainGlobals "__annotations__")=(true,11,(some (.ref 6))):=by kernel_rfl
theorem tri (P:Params):absHeap (tr P) 11 {}=boot_heap P:=by kernel_rfl
theorem run (w:World) (os:OsState):(IL (stepT (denote treeTable) PW w) 11 (some (.ref 6)) 8342 ⟨tr w.params,11,{},Array.mk [],boot_drawn,boot_toks,os⟩ (topStub PW)).map (λs=>OA PW Q ks (λs=>xlAt Q [] s && recOk [] s) true (boot_heap w.params) s.abs)=some (true,openGood Q ks):=by kernel_rfl
theorem ruB (w:World) (os:OsState):(IL (stepT (denote treeTable) PW w) 11 (some (.ref 6)) 8342 ⟨tr w.params,11,{},Array.mk [],boot_drawn,boot_toks,os⟩ (topStub PW)).map (λs=>hk.obs s.abs)=some (hk.val w):=by kernel_rfl
end Rw
end
def ZqN (k:Lean.Name):String:="\t".intercalate (k.components.map fun c=>c.toString false)
def ZqS:Nat->Lean.Syntax->String
|0,_=>""
|_,.atom _ v=>"'"++v++"\n"
|_,.ident _ _ x _=>"."++ZqN x++"\n"
|n+1,.node _ k as=>(match k with
 |`null=>"(n"
 |.str `Lean.Parser.Term x=>"(t"++x
 |.str `Lean.Parser.Tactic x=>"(c"++x
 |k=>"(_"++ZqN k)++"\n"++as.foldl (fun r a=>r++ZqS n a) ""++")\n"
|_,_=>"?\n"
local macro_rules
|`(mutual $cs* end)=>do
 if !cs[0]!.raw.isOfKind ``Lean.Parser.Command.universe then Lean.Macro.throwUnsupported
 let l:=Lean.Syntax.mkStrLit ((cs.extract 1).foldl (fun r c=>let d:=c.raw[1];r++ZqS 10000 (.node .none `null #[d[1][0],d[2][0],d[3][1]])) "")
 `(def $(Lean.mkIdent `ZqD):ident:String:=$l)
mutual
universe zD
def f7 ξ:=some (ξ)
def abq ξ ψ:=f7 (ξ ψ)
def η:=.int
def afY ξ:=abq η ξ
def d7:=(by decide)
def aam ξ:=(by simpa using ξ)
def agf ξ:=decide (ξ)
def adk:=by dsimp only[List.set]
def aw1 ξ:=List (ξ)
def aHM:=by with_unfolding_all rfl
def b6:=(by omega)
def Ξ:=(by simp)
def aw2 ξ ψ ζ χ:=Inv ξ pins ψ ζ χ
def aiH ξ ψ:=Nat.le_trans ξ (ψ)
def d8:=List Addr
def ο:=.obj
def ahq ξ:=abq ο ξ
def agH ξ:=Heap.get?_push_of_some _ ξ
def af5 ξ ψ:=aw1 (ξ×ψ)
def f6 ξ:=(by simp[ξ])
def ana ξ ψ ζ χ:=by obtain⟨ξ,ψ,ζ⟩:=List.mem_map.mp χ
def Ω ξ ψ:=by
 rw[ξ]
 exact ψ
def an3 ξ:=starEach ξ X.env
def x8:=List Value
def asq ξ:=aw1 (Option ξ)
def acT:=Nat.le_refl _
def t7 ξ ψ ζ:=by
 rw[ξ] at ψ
 exact ζ
def apq:=Option Value
def aDH:=by decide +kernel
def aeK ξ ψ ζ:=cA.bind (Rp:=ξ) ψ ζ
def adz:=(by rw[aDH])
def az3 ξ ψ ζ:=List.mem_map.mpr ⟨ξ,ψ,ζ⟩
def ahr ξ:=eval ξ X.env
def b8:=ae 0
def aht:=W.falls.map (·.1)
def aao:=(by rw[aHM])
def d9:=List PV
def ahJ ξ ψ ζ χ:=by
 obtain⟨ξ,ψ⟩:=ζ
 exact χ
def aeN:=w.map (·.1)
def t6 ξ ψ:=ay aK ξ (ψ)
def ahv ξ:=List.mem_cons_of_mem _ ξ
def d6 ξ ψ ζ χ φ υ:=by
 have ξ:ψ:=ζ
 have χ:φ:=υ
def c7:=.str
def ς:=.lst
def adC ξ ψ ζ:=by obtain⟨ξ,rfl,ψ⟩:=ζ
def ZI ξ ψ ζ χ:=by
 have ξ:=ψ
 have ζ:=χ
def aiI ξ:=⟨ξ,rfl⟩
def aeO ξ ψ ζ χ:=by
 obtain⟨ξ,ψ⟩:=ζ
 exact χ
def aqR ξ ψ:=by
 unfold ξ
 refine ψ
def abd ξ ψ:=by
 rw[← ξ]
 exact ψ
def adl:=List Str
def adW:=ahq M.length
def acM ξ ψ ζ χ φ:=by obtain⟨ξ,ψ,rfl,ζ,χ⟩:=φ
def anb ξ:=abq ς ξ
def ain ξ ψ:={ ξ with heap:=ψ }
def aaN ξ:=aC G.gg ξ
def aHN:=List.range Y.ps.length
def adq:=Option Int
def abr ξ:=af (ξ) aj
def ac3 ξ:=abr (aa ξ)
def ad9 ξ:=ξ->Prop
def anc:=ad9 Shared
def ajV ξ ψ ζ χ φ υ:=wpAny ξ ψ (ζ) χ φ υ
def z0:=List dO
def IL ξ ψ ζ:=λ ξ ψ ζ=>?_
def aw3:=t.steps.reverse.map flip
def aiJ ξ ψ:=fun ξ=>PV.int ψ
def g9:=List V
def afB:=s.heap.get? b
def an4 ξ:=List.getElem?_eq_none (ξ)
def aaA ξ ψ ζ:=by
 have ξ:=ψ
 refine ζ
def KB:=af5 Addr Obj
def alD ξ:=List.replicate Y.ps.length ξ
def afn ξ ψ:=aw2 X σ ξ ψ
def abI ξ ψ:=aw G.hu (aa ξ) ψ
def amr:=t.tr.steps.reverse.map flip
def akj ξ:=f7 (some ξ)
def aiK ξ ψ:=by obtain⟨ξ,rfl⟩:=ψ
def Es:=aQ Y.rs r
def af6 ξ:=ξ≤sizeLine
def acH ξ ψ ζ χ:=by
 have ξ:ψ:=ζ
 refine χ
def Δ:=.ref
def aeQ:=Option Nat
def afE ξ:=wpAny_bind (ξ)
def ahw ξ ψ ζ χ:=fT ξ (IL ψ ζ χ)
def acU:=List Expr
def alE ξ ψ ζ χ:=if ξ=ψ then ζ else χ
def afZ ξ ψ:=by exact absurd ξ ψ
def aDI ξ:=Heap.get?_push_size ξ rfl
def abR:=by exact w.elim
def alF ξ:=aJ B.locks ξ
def acN ξ ψ:=λ ξ=>agf ψ
def acm:=List Int
def aem ξ:=cE false ξ
def agV ξ:=by
 rw[ξ]
 dsimp only
def acL ξ ψ ζ:=ξ[ψ]? = some ζ
def ane:=if_neg Bool.false_ne_true
def akO:=Heap.lt_size e
def t9:=some o
def ad5 ξ ψ:=⟨ξ,rfl,ψ⟩
def g8 ξ:=λ ξ=>?_
def ajp ξ:=Nat.ne_of_lt (ξ)
def alG ξ ψ:=beyond Y.ps ξ ψ
def aea:=.builtin
def asr ξ ψ:=Nat.lt_of_lt_of_le (ξ) ψ
def ams ξ:=by
 unfold ξ
 dsimp only
def b9:=ae 1
def apr:=List.getElem?_eq_getElem hl
def adP ξ:=aiH ξ d7
def afQ ξ ψ:=by
 refine ξ
 refine ψ
def afR ξ:=bC trivial ξ
def ae3 ξ ψ ζ χ φ υ ϑ:=by
 obtain⟨ξ,ψ,ζ,χ,φ⟩:=υ
 exact ϑ
def aee ξ ψ ζ χ:=Fn z ξ ψ ζ χ
def akk:=B.falls.map (·.1)
def auz ξ ψ ζ:=by obtain⟨ξ,ψ⟩:=Option.isSome_iff_exists.mp ζ
def ajW ξ:=by
 rw[adk]
 refine ξ
def aaC:=aX Y.rs r
def aHO ξ:=["_law_world",ξ]
def akl ξ:=ξ == NameKind.free
def afC:=if_pos rfl
def agx:=sl.mono e1
def az4 ξ:=af5 Str ξ
def aei ξ:=abI ξ aq
def f9:=ahq 0
def aDJ ξ:=af5 Nat ξ
def acO ξ ψ:=λ ξ ψ=>?_
def aps ξ ψ:=List.map_congr_left (acO ξ ψ)
def ajX:=d.map (·.1)
def ae9 ξ:=by
 have:=ξ
 omega
def aHP ξ ψ ζ χ φ:=by
 obtain⟨ξ,ψ,ζ⟩:=χ
 exact φ
def amt ξ ψ ζ:=by
 rw[ξ] at ψ
 dsimp only at ζ
def c9:=ae 2
def aeo ξ:=Pc.at ps ξ
def af7 ξ ψ ζ χ φ υ:=by
 obtain⟨ξ,ψ,ζ,χ⟩:=φ
 exact υ
def ajY ξ:=M.length+ξ
def ass:=t.tr.steps.map aI
def aqS ξ:=bT ξ Y.rs.length
def acI ξ ψ ζ χ:=λ ξ ψ ζ χ=>?_
def ahK ξ:=(ξ).length
def ajZ ξ ψ:=by simp[ξ,ψ,PyData.eqv]
def ad6:=.type
def aio:=.Attribute
def t8:=ahq 7
def OA:=afn H s
def b5:=.inl
def aqT ξ ψ:=by rw[List.getElem?_set_self ξ] at ψ
def ae4 ξ:=ξ (·.1)
def ads ξ:=aN ξ G.nd
def aaX ξ ψ:=by exact⟨ξ,ψ⟩
def acP ξ ψ:=by
 unfold ξ
 rw[ψ]
def acS ξ:=ξ=false
def aqU ξ:=List.mem_append_right _ ξ
def apt:=bj.bD.mpr rfl
def ai3 ξ ψ ζ χ φ υ ϑ:=by
 rw[d6 ξ ψ ζ χ φ υ]
 refine ϑ
def apu ξ:=Value->ξ
def abE:=apu anc
def ac1 ξ ψ ζ:=f7 (ξ ψ ζ)
def aeL ξ ψ:=VE X Ex ξ ψ
def aaZ:=some u
def aw4 ξ ψ:=(by simpa[ξ] using ψ)
def aqV ξ ψ:=by rw[List.getElem?_set_ne ξ] at ψ
def ahc ξ ψ ζ:=by
 unfold ξ
 rw[Ω ψ ζ]
def an5 ξ ψ ζ:=attributeBase ξ ψ X.env ζ
def asu ξ ψ:=(ξ ▸ List.mem_of_getElem? ψ)
def ae6:=List Nat
def apv:=List.range ps.length
def auA ξ:=ξ<Y.ss.length
def an6 ξ ψ:=by have ξ:=of_decide_eq_true ψ
def c6:=.inr
def Θ ξ:=dC (η ξ)
def aaM ξ:=dC (c7 ξ)
def aw5:=s.heap.push PySem.W.emptyDict
def amu ξ ψ:=PySem.W.findIn K ξ ψ
def x9:=afY x
def aeq ξ ψ:=by
 subst ξ
 exact ψ
def aw6 ξ ψ ζ:=aT ξ ψ ζ ?_
def ajq ξ ψ ζ χ φ:=by
 obtain⟨ξ,ψ,ζ⟩:=χ
 refine φ
def ajr ξ:=by simp only[List.mem_cons,List.not_mem_nil,or_false] at ξ
def ahx ξ:=f7 (cO ξ)
def ajs ξ ψ:=⟨ξ,ψ,rfl⟩
def auB:=sc.names.lookup x
def agg ξ ψ ζ χ:=by obtain⟨bR,ξ,ψ,ζ⟩:=χ
def aer:=asq Nat
def aes:=ο M.length
def abS ξ ψ ζ χ:=⟨ξ,ψ,ζ,rfl,χ⟩
def akP:=List Key
def aDK ξ:=f7 (aI ξ)
def aw7 ξ:=List.getElem?_append_left (ξ)
def akm ξ ψ:={ ξ with locks:=ψ }
def aip ξ ψ ζ χ φ:=by
 rw[ZI ξ ψ ζ χ]
 refine φ
def x6 ξ ψ:=(ξ).trans ψ
def adS ξ:=x6 (ar d7) ξ
def asv ξ:=h.gt ξ nofun
def anf:=ki.set Ξ
def aqW ξ ψ ζ χ:=by
 generalize ξ=ψ at ζ ⊢
 refine χ
def aw8 ξ:=assignEach ξ X.env
def aeU:=some x
def agh ξ:=bY aF ξ b8
def adT ξ ψ ζ:=ajV (model X.prog X.w) X.A ξ ψ X.xe ζ
def d5:=.bad
def auC ξ:=X.s₀.heap.objs.size≤ξ
def apw ξ:=W.locks.getD ξ none
def agW ξ:=if_pos (ξ)
def akQ ξ:=t6 b8 (dC (c7 ξ))
def akR:=akQ "trains"
def aw9 ξ:=λ ξ=>rfl
def asw:=ad9 Hp
def aah:=ae 3
def adU ξ ψ:=ay ξ aah ψ
def ajt ξ ψ:={ cls:=ξ,data:=ψ }
def akS ξ:=[MO.lst ξ]
def alH ξ ψ ζ:=λ ξ=>PyData.eqv ψ ζ
def af8 ξ ψ ζ χ φ:=by rw[ahJ ξ ψ ζ ⟨χ,φ⟩]
def aDL ξ:=ξ<Y.ps.length
def agi:=.refl
def aax:=afY r
def aev ξ ψ ζ χ:=by
 have ξ:=ψ
 rw[ζ] at χ
def asx ξ:=(by simp at ξ)
def af0 ξ:=bw ξ (aa 0)
def aDM ξ:=ξ<W.locks.length
def agy:=List Env
def ahL:=Option PV
def afo:=by
 simp
 omega
def afq:=List DE
def acQ ξ ψ ζ:=bP K mg ξ ψ ζ
def aaP:=.cons
def ac4:=az ?_
def adt:=some t
def an7 ξ:=if_neg (ξ)
def ang ξ:=ξ≤2097152
def aqX:=Option.some.inj h
def afD:=List Sg
def aj0 ξ:=Sum.inl (ξ:Int)
def ac5 ξ ψ:=agf (ξ∈ψ)
def ahZ:=h'.get? b
def aHQ ξ ψ ζ:=wpAny_bind (ξ:=Builtin.Tuple.tupleExact ψ) ζ
def aej ξ ψ:=by refine⟨ξ,ψ⟩
def aHR ξ ψ ζ:=by
 unfold ξ at ψ
 dsimp only at ζ
def afr ξ ψ:=(by simp[ξ,ψ])
def aiq ξ ψ ζ:=by
 rw[ξ] at ψ
 simp at ζ
def ah0 ξ ψ:=acL ξ i ψ
def c8 ξ:=ξ=true
def ah1:=c8 X.calm
def az5 ξ:=ξ≠X.env.locals
def asy:=List.mem_cons.mp h
def agX:=ahq t.ob
def akT ξ:=show ξ from rfl
def sT:=.tup
def an8:=DecidableEq κ
def amv ξ ψ:=f7 (abq ξ ψ)
def an9 ξ ψ:=aw G.hu (abI ξ aB) ψ
def afT:=List Rt
def amw ξ:=t6 b8 (dC (η ξ))
def akU ξ ψ ζ:=by
 rw[ξ] at ψ ⊢
 exact ζ
def aeA ξ:=ahK (ξ)
def abc:=.none
def aDN:=W.trains.map (·.1)
def auD:=List.Sublist.refl _
def axa ξ:=sv B.trains ξ
def af1:=List α
def akn ξ ψ ζ:=cM G.hu ξ ψ ζ
def abH ξ ψ:=aee k ξ 2 ψ
def aDO ξ ψ ζ:=PyProof.Rows.callWith_type1 (ξ) ψ ζ
def asz ξ:=B.lying.getD ξ true
def aHS ξ ψ ζ:=aee ξ "_law_beyond" ψ ζ
def aHT ξ:=xs.length≤ξ
def aDP:=List.getElem?_append_left hi
def ahy ξ ψ ζ:=alE ξ true ψ ζ
def axb ξ:=X.A.units+ξ
def af9:=c7 "straight"
def acJ:=aJ W.trains x
def aj1 ξ ψ:=⟨ξ,ψ,false⟩
def aDQ ξ:=List.getElem?_append_right (ξ)
def aju ξ:=⟨rfl,ξ⟩
def auE:=Option.some.inj h1
def aDR ξ ψ ζ:=swapsWith ξ ψ ζ X.env
def aoa ξ ψ ζ χ φ:=by
 obtain⟨ξ,ψ,ζ⟩:=χ
 refine φ
def aob ξ:=qg W.trains ξ
def ai4:=by exact w1.elim
def auF ξ:=bH Y.ps ξ
def aqY ξ:=c8 (auF ξ)
def afV:=Res PV
def az6 ξ:=ps.length≤ξ
def akV ξ:=show ξ from r
def aqZ ξ ψ:=if ξ then ψ else d5
def akW ξ ψ:=bj K ι S ξ ψ
def amx ξ:=I.cQ.fresh (ξ)
def asA:=aHO "_law_route"
def anh ξ:=MG ξ ds.length
def ani ξ ψ:=by
 rw[ams ξ]
 rw[agV ψ]
def afw:=some v
def abT:=.ins
def akX ξ ψ:=aE ξ hr G.gg (af (aa 0) (ac3 ψ))
def auG ξ:=Vals ξ us
def ajv ξ:=H.v ξ rfl
def anj ξ ψ:=M.set ξ (ς ψ)
def asB ξ ψ:=by
 rw[ξ,ψ]
 dsimp only
def ako ξ ψ:=by
 simp only[ξ]
 rw[ψ]
def ad8 ξ ψ ζ χ:=⟨ξ,ψ,rfl,ζ,χ⟩
def asC ξ ψ:=if ξ then ψ else none
def aDS ξ ψ:=Calls.callWith_builtin ξ (Calls.evalArgs_plain ψ)
def ah2:=aiI none
def L6:=.exc
def axc ξ ψ:=by have ξ:=of_decide_eq_false ψ
def axd ξ:=Calls.spliced_cons (ξ)
def axe ξ:=wpAny_Call_Name_kw (ξ)
def asD ξ ψ ζ:=acQ ξ ψ ["yard",ζ]
def apx:=ad6 "list"
def aeV ξ ψ ζ:=aw6 (ξ) ψ ζ
def aDT ξ:=I1.cQ.fresh (ξ)
def axf ξ:=by rw[Ω List.length_set ξ]
def amy:=akQ "falls"
def ank ξ:=eJ ξ B.locks
def agI:=.cancel
def aq0 ξ:=abq sT ξ
def aj2 ξ ψ ζ:=by
 rw[ξ,ψ,ζ]
 dsimp only
def ahM:=some 1
def air ξ ψ ζ:={ ξ with heap:=ψ,toks:=ζ }
def ahd ξ ψ ζ χ φ υ ϑ:=by rw[aHP ξ ψ ζ χ ⟨φ,υ,ϑ⟩]
def aHU ξ:=by rw[List.getD_eq_getElem?_getD,List.getElem?_eq_getElem ξ]
def az7:=tupleKind_room_in1 hu
def aoc ξ:=by exact False.elim ξ
def aod:=List.range n
def alI ξ ψ:=λ ξ=>PV.int ψ
def aoe ξ:=dC (ξ false)
def ai5 ξ:=ξ<ps.length
def aq1 ξ:=encD ξ d
def afx:=af5 Key PV
def aDU ξ ψ ζ χ φ υ:=by
 obtain⟨ξ,ψ⟩:=ζ
 obtain⟨χ,φ⟩:=υ
def aDV ξ:=W.trains.length≤ξ
def aNk ξ:=List.length_pos_iff.mpr (ξ)
def aHV ξ:=aNk (List.isEmpty_eq_false_iff.mp ξ)
def b7 ξ ψ:=ξ=some ψ
def az8 ξ ψ:=b7 (scope.names.lookup ξ) ψ
def auH ξ ψ:=b7 (X.env.kindOf ξ) ψ
def auI ξ ψ:=b7 (s.heap.get? ξ) ψ
def aof ξ ψ:=b7 (h.get? ξ) ψ
def akY ξ ψ ζ:=ξ λ ψ M1=>ζ
def adn ξ ψ:=bh ξ ψ aq
def ahN ξ ψ:=by by_cases ξ:c8 ψ
def alJ ξ ψ:=jS ξ ψ W.locks
def aLh ξ:=List.replicate k ξ
def ahe:=.fields
def ahf:=bp Y.ps
def ahg ξ ψ:=az3 ξ ψ rfl
def acV:=aiI _
def aHW ξ:=ξ=Y.ps.length
def aDW ξ:=List.getElem?_set_self (ξ)
def az9 ξ:=congrArg List.length ξ
def aAa:=of_decide_eq_true h2
def akp ξ ψ ζ:=by rw[ajW (aeV ξ ψ ζ)]
def agj ξ ψ ζ χ φ:=fT ξ λ ψ ζ χ=>φ
def agz:=anb xs
def ac2 ξ ψ:=by rw[aqR ξ (cV (P:=λ q=>ψ) ?_)]
def aDX ξ:=ξ=M.length
def alK:=aDX M'.length
def adv ξ ψ ζ:=by refine⟨ξ,ψ,ζ⟩
def aDY ξ:=List.ext_getElem? (g8 ξ)
def aq2:=Nat.le_succ _
def ac6:=.Name
def adg:=r<Y.rs.length
def aiL ξ ψ:=aG (ξ) (ψ)
def ais ξ ψ ζ:=aiL ξ (aiL ψ ζ)
def ahO ξ ψ:=aiL ξ (bK ψ)
def auJ ξ ψ:=List.replicate (ξ) ψ
def apy:=aaM "cancel"
def aeM ξ ψ:=PE X ξ ψ
def akq ξ ψ ζ χ φ υ:=by
 rw[ZI ξ ψ ζ χ]
 have φ:=υ
def aas ξ ψ ζ:=by exact⟨ξ,ψ,ζ⟩
def amz:=.Subscript
def apz ξ:=bj.mono ξ r1
def aDZ ξ ψ:=∀ξ∈W.trains,ψ
def anl ξ ψ ζ χ φ υ ϑ:=by
 refine ξ
 rw[d6 ψ ζ χ φ υ ϑ]
def aAb ξ:=SeqAt.readOf s.heap ξ
def aNl:=B.trains.map (·.1)
def aLi ξ:=Loc X.env.scope ξ
def aog:=Value.ref a
def aLj:=fU W.trains
def akZ:=List Bool
def ak0 ξ:=abr (aei ξ)
def amA ξ:=W.locks[ξ]?
def ahP ξ ψ ζ:=by rw[ana ξ ψ rfl ζ]
def axg ξ:=t6 ξ b9
def asE ξ ψ:={ ξ with trains:=ψ }
def agA ξ ψ ζ:=ai (ξ) (ai (ψ) (ζ))
def agJ ξ ψ ζ:=ai (aU ξ G.nd (ψ)) (ζ)
def ajw ξ ψ ζ χ φ:=agJ ξ ψ (agJ ζ χ φ)
def aD0:=List.getElem?_set_ne e
def ajx:=h.get? b
def ak1 ξ ψ ζ:=aL ξ ["yard",ψ] ζ
def apA ξ ψ ζ χ:=if ξ∈ψ then ζ else χ
def auK ξ:=afY ξ.1
def asF ξ ψ:=Nat.le_trans (ξ) ψ
def agB ξ:=(by rw[ξ])
def apB ξ ψ ζ χ φ υ:=by
 obtain⟨ξ,ψ⟩:=ζ
 have χ:φ:=υ
def apC ξ ψ:=kvs.map λ ξ=>ψ
def aq3 ξ ψ:=an7 (λ ξ=>ψ)
def aHX:=Bool.and_eq_true_iff.mp hk
def aHY:=t.tr.steps.dropLast.map aI
def aD1 ξ:=List.getElem?_set_ne (ξ)
def agY ξ:=by unfold ξ at w
def aoh ξ ψ ζ χ:=by
 unfold ξ at ψ
 rw[ζ] at χ
def aga ξ ψ ζ:=by
 unfold ξ
 rw[ψ,ζ]
def aAc ξ ψ:=asr (Heap.lt_size ξ) ψ
def aAd:=ang W.falls.length
def aAe:=aHW W.locks.length
def asG ξ ψ ζ χ:=iG ξ "train_in" ψ ζ χ
def asH:=af6 xs.length
def aq4 ξ ψ ζ χ φ:=by
 obtain⟨ξ,ψ⟩:=ζ
 have χ:=φ
def aq5:=ns.map V.int
def aq6:=aaM "points"
def aq7:=aaM "branch"
def aoi:=.function
def auL ξ:=h.lo ξ d7
def aq8 ξ ψ ζ:=aE ξ hr G.gg (af (aa 0) (af ψ ζ))
def aeB ξ ψ ζ χ φ:=λ ξ ψ ζ χ φ=>?_
def afe ξ ψ ζ χ φ:=ajV ξ ψ ζ χ φ s
def anm:=aw9 _
def aiM ξ:=av bU [ξ]
def apD ξ ψ:=agf ξ && ψ
def afh ξ ψ:=encD ξ (ψ)
def acW ξ ψ:=ay (dW false) (ξ) ψ
def auM:=way.map (·.1)
def auN:=af6 kvs.length
def apE:=by dsimp only at h
def ak2 ξ:=gP.set (ξ)
def ait:=.BoolOp
def aiu:=ad9 Out
def ajy ξ ψ ζ χ φ υ ϑ:=by rw[d6 ξ (aee ψ ζ 2 _) χ φ υ ϑ]
def aLk ξ ψ ζ χ:=by obtain⟨ξ,ψ,ζ⟩:=Option.map_eq_some_iff.mp χ
def ahh ξ ψ ζ:=⟨ξ,rfl,ψ,ζ⟩
def aoj ξ ψ:=acI ξ ψ ρ hρ
def axh ξ:=ξ<s.heap.objs.size
def apF ξ ψ ζ χ φ υ ϑ:=by
 obtain⟨ξ,ψ,ζ⟩:=χ
 have φ:υ:=ϑ
def aiN ξ:=t6 c9 (dC (c7 ξ))
def aHZ ξ:=Nat.le_trans I.ok.Sh ξ
def aD2 ξ ψ:=List.mem_filter.mpr ⟨ξ,decide_eq_true ψ⟩
def aD3 ξ:=c8 (PyData.canLay0 ξ)
def aAf ξ:=f7 (gW ξ)
def ajz ξ ψ:=ξ->Option ψ
def aLl:=List.getElem?_eq_some_iff.mp h2
def aLm:=List.getElem?_eq_some_iff.mp hM
def aq9 ξ:=show ξ from ry
def aok ξ ψ:=lG ξ ψ B.locks
def amB ξ:=acS (ae4 ξ)
def alL ξ ψ ζ:=by
 subst ξ
 rw[ψ] at ζ
def aiO ξ:=I.own r ξ
def ara:=f7 b9
def agK:=.enter
def agL ξ:=by rw[if_neg ξ]
def agZ ξ ψ:=ay (ju false) ξ ψ
def ZJ:=ae 4
def aLn ξ ψ ζ:=by obtain⟨ξ,ψ⟩:=Int.eq_ofNat_of_zero_le ζ
def aAg ξ:=M.length≤ξ
def ahQ ξ ψ:=gQ Y ξ ψ j
def acX:=ahQ M W
def asI ξ ψ ζ:=by
 rw[← ξ,← ψ]
 exact ζ
def amC ξ ψ:=abq ξ (ψ)
def afy:=.Call
def aeC ξ ψ ζ χ φ:=by
 have ξ:=ψ
 have ζ:χ:=φ
def aeD:=afY s
def aeE:=cu K ι S M H
def amD ξ ψ:=by obtain⟨ξ,e⟩:=ψ
def agb ξ:=by
 rw[ξ]
 simp
def asJ:=List Keyword
def asK ξ ψ ζ χ φ:=by
 obtain⟨ξ,ψ,ζ⟩:=χ
 exact φ
def asL:=akQ "routes"
def aAh ξ:=ξ<xs.length
def alM ξ:=by simp only[ag,ξ]
def ag0:=.ahead
def ag1 ξ ψ ζ:=by refine aeV ξ ψ ζ
def ag2:=af5 κ α
def agk ξ ψ:=∀s∈ξ,ψ
def afz ξ ψ:=∀p∈ξ,ψ
def agM ξ:=(ξ).Nodup
def aH0 ξ:=by rw[List.size_toArray,ξ]
def auO:=Nat.zero_le _
def auP:=aHO "_law_at"
def auQ:=akQ "signals"
def auR:=aAg M'.length
def arb ξ ψ ζ:=by rw[adC ξ ψ (vals1 ζ)]
def arc ξ:=agk t.steps ξ
def ak3:=if_neg e
def aj3 ξ ψ:=by
 have:=ξ
 rw[ψ] at this
def aD4 ξ ψ:=by simp only[Function.comp,ξ,ψ]
def agl ξ:=(ξ).isSome
def ano:=List Stmt
def anp:=rel.val k
def aiv:=by dsimp only[zB,zA]
def agm:=bp ps
def afi ξ:=by rw[aaX _ ξ]
def aH1 ξ:=by simp only[List.lookup_cons,ξ]
def aD5 ξ:=X.env.scope.kind == ξ
def axi:=bootBuiltins x
def apG:=pure false
def apH ξ ψ:=by rw[aga ξ ψ Res.eV]
def ai6 ξ:=acS (ξ)
def ard ξ ψ:=ai6 (ξ == ψ)
def aH2 ξ:=List.replicate k.toNat ξ
def aH3 ξ:=by rw[Ω ξ Bool.false_ne_true]
def aH4 ξ ψ ζ:=c8 (PySem.W.plainGet ξ ψ ζ)
def ajA:=Δ s.heap.objs.size
def aiP:=cU ss
def ae7:=akW x v
def aiQ ξ ψ ζ χ:=by
 refine ξ
 have ψ:ζ:=χ
def axj ξ:=W.points[ξ]?
def aD6 ξ:=wpAny_passesOwn hp ξ
def aD7 ξ ψ:=s1.heap.push (ajt ξ ψ)
def aD8 ξ:=ajp (Heap.lt_size ξ)
def aD9:=ang W.green.length
def amE:=.local
def ahz:=.throw
def aiw:=[none]
def alN ξ ψ:=by rw[if_pos ξ,ψ]
def akr ξ ψ:=by rw[alN ξ (if_pos ψ)]
def aol ξ ψ ζ:=aee (ξ) ψ 2 ζ
def adw ξ ψ ζ:=M.set ξ (ψ (ζ))
def arf ξ ψ:=yU.map λ ξ=>ψ
def afj:=Inv n bz jA W
def afk:=cW C Y none o M B
def afm:=bg K ι S xs vs
def abO:=.nil
def asM ξ ψ ζ:=if ξ then .ψ else ζ
def aiR ξ ψ:=some (ξ,ψ)
def aaz ξ:=ξ=none
def ai7 ξ:=aaz (H ξ)
def ak4 ξ:=aaz (H' ξ)
def aEa ξ:=["pieces",ξ]
def amF ξ:=ξ->Bool
def acY ξ ψ:=by rw[Ω (aS (ξ)) ψ]
def aLo ξ ψ:=PySem.W.specialIn ξ ψ "__get__"
def aLp ξ ψ:=Builtin.Slice.slicePlaces ξ ψ 1
def aLq:=List.getElem?_eq_getElem hk
def aH5 ξ ψ:=PySem.W.hideAll_get _ ξ ψ
def aH6:=List.mem_filter.mp hm
def aH7:=List.mem_append.mp hp
def aH8:=List.mem_append.mp hs
def aH9:=List.nodup_cons.mp nd
def aIa:=List.getElem?_range h
def aIb:=by rw[List.length_append,List.length_singleton]
def aAi:=Nat.lt_irrefl _
def aAj:=AllBare s'.gens
def aAk ξ ψ:=bj.fA.mpr (ad5 ξ ψ)
def aAl:=aHO "_law_name"
def auS ξ:=assign ξ X.env
def auT ξ ψ:=by rw[Ω (if_neg ξ) ψ]
def aom:=.Constant
def aon:=Sum.inl x
def aoo ξ ψ:=aE ξ hr G.gg (af (aa 0) (abr ψ))
def aop ξ:=agM (ae4 ξ)
def aj4:=some xs
def alO ξ:=abq Δ ξ
def aj5:=aDJ Nat
def aj6:=amF Nat
def arh:=B.ticks+Y.wait
def aIc ξ ψ ζ:=Int.emod_nonneg ξ (ψ:=ζ) b6
def ag3 ξ ψ:=(by rw[ξ,ψ])
def axk:=dB "straight"
def axl:=aEa "signals"
def amG ξ:=h.at ξ rfl
def amH:=aDJ Bool
def aLr ξ ψ ζ χ:=by obtain⟨ξ,ψ,ζ⟩:=List.mem_flatMap.mp χ
def aLs ξ ψ:=wpAny_Call_method0_late oP ξ ψ
def aLt ξ ψ:=by rw[Ω (List.getElem?_set_ne ξ) ψ]
def ah3:=bG aaC
def ah4 ξ ψ ζ:=bx ξ ψ ζ (aV rfl)
def ah7:=aam hb
def aaD:=bE Y
def aIe ξ ψ ζ χ φ:=by
 obtain⟨ξ,ψ⟩:=ζ
 dsimp only at χ φ
def aIf:=List.mem_filter.mp h
def aIg:=by simp only[Function.comp]
def aIh ξ:=wpAny_newObj_type ξ KM
def aIi ξ ψ:=B.trains.find? (acN ξ ψ)
def aks:=cL X.prog X.w
def ai8:=.cell
def agn:=s.heap.objs.size+1
def aoq ξ ψ ζ:=aee ξ ψ 3 ζ
def agc:=aX bz r
def afI:=cW C Y e o M B
def auU ξ ψ ζ χ φ υ:=by
 obtain⟨ξ,ψ,ζ,χ⟩:=φ
 exact υ
def auV ξ:=wpAny_pure (ξ)
def aiS ξ:=⟨ξ,?_⟩
def agN ξ:=by by_cases h:ξ
def aLu ξ:=by rw[List.getElem?_replicate] at ξ
def aLv ξ:=by simp only[Bool.and_eq_true] at ξ
def ado ξ ψ:=λ ξ H1=>ψ
def aEb ξ:=by rw[ξ,Int.toNat_natCast]
def asN ξ ψ ζ:=by
 unfold ξ
 rw[asB ψ ζ]
def aNm ξ:=amv ξ "BaseException.__getattribute__"
def aLw:=beq_eq_false_iff_ne.mpr h
def aLx:=Nat.le_of_ble_eq_true rfl
def aLy:=List.filter_sublist.map _
def aAm ξ:=W.points.set p ξ
def aAn ξ ψ ζ χ:=λ ξ ψ=>absurd ζ χ
def aEc:=Sem Value
def apI ξ ψ ζ χ:=aiL ξ (aG (bL ψ ζ) (χ))
def apJ ξ ψ ζ χ:=ai (ξ) (agJ ψ ζ χ)
def anq ξ:=rP X.K ξ
def aix:=aq1 AK
def aaQ:=d ρ M
def axm ξ ψ ζ χ:={ ξ with locks:=ψ,ζ:=χ }
def ag4 ξ:=anb (ξ)
def ae8 ξ:=c8 (ξ)
def auW ξ ψ ζ:=if ξ then(ψ) else ζ
def aLz ξ ψ:=decide_eq_decide.mpr ⟨ξ,ψ⟩
def aEd:=M'.take M.length
def axn ξ ψ:=putK kvs ξ ψ
def aor ξ ψ:=holding ξ (ψ)
def aIj ξ ψ ζ:=by
 obtain⟨_,_,_,ξ⟩:=ψ
 exact ζ
def anr ξ:=by
 simp
 exact ξ
def apK ξ ψ ζ:=ξ[ψ]? = f7 ζ
def aj7 ξ ψ:=apK ρ ξ ψ
def aNn ξ ψ:=by rw[Ω (List.take_append_of_le_length ξ) ψ]
def aIk:=List.mem_cons.mp hb
def aIl:=[s1.heap.objs.size]
def aIm:=standAt apos.atName
def aIn:=B.greens.map (·.1)
def aIo:=aHW W.points.length
def auX:=Array Value
def auY:=Option Addr
def auZ:=fs.lookup f
def aAo:=! xs.isEmpty
def au0:=bj.bD.mp r1
def ak5 ξ:=kU ξ Y.ps
def aos ξ:=ajt apx ξ
def axo ξ:=(false,ahr ξ)
def apL ξ ψ ζ χ φ υ:=by
 have ξ:=ψ
 rw[acH ζ χ φ υ]
def aAp ξ ψ:=⟨ξ, ψ, M.length⟩
def aLA ξ:=Nat.lt_of_lt_of_le ξ a.len
def axp ξ:=IG xs.length ξ
def aEe:=["_law_world","_law_word","_law_number","_law_name"]
def axq ξ ψ:=h.yt ξ ψ nofun
def axr ξ ψ ζ χ φ υ ϑ:=by
 rw[ZI ξ ψ ζ χ]
 rw[aaA φ υ ϑ]
def axt:=akQ "pieces"
def asO:=sU X.stack
def asP ξ:=cF B.locks ξ
def ak6 ξ:=λ pre ρ M'=>ξ
def abe ξ:=ak (ξ)
def ahA ξ:=abe (aR ξ)
def aLB ξ ψ ζ:=by
 obtain⟨_,_,_,ξ,_⟩:=ψ
 rw[afi ζ]
def aAq ξ:=t.steps.length=ξ
def au1 ξ ψ:=by obtain⟨rfl,ξ⟩:=ψ
def ans ξ ψ:=by
 refine ξ
 exact ψ
def ak7 ξ:=by
 rw[ξ]
 nofun
def apM ξ:=by rw[ak7 (auL ξ)]
def agd:=.tick
def aiy ξ ψ:=by
 refine ξ
 rw[ψ]
def ant ξ:=[MO.bB ξ]
def aEf ξ ψ:=["_law_world",ξ,ψ]
def ajB ξ ψ ζ:=upd H ξ (ψ ζ)
def ajC ξ ψ:=ai (ξ) (ak (ψ))
def aj8 ξ ψ:=ajC ξ (aR ψ)
def aLC ξ:=Nat.lt_of_lt_of_le ξ E.le
def aLD ξ:=s.heap.FunFrames X.base ξ
def aLE ξ ψ:=f7 (PySem.W.methodObj ξ ψ)
def aLF ξ ψ:=c8 (PySem.W.hasDictIn ξ ψ)
def aLG ξ:=c8 (PyData.canLayAll0 ξ)
def aIp:=Option.some.inj e2
def aIq:=env.cells.lookup n
def aIr:=List.mem_cons.mp e
def aIs ξ ψ:=W.trains.map (alI ξ ψ)
def aIt:=B.locks.map (·.1)
def aIu ξ ψ ζ:=aee ξ "pieces_under" ψ ζ
def aIv ξ ψ:=c8 (PySem.W.isFn ξ ψ)
def aEg:=Array DictEntry
def aEh:=h1.symm.trans e
def aEi ξ:=M'.set M.length ξ
def aAr:=["_law_step"]
def aAs:=c8 d.canLay0
def ari ξ:=by rw[ae9 (asv ξ)]
def aot ξ ψ ζ χ φ:=by obtain⟨ξ,vs,ψ,ζ,χ⟩:=φ
def asQ ξ:=by
 rw[acP ξ List.map_map]
 rfl
def aou ξ ψ:=bf (j5 ξ) ψ aP
def alP:=f7 (bG aaC)
def alQ ξ:=backTo pos (an3 ξ)
def ai9:=some 0
def aja ξ ψ:=if neg then ! ξ else ψ
def ajb:=ee eR W.trains
def ajc:=by rw[agb hx]
def amI ξ:=cv W.trains x ξ
def ag5 ξ:=akX ξ 1
def alR ξ ψ:=w ι S H ξ agi aW ψ
def ah8 ξ ψ ζ χ:=by
 have ξ:ψ:=ζ
 refine χ
def apN ξ ψ:=by rw[if_pos ξ] at ψ
def aIw ξ ψ:=by rw[ξ,Bool.and_eq_true] at ψ
def au2 ξ:=by simp only[ξ] at w
def aAt ξ ψ:=if ξ then u else ψ
def amJ ξ ψ ζ:=by
 refine ξ
 have ψ:=ζ
def agC:=af5 κ V
def ahB:=ajY 1
def aLH ξ:=["_law_one",ξ]
def asR ξ ψ ζ χ φ:=by
 refine ξ
 rw[aeO ψ ζ χ φ]
def anu ξ ψ ζ χ φ υ ϑ:=by rw[d6 ξ ψ (λ ζ=>χ) φ υ ϑ]
def aLI:=List.range h.objs.size
def aLJ ξ:=List.mem_append_left _ ξ
def aLK:=PySem.W.plainGet_of hg
def amK ξ ψ ζ:=⟨ξ,ψ,rfl,ζ⟩
def ajD:=aam hk
def alS ξ:=aw G.hu (ξ) aq
def ajE:=f7 (bp ps)
def aNo:=List.getElem?_eq_some_iff.mp h1
def aNp:=List.getElem?_eq_some_iff.mp hx
def aNq:=List.getElem?_eq_some_iff.mp Yu
def aIx:=aHO "_law_signal"
def aIy ξ ψ:=aoq ξ "pass_signal" ψ
def axu:=K.In s.heap
def axv:=dB "branch"
def axw ξ:=agk t.ahead ξ
def au3 ξ ψ:=(by simp[ξ,List.find?_cons,ψ])
def au4:=xs.map enc
def arj ξ ψ:={ B with ξ:=ψ }
def amL ξ:=kO ξ B.trains Es
def ajd ξ ψ ζ:=acN ξ (ψ≠ζ)
def agO:=afY k
def amM ξ ψ ζ:=cg false ξ ψ (gN 0) ζ b8
def aLL ξ:=List.mem_of_getElem? (ξ)
def aEj ξ:=evalEach ξ X.env
def aEk:=t.ahead.take 1
def aEm ξ ψ:=x6 (f1.trans ξ) ψ
def apO:=some ai8
def apP:=if_neg h
def apQ:=sU outer
def apR:=a.map aI
def apS:=asq Bool
def apT ξ ψ ζ:=by rw[adC ξ ψ (fQ ζ)]
def apU:=az4 Addr
def axx ξ:=bY C.yd ξ b8
def apV:=gU Y.ps.length Y.rs
def axy ξ:=ac1 abT C.yd ξ
def amN ξ ψ ζ:=ahw (ξ) ψ s1 ζ
def ak8 ξ:=t6 (ξ) (dC (η 0))
def aov ξ:=ak8 (ae ξ)
def akt ξ ψ:=ay (dX false) ξ (ψ)
def au5 ξ ψ:=by
 rename_i ξ
 exact ψ
def ak9 ξ:=by unfold ξ at h
def aNr:=List.idxOf_lt_length_of_mem hm
def aLM:=List.mem_filter.mp h'
def aLN:=List.mem_filter.mp hq
def aLO:=List.mem_append.mp hm
def aLP:=I.mod.glob.keeps I.bk
def aLQ ξ:=by rw[Ω List.length_range ξ]
def aLR:=by rw[aH0 List.size_toArray]
def aAu ξ:=bT ξ xs.length
def aAv:=az4 NameKind
def aAw:=agh "pieces"
def aAx ξ ψ:=aDR ξ ψ pos.line
def aLS:=aiN "routes"
def asS:=if_neg h2
def asT ξ:=I.lock ξ hp
def aAy ξ:=heldW ξ aaC
def asU ξ ψ ζ:=afn ξ (ain ψ ζ)
def asV:=az4 Value
def aAz:=⟨t.steps.dropLast,t.ahead,t.out⟩
def aj9 ξ:=by rw[if_pos ξ]
def aka:=az4 PV
def ajF:=.bool
def ag6:=.turn
def aje:=Pc.at Y.ps s.1
def aIz ξ:=t.tr.steps.length=ξ
def aIA ξ:=s1.heap.objs.size+ξ
def aku ξ:=bo br T.fj cj (ac3 ξ)
def ahC ξ ψ ζ:=aG (bu (ba (ξ)) ψ fo) ζ
def amO ξ ψ ζ χ φ:=ahC (ay ξ ψ ζ) χ φ
def ajf:=bX t
def aow ξ:=ξ<M.length
def aLT ξ:=List.mem_append.mpr (ξ)
def aIB ξ:=List.replicate m ξ
def aIC ξ ψ:=aoq ξ "route_past" ψ
def aID:=aLH "_law_route"
def aIE ξ ψ:=wpAny_pure (ad5 ξ (wpAny_pure ψ))
def aEn ξ:=ξ<B.lying.length
def ahi:=.draw
def amP ξ ψ ζ χ:=ay aK ξ ψ ζ χ
def ahj:=ahr o
def ahk ξ ψ:=λ ρ M=>akY ξ x ψ
def ahn:=ai7 b
def aiz ξ ψ ζ:=ξ[ψ]? = akj ζ
def axz ξ:=ends.length=ξ
def axA ξ:=ξ≤ps.length
def age ξ:=λ σ H Q=>ξ
def af2 ξ ψ ζ χ:=ξ[ψ]? = amC ζ χ
def aAA ξ ψ ζ:=af2 ξ M.length ψ ζ
def au6 ξ ψ ζ χ φ υ ϑ:=by
 rw[d6 ξ ψ ζ χ φ υ]
 refine ϑ
def aLU:=by exact List.mem_cons_self
def alT ξ:=by by_cases hb:ξ
def akv ξ ψ ζ χ φ:=by
 have ξ:ψ:=ζ
 rw[χ] at φ
def akw:=some r
def akx ξ:=abq ξ ns
def asW ξ ψ ζ χ φ υ ϑ:=amN (ha pins ξ σ ψ ζ χ φ) υ ϑ
def aNs ξ ψ:=bR.toArray.eraseIdxIfInBounds ξ=ψ
def aAB ξ ψ ζ:=by
 simp at ξ
 rw[aeq ψ ζ]
def axB ξ ψ ζ:=by generalize ξ=M1 at ψ ζ
def aiT ξ:=ξ≤100
def aox ξ:=[none,ξ]
def akb ξ:=aox (some ξ)
def asX:=aox ahM
def aNt ξ:=X.s₀.heap.FunFrames X.base ξ
def aNu:=List.getElem?_append_left hn
def aNv:=List.drop_eq_getElem_cons qj
def aEo:=Value.ref agn
def aEp:=X.base.get? b
def aEq:=wpAny_pure ?_
def ark:=Option V
def arl ξ:=I.own r' ξ
def arn:=f7 (bp Y.ps)
def au7 ξ:=b7 ξ true
def ahD:=af5 Key V
def ah9:=λ _=>true
def ahE:=cq Y Es
def ahG:=gP o M o M'
def agD ξ:=λ _ _ _ _=>(ξ)
def af3 ξ:=agD (aN 0 ξ)
def aLV ξ ψ:=decide_eq_false λ ξ=>ψ
def axC:=hh.trans q
def axD:=hu.trans q
def axE ξ ψ:=cv B.falls ξ ψ
def aIF ξ:=Fc ξ W.locks
def asY ξ:=xs.length-ξ
def asZ ξ ψ:=Res.opt (ξ) ψ
def apW ξ ψ:=L2.Fin ξ (ψ)
def apX ξ ψ ζ:=by rw[aaX ξ (λ ψ=>ζ)]
def acy ξ:=(ξ:Int)
def afA:=acy n
def aEr:=acy xs.length
def aNw:=List.getElem?_eq_getElem qj
def aLW ξ:=by have:=of_decide_eq_true ξ
def aLX ξ ψ:=swappedStores ξ ψ X.env
def aLY ξ:=List.drop_sublist _ ξ
def aLZ ξ:=afE (wpAny_holding ξ)
def aL0 ξ:=afE (wpAny_standAt ξ)
def aL1:=acS W.green.isEmpty
def aL2 ξ ψ ζ:=au7 (PySem.W.mroIn ξ ψ ζ)
def aIG:=by rw[List.filter_map]
def aIH:=["_law_script"]
def aII:=Int.ofNat.inj e
def aIJ ξ ψ ζ:=aee ξ "is_points" ψ ζ
def aIK ξ ψ ζ:=aee ξ "_law_ways" ψ ζ
def aIL:=ang Y.rs.length
def aIM ξ:=aaz (pre.find? ξ)
def aIN ξ ψ:=aoq ξ "is_border" ψ
def aIO ξ ψ:=aoq ξ "_law_pass" ψ
def aIP:=["_law_joint","_law_ends"]
def aAC:=Value.ref b
def aAD:=akQ "green"
def aAE ξ:=c8 (small ξ)
def au8:=["piece"]
def au9:=af5 κ Value
def aoy:=.Assign
def aAF ξ:=Vals ξ bR
def aoz:=cF B.greens Es
def aoA:=auK (cw Y.ss s)
def axF ξ:=X.env.scope.names.lookup ξ=some amE
def aoB:=abq c7 w.s
def alU ξ ψ ζ:=by
 have ξ:=ψ
 exact ζ
def ala ξ ψ:=fC ξ (aa 0) ψ
def alb ξ:=by rw[Ω zK ξ]
def alc ξ:=ain ξ h'
def ald:=af5 κ PV
def ahR:=.free
def ahS:=f7 (dI t)
def anv ξ ψ:=nO X (binaryOp .ξ) ψ
def apY ξ ψ ζ:=dQ G.own G.calm (ξ) ψ ζ
def agu ξ:=ahA (ξ)
def aEs ξ ψ ζ:=show b7 ξ ψ from ζ
def akc ξ ψ ζ χ:=by
 have ξ:ψ:=ζ
 exact χ
def ae0 ξ ψ ζ:=by
 rw[ξ,ψ]
 exact ζ
def aL3 ξ ψ ζ χ:=wpAny_execs_nil ⟨ξ,ψ,ζ,χ⟩
def aL4 ξ:=by rw[List.lookup_cons] at ξ
def agP ξ ψ ζ:=upd ξ ψ (ζ)
def ale ξ ψ:=x6 (ar (ξ)) ψ
def amQ ξ ψ ζ:=ale (iM ξ ψ nofun) ζ
def agQ ξ ψ ζ χ:=cx.of (sc:=(au ξ)) ψ ζ χ rfl anm adz
def aNx ξ:=PySem.F.args_tuple_add_2 _ ξ
def aNy:=Bool.and_eq_true_iff.mp ho
def ajg ξ:=wz false ξ (gB (Θ 1)) dn
def aia:=afY p
def aib ξ:=by rw[aiK t ξ]
def alf ξ ψ:=apD (ξ<Y.wait) ψ
def aoC ξ ψ:=by
 show ξ
 unfold ψ
def aL5:=X.s₀.heap.get? b
def aL6:=Nat.le_of_lt c.len
def aL7:=PyData.depthAll qs
def aL8:=t.steps.map (·.1)
def aL9 ξ ψ ζ:=aee ξ "check_pieces" ψ ζ
def aMa:=aHW B.lying.length
def aMb ξ ψ:=aoq ξ "_law_signals" ψ
def aEt ξ:=by exact wpAny_pure ξ
def aEu:=f.map (·.1)
def aEv:=["_law_script","_law_k"]
def aEw:=aiT w.length
def as1:=h.get? a
def as2:=["step"]
def as3:=w.map aI
def as4 ξ:=agW (jk ξ)
def as5 ξ ψ:=bu (dP ξ) ψ fo
def alV:=.steps
def alW ξ ψ:=aO (bN G.hu) ξ ψ
def alX:=aDJ Fl
def alY:=encD eF B.falls
def alZ:=auG xs
def al0:=aq0 xs
def al1 ξ ψ:=by rw[ZI h1 ξ h2 ψ]
def amR ξ:=⟨ξ,[]⟩
def ava:=["self","piece"]
def aNz ξ:=Builtin.List.listTooLong (ξ)
def al2 ξ ψ ζ:=af ξ (af ψ (ζ))
def aky ξ ψ:=af ξ (ac3 ψ)
def aro ξ ψ ζ:=al2 ξ ψ (af ζ aj)
def as6 ξ ψ ζ:=al2 ξ ψ (ac3 ζ)
def aNA:=List.getElem?_set_self hl
def aNB:=List.getElem?_set_self qj
def aNC:=es.toList.any (·.refKey)
def aND ξ:=PySem.F.args_dict_get_2 _ ξ
def aNE:=List.length_pos_iff.mpr h
def aIQ ξ:=by rw[abd rel.length ξ]
def aIR ξ ψ:=⟨⟨t.tr.steps,ξ,t.tr.out⟩,t.ob,t.so,ψ⟩
def axG ξ:=t6 ξ aah
def apZ ξ ψ ζ χ:=if ξ then ψ ζ χ else d5
def ap0:=az6 100
def aAG ξ:=aj7 ξ t8
def ap1:=c7 "points"
def aiA ξ ψ ζ χ φ υ:=λ ξ ψ ζ χ φ υ=>?_
def aiB:=dU ps ss
def anw ξ:=by rw[t7 ξ w w.elim]
def aiC ξ ψ:=h.fld (ρ:=ξ) (d:=b8) rfl ψ
def akz ξ:=acy ξ.1
def aiD:=pre.flatMap (kK ps ss n way j a)
def akA:=axb 64<cLine
def agR ξ:=aiM (ξ)
def aMc ξ ψ:=sc.names.lookup ξ == ψ
def aMd ξ:=s.heap.objs.size≤ξ
def avb ξ ψ ζ χ φ:=codeAny ξ ψ (ζ) χ φ
def ap2 ξ ψ ζ:=amN ξ ψ ⟨ζ,H1,I1,r1,q1⟩
def aNF:=h2.get? s.heap.objs.size
def aNG:=W'.green.Sublist W.green
def aMe:=by rw[List.any_eq_false]
def aMf:=decide_eq_false h
def aMg:=Option.some.inj e
def aMh:=f6 PyData.eqvAll
def aMi ξ ψ:=aoq ξ "_law_joined" ψ
def aEx ξ:=List.range (ξ)
def aAH:=Ne.symm dz
def aAI:=ns.map η
def aAJ:=dB "locks"
def aAK ξ:=any_keys d ξ
def aAL ξ:=jJ ξ B.falls
def aAM ξ:=l.set ξ none
def axH:=if_neg hy
def aAN ξ ψ:=g ξ nofun nofun ψ
def axI:=ps.zip us
def aIS ξ:=valueAt ξ k
def axJ ξ ψ ζ:=Body none ξ ψ ζ
def axK:=NA.map jl
def axL ξ:=afY (acy ξ)
def axM ξ ψ ζ χ φ υ ϑ:=by rw[d6 ξ ψ ζ χ (aee φ υ 2 _) ϑ]
def axN ξ ψ ζ:=by rw[aej ξ (acO ψ ζ)]
def axO ξ:=by rw[anr (adP ξ)]
def axP ξ ψ ζ:=al2 ξ ψ (abr ζ)
def axQ ξ ψ:=axj ξ = f7 (f7 (iu Y.ps ψ))
def amS:=Res α
def aiU ξ:=ξ false
def aiV:=[b8]
def aiW:=hZ r W.locks
def aiX:=dZ bz r
def avc ξ ψ ζ χ φ υ:=by
 have ξ:ψ:=ζ
 rw[aas χ φ υ]
def avd ξ ψ ζ:=by
 rw[ξ] at ψ
 refine ζ
def aeJ:=ae 5
def akB ξ:=by
 rw[ξ]
 omega
def ap3 ξ:=mg ξ = none
def agE ξ ψ ζ χ:=bf (aO ξ ψ ζ) (χ) aP
def aMj ξ:=ξ≤999999999999999
def aMk ξ:=W.trains.filter (ξ)
def aNH:=Heap.IsSliceOf.new ..
def aNI:=List.getElem?_set_ne h2
def aNJ:=List.mem_of_getElem? hi
def aNK:=List.dropLast_sublist _
def aNL ξ:=List.dropLast_subset ξ hs
def aIT:=fs.map (·.1)
def aIU:=co.cells I.ok
def aIV:=ps.map Pc.enc
def aIW ξ ψ:=d.find? (acN ξ ψ)
def aIX ξ:=by rw[abd rs.length ξ]
def aIY:=af6 ys.length
def aIZ ξ ψ ζ:=aee ξ "ways_on" ψ ζ
def aI0:=agh "signals"
def aEy:=Option Expr
def aEz ξ ψ ζ:=I.base.nS ξ o ψ ζ
def aEA:=PM.trans K1
def aEB:=dB "routes"
def aEC ξ:=qe.trunc ?_ ξ
def aED ξ ψ:=WD ξ M.length ψ
def aEE ξ ψ:=asD ξ ψ "route"
def aEF:=axx "falls"
def ave ξ ψ:=by rw[afQ (aH ξ) ψ]
def avf:=by rw[ae9 h.wj]
def avg ξ ψ:=by
 rw[acP ξ ψ]
 rfl
def avh ξ ψ ζ χ φ υ ϑ:=by rw[ai3 ξ ψ ζ χ φ υ (aH ϑ)]
def avi:=adS h.y0
def avj ξ ψ ζ:=bu (A6 ξ ψ) ζ fo
def avk ξ ψ:=bf (bt ξ) ψ aP
def avl ξ ψ:=by
 have:=ξ
 rwa[ψ] at this
def arp ξ:=H.b ξ rfl
def arq:=f7 aiP
def avm ξ:=ad5 ξ rfl
def ars:=t.tr.steps.length≤100
def art:=ae8 (apos.endLine == dg.line)
def aru:=("pieces",agm)
def arv:=ah0 X.N x
def arw:=ad6 "tuple"
def anx:=ajf.2.2
def alg ξ:=j6 false ξ (eC aq) eU
def ajh:=aei 2
def aji:=RelV v u
def akC:=amw 0
def ajj:=acO b hb
def ajk ξ:=IL b ξ q
def as7 ξ:=Option (ξ)
def as8 ξ:=ξ<l.length
def ap4 ξ ψ ζ χ:=by
 rw[ξ,ψ] at ζ
 exact χ
def ap5 ξ:=(e ▸ ξ)
def aAO ξ ψ ζ χ:=by obtain⟨ξ,ψ,rfl,ζ⟩:=χ
def aI1 ξ ψ:=if ξ then j else ψ
def aic ξ ψ ζ:=ξ λ ψ M2=>ζ
def agS ξ ψ:=aeA ξ≤ψ
def aMl:=! W.green.isEmpty
def aMm ξ:=f7 (Y.ss.idxOf ξ)
def aMn ξ ψ ζ:=aee ξ "_law_there" ψ ζ
def aMo ξ ψ ζ:=aee ξ "_law_asked" ψ ζ
def aMp ξ ψ:=b7 (env.kindOf ξ) ψ
def aMq ξ ψ:=aoq ξ "_law_enter" ψ
def anz ξ:=ξ (·.2)
def anA ξ ψ ζ:=cy ξ ψ ζ ac4
def anB:=an3 es
def aAP ξ:=afn H' ξ
def anC ξ:=by obtain⟨h1,h2⟩:=ξ
def anD:=amF dO
def anE ξ:=ag3 aA ξ
def anF:=ah0 xs x
def anG:=KV kvs vs
def aif:=.seq
def aAQ ξ:=ξ<1073741824
def ap6 ξ ψ:=agl (alF ξ) || ti ψ
def anH ξ:=pure (ξ)
def aNM ξ:=Nat.lt_of_lt_of_le ξ d7
def aNN ξ:=s.heap.Ns X.env.locals ξ
def aNO:=List.getElem?_set_ne h
def aNP ξ:=Nat.lt_of_le_of_lt ξ d7
def aNQ:=List.mem_reverse.mp hz
def aNR ξ:=ajp (Nat.lt_succ_self ξ)
def aNS ξ:=c8 (PySem.W.handedIn ξ)
def ajG ξ ψ ζ χ φ:=by
 have ξ:ψ:=ζ
 have χ:=φ
def avn ξ:=aeL ξ d
def ajH:=aDK s
def ajI:=aJ B.trains x
def ajJ:=ard x ("__debug__" : Str)
def ajK ξ ψ:=by
 intro pins s σ H ξ I h
 refine ψ
def ajL:=gU n bz
def aoD ξ ψ:=bg K ι S ξ ψ
def aI2 ξ ψ ζ χ φ υ:=by
 obtain⟨ξ,ψ,ζ⟩:=χ
 rw[φ] at υ
def ap7 ξ:=by by_cases h2:ξ
def aAR ξ ψ ζ:=show ξ∈ψ from ζ
def aI3:=["_law_piece","_law_joint"]
def ap8 ξ ψ ζ:=agA ξ ψ (ak (ζ))
def alh ξ ψ ζ:=ap8 ξ ψ (aR ζ)
def aho ξ ψ:=bh (bV false) ξ (ψ)
def as9 ξ:=ba (ay (dW false) b9 ξ)
def ajM ξ ψ ζ:=ba (ay ξ ψ ζ)
def ata ξ ψ:=ba (acW ξ (ψ))
def axR ξ ψ:=ba (agZ ξ ψ)
def aNT:=List.mem_append.mp h1
def aNU:=List.mem_append.mp h'
def aNV:=List.mem_append.mp hk
def aNW:=List.mem_append.mp hq
def aNX:=PySem.mem_of_lookup h
def aNY:=t.tr.ahead.map (·.1)
def aMr:=.FormattedValue
def aMs:=Paired.length r
def aMt ξ:=PySem.Within mA ξ
def aMu ξ:=Vis X.env.scope ξ
def aMv ξ ψ:=Heap.SameBut ξ ψ h2
def aMw ξ ψ:=HT.lP bR.length ξ ψ
def aMx ξ:=s.heap.update p ξ
def aMy ξ ψ ζ:=aee ξ "_law_tick" ψ ζ
def aMz ξ ψ ζ:=aee ξ "_law_done" ψ ζ
def aMA ξ ψ ζ:=aee ξ "_law_safe" ψ ζ
def aMB ξ ψ:=aoq ξ "_law_deed" ψ
def aMC:=b7 X.env.frame X.env.locals
def aI4 ξ ψ:=IsTup s.heap ξ ψ
def aI5 ξ ψ:=I.base.pL ξ xs ψ
def aI6:=! kvs.isEmpty
def aI7 ξ ψ:=assign ξ X.env ψ
def aI8 ξ ψ ζ:=bindL kindOf ξ ψ ζ
def aI9 ξ ψ ζ:=bindC kindOf ξ ψ ζ
def aJa ξ ψ ζ:=Reads s.heap ξ ψ ζ
def aJb ξ ψ:=dt ξ M1.length ψ
def aJc:=get_set h.y5
def aJd:=h.J.same rfl
def aJe:=TOk W.trains
def aJf ξ:=c8 (PV.mr M.length ξ)
def aJg:=aiN "trains"
def aJh ξ:=t6 ξ (dC (c7 "trains"))
def aJi:=kvs.length<sizeLine
def aAS:=Sum.inl k
def aAT:=af5 Key Value
def aAU ξ ψ:=aE ξ hr G.gg (ac3 ψ)
def aAV ξ ψ:=b7 (aJ W.trains ξ) ψ
def aAW:=aAf names
def aAX ξ ψ:=abe (bf (VW.vt ξ) ψ aP)
def aAY ξ ψ:=abe (aU ξ G.nd (ψ))
def atb:=by rename_i hc
def atc:=by rename_i hl
def atd ξ:=M.set n ξ
def ate ξ:=Pl deep ξ
def atf:=cU Y.ss
def aAZ ξ ψ ζ:=apY (kz T.m5 ξ) ψ ζ
def atg:=f7 c9
def ath ξ:=by rw[afZ rfl ξ]
def ati ξ ψ:=aq8 ξ (aa 1) ψ
def atj:=agM aeN
def atk:=agM ajX
def atl:=("signals",aiP)
def atm:=aiR n kvs
def atn:=c7 "branch"
def ato:=ajF true
def aoE:=.train
def aoF ξ ψ ζ:=λ ξ=>apD ψ ζ
def aoG:=some y
def aoH:=fU pre
def atp ξ ψ:=IL h' ξ ψ
def aoI ξ:=by rw[Ω (aS dz) ξ]
def aoJ:=af5 Int Tr
def avo ξ ψ:=bf (aO (bN G.hu) ξ aB) ψ aP
def akD:=(aHN).filter (bH Y.ps)
def akd:=afY i
def amT ξ:=ajs _ ξ
def ake ξ ψ:=by rw[aqR ξ (cV (P:=λ r=>ψ) ?_)]
def avp ξ:=aeM e ξ
def akf ξ:=aoj ξ _
def akg:=pw n bz kn oF W B
def aMD ξ ψ:=∀ξ∈scope.names,ψ
def aEG:=Or.inl rfl
def aEH:=bj.fG.mp r
def aEI:=dB "falls"
def aEJ ξ:=mem_keys d ξ
def aEK:=aaM "draw"
def aEL:=by
 rw[List.length_append]
 omega
def aEM:=by
 rw[List.size_toArray]
 omega
def axS:=by simp at this
def axT:=if_pos h
def axU:=["self"]
def axV ξ:=PV.sX ξ xs
def axW:=ad9 Heap
def axX ξ ψ:=aiL (bO ξ) ψ
def aA0 ξ:=aaz (H1 ξ)
def aNZ:=aA0 s1.heap.objs.size
def ahH ξ:=abe (bq (ξ))
def ali ξ:=Nat->ξ
def adu:=ali Tg
def aoK ξ ψ:=ali (ξ->ψ)
def aet ξ ψ:=aol (k+1) ξ (ψ)
def aN0:=List.range bs.length
def aN1:=keys.all (·.isSome)
def aN2:=Str.ofString "found"
def aN3:=of_decide_eq_true h1
def aN4:=of_decide_eq_true hc
def aN5:=of_decide_eq_true hk
def aN6:=List.mem_range.mp hp
def aN7:=ai7 s.heap.objs.size
def aJj ξ:=starEach ξ (envOfC qual scope s.heap.objs.size f cd)
def alj ξ ψ ζ:=ξ ρ λ ψ M1=>ζ
def aoL:=afY (cw Y.ss s).2
def akE ξ:=nV ξ xs
def akF:=r∈W.green
def akG:=RelV y u
def akH:=Ext ι S H ι' S' H'
def aJk ξ:=by simp[ξ,PyData.eqv]
def axY ξ ψ ζ χ:=nK ξ (ψ:=ζ) rfl χ
def avq ξ ψ ζ:=show ξ=ψ from ζ
def aiY ξ ψ ζ χ:=by
 unfold ξ
 rw[ψ,ζ,χ]
def aoM ξ ψ ζ:=acN ξ (ψ∈ζ)
def ahT ξ:=λ p hp=>ξ
def arx:=ahx aLj
def ahU ξ ψ ζ χ:=by rw[acH ξ ψ ζ (aH (χ))]
def aME:=.ExceptHandler
def aMF:=! names.isEmpty
def aMG ξ ψ:=aoq ξ "_law_new" ψ
def ap9:=by exact this
def aqa:=some _
def aqb ξ:=rC X.K ξ
def aqc ξ ψ:=eY ξ b9 ψ
def aqd:=aem []
def aqe:=cb false aj
def aqf:=Y.ps.length≤16
def aqg ξ:=by rw[Ω zK (adP ξ)]
def aqh:=("found",hV rs)
def aqi ξ ψ:=gS aF ξ b8 ψ
def agF ξ ψ:=aK (ξ) (η ψ) M
def ahV:=jI W r
def avr ξ ψ:=show bJ ξ=ψ from rfl
def aA1 ξ:=xs.length=ξ
def aA2 ξ:=xs.drop (ξ)
def aA3 ξ:=ξ<ss.length
def aA4 ξ:=ξ∈t.steps
def aN8:=["_law_pieces_here","_law_signals_here"]
def alk ξ ψ ζ:=aG (bL ξ (ψ)) (ζ)
def aN9:=List.mem_cons.mp hx
def aOa:=List.mem_cons.mp hm
def aOb:=List.mem_cons.mp hs
def aOc:=! bR.toArray.isEmpty
def aOd:=of_decide_eq_true e
def aOe:=of_decide_eq_true z
def aOf:=List.getElem_mem hk
def aOg:=List.getElem_mem qj
def aOh:=W'.falls.map (·.1)
def aOi:=qC T.vc.choose_spec
def aOj:=qC T.xq.choose_spec
def aOk:=qC T.ui.choose_spec
def aOl:=acy bR.toArray.size
def aJl:=List PyData
def aJm:=xs.map some
def aJn:=bj.bD.mp r2
def aJo:=bj.bD.mp ry
def aJp:=dB "trains"
def aJq ξ ψ:=HA ξ M.length ψ
def aJr:=aaM "throw"
def aJs:=agh "found"
def aJt:=agh "locks"
def aJu:=agh "lying"
def aJv ξ ψ:=asD ξ ψ "piece"
def aJw:=aEa "joint"
def aJx:=aIF t.ahead
def aJy:=X.mg "range" = none
def aJz ξ:=ak1 ["yard","piece"] "piece" ξ
def aEN ξ:=t.tr.ahead=ξ
def aEO ξ:=acc.length+ξ
def aJA ξ:=d.length≤ξ
def avs:=some ys
def avt:=ad9 afV
def avu:=aDK ajf
def avv:=aDT acT
def avw:=f1.trans anf
def avx ξ:=aw G.hu (af0 ξ) (aa 1)
def avy ξ:=akn (abI 0 aB) (aa 1) ξ
def avz:=alG ajf.1 anx
def avA:=aoK Int aeQ
def ary ξ:=s.heap.push { cls:=apx,data:=aif (ξ).toArray }
def arz:=alR _ apt
def alm ξ ψ ζ χ φ υ ϑ:=λ ξ ψ ζ χ φ υ ϑ=>?_
def aln:=aDL p
def alo ξ ψ:=h.ix (ρ:=ξ) (d:=b8) rfl ψ
def alp ξ:=w1 ι1 S1 H1 _ agi s1 ξ
def alq:=ai7 p
def alr:=axo e
def als:=b::rest
def alu:=dR K ι S kvs cf
def akI ξ:=jg M ξ
def afW ξ:=acy (ξ:Nat)
def acK ξ:=az (ξ)
def aA5 ξ ψ ζ χ φ υ:=by
 have ξ:ψ:=ζ
 rw[aaA χ φ υ]
def aA6 ξ ψ ζ:=by obtain⟨ξ,ψ,e⟩:=ζ
def ae2 ξ ψ:=by
 rw[ξ]
 exact ψ
def abP ξ ψ:=gq ξ (ψ)
def avB ξ ψ ζ χ:=abP ξ (ais ψ ζ χ)
def avC ξ ψ ζ χ:=abP ξ (alk ψ ζ χ)
def aJB ξ:=(ξ).names.lookup
def aJC ξ ψ:=∀ξ<bz.length,ψ
def aA7:=envOfC qual scope s.heap.objs.size f cd::outer
def aoN ξ ψ:=⟨ξ,ψ,?_⟩
def alv:=kP Y W
def axZ ξ ψ:=absurd ξ (ψ)
def ax0 ξ ψ ζ:=by
 show ξ
 rw[Ω ψ ζ]
def aqj ξ ψ:=by
 show ξ
 exact ψ
def aqk ξ:=λ i hi=>ξ
def avD:=aqk (ar b6)
def aiE ξ ψ:=λ ξ H2=>ψ
def aiZ ξ:=M[n]? = abq ξ kvs
def aql ξ:=c8 (ξ).isSome
def aEP ξ:=aql (alF ξ)
def amU ξ ψ:=(ξ).lookup ψ
def aMH ξ:=(ξ,NameKind.free)
def afJ ξ ψ:=agf (ξ=ψ)
def aOm:=Option.some.inj e'
def aOn:=List.of_mem_zip hv
def aOo:=ForInStep.yield ok
def aOp:=Nat.succ_ne_self _
def aOq:=PyData.depthAll xs
def aOr:=acS sc.isCoroutine
def aOs:=acS sc.isGenerator
def aOt:=ang B.falls.length
def aOu:=aiT W.locks.length
def aMI:=yU.map (·.2)
def aMJ ξ:=B.lying.set p ξ
def aMK:=ahq M1.length
def aML:=af6 vs.length
def aMM:=ajY rs.length
def aMN:=us.length=ps.length
def aMO:=vs.length=ps.length
def aEQ:=f6 s.len
def aER ξ:=aiI (amT ξ)
def aES ξ:=abr (aku ξ)
def aET ξ ψ ζ χ:=abr (dS false ξ G.calm ψ ζ (λ _ _ _ _=>eX) χ)
def aEU ξ ψ ζ χ:=afR (ad8 ξ ψ ζ χ)
def aEV:=aaM "set"
def aEW ξ:=aDX (aeA ξ)
def aEX ξ:=f1.trans (ak2 ξ)
def aEY ξ:=ak8 (axg ξ)
def aEZ ξ ψ:=agl (alF ξ) || agl (axa ψ)
def aE0 ξ ψ ζ χ φ υ:=abP ξ (aG (bL ψ (ζ)) (aG (bL χ φ) (υ)))
def aA8:=.Compare
def aA9 ξ:=eval ξ env
def aBa:=Sem Bool
def aBb:=P.zip vs
def aBc:=F.mono h
def aBd ξ ψ ζ χ φ:=eO ξ ψ ζ χ (g8 φ)
def aBe ξ ψ:=by rw[ajZ ξ (jw ψ)]
def aBf ξ ψ:=by rw[ajZ ξ (jy ψ)]
def aBg:=Θ 2048
def aBh ξ ψ ζ χ:=x6 (h1 ξ ψ ζ) χ
def aBi ξ ψ:=c8 (vY ξ ψ)
def aBj ξ ψ:=VW.vt (qG ξ ψ)
def aBk:=fs.length<1000
def aBl:=some b
def arA:=some 2
def arB:=Res β
def arC:=dq ac4
def arD:=akS []
def arE:=kL ns 39
def arF:=ant []
def arG:=cE true []
def arH:=cb true aj
def arI:=cv B.trains x t'
def ax1 ξ:=aw ξ (aa 0) aq
def atq ξ ψ ζ χ:=dS false ξ G.calm ψ ζ χ (λ _ _ _ _=>(aa 0))
def al3:=by exact abO
def aoO:=enc a
def al4:=auA s
def al5:=asx h
def al6:=auK q
def al7:=b7 (X.env.cells.lookup x) c
def arJ ξ:=aiR n (ξ kvs)
def al8:=acL ι n a
def al9:=fH ds ρ M
def agv:=kv.1
def ai0:=lN Y W B
def aJD ξ:=ns.length≤ξ
def aJE ξ:=ξ≤xs.length
def aJF ξ:=by simp only[ξ] at e
def aJG:=["piece","joint"]
def ax2 ξ ψ ζ χ φ υ:=by rw[ahJ ξ ψ ζ ⟨χ,φ,υ⟩]
def ai1 ξ:=λ q hq=>ξ
def avE:=W.now+Y.wait
def adm ξ:=λ e=>ξ
def avF ξ:=adm (h ξ)
def aE1 ξ ψ:=ale (adm ξ) ψ
def aBm ξ:=adm (dz ξ)
def aE2:=["pieces","number","joint"]
def aBn ξ ψ:=["yard",ξ,ψ]
def abf ξ ψ:=λ _ ξ=>ψ
def aMP ξ:=(by simpa using ξ)
def aMQ ξ:=h.objs.size≤ξ
def aOv:=decide_eq_false e
def aOw:=["_law_at","_law_yard","_law_before"]
def aOx:=aEf "_law_name" "_law_signal"
def aJH ξ:=some (acy ξ)
def aJI:=xs.map η
def aJJ ξ:=Gl ξ "range"
def aJK:=K.lookup a
def aJL:=Or.inr rfl
def aJM:=bj.bD.mp r
def aJN:=bj.ux.mp r
def aJO:=dB "green"
def aJP:=ss.drop sh
def aJQ:=ss.take sh
def aJR ξ:=jJ ξ W.falls
def aJS ξ:=S.locks ξ hp
def aJT ξ:=S.greens s ξ
def aJU ξ ψ:=asD ξ ψ "name"
def aJV ξ ψ:=bx (c7 "held") ξ rfl ψ
def aJW ξ ψ:=bx (c7 "none") ξ rfl ψ
def aJX ξ ψ:=aqk (h.hi ξ ψ)
def aJY:=aBn "name" "signal"
def ax3:=fy deep
def ax4:=afY Es
def ax5:=an4 b6
def ax6 ξ:=abI ξ (aa 3)
def ax7 ξ:=x6 (ar b6) ξ
def ax8 ξ:=ay (dX false) ξ (Θ 1)
def ax9:=apu (apu aEc)
def aya:=aiT (ahK aaC)
def ayb ξ:=nO X (compareOp op) ξ
def ayc:=ad6 "slice"
def ayd:=c7 "plain"
def arK ξ ψ ζ:=⟨T.ot,T.os,T.oa,ξ,ψ,ζ⟩
def arL ξ ψ:=agf (ξ≤ψ)
def aye:=alR _ (bj.fG.mpr rfl)
def amV:=pj ps ss
def amW:=afY j
def amX ξ:=by rw[Ω e ξ]
def amY:=t6 c9 (dC (η 0))
def amZ:=nT kvs k
def am0 ξ ψ:=acI b o ξ ψ
def am1:=u7 x M1
def ayf ξ ψ ζ:=aE ξ hr G.gg (af ψ (ac3 ζ))
def afM ξ:=(ξ:adl).Nodup
def aMR:=r1.append r2
def aMS:=bs.map PV.bl
def aMT:=dB "signals"
def aMU ξ:=Option.map _ ξ
def aMV:=Y.ps.map ah9
def aMW:=aaM "trains"
def aMX:=akQ "points"
def aMY:=["self","signal"]
def aJZ:=vs.length=es.size
def aE3 ξ:=ξ=xs.length
def aMZ:=xs.length+ys.length
def aE4 ξ:=d.depth≤ξ
def atr ξ:=ξ PV.int
def ats:=.Tuple
def att ξ ψ ζ χ φ:=λ ξ=>alE ψ ζ χ φ
def atu ξ ψ:=I.cQ b ξ ψ
def atv ξ:=rM X.K ξ
def atw ξ:=wZ ξ b6
def atx ξ:=acN kv ξ
def aty:=afn H s'
def atz ξ:=backTo dg (an3 ξ)
def atA ξ:=akS (ξ bJ)
def atB:=jI W r'
def ama ξ ψ ζ χ φ:=⟨ξ,ψ,rfl,ζ,χ,φ⟩
def ag7:=.set
def anI ξ:=abT C.tr ξ
def aoP:=anI (lH (t0 M.length))
def ajN ξ:=cb false (ξ)
def ajO ξ ψ ζ:=apY (bS ξ) ψ (ζ)
def aBo ξ:=by
 show ξ<16000000
 decide
def aM0:=X.env::X.outer
def aBp ξ ψ ζ χ:=w.foldl (λ ξ ψ=>ζ) χ
def aOy:=some Y.rs.length
def aOz:=e1.trans e2.symm
def aOA:=! W.falls.isEmpty
def aOB:=decide_eq_true e
def aOC:=ns.map WData.int
def aOD:=names.map PV.int
def aOE:=aLH "_law_joint"
def aOF:=["_law_joint","_law_loose"]
def aOG:=["_law_signal","_law_yard","_law_green"]
def aOH:=["_law_script","_law_k","_law_world"]
def anJ ξ ψ ζ χ:=by rw[acM ξ ψ ζ q χ]
def arM ξ:=ah0 ξ v
def anK ξ:=b7 ξ r
def anL ξ ψ:=akY ξ x ψ
def anM:=cF B.falls r
def anN ξ ψ ζ:=amP ξ ψ ζ M
def anO ξ ψ ζ χ:=aeL (ξ ψ ζ pos) (χ)
def anP ξ ψ ζ χ:=aeM (ξ ψ ζ pos) (χ)
def anQ:=lP items.size 0 lo
def anR ξ ψ:=h1.ix (ρ:=ξ) (d:=b8) rfl ψ
def arN:=aQ bz r
def anS:=W.now+1
def alw:=rf P w H h
def aqm ξ ψ:=ir X (aea ξ) ψ
def ajl:=cq Y s
def aeu ξ:=bK (ξ)
def aM1:=["_law_name","_law_at","_law_world"]
def aJ0 ξ:=ξ%4294967291
def alx ξ ψ:=c6 ⟨ξ,ψ⟩
def aoQ ξ ψ:=b5 ⟨ξ,ψ⟩
def aJ1 ξ ψ ζ χ:=⟨ξ, ψ, rfl, ζ, χ⟩
def aBq ξ ψ ζ:=by
 rw[ξ] at ψ
 refine ζ
def ahp ξ ψ:=[none,ξ,ψ]
def aBr ξ ψ:=cn ξ (ahp ψ none)
def atC ξ:=aBr ξ ara
def am2 ξ ψ:=∀q∈ξ,ψ
def amb ξ ψ:=t6 (ξ) ψ
def akh ξ ψ:=kW Y M W j (ξ) ψ i x
def aqn ξ:=acK (aH (ξ))
def aE5 ξ ψ:=Pw ξ (abf _ ψ)
def aE6:=rk.val k
def aE7 ξ ψ:=findIn K ξ ψ
def aE8 ξ:=I.lock h ξ
def aE9 ξ:=G.g.sg _ ξ
def aFa:=asq Expr
def aFb ξ:=ac1 abT C.fa ξ
def aFc:=⟨t.tr.steps,t.tr.ahead,true⟩
def aFd ξ ψ:=VW.vt (j4 ξ ψ)
def aFe:=bw T.eQ (aa 2)
def aFf ξ:=adm (Zl ξ)
def aFg ξ:=qH xs none ξ
def aFh ξ:=aeu (iS ξ)
def ahI:=Sm x
def ajP:=Yd C Y M B W o
def aOI:=Paired.length h
def aOJ:=Nat.ne_of_lt Sn
def aOK:=Nat.ne_of_gt Sn
def aOL:=I.C6.sublist hg
def aOM:=I.Jy.sublist hf
def aON:=["_law_script","_law_base"]
def aOO:=["_law_yard","_law_word","_law_number","_law_name"]
def aOP:=aLH "_law_name"
def aOQ:=["_law_pieces_here","_law_signals_here","_law_wait"]
def aOR:=["_law_at","_law_yard","_law_name"]
def aOS:=["_law_script","_law_base","_law_pieces_here"]
def aOT:=["_law_step","_law_yard","_law_number"]
def aOU:=aEf "_law_signal" "_law_name"
def aOV:=["_law_yard","_law_pieces_here","_law_places"]
def aOW:=["_law_pieces_here","_law_signals_here","_law_wait","_law_points","_law_world"]
def aOX:=["_law_yard","_law_pieces_here","_law_names","_law_begun"]
def aOY:=["_law_world","_law_signal","_law_name","_law_route","_law_falls","_law_way"]
def aM2:=by exact nomatch e
def aM3:=Option Bool
def aM4:=bj.bD.mp rx
def aM5:=bs.map V.bl
def aM6:=dB "points"
def aM7:=dB "pieces"
def aM8:=Nr.trans hk
def aM9:=beyond Y.ps
def aNa:=aaM "green"
def aNb:=agh "ticks"
def aNc:=aiN "falls"
def aNd:=bR.toArray.size*k.toNat
def aNe:=OldK s₁.heap s'.heap
def aNf:=aBn "train" "route"
def aJ2:=Sum.inl a
def aJ3:=Sum.inl b
def aJ4:=by exact ww.elim
def aJ5:=Option α
def aJ6:=if_pos hc
def aJ7:=if_neg hj
def aJ8:=h1.get? b
def aJ9:=h2.get? b
def aKa:=K.In base
def aKb:=["train"]
def aKc ξ:=tn ξ s.heap
def aKd:=ks.map kV
def aKe:=ι.take n
def aKf ξ:=L2.less S ξ
def aKg:=r.less ha
def aKh:=tt.map dw
def aKi:=l.find? p
def aKj ξ:=acS (auF ξ)
def aKk ξ:=acS (aAy ξ)
def aKl ξ:=c8 (aqS ξ)
def aKm ξ:=aob (acy ξ)
def aKn:=agB PV.mr
def aKo:=aAf loose
def aKp ξ:=aeA ξ=ps.length
def aKq ξ:=agD (ax1 ξ)
def aKr:=relabel scope X.env
def aKs ξ:=ba (agZ b8 ξ)
def aKt ξ:=aql (aJ d ξ)
def aKu:=aio o "get" apos
def aKv:=aio o "pop" apos
def aFi ξ ψ:=by
 rw[← ξ]
 exact ψ
def aBs:=[p.enc]
def aBt:=hV Y.rs
def aBu ξ:=yx ξ K.tl
def aBv:=sP Y.rs
def aBw:=aHT lim
def aBx ξ ψ ζ:=aAn ξ ψ ζ Ξ
def aBy ξ ψ:=ajB ξ sT ψ
def aBz ξ ψ ζ:=agQ ξ ψ ζ asX
def aBA:=sl.mono (e1.trans e2)
def aBB:=adn (bV false) (aa 1)
def aBC:=t6 aah (dC (η 2))
def aBD ξ ψ:=x6 (y ξ d7) ψ
def avG:=some 3
def avH:=fJ rfl
def avI ξ ψ:=eN (eL G.hu) ξ ψ
def avJ:=f6 aI
def avK ξ:=ah0 cf ξ
def avL:=auG vs
def avM:=agB bj
def avN:=lP items.size items.size hi
def avO ξ:=aj8 ξ aB
def avP:=aAP s'
def avQ:=avp te
def avR ξ:=akS (ξ aI)
def avS:=aoK α PV
def avT:=t.ahead=[]
def avU ξ ψ ζ:=s.ob ξ ψ ζ h1 h2
def avV:=cu K ι' S' M' H'
def avW:=pre.flatMap (pX ps ss)
def avX ξ:=hb pins s1 σ H1 ξ I1 q1
def aoR:=az4 V
def aoS ξ:=upd H ξ o
def avY ξ:=aq3 e ξ
def aoT:=af5 akP V
def aoU ξ:=M.set n (ξ kvs)
def aoV:=aeM a ta
def aoW:=jF kvs k
def aoX:=acO s hs
def aoY:=aeL a da
def aoZ:=aw4 bj h
def ao0:=λ _ _=>False
def akJ ξ ψ ζ:=yZ C ξ ψ x ζ
def akK ξ ψ:=by rw[afZ (ξ) ψ]
def akL ξ ψ:=anj ξ (ψ)
def abU ξ ψ ζ:=aL ξ ψ (au ζ)
def aih ξ ψ:=by by_cases e:ξ=ψ
def acR ξ:=by
 rw[ξ]
 rfl
def aFj ξ ψ:=by
 have:ξ:=ψ
 rw[acR this]
def aij:=ο t.ob
def atD ξ ψ:=gP o M ξ ψ
def aOZ:=bR.toArray.size+GJ.toArray.size
def avZ ξ ψ:=bO (av ξ ψ)
def av0 ξ ψ:=avZ ξ [b8,ψ]
def anT ξ:=av0 ξ b9
def av1 ξ:=av0 ξ c9
def aBE ξ:=av0 ξ aah
def ao1 ξ ψ:=λ ξ hy=>ψ
def aly ξ ψ:=akt (ξ) ψ
def arO ξ ψ:=nO X (compareOp .ξ) (anq ψ)
def aqo ξ:=dA (gN ξ) nw
def aO0:=Array GenState
def aO1:=if_pos trivial
def aO2:=X.env.kindOf x
def aO3:=AllBare s.gens
def aO4:=s1.heap.get? b
def aO5:=pre.map (·.1)
def aO6:=W.locks.map bJ
def aO7:=aHZ I.ok.above
def aO8:=aJA pre.length
def aO9:=["_law_world","_law_route","_law_way","_law_step","_law_piece"]
def ao2:=.list
def atE ξ ψ ζ:=akt ξ (ay (nq false) ψ ζ)
def ao3:=by simp at h
def ao4:=aS hb
def ao5:=aqY p
def ao6:=auK t
def ao7 ξ:=flat M deep ξ
def ao8:=by
 refine ad5 _ ?_
 rw[adk]
def ao9:=acy k
def apa:=Slots K ι S ρ σ
def apb ξ:=I.tr _ _ ξ
def apc:=akI x
def apd:=di ρ M
def ape ξ:=VN X Ex ξ ds
def apf ξ:=atD o ξ
def aik:=Sm i
def amc:=mh W p
def aki:=Sd C Y M B W o j
def aNg:=kvs.length=vs.length
def aFk ξ:=ξ<rs.length
def aKw:=xs.length*k.toNat
def av2 ξ ψ:=∀ξ:Nat,ψ
def anU ξ ψ:=∀x∈ξ,ψ
def anV ξ ψ:=∀b∈ξ,ψ
def av3:=af5 akP (Addr×Value)
def alz ξ ψ ζ χ:=⟨ξ,vs,ψ,ζ,χ⟩
def aKx:=(by rw[List.size_toArray]<;>omega)
def aKy:=(by simp only[Int.reducePow])
def aKz:=if_neg b6
def aKA:=bj.kZ.mp r
def aKB:=dB "enter"
def aKC:=bG t.steps
def aKD:=l.filter p
def aKE:=afY Y.wait
def aKF:=Θ 999999
def aKG:=["self","name"]
def aKH:=["piece","step"]
def aBF ξ ψ:=⟨mg_of X G ξ,ψ⟩
def av4:=.tuple
def av5:=some k
def av6:=some i
def av7:=dw (cw Y.ss s)
def av8:=cN Ξ
def av9 ξ:=abq ξ cf
def awa:=aam hi
def awb:=anb vs
def awc:=aDJ α
def awd:=ee eT B.trains
def awe ξ ψ:=λ ρ M=>akY ξ xs ψ
def awf:=amF α
def awg:=by rw[t7 q1 w1 w1.elim]
def awh:=aAF xs
def aFl:=acK (aH ?_)
def awi:=aJ d k'
def awj ξ:=KT ξ kvs xs
def aqp ξ:=λ b hb=>ξ
def aqq ξ:=ξ≤lim
def alA ξ:=afY (ξ)
def alB ξ:=kL ns (ξ)
def ayg ξ:=du (j7 false) T.lx gE ξ
def ajQ ξ:=Q ξ H'
def amd:=Wf Y W
def aFm ξ:=⟨ξ, rfl⟩
def acZ ξ:=λ z=>ξ
def ayh ξ:=ob.data=ξ
def ayi ξ:=trunc (ξ)
def aFn:=.UnaryOp
def aFo:=B.get? e
def aFp:=B.get? b
def aFq:=["self","pieces","signals","wait"]
def aFr:=r.cut hb
def aFs:=dB "now"
def aFt:=adS h.w7
def aFu:=af0 T.iq
def aFv:=af0 T.mj
def aFw:=by rw[asQ encD]
def aFx:=⟨⟨t.tr.steps.dropLast,t.tr.ahead,t.tr.out⟩,t.ob,t.so,t.ao⟩
def aFy:=v₂::rest
def aFz:=aio o name apos
def aFA:=by rw[abd S.qR I.Jy]
def aBG:=some r'
def aBH ξ:=RelV ξ w'
def aBI:=Qp ends
def aBJ ξ:=H.x ξ rfl
def aBK:=Y.ps.length≤100
def aBL:=f7 (bG way)
def aBM:=aHT 100
def aBN:=auK (cw Y.ss Es)
def aBO:=agM aNl
def aBP:=Δ s2.heap.objs.size
def aBQ:=W.green++aht
def aBR:=axG c9
def aBS:=η Y.ss.length
def aBT:=b7 auB ai8
def aBU:=aJ d Es
def aBV:=aos (aif vs.toArray)
def aBW ξ:=akn (aa 0) aB ξ
def aBX ξ:=akn (aa 4) aB ξ
def aBY:=abf _ rfl
def aBZ:=aeu (aaM "ok")
def aB0:=ad6 "object"
def aB1 ξ:=avY (h ξ)
def awk ξ:=b5 (aiI ξ)
def atF:=sU aA7
def awl:=aI (flip s)
def aqr:=[(ae 12)]
def aqs:=afY N
def aqt:=ahq n
def aqu ξ:=aDM ξ.1
def aqv:=aAh i
def aqw:=aaz (S a)
def aqx ξ:=amC ξ (agf (r∈W.green))
def aB2:=amI _
def ayj ξ:=h.push (ς ξ)
def aqy:=dZ Y.rs r
def aqz:=avn e
def aqA:=HT.lP xs.length 0 lo
def aqB:=aeL o lQ
def aqC:=qB K H a xs
def aqD:=cW C Y aeU o M B
def aqE ξ:=mx K aF ξ
def aqF ξ ψ:=if bT i Y.ps.length then ξ ψ M else L6 C.nt M
def aqG:=Oz C Y ud zg ue tm Cg
def ai2:=L6 C.nt M
def arP ξ:=⟨_,ξ⟩
def ame ξ:=λ x hx=>ξ
def amf ξ:=λ s hs=>ξ
def amg ξ:=λ r hr=>ξ
def amh ξ:=Inv n bz jA (ξ)
def ami ξ:=axg (ξ)
def amj ξ:=by refine dq (ξ)
def amk ξ:=kP Y (ξ)
def awm ξ ψ:=bu (nv (dP ξ)) (aeu (aoe ψ)) fo
def adp:=Str->apq
def akM:=kV k
def ajm:=sy Y W
def ajn:=fR Y W w i x
def aNh:=keys.length=values.length
def aKI:=["_law_world","_law_name","_law_train","_law_step","_law_steps","_law_route","_law_fall"]
def aNi:=["_law_step","_law_world"]
def aNj:=["_law_lock","_law_route"]
def ahW ξ:=λ ρ=>∃y,ρ=ξ
def apg ξ:=λ xs M=>ξ
def am3:=an3 (e::es)
def atG ξ ψ:=ay cC (adU eh (Θ ξ)) ψ
def atH ξ:=eO (! ξ) M ?_ (g8 hk) (g8 hk)
def am4 ξ ψ:=by
 refine PE.imp (ξ) (acI σ H Q h)
 obtain⟨ι,S,M,ρ,aW,sl,w⟩:=h
 refine⟨ι,S,M,ρ,aW,sl,aeK (iw X.K) w ψ⟩
def am5 ξ ψ:=pw n bz kn oF (ξ) (ψ)
def aKJ:=Sum.inr a
def aKK:=Sum.inr b
def aKL:=if_pos h1
def aKM:=if_pos hl
def aKN:=if_pos hk
def aKO:=if_neg hb
def aKP:=h'.get? e
def aKQ:=pure none
def aKR:=other rfl
def aKS:=rk.val kk
def aKT:=bs.all id
def aKU:=bs.any id
def aKV:=dB "wait"
def aKW:=h4 e.symm
def aKX:=get_set h
def aKY:=acS t.out
def aKZ:=akQ "now"
def ayk:=η Y.wait
def ayl:=.Slice
def aym:=pure x
def ayn ξ:=tc ρ1 ξ
def ayo:=cO aeN
def ayp ξ ψ:=aw ξ (aa 2) ψ
def ayq:=aam hs
def ayr:=f6 W0
def ays:=f6 B0
def ayt:=asq DE
def ayu:=ad9 aY
def ayv:=adP sW
def ayw:=aw8 es
def ayx ξ:=ah0 ξ v'
def ayy ξ ψ ζ:=eO ξ ψ ?_ (g8 hk) ζ
def ayz:=aq1 Vi
def ayA:=af5 Int α
def ayB:=HT.lP xs.length xs.length hi
def ayC ξ ψ ζ:=gL ξ (kk:=ψ) rfl ζ
def ayD:=aov 11
def ayE:=by rw[t7 e2 w1 w1.elim]
def ayF:=by rw[anw es]
def ayG:=I.pin p hp
def ayH:=I.tr x t hx
def ayI ξ ψ ζ:=aeM (afy ξ ψ [] dg) (ζ)
def ayJ:=by rw[afZ e dz]
def ayK:=by
 rw[← MC]
 rfl
def ayL:=vj I.cQ eb
def ayM:=pw Y.ps.length Y.rs (bH Y.ps) oF W B
def ayN:=ay zv (aiM c9) (Θ 1)
def ayO:=by rw[aHR fR hk hk]
def awn:=f7 (bG aw3)
def aB3:=afY (cw Y.ss Es).2
def atI ξ ψ:=k it Ξ ξ ψ
def arQ:=[MO.ins C.tr (lH (t0 M.length))]
def ayP:=cz hn hq
def arR:=afY b
def arS ξ:=ad5 _ ξ
def arT:=bT i Y.ps.length
def arU ξ ψ:=aeK (iw K) ξ ψ
def arV:=agf (r∈W.green)
def arW:=by rw[agb e]
def ayQ:=cF W.trains x
def arX:=aJ W.falls r
def arY ξ:=ajB p ς ξ
def arZ:=ai6 (a == sysModules)
def ar0 ξ:=d.map λ q=>ξ
def ar1:=Good0 X Ex
def ar2:=r∉W.green
def ar3:=acy 1
def ar4:=acy m
def ar5:=by
 intro _
 rfl
def ar6:=acO p hp
def ar7 ξ ψ:=h2.ix (ρ:=ξ) (d:=b8) rfl ψ
def ar8:=aL N ps (au st)
def ar9:=Up ι S ι' S'
def asa:=vq w M'
def asb ξ ψ ζ:=abS (ξ ψ) H I ζ
def ayR:=aqp (hf b hb).1
def asd:=acL M n o
def ase ξ:=afe (model prog w) A ξ Q E
def asf:=aQ Y.rs q.1
def ash:=∀y∈xs,Pl k y
def aqH ξ ψ:=aeA (ξ++ψ)
def awo ξ:=PA X es ξ
def aFB ξ:=aeA ξ=l.length
def aiF ξ:=(ξ).toNat
def aiG ξ:=by
 show ξ<1000
 decide
def aK0 ξ:=(ξ).symm.trans
def ajo ξ:=ξ->asw
def atJ:=ajo Bool
def aph:=ajo St
def aB4 ξ:=Good ξ (λ _=>E)
def aml:=Gl X x
def am6 ξ:=sY M ξ
def aFC ξ:=("falls",ξ)
def awp ξ:=ξ∉X.fs
def awq ξ ψ ζ χ:=Body ξ ψ ζ (χ)
def afX ξ:=dq (ξ)
def atL ξ:=afX (aqn ξ)
def anW ξ:=λ D σ H=>ξ
def ayS ξ ψ ζ χ:=show ae ξ ψ M=ζ (η χ) M from rfl
def ayT ξ:=aJ (ξ).trains y
def asi ξ ψ ζ χ φ:=⟨ξ,ψ,ζ,rfl,χ,φ⟩
def aFD:=List β
def aFE:=List En
def aFF:=mA name
def aFG:=df h.zb
def aFH:=nD h.y5
def aFI:=h.but x
def aFJ:=G.wl hr
def aFK:=rm G.hu
def aFL:=auA Es
def aFM:=aDK (bX t.tr)
def aFN:=RelV akM u
def aFO:=c8 amc
def aFP:=ank agc
def aFQ:=aDV 100
def aFR:=aJ B.greens Es
def aFS:=aiM ZJ
def aFT:=aAf (dy Y W.trains Es)
def aFU:=agM aht
def aFV:=agM aDN
def aFW:=agl acJ
def aFX:=aaz acJ
def aFY:=ag4 (L1.map PV.int)
def aFZ:=ag4 (L2.map PV.int)
def aF0:=amI aAz
def aF1:=ad6 "BaseException"
def aF2:=ay aK c9 b8
def aF3:=ajz Str NameKind
def aF4:=f2.trans anf
def aF5:=t6 ZJ (dC (η 1))
def aF6:=adm (ne e.symm)
def aF7:=η kvs.length
def aF8:=aeu (aaM "held")
def aF9:=aeu (aaM "none")
def aGa:=aeu (aaM "red")
def aGb:=abe (cJ T.lu hr (cD (fw (aa 1) (cD gD))))
def aGc:=η ys.length
def aGd:=ajp (asr akO I.ok.above)
def aGe:=anH (ad6 "method_descriptor")
def aGf:=backToKw pos (keywordEach [] X.env)
def aGg:=ajQ σ'
def aGh:=tmod rfl d7
def aGi:=X.stack=aM0
def aGj:=⟨b6,b6⟩
def aGk:=afX aFl
def aGl:=fy deep aoO
def aGm:=amv c7 w.s
def aGn:=ak8 (amb aLS (ae 10))
def aGo:=alG (bX t.tr).1 (bX t.tr).2.2
def aGp:=ahh rfl rfl rfl
def aGq:=cg false aiw (iL c9) (gN 0) sI akC
def aGr:=atG 256 (Θ 2)
def aB5 ξ:=("near",ξ)
def aGs:=Array apq
def aGt:=ajz Fg apq
def aGu:=σ.set i afw
def atM:=by exact akO
def ayU:=xQ [(aiM b9)]
def atN ξ:=d ρ1 ξ
def atO:=bT i Y.ss.length
def atP:=RelV x u
def atQ:=az5 b
def atR ξ:=upd H ξ u
def ayV ξ ψ ζ χ φ υ ϑ:=by rw[ajy ξ 1 ψ ζ χ (aee φ υ 2 _) ϑ]
def atU:=c8 (X.fn x)
def atV ξ:=ajB l ς ξ
def atW:=cF W.falls r
def atX:=acy 0
def atY:=acy s
def atZ:=Sum.inl q.1
def at0:=acS (aqS i)
def at1 ξ:=nO X f ξ
def at3:=ap5 L
def at4:=("wait",η wait)
def at5:=afW 0
def at6:=Binds K fd ps []
def at7:=aeM b tb
def at8 ξ:=adw 5 ξ (ee eT B.trains)
def at9:=f7 (abT C dx fs)
def aua:=aw2 X σ' H' s'
def aub:=abq .own x
def auc ξ ψ:=M[ξ]? = ag4 ψ
def aud:=∀b∈fp,zr X pins H b
def aue:=All L K
def auf ξ ψ:=Tw K mg ξ ψ
def auh ξ ψ ζ χ:=wpAny_mono ξ ψ λ _ _ ζ=>χ
def aui:=cx X scope N my
def aB6:=W.locks.set (t.ahead.headD (0,0,0)).1 none
def auj ξ ψ:=amN (ho pins s σ H _ I h) ξ ψ
def anY:=t σ H Q
def awr ξ:=PS X st ξ
def ayW ξ:=aaz ((tj Y t).lookup ξ)
def aK1:=["things","number"]
def aaI ξ ψ ζ χ φ:=(H.f ξ rfl:FnAt K (nsIn K mainGlobals ψ) ζ χ φ).de X G
def ayX ξ:=(aLh ξ).flatten
def api ξ ψ ζ:=cy ξ ψ ?_ (ζ)
def apj ξ:=mg_none_of X G (ajv ξ)
def apk ξ:=cA K (iw K) E ι S H Q (ξ)
def aGv ξ:=jf k (A.deeper (envOfC ξ (au st) s.heap.objs.size f lO))
def agT ξ ψ ζ:=λ b ξ ψ=>ζ
def anZ ξ:=agT o e ξ
def ajR ξ:=by rw[ξ] at h
def akN:=by rw[ajR e]
def ayY:=by rw[ajR ek]
def aK2:=decide p
def aK3:=some aAo
def aK4:=id I.loc
def aK5:=Pc.enc p
def aK6:=adS h.w9
def aK7:=adS h.zb
def aK8:=af0 T.kl
def aK9:=af0 T.mm
def aLa:=avm none
def aLb:=avn iter
def aLc:=bw T.kj (aa 2)
def aLd:=backTo dg (starEach rest (envOfC qual scope s.heap.objs.size f cd))
def aLe:=abS none none none rfl
def aB7 ξ:=η ξ s.toks
def aB8:=some n
def aB9:=X.mg x
def aCa:=md b6
def aCb:=aam h1
def aCc:=aam jB
def aCd:=agH ho
def aCe:=f6 bU
def aCf:=ad9 β
def aCg:=ad9 eu
def aCh:=az4 DE
def aCi:=aDJ FB
def aCj:=afz ps p.js.Nodup
def aCk:=by rw[anw e2]
def aCl:=IntsAre vs ns
def aCm:=xI X.env scope.names []
def aCn:=cz I.vX hq
def aCo:=bY bW "steps" c9
def aCp:=t.ahead≠[]
def aCq:=lQ ρ M1
def aCr:=amI (aj1 aw3 [])
def aCs:=by
 rw[bI,aD,aA]
 rw[aiv]
def aCt:=aeM o to
def aCu:=aeB b o q n hb
def aCv:=af5 TE TE
def apl ξ ψ:=PT X ξ ψ
def auk ξ ψ:=hG ξ (gN 3) ψ
def ajS ξ ψ ζ χ φ υ ϑ:=by rw[d6 ξ ψ ζ χ (φ=υ) ϑ]
def ayZ ξ:=o.data=ξ
def aGw:=cF B.greens arN
def ay0:=afz aeN (c8 (alF p).isSome)
def aCw:=zL aje (Pc.at Y.ps a.1)
def aCx:=(alG a j).isNone
def aCy:=EF xs lo hi
def aCz:=db ρ M1
def aws:=Due W
def awt:=g8 h
def awu:=aj0 r
def awv:=x ≠ "__name__"
def aww:=fresh c i
def awx:=Inv Y.ps.length Y.rs jA W
def awy:=aJ d k
def awz:=w.length-1
def awA:=jf k X.A
def awB:=fK (i:=0) rfl
def aCA:=("locks",ο ahB)
def awC:=λ _=>none
def awD:=an9 0 (aa 1)
def awE:=beyond ps a o
def awF:=bg K ι' S' xs vs
def awG:=amA p = akj r
def awH:=axn k v
def awI:=CV K H a xs
def awJ:=akJ o M t
def awK:=rj K ι S H a o
def awL:=("ticks",η 0)
def awM:=xc ns k
def awN:=List.filter_eq_self.mpr (λ _ _=>rfl)
def awO:=by rw[aih p.1 k]
def awP:=alG s.1 s.2.2
def awQ:=aDZ q (Sm q.1)
def awR:=LZ Y M d M'
def aqI:=X.pn++pins
def aqJ ξ:=ad9 (ξ)
def aqK ξ ψ ζ χ φ:=aG (bL ξ (ψ)) (aG (bL ζ (χ)) (φ))
def aGx:=anI (lH ⟨t.tr,t.ob,t.so,M1.length⟩)
def aqL ξ:=jF (wKs Y g t j) (ξ)
def aqM ξ:=ki j M (ξ)
def asj ξ:=amU (tj Y t) (Str.ofString ξ)
def awS ξ:=aem [(iS ξ)]
def ay1:=aJ aB2 y
def aGy:=aJ ayQ y
def aqN ξ ψ:=VS X Ex (ξ) (ψ)
def amm:=H' b
def amn:=aI s
def agw ξ:=pre++[ξ]
def afN ξ:=(ξ:Nat)
def aul ξ ψ:=fun(afN ξ)=>ψ
def ay2 ξ ψ:=aiJ (afN ξ) (acy ψ)
def alC:=aiJ (afN n) (acy n)
def awT ξ ψ ζ:=ξ (ψ (aiJ (afN k) k),none) ζ
def aum ξ:=Int->Int->ξ
def ay3:=Int->α->PV
def aGz:=Int->amF Int
def ail ξ:=bJ (ξ)
def aun ξ:=ail (beyond ps ξ j)
def auo ξ ψ:=by
 have:ξ:=ψ
 rw[this]
def aGA:=t6 (ae 9) (dC (η 1))
def am7:=qh Y W w i x
def aup ξ ψ ζ χ:=by refine⟨ξ,ψ,ζ,χ⟩
def ajT:=g9->Hp->ad9 VK
def auq:=adq->Hp->ad9 VK
def awU ξ ψ:=aeA (ξ::ψ)
def awV ξ ψ:=∃xs,ξ/\ψ
def asl ξ:=λ hm=>ξ
def ay4 ξ ψ ζ:=bf (VW.vt (j4 ξ ψ)) ζ aP
def asm ξ:=(ξ).toArray
def awW ξ:=Rd H a (ξ kvs)
def af4:=.bl true
def aGB:=ad6 "dict"
def aGC:=some e
def aGD:=some d
def aGE:=back J
def aGF:=GN ⟨ι1,S1,M1,ρ,s1,agx,w1⟩
def aGG:=GO ⟨ι1,S1,M1,ρ,s1,agx,w1⟩
def aGH:=oY akR
def aGI:=rD (agh "trains")
def aGJ:=cO aht
def aGK:=ej rfl
def aGL:=aam hu
def aGM:=aam h2
def aGN:=aam hx
def aGO:=aam hh
def aGP:=f6 oX
def aGQ:=aaN m8
def aGR:=aaN p7
def aGS:=aaN m9
def aGT:=aaN nc
def aGU:=aaN ng
def aGV:=aaN p8
def aGW:=aaN p9
def aGX:=aaN qa
def aGY:=aaN oi
def aGZ:=aaN oj
def aG0:=ad9 Bx
def aG1:=H.c 16 rfl
def aG2:=af5 Int TB
def aG3:=alO fa
def aG4:=base.Ns mainGlobals mg
def aG5:=abH "train_called" ck
def aG6:=ag5 cX
def aG7:=ds.length≤90
def aG8:=aIS vs
def aG9:=avp ty
def aHa:=aQ bz r'
def aHb:=t.tr.steps≠[]
def aHc:=atKey xs k
def aHd:=arM vs
def aHe:=atC lY
def aHf:=backToKw dg (keywordEach [] X.env)
def aHg:=ki j M M'
def aHh:=t.steps≠[]
def aHi:=⟨t.steps,[],true⟩
def aHj:=X.tr pn Et
def aHk:=aiR n (ς xs)
def aHl:=aeM o td
def aHm:=ajo β
def aHn:=M'[t.so]? = ag4 ass
def aHo:=M'[t.ob]? = ac1 abT C.tr (lH t)
def aHp:=qb f v fs
def aHq:=Q w' s'
def aHr:=aeL e dk
def aHs:=atp Dz sb
def aHt:=dR K ι S fs xK
def aHu:=(by simp[bJ,rn,uZ])
def aHv:=he pins s1 σ H1 _ I1 q1
def aHw:=λ ι1 S1 H1 σ1 e1 s1 l1=>h ι1 S1 H1 σ1 (e.trans e1) s1 l1
def aCB ξ:=afJ ξ aeU || ajl
def aHx:=apz (e2.trans e3)
def aHy:=zL aje (Pc.at Y.ps b.1)
def ay5 ξ ψ:=aaP (aju ξ) ψ
def ay6:=by unfold qh
def ay7:=uW my σ
def ay8:=BE hs
def ay9:=Sm nm
def aza:=aam h
def azb:=aiI t
def azc:=aDI _
def azd:=aj0 k
def aze:=aLi x
def azf:=by rw[Ω e True.intro]
def azg:=kL ns k
def azh:=axo a
def azi:=acy r
def azj:=Value.int i t
def azk:=Value.str x t
def azl:=axF x
def azm:=aAG k
def azn:=by
 subst h
 simp
def azo:=A.units+1<cLine
def azp:=cv B.trains x t
def azq:=akI p
def azr:=foldedSetIterable iter X.env x
def aHz:=("lying",ο (ajY 2))
def azs:=by rw[alL hb bF q]
def azt:=by
 show aqq 3
 decide
def azu:=f7 (-1)
def azv:=acO i hi
def azw:=acO q hq
def azx:=aeL b db
def azy:=s1 ρ M
def azz:=Qj ps j
def azA:=by rw[e2] at e
def azB:=M[t.ob]? = ac1 abT C.tr (lH t)
def azC ξ ψ ζ:=agP ξ a (ψ ob ζ)
def azD:=("until",η u)
def azE:=t' σ H Q
def azF:=Mw xs i
def azG:=by rw[t7 e L L]
def azH:=amK _ (aDI _) rfl
def azI:=λ p=>agl (axa p)
def azJ:=by rw[amt e1 w w]
def azK:=aHS k 3 cm
def azL:=λ b ob q=>agH q
def azM:=aiJ (afN r) r
def azN:=λ q=>vx q.1
def azO:=q.2.tr.steps.map λ s=>akz s
def azP:=λ h' eb=>aju (I.turned (t':=s.toks) (λ b o hb e=>eb b o hb e) f0 f1 f3 f4 f5)
def an0 ξ ψ:=by exact ajs ξ ψ
def azQ ξ:=gT 2 (dA ξ (aqo 3))
def an1:=bG w
def aHA:=aI (bX q.2)
def agU ξ:=ξ≠[]
def aHB:=∀r<Y.rs.length,agU aaC
def ahX ξ ψ:=OA->ξ->ψ
def agG ξ ψ ζ:=λ ξ ψ h=>ζ
def amo:=abq .dK kvs
def azR:=abq .dT kvs
def aCC:=abq .bB kvs
def aHC ξ:=(ξ).flatMap
def awX:=Unit->anc
def aur ξ ψ:=ξ∈ae4 ψ
def aCD:=aq0 (k.map kV)
def aHD ξ:=(ary ξ).objs.size
def aus ξ:=as9 (ξ)
def aut ξ ψ:=Vals (ξ) (ψ)
def aCE ξ:=agD (gC (aO (oT ξ) (aa 0) (aa 1)))
def auu ξ:=II (ξ) (λ _=>E) (gM st) d
def auv ξ ψ:=aoD (ξ) (ψ)
def apm ξ:=Q ξ H1
def apn ξ:=gb ξ M
def azS:=eW r u
def asn:=lr Y W w i x
def azT ξ ψ ζ:=ak6 (∃ξ,ψ/\ζ)
def azU ξ ψ ζ:=av2 ξ (ψ->ζ)
def azV ξ ψ ζ:=∃ξ:Nat, ψ/\ζ
def apo ξ:=λ x y H Q h=>ξ
def ajU ξ ψ:=λ ξ h=>ψ
def aqO ξ:=ajU i ξ
def aLf:=["self","until","near"]
def azW:=[f9,none]
def ag8 ξ ψ ζ:=ξ λ ψ=>ζ
def ag9 ξ:=bt (ξ)
def aha:=ac1 .ku ob (.dK cf)
def ahb ξ:=[b8,ξ]
def azX ξ ψ:=av ξ (ahb ψ)
def amq ξ:=azX ξ b9
def aso ξ:=azX ξ c9
def aLg:=s'.os=s₁.os
def aCF:=f7 (bJ aBl)
def aHE:=nF (ae 8) (ae 7) (agR (aiN "signals"))
def aHF:=A6 (ba (ay (dW true) (ae 7) (aaM "enter"))) (ba (acW (adU cC (Θ 8)) (Θ 3)))
def aCG:=hm ns
def aCH:=sj gm
def aCI:=He ps
def aCJ:=Bd aq
def aCK:=afY a
def aCL:=aJ W.trains y
def aCM:=aei 6
def aCN:=PySem.W.instObj C s.heap.objs.size
def aCO:=aHT i
def aCP:=aJ B.greens s
def aCQ:=b≠s.heap.objs.size
def aCR:=aaz (S p)
def aCS:=s2.heap.objs.size+1
def aCT:=bo br T.fj cj (abr (abI 0 aB))
def aCU:=Str.ofString (toString i)
def aCV:=acy x
def aCW:=acy i
def aCX:=iu Y.ps s
def aCY:=c8 (kn p)
def aCZ:=aaz (X.mg x)
def aC0:=f7 (oh s)
def aC1:=amv Δ f
def aC2:=r<bz.length
def aC3 ξ:=("greens",ο ξ)
def aC4:=aW.sub _ _ e
def aC5:=abq .own a
def aHG:=typeOf (aea id)
def aC6:=alS (an9 0 (aa 1))
def aC7:=⟨q,hq⟩
def aC8:=cnt ps j
def aC9:=ajo V
def aDa:=am6 x
def aDb:=M[t.so]? = ag4 ass
def aDc:=jK kn oh w l
def aDd:=aGv q
def aDe:=IW X.K C
def aDf:=wU (aeo a) j
def aDg:=acS (behindInMarks op b)
def aDh:=VT X Ex a ta
def aDi:=wY ps way a
def aDj:=apl a tA
def aDk:=dv ρ M
def aDl:=qJ f y fs
def aDm:=ail (cG Y (bX t.tr))
def aDn:=V->Hp->ad9 VK
def aDo:=tE H a y o
def aDp:=mq S S'
def aDq:=V5 di ρ M
def aDr:=WOk Y W
def aDs:=aEP s.1
def aHH:=some (Pc.pt t u v).enc
def aDt:=get y u hu
def aDu:=aiz σ i v
def aDv:=ao1 y (h y (f6 hy))
def aDw:=wA aW r w
def aDx:=Ov C x M1
def aDy:=∀q∈B.trains,aiT q.2.tr.steps.length
def aDz:=cf.map λ q=>kV q.1
def aDA:=P.tr x t hx s hs qk
def aDB:=sp vs H Q E
def azY ξ ψ:=Turn P w K tg ξ [it] it ψ
def aqP ξ ψ:=PW X ξ ψ
def aHI:=u7 x M2
def aHJ:=u7 x M3
def azZ:=se (p:=False) vG (jH _) Ξ
def aqQ:=lI Y W w i x
def awY ξ ψ:=λ ξ H'=>ψ
def az0:=M[n]? = agz
def aDC:=M'[0]? = axy (tj Y B.ticks)
def az1:=W.green++[r]
def aDD ξ ψ:=avo (aa 1) (agu (akX ξ ψ))
def awZ ξ ψ ζ:=gL ξ (kk:=aj0 ψ) rfl (ζ)
def az2 ξ:=du (lh false G.calm) T.lx gE (abr (abI ξ aB))
def aDE ξ:=cI (ads ξ) ky
def aw0 ξ ψ ζ:=akW (ξ ψ) v↔ζ
def auw:=q.2.steps
def an2 ξ ψ:=agf (ξ<ψ)
def am8 ξ:=λ x y H Q=>ξ
def aHK:=akl k' && env.scope.kind == aoi
def am9:=2 ^ 62
def auy ξ:=-am9≤ξ
def ahY ξ:=bM (ξ)
def aDF ξ:=pre++ξ::post
def aDG ξ:=∃ ρ1,b7 (g (enc x) ρ) ρ1/\R ρ1/\ξ
def aHL:=[abT C.fa [("until", η arh), ("near", fz nr)]]
def asp:=IW K C
def aQp{P:Program}{w:World}:=_
def aUn{K:Fg}{ι:d8}:=_
def aPa{n:Nat}:=_
def aSt(hf:atU\/azl := by first | exact b5 rfl | exact c6 rfl | assumption):=_
def aRX(he:am3=alr::anB:=by rfl)(sV:amB (alQ es).any:=by rfl):=_
def aQy{σ:St}{H:Hp}:=_
def aPc{M:aY}:=_
def aST(σ:St)(H:Hp):=_
def aPi{xs:d9}:=_
def aPK{s:Shared}:=_
def aPF(s:Shared):=_
def aPp{α:Type}:=_
def aTq(A:Around)(outer:agy):=_
def aPf(n:Nat):=_
def aPg{k:Nat}:=_
def aPm(G:aaD):=_
def aSU(F:pN X.prog X.w X.K X.mg X.base CX k f fd ps sp):=_
def aPb(I:OA):=_
def aPj{r:Nat}:=_
def aPr{x:Int}:=_
def aPH(Y:fE)(W:Wd):=_
def aQq(X:Cx)(Ex:St->XK):=_
def aVg(ht:ahr (afy (aio o m apos) (e::es) [] pos)=(do
   let ov ← ahj
   aIm
   let(f,first) ← aor [ov] (getMethod ov m pl)
   callWith pos f first (alQ (e::es)) aGf):=by rfl):=_
def aPe(K:Fg):=_
def aQO(P:Program)(w:World):=_
def aPv(x:Int):=_
def aVh(ht:ahr (afy (aio o m apos) [] [] pos)=(do
   let ov ← ahj
   aIm
   let(f,first) ← aor [ov] (getMethod ov m pl)
   callWith pos f first (alQ []) aGf):=by rfl):=_
def aPQ(C:Cs)(Y:fE):=_
def aPh(M:aY):=_
def aPB aUn{S:Hp}:=_
def aPk(r:Nat):=_
def aRf(R:ajL)(I:afj):=_
def aPI(live:Bool):=_
def aVi(O6:ae8 ((atz (e::es)).all (λ x=>! x.1) && (aHf).all (λ x=>x.1.isSome)
   && an2 (awU e es+ahK ([]:asJ)+(if ([]:asJ).isEmpty then 0 else 1)) 30):=by rfl):=_
def aPW aPi{vs:g9}:=_
def aUo(Si:anV ch ((b∈X.ex\/auC b)/\atQ/\(∀x c,al7->c≠b)/\afz aqI (p.1≠b))):=_
def aPl{x:Str}:=_
def aQz(ps:kS)(ss:afD):=_
def aPn(h:acX):=_
def aSu(hs:∀x,azr=aym:=by rw[ar5]):=_
def aPd(g:D1):=_
def aPX{ρ:eu}aPc:=_
def aQd{α β:Type}:=_
def aSv{ps:kS}{ss:afD}:=_
def aQE{w:Wo}{i x:Int}:=_
def aRB(hd:ajJ:=by decide):=_
def aTr{f:Addr}{fd:FuncData}:=_
def aPs(i:Nat):=_
def aQr{x:PV}{v:V}:=_
def aUp(hr:jf k (A.deeper (envOfC qual scope s.heap.objs.size f cd))):=_
def aPz{a:Addr}:=_
def aQP(w:Wo)(i x:Int):=_
def aTs{S H:Hp}aPc:=_
def aPL(C:Addr):=_
def aPt{i:Nat}:=_
def aTt(hn:awv := by decide)(Jc:ajJ:=by decide):=_
def aQQ aQp{K:Fg}:=_
def aVj(hs:∀pre x post,xs=aDF x->∀ ρ M,R pre ρ M->∃ ρ1,b7 (g (enc x) ρ) ρ1/\awq w (R (agw x)) Q (s1 ρ1 M)):=_
def aQA{A:Around}:=_
def aQe{u:Value}:=_
def aP3(a:Addr):=_
def aRg(d:ag2)(k:κ):=_
def aP8 aPr{t:Tr}:=_
def aPu{i:Int}:=_
def aQF aPa{kvs:afx}:=_
def aSw(i:∀ σ H Q,azE->anY):=_
def aRY aPj(hr:adg):=_
def aVk(he:aJj (e₀::rest)=(false,eval e₀ (envOfC qual scope s.heap.objs.size f cd))::aJj rest:=by rfl):=_
def aUq(I:awx)(S:pw Y.ps.length Y.rs (bH Y.ps) (cq Y) W B):=_
def aQf{neg:Bool}:=_
def aPq(X:Cx):=_
def aQ1{xs:g9}{us:x8}:=_
def aQ2(I:ajm)(S:ai0):=_
def aPY(j:Int):=_
def aPC(H:Hp):=_
def aPo{d:DE}:=_
def aRZ{ud zg ue tm Cg:D1}:=_
def aRh(aW:aeE)(r:ae7):=_
def aPZ(w:z0):=_
def aVl(hu:axb 1+min aOq d.depth<cLine)(h:Q (ajF (aja (xs.any (alH y y d)) (xs.any (alH y y d)))) s):=_
def aPA(h:afI):=_
def aVm(hsw:aDR (.ListComp elt [⟨tg,iter,ifs,0⟩] scope pos) (ac1 ac6 y py) Pm.line=pure true):=_
def aSx(oQ:art:=by rfl):=_
def aRC(ha:aoV)(hb:at7):=_
def aSV{ι ι':d8}{S S' H H':Hp}:=_
def aPR(pins:KB)(s:Shared)aST:=_
def aP4(W:Wd):=_
def aTu(ha:ape (e::es))(hg:aml:=by rfl):=_
def aUr(Fp:∀r∈W.green,adg)(hd:af2 M n .bB (CT Y)):=_
def aRi(hN:X.N.Nodup):=_
def aTv(oP:an5 o name ahj=ahj:=by rfl):=_
def aUs(hp:∀a,ate aoO)(inj:∀a b,aoO=enc b->a=b):=_
def aRj(s':Shared):=_
def aQg{κ:Type}:=_
def aQh(aF:Addr):=_
def aPD(ps:kS):=_
def aSW(M':aY)(h:aaQ=.ok x M'):=_
def aVn(hs:swapsWithSole [tg] e pos.line X.env=apG:=by rfl)(hw:aLX [tg] e=aKQ:=by rfl):=_
def aQ3(hx:acJ=adt):=_
def aRk{ι:d8}{S:Hp}:=_
def aVo(hf:c8 (X.fn y)\/axF y := by first | exact b5 rfl | exact c6 rfl | assumption):=_
def aVp(hn:∀p:Nat, aln->gn [ο 0, η p] M=if ap6 p p then L6 C.he M else .ok .bb M):=_
def aR0{ρ:eu}{M M':aY}:=_
def aPy{H:Hp}:=_
def aVq(hg:Gl (lT (tq P w) P w K mg base N qual scope f cd A outer s H E) x:=by rfl):=_
def aSX{H H':Hp}{s s':Shared}:=_
def aP5{C:Addr}:=_
def aQ4(h:aiZ .bB):=_
def aTw{g0 g1 g2 g3 g4 g5 g6 g7:D1}:=_
def aSy(f:Addr)(lO:Value):=_
def aVr(hf:∀v u s2 x y H2,afn H2 s2->RelV x v->akG->R x y H2->adT (f v u) Q s2):=_
def aQR(o:adu)aPh:=_
def aTx(k:∀b u,ajx=aaZ->ahZ=aaZ):=_
def aTy(fM:aee k "joints_of" 1 dD):=_
def aPE{X:Cx}:=_
def aP9{c:Addr}:=_
def aQa(bz:afT):=_
def aUt(hb:Binds X.K fd ps ds)(hd:Vals Mq ds):=_
def aTz(hs:an3 [a]=[azh]:=by rfl):=_
def aPw{x:PV}:=_
def aPx(Y:fE):=_
def aPM(x:Str):=_
def aPN{Q:abE}:=_
def aSY{tg:Expr}(a it:Addr):=_
def aSZ{ι ι':d8}{S S':Hp}:=_
def aS0{scope:Scope}:=_
def aUu(h:j≤k:=by first | omega | decide):=_
def aQi(hu:akA):=_
def aUv(hs:am3=alr::anB:=by rfl):=_
def aRD{i j:Int}aPc:=_
def aQG{pins:KB}aQy aPK:=_
def aPS(k:Nat):=_
def aQs(a:Nat):=_
def aPT(h:afk):=_
def aSz(ha:aoY)(hb:azx):=_
def aVs{w:DV}(h:∀ ι' S' M' H',ar9->avV->asa->∃vs,qB K H' q vs/\awF):=_
def aS1(ha:PA X (e::es) t):=_
def aQk{h:Heap}:=_
def aQl{p:Addr}:=_
def aP0(i:Int):=_
def aP1(I:afj):=_
def aUw(hc:gc [ο 0,η i] M=aqF .ok .bb):=_
def aRl(lo hi:adq):=_
def aRm{live:Bool}:=_
def aQ5{st:Stmt}:=_
def aVt(hs:an3 [a,b]=[azh,axo b]:=by rfl)(Mi:an3 [b]=[axo b]:=by rfl):=_
def aPU(B:Bx):=_
def aVu(hc:gc [ο 0, η i] M=if aqS i then .ok .bb M else L6 C.nt M):=_
def aUx(x:XS P w outer H s e cls H' s'):=_
def aSA{f:α->aY->arB}:=_
def aSB{b:Addr}{o:Obj}:=_
def aP6(s:Nat):=_
def aRn{kvs:ald}{cf:agC}(h:alu):=_
def aVv(hn:aeA ayw=n:=by rfl)(Gz:aaz (ae4 (ayw).findIdx?):=by rfl):=_
def aPO(x:PV):=_
def aTA(Qb:ayh (.dict es ep)):=_
def aVw(hi:arv:=by rfl)(hx:aze:=by first | exact aEG | exact aJL):=_
def aTB aPq(pins:KB):=_
def aPG{K:Fg}:=_
def aQ6(S:akg):=_
def aQS{M':aY}:=_
def aUy(fN:aee k "piece_beyond" 3 dE):=_
def aUz(mu:ZM (H x))(he:e=x\/H e=aub):=_
def aUA(X:axu)(I:IV s.heap x dx C mA):=_
def aVx(hp:PassesOwn (model X.prog X.w) X.A X.env X.xe)(hc:ah1):=_
def aVy(hg:∀C fp s0 H0,PG (ie X scope N C fp s0 H0) tg g)(hi:∀C fp s0 H0,A0 (ie X scope N C fp s0 H0) ifs tt)(he:∀C fp s0 H0,PE (ie X scope N C fp s0 H0) elt te):=_
def aVz(hg:∀C fp s0 H0,VG (ie X scope N C fp s0 H0) tg g)(hi:∀C fp s0 H0,TL (ie X scope N C fp s0 H0) ifs tc)(he:∀C fp s0 H0,VE (ie X scope N C fp s0 H0) PN elt d):=_
def aTC(hd:aaQ=.ok (ο n) M):=_
def aQB(hi:aik):=_
def aQC(hx:ahI):=_
def aVA(hs:anz (aw8 (e::es)).map=auS e::anz (ayw).map:=by rfl):=_
def aRE{outer:agy}:=_
def aRF{Ex:St->XK}:=_
def aUB{loose ends:acm}{m0 many:Nat}:=_
def aVB(Gz:am3=alr::anB:=by rfl)(sV:amB (alQ es).any:=by rfl):=_
def aR1(enc:α->PV):=_
def aS2{es:aEg}{ep:Nat}:=_
def aTD(co:aui)(uX:ah1):=_
def aS3(kn:aj6)(oh:anD):=_
def aRG aPZ(l:aer):=_
def aRH aPZ(d:aj5):=_
def aRI aPm(Q:aqG):=_
def aUC(g0 g1 g2 g3 g4 g5 g6 g7:D1):=_
def aP7(k:κ):=_
def aPJ(d:DE):=_
def aVC(hl:auR)(h1:∀i<M.length,o i≠.uT->M'[i]? = M[i]?):=_
def aR2 aSv(hg:amV):=_
def aR3(rs:ae6)aP4:=_
def aQ7(u:Value):=_
def aQ8{pos:Pos}:=_
def aQH{t':Nat}:=_
def aQI{b:Bool}:=_
def aQJ{ds:afq}:=_
def aVD(k:∀b u,b≠e->ajx=aaZ->ahZ=aaZ)(Zw:∃u,aKP=aaZ):=_
def aVE(hs:s.heap.IsSliceOf sl vl vu abc)(pl:IsPart vl lo):=_
def aVF(E:M8 c loose m0 many ends):=_
def aQm(xs:d9):=_
def aQn(p:Nat):=_
def aQo{p:Nat}:=_
def aTE(Jc:ajJ:=by decide):=_
def aVG(h:ta σ H (ado x (tb σ H1 (aiE y (R x y H2))))):=_
def aVH aRB(OG:ard x ("__classdict__" : Str):=by decide):=_
def aUD(fe:abH "is_number_of" dH):=_
def aRJ{N ps:adl}:=_
def aR4(e:H a=amo):=_
def aR5(Ex:St->XK):=_
def aPV(s:dO):=_
def aQT(h:Heap):=_
def aQU(hc:ah1):=_
def aQV(ry:akG):=_
def aQW(ns:acm):=_
def aTF{f:Addr}{cd:Value}:=_
def aQt(f:Str):=_
def aQu{vs:g9}:=_
def aQv(s:aeE):=_
def aQw{ps:kS}:=_
def aUE(fF:abH "check_piece" dY):=_
def aRo{kvs:aoT}:=_
def aRp{res:afV}:=_
def aRq(i x:Int):=_
def aVI(hm:acS (lastMarks [op,Xg] [b,c]):=by rw[aHM]):=_
def aVJ(hk:di ρ M2=.ok k M3)(hp:b7 (zx x k y M3) M'):=_
def aVK(Pr:aDR (ac6 n ZA) (ac1 ac6 y py) apos.line=apG:=by rfl)(hdx:ajJ:=by decide)(hdn:ard n ("__debug__" : Str):=by decide):=_
def aR6{kvs:agC}{vs:au9}(r:anG):=_
def aR7(ρ:eu)aPh:=_
def aR8(h:aue)aPs:=_
def aSC(ha:S a=aha):=_
def aSD{enc:α->PV}:=_
def aP2{Q:VK}:=_
def aS4(g:κ->α->β):=_
def aS5(Q:abE)(E:abE):=_
def aS6{ρ:eu}{σ:St}:=_
def aS7(f:amd)(S:ai0):=_
def aQK aUn aTs:=_
def aUF(cQ:rf X.prog X.w H' h'):=_
def aS8 aPy{a b:Addr}:=_
def aUG(hu:azo)aPb:=_
def aSE aPg(hk:azm):=_
def aTG{xs:av3}(r:awj H):=_
def aTH(st:Stmt)(ps:adl):=_
def aTI(Ar:ay9)(ha:Sm a):=_
def aQ9{e:Expr}:=_
def aRa(c:Addr):=_
def aRb(ds:afq):=_
def aSF(ho:aqB):=_
def aUH(fk:abH "signal_of" dF):=_
def aUI(prog:Program)(w:World):=_
def aUJ{prog:Program}{w:World}:=_
def aVL(k:∀ ρ' M',R xs ρ' M'->Q (.nx ρ' M')):=_
def aS9{di:DI}{g:DG}:=_
def aTa{d:ag2}{k:κ}:=_
def aRK{pins:KB}:=_
def aRL{kvs:ahD}:=_
def aTJ(hi:arv)(hx:aze):=_
def aTK(ho:aHl)(he:aG9):=_
def aQb(p:Pc):=_
def aQc{w:z0}:=_
def aUK(gR:abH "_law_mix" fD):=_
def aUL{ρ:eu}{f:α->aY->Out}:=_
def aUM(D:acQ x st ps)(S:ar8):=_
def aQL(us:x8):=_
def aQM{us:x8}:=_
def aVM(h1:anz (aw8 [tg]).map=[auS tg]:=by rfl):=_
def aVN(hp:∀p:Pc,gp aBs M=.ok (.bl (sr p)) M):=_
def aVO(hk:aiz ρ k y)(hy:am6 y=f7 (ys.map η)):=_
def aTL{kindOf:aF3}aPl:=_
def aTb(kvs:agC)aP7:=_
def aVP(hs:aAx e (ac1 ac6 x pos')=apG:=by rfl):=_
def aVQ(i:∀v σ H Q,t' v σ H Q->t v σ H Q):=_
def aVR(oP:an5 o "values" ahj=ahj:=by rfl)aSx:=_
def aSG aPm(I:ajm):=_
def aSH aQS{d:amH}:=_
def aUN(hd:aaQ=.ok (ο 0) M):=_
def aQj{o:MO}:=_
def aRr(ok:alw):=_
def aRs(hr:adg):=_
def aVS(pa:PlainAttrs T)(slot:Slot T name id):=_
def aVT(slot:Slot "list" name id)(XE:aHG=aGe):=_
def aVU(ja:j∈(aeo a).js)(jb:j∈(aeo b).js):=_
def aVV(oP:an5 o "items" ahj=ahj:=by rfl)aSx:=_
def aTM(hx:uw CX X Ex):=_
def aTN(ι:d8)(S H:Hp):=_
def aTO{ι:d8}{S H:Hp}:=_
def aTc(bQ aF:Addr):=_
def aQX{k:Key}:=_
def aQY(vs:g9):=_
def aUO(jn:abH "way_of" gG):=_
def aUP(jo:abH "unlock" gH):=_
def aVW{body:ano}{np py ZA apos ME pos:Pos}:=_
def aVX{a b:Bool}(h1:da ρ M=.ok (.bl a) M):=_
def aUQ aPg(h:ρ[k]? = aGm):=_
def aTd aPb(hf:aud):=_
def aTe aTr{ps:adl}:=_
def aTf aPe(mg:adp):=_
def aR9{env:Env}:=_
def aSI{op:CmpOp}:=_
def aVY(X:K.In hp)(G:hp.Ns mainGlobals mg):=_
def aVZ(hv:aDk=.ok y M1)(ho:aCq=.ok x M2):=_
def aRM(xs:af1):=_
def aRN{xs:af1}:=_
def aRO{ns:acm}:=_
def aRP(my:aer):=_
def aTP{qual:Str}aS0:=_
def aQx(t:TB):=_
def aRc{fp:d8}:=_
def aRd{f:Str}:=_
def aRe(R:apV):=_
def aRt aQQ{mg:adp}{base:Heap}:=_
def aRu aTq aPF aPC(E:XK):=_
def aRv aP4 aPv:=_
def aV0(i:∀D σ H,t' D σ H->t D σ H):=_
def aV1(k:∀b o,b∉fp->afB=t9->ahZ=t9):=_
def aV2(hf:afz aiX (acL W.locks p none)):=_
def aV3(h:aaQ=L6 c M')(q:Q (L6 c ρ M')):=_
def aTg(e:H a=at9):=_
def aV4 aUv(AX:amB (atz es).any:=by rfl):=_
def aUR(i j:Int)(t u:Tok):=_
def aV5(k:c8 (PySem.W.keepIn K (Δ f))):=_
def aV6(A:A8 C g0 g1 g2 g3 g4 g5 g6 g7):=_
def aV7(fc:aol (k+1) "is_at_border" dG):=_
def aV8 aPi(h:∀x∈xs,c8 (PV.mr n x)):=_
def aV9 aQ4(hi:apd=.ok (xs,arJ .jd) M1):=_
def aTh aPZ(l:apS):=_
def aTQ(fd:FuncData):=_
def aTR(hs:SgS C gs):=_
def aTS(hw:WyS C gw):=_
def aTT(ht:CaS C gt):=_
def aTU(ι:d8)(S:Hp):=_
def aQD(Q:VK):=_
def aWa{gt g0 g1 g2 g3 g4 g5 g6 g7:D1}:=_
def aWb(hi:apd=.ok (au4,w) M')(hc:asa):=_
def aTV{M:Model}aQA{E:abE}:=_
def aTW(e:Value)aRj:=_
def aWc aPb(k:∀b u,afB=aaZ->ahZ=aaZ):=_
def aUS aPr{s r:Nat}:=_
def aUT(S:aL N ps scope):=_
def aUU(hr:jf (k+1) X.A):=_
def aUV(hR:R (wC my ρ)):=_
def aUW{w:DV}{R:eu->ayu}:=_
def aUX{gr:D1}(hr:pq gr):=_
def aUY{locks:aer}{t:Tr}:=_
def aSJ(v:Value):=_
def aSK{a b:Nat}:=_
def aRw(xs:g9):=_
def aRx(M':aY):=_
def aRy{Q:aiu}:=_
def aRz(h:ahV):=_
def aRA(P:alv):=_
def aWd(F:DZ P w K mg base j C m n g):=_
def aWe(F:G0 P w K mg base j x C n g):=_
def aWf(gY:Me z k aF "train_in" 2 cH):=_
def aWg(D:D0 K mg x C q st ps)(S:ar8):=_
def aWh(hg:aNG)(hf:(aOh).Sublist aht):=_
def aWi(hd:HM C Y gd)(ha:Ce C Y ga v):=_
def aPP{v:V}:=_
def aRQ aPC aP3:=_
def aRR aPi aPc:=_
def aRS aPY aPh:=_
def aRT aRf aQ6:=_
def aSa(e:Expr):=_
def aSb(hr:awA):=_
def aSc{bs:akZ}:=_
def aSd(rs:afT):=_
def aQN{E:XK}:=_
def aSL{y:V}aQe:=_
def aUZ(hu:axb 1<cLine):=_
def aU0(hn:b7 l.most n):=_
def aU1(ho:ayb (anq f)):=_
def aU2(h:axz 2\/axz 3):=_
def aU3(hk:b7 (kQ x) k):=_
def aU4(hg:aml)(hm:aCZ):=_
def aU5(hn:atj)(hl:ay0):=_
def aU6(v:Wo)(hu:v.s=u):=_
def aWj(F:hJ P w K mg base j x n g):=_
def aWk(ny tQ wN wO Br Qh Bs Bt:D1):=_
def aWl(fZ:abH "check_not_held" fx):=_
def aWm{r r':V->adq->auq}(h:O3 X r):=_
def aU7{x qual:Str}aQ5:=_
def aTX(lo:Int)aPf:=_
def aTY aSF(he:aHr):=_
def aTZ aPf(way:z0):=_
def aT0 aPr{old:z0}:=_
def aT1 aPZ(f:Bool):=_
def aWn(hs:aAx e none=apG:=by rfl):=_
def aWo(D:wF K C m q st ps)(S:ar8):=_
def aRU(j:Nat):=_
def aRV(t:Int):=_
def aRW{s:Nat}:=_
def aQZ{g:D1}:=_
def aQ0{s:dO}:=_
def aWp aPn(hd:af2 M n .bB (CT Y)):=_
def aWq aQS(h:aaQ=.ok (ς aMS) M'):=_
def aU8(res:afV)(k:Kd):=_
def aU9(y:ajP)(hp:alv):=_
def aWr(hdf:d.params.defaults=[]):=_
def aWs(sV:amB (aLd).any:=by rfl):=_
def aWt(hn:ds.length+1=n:=by rfl):=_
def aWu(Yz:∀r<Y.rs.length, aFL):=_
def aWv(iP:abH "check_points" gI):=_
def aWw(iR:abH "signal_ahead" gJ):=_
def aWx(lM:Me z k aF "lies" 2 fi):=_
def aWy{pl:aBa}{Q:Value×x8->anc}:=_
def aWz(XE:aHG=aGe)(hm:EI X id r):=_
def aWA(c:aDe)(hm:Meth X.K C m f):=_
def aWB(rx:aJa x d bs)(Tx:aLG xs):=_
def aWC{v₁ v₂:Expr}{rest:acU}:=_
def aWD(hc:CkP C gc)(hu:PuS C gu):=_
def aSe aPe(mg:adp)(base:Heap):=_
def aSf aPe aPL:=_
def aSg aPE aQG:=_
def aSh aP4 aPk:=_
def aSi aPU aPv:=_
def aSj aQs aPv:=_
def aSk aPm aRY:=_
def aT2(e:H a=azR):=_
def aT3{id:String}:=_
def aT4{y z w:ahL}:=_
def aSM(he:avQ):=_
def aSN(aW:aeE):=_
def aSO(he:aqz):=_
def aSP{x y:PV}:=_
def aSQ{fs:aka}:=_
def aSR(Gu:aqf):=_
def aSS(dM:azK):=_
def aWE(ho:lQ ρ M=.ok (ο n) M):=_
def aWF{gc gs gt gb gf gu gw:D1}:=_
def aWG(kV doc pm:Value)(an:auY):=_
def aTi{v:Value}:=_
def aTj{h':Heap}:=_
def aTk{j k:Nat}:=_
def aTl(h:j≤k):=_
def aTm(kvs:afx):=_
def aTn{kvs:afx}:=_
def aT5{Q:awX}aPb:=_
def aT6 aTB(σ:St):=_
def aT7 aUG(g:aDo):=_
def aT8 aQr(h:ae7):=_
def aT9 aPW(h:afm):=_
def aUa aPi(h:ash):=_
def aUb{tc:DT}aPo:=_
def aUc aRg(v:α)(k':κ):=_
def aUd aPt{v':MO}:=_
def aUe aPn(K:aDr):=_
def aUf aPY(a:aeQ):=_
def aVa(hc:Hz C Y gc):=_
def aVb(ht:AH C Y gt):=_
def aVc{a:α}{as:af1}:=_
def aVd(e:ay3)(k:Int):=_
def aWH{vl vu:Value}{lo hi:adq}:=_
def aWI{loose:adl}{XP:adp->axW}:=_
def aWJ{j o:Int}(hn:p.js.Nodup):=_
def aVe aQA(r:jf k A):=_
def aVf aPe(T:String):=_
def aWK(hm:EI X id (atv f))aSF:=_
def aWL(I:M7 c ps loose m0)aVF:=_
def aTo aPR(x:V):=_
def aWM aTD(Aq:PI X tg iter wi):=_
def aTp aPO(v:V):=_
def aWN aPe(Rp:d8->Hp->α->aCf):=_
def aWO aP8(ht:W'.trains=amI t):=_
def aWP aUS(h:anK (pC Y W x s)):=_
def aWQ aPj{y4 y5 y6 sD mP:ahL}:=_
def aSl(te:TE):=_
def aSm{CX:GB}:=_
def aSn(G:ar1):=_
def aSo{P:avt}:=_
def aSp{j:Int}:=_
def aSq(l:aer):=_
def aSr{W':Wd}:=_
def aSs(d:aoJ):=_
def aWR(F:Pe K x qual st f fd):=_
def aWS(Aq:VI X Ex tg iter di):=_
def aWT(hb:Binds X.K fd ps []):=_
def aWU(T:C5 Y.rs aM9 locks t):=_
def aWV(hd:aaQ=.ok (ς au4) M):=_
def aWW(lJ:abH "pieces_at" ka):=_
def aWX(qX:abH "_law_held" o7):=_
def aWY(qY:abH "_law_near" o8):=_
def aWZ(qZ:abH "_law_free" o9):=_
def aW0(hi:acL ι n p)(hS:aCR):=_
def aUg(ta tb:TE):=_
def aUh(r:V->ajT):=_
def aUi{xs ys:d9}:=_
def aUj(da db:DE):=_
def aUk{d:PyData}:=_
def aUl(neg:Bool):=_
def aUm(wait:Int):=_
def aW1(hb:∀M aSj,apn [ahf,η a,η x]=.ok (ail (alG a x)) M):=_
def aW2(hb:∀aSy aRu,aDd->aB4 (lT (tq P w) P w K mg base N q (au st) f lO A outer s H E) →
   auu (lT (tq P w) P w K mg base N q (au st) f lO A outer s H E)):=_
def aW3(hb:∀aSy aRu,aDd →
   auu (lT (tq P w) P w K mg base N q (au st) f lO A outer s H E)):=_
def aW4(hu:∀aQx M',aHo->aHn->ars->gu [aij] M'=.ok (cO (t.tr.steps.map (·.1))) M'):=_
def aW5(hs:∀M B aPk, afk->adg->gs [ο 0, η r] M=.ok (η Es) M):=_
def aW6(hs:∀M' aPk,aDC->adg->gs [ο 0,η r] M'=.ok (η Es) M'):=_
def aW7(hb:∀aQs aPY,apn [ahf,η a,η j]=.ok (bJ (alG a j)) M):=_
def aW8(hb:∀aQs aPY,apn [ahf,η a,η j]=.ok (.bl aCx) M):=_
def aW9(hi:∀aPf aP3,al8->acL ι' n a):=_
end
def ZqT:=Std.HashMap Lean.Name (Nat×Array Lean.Name×Array Lean.Syntax)
def ZqH:Lean.Syntax->Option (Lean.Name×Array Lean.Syntax)
|.ident _ _ x _=>some (x,#[])
|.node _ ``Lean.Parser.Term.app as=>match as[0]! with
 |.ident _ _ x _=>some (x,as[1]!.getArgs)
 |_=>none
|_=>none
def ZqW (s:Lean.Syntax):Nat×Lean.Syntax:=
 if s.getKind==``Lean.Parser.Tactic.rwSeq&&s[2][1].getNumArgs==1 then (1,s[2][1][0][1]) else if s.getKind==`Lean.Parser.Tactic.rcasesPat.one then (2,s[0]) else (0,s)
def ZqG (D:ZqT):Nat->List (Lean.Name×Array Lean.Syntax)->Lean.Syntax->Array Lean.Syntax
|0,_,s=>#[s]
|n+1,E,s=>
 let (w,t):=ZqW s
 if s.isOfKind ``Lean.Parser.Term.paren&&(match ZqH s[1] with
  |some (x,as)=>(match Std.HashMap.get? D x with
   |some (0,ps,_)=>as.size==ps.size
   |_=>false)
  |_=>false) then ZqG D n E s[1] else
 let g:=match ZqH t with
  |some (x,as)=>match (if as.isEmpty&&w==0 then E.lookup x else none) with
   |some r=>some r
   |none=>match Std.HashMap.get? D x with
    |some (v,ps,b)=>if !(v==w)||as.size<ps.size then none else
     let a:=as.map (ZqG D n E)
     let b:=b.flatMap (ZqG D n (ps.toList.zip a.toList))
     if as.size==ps.size then some b else some #[.node .none ``Lean.Parser.Term.app #[b[0]!,.node .none Lean.nullKind ((a.extract ps.size).flatMap id)]]
    |_=>none
  |_=>none
 let f:=fun (s:Lean.Syntax)=>if s.isOfKind ``Lean.Parser.Term.app&&s[0].isOfKind ``Lean.Parser.Term.app then s.setArgs #[s[0][0],.node .none Lean.nullKind (s[0][1].getArgs++s[1].getArgs)] else s
 match g with
 |some r=>r.map f
 |none=>match s with
  |.node i k as=>#[f (.node i k (as.flatMap (ZqG D n E)))]
  |_=>#[s]
def ZqC:Nat->Lean.Syntax->Lean.Syntax
|0,s=>s
|n+1,s=>
 if s.isOfKind ``Lean.Parser.Command.universe then .node .none ``Lean.Parser.Command.end #[Lean.mkAtom "end",.node .none Lean.nullKind (if s[1][0].getId==`zE then #[] else #[s[1][0],.node .none Lean.nullKind #[]])]
 else if s.isOfKind ``Lean.Parser.Command.in then s.setArg 2 (ZqC n s[2])
 else if s.isOfKind ``Lean.Parser.Command.declaration&&(s[0].getArgs.extract 2).all (·.getNumArgs==0) then
  let d:=s[1]
  if d.isOfKind ``Lean.Parser.Command.definition then s.setArg 1 (.node .none ``Lean.Parser.Command.theorem #[Lean.mkAtom "theorem",d[1],.node .none ``Lean.Parser.Command.declSig #[d[2][0],d[2][1][0]],d[3]])
  else if d.isOfKind ``Lean.Parser.Command.abbrev then s.setArgs #[s[0].setArg 4 (.node .none Lean.nullKind #[.node .none ``Lean.Parser.Command.noncomputable #[Lean.mkAtom "noncomputable"]]),.node .none ``Lean.Parser.Command.definition #[Lean.mkAtom "def",d[1],d[2],d[3],.node .none Lean.nullKind #[]]]
  else s
 else s
def ZqI (s:String):Lean.Name:=(s.splitOn "\t").foldl Lean.Name.mkStr .anonymous
def ZqP (s:String):Array Lean.Syntax:=
 let f:=fun (x:Lean.Syntax) (S:List (Lean.Name×Array Lean.Syntax))=>match S with
  |(k,a)::S=>(k,a.push x)::S
  |[]=>[]
 let r:=(s.splitOn "\n").foldl (fun (S:List (Lean.Name×Array Lean.Syntax)) t=>
  let u:=(t.drop 1).toString
  match t.front with
  |'('=>
   let v:=(u.drop 1).toString
   ((match u.front with
   |'n'=>Lean.nullKind
   |'t'=>.str `Lean.Parser.Term v
   |'c'=>.str `Lean.Parser.Tactic v
   |_=>ZqI v),#[])::S
  |')'=>match S with
   |(k,a)::S=>f (.node .none k a) S
   |[]=>[]
  |'\''=>f (.atom .none u) S
  |'.'=>f (.ident .none u.toRawSubstring (if u=="" then .anonymous else ZqI u) []) S
  |'?'=>f .missing S
  |_=>S) [(.anonymous,#[])]
 match r with
 |(_,a)::_=>a
 |[]=>#[]
def ZqB (cs:Array Lean.Syntax):ZqT:=cs.foldl (λ D c=>let b:=c[2]
  let p:=c[1].getArgs
  let q:=p.map (·.getId)
  D.insert c[0].getId (if b.isOfKind ``Lean.Parser.Term.byTactic then (1,q,b[1][0][0].getArgs) else if b.isOfKind ``Lean.Parser.Term.hole then (0,#[],p) else (0,q,#[b]))) (Std.HashMap.emptyWithCapacity 4096)
def ZqE (D:ZqT) (cs:Array Lean.Syntax):Array Lean.Syntax:=cs.flatMap λ c=>(ZqG D 100000 [] c).map (ZqC 9)
local macro_rules
|`(mutual $cs* end)=>do
 if !cs[0]!.raw.isOfKind ``Lean.Parser.Command.section then Lean.Macro.throwUnsupported
 return .node .none Lean.nullKind (ZqE (ZqB (ZqP ZqD)) (cs.map (·.raw)))
mutual
section
namespace L2
open PySem PySem.Spec PyProof.Rows
noncomputable abbrev Key:=Sum Int Str
abbrev vY:Key->apu Bool
 | b5 k,v=>Value.isInt k v
 | c6 x,v=>Value.isStrOf x v
abbrev adx(w:World):Key->Int
 | b5 k=>hashInt k
 | c6 x=>hashStr w x
def fh:∀aQX aTi,aBi k v->(∃i t,k=Sum.inl i/\v=azj)\/(∃x t,k=Sum.inr x/\v=azk)
 | b5 i,v,h=>by
  rw[aeO t e (Value.isInt_shape (k:=i) (v:=v) h) (b5 (amK i t e))]
 | c6 x,v,h=>by
  rw[aeO t e (Value.isStrOf_shape (x:=x) (v:=v) h) (c6 (amK x t e))]
def L9 aP0(t:Tok):aBi (b5 i) (η i t):=afr vY Value.isInt
def Mb aPM(t:Tok):aBi (c6 x) (c7 x t):=afr vY Value.isStrOf
def WI(a b:Int):afJ (aJ2:Key) aJ3=(a == b):=by
 rw[aih a b]
 ·subst e;simp
 ·have h:¬(aJ2:Key)=aJ3:=λ q=>e (Sum.inl.inj q);rw[ae2 aMf (beq_eq_false_iff_ne.mpr e).symm]
def WJ(a b:Str):afJ (aKJ:Key) aKK=afJ a b:=by
 rw[aih a b]
 ·subst e;simp
 ·have h:¬(aKJ:Key)=aKK:=λ q=>e (Sum.inr.inj q);rw[aMf,aOv]
def WK(a:Int)(b:Str):acS (afJ (aJ2:Key) aKK):=decide_eq_false (λ q=>nomatch q)
def WL(a:Str)(b:Int):acS (afJ (aKJ:Key) aJ3):=decide_eq_false (λ q=>nomatch q)
abbrev cL aUI:PySem.KeyKind prog w Key where
 is:=vY
 hash:=adx w
 inj:=λ v a b ha hb=>by
  rcases fh ha with⟨i,t,rfl,rfl⟩ | ⟨x,t,rfl,rfl⟩
  ·rcases fh hb with⟨j,u,rfl,e⟩ | ⟨y,u,rfl,e⟩
   ·injection e with e1 _; rw[e1]
   ·rw[aM2]
  ·rcases fh hb with⟨j,u,rfl,e⟩ | ⟨y,u,rfl,e⟩
   ·rw[aM2]
   ·injection e with e1 _; rw[e1]
 byValue:=agG k v (by
  rcases fh h with⟨i,t,rfl,rfl⟩ | ⟨x,t,rfl,rfl⟩<;>rfl)
 pyHash:=ajU hv (by
  rcases fh hv with⟨i,t,rfl,rfl⟩ | ⟨x,t,rfl,rfl⟩
  ·exact wpAny_pyHash_int h
  ·exact wpAny_pyHash_str h)
 eqBool:=agG hu hv (by
  rcases fh hu with⟨i,t,rfl,rfl⟩ | ⟨x,t,rfl,rfl⟩
  ·rcases fh hv with⟨j,u,rfl,rfl⟩ | ⟨y,u,rfl,rfl⟩
   ·rw[t7 WI h (wpAny_eqBool_int h)]
   ·rw[t7 WK h (SeqAt.EqAt.int_str i t y u _ _ _ _ h)]
  ·rcases fh hv with⟨j,u,rfl,rfl⟩ | ⟨y,u,rfl,rfl⟩
   ·rw[t7 WL h (SeqAt.EqAt.str_int x t j u _ _ _ _ h)]
   ·rw[t7 WJ h (wpAny_eqBool_str h)])
 «strs»:=λ k x t v h=>by
  rcases fh h with⟨i,u,rfl,e⟩ | ⟨y,u,rfl,e⟩
  ·rw[aM2]
  ·injection e with e1 _;subst e1;cases v<;>rfl
def Gv aUI aP0(t:Tok):c8 ((cL prog w).is (b5 i) (η i t)):=L9 i t
def Gw aUI aPM(t:Tok):c8 ((cL prog w).is (c6 x) (c7 x t)):=Mb x t
universe L2
namespace L2
open PySem PySem.Spec PyProof.Rows
inductive V where
 | bb | bl(b:Bool) | int aP0 | str aPM | Zu(b:Array UInt8) | Zv(b:UInt64) | ref aP3 | ty(n:String)
 deriving DecidableEq
abbrev RelV:V->ad9 Value
 | .bb,u=>u=Value.none
 | .bl b,u=>u=Value.bool b
 | η i,u=>∃t,u=azj
 | c7 x,u=>∃t,u=azk
 | .Zu b,u=>∃t,u=Value.bytes b t
 | .Zv b,u=>∃t,u=Value.float b t
 | Δ a,u=>u=aog
 | .ty n,u=>u=Value.type n
noncomputable abbrev Vals:g9->ad9 x8:=Paired RelV
def Vals.length aQ1(r:alZ):aA1 us.length:=aMs
def Vals.get:∀aQ1 aPt{x:V},alZ->anF->∃u,ah0 us u/\atP
 | _,_,_,_,abO,e=>asx e
 | _,_,0,_,aaP r _,e=>by simp at e;subst e;exact arS r
 | _,_,i+1,x,aaP _ t,e=>by
  rw[ahd u h1 h2 (Vals.get (i:=i) (x:=x) t (aam e)) u aCb h2]
def Vals.set{x:V}aQe(r:atP):∀aQ1 aPs,alZ->aut (xs.set i x) (us.set i u)
 | _,_,_,abO=>abO
 | _,_,0,aaP _ t=>aaP r t
 | _,_,i+1,aaP q t=>aaP q (Vals.set r i t)
def Vals.append:∀{xs ys:g9}{us ws:x8},alZ->Vals ys ws->aut (xs++ys) (us++ws)
 | _,_,_,_,abO,s=>s
 | _,_,_,_,aaP r t,s=>aaP r (Vals.append t s)
def Vals.take:∀aQ1 aPf,alZ->aut (xs.take n) (us.take n)
 | _,_,0,_=>abO
 | _,_,_+1,abO=>abO
 | _,_,n+1,aaP r t=>aaP r (Vals.take n t)
def Vals.drop:∀aQ1 aPf,alZ->aut (xs.drop n) (us.drop n)
 | _,_,0,r=>r
 | _,_,_+1,abO=>abO
 | _,_,n+1,aaP _ t=>Vals.drop n t
abbrev qA:ark->ad9 apq
 | afw,aaZ=>aji
 | none,none=>True
 | _,_=>False
abbrev KV aQg:agC->ad9 au9:=Paired fun(p:κ×V) (q:κ×Value)=>p.1=q.1/\RelV p.2 q.2
abbrev kV:Key->V
 | b5 i=>η i
 | c6 x=>c7 x
inductive HO where
 | lst aRw
 | tup aRw
 | dK(kvs:ahD) | dT(kvs:aoT)
 | set(S:amF Int)aPf
 | ins(C dx:Addr)(fs:aoR)
 | own(x:Addr)
 | xd(fs:aoR)
 | met(f x:Addr)
 | Gx(lo hi:Int)
 | ku(o:Obj)(u:HO)
 | IF(ps:auX)
 | ext(φ:axW)
noncomputable abbrev Hp:=ajz Addr HO
abbrev upd aRQ(o:HO):Hp:=att b b a t9 (H b)
def bF aPy aPz{o:HO}:upd H a o a=t9:=by rw[acP upd afC]
def aS aS8{o:HO}(h:b≠a):upd H a o b=H b:=by rw[acP upd apP]
def ZL aS8{o u:HO}(h:H a=t9)(h':H b=aaZ)(d:o≠u):a≠b:=by
 intro e; subst e;rw[t7 h h' (d (Option.some.inj h'))]
def bZ aS8{o:HO}(h:H a=t9)(h':ahn):a≠b:=by
 intro e; rw[alL e h h']; cases h'
section
variable (P:Program) (w:World)
abbrev iV aPC aQT aP3:ad9 HO
 | ς xs=>asH/\∃(bR:x8) (n:Nat),awh/\aof a (aos (aif bR.toArray n))
 | sT xs=>asH/\∃bR:x8,awh/\IsTup h a bR.toArray
 | .dK kvs=>auN/\arZ/\∃vs,anG/\h.DictOf (cL P w) a vs
 | .dT kvs=>auN/\arZ/\∃xs:av3,
   Paired (fun(p:akP×V) (q:akP×Addr×Value)=>p.1=q.1/\H q.2.1=aq0 (p.1.map kV)/\RelV p.2 q.2.2) kvs xs ∧
   ∃o es ep,as1=t9/\o.ExactDict/\ayZ (.dict es ep)/\es.toList=xs.map (entryOfKey (tupleKind (cL P w)))/\agM (xs.map (·.1))
 | ag7 S n=>h.SetOf (intKind P w) a S n
 | abT C dx fs=>H dx=aC5/\fs.length≤1000/\dx≠a/\as1=f7 (PySem.W.instObj C dx) ∧
   ∃mA,h.Ns1 dx mA/\(∀f,qA auZ (mA f))/\aMt aIT
 | .own _=>∃o,as1=t9
 | .xd fs=>∃mA,h.Ns1 a mA/\∀f,qA auZ (mA f)
 | .Gx lo hi=>∃t u v,aof a (ajt (ad6 "range") (ahe #[η lo t,η hi u,η 1 v]))
 | .ku o u=>as1=t9/\iV H h a u
 | .IF ps=>aof a (ajt abc (ahe ps))
 | .met f x=>as1=aLE (Δ f) (Δ x)
 | .ext φ=>φ h/\(∃o,as1=t9)/\∀h1 h2:Heap,φ h1->(∀o,h1.get? a=t9->h2.get? a=t9)->φ h2
abbrev rf aPC aQT:Prop:=∀a o,H a=t9->iV P w H h a o
universe zE
section
variable {P:Program} {w:World} {H H':Hp} {h h':Heap} {a:Addr} {o:HO}
def iV.lt(x:iV P w H h a o):a<h.objs.size:=by
 cases o with
 | lst xs=>obtain⟨_,_,_,_,e⟩:=x;exact akO
 | tup xs=>rw[aIj p x p.lt]
 | dK kvs=>obtain⟨_,_,_,_,o,_,_,e,_⟩:=x;rw[atM]
 | dT kvs=>obtain⟨_,_,_,_,o,_,_,e,_⟩:=x;rw[atM]
 | set S n=>obtain⟨o,_,_,_,e,_⟩:=x; rw[atM]
 | ins C dx fs=>obtain⟨_,_,_,e,_⟩:=x; rw[atM]
 | own y=>obtain⟨_,e⟩:=x;exact akO
 | xd fs=>obtain⟨_,⟨_,_,_,e,_⟩,_⟩:=x; rw[atM]
 | Gx lo hi=>rw[aIj e x akO]
 | ku ob u=>obtain⟨e,_⟩:=x; rw[atM]
 | IF ps=>exact Heap.lt_size (show aof a _ from x)
 | met f y=>exact Heap.lt_size (show aof a _ from x)
 | ext φ=>obtain⟨_,⟨_,e⟩,_⟩:=x; rw[atM]
def Paired.OD aQd{F G:α->aCf}:∀{l₁:af1}{l₂:aFD},Paired F l₁ l₂->(∀a b,F a b->G a b)->Paired G l₁ l₂
 | _,_,abO,_=>abO
 | _,_,aaP r t,f=>aaP (f _ _ r) (Paired.OD t f)
def iV.vZ(x:iV P w H h a o)(k:∀b u,(b=a\/H b=aC5)->ajx=aaZ->ahZ=aaZ)
  (ho:∀b,H b=aC5->amm=aC5)(ht:∀b xs,H b=al0->amm=al0):iV P w H' h' a o:=by
 induction o with
 | lst xs=>rw[ae3 z bR n r e x ⟨z,bR,n,r,k _ _ (b5 rfl) e⟩]
 | tup xs=>obtain⟨z,bR,r,ob,e,c⟩:=x; exact⟨z,bR,r,ob,k _ _ (b5 rfl) e,c⟩
 | dK kvs=>obtain⟨z,y,vs,r,ob,es,ep,e,c⟩:=x; exact⟨z,y,vs,r,ob,es,ep,k _ _ (b5 rfl) e,c⟩
 | dT kvs =>
  obtain⟨z,y,xs,r,ob,es,ep,e,c⟩:=x;exact⟨z,y,xs,Paired.OD r λ p q z=>⟨z.1,ht _ _ z.2.1,z.2.2⟩,ob,es,ep,k _ _ (b5 rfl) e,c⟩
 | set S n=>obtain⟨ob,es,ep,t,e,c⟩:=x; exact⟨ob,es,ep,t,k _ _ (b5 rfl) e,c⟩
 | ins C dx fs =>
  obtain⟨d,z,ne,e,mA,⟨od,es,ep,e2,c⟩,r⟩:=x;exact⟨ho _ d,z,ne,k _ _ (b5 rfl) e,mA,⟨od,es,ep,k _ _ (c6 d) e2,c⟩,r⟩
 | own y=>rw[af8 ob e x ob (k _ _ (b5 rfl) e)]
 | xd fs=>obtain⟨mA,⟨od,es,ep,e,c⟩,r⟩:=x; rw[aas mA ⟨od,es,ep,k _ _ (b5 rfl) e,c⟩ r]
 | Gx lo hi=>rw[af7 t u v e x ⟨t,u,v,k _ _ (b5 rfl) e⟩]
 | ku ob u ih=>rw[af8 e q x (k _ _ (b5 rfl) e) (ih q)]
 | IF ps =>
  have e:aof a (ajt abc (ahe ps)):=x;rw[aqj (b7 (h'.get? a) (ajt abc (ahe ps))) (k a _ (b5 rfl) e)]
 | met f y =>
  have e:as1=aLE (Δ f) (Δ y):=x;rw[aqj (h'.get? a=aLE (Δ f) (Δ y)) (k a _ (b5 rfl) e)]
 | ext φ=>obtain⟨p,⟨o,e⟩,st⟩:=x; rw[aas (st _ _ p λ o q=>k _ _ (b5 rfl) q) ⟨o,k _ _ (b5 rfl) e⟩ st]
def rf.lt(x:alw)(e:H a=t9):a<h.objs.size:=(x a o e).lt
def rf.fresh(x:alw)(e:aMQ a):ai7 a:=by
 cases q:H a with
 | none=>rfl
 | some u=>rw[akK (asr (x.lt q) e) aAi]
def rf.kept(x:alw)aTx:rf P w H h':=λ a o e =>
 (x a o e).vZ (λ b u _ q=>k b u q) (abf q q) λ _ _ q=>q
def rf.laid(x:alw)aTx(hp:aMQ a)(new:iV P w (aoS a) h' a o):rf P w (aoS a) h':=agT u e (by
 have hn:=x.fresh hp
 rw[alT (b=a)]
 ·rw[alL hb bF e]; cases e; exact new
 ·rw[ao4] at e
  exact(x b u e).vZ (λ c v _ q=>k c v q) (λ c q=>by rw[acY (bZ q hn) q]) λ c xs q=>by rw[acY (bZ q hn) q])
universe zE
abbrev Rd aRQ(u:HO):Prop:=H a=aaZ\/∃o,H a=ac1 .ku o u
def Rd.ok aQp aPy aQk aPz{u:HO}(r:Rd H a u)(x:alw):iV P w H h a u:=by
 rcases r with r | ⟨o,r⟩
 ·exact x a u r
 ·obtain⟨_,q⟩:=x a _ r;exact q
abbrev ZM:ad9 (Option HO)
 | anb _=>True
 | abq .dK _=>True
 | abq .dT _=>True
 | ac1 ag7 _ _=>True
 | f7 (abT _ _ _)=>True
 | abq .ext _=>True
 | _=>False
section
variable {P:Program} {w:World} {H:Hp} {h h':Heap} {x e:Addr} {o':HO}
def rf.write aRr aUz aVD
  (new:iV P w (upd H x o') h' x o'):rf P w (upd H x o') h':=agT u q (by
 rw[d6 ZN (∀c y,H c=abq .own y->c≠x) (λ c y r z=>by subst z;rw[t7 r mu mu]) ady (∀c xs,H c=al0->c≠x) (λ c xs r z=>by subst z;rw[t7 r mu mu])]
 rw[alT (b=x)]
 ·rw[azs]; cases q; exact new
 ·rw[ao4] at q;by_cases Sz:b=e
  ·rw[akv q' (H b=aub) (by
    rcases he with z | z
    ·rw[akK (Sz.trans z) hb]
    ·rw[Ω Sz z]) q q']; cases q';rw[af8 v hv Zw v (by rw[Ω Sz hv])]
  ·refine(ok b u q).vZ (λ c v hc r=>k c v ?_ r) (λ c r=>by rw[acY (ZN c b r) r]) λ c xs r=>by rw[acY (ady c xs r) r]
   rcases hc with rfl | hc
   ·exact Sz
   ·rintro rfl;rcases he with z | z
    ·exact ZN c b hc z
    ·rw[hc] at z; cases z; exact hb rfl)
universe zE
structure Un(fs ex:d8)(H H':Hp)(h h':Heap):Prop where
 keep:∀b o,ajx=t9->ahn->b∉fs->b∉ex->ahZ=t9
 slot:∀b o,ajx=t9->ahn->b∈fs->b∉ex->∃sl,b7 ahZ { o with slots:=sl }
 free:∀b o,ajx=t9->ahn->b∉ex->ak4 b
 there:∀b o,ajx=t9->b∉ex->∃o',b7 ahZ o'
 pL:∀b xs,H b=al0->amm=al0
 nS:∀b o u,H b=ac1 .ku o u->amm=ac1 .ku o u
 pM:∀b ps,H b=abq .IF ps->∃more,amm=amC .IF (ps++more)
section
variable {fs Ol ex ex':d8} {H H1 H2:Hp} {h h1 h2 h':Heap} {a x e:Addr} {o:HO}
def Un.any(u:Un fs ex H H1 h h1){b:Addr}{ob:Obj}(q:aof b ob)(n:ahn)(hx:b∉ex):∃sl,b7 aJ8 { ob with slots:=sl }:=by
 rw[alT (b∈fs)]
 ·exact u.slot b ob q n hb hx
 ·rw[aaX ob.slots (u.keep b ob q n hb hx)]
def Un.trans(a:Un fs ex H H1 h h1)(b:Un fs ex H1 H2 h1 h2):Un fs ex H H2 h h2 where
 keep:=λ c ob q n hc hx=>b.keep c ob (a.keep c ob q n hc hx) (a.free c ob q n hx) hc hx
 slot:=λ c ob q n hc hx=>by
  obtain⟨sl,e1⟩:=a.slot c ob q n hc hx;rw[af8 Sf e2 (b.slot c _ e1 (a.free c ob q n hx) hc hx) Sf e2]
 free:=λ c ob q n hx=>by
  rw[aeO o' e1 (a.there c ob q hx) (b.free c o' e1 (a.free c ob q n hx) hx)]
 there:=λ c ob q hx=>by
  rw[aeO o' e1 (a.there c ob q hx) (b.there c o' e1 hx)]
 pL:=λ c xs q=>b.pL c xs (a.pL c xs q)
 nS:=λ c ob xs q=>b.nS c ob xs (a.nS c ob xs q)
 pM:=λ c ps q=>by
  obtain⟨m1,e1⟩:=a.pM c ps q;rw[af8 m2 e2 (b.pM c _ e1) (m1++m2) (ag3 e2 Array.append_assoc)]
def Un.kept aTx:Un fs ex H H h h' :=
 ⟨λ b ob q _ _ _=>k b ob q,λ b ob q _ _ _=>⟨ob.slots,k b ob q⟩,λ _ _ _ n _=>n,λ b ob q _=>⟨ob,k b ob q⟩,λ _ _ q=>q,λ _ _ _ q=>q,λ _ ps q=>⟨#[],by rw[agb q]⟩⟩
def Un.refl:Un fs ex H H h h:=Un.kept λ _ _ q=>q
def Un.laid aTx(hp:aMQ a)(hn:ai7 a):Un fs ex H (aoS a) h h' where
 keep:=λ b u q _ _ _=>k b u q
 slot:=λ b u q _ _ _=>⟨u.slots,k b u q⟩
 free:=λ b u q n _=>by rw[acY (ajp (aAc q hp)) n]
 there:=λ b u q _=>⟨u,k b u q⟩
 pL:=λ b xs q=>by rw[acY (bZ q hn) q]
 nS:=λ b u xs q=>by rw[acY (bZ q hn) q]
 pM:=λ b ps q=>⟨#[],by rw[aS (bZ q hn),q];simp⟩
def Un.write aUz aVD:Un fs ex H (aoS x) h h':=by
 rw[d6 hx (∀b,ahn->b≠x) (agT n z (by subst z;rw[t7 n mu mu])) hb (∀b,ahn->b≠e) (agT n z (by
  subst z;rcases he with r | r
  ·exact hx b n r
  ·rw[n] at r; cases r))]
 rw[ah8 hm (∀b u,H b=aaZ->¬ZM aaZ->b≠x) (λ b u q nm z=>by subst z;rw[t7 q mu (nm mu)]) ⟨λ b u q n _ _=>k b u (hb b n) q,λ b u q n _ _=>⟨u.slots,k b u (hb b n) q⟩,λ b u q n _=>by rw[acY (hx b n) n],acI b u q _,
  λ b xs q=>by rw[acY (hm b _ q (acZ z)) q],λ b u xs q=>by rw[acY (hm b _ q (acZ z)) q],λ b ps q=>⟨#[],by rw[aS (hm b _ q (acZ z)),q];simp⟩⟩]
 by_cases Sz:b=e
 ·rw[aeq Sz Zw]
 ·rw[aaX u (k b u Sz q)]
universe zE
abbrev VD aQT aPC:d8:=(aLI).filter λ a=>agl (H a)
abbrev Eu aQT aPC:Heap:=PySem.W.hideAll h (VD h H)
def Mc aQT aPC:(Eu h H).objs.size=h.objs.size:=PySem.W.hideAll_size _ _
def OE aQk aPy aSB(e:ajx=t9)(n:ahn):(Eu h H).get? b=t9 :=
 aH5 e (asl (by
  have q:aql (H b):=aH6.2;rw[aiq n q q]))
def SA aQk aPy aSB(e:(Eu h H).get? b=t9):ajx=t9/\ahn:=by
 have e':ajx=t9:=PySem.W.of_hideAll (VD h H) e;rw[aej e' ?_];cases q:H b with
 | none=>rfl
 | some x =>
  rw[d6 hm (b∈VD h H) (List.mem_filter.mpr ⟨List.mem_range.mpr (Heap.lt_size e'),f6 q⟩) z (aaz ((Eu h H).get? b)) (PySem.W.hideAll_none (VD h H) hm)];rw[z] at e; cases e
abbrev SD(g h:Heap)(L:Addr):KB:=ag8 (aLI).filterMap a (if a=L\/aql (g.get? a) then none else ag8 (as1).map o (a,o))
abbrev rest(g h:Heap)(L d:Addr):KB:=(SD g h L).filter (ajd p p.1 d)
universe L2
namespace L2
open PySem PySem.Spec PyProof.Rows
structure Mod aSe:Prop where
 Zx:aKa
 glob:aG4
 blt:∃mb,base.Ns builtinsNs mb/\∀x:Str,awv -> mb x=axi
 nolimit:base.NoLimit
structure Cx where
 prog:Program
 w:World
 K:Fg
 mg:adp
 base:Heap
 A:Around
 N:adl
 s₀:Shared
 H₀:Hp
 env:Env
 outer:agy
 stack:agy
 ex:d8
 fn:amF Str
 calm:Bool
 pn:KB
 xe:abE
abbrev sU(l:agy):d8:=l.filterMap (·.frame)
noncomputable abbrev Cx.fs aPq:d8:=sU X.outer
abbrev Vis(sc:Scope)aPM:Prop:=b7 auB amE \/ aBT\/b7 auB ahR
abbrev Loc(sc:Scope)aPM:Prop:=b7 auB amE \/ aBT
abbrev Look(env:Env)aQT(m:adp)aPM aQ7:Prop :=
 (aMp x amE /\ m x=aaZ)\/((aMp x ai8\/aMp x ahR)/\∃c,b7 (env.cells.lookup x) c/\h.IsCell c aaZ)
structure Cx.Ok aPq:Prop where
 mod:Mod X.K X.mg X.base
 kind:X.env.scope.kind=aoi
 glob:X.env.globals=mainGlobals
 blt:X.env.builtins=builtinsNs
 above:auC X.env.locals
 inj:∀x y c,al7->b7 (X.env.cells.lookup y) c->x=y
 has:∀x,(auH x ai8\/auH x ahR)->∃c,al7
 ZO:∀x c,atU->al7->auC c
 hd:ah1->aaz X.A.handled
 frames:b7 X.A.frames X.stack
 stk:X.stack=X.outer\/(aGi/\aMC)
 exf:anV X.ex (atQ/\∀x c,al7->c≠b)
 bs:∀b o,aEp=t9->aL5=t9/\aaz (X.H₀ b)
 Sh:X.base.objs.size≤X.s₀.heap.objs.size
 OF:∀b o,aEp=t9->b∉X.ex
 SE:anV X.ex (awp b)
 zq:aNt X.outer
 WM:anV X.fs (aaz (X.H₀ b))
structure Inv aTB(σ:asq V)aPC aPF:Prop where
 ok:X.Ok
 os:s.os=X.s₀.os
 bare:aO3
 base:Un X.fs X.ex X.H₀ H X.s₀.heap s.heap
 loc:∃m,aNN m/\∀aPs aPM(v:V),arv->aDu->aMu x->∃u,aji/\Look X.env s.heap m x u
 cell:∀x c,al7->∃v,s.heap.IsCell c v
 free:ai7 X.env.locals
 nN:∀x c,al7->ai7 c
 pin:afz aqI (auI p.1 p.2/\ai7 p.1/\az5 p.1/\awp p.1/\∀v,p.2.data≠ai8 v)
 cQ:rf X.prog X.w H s.heap
 len:σ.length=X.N.length
section
variable {X:Cx} {pins:KB} {σ:asq V} {H H':Hp} {s:Shared} {h':Heap}
def Cx.Ok.adA(ok:X.Ok)aSB(e:aEp=t9):awp b:=λ hb=>by
 rw[aj3 (ok.zq.mem hb).1 e]; cases this
def Inv.bs aPb:∀b o,aEp=t9->afB=t9/\ahn:=λ b o e =>
 ⟨I.base.keep b o (I.ok.bs b o e).1 (I.ok.bs b o e).2 (I.ok.adA e) (I.ok.OF b o e),I.base.free b o (I.ok.bs b o e).1 (I.ok.bs b o e).2 (I.ok.OF b o e)⟩
def Inv.bk aPb:∀b o,aEp=t9->afB=t9:=anZ (I.bs b o e).1
def Inv.mod aPb:Mod X.K X.mg X.base:=I.ok.mod
def Inv.Gy aPb:X.K.In s.heap:=I.ok.mod.Zx.keeps I.bk
def Inv.fr aPb:∃m,Fr X.base X.env.locals s.heap m :=
 let⟨m,hn,_⟩:=I.loc
 ⟨m,hn,I.bk,aO7⟩
def Inv.lt aPb:axh X.env.locals:=let⟨_,hn,_⟩:=I.loc; hn.lt
def Inv.sz aPb:auC s.heap.objs.size:=aiH I.ok.above (Nat.le_of_lt I.lt)
def Inv.adB aPb aPz(h:aMd a):awp a:=λ hb=>by
 obtain⟨_,o,ho,_⟩:=I.ok.zq.mem hb;rw[akK (aAc ho (Nat.le_trans I.sz h)) aAi]
def Inv.SF aPb:∀x c,al7->az5 c:=λ x c e z=>by
 obtain⟨v,o,ho,hd⟩:=I.cell x c e;obtain⟨m,⟨o',es,ep,KC,hd',_⟩,_⟩:=I.loc;rw[z,KC] at ho; cases ho; rw[hd'] at hd; cases hd
def Inv.zq aPb:aLD X.outer:=by
 rw[akc all (∀(l:agy),(anV (sU l) (b∈X.fs))->aNt l->aLD l) (by
  intro l
  induction l with
  | nil=>intro _ _; trivial
  | cons env r ih =>
   intro hs hl;obtain⟨hk,⟨L,o,hf,hn,ho,hd⟩,hr⟩:=hl;have hL:L∈X.fs:=hs L (by rw[aga sU List.filterMap_cons hf]; rw[aLU]);rw[ax2 sl e (I.base.slot L o ho (I.ok.WM L hL) hL (acZ (I.ok.SE L z hL))) hk ⟨L,_,hf,hn,e,hd⟩ (ih (aqp (hs b (by rw[aga sU List.filterMap_cons hf]; exact ahv hb))) hr)]) (all X.outer (abf hb hb) I.ok.zq)]
def Inv.stack aPb:aLD X.stack:=by
 rcases I.ok.stk with e | ⟨e,hf⟩
 ·rw[amX I.zq]
 ·rw[e];obtain⟨m,hn,_⟩:=I.loc;rw[ans (aaP (by rw[I.ok.kind];decide) hf hn ?_ I.zq) (Heap.get?_none_of_le aO7)]
def Inv.Ew aPb:anV asO (b∈X.env.locals::X.fs):=aqp (by
 rcases I.ok.stk with e | ⟨e,hf⟩
 ·rw[t7 e hb (ahv hb)]
 ·rw[e] at hb;unfold sU at hb;rw[ap4 List.filterMap_cons hf hb hb])
def Inv.Ey aPb:anV asO ahn:=aqp (by
 rcases List.mem_cons.mp (I.Ew b hb) with e | hb
 ·rw[amX I.free]
 ·obtain⟨_,o,ho,_⟩:=I.ok.zq.mem hb;exact I.base.free b o ho (I.ok.WM b hb) (acZ (I.ok.SE b z hb)))
def Inv.step{g':aO0}aQH{d':Drawn}{ch:d8}aPb
  aUo
  (keep:∀b o,atQ->awp b->b∉ch->afB=t9->ahn->ahZ=t9)
  (slot:∀b o,atQ->b∈X.fs->b∉ch->afB=t9->ahn->∃sl,b7 ahZ { o with slots:=sl })(free:∀b o,b∉ch->afB=t9->ahn->ak4 b)
  (there:∀b o,b∉ch->afB=t9->∃o',b7 ahZ o')
  (pL:∀b xs,H b=al0->amm=al0)(nS:∀b o u,H b=ac1 .ku o u->amm=ac1 .ku o u)(pM:∀b ps,H b=abq .IF ps->∃more,amm=amC .IF (ps++more))
  (ns:∀m,aNN m->h'.Ns X.env.locals m)aUF(hg:AllBare g') :
  aAP { s with heap:=h',gens:=g',drawn:=d',toks:=t' }:=by
 rw[d6 neL (∀b o,aL5=t9->atQ) (anZ aGd) neC (∀b o,aL5=t9->b∉X.ex->b∉ch) (λ b o e hx hb=>by
  rcases(Si b hb).1 with z | z
  ·exact hx z
  ·rw[akK (asr akO z) aAi])]
 rw[ah8 cellK (∀x c,al7->∀v,s.heap.IsCell c v->h'.IsCell c v) (λ x c e v ⟨o,ho,hd⟩=>by
  have ZP:c∉ch:=acZ ((Si c z).2.2.1 x c e rfl)
  by_cases hc:c∈X.fs
  ·rw[ax2 sl q (slot c o (I.SF x c e) hc ZP ho (I.nN x c e)) _ q hd]
  ·rw[aas o (keep c o (I.SF x c e) hc ZP ho (I.nN x c e)) hd]) ⟨I.ok,I.os,hg,⟨aiA b o e n hb hx,aiA b o e n hb hx,aeB b o e n hx,am0 e hx,λ b xs e=>pL b xs (aI5 b e),λ b o xs e=>nS b o xs (aEz b xs e),IL b ps e⟩,?_,IL x c e,?_,IL x c e,ar6,cQ,I.len⟩]
 ·exact keep b o (neL b o e) hb (neC b o e hx) (I.base.keep b o e n hb hx) (I.base.free b o e n hx)
 ·obtain⟨sl,e1⟩:=I.base.slot b o e n hb hx;rw[af8 Sf e2 (slot b _ (neL b o e) hb (neC b o e hx) e1 (I.base.free b o e n hx)) Sf e2]
 ·rw[aeO o' e1 (I.base.there b o e hx) (free b o' (neC b o e hx) e1 (I.base.free b o e n hx))]
 ·rw[aeO o' e1 (I.base.there b o e hx) (there b o' (neC b o e hx) e1)]
 ·obtain⟨m1,e1⟩:=I.base.pM b ps e;rw[af8 m2 e2 (pM b _ e1) (m1++m2) (ag3 e2 Array.append_assoc)]
 ·rw[ajq m hn hl I.loc ⟨m,ns m hn,aiA i x v e1 e2 e3⟩];rw[ajq u r l (hl i x v e1 e2 e3) (aoN u r)];rcases l with l | ⟨k,c,e,z⟩
  ·exact b5 l
  ·exact c6 ⟨k,c,e,cellK x c e _ z⟩
 ·rw[af8 v z (I.cell x c e) v (cellK x c e v z)]
 ·obtain⟨m,⟨o,_,_,ho,_⟩,_⟩:=I.loc;exact free _ o (acZ ((Si _ z).2.1 rfl)) ho I.free
 ·rw[auU v o ho hd (I.cell x c e) (free c o (acZ ((Si c z).2.2.1 x c e rfl)) ho (I.nN x c e))]
 ·obtain⟨e,n,ne,nf,d⟩:=ayG;have ZP:p.1∉ch:=λ z=>(Si p.1 z).2.2.2 p hp rfl;exact⟨keep p.1 p.2 ne nf ZP e n,free p.1 p.2 ZP e n,ne,nf,d⟩
def Inv.un aQH aPb(u:Un X.fs [] H H' s.heap h')aUF:afn H' (air s h' t'):=by
 obtain⟨m,⟨o,es,ep,ho,r⟩,_⟩:=aK4;rw[aeO sl hL (u.any ho I.free Ξ) (I.step (g':=s.gens) (d':=s.drawn) (ch:=[]) (λ _ z=>nomatch z) (λ b o _ hb _ e n=>u.keep b o e n hb Ξ) (λ b o _ hb _ e n=>u.slot b o e n hb Ξ) (λ b o _ e n=>u.free b o e n Ξ) (λ b o _ e=>u.there b o e Ξ) u.pL u.nS u.pM (λ m' hm=>by
  obtain⟨o',es',ep',KC,r'⟩:=hm
  rw[ho] at KC; cases KC
  exact⟨_,es',ep',hL,r'⟩) cQ I.bare)]
def Inv.call{g':aO0}aQH{d':Drawn}{ch:d8}aPb(u:Un asO ch H H' s.heap h')aUF(hg:AllBare g')
  aUo :
  aAP { s with heap:=h',gens:=g',drawn:=d',toks:=t' }:=by
 obtain⟨m,⟨o,es,ep,ho,r⟩,_⟩:=aK4;rw[aeO sl hL (u.any ho I.free (acZ ((Si _ z).2.1 rfl))) (I.step (ch:=ch) Si (λ b o hL hb hc e n=>u.keep b o e n (acZ ((List.mem_cons.mp (I.Ew b z)).elim hL hb)) hc) (λ b o _ _ hc e n=>u.any e n hc) (λ b o hc e n=>u.free b o e n hc) (λ b o hc e=>u.there b o e hc) u.pL u.nS u.pM (λ m' hm=>by
  obtain⟨o',es',ep',KC,r'⟩:=hm
  rw[ho] at KC; cases KC
  exact⟨_,es',ep',hL,r'⟩) cQ hg)]
def Inv.turned aQH{it:Addr}aPb(k:∀b o,b≠it->afB=t9->ahZ=t9)(hn:ai7 it)(hL:az5 it)
  (h1:it∈X.ex\/auC it)(h2:∀x c,al7->c≠it)(h3:afz aqI (p.1≠it)):afn H (air s h' t'):=by
 rw[acH VF (∀b u,H b=aaZ->b≠it) (λ b u e z=>by rw[z,hn] at e; cases e) (I.step (g':=s.gens) (d':=s.drawn) (ch:=[it]) ajj (λ b o _ _ hc e _=>k b o (acZ (hc (f6 z))) e) (λ b o _ _ hc e _=>⟨o.slots,k b o (acZ (hc (f6 z))) e⟩) (λ _ _ _ _ n=>n)
  (λ b o hc e=>⟨o,k b o (acZ (hc (f6 z))) e⟩) (λ _ _ e=>e) (λ _ _ _ e=>e) (λ b ps e=>⟨#[],by rw[arW]⟩) (acO m hm) (IL b u e) I.bare)]
 ·have e:b=it:=ah7
  subst e;exact⟨h1,hL,h2,h3⟩
 ·rw[ae3 o es ep ho r hm ⟨o,es,ep,k _ o (Ne.symm hL) ho,r⟩]
 ·refine(atu u e).vZ (λ c v hc q=>k c v ?_ q) (abf q q) λ _ _ q=>q;rcases hc with z | z
  ·rw[Ω z (VF b u e)]
  ·exact VF c _ z
def Inv.tok aPb(t:Nat):afn H { s with toks:=t }:=I.un (h':=s.heap) (t':=t) Un.refl I.cQ
def Inv.kept aQH aWc:afn H (air s h' t'):=I.un (Un.kept k) (I.cQ.kept k)
def Inv.laid aPz{o:HO}aQH aWc(hp:aMd a)(new:iV X.prog X.w (aoS a) h' a o) :
  afn (aoS a) (air s h' t'):=I.un (Un.laid k hp (I.cQ.fresh hp)) (I.cQ.laid k hp new)
def Inv.write{x e:Addr}{o:HO}aQH aPb aUz(k:∀b u,b≠e->afB=aaZ->ahZ=aaZ)(Zw:∃u,aKP=aaZ)
  (new:iV X.prog X.w (aoS x) h' x o):afn (aoS x) (air s h' t'):=I.un (Un.write mu he k Zw) (I.cQ.write mu he k Zw new)
def Inv.weak{σ':asq V}aPb(hl:σ'.length=σ.length)(w:∀aPs v,aiz σ' i v->aDu):aw2 X σ' H s :=
 ⟨I.ok,I.os,I.bare,I.base,let⟨m,hn,hl'⟩:=I.loc; ⟨m,hn,λ i x v e1 e2 e3=>hl' i x v e1 (w i v e2) e3⟩,I.cell,I.free,I.nN,I.pin,I.cQ,hl.trans I.len⟩
def Inv.KD{Dw:KB}aPb(h:afz Dw (auI p.1 p.2/\ai7 p.1/\az5 p.1/\awp p.1/\∀v,p.2.data≠ai8 v)):Inv X Dw σ H s :=
 ⟨I.ok,I.os,I.bare,I.base,I.loc,I.cell,I.free,I.nN,ahT ((aH7).elim (acZ (I.pin p (aLJ z))) (h p)),I.cQ,I.len⟩
def AL{N:adl}(hN:N.Nodup){i j:Nat}aPl(a:ah0 N x)(b:acL N j x):i=j:=by
 obtain⟨h1,e1⟩:=List.getElem?_eq_some_iff.mp a;rw[ahJ h2 e2 (List.getElem?_eq_some_iff.mp b) ((List.getElem_inj hN).mp aOz)]
def Dx aTV aPt aPl aPP aQe aT5 aRi aTJ(r:aji)
  (h:∀s',aw2 X aGu H s'->(∃a,Heap.SameBut a s.heap s'.heap/\(a=X.env.locals\/b7 (X.env.cells.lookup x) a))->Q () s')aSt:afe M A (storeName X.env x u) Q E:=by
 obtain⟨m,hn,hl⟩:=aK4
 rw[d6 adD (ai6 (aD5 .class || (aD5 .module && X.env.locals != X.env.globals))) (by rw[acR I.ok.kind]) hiσ (i < σ.length) (by rw[ae2 I.len (List.getElem?_eq_some_iff.mp hi).1])]
 rw[aeC SF I.SF tracked (∀aPz aTj,(∃o,s.heap.get? a=t9/\ai7 a)->Heap.SameBut a s.heap h'->rf X.prog X.w H h') (λ{a h'} ha hs b ob e=>by
  obtain⟨_,_,VH⟩:=ha;refine(atu ob e).vZ (λ c w' hc q=>x6 (hs.2 c ?_) q) (abf q q) λ _ _ q=>q
  rintro rfl;rcases hc with rfl | hc
  ·rw[VH] at e; cases e
  ·rw[VH] at hc; cases hc)]
 rcases hx with hk | hk
 ·refine wpAny_storeName_local hk hn (atp hn' hs) adD;obtain⟨oL,_,_,hoL,_⟩:=id hn;refine h _ ⟨I.ok,I.os,I.bare,⟨aiA b o e n hb hx,aiA b o e n hb hx,I.base.free,am0 e hx,I.base.pL,I.base.nS,I.base.pM⟩,⟨_,hn',aiA j y v' e1 e2 e3⟩,IL y c e,I.free,I.nN,ar6,tracked ⟨oL,hoL,I.free⟩ hs,aam I.len⟩ ⟨_,hs,b5 rfl⟩
  ·exact x6 (hs.2 b aGd) (I.base.keep b o e n hb hx)
  ·rw[af8 sl e1 (I.base.slot b o e n hb hx) sl (x6 (hs.2 b aGd) e1)]
  ·rw[af8 o' e1 (I.base.there b o e hx) o' (x6 (hs.2 b aGd) e1)]
  ·by_cases hj:j=i
   ·rw[alL hj hi e1]; cases e1;rw[aqT hiσ e2];cases e2;rw[aas u r (aoQ hk Ξ)]
   ·rw[aqV (Ne.symm hj) e2];rw[ajq u' r' q (hl j y v' e1 e2 e3) (aoN u' r')];rcases q with⟨k,e⟩ | ⟨k,c,e,z⟩
    ·refine b5 (aiS k);have:y≠x:=adm (hj (AL hN e1 (ap5 hi)));simp[this,e]
    ·exact c6 ⟨k,c,e,z.sameBut hs (SF y c e)⟩
  ·rw[af8 w' z (I.cell y c e) w' (z.sameBut hs (SF y c e))]
  ·rw[ae3 e n ne nf d ayG ⟨x6 (hs.2 p.1 ne) e,n,ne,nf,d⟩]
 ·have Zy:atU:=by
   rcases hf with z | z
   ·exact z
   ·rw[z] at hk; cases hk
  rw[aDU c hc (I.ok.has x (b5 hk)) w' z (I.cell x c hc)];refine wpAny_storeName_cell I.ok.kind hk hc z (atp CU hs);rw[aoa oc hoc adE (id z) (h (alc s) ⟨I.ok,I.os,I.bare,⟨aiA b o e n hb hx,aiA b o e n hb hx,I.base.free,am0 e hx,I.base.pL,I.base.nS,I.base.pM⟩,⟨m,hn.sameBut hs (Ne.symm (SF x c hc)),aiA j y v' e1 e2 e3⟩,IL y c' e,I.free,I.nN,ar6,tracked ⟨oc,hoc,I.nN x c hc⟩ hs,aam I.len⟩ ⟨c,hs,c6 hc⟩)]
  ·exact x6 (hs.2 b (ajp (asr akO (I.ok.ZO x c Zy hc)))) (I.base.keep b o e n hb hx)
  ·rw[af8 sl e1 (I.base.slot b o e n hb hx) sl (x6 (hs.2 b (ajp (asr akO (I.ok.ZO x c Zy hc)))) e1)]
  ·rw[af8 o' e1 (I.base.there b o e hx) o' (x6 (hs.2 b (ajp (asr akO (I.ok.ZO x c Zy hc)))) e1)]
  ·by_cases hj:j=i
   ·rw[alL hj hi e1]; cases e1;rw[aqT hiσ e2];cases e2;rw[aas u r (c6 ⟨b5 hk,c,hc,CU⟩)]
   ·rw[aqV (Ne.symm hj) e2];rw[ajq u' r' q (hl j y v' e1 e2 e3) (aoN u' r')];rcases q with q | ⟨k,c',e,z'⟩
    ·exact b5 q
    ·refine c6 ⟨k,c',e,z'.sameBut hs ?_⟩;rintro rfl;exact hj (AL hN e1 (I.ok.inj _ _ _ e hc ▸ hi))
  ·by_cases ZQ:c'=c
   ·subst ZQ; rw[afi CU]
   ·rw[af8 w2 z2 (I.cell y c' e) w2 (z2.sameBut hs ZQ)]
  ·obtain⟨e,n,ne,nf,d⟩:=ayG;refine⟨x6 (hs.2 p.1 ?_) e,n,ne,nf,d⟩;intro q;rw[q,hoc] at e;rw[akc q' (oc=p.2) aMg (d w' (by rw[abd q' adE]))]
def v3 aTV aPt aPl aPP aQe aT5 aRi aTJ(r:aji)
  (h:∀s',aw2 X aGu H s'->Q () s')aSt:afe M A (storeName X.env x u) Q E :=
 Dx I hN hi hx r (λ s' I' _=>h s' I') hf
def Inv.VL{s':Shared}{ch:d8}aPb(ho:s'.os=s.os)(u:Un asO ch H H' s.heap s'.heap)(cQ:rf X.prog X.w H' s'.heap)(hg:aAj)
  aUo:avP:=by
 obtain⟨h',g',d',t',o'⟩:=s';have e:o'=s.os:=ho;rw[aeq e (I.call (g':=g') (t':=t') (d':=d') u cQ hg Si)]
universe zE
noncomputable abbrev XK:=apu (ajo auY)
noncomputable abbrev St:=asq V
noncomputable abbrev VK:=aC9
noncomputable abbrev TE:=St->Hp->ad9 VK
noncomputable abbrev TT:=St->Hp->aqJ atJ
noncomputable abbrev TA:=St->Hp->aqJ (ajo g9)
structure Ends where
 nx:aph
 rt:VK
 bk:aph:=ao0
 ct:aph:=ao0
noncomputable abbrev TS:=Ends->aph
abbrev EP aT6 aQD aQ7 aRj:Prop:=∃v H',avP/\aji/\ajQ v
abbrev TP aT6(Q:atJ)(b:Bool)aRj:Prop:=∃H',avP/\ajQ b
abbrev AP aT6(Q:ajo g9)aQL aRj:Prop:=∃vs H',avP/\avL/\ajQ vs
abbrev SP aTB(D:Ends)(f:Flow)aRj:Prop :=
 match f with
 | .next=>∃ σ' H',aua/\D.nx σ' H'
 | .brk=>∃ σ' H',aua/\D.bk σ' H'
 | .cont=>∃ σ' H',aua/\D.ct σ' H'
 | .ret u=>∃v σ' H',aua/\aji/\D.rt v H'
abbrev PE aPq aSa(t:TE):Prop :=
 ∀aPR aQD,ahX anY (adT (ahr e) (EP X pins σ Q) s)
abbrev PT aPq aSa(t:TT):Prop :=
 ∀aPR(Q:atJ),ahX anY (adT (isTrue e X.env (ahr e)) (TP X pins σ Q) s)
abbrev PW aPq aSa(t:TT):Prop :=
 ∀(whole:aEc)aPR(Q:atJ),ahX anY (adT (isTrue e X.env whole) (TP X pins σ Q) s)
def PW.pt aPE aQ9{t:TT}(h:aqP e t):apl e t:=h _
abbrev PA aPq(es:acU)(t:TA):Prop :=
 ∀(pos:Pos)aPR(Q:ajo g9),ahX anY (adT (spliced (alQ es)) (AP X pins σ Q) s)
abbrev PS aPq(st:Stmt)(t:TS):Prop :=
 ∀aPR(D:Ends),ahX (t D σ H) (adT (exec st X.env) (SP X pins D) s)
abbrev IM aPq(st:ano)(t:TS):Prop :=
 ∀aPR(D:Ends),ahX (t D σ H) (adT (execs st X.env) (SP X pins D) s)
def fT aPp{t:Sem α}{Q Q':α->anc}aTV aPK(h:wpAny M A t Q E s)(hQ:∀a s,Q a s->Q' a s):wpAny M A t Q' E s:=auh h hQ x x
universe L2
namespace L2
open PySem PySem.Spec PyProof.Rows
section
variable {X:Cx}
def bin{a b:Expr}{ta tb:TE}aRC aRK aPK aQy{R:V->aC9}aPb aVG
  aPp{Q:α->anc}{f:apu (apu (Sem α))}
  aVr :
  adT (ahr a) (λ v s₁=>adT (ahr b) (λ u s₂=>adT (f v u) Q s₂) s₁) s:=by
 rw[afQ (asW s H _ I h v ⟨x,H1,I1,r1,q1⟩) (ahw (avX _) u s2 ⟨y,H2,I2,r2,q2⟩)];exact hf v u s2 x y H2 I2 r1 r2 q2
abbrev adF aPs:TE:=age (∃v,aDu/\Q v H)
abbrev tC(v:V):TE:=λ _ H Q=>Q v H
def WN aPt aPl aQ8(hN:arv)(hv:aMu x)aVH:aeM (ac6 x pos) (adF i):=by
 intro pins s σ H Q I h;obtain⟨v,e,h⟩:=h;obtain⟨m,hn,hl⟩:=I.loc;rw[apF u r l (hl i x v hN e hv) fin (EP X pins σ Q u s) ⟨v,H,I,r,h⟩];rcases l with⟨hk,hm⟩ | ⟨hk,c,hc,yN⟩
 ·exact wpAny_Name (wpAny_loadName_local I.ok.kind hk hn hm fin) hd
 ·rcases hk with hk | hk
  ·exact wpAny_Name (wpAny_loadName_cell I.ok.kind hk hc yN fin) hd
  ·exact wpAny_Name (wpAny_loadName_free I.ok.kind hk hc yN fin OG) hd
def WO{i j pos}:anP aom (η i) j (tC (η i)):=λ _ _ _ H _ I h=>wpAny_Constant_int ⟨η i,H,I.tok _,acV,h⟩
def ZR{b j pos}:anP aom (ajF b) j (tC (.bl b)):=λ _ _ _ H _ I h=>Constant_bool (asb .bl b h)
def WQ{j pos}:anP aom abc j (tC .bb):=λ _ _ _ H _ I h=>Constant_none (abS .bb H I h)
def OH{x j pos}:anP aom (c7 x) j (tC (c7 x)):=λ _ _ _ H _ I h=>Calls.Constant_str ⟨c7 x,H,I.tok _,acV,h⟩
abbrev Gl aPq aPM:Prop:=auH x .globalImplicit
def v5{E:abE}aRK aPK aQy aPl aQe aQ8 aPN aPb(hg:aml)(hm:aB9=aaZ)(h:Q u s)
  aRB:afe (model X.prog X.w) X.A (ahr (ac6 x pos)) Q E :=
 Calls.Name_function_global I.ok.kind hg (Calls.loadGlobal_global (by rw[Ω I.ok.glob aLP]) hm h) hd
def xE{E:abE}aRK aPK aQy aPl aQe aQ8 aPN aPb aU4(hv:axi=aaZ)(h:Q u s)
  (hn:awv := by decide)aRB:afe (model X.prog X.w) X.A (ahr (ac6 x pos)) Q E:=by
 rw[asK mb h1 h2 I.mod.blt (Calls.Name_function_global I.ok.kind hg (Calls.loadGlobal_builtin (by rw[Ω I.ok.glob aLP]) hm (by rw[Ω I.ok.blt (h1.keeps I.bk)]) (x6 (h2 x hn) hv) h) hd)]
def SG aPl aPP aQe aQ8(hg:aml)(hm:aB9=aaZ)(r:aji)aRB:aeM (ac6 x pos) (tC v) :=
 λ _ _ _ H _ I h=>v5 I hg hm ⟨v,H,I,r,h⟩ hd
variable {a b:Expr} {ta tb:TE} {pos:Pos}
variable {tA tB':TT} {rest:acU}
abbrev adG(t u:TT):TT:=age (t σ H (ado c (ahy c (u σ H1 Q) (apm false))))
abbrev tOr(t u:TT):TT:=age (t σ H (ado c (ahy c (apm true) (u σ H1 Q))))
abbrev adH(t:TT):TT:=age (t σ H (ado c (apm (! c))))
def SH(ha:aDj):aqP (ait .And [a] pos) tA:=by
 intro wh pins s σ H Q I h;refine isTrue_and (asW s H Q I h c e);cases c with
 | true=>exact isTrue_and_nil e
 | false=>exact e
def WR(ha:aDj):aqP (ait .Or [a] pos) tA:=by
 intro wh pins s σ H Q I h;refine isTrue_or (asW s H Q I h c e);cases c with
 | false=>exact isTrue_or_nil e
 | true=>exact e
def WS(ha:aDj)(hb:aqP (ait .And als pos) tB'):aqP (ait .And (a::als) pos) (adG tA tB'):=by
 intro wh pins s σ H Q I h;refine isTrue_and (asW s H _ I h c ⟨H1,I1,q1⟩);cases c with
 | true=>exact hb wh pins s1 σ H1 Q I1 q1
 | false=>rw[aas H1 I1 q1]
def ZS(ha:aDj)(hb:aqP (ait .Or als pos) tB'):aqP (ait .Or (a::als) pos) (tOr tA tB'):=by
 intro wh pins s σ H Q I h;refine isTrue_or (asW s H _ I h c ⟨H1,I1,q1⟩);cases c with
 | true=>rw[aas H1 I1 q1]
 | false=>exact hb wh pins s1 σ H1 Q I1 q1
def WT(ha:aDj):apl (aFn .Not a pos) (adH tA):=by
 intro pins s σ H Q I h;exact isTrue_not (ha pins s σ H (ado c (apm (! c))) I h)
abbrev ZT aUg:TE:=age (ta σ H (ado x (∃c,x=.bl c/\ahy c (tb σ H1 Q) (apm (aiU .bl)))))
abbrev adI aUg:TE:=age (ta σ H (ado x (∃c,x=.bl c/\ahy c (apm af4) (tb σ H1 Q))))
def WU{op}{t:TE}(h:aeM a t):aeM (ait op [a] pos) t:=λ pins s σ H Q I hw=>BoolOp_one (h pins s σ H Q I hw)
def WV(ha:aoV)(hb:aeM (ait .And als pos) tb):anP ait .And (a::als) (ZT ta tb):=by
 rw[ajK Q (BoolOp_and (asW s H _ I h v ⟨x,H1,I1,r1,q1⟩))];rw[adC c q1 q1];cases r1;refine wpAny_truthy_bool ?_;cases c with
 | true=>exact avX Q
 | false=>exact abS (aiU .bl) H1 I1 q1
def ZU(ha:aoV)(hb:aeM (ait .Or als pos) tb):anP ait .Or (a::als) (adI ta tb):=by
 rw[ajK Q (BoolOp_or (asW s H _ I h v ⟨x,H1,I1,r1,q1⟩))];rw[adC c q1 q1];cases r1;refine wpAny_truthy_bool ?_;cases c with
 | false=>exact avX Q
 | true=>exact abS af4 H1 I1 q1
abbrev tIf(t:TT)aUg:TE:=age (t σ H (ado c (ahy c (ta σ H1 Q) (tb σ H1 Q))))
def OI{c:Expr}(hc:apl c tA)aRC:aeM (.IfExp c a b pos) (tIf tA ta tb):=by
 rw[ajK Q (wpAny_IfExp (amN (hc pins s σ H _ I h) d ⟨H1,I1,q1⟩))];cases d with
 | true=>exact ha pins s1 σ H1 Q I1 q1
 | false=>exact avX Q
universe zE
universe L2
namespace L2
open PySem PySem.Spec PyProof.Rows
abbrev qB aPe aRQ aRw:Prop :=
 Rd H a (ς xs) ∨
  ∃(o:Obj) (bR:auX) (n:Nat),aJK=t9/\o.cls=apx /\ aaz o.dict/\ayZ (aif bR n)/\af6 bR.size/\Vals xs bR.toList
abbrev CV aPe aRQ aRw:Prop :=
 Rd H a (sT xs) ∨
  ∃(o:Obj) (bR:auX) (n:Nat),aJK=t9/\o.cls=arw /\ ayZ (aif bR n)/\af6 bR.size/\Vals xs bR.toList
abbrev adJ:apu ark
 | abc=>some .bb
 | ajF b=>abq .bl b
 | η i _=>akd
 | c7 x _=>abq c7 x
 | .bytes b _=>abq .Zu b
 | .float b _=>abq .Zv b
 | Δ a=>alO a
 | ad6 n=>abq .ty n
 | _=>none
def RelV.abs{x:V}aQe(r:atP):adJ u=aeU:=by
 cases x with
 | bb=>cases r; rfl
 | bl _=>cases r; rfl
 | int _=>rw[aib r];rfl
 | str _=>rw[aib r];rfl
 | Zu _=>rw[aib r];rfl
 | Zv _=>rw[aib r];rfl
 | ref _=>cases r; rfl
 | ty _=>cases r; rfl
def RelV.inj{x y:V}aQe(r:atP)(q:akG):x=y:=Option.some.inj (r.abs.symm.trans q.abs)
def Vals.inj:∀{xs ys:g9}aQM,alZ->auG ys->xs=ys
 | _,_,_,abO,abO=>rfl
 | _,_,_,aaP r t,aaP r' t'=>ag3 (r.inj r') (Vals.inj t t')
section
variable {X:Cx} {pins:KB} {σ:St} {H:Hp} {s:Shared} {a:Addr} {xs ys:g9}
def qB.of aPG(h:H a=agz):aqC:=b5 (b5 h)
def CV.of aPG(h:H a=al0):awI:=b5 (b5 h)
def Inv.list aPb(h:qB X.K H a xs):∃bR:x8,awh/\PlainL s.heap a bR.toArray/\asH:=by
 rcases h with h | ⟨o,bR,n,hk,hc,hd,hs,hz,r⟩
 ·rw[ae3 z bR n r e (h.ok I.cQ) ⟨bR,r,asi _ n e rfl rfl,z⟩]
 ·refine⟨bR.toList,r,⟨o,n,I.Gy a o hk,hc,hd,ayq⟩,?_⟩;have e:=r.length;simp only[Array.length_toList] at e;omega
def Inv.tuple aPb(h:CV X.K H a xs):∃bR:x8,awh/\aI4 a bR.toArray/\asH:=by
 rcases h with h | ⟨o,bR,n,hk,hc,hs,hz,r⟩
 ·rw[af7 z bR r p (h.ok I.cQ) ⟨bR,r,p,z⟩]
 ·refine⟨bR.toList,r,⟨o,I.Gy a o hk,hc,n,ayq⟩,?_⟩;have e:=r.length;simp only[Array.length_toList] at e;omega
def Inv.AM aPb(h:qB X.K H a xs)(h':qB X.K H a ys):xs=ys:=by
 obtain⟨bR,r,⟨o,n,e,_,_,d⟩,_⟩:=I.list h;obtain⟨its',r',⟨o',n',e',_,_,d'⟩,_⟩:=I.list h';rw[e] at e'; cases e';rw[d] at d'
 injection d' with d1 _
 have:bR=its':=aam (congrArg Array.toList d1)
 rw[aeq this (r.inj r')]
def Inv.Md aPb(h:CV X.K H a xs)(h':CV X.K H a ys):xs=ys:=by
 obtain⟨bR,r,⟨o,e,_,n,d⟩,_⟩:=I.tuple h;obtain⟨its',r',⟨o',e',_,n',d'⟩,_⟩:=I.tuple h';rw[e] at e'; cases e';rw[d] at d'
 injection d' with d1 _
 have:bR=its':=aam (congrArg Array.toList d1)
 rw[aeq this (r.inj r')]
universe zE
section
variable {X:Cx} {pins:KB} {σ:St} {H:Hp} {s:Shared} {E:abE}
universe zE
section
variable {X:Cx} {st:Stmt} {rest:ano} {t u:TS} {e:Expr} {te:TE} {pos:Pos}
abbrev ZV:TS:=anW (D.nx σ H)
abbrev ZW(t u:TS):TS:=anW (t { D with nx:=u D } σ H)
def SI:IM X [] ZV:=λ _ _ σ H _ I h=>aL3 σ H I h
def OJ(h1:awr t)(h2:IM X rest u):IM X (st::rest) (ZW t u):=by
 rw[ajK D (wpAny_execs_cons (amN (h1 pins s σ H { D with nx:=u D } I h) f q))];cases f with
 | next =>
  rw[auU σ' H' I' q q (h2 pins s1 σ' H' D I' q)]
 | ret v=>exact q
 | brk=>exact q
 | cont=>exact q
def SJ(h1:awr t):IM X [st] t:=by
 rw[ajK D (wpAny_execs_cons (amN (h1 pins s σ H D I h) f q))];cases f with
 | next=>exact wpAny_execs_nil q
 | ret v=>exact q
 | brk=>exact q
 | cont=>exact q
def Inv.quiet aQG aPb:acS (interactive X.env):=afr interactive I.ok.kind
abbrev ZX aSl:TS:=anW (te σ H (ado _ (D.nx σ H1)))
def SK aSM aWn:PS X (.Expr e pos) (ZX te):=by
 intro pins s σ H D I h;exact wpAny_Expr_any (agj (he pins s σ H _ I h) v s1 ⟨x,H1,I1,r1,q1⟩ ⟨σ,H1,I1,q1⟩) I.quiet hs
abbrev adK aSl:TS:=anW (te σ H D.rt)
def WW aSM:PS X (.Return aGC pos) (adK te):=by
 intro pins s σ H D I h;exact wpAny_Return_some (agj (he pins s σ H _ I h) v s1 ⟨x,H1,I1,r1,q1⟩ ⟨x,σ,H1,I1,r1,q1⟩)
abbrev adL(c:TT)(t u:TS):TS:=anW (c σ H (ado b (ahy b (t D σ H1) (u D σ H1))))
def ZY{c:Expr}{a b:ano}{tc:TT}(hc:apl c tc)(ha:IM X a t)(hb:IM X b u):PS X (.If c a b pos) (adL tc t u):=by
 rw[ajK D (wpAny_If (amN (hc pins s σ H _ I h) d ⟨H1,I1,q1⟩))];cases d with
 | true=>exact ha pins s1 σ H1 D I1 q1
 | false=>exact avX D
universe zE
noncomputable abbrev TG:=V->St->Hp->aqJ aph
noncomputable abbrev SM:=g9->St->Hp->aqJ aph
abbrev PG aPq(target:Expr)(t:TG):Prop :=
 ∀aPR(v:V)aQ7(Q:aph),ahX aji (t v σ H Q →
  adT (aI7 target u) (λ _ s'=>∃ σ' H',aua/\aGg) s)
abbrev Sj aPq(ts:acU)(t:SM):Prop :=
 ∀aPR aQY aQL(Q:aph),ahX avL (t vs σ H Q →
  adT (assignInOrder (anz (aw8 ts).map) us) (λ _ s'=>∃ σ' H',aua/\aGg) s)
noncomputable abbrev SN:=V->V->V->Hp->aqJ asw
abbrev IP aPq(t:SN):Prop :=
 ∀aPR(o i v:V)(ov iv u:Value)(Q:asw),ahX (RelV o ov) (RelV i iv->aji->t o i v H Q →
  adT (setItem ov iv u) (λ _ s'=>∃H',avP/\Q H') s)
section
variable {X:Cx} {pos:Pos}
abbrev KG aPs:TG:=λ v σ H Q=>Q aGu H
def SO aPt aPl aRi aTJ aSt:PG X (ac6 x pos) (KG i):=by
 intro pins s σ H v u Q I r h;exact wpAny_assign_Name (v3 I hN hi hx r (λ s' I'=>⟨_,H,I',h⟩) hf)
abbrev adM:SM:=λ vs σ H Q=>vs=[]/\Q σ H
abbrev ZZ(t:TG)(u:SM):SM:=λ vs σ H Q=>∃v r,vs=v::r/\t v σ H (awY σ' (u r σ' H' Q))
def SQ:Sj X [] adM:=by
 intro pins s σ H vs us Q I r h;obtain⟨e,h⟩:=h;subst e;cases r;exact assignInOrder_nil ⟨σ,H,I,h⟩
def OK aQ9{es:acU}{t:TG}{u:SM}(h1:PG X e t)(h2:Sj X es u)
  aVA:Sj X (e::es) (ZZ t u):=by
 intro pins s σ H vs us Q I r h;obtain⟨v,vr,e1,h⟩:=h;subst e1;cases r with
 | cons r rr =>
  rw[hs];rw[ans (assignInOrder_cons (amN (h1 pins s σ H _ _ _ I r h) _ ⟨σ1,H1,I1,q1⟩)) (h2 pins s1 σ1 H1 _ _ Q I1 rr q1)]
abbrev adN aPe aPf(t:SM):TG:=λ v σ H Q=>∃a xs,v=Δ a/\awI/\aA1 n/\t xs σ H Q
def WX{es:acU}aPg{t:SM}aPa aQU(h:Sj X es t)
  aVv:PG X (ats es k pos) (adN X.K n t):=by
 intro pins s σ H v u Q I r hw;obtain⟨a,xs,e1,hq,hl,hw⟩:=hw;subst e1;cases r;rw[agg rv ht hz (I.tuple hq)];rw[aiQ (assign_Tuple_tuple (I.ok.hd hc) ht (by simp[hn,← hl,rv.length]) Gz (acO h' hx)) I1 (afn H (alc s)) (I.kept (t':=s.toks) (anZ (hx b o (ajp akO) e)))];exact h pins _ σ H xs _ Q I1 (aam rv) hw
abbrev adO(to ti:TE)(t:SN):TG:=λ v σ H Q=>to σ H (ado o (ti σ H1 (aiE i (t o i v H2 λ H3=>Q σ H3))))
def WY{o i:Expr}{to ti:TE}{t:SN}(ho:aCt)(hi:aeM i ti)(hs:IP X t)
  (ha:∀v,aI7 (amz o i pos) v=(do
   let ov ← aor [v] ahj
   let iv ← aor [v,ov] (ahr i)
   standAt pos
   aor [v,ov,iv] (setItem ov iv v)
   release [v,ov,iv] []):=by rw[ar5]):PG X (amz o i pos) (adO to ti t):=by
 intro pins s σ H v u Q I r h;rw[ha];rw[afQ (aLZ (ap2 (ho pins s σ H _ I h) ov x)) (aLZ (ahw (hi pins s1 σ H1 _ I1 q1) iv s2 ⟨y,H2,I2,r2,q2⟩))];rw[ans (aL0 (aLZ (ahw (hs pins s2 σ H2 x y v ov iv u _ I2 r1 r2 r q2) _ s3 ⟨H3,I3,q3⟩))) (wpAny_release ⟨σ,H3,I3,q3⟩)]
abbrev WZ aSl(g:TG):TS:=anW (te σ H (ado x (g x σ H1 D.nx)))
def OL{tg e:Expr}{te:TE}{g:TG}aSM(hg:PG X tg g)aVn
  aVM:PS X (aoy [tg] e pos) (WZ te g):=by
 rw[ajK D (wpAny_Assign_stores (ap2 (he pins s σ H _ I h) v x) hs hw)];rw[Ω h1 (agj (hg pins s1 σ H1 x v _ I1 r1 q1) _ s2 q q)]
def W3 aPt aPl aQ9{te:TE}{pos':Pos}aRi aTJ aSM aVP aSt :
  PS X (aoy [ac6 x pos'] e pos) (WZ te (KG i)):=by
 rw[ajK D (wpAny_Assign_Name (ap2 (he pins s σ H _ I h) v y) hs)];exact v3 I1 hN hi hx r1 (λ s2 I2=>⟨_,H1,I2,q1⟩) hf
universe zE
section
variable {X:Cx} {pos:Pos}
universe zE
structure It where
 go:ali asw
 yld:aoK Hp aC9
 stop:ali asw
abbrev zr aTB aPC(b:Addr):Prop :=
 ahn/\atQ/\awp b/\(b∈X.ex\/auC b)/\(∀x c,al7->c≠b)/\afz aqI (p.1≠b)
def Inv.Ez aPE aRK{σ:St}{H H':Hp}aPK{b:Addr}aPb(hb:aMd b)(hn:ak4 b):zr X pins H' b:=by
 refine⟨hn,Nat.ne_of_gt (Nat.lt_of_lt_of_le I.lt hb),I.adB hb,c6 (Nat.le_trans I.sz hb),acI x c e z,IL p hp z⟩
 ·rw[aeO v q (I.cell x c e) (axZ (Nat.lt_of_lt_of_le q.lt (by rw[Ω z hb])) aAi)]
 ·rw[akK (aAc ayG.1 (by rw[Ω z hb])) aAi]
structure Turn aQO aPe(tg:Expr)(J:It)(fp:d8)(it:Addr)(tn:ali axW):Prop where
 mem:it∈fp
 obj:∀i h,tn i h->∀b∈fp,∃o,ajx=t9/\∀v,o.data≠ai8 v
 keep:∀i h h',tn i h->(∀b∈fp,∀o,ajx=t9->ahZ=t9)->tn i h'
 item:∀aPq,X.prog=P->X.w=w->X.K=K->ah1->∀aPs aPR(E:abE),ahX aud (aKc i->J.go i H →
  afe (model P w) X.A (pyNext (Δ it)) (λ r s1=>∃u,r=aaZ ∧
   ajV (model P w) X.A (letOwnedTupleGo tg (Δ it) u) (abf s2 (∃x H',aAP s2/\atP/\J.yld i H x H'/\tn (i+1) s2.heap/\∀b∈fp,ak4 b)) E s1) E)
 done:∀aPq,X.prog=P->X.w=w->X.K=K->ah1->∀aPs aPR(E:abE),ahX aud (aKc i->J.stop i H →
  afe (model P w) X.A (pyNext (Δ it)) (λ r s1=>aaz r/\afn H s1) E)
 self:∀(A:Around)aPs aPF aS5,aKc i->Q (Δ it) s->afe (model P w) A (pyIter (Δ it)) Q E
noncomputable abbrev TI:=St->Hp->aqJ (ajo It)
abbrev PIE aT6(tg:Expr)(R:ajo It)(itv:Value)(s2:Shared):Prop :=
 ∃(it:Addr) (fp:d8) (tn:ali axW) (J:It) (H':Hp),itv=Δ it/\aAP s2/\Turn X.prog X.w X.K tg J fp it tn/\tn 0 s2.heap/\(∀b∈fp,zr X pins H' b)/\R J H'
abbrev PI aPq(tg iter:Expr)(wi:TI):Prop :=
 ∀aPR(R:ajo It),OA->wi σ H R →
  adT (ahr iter) (λ v s1=>adT (pyIter v) (PIE X pins σ tg R) s1) s
def Dy aTV aPK{tg:Expr}{it:Addr}aQe{o:Obj}{n:String}{vs:auX}{Q:awX}(ho:s.heap.get? it=t9)(hc:o.cls=ad6 n)(hd:ayZ (ahe vs))
    (hn:acS (["enumerate", "zip", "dict_itemiterator", "dict_reverseitemiterator", "odict_iterator", "itertools.zip_longest", "itertools.pairwise"].contains n))(hQ:Q () s):afe M A (letOwnedTupleGo tg (Δ it) u) Q E:=by
  unfold letOwnedTupleGo
  cases tg<;>first
    | rw[aEt hQ]
    | (cases u<;>first
        | rw[aEt hQ]
        | (refine afE (wpAny_load ho ?_)
           rw[hc, hd];show afe M A (ahy (["enumerate", "zip", "dict_itemiterator", "dict_reverseitemiterator", "odict_iterator", "itertools.zip_longest", "itertools.pairwise"].contains n && vs[0]? == f7 (rawInt _)) _ _) Q E
           rw[Ω (an7 (by intro h; rw[hn, Bool.false_and] at h; cases h)) (wpAny_pure hQ)]))
abbrev Itl aPe aP3:It :=
 ⟨λ i H=>∃xs x,aqC/\anF,λ i H x H'=>H'=H/\∀xs,aqC->anF,λ i H=>∃xs,aqC/\aCO⟩
abbrev Itt aPe aP3:It :=
 ⟨λ i H=>∃xs x,awI/\anF,λ i H x H'=>H'=H/\∀xs,awI->anF,λ i H=>∃xs,awI/\aCO⟩
abbrev Z0 aTX:It:=⟨λ i _=>i<n,λ i H x H'=>H'=H/\x=η (lo+i),λ i _=>n≤i⟩
def Mf aQQ aSY:azY (Itl K a) (aqO (h.IsListIter it a i)) where
 mem:=Ξ
 obj:=λ i h st b hb=>by
  have e:b=it:=ah7
  subst e
  rw[af7 o e c d st ⟨o,e,λ v z=>by rw[d] at z; cases z⟩]
 keep:=λ i h h' st k=>st.at λ o e=>atI o e
 item:=by
  intro X hP hw hK hc i pins s σ H E I hf st hg;subst hP hw hK;obtain⟨xs,x,hq,hx⟩:=hg;rw[agg rv p hz (I.list hq)];obtain⟨u,hu,ru⟩:=rv.get hx;obtain⟨f0,f1,f2,f3,f4,f5⟩:=hf it Ξ;rw[aiQ (wpAny_pyNext_list_item st p.isList (x:=u) aGL aHs) I1 (afn H (alc s)) (I.turned (t':=s.toks) (λ b o hb e=>x6 (sb.2 b hb) e) f0 f1 f3 f4 f5)];rw[af7 o e c d (id Dz) (ad5 u (Dy (s:=alc s) e c d d7 ⟨x,H,I1,ru,aju (ao1 ys (by rw[Ω (I.AM hy hq) hx])),Dz,ayR⟩))]
 done:=by
  intro X hP hw hK hc i pins s σ H E I hf st hg;subst hP hw hK;obtain⟨xs,hq,hx⟩:=hg;rw[agg rv p hz (I.list hq)];obtain⟨f0,f1,f2,f3,f4,f5⟩:=hf it Ξ;rw[alU hl rv.length (wpAny_pyNext_list_end (I.ok.hd hc) st p.isList (by rw[afo]) azP)]
 self:=λ _ _ _ _ _ st h=>wpAny_pyIter_listiter st h
def IQ aQQ aSY:azY (Itt K a) (aqO (h.IsTupleIter it a i)) where
 mem:=Ξ
 obj:=λ i h st b hb=>by
  have e:b=it:=ah7
  subst e
  rw[af7 o e c d st ⟨o,e,λ v z=>by rw[d] at z; cases z⟩]
 keep:=λ i h h' st k=>st.at λ o e=>atI o e
 item:=by
  intro X hP hw hK hc i pins s σ H E I hf st hg;subst hP hw hK;obtain⟨xs,x,hq,hx⟩:=hg;rw[agg rv p hz (I.tuple hq)];obtain⟨u,hu,ru⟩:=rv.get hx
  obtain⟨f0,f1,f2,f3,f4,f5⟩:=hf it Ξ
  rw[aiQ (wpAny_pyNext_tuple_item st (show s.heap.IsTuple a bR.toArray from p) (x:=u) aGL aHs) I1 (afn H (alc s)) (I.turned (t':=s.toks) (λ b o hb e=>x6 (sb.2 b hb) e) f0 f1 f3 f4 f5)];rw[af7 o e c d (id Dz) (ad5 u (Dy (s:=alc s) e c d d7 ⟨x,H,I1,ru,aju (ao1 ys (by rw[Ω (I.Md hy hq) hx])),Dz,ayR⟩))]
 done:=by
  intro X hP hw hK hc i pins s σ H E I hf st hg;subst hP hw hK;obtain⟨xs,hq,hx⟩:=hg;rw[agg rv p hz (I.tuple hq)];obtain⟨f0,f1,f2,f3,f4,f5⟩:=hf it Ξ;rw[alU hl rv.length (wpAny_pyNext_tuple_end (I.ok.hd hc) st (show s.heap.IsTuple a bR.toArray from p) (by rw[afo]) azP)]
 self:=λ _ _ _ _ _ st h=>wpAny_pyIter_tupleiter st h
def IS aQQ{tg:Expr}(it:Addr)aTX:azY (Z0 lo n) (aqO (IsRangeIter h it (lo+afN i*1) (afA-afN i) 1)) where
 mem:=Ξ
 obj:=λ i h st b hb=>by
  have e:b=it:=ah7
  subst e
  rw[aas _ st (λ v z=>by
   have z':Data.fields _=Data.cell v:=z
   cases z')]
 keep:=λ i h h' st k=>atI _ st
 item:=by
  intro X hP hw hK hc i pins s σ H E I hf st hg;subst hP hw hK;obtain⟨f0,f1,f2,f3,f4,f5⟩:=hf it Ξ;rw[aaA W (Walks.range (prog:=X.prog) (w:=X.w) (I.ok.hd hc) it lo 1 n) (W.item i s _ _ hg st (aiA v h' tk hv Dz kk))];rw[aib hv];rw[ah8 I1 (afn H (air s h' tk)) (I.turned (λ b o hb e=>kk b o ah7 e) f0 f1 f3 f4 f5) (arS (Dy (s:=air s h' tk) (n := "range_iterator") Dz rfl rfl d7 ⟨η (lo+i),H,I1,aiS t,aiI rfl,Dz,ayR⟩))];rw[Int.mul_one]
 done:=by
  intro X hP hw hK hc i pins s σ H E I hf st hg;subst hP hw hK;obtain⟨f0,f1,f2,f3,f4,f5⟩:=hf it Ξ;exact wpAny_pyNext_range_end (I.ok.hd hc) st (by have:n≤i:=hg;omega) azP
 self:=λ _ _ _ _ _ st h=>wpAny_pyIter_rangeiter st h
universe L2
namespace L2
open PySem PySem.Spec PyProof.Rows
section
variable {X:Cx} {tg:Expr}
abbrev Z1 aPe(tl:TE):TI:=λ σ H R=>tl σ H (ado x (∃a,x=Δ a/\(∃xs,qB K H1 a xs)/\R (Itl K a) H1))
abbrev adQ aPe(tl:TE):TI:=λ σ H R=>tl σ H (ado x (∃a,x=Δ a/\(∃xs,CV K H1 a xs)/\R (Itt K a) H1))
def SR{l:Expr}{tl:TE}(hl:aeM l tl):PI X tg l (Z1 X.K tl):=by
 rw[ajK R (ap2 (hl pins s σ H _ I h) v x)];obtain⟨a,e,⟨xs,hq⟩,q⟩:=q1
 subst e;cases r1;rw[agg rv p hz (I1.list hq)];refine wpAny_pyIter_list p.isList ?_
 refine⟨s1.heap.objs.size,aIl,_,_,H1,rfl,I1.kept (t':=s1.toks) λ b o e=>agH e,Mf a _,azH,ajj,q⟩
 have e:b=s1.heap.objs.size:=ah7
 rw[aeq e (I1.Ez acT avv)]
def W4{l:Expr}{tl:TE}(hl:aeM l tl):PI X tg l (adQ X.K tl):=by
 rw[ajK R (ap2 (hl pins s σ H _ I h) v x)];obtain⟨a,e,⟨xs,hq⟩,q⟩:=q1
 subst e;cases r1;rw[agg rv p hz (I1.tuple hq)];refine wpAny_pyIter_tuple (show s1.heap.IsTuple a bR.toArray from p) ?_
 refine⟨s1.heap.objs.size,aIl,_,_,H1,rfl,I1.kept (t':=s1.toks) λ b o e=>agH e,IQ a _,azH,ajj,q⟩
 have e:b=s1.heap.objs.size:=ah7
 rw[aeq e (I1.Ez acT avv)]
def GA aQG{R:ajo It}{E:abE}{lo hi:Int}{t u v:Tok}{tk:Nat}aPb(h1 : auy lo)(h2:lo<am9)(h3 : auy hi)(h4:hi<am9)
  (q:R (Z0 lo (aiF (hi-lo))) H):ajV (model X.prog X.w) X.A (pyIter ajA) (PIE X pins σ tg R) E (air s (s.heap.push { cls:=ad6 "range",data:=ahe #[η lo t,η hi u,η 1 v] }) tk):=by
 rw[aiQ (wpAny_pyIter_range (IsRange.new ..) (small_one h1 h2 h3 h4) ?_) I1 (afn H (air s (s.heap.push { cls:=ad6 "range",data:=ahe #[η lo t,η hi u,η 1 v] }) tk)) (I.kept λ b o e=>agH e)]
 refine⟨(s.heap.push { cls:=ad6 "range",data:=ahe #[η lo t,η hi u,η 1 v] }).objs.size,[(s.heap.push { cls:=ad6 "range",data:=ahe #[η lo t,η hi u,η 1 v] }).objs.size],_,_,H,rfl,
  I1.kept (t':=tk) λ b o e=>agH e,IS _ lo (aiF (hi-lo)),?_,ajj,q⟩
 ·rw[d6 e1 (lo+at5*1=lo) Ξ e2 (afW (aiF (hi-lo))-at5=Builtin.Range.rangeSize lo hi 1) (by rw[rangeSize_one]; split<;>omega)]
  show IsRangeIter _ _ (lo+at5*1) (afW (aiF (hi-lo))-at5) 1;rw[ae0 e1 e2 azc]
 ·have e:b=(s.heap.push { cls:=ad6 "range",data:=ahe #[η lo t,η hi u,η 1 v] }).objs.size:=ah7
  rw[aeq e (I1.Ez acT avv)]
abbrev Z2(ta:TA):TI:=λ σ H R=>ta σ H (ado vs (∃j:Int,vs=[η j] /\ auy j/\j<am9/\R (Z0 0 j.toNat) H1))
abbrev Z3(ta:TA):TI:=λ σ H R=>ta σ H (ado vs (∃i j:Int,vs=[η i,η j]/\(auy i/\i<am9 /\ auy j/\j<am9)/\R (Z0 i (aiF (j-i))) H1))
def Mg{a:Expr}{ta:TA}{p pos:Pos}(hg:aJJ X)(hm:aJy)(ha:PA X [a] ta)aTz:PI X tg (afy (ac6 "range" p) [a] [] pos) (Z2 ta):=by
 rw[ajK R (Call_ (xE I hg hm boot_range (aDO (ap2 (ha pos pins s σ H _ I h) us vs) hs rfl)))];obtain⟨j,e,q1,q2,q⟩:=q1;subst e;cases r1 with
 | cons r rr =>
  cases rr;rw[aeO t rfl r (call_range_1 (GA I1 b6 b6 q1 q2 (aam q)))]
def Mh{a b:Expr}{ta:TA}{p pos:Pos}(hg:aJJ X)(hm:aJy)(ha:PA X [a,b] ta)aVt :
  PI X tg (afy (ac6 "range" p) [a,b] [] pos) (Z3 ta):=by
 rw[ajK R (Call_ (xE I hg hm boot_range (aDO (ap2 (ha pos pins s σ H _ I h) us vs) (ag3 hs Mi) (by rw[acR Mi]))))];obtain⟨i,j,e,⟨q1,q2,q3,q4⟩,q⟩:=q1;subst e;cases r1 with
 | cons r rr =>
  cases rr with
  | cons r' rr =>
   cases rr;rw[aib r];rw[aeO t' rfl r' (call_range_2 (GA I1 q1 q2 q3 q4 q))]
abbrev adR(wi:TI)(g:TG)(tb:TS):TS:=anW (wi σ H (ado J (∃W:ali (aoK St asw),(∃m,W 0 m σ H1)/\∀i m σ H,W i m σ H →
 (J.stop i H/\D.nx σ H)\/(J.go i H/\∃N:aph,(∀ σ' H',N σ' H'->∃m',m'<m/\W (i+1) m' σ' H')/\∀x H',J.yld i H x H'->g x σ H' (aiE σ2 (tb { D with nx:=N,ct:=N,bk:=D.nx } σ2 H2))))))
abbrev AN(fp:d8)aQT:KB:=fp.filterMap λ b=>ag8 (ajx).map o (b,o)
def rg aRc aQk aSB(hb:b∈fp)(e:ajx=t9):(b,o)∈AN fp h:=List.mem_filterMap.mpr ⟨b,hb,by rw[acR e]⟩
def Mj aRc aQk{p:Addr×Obj}(hp:p∈AN fp h):p.1∈fp/\aof p.1 p.2:=by
 rw[aA6 b hb (List.mem_filterMap.mp hp)];cases q:ajx with
 | none=>rw[q] at e; cases e
 | some o =>
  rw[q] at e;have e':(b,o)=p:=aMg;subst e';rw[aaX hb q]
def Inv.pinned aQG aRc aTd(ho:∀b∈fp,∃o,afB=t9/\∀v,o.data≠ai8 v):Inv X (pins++AN fp s.heap) σ H s :=
 I.KD (ahT ((aH7).elim (acZ (I.pin p (aqU z))) (acZ (by
  rw[amD hb (Mj z)];obtain⟨f0,f1,f2,_⟩:=hf p.1 hb;rw[aI2 o e' d (ho p.1 hb) e e']; cases e';exact⟨e,f0,f1,f2,d⟩))))
def Inv.v7{pins pl:KB}aQy aPK(I:Inv X (pins++pl) σ H s):OA:=I.KD (ahT (I.pin p (aqU (aLJ hp))))
def W5{iter:Expr}{body:ano}{wi:TI}{g:TG}{tb:TS}aQ8 aVx(hi:PI X tg iter wi)(hg:PG X tg g)(hb:IM X body tb)
  aSu:PS X (.For tg iter body [] pos) (adR wi g tb):=by
 rw[ajK D (wpAny_For (agj (hi pins s σ H _ I h) v s1 h1 (ahw h1 itv s2 h2)) hs)];obtain⟨it,fp,tn,J,H2,e,I2,T,Z4,f2,W,⟨m0,w0⟩,turn⟩:=h2;subst e;rw[acH IT (∀{H':Hp},(∀b∈fp,ak4 b)->∀b∈fp,zr X pins H' b) (λ hn b hb=>⟨hn b hb,(f2 b hb).2⟩) (codeAny_forLoop_any (λ n s'=>∃i σ' H',aua/\tn i s'.heap/\(∀b∈fp,ak4 b)/\W i n σ' H') ?_ m0 ⟨0,σ,H2,I2,Z4,aqp (f2 b hb).1,w0⟩)];rintro n s3 ⟨i,σ3,H3,I3,Z5,Z6,w3⟩;rcases turn i n σ3 H3 w3 with⟨stop,qn⟩ | ⟨go,N,hN,step⟩
 ·refine aD6 (ahw (T.done X rfl rfl rfl hc i pins s3 σ3 H3 X.xe I3 (IT Z6) Z5 stop) r s4 ⟨hr,I4⟩);rw[aeq hr (aL3 σ3 H3 I4 qn)]
 ·refine aD6 (ahw (T.item X rfl rfl rfl hc i pins s3 σ3 H3 X.xe I3 (IT Z6) Z5 go) r s4 ⟨u,hr,h4⟩)
  subst hr
  refine aD6 (ahw h4 _ s5 ⟨x,H5,I5,r5,y5,W6,fr5⟩);rw[aaA I5' (I5.pinned (IT fr5) (T.obj _ _ W6)) (aD6 (ahw (hg _ s5 σ3 H5 x u _ I5' r5 (step x H5 y5)) _ s6 ⟨σ6,H6,I6,q6⟩))];rw[aiQ (aD6 (ahw (hb _ s6 σ6 H6 _ I6 q6) f s7 q7)) again (∀{σ7:St}{H7:Hp},Inv X (pins++AN fp s5.heap) σ7 H7 s7->N σ7 H7->∃m,m<n/\∃i σ' H',aw2 X σ' H' s7/\tn i s7.heap/\(∀b∈fp,ak4 b)/\W i m σ' H') (λ{σ7 H7} I7 n7=>by
   rw[ajq m' hm w7 (hN σ7 H7 n7) ⟨m',hm,i+1,σ7,H7,I7.v7,T.keep _ _ _ W6 λ b hb o e=>(I7.pin (b,o) (aqU (aqU (rg hb e)))).1,ajj,w7⟩];rw[aHP o e d (T.obj _ _ W6 b hb) (I7.pin (b,o) (aqU (aqU (rg hb e)))).2.1])]
  cases f with
  | next=>rw[auU σ7 H7 I7 n7 q7 (again I7 n7)]
  | cont=>rw[auU σ7 H7 I7 n7 q7 (again I7 n7)]
  | brk=>rw[af7 σ7 H7 I7 q7 q7 ⟨σ7,H7,I7.v7,q7⟩]
  | ret v=>obtain⟨x7,σ7,H7,I7,r7,q7⟩:=q7; exact⟨x7,σ7,H7,I7.v7,r7,q7⟩
universe zE
universe L2
namespace L2
open PySem PySem.Spec PyProof.Rows
noncomputable abbrev R2:=V->aDn
abbrev nO aPq(f:ax9)(r:R2):Prop :=
 ∀aPR(x y:V)(v u:Value)aQD,ahX (RelV x v) (akG->r x y H Q →
  adT (f v u) (EP X pins σ Q) s)
abbrev UnR aPq(f:apu aEc)(r:aDn):Prop :=
 ∀aTo aSJ aQD,ahX (RelV x v) (r x H Q →
  adT (f v) (EP X pins σ Q) s)
abbrev ir aPq(f:Value)(r:ajT):Prop :=
 ∀aPR aRw aQL aQD,ahX alZ (r xs H Q →
  adT (call f us) (EP X pins σ Q) s)
abbrev adV aPq(r:V->Hp->aqJ atJ):Prop :=
 ∀aTo aSJ(Q:atJ),ahX (RelV x v) (r x H Q →
  adT (truthy v) (TP X pins σ Q) s)
abbrev Z7(r:R2)aUg:TE:=age (ta σ H (ado x (tb σ H1 (aiE y (r x y H2 Q)))))
abbrev tUn(r:aDn)(ta:TE):TE:=age (ta σ H (ado x (r x H1 Q)))
abbrev rI(C:Int->ad9 Int)(g:aum V):R2:=am8 (∃i j,x=η i/\y=η j/\C i j/\Q (g i j) H)
abbrev VM(g:aum V):R2:=am8 (∃i j,x=η i/\y=η j/\Q (g i j) H)
abbrev rU(g:Int->V):aDn:=λ x H Q=>∃i,x=η i/\Q (g i) H
section
variable {X:Cx} {a b c:Expr} {ta tb tc:TE} {pos:Pos}
def W7 aRC aRK aPK aQy{R:V->aC9}aPb
  aVG aPN{f:ax9}
  aVr :
  adT (ahr a) (λ v s₁=>adT (ahr b) (λ u s₂=>adT (f v u) Q s₂) s₁) s:=by
 rw[afQ (asW s H _ I h v ⟨x,H1,I1,r1,q1⟩) (ahw (avX _) u s2 ⟨y,H2,I2,r2,q2⟩)];exact hf v u s2 x y H2 I2 r1 r2 q2
def Z8{op:Operator}{r:R2}(ho:nO X (binaryOp op) r)aRC:aeM (.BinOp a op b pos) (Z7 r ta tb):=by
 intro pins s σ H Q I h;exact wpAny_BinOp (W7 ha hb I h λ v u s2 x y H2 I2 rx ry q=>ho pins s2 σ H2 x y v u Q I2 rx ry q)
def Z9{op:UnaryOp}{r:aDn}(ho:UnR X (unaryOp op) r)(ha:aoV):anP aFn op a (tUn r ta):=by
 intro pins s σ H Q I h;exact UnaryOp_ (agj (ha pins s σ H _ I h) v s1 ⟨x,H1,I1,r1,q1⟩ (ho pins s1 σ H1 x v Q I1 r1 q1))
def opI{f:ax9}{C:Int->ad9 Int}{g:aum Int}
  (rule:∀aUR aPF aS5,C i j->Q (aB7 (g i j)) { s with toks:=s.toks+1 }->afe (model X.prog X.w) X.A (f (η i t) (η j u)) Q E) :
  at1 (rI C λ i j=>η (g i j)):=by
 intro pins s σ H x y v u Q I rx ry h;obtain⟨i,j,rfl,rfl,hc,q⟩:=h;rw[aib rx];rw[aeO t' rfl ry (rule i j t t' s _ _ hc ⟨η (g i j),H,I.tok _,acV,q⟩)]
def aaa{f:ax9}{g:aum Int}
  (rule:∀aUR aPF aS5,Q (aB7 (g i j)) { s with toks:=s.toks+1 }->afe (model X.prog X.w) X.A (f (η i t) (η j u)) Q E) :
  at1 (VM λ i j=>η (g i j)):=by
 intro pins s σ H x y v u Q I rx ry h;rw[anJ i j rfl h];rw[aib rx];rw[aeO t' rfl ry (rule i j t t' s _ _ ⟨η (g i j),H,I.tok _,acV,q⟩)]
def SS{f:ax9}{g:aGz}
  (rule:∀aUR aPF aS5,Q (ajF (g i j)) s->afe (model X.prog X.w) X.A (f (η i t) (η j u)) Q E) :
  at1 (VM λ i j=>.bl (g i j)):=by
 intro pins s σ H x y v u Q I rx ry h;rw[anJ i j rfl h];rw[aib rx];rw[aeO t' rfl ry (rule i j t t' s _ _ (asb .bl (g i j) q))]
abbrev adX(i j:Int):Prop:=0<j/\aAQ j
abbrev W8(i j:Int):Prop:=(-(2 ^ 64)<i/\i<2 ^ 64)\/(-(2 ^ 64)<j/\j<2 ^ 64)
def W8.ok{i j:Int}(h:W8 i j):IntMulOk i j:=by
 rcases h with⟨h1,h2⟩ | ⟨h1,h2⟩
 ·exact .of_left (intBits_le_64 h1 h2)
 ·exact .of_right (intBits_le_64 h1 h2)
def W9:anv Add (VM λ i j=>η (i+j)):=aaa λ _ _ _ _ _ _ _ q=>add_int q
def Xa:anv Sub (VM λ i j=>η (i-j)):=aaa λ _ _ _ _ _ _ _ q=>sub_int q
def Xb:anv Mult (rI W8 λ i j=>η (i*j)):=opI λ _ _ _ _ _ _ _ hc q=>mul_int q hc.ok
def SU:anv FloorDiv (rI adX λ i j=>η (i / j)):=opI λ i j _ _ _ _ _ hc q=>by
 rw[d6 h1 (atX<j) hc.1 h2 (aAQ j) hc.2];exact floordiv_int b6 (by rw[Ω (Int.fdiv_eq_ediv_of_nonneg i b6) q]) (b5 (PyProof.noPylong_small b6))
def Xd:anv Mod (rI (abf j (0<j)) λ i j=>η (i%j)):=opI λ i j _ _ _ _ _ hc q=>by
 rw[akc h1 (atX<j) hc (mod_int' b6 (by rw[Ω (Int.fmod_eq_emod_of_nonneg i b6) q]))]
def unI{f:apu aEc}{g:Int->Int}
  (rule:∀aP0(t:Tok)aPF aS5,Q (aB7 (g i)) { s with toks:=s.toks+1 }->afe (model X.prog X.w) X.A (f (η i t)) Q E) :
  UnR X f (rU λ i=>η (g i)):=by
 intro pins s σ H x v Q I rx h;rw[adC i q h];rw[aeO t rfl rx (rule i t s _ _ ⟨η (g i),H,I.tok _,acV,q⟩)]
def Xe:UnR X (unaryOp .USub) (rU λ i=>η (-i)):=unI λ _ _ _ _ _ q=>neg_int q
universe zE
section
variable {X:Cx} {a b c:Expr} {ta tb tc:TE} {pos:Pos}
def OM aQG aP2{k k':Bool}aPb(q:Q (.bl k) H)(e:k=k'):EP X pins σ Q (ajF k') s:=by
 subst e;exact asb .bl k q
def aab:nO X (compareOp .Lt) (VM λ i j=>.bl (an2 i j)):=SS λ _ _ _ _ _ _ _ q=>lt_int q
def aac:nO X (compareOp .LtE) (VM λ i j=>.bl (arL i j)):=SS λ _ _ _ _ _ _ _ q=>le_int q
def aad:nO X (compareOp .Gt) (VM λ i j=>.bl (an2 j i)):=SS λ _ _ _ _ _ _ _ q=>gt_int q
def aae:nO X (compareOp .GtE) (VM λ i j=>.bl (arL j i)):=SS λ _ _ _ _ _ _ _ q=>ge_int q
def Xf:nO X (compareOp .Is) (am8 (y=.bb/\Q (.bl (afJ x .bb)) H)):=by
 intro pins s σ H x y v u Q I rx ry h;rw[au1 q h];cases ry;refine is_none_gen (OM I q ?_)
 cases x<;>first
  | (cases rx; rfl)
  | (rw[aib rx];rfl)
def SV:nO X (compareOp .IsNot) (am8 (y=.bb/\Q (.bl (!(afJ x .bb))) H)):=by
 intro pins s σ H x y v u Q I rx ry h;rw[au1 q h];cases ry;refine isnot_none_gen (OM I q ?_)
 cases x<;>first
  | (cases rx; rfl)
  | (rw[aib rx];rfl)
def nO.or{f:ax9}{r r':R2}(h:at1 r)(h':at1 r'):at1 (am8 (r x y H Q\/r' x y H Q)):=by
 intro pins s σ H x y v u Q I rx ry q;rcases q with q | q
 ·exact h pins s σ H x y v u Q I rx ry q
 ·exact h' pins s σ H x y v u Q I rx ry q
def adY(b:Expr)aSI(h:op≠.In:=by decide)(h2:op≠.NotIn:=by decide):aDg:=by
 rw[d6 e1 (ard op CmpOp.In) (by cases op<;>first | rfl | rw[ath h]) e2 (ard op CmpOp.NotIn) (by cases op<;>first | rfl | rw[ath h2])]
 cases b<;>simp[behindInMarks,e1,e2]
def SW aSI{r:R2}(ho:ayb r)aRC(hm:aDg):aeM (aA8 a [op] [b] pos) (Z7 r ta tb):=by
 intro pins s σ H Q I h;exact wpAny_Compare1 (W7 ha hb I h λ v u s2 x y H2 I2 rx ry q=>ho pins s2 σ H2 x y v u Q I2 rx ry q) hm
abbrev VQ(t:TE):TT:=age (t σ H (awY x (∃k,x=.bl k/\ajQ k)))
def SX aSI{r:R2}(ho:ayb r)aRC(hm:aDg):apl (aA8 a [op] [b] pos) (VQ (Z7 r ta tb)):=by
 intro pins s σ H Q I h
 refine wpAny_isTrue_Compare1 (agj (ha pins s σ H _ I h) v s1 ⟨x,H1,I1,r1,q1⟩ (fT (avX _) λ u s2 ⟨y,H2,I2,r2,q2⟩ =>
  ahw (ho pins s2 σ H2 x y v u _ I2 r1 r2 q2) c s3 ⟨z,H3,I3,r3,k,e,q3⟩)) hm
 subst e;cases r3;exact wpAny_truthy_bool ⟨H3,I3,q3⟩
abbrev ON(r r':R2)(ta tb tc:TE):TE:=age (ta σ H (ado x (tb σ H1 (aiE y (r x y H2 λ z H3=>∃k,z=.bl k ∧
 (ahy k (tc σ H3 λ w' H4=>r' y w' H4 Q) (Q (aiU .bl) H3)))))))
def OO{op Xg:CmpOp}{r r':R2}(ho:ayb r)(KC:nO X (compareOp Xg) r')aRC(hc:aeM c tc)
  aVI:aeM (aA8 a [op,Xg] [b,c] pos) (ON r r' ta tb tc):=by
 intro pins s σ H Q I h
 refine Compare_chain (agj (ha pins s σ H _ I h) v s1 ⟨x,H1,I1,r1,q1⟩ (chain_link (fT (avX _) λ u s2 ⟨y,H2,I2,r2,q2⟩ =>
  ahw (ho pins s2 σ H2 x y v u _ I2 r1 r2 q2) d s3 ⟨z,H3,I3,r3,k,e,q3⟩))) hm
 subst e;cases r3;refine wpAny_truthy_bool ?_;cases k with
 | false=>exact ite_ff (abS (aiU .bl) H3 I3 q3)
 | true=>exact ite_tt (chain_last (agj (hc pins s3 σ H3 _ I3 q3) w' s4 ⟨z',H4,I4,r4,q4⟩ (KC pins s4 σ H4 y z' u w' Q I4 r2 r4 q4)))
abbrev Xh aPe(x:V)aPC(k:Bool):Prop :=
 match x with
 | .bb=>acS k
 | .bl b=>k=b
 | η i=>k=(i != 0)
 | c7 y=>af6 y.length/\k=(acy y.length != 0)
 | .Zu y=>af6 y.size/\k=(acy y.size != 0)
 | Δ p=>(awV (qB K H p xs) (k=aAo))\/(awV (CV K H p xs) (k=aAo))\/∃kvs,H p=amo/\k=aI6
 | _=>False
def IU aQg aR6:(! vs.isEmpty)=aI6:=by
 cases r<;>rfl
def AO{xs:g9}{bR:x8}(r:awh):aOc=aAo:=by
 cases r<;>simp
def AQ:afN sizeLine<2 ^ 63:=by rw[sizeLine_eq];decide
def Xi:adV X (λ x H Q=>∃k,Xh X.K x H k/\Q k H):=by
 intro pins s σ H x v Q I rx h;obtain⟨k,e,q⟩:=h;rw[aeC hl AQ hs (sizeLine=16777216) sizeLine_eq];cases x with
 | bb =>
  cases rx;have e':acS k:=e;rw[aeq e' (truthy_none ⟨H,I,q⟩)]
 | bl b =>
  cases rx;have e':k=b:=e;rw[aeq e' (wpAny_truthy_bool ⟨H,I,q⟩)]
 | int i =>
  rw[aib rx];have e':k=(i != 0):=e;rw[aeq e' (PySem.P.truthy_int ⟨H,I,q⟩)]
 | str y =>
  rw[aib rx];obtain⟨hy,e'⟩:af6 y.length/\k=(acy y.length != 0):=e;rw[aeq e' (PySem.P.truthy_str b6 ⟨H,I.tok _,q⟩)]
 | Zu y =>
  rw[aib rx];obtain⟨hy,e'⟩:af6 y.size/\k=(acy y.size != 0):=e;rw[aeq e' (PySem.W.truthy_bytes b6 ⟨H,I.tok _,q⟩)]
 | ref p =>
  cases rx;have e':(awV (qB X.K H p xs) (k=aAo))\/(awV (CV X.K H p xs) (k=aAo))\/∃kvs,H p=amo/\k=aI6:=e;rcases e' with⟨xs,hx,e'⟩ | ⟨xs,hx,e'⟩ | ⟨kvs,hx,e'⟩
  ·subst e';rw[agg r pl hz (I.list hx)];rw[alU hlen r.length (wpAny_truthy_list pl.isList (by simp only[List.size_toArray];omega) ⟨H,I.tok _,by rw[Ω (AO r) q]⟩)]
  ·subst e';rw[agg r pl hz (I.tuple hx)];rw[alU hlen r.length (truthy_tuple pl (by simp only[List.size_toArray];omega) ⟨H,I.tok _,by rw[Ω (AO r) q]⟩)]
  ·subst e';obtain⟨hz,hS,vs,r,m⟩:auN/\ai6 (p == sysModules)/\∃vs,anG/\s.heap.DictOf aks p vs:=I.cQ p _ hx;rw[akc hlen aNg aMs (wpAny_truthy_dict hS m b6 ⟨H,I.tok _,by rw[Ω (IU r) q]⟩)]
 | _=>exact(show False from e).elim
def OP(ha:aoV)(he:∀whole,isTrue a X.env whole=(do let v ← whole; standAt a.pos; aor [v] (truthy v))) :
  apl a (age (ta σ H (awY x (∃k,Xh X.K x H' k/\ajQ k)))):=by
 intro pins s σ H Q I h;exact isTrue_plain (agj (ha pins s σ H _ I h) v s1 ⟨x,H1,I1,r1,q1⟩ (Xi pins s1 σ H1 x v Q I1 r1 q1)) (he _)
def vals1{x:V}aQM(r:auG [x]):∃u,us=[u]/\atP:=by
 cases r with
 | cons r1 r2=>cases r2; exact arS r1
def vals2{x y:V}aQM(r:auG [x,y]):∃u w',us=[u,w']/\atP/\aBH y:=by
 cases r with
 | cons r1 r2 =>
  cases r2 with
  | cons r3 r4=>cases r4; exact ad8 _ _ r1 r3
def Ml aQU:aqm "max" (λ xs H Q=>∃i j,xs=[η i,η j]/\Q (η (aI1 (j > i) i)) H):=by
 intro pins s σ H xs us Q I r h;rw[aAO i j q h];obtain⟨u,w',rfl,⟨t,rfl⟩,⟨t',rfl⟩⟩:=vals2 r;refine max_two_ints (I.ok.hd hc) λ h' tk k=>⟨_,H,I.kept k,?_,q⟩
 by_cases hj:j > i
 ·rw[akr hj hj];exact acV
 ·rw[aJ7,aJ7]; exact acV
def Mm aQU:aqm "min" (λ xs H Q=>∃i j,xs=[η i,η j]/\Q (η (aI1 (j<i) i)) H):=by
 intro pins s σ H xs us Q I r h;rw[aAO i j q h];obtain⟨u,w',rfl,⟨t,rfl⟩,⟨t',rfl⟩⟩:=vals2 r;refine min_two_ints (I.ok.hd hc) λ h' tk k=>⟨_,H,I.kept k,?_,q⟩
 by_cases hj:j<i
 ·rw[akr hj hj];exact acV
 ·rw[aJ7,aJ7]; exact acV
def Mn:ir X (ad6 "int") (λ xs H Q=>(∃i,xs=[η i]/\Q (η i) H)\/∃k,xs=[.bl k]/\Q (η (if k then 1 else 0)) H):=by
 intro pins s σ H xs us Q I r h;rcases h with⟨i,rfl,q⟩ | ⟨k,rfl,q⟩
 ·rw[auU u rfl t rfl (vals1 r) (call_int_int ⟨η i,H,I,acV,q⟩)]
 ·rw[arb u r1 r];cases r1;exact call_int_bool ⟨η (if k then 1 else 0),H,I.tok _,acV,q⟩
universe zE
universe L2
namespace L2
open PySem PySem.Spec PyProof.Rows
structure IV aQT(x dx C:Addr)(mA:adp):Prop where
 obj:h.get? x=f7 (PySem.W.instObj C dx)
 ns:h.Ns1 dx mA
 ne:dx≠x
def Mo aQk{dx:Addr}{mA:adp}(n:h.Ns1 dx mA):∃od,aof dx od/\∀name,PySem.W.lookIn name od=f7 aFF:=by
 obtain⟨o,es,ep,ho,hd,hk,_,hm⟩:=n;rw[adv o ho (g8 name)];have e:=hm name;unfold nsFind findBy at e;rw[← Array.find?_toList] at e;unfold PySem.W.lookIn
 rw[agV hd];split
 ·rename_i y q;rw[t7 q e (congrArg some e)]
 ·rename_i q;rw[q] at e
  rw[d6 a (acS aNC) (by
   rw[aMe];intro y hy;obtain⟨z,t,adZ⟩:=hk y (Array.mem_toList_iff.mp hy);simp[DictEntry.refKey,adZ]) a' (¬(c8 aNC)) (by rw[aH3 a])]
  rw[auT a' (congrArg some e)]
def IV.look aQk{x dx C:Addr}{mA:adp}(I:IV h x dx C mA):∃od,PySem.W.InstAt h x (PySem.W.instObj C dx) C (some od)/\∀name,PySem.W.lookIn name od=f7 aFF :=
 let⟨od,ho,hl⟩:=Mo I.ns
 ⟨od,ahh I.obj rfl ho,hl⟩
section
variable {prog:Program} {w:World} {A:Around} {E:abE} {s:Shared} {K:Fg} {x dx C f:Addr} {mA:adp} {name:Str} {v:Value}
def get_map{expr:Bool}aPN aUA(hg:aH4 K C name)(hh:aLF K C)
  (ha:b7 (amu (Δ C) name) none)(hv:aFF=afw)(hv':aNS v)(h:Q v { s with toks:=s.toks+1 }) :
  ase (getAttr (Δ x) name expr):=by
 rw[asK od J hl I.look (PySem.W.get_value X J aLK.1 (PySem.W.findObj_own hh ha rfl (ag3 hl hv)) hv' h)]
def OQ aWy aUA(hg:aH4 K C name)
  (hf:amu (Δ C) name=aC1)(ht:aIv K (Δ f))(hv:aaz aFF)(h:Q (Δ f,[Δ x]) s) :
  ase (getMethod (Δ x) name pl):=by
 rw[asK od J hl I.look (PySem.W.method_fn X J aLK.1 aLK.2 hf (beq_iff_eq.mp ht) (by show b7 ((PySem.W.lookIn name od).map (·.isSome)) false; rw[hl,hv]; rfl) h)]
def SY{ns:adl}{Q:awX}aUA
  (hs:amu (Δ C) "__setattr__" = amv aea "object.__setattr__")(hp:c8 (PySem.W.plainOver K C))(ht:b7 (PySem.W.takerIn K C name) none)(hh:aLF K C)
  (hw:aMt ns)(hsz:af6 ns.length)
  (h:∀h',IV h' x dx C (att y y name afw (mA y))->Heap.SameBut dx s.heap h'->Q () (air s h' (s.toks+2))) :
  ase (setAttr (Δ x) name v):=by
 rw[aoa od J hl I.look (PySem.W.set_plain X J hs (PySem.W.osa_open (s:={ s with toks:=s.toks+1 }) (r:=none) X J hp ht (g8 b)))];obtain⟨cd,hc,hd'⟩:=PySem.W.any_some hh;rw[acH hx (auI x ⟨Δ C,some dx,.plain,#[]⟩) I.obj (afE (auV (afE (afE (wpAny_loadPart hx (afE (PySem.W.Looks.here (s:={ s with toks:=s.toks+1 }) (PySem.W.looks_clsIn X hc) ?_)))))))];rw[hd'];rw[afQ (wpAny_pure (a:=some dx) (afE (auV (wpAny_bind ?_)))) (wpAny_nsSet1 (s:={ s with toks:=s.toks+1 }) I.ns (atp OR Mi))];obtain⟨oD,esD,epD,hoD,hdD,hcD⟩:=OR.count (PySem.Within.cons name v hw);rw[ans (afE (wpAny_lookBehind hoD (by rw[Ω hdD (pastItsLine_dict (aiH hcD (by rw[akB zE])))]) ?_)) (auV (h _ ⟨x6 (Mi.2 _ (Ne.symm I.ne)) I.obj,OR,I.ne⟩ Mi))]
def OS{R:Result->anc}{vs:x8}{kw:asV}(X:axu)(hm:c8 (PySem.W.makesIn K C))
  (hi:amu (Δ C) "__init__" = aC1)(hf:PySem.W.typeIn K (Δ f)=abq ad6 "function")
  (h:codeAny (model prog w) (A.under (aea "type.__call__" ⟨Δ C::vs,kw⟩)) (.call (Δ f) ⟨Δ agn::vs,kw⟩) (PySem.W.InitBack agn R)
   (ain s ((aw5).push aCN))) :
  avb (model prog w) A (.call (Δ C) ⟨vs,kw⟩) R s:=by
 obtain⟨hh,g,d,t,os⟩:=s;exact PySem.W.make_core (PySem.W.makes_of X hm) (PySem.W.looks_findIn X hi) (λ self=>PySem.W.bind_fn X self hf) (b5 rfl) h
universe zE
abbrev qb aQt(v:V):aoR->aoR
 | []=>[(f,v)]
 | (g,x)::r=>if g=f then(g,v)::r else(g,x)::qb f v r
def yO(f g:Str)(v:V):∀fs:aoR,amU aHp g=alE g f afw (fs.lookup g)
 | []=>by
  show List.lookup g [(f,v)]=_;rw[agN (g=f)]
  ·have hb:ae8 (g == f):=beq_iff_eq.mpr h;simp only[List.lookup,hb,axT]
  ·have hb:ard g f:=aLw;simp only[List.lookup,hb,apP]
 | (k,x)::r=>by
  have ih:=yO f g v r
  rw[show qb f v ((k,x)::r)=(if k=f then(k,v)::r else(k,x)::qb f v r) from rfl]
  by_cases hk:k=f
  ·rw[aj9 hk];rw[agN (g=k)]
   ·have hb:ae8 (g == k):=beq_iff_eq.mpr h;simp only[List.lookup,hb,agW (h.trans hk)]
   ·have hb:ard g k:=aLw;simp only[List.lookup,hb,an7 (λ e:g=f=>h (e.trans hk.symm))]
  ·rw[agL hk];rw[agN (g=k)]
   ·have hb:ae8 (g == k):=beq_iff_eq.mpr h;simp only[List.lookup,hb,an7 (λ e:g=f=>hk (h.symm.trans e))]
   ·have hb:ard g k:=aLw;simp only[List.lookup,hb];exact ih
def xF aQt(v:V):∀fs:aoR,aur f (aHp).map/\∀g,g∈aIT->aur g (aHp).map
 | []=>⟨f6 qb,ajU g al5⟩
 | (k,x)::r=>by
  obtain⟨i1,i2⟩:=xF f v r;rw[show qb f v ((k,x)::r)=(if k=f then(k,v)::r else(k,x)::qb f v r) from rfl]
  by_cases hk:k=f
  ·rw[aj9 hk];subst hk;rw[aaX Ξ (ajU g aza)]
  ·rw[agL hk];rw[axN ?_ g h]
   ·rw[Ω zC (ahv i1)]
   ·rw[zC] at h ⊢;rcases asy with e | e
    ·exact List.mem_cons.mpr (b5 e)
    ·exact ahv (i2 g e)
def yP aQt(v:V):∀fs:aoR,agS aHp (fs.length+1)
 | []=>f6 qb
 | (k,x)::r=>by
  have ih:=yP f v r
  rw[show qb f v ((k,x)::r)=(if k=f then(k,v)::r else(k,x)::qb f v r) from rfl]
  by_cases hk:k=f
  ·rw[aKN,zE,zE]; omega
  ·rw[if_neg hk,zE,zE]; omega
def qA.Ao aPP{o:apq}(r:qA afw o):∃u,o=aaZ/\aji:=by
 cases o with
 | none=>exact(akV False).elim
 | some u=>exact ad5 u r
def qA.none_of{o:apq}(r:qA none o):aaz o:=by
 cases o with
 | none=>rfl
 | some u=>exact(akV False).elim
def Mp aPP aQe(r:aji):aNS u:=by
 cases v with
 | bb=>cases (akV (u=Value.none)); rfl
 | bl b=>cases (akV (u=Value.bool b)); rfl
 | int i=>rw[amD t (akV (∃t,u=azj))]; cases e; rfl
 | str x=>rw[amD t (akV (∃t,u=azk))]; cases e; rfl
 | Zu b=>rw[amD t (akV (∃t,u=Value.bytes b t))]; cases e; rfl
 | Zv b=>rw[amD t (akV (∃t,u=Value.float b t))]; cases e; rfl
 | ref a=>cases (akV (u=aog)); rfl
 | ty n=>cases (akV (u=Value.type n)); rfl
section
variable {P:Program} {w:World} {H H':Hp} {h h':Heap} {a C dx:Addr} {fs Ol:aoR}
def EA(cQ:alw)aTg:∃mA,IV h a dx C mA/\(∀f,qA auZ (mA f))/\aMt aIT/\fs.length≤1000/\H dx=aC5:=by
 obtain⟨d,z,ne,ob,mA,n,r,q⟩:=(show iV P w H h a (abT C dx fs) from cQ a _ e)
 exact⟨mA,⟨ob,n,ne⟩,r,q,z,d⟩
universe zE
structure IW aSf:Prop where
 pg:aH4 K C Str.empty
 hd:aLF K C
 po:c8 (PySem.W.plainOver K C)
 sa:amu (Δ C) "__setattr__" = amv aea "object.__setattr__"
def IW.get aPG aP5(c:asp)aQt:aH4 K C f:=c.pg
abbrev vi aSf aQt:Prop:=b7 (amu (Δ C) f) none
def vi.aaf aPG aP5 aRd(n:vi K C f):b7 (PySem.W.takerIn K C f) none:=by
 rw[avg PySem.W.takerIn (aEs (amu (Δ C) f) none n)]
structure Con aSf aQt(v:V)aQ7:Prop where
 at_:amu (Δ C) f=akj u
 rel:aji
 get:aLo K u = some none
 cp:acS (PySem.W.copiedNames.contains f)
structure Meth aSf(m:Str)(f:Addr):Prop where
 at_:amu (Δ C) m=aC1
 fn:aIv K (Δ f)
 kp:c8 (PySem.W.keepIn K (Δ f))
section
variable {X:Cx} {pins:KB} {σ:St} {H:Hp} {s:Shared} {a C dx:Addr} {fs:aoR} {f:Str} {v:V} {A:Around} {E:abE}
def IX aQI aPN aPb aTg(c:aDe)(n:vi X.K C f)(l:auZ=afw)
  (h:∀u s',aty->aji->Q u s'):afe (model X.prog X.w) A (getAttr (Δ a) f b) Q E:=by
 obtain⟨mA,O,r,_,_,_⟩:=EA I.cQ e;rw[asK u hu ru (qA.Ao (v:=v) (o:=mA f) (by rw[abd l (r f)])) (get_map I.Gy O (c.get f) c.hd n hu (Mp ru) (h u _ (I.tok _) ru))]
def AR{m:Str}{g:Addr}aWy aPb aTg(c:aDe)(k:Meth X.K C m g)(l:aaz (fs.lookup m))
  (h:Q (Δ g,[Δ a]) s):afe (model X.prog X.w) A (getMethod (Δ a) m pl) Q E:=by
 obtain⟨mA,O,r,_,_,_⟩:=EA I.cQ e;rw[akc hn (aaz (mA m)) (qA.none_of (by rw[abd l (r m)])) (OQ I.Gy O (c.get m) k.at_ k.fn hn h)]
def IY aSL aT5 aTg(c:aDe)(n:vi X.K C f)(hl:aBk)aQV
  (h:∀s',afn (upd H a (abT C dx (qb f y fs))) s'->Q () s'):afe (model X.prog X.w) A (setAttr (Δ a) f u) Q E:=by
 obtain⟨mA,O,r,wi,_,ho⟩:=EA I.cQ e
 rw[acH hz (af6 (aeA aIT)) (by rw[zK,sizeLine_eq];omega) (SY I.Gy O c.sa c.po n.aaf c.hd wi hz λ h' O' sb=>h _ ?_)];have hd:∃o,h'.get? dx=t9:=let⟨o,_,_,e',_⟩:=O'.ns; ⟨o,e'⟩;refine I.write (x:=a) (e:=dx) (by rw[azf]) (c6 ho) (λ b q hb z=>x6 (sb.2 b hb) z) hd ?_
 refine⟨by rw[Ω (aS O.ne) ho],?_,O.ne,O'.obj,_,O'.ns,g8 g,acO g hg⟩
 ·rw[ae9 (yP f y fs)]
 ·show qA (amU (qb f y fs) g) (alE g f aaZ (mA g));rw[yO]
  by_cases q:g=f
  ·rw[akr q q];exact ry
  ·rw[ae0 (if_neg q) (if_neg q) (r g)]
 ·by_cases q:g=f
  ·rw[ae2 q (xF f y fs).1]
  ·refine(xF f y fs).2 g (wi g (acZ (hg ?_)));show aaz (alE g f aaZ (mA g));rw[auT q z]
def Inv.made aPb:Inv X pins σ (agP (upd H s.heap.objs.size (.own agn)) agn (abT C s.heap.objs.size []))
  (ain s ((aw5).push aCN)):=by
 rw[d6 e1 (b7 ((aw5).get? s.heap.objs.size) PySem.W.emptyDict) (aDI s.heap) e2 (((aw5).push aCN).get? agn=f7 aCN) (by
  rw[avl (Heap.get?_push_size aw5 (o:=aCN) rfl) Heap.size_push])]
 rw[aA5 e3 ((aw5).Ns s.heap.objs.size awC) ⟨PySem.W.emptyDict,#[],_,e1,rfl,(aBx e he he),anm⟩ I1 (I.laid (a:=s.heap.objs.size) (o:=.own agn) (h':=aw5) (t':=s.toks) (λ b u q=>agH q) acT (arP e1)) (I1.laid (a:=agn) (o:=abT C s.heap.objs.size []) (t':=s.toks) (λ b u q=>agH q) (Nat.le_of_eq (Heap.size_push _ _)) ?_)];rw[ah8 ne (s.heap.objs.size≠agn) (aNR _) ⟨ag3 (aS ne) bF,auO,ne,e2,awC,(Heap.Ns1.of_empty e3).at λ o q=>agH q,λ _=>True.intro,aAn y hy rfl hy⟩]
def SZ aUJ aR9 aQ9 aRd aQ8 aPK aPN(hb:attributeBase e f env (aA9 e)=aA9 e)
  (h:afe (model prog w) A (aA9 e) (λ o s₁=>ajV (model prog w) A (getAttr o f true) Q E s₁) E):ase (aA9 (aio e f pos)) :=
 Attribute_any_ h (ag3 arm_eval_Attribute hb)
universe zE
abbrev ad0 aPe(ta:TE)aQt:TE:=age (ta σ H (ado x (∃a C dx fs v,x=Δ a/\H1 a=at9/\asp/\vi K C f/\auZ=afw/\apm v)))
abbrev ad1 aPe(ta tv:TE)aQt:TS:=anW (tv σ H (ado y (ta σ H1 (aiE x (∃a C dx fs,x=Δ a/\H2 a=at9/\asp/\vi K C f/\aBk ∧
 D.nx σ (agP H2 a (abT C dx (qb f y fs))))))))
section
variable {X:Cx} {o e value:Expr} {f:Str} {pos pos' CW:Pos} {ta tv:TE}
def Xj(he:aeM e ta)(hb:an5 e f (ahr e)=ahr e):anP aio e f (ad0 X.K ta f):=by
 intro pins s σ H Q I h;refine SZ hb (amN (he pins s σ H _ I h) u ⟨x,H1,I1,rx,a,C,dx,fs,v,ex,ea,c,n,l,q⟩);subst ex;obtain rfl:u=aog:=rx;exact IX I1 ea c n l λ u' s2 I2 ru=>⟨v,H1,I2,ru,q⟩
def Xk(ha:aeM o ta)(hv:aeM value tv)(hs:aAx value (f7 (aio o f pos'))=apG):PS X (aoy [aio o f pos'] value pos) (ad1 X.K ta tv f):=by
 intro pins s σ H D I h;refine plainObj_wpAny_Assign_Attribute (agj (hv pins s σ H _ I h) u s1 ⟨y,H1,I1,ry,q⟩ (ahw (ha pins s1 σ H1 _ I1 q) ov s2 ⟨x,H2,I2,rx,a,C,dx,fs,ex,ea,c,n,l,q2⟩)) hs;subst ex;obtain rfl:ov=aog:=rx;exact IY I2 ea c n l ry λ s3 I3=>⟨σ,_,I3,q2⟩
universe zE
section
variable {X:Cx} {pins:KB} {σ:St} {H:Hp} {s:Shared} {A:Around} {E:abE} {Q:abE} {c:Value} {b:Bool}
inductive AS aPe aPC:V->ad9 Value where
 | bb:AS K H .bb (ad6 "NoneType")
 | bl(x:Bool):AS K H (.bl x) (ad6 "bool")
 | int aP0:AS K H (η i) (ad6 "int")
 | str aPM:AS K H (c7 x) (ad6 "str")
 | Zv(x:UInt64):AS K H (.Zv x) (ad6 "float")
 | lst aPz{xs:g9}(e:H a=agz):AS K H (Δ a) apx
 | ku aPz{o:Obj}{xs:g9}(e:H a=ac1 .ku o (ς xs)):AS K H (Δ a) apx
 | tup aPz{xs:g9}(e:H a=al0):AS K H (Δ a) arw
 | dK aPz aRL aR4:AS K H (Δ a) aGB
 | dT aPz aRo aT2:AS K H (Δ a) aGB
 | ins{a C dx:Addr}{fs:aoR}aTg(cl:asp)(ha:amu (Δ C) "__class__" = amv aea "object.__class__")
   (hn:aLo K (aea "object.__class__") = amv aea "getset_descriptor.__get__")(htk:au7 (PySem.W.takesIn K (aea "object.__class__")))
   (hm:aL2 K C aB0):AS K H (Δ a) (Δ C)
universe zE
universe L2
namespace L2
open PySem PySem.Spec PyProof.Rows
structure jf aPS(A:Around):Prop where
 hd:aaz A.handled
 dp:A.depth+3*k+5<recursionLimit
 un:A.units+16*k+200<cLine
def jf.mono aTk aVe aTl:jf j A:=⟨r.hd,by rw[ae9 r.dp],by rw[ae9 r.un]⟩
def jf.deeper aPg aQA(r:jf (k+1) A)(env:Env):jf k (A.deeper env) :=
 ⟨r.hd,by have:=r.dp;show A.depth+1+3*k+5<_;omega,by have:=r.un;show A.units+3+16*k+200<_;omega⟩
def IZ aQA aP5 aQM{kw:asV}:(A.under (aea "type.__call__" ⟨Δ C::us,kw⟩)).depth=A.depth+1:=by
 first | rfl | simp[Around.under,Code.weight,Code.isCreation,Code.isGuard,Code.isCaller,Code.frames,Code.isFrame,guardIds]
def Ja aQA aP5 aQM{kw:asV}:(A.under (aea "type.__call__" ⟨Δ C::us,kw⟩)).units=A.units+1:=by
 first | rfl | simp[Around.under,Code.cUnits,Code.frames,Code.isFrame]
def jf.make aPg aQA(r:jf (k+1) A)aPL aQL(kw:asV):jf k (A.under (aea "type.__call__" ⟨Δ C::us,kw⟩)) :=
 ⟨r.hd,by have:=r.dp;rw[akB IZ],by have:=r.un;rw[akB Ja]⟩
def jf.depth aPg aVe:A.depth<recursionLimit:=by rw[ae9 r.dp]
def jf.units aPg aVe:A.units+64<cLine:=by rw[ae9 r.un]
abbrev S6:TA:=λ _ H Q=>Q [] H
abbrev OT(ta:TE)(tr:TA):TA:=age (ta σ H (ado x (tr σ H1 (aiE xs (Q (x::xs) H2)))))
section
variable {X:Cx} {e:Expr} {es:acU} {te:TE} {t:TA} {pos:Pos}
def EB:PA X [] S6:=λ _ _ _ _ H Q I h=>Calls.spliced_nil ⟨[],H,I,abO,h⟩
def Ap(ha:avQ)(hr:awo t)aUv:PA X (e::es) (OT te t):=by
 intro pos pins s σ H Q I h;rw[hs];show afe _ _ (spliced (alr::alQ es)) _ _;rw[ans (axd (asW s H _ I h u ⟨x,H1,I1,r1,q1⟩)) (agj (hr pos pins s1 σ H1 _ I1 q1) us s2 ⟨xs,H2,I2,r2,q2⟩ ⟨x::xs,H2,I2,aaP r1 r2,q2⟩)]
abbrev ad2(t:TA):TE:=age (t σ H (ado xs (asH/\∀p,aA0 p->Q (Δ p) (agP H1 p (sT xs)))))
abbrev ad3(t:TA):TE:=age (t σ H (ado xs (asH/\∀p,aA0 p->Q (Δ p) (agP H1 p (ς xs)))))
def Xl{x1}(h:awo t):anP ats es x1 (ad2 t):=by
 intro pins s σ H Q I hq;refine wpAny_Tuple_spliced (agj (h pos pins s σ H _ I hq) us s1 ⟨xs,H1,I1,r,z,q⟩ (aiS (by rw[abd r.length z])));rw[ah8 hf aNZ avv (abS (Δ s1.heap.objs.size) (agP H1 s1.heap.objs.size (sT xs)) (I1.laid (t':=s1.toks) (λ b u e=>agH e) acT ?_) (q _ hf))];exact⟨z,us,r,ad8 _ azc _ rfl⟩
def Xm(h:awo t):aeM (.List es pos) (ad3 t):=by
 intro pins s σ H Q I hq;refine wpAny_List_spliced (agj (h pos pins s σ H _ I hq) us s1 ⟨xs,H1,I1,r,z,q⟩ (aiS (by rw[abd r.length z])));rw[ah8 hf aNZ avv (abS (Δ s1.heap.objs.size) (agP H1 s1.heap.objs.size (ς xs)) (I1.laid (t':=s1.toks) (λ b u e=>agH e) acT ?_) (q _ hf))];exact⟨z,us,0,r,azc⟩
universe zE
noncomputable abbrev Sp:=g9->Hp->VK->ad9 XK
noncomputable abbrev GB:=agy->Hp->Shared->XK->abE
structure Jb aQO aSe aTq aPF aPC:Prop where
 frames:b7 A.frames outer
 mod:Mod K mg base
 bs:∀b o,base.get? b=t9->afB=t9/\ahn
 Sh:base.objs.size≤s.heap.objs.size
 zq:s.heap.FunFrames base outer
 WM:anV apQ ahn
 cQ:rf P w H s.heap
 bare:aO3
abbrev CE(outer:agy)aQO aPC aPF aQD aQ7 aRj:Prop :=
 ∃v H',s'.os=s.os/\aAj/\Un apQ [] H H' s.heap s'.heap/\rf P w H' s'.heap/\aji/\ajQ v
abbrev CR(CX:GB)(outer:agy)aQO aPC aPF aQD(E:XK)(r:Result)aRj:Prop :=
 match r with
 | .ok (.ret u)=>CE outer P w H s Q u s'
 | .ok _=>False
 | .error e=>CX outer H s E e s'
structure pN aQO aSe(CX:GB)aPS(f:Addr)aTQ(ps:adl)(sp:Sp):Prop where
 len:∀vs H Q E,aDB->aMO
 run:∀aTq aPF aPC(args:Args)aQL aQY aQD(E:XK),jf k A->Jb P w K mg base A outer s H->BindsTo s fd args axI->avL->aDB →
  avb (model P w) A (.call (Δ f) args) (CR CX outer P w H s Q E) s
def pN.mono aRt aSm aTk aTe{sp:Sp}(F:pN P w K mg base CX j f fd ps sp)aTl :
  pN P w K mg base CX k f fd ps sp:=⟨F.len,λ A outer s H args us vs Q E hr=>F.run A outer s H args us vs Q E (hr.mono h)⟩
def pN.imp aRt aSm aPg aTe{sp sp':Sp}(F:pN P w K mg base CX k f fd ps sp)
  (h:∀vs H Q E,sp' vs H Q E->aDB):pN P w K mg base CX k f fd ps sp' :=
 ⟨λ vs H Q E q=>F.len vs H Q E (h _ _ _ _ q),λ A outer s H args us vs Q E hr he hb hv hs=>F.run A outer s H args us vs Q E hr he hb hv (h _ _ _ _ hs)⟩
def Jb.make aRt aQA aRE aPK aPy(e:Jb P w K mg base A outer s H)aPL aQL(kw:asV) :
  Jb P w K mg base (A.under (aea "type.__call__" ⟨Δ C::us,kw⟩)) outer s H:=⟨by first | exact e.frames | (simpa[Around.under,Code.envs,Code.isFrame,pushEnvs] using e.frames),e.mod,e.bs,e.Sh,e.zq,e.WM,e.cQ,e.bare⟩
section
variable {X:Cx} {pins:KB} {σ:St} {H:Hp} {s s':Shared}
def Inv.aag aPb:Jb X.prog X.w X.K X.mg X.base X.A X.stack s H :=
 ⟨I.ok.frames,I.ok.mod,I.bs,aHZ I.sz,I.stack,I.Ey,I.cQ,I.bare⟩
def Inv.after aP2 aQe aPb(h:CE X.stack X.prog X.w H s Q u s'):EP X pins σ Q u s':=by
 obtain⟨v,H',os,bare,un,cQ,r,q⟩:=h;obtain⟨hh,g,d,t,os'⟩:=s';obtain rfl:os'=s.os:=os;exact⟨v,H',I.call (h':=hh) (g':=g) (d':=d) (t':=t) (ch:=[]) un cQ bare (aBx b z z),r,q⟩
universe zE
abbrev Binds aPe aTQ(ps:adl)(ds:x8):Prop :=
 ∀aPF aQL,axu->aKp (us++ds)->BindsTo s fd (amR us) (ps.zip (us++ds))
def Binds.all aPG{fd:FuncData}{ps:adl}(h:∀us:x8,aMN->bindArgs fd (amR us)=anH axI):at6:=λ s us _ hl=>by
 rw[akU zI hl (.of_eq (h us hl))]
abbrev Passes(CX:GB)aPq(E:XK):Prop:=∀(pins:KB)aST aPF aTW,ahX (CX X.stack H s E e s') (X.xe e s')
section
variable {X:Cx} {CX:GB} {k:Nat} {f C:Addr} {fd:FuncData} {ps:adl} {sp:Sp} {Mq:g9} {ds:x8} {E:XK} {x m:Str} {p pos apos:Pos} {e o:Expr} {es:acU} {ta:TE} {t:TA}
structure Mk aPe(C f:Addr):Prop where
 makes:c8 (PySem.W.makesIn K C)
 init:amu (Δ C) "__init__" = aC1
 fn:aIv K (Δ f)
 kp:c8 (PySem.W.keepIn K (Δ C))
universe zE
section
variable {X:Cx} {CX:GB} {k:Nat} {f C:Addr} {fd:FuncData} {ps ks:adl} {sp:Sp} {E:XK} {x m:Str} {p pos apos ahl:Pos} {e o:Expr} {es:acU} {kws:asJ} {te ta:TE} {t tk:TA} {nm:Option Str}
structure ad4 aPe aTQ(ps ks:adl)(g:x8->x8->x8)(gV:g9->g9->g9):Prop where
 to:∀aPF(us ws:x8),axu->aKp (g us ws)->BindsTo s fd ⟨us,ks.zip ws⟩ (ps.zip (g us ws))
 rel:∀aQu aQM{zs:g9}{ws:x8},avL->Vals zs ws->aut (gV vs zs) (g us ws)
variable {g:x8->x8->x8} {gV:g9->g9->g9}
universe zE
structure aL(N P:adl)(sc:Scope):Prop where
 kind:sc.kind=aoi
 co:aOr
 gen:aOs
 nd:N.Nodup
 pre:N.take P.length=P
 par:anU P (b7 auB amE \/ aBT)
 Xn:∀y∈sc.names,y.2≠ahR
def DB aTL:∀{binds:asV}{m:adp},(∀v,(x,v)∉binds)->aI8 binds m x=m x
 | [],_,_=>rfl
 | (n,v)::r,m,h=>by
  rw[acP bindL (DB λ w hw=>h w (ahv hw))];split
  ·have:x≠n:=by rintro rfl;exact h v List.mem_cons_self
   simp[this]
  ·rfl
def DC aTL:∀{binds:asV}{m:adp},(∀v,(x,v)∉binds)->aI9 binds m x=m x
 | [],_,_=>rfl
 | (n,v)::r,m,h=>by
  rw[acP bindC (DC λ w hw=>h w (ahv hw))];split
  ·rfl
  ·have:x≠n:=by rintro rfl;exact h v List.mem_cons_self
   simp[this]
def DD aTL aTi:∀{P:adl}{vs:x8}aPt{m:adp},P.Nodup->ah0 P x->aHd->b7 (kindOf x) amE →
  aI8 aBb m x=afw
 | [],_,_,_,_,h,_,_=>al5
 | _::_,[],_,_,_,_,h,_=>al5
 | p::P,w::vs,0,m,nd,h1,h2,hk=>by
  simp at h1 h2;subst h1;subst h2;show aI8 ((p,w)::aBb) m p=_;rw[aga bindL (DB λ v hv=>aH9.1 aOn.1) aKN];simp
 | p::P,w::vs,i+1,m,nd,h1,h2,hk=>by
  rw[aoC (aI8 ((p,w)::aBb) m x=_) bindL];exact DD (i:=i) aH9.2 aCb aGM hk
def DF aTL aTi:∀{P:adl}{vs:x8}aPt{m:adp},P.Nodup->ah0 P x->aHd->kindOf x≠some amE →
  aI9 aBb m x=afw
 | [],_,_,_,_,h,_,_=>al5
 | _::_,[],_,_,_,_,h,_=>al5
 | p::P,w::vs,0,m,nd,h1,h2,hk=>by
  simp at h1 h2;subst h1;subst h2;show aI9 ((p,w)::aBb) m p=_;rw[aga bindC (DC λ v hv=>aH9.1 aOn.1) (if_neg hk)];simp
 | p::P,w::vs,i+1,m,nd,h1,h2,hk=>by
  rw[aoC (aI9 ((p,w)::aBb) m x=_) bindC];exact DF (i:=i) aH9.2 aCb aGM hk
abbrev start(N:adl)aQY:St:=vs.map some++auJ (N.length-vs.length) none
abbrev lT(CX:GB)aQO aSe(N:adl)(qual:Str)(scope:Scope)(f:Addr)(cd:Value)aRu:Cx where
 prog:=P
 w:=w
 K:=K
 mg:=mg
 base:=base
 A:=A.deeper (envOfC qual scope s.heap.objs.size f cd)
 N:=N
 s₀:=s
 H₀:=H
 env:=envOfC qual scope s.heap.objs.size f cd
 outer:=outer
 stack:=aA7
 ex:=[]
 calm:=true
 fn:=ah9
 pn:=[]
 xe:=λ e s'=>ajV (model P w) (A.deeper (envOfC qual scope s.heap.objs.size f cd)) (leaving (envOfC qual scope s.heap.objs.size f cd) e) (abf s'' (CX outer H s E e s'')) (λ e' s''=>CX outer H s E e' s'') s'
def GC{sc:Scope}aPa aPl(h:aBT):∃c,b7 ((cellsFrom n sc.names []).lookup x) c:=by
 rw[alU q (PySem.W.cellsFrom_some sc.names n [] (b5 h)) (Option.isSome_iff_exists.mp q)]
def Mr aSm aRt aRJ aTP aTF aQA aRE{s s1:Shared}aPy aQN aQM aQu
  aUT(hd:aaz A.handled)(e0:Jb P w K mg base A outer s H)(hl:aMO)(r:avL)
  (x:InCallC s s.heap.objs.size (bindL (envOfC qual scope s.heap.objs.size f cd).kindOf axI awC) (cellsFrom agn scope.names []) (bindC (envOfC qual scope s.heap.objs.size f cd).kindOf axI awC) s1) :
  Inv (lT CX P w K mg base N qual scope f cd A outer s H E) [] (start N vs) H s1:=by
 have sV:az6 N.length:=by rw[aj3 (az9 S.pre) List.length_take];omega
 rw[aAO h1 tk hk x.done];rw[ah8 noA (∀b:Addr,b∉(lT CX P w K mg base N qual scope f cd A outer s H E).ex) (aBx b z (aAR b ([]:d8) z)) ⟨⟨e0.mod,S.kind,rfl,rfl,acT,aeB y z c h1 h2,acO y hy,acI y c _ h,λ _=>hd,Around.frames_deeper e0.frames,c6 (aiI rfl),aAn b z z (noA b),e0.bs,e0.Sh,agT _ _ (noA b),aAn b z z (noA b),e0.zq,e0.WM⟩,
  rfl,e0.bare,Un.kept hk,⟨_,x.toInCall.ns,aiA i y v h1 h2 h3⟩,λ y c h=>⟨_,x.cell y c h⟩,e0.cQ.fresh acT,IL y c h,aBx p hp (aAR p ([]:KB) hp),e0.cQ.kept hk,?_⟩]
 ·exact name_of_addr x.apart (PySem.mem_of_lookup h1) (PySem.mem_of_lookup h2)
 ·have hy:az8 y ai8\/az8 y ahR:=hy;rcases hy with hy | hy
  ·exact GC hy
  ·rw[ath (S.Xn _ (PySem.mem_of_lookup hy))]
 ·exact Nat.le_of_lt (x.above y c aNX)
 ·rw[d6 hi (i<vs.length) (by
   unfold start at h2;by_cases hi:i<vs.length
   ·exact hi
   ·rw[aDQ awa] at h2;rw[aLu h2];split at h2<;>cases h2) ha aHd (by
   unfold start at h2;rw[aw7 awa,zJ] at h2;cases e:vs[i]? with
   | none=>rw[e] at h2; cases h2
   | some a=>rw[e] at h2; cases h2; rfl)]
  obtain⟨u,hu,rv⟩:=r.get ha
  rw[d6 hp (ah0 ps y) (by
   rw[← S.pre,List.getElem?_take_of_lt b6];exact h1) ndP ps.Nodup (by rw[abd S.pre (S.nd.sublist (List.take_sublist _ _))])]
  rw[adv u rv ?_];rcases S.par y (List.mem_of_getElem? hp) with k | k
  ·exact aoQ k (DD ndP hp hu k)
  ·rw[amD c (GC (n:=agn) k)];rw[amJ (c6 ⟨b5 k,c,e,?_⟩) q (x.cell y c e)];rw[t7 (DF ndP hp hu (by show scope.names.lookup y≠_; rw[k];decide)) q q]
 ·exact e0.cQ.fresh (Nat.le_of_lt (x.above y c aNX))
 ·unfold start;show _=N.length;rw[List.length_append,zK,List.length_replicate];omega
def aai aSm aRt aPg{f:Addr}{name qual:Str}{params:Arguments}{body:ano}aS0{dV kV doc pm lO ct oc:Value}{an od:auY}
  {VR:aGs}aRJ{sp:Sp}(lk:b7 (K.lookup f) ⟨oc,od,.func (PySem.W.fnOf name qual params body scope dV kV doc pm an lO ct),VR⟩)(OG:c8 (PySem.W.codeIn K lO qual))aUT
  (len:∀vs H Q E,aDB->aMO)
  (aaj:∀aTq aPF aPC aQY aQD(E:XK),jf k (A.deeper (envOfC qual scope s.heap.objs.size f lO))->aDB →
   ∃t,IM (lT CX P w K mg base N qual scope f lO A outer s H E) body t/\t { nx:=abf H' (ajQ .bb),rt:=Q } (start N vs) H) :
  pN P w K mg base CX (k+1) f (PySem.W.fnOf name qual params body scope dV kV doc pm an lO ct) ps sp:=by
 rw[aej len (λ A outer s H args us vs Q E hr e0 hb r VU=>?_)];have hl:=len _ _ _ _ VU;rw[d6 KX axu (e0.mod.Zx.keeps (anZ (e0.bs b o e).1)) lim s.heap.NoLimit (e0.mod.nolimit.keeps (anZ (e0.bs b o e).1))]
 rw[acH KH (∀y∈axI,az8 y.1 amE \/ (az8 y.1 ai8/\aql (amU (cellsFrom agn scope.names []) y.1))) (fun⟨n,v⟩ hy=>by
  rcases S.par n (List.of_mem_zip hy).1 with q | q
  ·exact b5 q
  ·exact alx q (PySem.W.cellsFrom_some _ _ _ (b5 q))) (codeAny_call_function hr.depth (KX _ _ lk) rfl S.co S.gen rfl (PySem.W.codeRec_of KX OG) (hb _ _ _ _ ?_))]
 refine wpAny_newFunctionEnv_cells S.kind KH (acI env he s1 x);subst he;rw[aej (lim.keeps x.toInCall.keep) (codeAny_func ?_)];obtain⟨t,ht,hq⟩:=aaj A outer s H vs Q E (hr.deeper _) VU;rw[acH I (Inv (lT CX P w K mg base N qual scope f lO A outer s H E) [] (start N vs) H s1) (Mr S hr.hd e0 hl r x) (wpAny_mono (ht [] s1 (start N vs) H _ I hq) (IL fl s' hs) λ e s' hs=>hs)]
 have fin:∀{σ':St}{H':Hp}aPP aQe,Inv (lT CX P w K mg base N qual scope f lO A outer s H E) [] σ' H' s'->aji->ajQ v->CE outer P w H s Q u s' :=
  λ{σ' H' v u} J rv q=>⟨v,H',J.os,J.bare,J.base,J.cQ,rv,q⟩
 cases fl with
 | ret u =>
  obtain⟨v,σ',H',J,rv,q⟩:=hs;exact fin J rv q
 | next =>
  rw[auU σ' H' J q hs (fin (v:=V.bb) (u:=Value.none) J rfl q)]
 | brk =>
  obtain⟨_,_,_,q⟩:=hs;rw[aoc q]
 | cont =>
  obtain⟨_,_,_,q⟩:=hs;rw[aoc q]
universe L2
namespace L2
open PySem PySem.Spec PyProof.Rows
section
variable {X:Cx} {x:Str} {p pos:Pos} {e:Expr} {es:acU} {t:TA} {id T:String} {r:ajT}
abbrev tCB(r:ajT)(t:TA):TE:=age (t σ H (ado vs (r vs H1 Q)))
def OU(hc:aqm id r)aU4(hv:axi=abq aea id)aS1 aTt
  aRX:aeM (afy (ac6 x p) (e::es) [] pos) (tCB r t):=by
 rw[ajK Q (axe (xE I hg hm hv ?_ hn Jc))];exact PyProof.Rows.callWith_builtin1 (agj (ha pos pins s σ H _ I h) us s1 ⟨vs,H1,I1,r1,q1⟩ (hc pins s1 σ H1 vs us Q I1 r1 q1)) he sV
def Ms(hc:ir X (ad6 T) r)aU4(hv:axi=abq ad6 T)aS1 aTt
  aRX:aeM (afy (ac6 x p) (e::es) [] pos) (tCB r t):=by
 rw[ajK Q (axe (xE I hg hm hv ?_ hn Jc))];exact aDO (agj (ha pos pins s σ H _ I h) us s1 ⟨vs,H1,I1,r1,q1⟩ (hc pins s1 σ H1 vs us Q I1 r1 q1)) he sV
universe zE
universe L2
namespace L2
open PySem PySem.Spec PyProof.Rows
section
variable {κ:Type} [an8]
abbrev nT aTb:ark:=anz (kvs.find? (atx (agv=k))).map
abbrev putK aTb(v:V):agC :=
 ahy (kvs.any (acN kv (agv=k))) (kvs.map (λ kv=>if agv=k then(agv,v) else kv)) (kvs++[(k,v)])
abbrev v9 aTb:agC:=kvs.filter (ajd kv agv k)
def wa{p:κ×V}{r:agC}{k:κ}(e:p.1=k):b7 (nT (p::r) k) p.2:=au3 nT e
def wb{p:κ×V}{r:agC}{k:κ}(e:¬p.1=k):nT (p::r) k=nT r k:=au3 nT e
def GD aP7:∀kvs:agC,(kvs.any (acN kv (agv=k)))=agl amZ
 | []=>rfl
 | p::r=>by
  rw[List.any_cons];rw[awO]
  ·simp only[wa e,aOB,Bool.true_or,Option.isSome_some]
  ·rw[wb e,aOv,Bool.false_or]; exact GD k r
def tB aTb(v:V):agS awH (kvs.length+1):=by
 unfold putK;split
 ·rw[akB zK]
 ·rw[List.length_append,zE,zF]; omega
def qA.oz{o:ark}{u:apq}(r:qA o u):o.isSome=u.isSome:=by
 cases o with
 | none=>cases u with
  | none=>rfl
  | some _=>exact(akV False).elim
 | some _=>cases u with
  | none=>exact(akV False).elim
  | some _=>rfl
def qA.getD{o:ark}{u:apq}{d:V}{d':Value}(r:qA o u)(rd:RelV d d'):RelV (o.getD d) (u.getD d'):=by
 cases o with
 | none=>cases u with
  | none=>exact rd
  | some _=>exact(akV False).elim
 | some _=>cases u with
  | none=>exact(akV False).elim
  | some _=>exact r
def KV.val aR6 aP7:qA amZ aG8:=by
 unfold KV at r
 induction r with
 | nil=>exact True.intro
 | @cons p q ps qs h t ih =>
  rw[anC h]
  rw[aih p.1 k]
  ·rw[d6 e' (q.1=k) aEh b (b7 (aIS (q::qs)) q.2) (au3 valueAt e')]
   rw[ae0 (wa e) b h2]
  ·rw[anu e' (¬q.1=k) z (e (h1.trans z)) b (aIS (q::qs)=aIS qs) (au3 valueAt e')]
   rw[ae0 (wb e) b ih]
def KV.any aR6 aP7:(kvs.any (acN kv (agv=k)))=vs.any (atx (agv=k)):=by
 unfold KV at r
 induction r with
 | nil=>rfl
 | cons h t ih=>rw[List.any_cons,List.any_cons,ih,h.1]
def KV.Xo aR6 aP7 aSL aQV :
  KV (apC kv (if agv=k then(agv,y) else kv)) (vs.map λ kv=>if agv=k then(agv,u) else kv):=by
 unfold KV at r ⊢
 induction r with
 | nil=>rw[al3]
 | @cons p q ps qs h t ih =>
  rw[zC,zC]
  refine aaP ?_ ih;rw[anC h]
  rw[aih p.1 k]
  ·rw[alN e (agW aEh)]; rw[aaX h1 ry]
  ·rw[ak3,aq3 z (e (h1.trans z))]; rw[aaX h1 h2]
def KV.put aR6 aP7 aSL aQV:KV (axn k y) (stored vs k u):=by
 unfold putK stored;rw[r.any k];rw[ahN e (vs.any (atx (agv=k)))]
 ·rw[akr e e];exact r.Xo k ry
 ·rw[ae0 ak3 ak3 (Paired.snoc r (aju ry))]
def KV.drop aR6 aP7:KV (v9 kvs k) (without vs k):=by
 unfold KV at r ⊢;unfold v9 without
 induction r with
 | nil=>rw[al3]
 | @cons p q ps qs h t ih =>
  rw[anC h];rw[List.filter_cons,List.filter_cons];rw[awO]
  ·rw[d6 a (¬(c8 (agf (p.1≠k)))) (f6 e) b (¬(c8 (agf (q.1≠k)))) (f6 aEh)]
   rw[ae0 (if_neg a) (if_neg b) ih]
  ·rw[anu e' (¬q.1=k) z (e (h1.trans z)) a (c8 (agf (p.1≠k))) (f6 e)]
   have b:c8 (agf (q.1≠k)):=f6 e'
   rw[akr a b]
   exact aaP ⟨h1,h2⟩ ih
def KV.length aR6:aNg:=aMs
def GF aTb:agS (v9 kvs k) kvs.length:=List.length_filter_le _ _
universe zE
def tD aQp aQX aQe(r:aFN):c8 ((cL P w).is k u):=by
 cases k with
 | inl i=>rw[amD t (akV (∃t,u=azj))];rw[aeq e (Gv P w i t)]
 | inr x=>rw[amD t (akV (∃t,u=azk))];rw[aeq e (Gw P w x t)]
def DH aQp:∀{ks:akP}aQM,auG aKd->ItemsAre (cL P w) ks us
 | [],_,r=>by rw[zD] at r; cases r; rw[al3]
 | k::ks,_,r=>by
  rw[zC] at r;cases r with
  | cons h t=>exact aaP (tD h) (DH t)
noncomputable abbrev KT aPC:aoT->ad9 av3:=Paired λ p q=>p.1=q.1/\H q.2.1=aq0 (p.1.map kV)/\RelV p.2 q.2.2
def KT.val aPy aRo aTG(k:akP):qA amZ (anz (aHc).map):=by
 induction r with
 | nil=>exact True.intro
 | @cons p q ps qs h t ih =>
  obtain⟨h1,_,h2⟩:=h;rw[awO]
  ·rw[d6 e' (q.1=k) aEh b (b7 (atKey (q::qs) k) q.2) (au3 atKey e')]
   rw[ae0 (wa e) b h2]
  ·rw[anu e' (¬q.1=k) z (e (h1.trans z)) b (atKey (q::qs) k=atKey qs k) (au3 atKey e')]
   rw[ae0 (wb e) b ih]
def KT.Xo aPy aRo aTG(k:akP)aSL aQV :
  KT H (apC kv (if agv=k then(agv,y) else kv)) (xs.map (putAt k u)):=by
 induction r with
 | nil=>rw[al3]
 | @cons p q ps qs h t ih =>
  rw[zC,zC]
  refine aaP ?_ ih;obtain⟨h1,h2,h3⟩:=h;unfold putAt;rw[awO]
  ·rw[alN e (agW aEh)]; rw[aas h1 h2 ry]
  ·rw[ak3,aq3 z (e (h1.trans z))]; rw[aas h1 h2 h3]
def KT.put aPy aRo aTG(k:akP){b:Addr}aSL(hb:H b=aCD)aQV :
  KT H (axn k y) (storedH xs k b u):=by
 have e:(kvs.any (acN kv (agv=k)))=agl aHc:=by
  rw[GD,(r.val k).oz,Option.isSome_map]
 unfold putK storedH;rw[e]
 by_cases q:aql aHc
 ·rw[akr q q];exact r.Xo k ry
 ·rw[ae0 (if_neg q) (if_neg q) (Paired.snoc r ⟨rfl,hb,ry⟩)]
def KT.keeps{H H':Hp}aRo aTG(ht:∀b ys,H b=aq0 ys->amm=aq0 ys):awj H' :=
 Paired.OD r λ _ _ z=>⟨z.1,ht _ _ z.2.1,z.2.2⟩
section
variable {P:Program} {w:World} {H:Hp} {h:Heap} {a:Addr}
def VX{u:HO}aRr(e:Rd H a u):iV P w H h a u:=e.ok ok
def wc aRL aRr(e:awW .dK):auN/\arZ/\∃vs,anG/\h.DictOf (cL P w) a vs :=
 show iV P w H h a (.dK kvs) from VX ok e
def wd aRL aRr aR4:auN/\arZ/\∃vs,anG/\h.DictOf (cL P w) a vs:=wc ok (b5 e)
def vj{ks:akP}aRr(e:H a=aq0 aKd):(tupleKind (cL P w)).is h ks a:=by
 obtain⟨_,bR,r,o,h1,h2,n,h3⟩:=(show iV P w H h a (sT aKd) from ok a _ e)
 exact⟨o,bR.toArray,n,h1,h2,h3,aam (DH r)⟩
def yQ aRo aRr(e:awW .dT):auN/\arZ ∧
  awV (awj H) (h.DictOfH (tupleKind (cL P w)) a xs):=by
 obtain⟨z,y,xs,r,o,es,ep,h1,h2,h3,h4,h5⟩:=(show iV P w H h a (.dT kvs) from VX ok e)
 refine⟨z,y,xs,r,o,es,ep,h1,h2,h3,h4,acO x hx,h5⟩
 rw[akc all (∀{l:aoT}{m:av3},KT H l m->anU m ((tupleKind (cL P w)).is h x.1 x.2.1)) (by
  intro l m q
  induction q with
  | nil=>intro x hx; exact nomatch hx
  | @cons p q ps qs hq t ih =>
   intro x hx;rcases aN9 with e | hx
   ·rw[aeq e (vj ok (by rw[abd hq.1 hq.2.1]))]
   ·exact ih x hx) (all r x hx)]
def aak aRo aRr aT2:auN/\arZ ∧
  awV (awj H) (h.DictOfH (tupleKind (cL P w)) a xs):=yQ ok (b5 e)
universe zE
abbrev tE aRQ(y:V)(r:ark):Prop :=
 (∃kvs k,awW .dK/\y=akM/\r=amZ)\/∃kvs k b,awW .dT/\y=Δ b/\H b=aCD/\r=amZ
abbrev EC aRQ(y v:V)(H':Hp):Prop :=
 (∃kvs k,H a=amo/\y=akM/\aJi/\H'=ajB a .dK awH) ∨
 ∃kvs k b,H a=azR/\y=Δ b/\H b=aCD/\aJi/\H'=ajB a .dT awH
def tE.k aPy aPz aRL aQX aR4:tE H a akM amZ:=b5 (abS kvs k (b5 e) rfl)
def tE.t aS8 aRo{k:akP}aT2(eb:H b=aCD):tE H a (Δ b) amZ:=c6 ⟨kvs,k,b,b5 e,rfl,eb,rfl⟩
def EC.k aPy aPz aRL aQX aPP aR4(hl:aJi):EC H a akM v (ajB a .dK awH):=b5 (asi kvs k e hl rfl)
def EC.t aS8 aRo{k:akP}aPP aT2(eb:H b=aCD)(hl:aJi) :
  EC H a (Δ b) v (ajB a .dT awH):=c6 ⟨kvs,k,b,e,rfl,eb,hl,rfl⟩
section
variable {X:Cx} {pins:KB} {σ:St} {H:Hp} {s:Shared} {a:Addr} {y v:V} {u r:Value} {o:ark} {A:Around} {E:abE}
def Inv.big aPb:axh sysModules:=by
 rw[akc h (axh mainGlobals) (aLP).lt (Nat.lt_trans d7 h)]
def Mt aPN aUG(g:tE H a y afw)aQV(h:∀w' s',aty->aBH v->aHq) :
  afe (model X.prog X.w) A (getItem (Δ a) u) Q E:=by
 rcases g with⟨kvs,k,e,ey,l⟩ | ⟨kvs,k,b,e,ey,eb,l⟩
 ·subst ey;obtain⟨z,hd,vs,rel,dd⟩:=wc I.cQ e;rw[asK w' hw CY (qA.Ao (v:=v) (o:=aG8) (by rw[Ω l anp])) (wpAny_getItem_of (tD ry) dd.mapOf hw (h w' _ (I.tok _) CY))]
 ·subst ey;cases (aq9 (u=aAC))
  obtain⟨z,hd,xs,rel,dd⟩:=yQ I.cQ e;obtain⟨w',hw,CY⟩:=qA.Ao (v:=v) (o:=anz (aHc).map) (by rw[Ω l anp]);rw[aoa p hp GG (Option.map_eq_some_iff.mp hw) (wpAny_getItem_heap az7 ayL dd hp ?_)];rw[Ω GG (h w' _ (I.tok _) CY)]
def ad7 aPN aT7 aQV(h:∀s',aty->Q (ajF o.isSome) s') :
  afe (model X.prog X.w) A (compareOp .In u (Δ a)) Q E:=by
 rcases g with⟨kvs,k,e,ey,l⟩ | ⟨kvs,k,b,e,ey,eb,l⟩
 ·subst ey;obtain⟨z,hd,vs,rel,dd⟩:=wc I.cQ e;refine wpAny_in_of (tD ry) hd dd.mapOf ?_;rw[asI (anp).oz l (h _ (I.tok _))]
 ·subst ey;cases (aq9 (u=aAC))
  obtain⟨z,hd,xs,rel,dd⟩:=yQ I.cQ e
  refine wpAny_in_heap az7 ayL hd dd ?_;rw[aev q (anp).oz Option.isSome_map q]
  rw[asI q l (h _ (I.tok _))]
def S7 aPN aT7 aQV(h:∀s',aty->Q (ajF (! o.isSome)) s') :
  afe (model X.prog X.w) A (compareOp .NotIn u (Δ a)) Q E:=by
 rcases g with⟨kvs,k,e,ey,l⟩ | ⟨kvs,k,b,e,ey,eb,l⟩
 ·subst ey;obtain⟨z,hd,vs,rel,dd⟩:=wc I.cQ e;refine wpAny_notIn_of (tD ry) hd dd.mapOf ?_;rw[asI (anp).oz l (h _ (I.tok _))]
 ·subst ey;cases (aq9 (u=aAC))
  obtain⟨z,hd,xs,rel,dd⟩:=yQ I.cQ e
  refine wpAny_notIn_heap az7 ayL hd dd ?_;rw[aev q (anp).oz Option.isSome_map q]
  rw[asI q l (h _ (I.tok _))]
def we aTj aQH{ob:HO}aPb(mu:ZM (H a))(hs:Heap.SameBut a s.heap h')(he:∃q,b7 (h'.get? a) q)(new:iV X.prog X.w (upd H a ob) h' a ob) :
  afn (upd H a ob) (air s h' t') :=
 I.write (x:=a) (e:=a) mu (b5 rfl) (λ b q hb z=>x6 (hs.2 b hb) z) he new
def ED aQp{H':Hp}aTj aRL{vs:aAT}(z:auN)(hd:arZ)(rel:anG)(dd:h'.DictOf (cL P w) a vs) :
  iV P w H' h' a (.dK kvs):=⟨z,hd,vs,rel,dd⟩
def Mu{H':Hp}{Q:awX}aUG(g:EC H a y v H')aQV(rv:RelV v r)(h:∀s',avP->Q () s') :
  afe (model X.prog X.w) A (setItem (Δ a) u r) Q E:=by
 rcases g with⟨kvs,k,e,ey,l,eH⟩ | ⟨kvs,k,b,e,ey,eb,l,eH⟩
 ·subst ey eH;obtain⟨z,hd,vs,rel,dd⟩:=wd I.cQ e
  rw[ai3 hz aML (by rw[aIQ z]) hl (af6 (aeA awH)) (by rw[ae9 (tB kvs k v)]) (wpAny_setItem_pairs (hsz:=hz) (tD ry) dd λ h' Mv hs=>h _ ?_)];have he:∃q,b7 (h'.get? a) q:=let⟨q,_,_,hq,_⟩:=Mv; aC7;exact we I (by rw[azf]) hs he (ED hl hd (rel.put k rv) Mv)
 ·subst ey eH;cases (aq9 (u=aAC))
  obtain⟨z,hd,xs,rel,dd⟩:=aak I.cQ e
  rw[ai3 hz asH (by rw[abd (Paired.length rel) z]) hl (af6 (aeA awH)) (by rw[ae9 (tB kvs k v)]) (wpAny_setItem_heap (hsz:=hz) az7 ayL dd λ h' Mv hs=>h _ ?_)];obtain⟨q,es,ep,hq,h2,h3,h4,_,h5⟩:=Mv;refine we I (by rw[azf]) hs aC7 ⟨hl,hd,_,(rel.put k eb rv).keeps (IL c ys ec),q,es,ep,hq,h2,h3,h4,h5⟩;rw[acY (ZL ec e (λ z=>nomatch z)) ec]
universe zE
section
variable {X:Cx} {pins:KB} {σ:St} {H:Hp} {s:Shared} {a:Addr} {kvs:ahD} {k:Key} {u:Value} {A:Around} {E:abE}
def Zz aT5 aR4(ry:aFN)(l:aql amZ)(h:∀s',afn (ajB a .dK (v9 kvs k)) s'->Q () s') :
  afe (model X.prog X.w) A (delItem (Δ a) u) Q E:=by
 obtain⟨z,hd,vs,rel,dd⟩:=wd I.cQ e
 refine wpAny_delItem_slot dd.typeIs d7 PySem.F.slot_dict_delitem
  (call_meetsIn PySem.F.slot_dict_delitem dd.typeIs PySem.F.entry_dict_delitem (PySem.F.args_dict_delitem_2 _ _) (meets_dict_delitem_pairs aks a (tD ry)) ⟨vs,dd,by rw[aIQ z],by rw[abd (anp).oz l],λ h' Mv hs=>h _ ?_⟩)
 have he:∃q,b7 (h'.get? a) q:=let⟨q,_,_,hq,_⟩:=Mv; aC7;exact we I (by rw[azf]) hs he (ED (asF (GF kvs k) z) hd (rel.drop k) Mv)
def VY aPP{more:x8}aPN aPb aR4(ry:aFN)(l:amZ=afw)(hm:more=[]\/∃x,more=[x])
  (h:∀w' s',afn (ajB a .dK (v9 kvs k)) s'->aBH v->aHq):afe (model X.prog X.w) A (call (aea "dict.pop") (Δ a::u::more)) Q E:=by
 obtain⟨z,hd,vs,rel,dd⟩:=wd I.cQ e;obtain⟨w',hw,CY⟩:=qA.Ao (v:=v) (o:=aG8) (by rw[abd l anp])
 rw[ai3 hp (aql (keyPart u)) (by
  cases k with
  | inl i=>obtain⟨t,q⟩:=(aq9 (∃t,u=azj));subst q;rfl
  | inr x=>obtain⟨t,q⟩:=(aq9 (∃t,u=azk));subst q;rfl) ha (argsOk "dict.pop" (amR (Δ a::u::more))) (by
  rcases hm with q | ⟨x,q⟩
  ·rw[aeq q (PySem.F.args_dict_pop_2 _ _)]
  ·rw[aeq q (PySem.F.args_dict_pop_3 _ _ _)]) (call_meetsIn PySem.F.slot_dict_pop dd.typeIs PySem.F.entry_dict_pop ha (meets_dict_pop_there aks a (tD ry) more hm hp)
  ⟨vs,w',dd,by rw[aIQ z],hw,λ h' Mv hs=>h w' _ ?_ CY⟩)]
 have he:∃q,b7 (h'.get? a) q:=let⟨q,_,_,hq,_⟩:=Mv; aC7;exact we I (by rw[azf]) hs he (ED (asF (GF kvs k) z) hd (rel.drop k) Mv)
def Xp{r:Value}aPN aPb aR4(ry:aFN)(l:aaz amZ)(h:∀s',aty->Q r s') :
  afe (model X.prog X.w) A (call (aea "dict.pop") [Δ a,u,r]) Q E:=by
 obtain⟨z,hd,vs,rel,dd⟩:=wd I.cQ e;rw[d6 hn (aaz aG8) (qA.none_of (by rw[abd l anp])) hp (aql (keyPart u)) (by
  cases k with
  | inl i=>obtain⟨t,q⟩:=(aq9 (∃t,u=azj));subst q;rfl
  | inr x=>obtain⟨t,q⟩:=(aq9 (∃t,u=azk));subst q;rfl)]
 exact call_meetsIn PySem.F.slot_dict_pop dd.typeIs PySem.F.entry_dict_pop (PySem.F.args_dict_pop_3 _ _ _) (meets_dict_pop_default aks a (tD ry) hd hp r) ⟨vs,dd,hn,h _ (I.tok _)⟩
def aal aPN aPb(e:awW .dK)(h:∀t s',aty->Q (η kvs.length t) s'):afe (model X.prog X.w) A (call (aea "len") [Δ a]) Q E:=by
 obtain⟨z,hd,vs,rel,dd⟩:=wc I.cQ e;refine call_len_dict hd dd (by rw[← rel.length]; rw[sizeLine_eq] at z;omega) ?_;rw[aIQ (h _ _ (I.tok _))]
universe zE
def GH aSg aPz{y:V}{o:ark}aPb(g:aDo):s.TypeIs (Δ a) "dict" := by
 rcases g with⟨kvs,k,e,_,_⟩ | ⟨kvs,k,b,e,_,_,_⟩
 ·obtain⟨_,_,vs,_,dd⟩:=wc I.cQ e;exact dd.typeIs
 ·obtain⟨_,_,xs,_,dd⟩:=yQ I.cQ e;exact dd.typeIs
section
variable {X:Cx} {o i e value:Expr} {pos pos' CW:Pos} {td ty tv:TE}
universe zE
def GI aQp aPy aQT(hb:sysModules<h.objs.size):iV P w H (h.push (ajt aGB (.dict #[]))) h.objs.size (.dK []) :=
 ⟨auO,beq_eq_false_iff_ne.mpr (Ne.symm (Nat.ne_of_lt hb)),[],abO,Heap.DictOf.new h⟩
abbrev Xq:TE:=λ _ H Q=>∀p,alq->Q (Δ p) (ajB p .dK [])
section
variable {X:Cx} {pos:Pos}
def OV:aeM (.Dict [] [] pos) Xq:=λ pins s σ H Q I h =>
 wpAny_Dict_empty (abS ajA _ (I.laid (a:=s.heap.objs.size) (o:=.dK []) (t':=s.toks) (λ _ _ q=>agH q) acT (GI s.heap I.big)) (h _ (amx acT)))
universe zE
abbrev EE:aCv->St->Hp->aqJ (ajo (af5 V V))
 | [],_,H,Q=>Q [] H
 | (tk,tv)::r,σ,H,Q=>tk σ H (ado x (tv σ H1 (aiE y (EE r σ H2 λ ps H3=>Q ((x,y)::ps) H3))))
noncomputable abbrev VV:af5 V V->ad9 (af5 Value Value):=Paired λ p q=>RelV p.1 q.1/\RelV p.2 q.2
abbrev PPs aPq(pos:Pos)(keys:aFa)(values:acU)(S8:aCv):Prop :=
 ∀aPR(Q:ajo (af5 V V)),OA->EE S8 σ H Q →
  adT (evalPairs (pairTrees keys values X.env pos)) (λ vs s'=>∃ps H',avP/\VV ps vs/\ajQ ps) s
def Ta aPE aQ8:PPs X pos [] [] []:=λ pins s σ H Q I h=>pairTrees_nil_walk ⟨[],H,I,abO,h⟩
def OW aPE aQ8{k v:Expr}{ks:aFa}{vs:acU}{tk tv:TE}{S8:aCv}(hk:aeM k tk)(hv:aeM v tv)(hr:PPs X pos ks vs S8) :
  PPs X pos (av5::ks) (v::vs) ((tk,tv)::S8):=λ pins s σ H Q I h =>
 pairTrees_cons_walk (agj (hk pins s σ H _ I h) u s1 ⟨x,H1,I1,rx,q1⟩ (fT (hv pins s1 σ H1 _ I1 q1) λ w2 s2 ⟨y,H2,I2,ry,q2⟩ =>
  agj (hr pins s2 σ H2 _ I2 q2) ws s3 ⟨ps,H3,I3,rel,q3⟩ ⟨(x,y)::ps,H3,I3,aaP ⟨rx,ry⟩ rel,q3⟩))
abbrev rh(kvs more:ahD):ahD:=more.foldl (λ acc kv=>putK acc agv kv.2) kvs
def KV.merge:∀{more:ahD}{rs:aAT}aRL{vs:aAT},KV more rs->anG->KV (rh kvs more) (merged vs rs):=by
 intro more rs kvs vs r;unfold KV at r
 induction r generalizing kvs vs with
 | nil=>intro q;exact q
 | @cons p q ps qs h t ih =>
  intro r0
  rw[akc e (KV (axn p.1 p.2) (stored vs q.1 q.2)) (by
   have:=r0.put p.1 h.2;rw[abd h.1 this]) (ih e)]
def uV:∀(more kvs:ahD),agS (rh kvs more) (kvs.length+more.length)
 | [],kvs=>by show kvs.length≤kvs.length+0;omega
 | p::r,kvs=>by
  rw[al1 (uV r (axn p.1 p.2)) (tB kvs p.1 p.2)];show agS (rh (axn p.1 p.2) r) _;rw[akB zE]
def AU aQp:∀aRL{ws:af5 Value Value},VV (apC kv (kV agv,kv.2)) ws->∃rs,Carries (cL P w) ws rs/\KV kvs rs
 | [],_,r=>by rw[zD] at r; cases r; rw[aas [] True.intro abO]
 | p::kvs,_,r=>by
  rw[zC] at r;cases r with
  | @cons a b as bs h t =>
   obtain⟨rs,c,q⟩:=AU (P:=P) (w:=w) t;rw[ax2 b1 b2 b ((p.1,b2)::rs) (ad5 (tD h.1) c) (ay5 h.2 q)]
abbrev aan(S8:aCv):TE:=age (∀p,alq->EE S8 σ (ajB p .dK []) (aiE ps (H2 p=abq .dK []/\∃kvs:ahD,ps=kvs.map (λ kv=>(kV agv,kv.2))/\kvs.length≤15/\Q (Δ p) (agP H2 p (.dK (rh [] kvs))))))
def Tb aPE aQ8{keys:aFa}{values:acU}{S8:aCv}(h:PPs X pos keys values S8)(OX:c8 aN1)(hl:aNh)(h0:agU keys)
  (h15:keys.length≤15):anP .Dict keys values (aan S8):=by
 intro pins s σ H Q I q;rw[aip hn (amx (Nat.le_refl s.heap.objs.size)) I1 (I.laid (a:=s.heap.objs.size) (o:=.dK []) (h':=s.heap.push { cls:=aGB,data:=.dict #[] }) (t':=s.toks) (λ _ _ q=>agH q) acT (GI s.heap I.big)) (wpAny_Dict_walk (knd:=aks) OX hl h0 h15 (ahw (h pins _ σ _ _ I1 (q _ hn)) ws s2 ⟨ps,H2,I2,rel,e,kvs,ep,lk,q2⟩))];subst ep;obtain⟨rs,c,rk⟩:=AU (P:=X.prog) (w:=X.w) rel;obtain⟨z,hd,vs0,r0,dd⟩:=wd I2.cQ e;cases r0;rw[aup rs c dd (λ h' Mv hs=>abS ajA _ ?_ q2)]
 have hz:af6 (aeA (rh [] kvs)):=by
  rw[aev h1 (uV kvs []) zF h1];rw[sizeLine_eq];omega
 have he:∃q,b7 (h'.get? s.heap.objs.size) q:=let⟨q,_,_,hq,_⟩:=Mv; aC7;exact we I2 (by rw[azf]) hs he (ED hz hd (rk.merge abO) Mv)
structure M1 aPq(o:Expr)(m:Str)(apos:Pos)aSa(dg:Pos):Prop where
 base:an5 o m ahj=ahj
 qi:ae8 ((atz [e]).all (λ x=>! x.1) && (aHf).all (λ x=>x.1.isSome)
  && an2 (ahK ([e]:acU)+ahK ([]:asJ)+(if ([]:asJ).isEmpty then 0 else 1)) 30)
 line:art
 trees:atz [e]=[alr]
structure M2 aPq(o:Expr)(m:Str)(apos:Pos)(e f:Expr)(dg:Pos):Prop where
 base:an5 o m ahj=ahj
 qi:ae8 ((atz [e,f]).all (λ x=>! x.1) && (aHf).all (λ x=>x.1.isSome)
  && an2 (ahK ([e,f]:acU)+ahK ([]:asJ)+(if ([]:asJ).isEmpty then 0 else 1)) 30)
 line:art
 trees:atz [e,f]=[alr,axo f]
abbrev Xr aRQ:Prop:=(∃kvs,awW .dK)\/∃kvs,awW .dT
def xG aSg aPz aPb(d:Xr H a) :
  s.TypeIs (Δ a) "dict" /\ (∀b,aog=Δ b->∃ob,b7 afB ob/\aaz ob.dict)/\arZ:=by
 rcases d with⟨kvs,e⟩ | ⟨kvs,e⟩
 ·obtain⟨_,hd,vs,_,dd⟩:=wc I.cQ e;rw[adv dd.typeIs (acO b q) hd];cases q;obtain⟨ob,_,_,h1,h2,_⟩:=dd;rw[aas ob h1 h2.2.1]
 ·obtain⟨_,hd,xs,_,dd⟩:=yQ I.cQ e;rw[adv dd.typeIs (acO b q) hd];cases q;obtain⟨ob,_,_,h1,h2,_⟩:=dd;rw[aas ob h1 h2.2.1]
section
variable {X:Cx} {pins:KB} {σ:St} {H:Hp} {s:Shared} {a:Addr} {y d:V} {u r:Value} {o:ark} {A:Around} {E:abE}
def Xs aPN aT7 aQV(h:∀w' s',aty->aBH (o.getD .bb)->aHq) :
  afe (model X.prog X.w) A (call (aea "dict.get") [Δ a,u]) Q E:=by
 rcases g with⟨kvs,k,e,ey,l⟩ | ⟨kvs,k,b,e,ey,eb,l⟩
 ·subst ey;obtain⟨z,hd,vs,rel,dd⟩:=wc I.cQ e;refine call_meetsIn PySem.F.slot_dict_get dd.typeIs PySem.F.entry_dict_get (aND _) (meets_dict_get aks a (tD ry) hd) ⟨_,dd.mapOf,h _ _ (I.tok _) ?_⟩;rw[ae2 l ((anp).getD rfl)]
 ·subst ey;cases (aq9 (u=aAC))
  obtain⟨z,hd,xs,rel,dd⟩:=yQ I.cQ e
  refine call_meetsIn PySem.F.slot_dict_get dd.typeIs PySem.F.entry_dict_get (aND _) (meetsH_dict_get (tupleKind aks) a b hd) ⟨az7,k,xs,ayL,dd,h _ _ (I.tok _) ?_⟩
  rw[ae2 l ((anp).getD rfl)]
def Xu aPN aT7 aQV(rd:RelV d r)(h:∀w' s',aty->aBH (o.getD d)->aHq) :
  afe (model X.prog X.w) A (call (aea "dict.get") [Δ a,u,r]) Q E:=by
 rcases g with⟨kvs,k,e,ey,l⟩ | ⟨kvs,k,b,e,ey,eb,l⟩
 ·subst ey;obtain⟨z,hd,vs,rel,dd⟩:=wc I.cQ e;refine call_meetsIn PySem.F.slot_dict_get dd.typeIs PySem.F.entry_dict_get (PySem.F.args_dict_get_3 _ _ _) (meets_dict_get_default aks a (tD ry) hd r) ⟨_,dd.mapOf,h _ _ (I.tok _) ?_⟩;rw[ae2 l ((anp).getD rd)]
 ·subst ey;cases (aq9 (u=aAC))
  obtain⟨z,hd,xs,rel,dd⟩:=yQ I.cQ e
  refine call_meetsIn PySem.F.slot_dict_get dd.typeIs PySem.F.entry_dict_get (PySem.F.args_dict_get_3 _ _ _) (meetsH_dict_get_default (tupleKind aks) a b hd r) ⟨az7,k,xs,ayL,dd,h _ _ (I.tok _) ?_⟩
  rw[ae2 l ((anp).getD rd)]
universe zE
abbrev Xv(td ty:TE):TE:=age (td σ H (ado x (∃a,x=Δ a/\Xr H1 a/\ty σ H1 (aiE y (∃o,tE H2 a y o/\Q (o.getD .bb) H2)))))
abbrev Xw(td ty tx:TE):TE:=age (td σ H (ado x (∃a,x=Δ a/\Xr H1 a/\ty σ H1 (aiE y (tx σ H2 λ z H3=>∃o,tE H3 a y o/\Q (o.getD z) H3)))))
abbrev Xx(td ty:TE):TE:=age (td σ H (ado x (∃a,x=Δ a/\Xr H1 a/\ty σ H1 (aiE y (∃kvs k v,H2 a=amo/\y=akM/\amZ=afw/\Q v (agP H2 a (.dK (v9 kvs k))))))))
abbrev Xy(td ty tx:TE):TE:=age (td σ H (ado x (∃a,x=Δ a/\Xr H1 a/\ty σ H1 (aiE y (tx σ H2 λ z H3=>∃kvs k,H3 a=amo/\y=akM ∧
 (∀v,amZ=afw->Q v (agP H3 a (.dK (v9 kvs k))))/\(aaz amZ->Q z H3))))))
section
variable {X:Cx} {o e f:Expr} {apos dg:Pos} {td ty tx:TE}
def OY aUZ aTK(m:M1 X o "get" apos e dg):ayI aKu [e] (Xv td ty):=by
 intro pins s σ H Q I h;refine wpAny_Call_method m.base m.qi m.line PySem.F.plainAttrs_dict PySem.F.slot_dict_get PySem.F.type_dict_get (auj u ⟨x,H1,I1,rx,a,ex,d,q1⟩);subst ex;obtain rfl:u=aog:=rx;obtain⟨t1,t2,_⟩:=xG I1 d;rw[adv t1 t2 ?_];rw[m.trees];rw[ans (aDS rfl (axd (agj aHv iv s2 ⟨y,H2,I2,ry,ov,g,q2⟩ (Calls.spliced_nil ?_)))) (Xs hu I2 g ry λ w' s3 I3 CY=>⟨_,H2,I3,CY,q2⟩)]
def OZ aUZ aTK(hf:aeM f tx)(m:M2 X o "get" apos e f dg):ayI aKu [e,f] (Xw td ty tx):=by
 intro pins s σ H Q I h
 refine wpAny_Call_method m.base m.qi m.line PySem.F.plainAttrs_dict PySem.F.slot_dict_get PySem.F.type_dict_get (auj u ⟨x,H1,I1,rx,a,ex,d,q1⟩)
 subst ex
 obtain rfl:u=aog:=rx
 obtain⟨t1,t2,_⟩:=xG I1 d
 rw[adv t1 t2 ?_];rw[m.trees]
 rw[ans (aDS rfl (axd (fT aHv λ iv s2 ⟨y,H2,I2,ry,q2⟩ =>
  axd (agj (hf pins s2 σ H2 _ I2 q2) fv s3 ⟨z,H3,I3,rz,ov,g,q3⟩ (Calls.spliced_nil ?_))))) (Xu hu I3 g ry rz λ w' s4 I4 CY=>⟨_,H3,I4,CY,q3⟩)]
def O0 aTK(m:M1 X o "pop" apos e dg):ayI aKv [e] (Xx td ty):=by
 intro pins s σ H Q I h;refine wpAny_Call_method m.base m.qi m.line PySem.F.plainAttrs_dict PySem.F.slot_dict_pop PySem.F.type_dict_pop (auj u ⟨x,H1,I1,rx,a,ex,d,q1⟩);subst ex;obtain rfl:u=aog:=rx;obtain⟨t1,t2,_⟩:=xG I1 d;rw[adv t1 t2 ?_];rw[m.trees];refine aDS rfl (axd (agj aHv iv s2 ⟨y,H2,I2,ry,kvs,k,v,ea,ey,l,q2⟩ (Calls.spliced_nil ?_)));rw[aeq ey (VY I2 ea ry l (b5 rfl) λ w' s3 I3 CY=>⟨v,_,I3,CY,q2⟩)]
def O1 aTK(hf:aeM f tx)(m:M2 X o "pop" apos e f dg):ayI aKv [e,f] (Xy td ty tx):=by
 intro pins s σ H Q I h
 refine wpAny_Call_method m.base m.qi m.line PySem.F.plainAttrs_dict PySem.F.slot_dict_pop PySem.F.type_dict_pop (auj u ⟨x,H1,I1,rx,a,ex,d,q1⟩)
 subst ex
 obtain rfl:u=aog:=rx;obtain⟨t1,t2,_⟩:=xG I1 d
 rw[adv t1 t2 ?_]
 rw[m.trees]
 refine aDS rfl (axd (fT aHv λ iv s2 ⟨y,H2,I2,ry,q2⟩ =>
  axd (agj (hf pins s2 σ H2 _ I2 q2) fv s3 ⟨z,H3,I3,rz,kvs,k,ea,ey,q3,q4⟩ (Calls.spliced_nil ?_))))
 subst ey;cases l:amZ with
 | some v=>exact VY I3 ea ry l (c6 (aiI fv)) λ w' s4 I4 CY=>⟨v,_,I4,CY,q3 v l⟩
 | none=>exact Xp I3 ea ry l λ s4 I4=>⟨z,H3,I4,rz,q4 l⟩
universe zE
section
variable {X:Cx} {pins:KB} {σ:St} {H:Hp} {s:Shared} {a:Addr} {kvs:ahD} {A:Around} {E:abE}
universe zE
section
variable {X:Cx} {pins:KB} {σ:St} {H:Hp} {s:Shared} {a:Addr} {y:V} {u:Value} {A:Around} {E:abE}
universe zE
universe L2
namespace HT
open PySem PyProof.Rows
section
open PySem.SeqAt
open PySem.AutoSeq1 (wpAny_loadPart')
open PySem.MeetsSeq PySem.MeetsSeq2 PySem.MeetsSeq3
universe zE
section
variable {prog:Program} {w:World} {A:Around} {E:abE} {s:Shared}
def Tc{t b:Addr}{vs ws:x8}aPN(ht:aI4 t vs.toArray)(hb:aI4 b ws.toArray)(hv:agU vs)
  (h1:ws=[]->Q (Δ t) s)(h2:agU ws->Q ajA (ain s (s.heap.push { cls:=arw,data:=aif (vs++ws).toArray })))
  (hsz:af6 (vs.length+ws.length)):ase (binaryOp .Add (Δ t) (Δ b)):=by
 obtain⟨⟨cls,dd,data,sl⟩,ho,hc,n,hd⟩:=id ht;obtain⟨⟨ahm,dd2,data2,sl2⟩,KI,hc2,n2,Td⟩:=id hb;simp only at hc hd hc2 Td;subst hc hd hc2 Td
 have e:vs.toArray++ws.toArray=asm (vs++ws):=Ξ
 by_cases hw:ws=[]
 ·exact concat_meets (amT ho) (amT KI) noFill_tuple_add seq_tuple_add PySem.F.slot_tuple_add PySem.F.entry_tuple_add (aNx _)
   (tuple_addW1 t b vs.toArray ws.toArray n n2 dd dd2 sl sl2 (aam hv) (f6 hw)) ⟨ho,KI,h1 hw⟩
 ·refine concat_meets (amT ho) (amT KI) noFill_tuple_add seq_tuple_add PySem.F.slot_tuple_add PySem.F.entry_tuple_add (aNx _)
   (tuple_addW2 t b vs.toArray ws.toArray n n2 dd dd2 sl sl2 (aam hv) (aam hw) (by rw[aLR]; exact hsz)) (aoN ho KI)
  rw[amX (h2 hw)]
abbrev lP(n d:Nat):adq->Nat
 | none=>d
 | afw=>if v<0 then aiF (v+afA) else min v.toNat n
def AV(n d:Nat):lP n d none=d:=rfl
def KJ(n d k:Nat):lP n d (aJH k)=min k n:=by
 show(if ao9<0 then aiF (ao9+afA) else min (ao9).toNat n)=min k n;rw[aEb aKz]
def Xz(n d:Nat)(hd:d≤n)(o:adq):lP n d o≤n:=by
 cases o with
 | none=>exact hd
 | some v =>
  show(if v<0 then aiF (v+afA) else min v.toNat n)≤n;by_cases hv:v<0
  ·rw[aj9 hv];omega
  ·rw[auT hv (Nat.min_le_right _ _)]
def KL(v:Int)(n d:Nat):(if v<0 then max (v+afA) 0 else min v afA)=afW (lP n d afw):=by
 show(if v<0 then max (v+afA) 0 else min v afA)=afW (if v<0 then aiF (v+afA) else min v.toNat n);by_cases hv:v<0
 ·simp only[if_pos hv];omega
 ·simp only[if_neg hv];omega
def Jd aRl aPf:Builtin.Slice.sliceAdjust lo hi 1 afA=(afW (lP n 0 lo),afW (lP n n hi)):=by
 have h1:¬(ar3<0):=b6
 unfold Builtin.Slice.sliceAdjust
 simp only[h1,if_false];refine Prod.ext ?_ ?_
 ·cases lo with
  | none=>rfl
  | some v=>exact KL v n 0
 ·cases hi with
  | none=>rfl
  | some v=>exact KL v n n
def Je(i j:Nat):aLp aCW (acy j)=j-i:=by
 unfold Builtin.Slice.slicePlaces
 have h1:ar3 > 0:=b6
 simp only[h1,if_true,Int.ediv_one];split<;>omega
def AW aTi{o:adq}{Q:adq->anc}(p:IsPart v o)(h:Q o s):ase (Builtin.Slice.slicePartIndex v):=by
 cases p with
 | none=>exact slicePart_none h
 | int i t=>exact slicePart_int h
def xH{sl:Addr}aWH aPa{Q:Int×Int×Nat->anc}aVE(pu:IsPart vu hi)
  (h:Q (afW (lP n 0 lo),1,lP n n hi-lP n 0 lo) s):ase (Builtin.Slice.sliceApplied (Δ sl) (pure afA)):=by
 obtain⟨os,hos,hcs,hds⟩:=id hs;unfold Builtin.Slice.sliceApplied Builtin.Slice.sliceFields;rw[afQ (afE (afE (wpAny_field hos hds (x:=vl) rfl (afE (wpAny_field hos hds (x:=vu) rfl (afE (wpAny_field hos hds (x:=abc) rfl aEq))))))) (afE (slicePart_none ?_))];show afe _ _ (ahy (ar3 == 0) _ _) _ _
 rw[agL d7];refine afE (AW pl (afE (AW pu (afE aEq))))
 show afe _ _ (match Builtin.Slice.sliceAdjust lo hi 1 afA with | (lo,hi)=>pure (lo,ar3,aLp lo hi)) _ _
 rw[Jd lo hi n];show afe _ _ (pure (afW (lP n 0 lo),ar3,aLp (afW (lP n 0 lo)) (afW (lP n n hi)))) _ _
 rw[Ω Je (wpAny_pure h)]
def O2(xs:auX)(i k:Nat):asm ((List.range k).filterMap (aul m xs[(aiF (aCW+ar4*1))]?))=asm ((xs.toList.drop i).take k):=by
 have e:(aul m xs[(aiF (aCW+ar4*1))]?)=λ m=>xs[i+m]? := by
  funext m
  rw[auo (aiF (aCW+ar4*1)=i+m) b6]
 rw[e];rw[aj3 (pick_run xs i k) List.filterMap_map];have e2:((λ x=>xs[x]?) ∘ λ x=>i+x)=λ m=>xs[i+m]? := rfl;rw[e2] at this;rw[this]
def wg{t sl:Addr}{items:auX}aWH aPN(ht:aI4 t items)aVE(pu:IsPart vu hi)
  (hw:¬(anQ=0/\avN=items.size))
  (h:Q ajA (ain s (s.heap.push { cls:=arw,data:=aif ((items.toList.drop anQ).take (avN-anQ)).toArray })))
  (hsz:af6 items.size):ase (getItem (Δ t) (Δ sl)):=by
 rw[d6 KM (sizeOk (aif ((items.toList.drop anQ).take (avN-anQ)).toArray)) (by
  show af6 ((items.toList.drop anQ).take (avN-anQ)).toArray.size;rw[List.size_toArray,List.length_take,List.length_drop,Array.length_toList];omega) hj (avN≤items.size) (Xz _ _ acT hi)];obtain⟨os,hos,hcs,hds⟩:=id hs;have hTs:s.TypeIs (Δ sl) "slice" := ⟨os,hos,hcs⟩;unfold getItem
 try with_reducible refine wpAny_holding ?_
 first | refine afE aEq | skip
 rw[afQ (afE (wpAny_sequenceKey ht.typeIs d7 ?_)) (afE (wpAny_callSpecial?_slot (name:=Str.ofString "__getitem__") ht.typeIs PyProof.Rows.slot_tuple_getitem
  (wpAny_call_entry PyProof.Rows.slot_tuple_getitem ht.typeIs entry_tuple_getitem ?_ (args_tuple_getitem _ _))))]
 show afe _ _ (Builtin.Tuple.tupleItemsOf (Δ t) >>= _) _ _;rw[afQ (afE (tupleItemsOf_ ht ?_)) (afE (wpAny_typeOf hTs ?_))];rw[aj9 d7];rw[aiQ (afE (xH hs pl pu ?_)) hno (¬(ae8 (afW anQ == 0 && ar3 == 1 && (avN-anQ) == items.size))) (by
  intro q;rw[aIw Bool.and_eq_true q];rw[d6 q1 (afW anQ=0) (eq_of_beq q.1.1) q2 (avN-anQ=items.size) (eq_of_beq q.2)];exact hw aGj)]
 show afe _ _ (ahy (afW anQ == 0 && ar3 == 1 && (avN-anQ) == items.size) _ _) _ _;rw[if_neg hno,O2]
 first
  | exact aHQ m _ (aIh (aIE _ h))
  | exact aHQ m _ (aIh (afE (auV (aIE _ h))))
  | exact afE (aHQ m _ (aIh (auV (aIE _ h))))
  | exact afE (aHQ m _ (aIh (aIE _ h)))
universe zE
universe HT
namespace L2
open PySem PySem.Spec PyProof.Rows
noncomputable abbrev TO:=St->Hp->aqJ (ajo adq)
abbrev PO aPq(e:aEy)(t:TO):Prop :=
 ∀aPR(Q:ajo adq),OA->anY →
  adT (evalPart e X.env) (λ u s'=>∃o H',avP/\IsPart u o/\ajQ o) s
abbrev Te:TO:=λ _ H Q=>Q none H
abbrev aap(t:TE):TO:=age (t σ H (ado x (∃i,x=η i/\apm av6)))
section
variable {X:Cx} {e:Expr} {te:TE} {lo hi:aEy} {tl th:TO} {pos p2:Pos}
def Tf:PO X none Te:=by
 intro pins s σ H Q I h;rw[Ω evalPart_none (wpAny_pure ⟨none,H,I,abc,h⟩)]
def Ti(h:avQ):PO X aGC (aap te):=by
 intro pins s σ H Q I hw;rw[evalPart_some];refine ap2 (h pins s σ H _ I hw) u x;rw[adC i q q1];rw[ahJ t rfl r1 ⟨av6,H1,I1,η i t,q⟩]
abbrev O3 aPq(r:V->adq->auq):Prop :=
 ∀aTo(v vl vu:Value)aRl(sl:Addr)aQD,ahX (RelV x v) (s.heap.IsSliceOf sl vl vu abc->IsPart vl lo->IsPart vu hi->r x lo hi H Q →
  ∃T id,typeLookup (ad6 T) "__getitem__" = anH (abq aea id)/\s.TypeIs v T/\adT (getItem v (Δ sl)) (EP X pins σ Q) s)
def O3.or aWm(h':O3 X r'):O3 X (λ x lo hi H Q=>r x lo hi H Q\/r' x lo hi H Q):=by
 intro pins s σ H x v vl vu lo hi sl Q I rx hs pl pu q;rcases q with q | q
 ·exact h pins s σ H x v vl vu lo hi sl Q I rx hs pl pu q
 ·exact h' pins s σ H x v vl vu lo hi sl Q I rx hs pl pu q
abbrev tSl(r:V->adq->auq)aSl(tl th:TO):TE:=age (te σ H (ado x (tl σ H1 (aiE l (th σ H2 λ u H3=>r x l u H3 Q)))))
def O4{r:V->adq->auq}(hr:O3 X r)aSM(hl:PO X lo tl)(hu:PO X hi th):anP amz e (ayl lo hi none p2) (tSl r te tl th):=by
 intro pins s σ H Q I h;rw[afQ (Subscript_ (ap2 (he pins s σ H _ I h) v x)) (wpAny_Slice (agj (hl pins s1 σ H1 _ I1 q1) vl s2 ⟨l,H2,I2,pl,q2⟩ (ahw (hu pins s2 σ H2 _ I2 q2) vu s3 ⟨u,H3,I3,pu,q3⟩)))];rw[evalPart_none];rw[aiQ aEq I4 (asU H3 s3 (s3.heap.push (ajt ayc (ahe #[vl,vu,abc])))) (I3.kept (t':=s3.toks) azL)];obtain⟨T,id,hT,ht,hg⟩:=hr pins (ain s3 (s3.heap.push (ajt ayc (ahe #[vl,vu,abc])))) σ H3 x v vl vu l u s3.heap.objs.size Q I4 r1 aNH pl pu q3;rw[aqj (adT (subscriptTail e (ayl lo hi none p2) v (Δ s3.heap.objs.size)) (EP X pins σ Q) (ain s3 (s3.heap.push (ajt ayc (ahe #[vl,vu,abc]))))) (tail_any (ops:=[Δ s3.heap.objs.size,v]) ht hT hg aao)]
abbrev EF aRw aRl:g9:=(aA2 aqA).take (ayB-aqA)
def yR aRw aRl:agS aCy xs.length:=by
 rw[aga EF List.length_take List.length_drop];omega
abbrev aeb aPe:V->adq->auq:=λ x lo hi H Q=>∃a xs,x=Δ a/\awI ∧
 ¬(aqA=0/\aE3 ayB)/\∀p,alq->Q (Δ p) (aBy p aCy)
def XA:O3 X (aeb X.K):=by
 intro pins s σ H x v vl vu lo hi sl Q I rx hs pl pu h;obtain⟨a,xs,rfl,hx,hw,q⟩:=h;cases rx;rw[agg r ht hz (I.tuple hx)]
 rw[ah8 hlen (aE3 bR.toArray.size) (by rw[Ω List.size_toArray r.length.symm]) ⟨"tuple",_,PyProof.Rows.slot_tuple_getitem.lookup,ht.typeIs,?_⟩];rw[aiy (HT.wg ht hs pl pu (by rw[Ω hlen hw]) ?_ (by rw[Ω hlen hz])) hlen]
 refine abS ajA _ (I.laid (t':=s.toks) (o:=sT aCy) azL acT ?_) (q _ (amx acT));exact⟨asF (yR xs lo hi) hz,_,(r.drop aqA).take (ayB-aqA),IsTup.new _ _⟩
abbrev VZ aPe:R2:=am8 (∃a b xs ys,x=Δ a/\y=Δ b/\awI/\CV K H b ys/\agU xs/\af6 aMZ ∧
 (ys=[]->Q (Δ a) H)/\(agU ys->∀p,alq->Q (Δ p) (aBy p (xs++ys))))
def Vals.EG aQ1(r:alZ):us=[]↔xs=[]:=by
 cases r with
 | nil=>simp
 | cons _ _=>simp
def Tj:anv Add (VZ X.K):=by
 intro pins s σ H x y v u Q I rx ry h;obtain⟨a,b,xs,ys,rfl,rfl,ha,hb,hx,hz,q1,q2⟩:=h;cases rx;cases ry;obtain⟨bR,r1,p1,_⟩:=I.tuple ha;obtain⟨GJ,r2,p2,_⟩:=I.tuple hb;refine HT.Tc p1 p2 (acZ (hx (r1.EG.mp z))) (acZ (asb Δ a (q1 (r2.EG.mp z)))) (g8 z) (by rw[asI r1.length r2.length hz]);refine abS ajA _ (I.laid (t':=s.toks) (o:=sT (xs++ys)) azL acT ?_) (q2 (λ w=>z (r2.EG.mpr w)) _ (amx acT));exact⟨by rw[Ω List.length_append hz],_,aMR,IsTup.new _ _⟩
universe zE
universe L2
namespace L2
open PySem PySem.Spec PyProof.Rows
abbrev IG aPf aP0:aeQ:=auW (0≤i) (asC (i<n) (some i.toNat)) (asC (-afA≤i) (some (aiF (i+n))))
abbrev Mw aPp aRM aP0:aJ5:=ag8 (axp i).bind j xs[j]?
def EH aPa aPu{j:Nat}(h:b7 (IG n i) j):b7 (seqIndex? i n) j/\j<n /\ -afA≤i/\i<n:=by
 rw[ak9 IG];by_cases h0:0≤i
 ·rw[apN h0 h];by_cases h1:i<n
  ·rw[apN h1 h];have e:i.toNat=j:=aqX;exact⟨ag3 (seqIndex_of h0 h1) e,b6,b6,h1⟩
  ·rw[if_neg h1] at h; cases h
 ·rw[if_neg h0] at h;by_cases h1 : -afA≤i
  ·rw[apN h1 h];have e:aiF (i+n)=j:=aqX;exact⟨ag3 (seqIndex_neg b6 h1) e,b6,h1,b6⟩
  ·rw[if_neg h1] at h; cases h
def KN aPp aRN aPu{v:α}(h:azF=afw):∃j,b7 (seqIndex? i xs.length) j/\acL xs j v/\aAh j /\ -aEr≤i/\aqv:=by
 rw[ak9 Mw];cases e:axp i with
 | none=>rw[akN]; cases h
 | some j =>
  rw[akN];rw[af7 h1 h2 h3 h4 (EH e) ⟨j,h1,h,h2,h3,h4⟩]
abbrev KO(b:Expr):Prop:=∀o i,subscripted b false o i=operate [o,i] (getItem o i)
abbrev Tl aPq(r:R2):Prop :=
 ∀(value slice:Expr)aPR(x y:V)(v u:Value)aQD,ahX (RelV x v) (akG->r x y H Q →
  subscripted slice false v u=operate [v,u] (getItem v u)->adT (subscriptTail value slice v u) (EP X pins σ Q) s)
abbrev EI aPq(id:String)aUh:Prop :=
 ∀aTo aRw aSJ aQL aQD,ahX (RelV x v) (alZ->r x xs H Q →
  adT (call (aea id) (v::us)) (EP X pins σ Q) s)
section
variable {X:Cx} {a b:Expr} {ta tb:TE} {pos:Pos}
def Tl.or{r r':R2}(h:Tl X r)(h':Tl X r'):Tl X (am8 (r x y H Q\/r' x y H Q)):=by
 intro value slice pins s σ H x y v u Q I rx ry q hs;rcases q with q | q
 ·exact h value slice pins s σ H x y v u Q I rx ry q hs
 ·exact h' value slice pins s σ H x y v u Q I rx ry q hs
def aaq{r:R2}(hr:Tl X r)aRC(hs:KO b):anP amz a b (Z7 r ta tb):=by
 intro pins s σ H Q I h;exact Subscript_ (W7 ha hb I h λ v u s2 x y H2 I2 rx ry q=>hr a b pins s2 σ H2 x y v u Q I2 rx ry q (hs _ _))
abbrev aec aPe:R2:=am8 (∃p xs i v,x=Δ p/\y=η i/\qB K H p xs/\azF=afw/\Q v H)
abbrev aed aPe:R2:=am8 (∃p xs i v,x=Δ p/\y=η i/\CV K H p xs/\azF=afw/\Q v H)
def Tn:Tl X (aec X.K):=by
 intro value slice pins s σ H x y v u Q I rx ry h hs;obtain⟨p,xs,i,z,rfl,rfl,hq,he,q⟩:=h;cases rx;rw[aib ry];rw[agg r pl hz (I.list hq)];obtain⟨j,h1,h2,h3,h4,h5⟩:=KN he;obtain⟨w,ew,CY⟩:=r.get h2
 rw[ZI hl r.length hn AQ];have fin:EP X pins σ Q w s:=⟨z,H,I,CY,q⟩
 by_cases h0:0≤i
 ·rw[akc hj (i.toNat=j) (by
   rw[t7 (seqIndex_of h0 h5) h1 auE]) (item_listR pl.isList h0 b6 (by rw[hj];simpa using ew) fin hs)]
 ·rw[akc hj (aiF (i+aOl)=j) (by
   rw[seqIndex_neg b6 h4] at h1;rw[List.size_toArray,← hl];exact auE) (subscriptTail_builtinR (x:=w) pl.isList.typeIs slot_list_getitem.lookup
   (wpAny_getItem_list_neg (Q:=λ r s'=>r=w/\EP X pins σ Q r s') pl.isList b6 aKx b6 (by rw[hj];simpa using ew) (aju fin)) hs)]
def vm:Tl X (aed X.K):=by
 intro value slice pins s σ H x y v u Q I rx ry h hs;obtain⟨p,xs,i,z,rfl,rfl,hq,he,q⟩:=h;cases rx;rw[aib ry];rw[agg r pl hz (I.tuple hq)];obtain⟨j,h1,h2,h3,h4,h5⟩:=KN he;obtain⟨w,ew,CY⟩:=r.get h2
 rw[ZI hl r.length hn AQ];rw[akc fin (EP X pins σ Q w s) ⟨z,H,I,CY,q⟩ (subscriptTail_builtinR (x:=w) pl.typeIs slot_tuple_getitem.lookup
  (getItem_tuple (j:=j) (Q:=λ r s'=>r=w/\EP X pins σ Q r s') pl b6 b6 (by rw[List.size_toArray,← hl];exact h1) (aam ew) (aju fin)) hs)]
def Jf(bR:x8)(n j:Nat)aQ7:Obj.mapSeq (·.setIfInBounds j u) (aos (aif bR.toArray n))=aos (aif (asm (bR.set j u)) n):=by
 simp[Obj.mapSeq]
def Inv.lst aQG aQl{xs:g9}aPb(h:H p=agz) :
  ∃(bR:x8) (n:Nat),awh/\auI p (aos (aif bR.toArray n))/\asH:=by
 rw[ae3 z bR n r e (I.cQ p _ h) ⟨bR,n,r,e,z⟩]
def Inv.XB aQG aQl{xs ys:g9}{bR its':x8}{n n':Nat}{f:Obj->Obj}aPb(h:H p=agz)
  (ho:auI p (aos (aif bR.toArray n)))(hf:f (aos (aif bR.toArray n))=aos (aif its'.toArray n'))(r:Vals ys its')(hz:aIY)(t:Nat) :
  afn (arY ys) (air s (aMx f) t):=by
 rw[acH e (b7 ((aMx f).get? p) (aos (aif its'.toArray n'))) (by
  rw[Heap.get?_update_self f ho (by rw[hf]<;>rfl),hf]) (I.write (x:=p) (e:=p) (by rw[h]; trivial) (b5 rfl) (λ b u hb q=>x6 (Heap.get?_update_other _ _ (Ne.symm hb)) q) (arP e) ?_)];exact⟨hz,its',n',r,e⟩
abbrev V0:V->V->V->Hp->aqJ asw:=λ o i v H Q=>∃p xs k j,o=Δ p/\i=η k/\H p=agz/\b7 (axp k) j/\Q (arY (xs.set j v))
def set_list:IP X V0:=by
 intro pins s σ H o i v ov iv u Q I ro ri rv h;obtain⟨p,xs,k,j,rfl,rfl,hp,hj,q⟩:=h;cases ro;rw[aib ri];obtain⟨bR,n,r,ho,hz⟩:=I.lst hp;obtain⟨h1,h2,h3,h4⟩:=EH hj;rw[ZI hl r.length hn AQ]
 have I':asU (arY (xs.set j v)) s (aMx (Obj.mapSeq (·.setIfInBounds j u))) :=
  I.XB hp ho (Jf bR n j u) (r.set rv j) (by rw[axf hz]) s.toks
 by_cases h0:0≤k
 ·rw[akc hk (k.toNat=j) (by
   rw[t7 (seqIndex_of h0 h4) h1 auE]) (PySem.W.ki_setAt ho h0 b6 (by rw[List.size_toArray,← hl];exact h4) (by rw[hk]; rw[aas _ I' q]))]
 ·rw[akc hk (aiF (k+aOl)=j) (by
   rw[seqIndex_neg b6 h3] at h1;rw[List.size_toArray,← hl];exact auE) (PySem.W.ki_setBack ho b6 (by rw[List.size_toArray,← hl];exact h3) b6 (by rw[hk]; rw[aas _ I' q]))]
def EJ aRl aPf:(sliceBounds lo hi none n).1=afW (HT.lP n 0 lo)/\(sliceBounds lo hi none n).2.1=afW (HT.lP n n hi)/\(sliceBounds lo hi none n).2.2=1:=by
 refine ajs ?_ ?_
 ·cases lo with
  | none=>simp[sliceBounds,HT.lP]
  | some i =>
   simp only[sliceBounds,HT.lP,Option.getD_none,show ar3 > 0 by decide,if_true]
   rw[agN (i<0)]
   ·simp only[h,if_true]<;>omega
   ·simp only[h,if_false]<;>omega
 ·cases hi with
  | none=>simp[sliceBounds,HT.lP]
  | some i =>
   simp only[sliceBounds,HT.lP,Option.getD_none,show ar3 > 0 by decide,if_true]
   rw[agN (i<0)]
   ·simp only[h,if_true]<;>omega
   ·simp only[h,if_false]<;>omega
def CZ(bR:x8)aRl:slicePick bR.toArray lo hi none=asm ((bR.drop (aMw 0 lo)).take (aMw bR.length hi-aMw 0 lo)):=by
 obtain⟨h1,h2,h3⟩:=EJ lo hi bR.toArray.size;rw[aiY slicePick h1 h2 h3];simp only[sliceRange_one,pick_run,List.size_toArray]<;>rfl
abbrev XC aPe:V->adq->auq:=λ x lo hi H Q=>∃a xs,x=Δ a/\aqC/\∀p,alq->Q (Δ p) (arY aCy)
def To:O3 X (XC X.K):=by
 intro pins s σ H x v vl vu lo hi sl Q I rx hs pl pu h;rw[anJ a xs hx h];cases rx;rw[agg r ht hz (I.list hx)];have hlen:=r.length;refine⟨"list",_,slot_list_getitem.lookup,ht.isList.typeIs,?_⟩;refine wpAny_getItem_list_slice ht.isList hs pl pu abc Ξ ?_ aKx;rw[CZ,← hlen];refine abS ajA _ (I.laid (t':=s.toks) (o:=ς aCy) azL acT ?_) (q _ (amx acT));exact⟨asF (yR xs lo hi) hz,_,0,(r.drop aqA).take (ayB-aqA),azc⟩
def EK:aqm "len" (λ xs H Q=>∃p ys,xs=[Δ p]/\(qB X.K H p ys\/CV X.K H p ys)/\Q aGc H):=by
 intro pins s σ H xs us Q I r h;rw[anJ p ys hq h]
 rw[arb u rx r];cases rx;have hn:=AQ;rcases hq with hq | hq
 ·rw[agg r' pl hz (I.list hq)];rw[alU hlen r'.length (Calls.call_len_list pl.isList (by simp only[List.size_toArray]<;>omega) ⟨aGc,H,I.tok _,⟨s.toks+1,by rw[aH0 hlen]⟩,q⟩)]
 ·rw[agg r' pl hz (I.tuple hq)];rw[alU hlen r'.length (len_tuple pl (by simp only[List.size_toArray]<;>omega) ⟨aGc,H,I.tok _,⟨s.toks+1,by rw[aH0 hlen]⟩,q⟩)]
def ir.or{f:Value}{r r':ajT}(h:ir X f r)(h':ir X f r'):ir X f (λ xs H Q=>r xs H Q\/r' xs H Q):=by
 intro pins s σ H xs us Q I rs q;rcases q with q | q
 ·exact h pins s σ H xs us Q I rs q
 ·exact h' pins s σ H xs us Q I rs q
def EL:ir X apx (λ xs H Q=>∃p ys,xs=[Δ p]/\(qB X.K H p ys\/CV X.K H p ys)/\∀l,ai7 l->Q (Δ l) (atV ys)):=by
 intro pins s σ H xs us Q I r h;rw[anJ p ys hq h]
 rw[arb u rx r];cases rx
 have fin:∀(bR:x8),aAF ys->aIY->∀(h':Heap)(c':Nat),(∀b o',b7 afB o'->b7 ahZ o') →
   b7 (h'.get? s.heap.objs.size) { cls:=apx,dict:=none,data:=aif bR.toArray c',slots:=#[] }->EP X pins σ Q ajA (alc s):=λ bR r' hz h' c' kp e =>
  abS ajA _ (I.laid (t':=s.toks) kp acT (show iV X.prog X.w _ h' _ (ς ys) from⟨hz,bR,c',r',e⟩)) (q _ (amx acT))
 rcases hq with hq | hq
 ·rw[agg r' pl hz (I.list hq)];have hlen:=r'.length;obtain⟨o,ho,hc,n,hd⟩:=pl.isList;exact call_list_seq p (b5 rfl) ho hc hd (λ h' c' kp e=>fin bR r' hz h' c' kp e) (by simp only[List.size_toArray]<;>omega)
 ·rw[agg r' pl hz (I.tuple hq)];have hlen:=r'.length;obtain⟨o,ho,hc,n,hd⟩:=pl;exact call_list_seq p (c6 rfl) ho hc hd (λ h' c' kp e=>fin bR r' hz h' c' kp e) (by simp only[List.size_toArray]<;>omega)
def C0:ir X arw (λ xs H Q=>∃p ys,xs=[Δ p]/\((qB X.K H p ys/\∀l,ai7 l->Q (Δ l) (aBy l ys))\/(CV X.K H p ys/\Q (Δ p) H))):=by
 intro pins s σ H xs us Q I r h;rw[aAO p ys h h];rw[arb u rx r];cases rx;rcases h with⟨hq,q⟩ | ⟨hq,q⟩
 ·rw[agg r' pl hz (I.list hq)];rw[aaA hlen r'.length (call_tuple_list pl.isList (acO h' kp) (by simp only[List.size_toArray]<;>omega))]
  have I1:afn H (alc s):=I.kept (t':=s.toks) kp
  have I2:asU (aBy h'.objs.size ys) s (h'.push (ajt arw (aif bR.toArray))) :=
   I1.laid (t':=s.toks) (λ b o e=>agH e) acT (show iV X.prog X.w _ _ _ (sT ys) from⟨hz,bR,r',IsTup.new _ _⟩)
  exact abS (Δ h'.objs.size) _ I2 (q _ avv)
 ·rw[agg r' pl hz (I.tuple hq)];exact call_tuple_same pl (asb Δ p q)
abbrev tyV aVf(x:V)aPC:Prop:=match x with
 | c7 _=>T = "str"
 | η _=>T = "int"
 | Δ p=>(T = "list" /\ ∃xs,qB K H p xs)\/(T = "tuple" /\ ∃o,K.lookup p=t9/\o.cls=arw /\ aaz o.dict) ∨
   (T = "dict" /\ ((∃kvs,H p=amo)\/∃kvs,H p=azR))\/(T = "set" /\ ∃S n,H p=ac1 ag7 S n)
 | _=>False
def O5 aQG{T:String}{x:V}aTi aPb(r:RelV x v)(ty:tyV X.K T x H) :
  s.TypeIs v T/\∀a,v=Δ a->∃ob,auI a ob/\aaz ob.dict:=by
 cases x with
 | str z =>
  rw[aib r];cases (show T = "str" from ty)
  rw[aaX (typeIs_str s z t) (λ _ e=>nomatch e)]
 | int i =>
  rw[aib r];cases (show T = "int" from ty)
  rw[aaX (typeIs_int s i t) (λ _ e=>nomatch e)]
 | ref p =>
  cases r;rcases ty with⟨rfl,xs,hq⟩ | ⟨rfl,o,hk,hc,hd⟩ | ⟨rfl,hk⟩ | ⟨rfl,S,n,hk⟩
  ·obtain⟨bR,_,pl,_⟩:=I.list hq;rw[axN pl.isList.typeIs a e];cases e;obtain⟨o,n,e,c,hd,_⟩:=pl;rw[aas o e hd]
  ·rw[axN ⟨o,I.Gy p o hk,hc⟩ a e];cases e;rw[aas o (I.Gy _ o hk) hd]
  ·have z:∃o,s.heap.get? p=t9/\o.ExactDict:=by
    rcases hk with⟨kvs,hk⟩ | ⟨kvs,hk⟩
    ·obtain⟨_,_,_,_,o,_,_,e,ex,_⟩:=I.cQ p _ hk;rw[aas o e ex]
    ·obtain⟨_,_,_,_,o,_,_,e,ex,_⟩:=I.cQ p _ hk;rw[aas o e ex]
   rw[ajq o e ex z ⟨⟨o,e,ex.1⟩,acO a e2⟩];cases e2;rw[aas o e ex.2.1]
  ·obtain⟨o,_,_,_,e,ex,_⟩:=I.cQ p _ hk;rw[axN ⟨o,e,ex.1⟩ a e2];cases e2;rw[aas o e ex.2.1]
 | _=>rw[aoc ty]
abbrev aef aVf aUh(to:TE):TE:=age (to σ H (ado x (tyV K T x H1/\r x [] H1 Q)))
abbrev tBM aVf aUh(to:TE)(t:TA):TE:=age (to σ H (ado x (tyV K T x H1/\t σ H1 (aiE xs (r x xs H2 Q)))))
variable {o e:Expr} {es:acU} {to:TE} {t:TA} {name:Str} {apos dg:Pos} {T id:String} {r:V->ajT}
def XD aVS aWz(ho:aCt)
  aTv aSx:ayI aFz [] (aef X.K T r to):=by
 rw[ajK Q (aLs oQ (auj v ⟨x,H1,I1,r1,ty,q1⟩))];rw[ahJ h1 h2 (O5 I1 r1 ty) ⟨T,id,pa,slot,XE,h1,h2,Calls.callWith_builtin rfl (PySem.evalArgs_none (hm pins s1 σ H1 x [] v [] Q I1 r1 abO q1))⟩]
def aar aVS aWz(ho:aCt)aS1
  aTv
  aVi
  aSx aV4 :
  ayI aFz (e::es) (tBM X.K T r to t):=by
 rw[ajK Q (wpAny_Call_method_late oP O6 oQ rfl (auj v ⟨x,H1,I1,r1,ty,q1⟩))];rw[anC (O5 I1 r1 ty)];refine⟨T,id,pa,slot,XE,h1,h2,?_⟩;have hA:=ha dg pins s1 σ H1 _ I1 q1;rw[hs] at hA ⊢;rw[ans (aDS (by show ai6 (false || ae4 (atz es).any); rw[AX]<;>rfl) ?_) (agj hA us s2 ⟨vs,H2,I2,r2,q2⟩ (hm pins s2 σ H2 x vs v us Q I2 r1 r2 q2))]
universe zE
universe L2
namespace L2
open PySem PySem.Spec PyProof.Rows
abbrev MtM aPq(id:String)aUh:Prop :=
 ∀aTo aRw aSJ aQL aQD,ahX (RelV x v) (alZ->r x xs H Q →
  adT (call (aea id) (v::us)) (EP X pins σ Q) s)
def Vals.one:∀{x:V}aQM,auG [x]->∃u,us=[u]/\atP
 | _,_,aaP r abO=>arS r
def Vals.zero:∀aQM,auG []->us=[]
 | _,abO=>rfl
def Vals.dropLast aQ1(h:alZ):Vals xs.dropLast us.dropLast:=by
 induction h with
 | nil=>rw[al3]
 | cons r t ih =>
  cases t with
  | nil=>rw[al3]
  | cons q t'=>exact aaP r ih
def Vals.eraseIdx:∀aQ1 aPs,alZ->aut (xs.eraseIdx i) (us.eraseIdx i)
 | _,_,_,abO=>abO
 | _,_,0,aaP _ t=>t
 | _,_,i+1,aaP r t=>aaP r (Vals.eraseIdx i t)
def Vals.reverse aQ1(h:alZ):Vals xs.reverse us.reverse:=by
 induction h with
 | nil=>rw[al3]
 | cons r t ih=>rw[ae0 List.reverse_cons List.reverse_cons (Vals.append ih (aaP r abO))]
def Vals.rep aQ1(h:alZ):av2 k (Vals (ayX xs) (ayX us))
 | 0=>abO
 | k+1=>by
  rw[List.replicate_succ,List.replicate_succ,List.flatten_cons,List.flatten_cons];exact Vals.append h (Vals.rep h k)
def Jg aPp(l:af1):l.eraseIdx (l.length-1)=l.dropLast:=by
 induction l with
 | nil=>rfl
 | cons a r ih =>
  cases r with
  | nil=>rfl
  | cons b r =>
   have e:awU a (b::r)-1=(awU b r-1)+1:=by
    rw[d6 h1 (awU a (b::r)=r.length+2) rfl h2 (awU b r=r.length+1) rfl];omega
   rw[e,List.eraseIdx_cons_succ,ih]
   all_goals rfl
def DJ aPp:∀(l:af1)aPs,agS (l.eraseIdx i) l.length
 | [],_=>acT
 | _::_,0=>aq2
 | _::r,i+1=>Nat.succ_le_succ (DJ r i)
def foldl_rep(bR:x8):∀aPS(acc:x8),
  List.foldl (λ x1 x2=>x1++x2) acc.toArray (aLh bR.toArray)=asm (acc++ayX bR)
 | 0,acc=>Ξ
 | k+1,acc=>by
  rw[d6 e (acc.toArray++bR.toArray=asm (acc++bR)) Ξ e2 ((acc++bR)++ayX bR=acc++(auJ (k+1) bR).flatten) (by
   rw[List.replicate_succ,List.flatten_cons,List.append_assoc])]
  rw[← e2,← foldl_rep bR k (acc++bR),← e,List.replicate_succ,List.foldl_cons]
section
variable {X:Cx} {pins:KB} {σ:St} {H:Hp} {s:Shared} {l b:Addr} {xs ys zs:g9}
def Inv.O7{bR its':x8}aPa{f:auX->auX}aQH aPb(hH:H l=agz)
  (e:auI l (aos (aif bR.toArray n)))(hf:f bR.toArray=its'.toArray)(hv:Vals ys its')(hz:aIY) :
  afn (atV ys) (air s (s.heap.update l (Obj.mapSeq f)) t'):=by
 rw[aev q (PySem.IsL.update e f) hf q];refine I.write (x:=l) (e:=l) (by rw[Ω hH trivial]) (b5 rfl) (λ b' u hb hu=>x6 (Heap.get?_update_other s.heap (Obj.mapSeq f) (Ne.symm hb)) hu) (arP q) ?_;exact⟨hz,its',_,hv,q⟩
def Inv.XF{bR:x8}aQH aPb(hv:aAF ys)(hz:aIY) :
  afn (upd H s.heap.objs.size (ς ys)) (air s (s.heap.push { cls:=apx,data:=aif bR.toArray }) t') :=
 I.laid (λ _ _ q=>agH q) acT ⟨hz,bR,0,hv,azc⟩
def Inv.fresh aPb:aN7:=amx acT
def Inv.EM aPb(hH:H l=agz):asH/\∃(bR:x8) (n:Nat),awh/\aA1 bR.length/\auI l (aos (aif bR.toArray n)):=by
 rw[ae3 z bR n r e (I.cQ l _ hH) ⟨z,bR,n,r,r.length,e⟩]
def GK aPa(h:af6 n):acS (Builtin.List.listTooLong n):=by
 unfold Builtin.List.listTooLong;exact decide_eq_false b6
universe zE
section
variable {X:Cx}
abbrev KP:V->ajT:=λ x vs H Q=>∃l xs y,x=Δ l/\vs=[y]/\H l=agz/\xs.length<sizeLine/\Q .bb (atV (xs++[y]))
def DK:MtM X "list.append" KP:=by
 intro pins s σ H x vs v us Q I rx rv h;obtain⟨l,xs,y,rfl,rfl,hH,hz,q⟩:=h;cases rx;rw[adC u ru rv.one];obtain⟨z,bR,n,r,hl,e⟩:=I.EM hH;refine call_meets F.slot_list_append (ajs _ e) F.entry_list_append (F.args_list_append_2 _ _) (PySem.list_append l bR.toArray n u (by rw[aEM])) (aiS e);refine abS .bb _ (I.O7 (its':=bR++[u]) hH e Ξ (r.append (aaP ru abO)) ?_) q;rw[aIb];omega
abbrev KQ:V->ajT:=λ x vs H Q=>∃l b xs zs,x=Δ l/\vs=[Δ b]/\H l=agz/\H b=anb zs/\af6 (xs.length+zs.length)/\Q .bb (atV (xs++zs))
def Mx:MtM X "list.extend" KQ:=by
 intro pins s σ H x vs v us Q I rx rv h;obtain⟨l,b,xs,zs,rfl,rfl,hH,hB,hz,q⟩:=h;cases rx;rw[adC u ru rv.one];cases ru;obtain⟨z,bR,n,r,hl,e⟩:=I.EM hH;obtain⟨z2,GJ,n2,r2,O8,e2⟩:=I.EM hB
 rw[ai3 hsz (af6 aOZ) (by rw[aLR];omega) O9 (¬(ae8 (aOc && aNz aOZ))) (by
  rw[ae0 (GK hsz) Bool.and_false Bool.false_ne_true]) (call_meets F.slot_list_extend (amT e) F.entry_list_extend (F.args_list_extend_2 _ _)
  (AutoSeq1.list_extend_list_list_0 l bR.toArray n b GJ.toArray n2 O9 (by rw[aEM]) b6) (aoN e e2))]
 refine abS .bb _ (I.O7 (its':=bR++GJ) hH e Ξ (r.append r2) ?_) q;rw[aEL]
abbrev aat:V->ajT:=λ x vs H Q=>∃l xs y,x=Δ l/\vs=[]/\H l=agz/\acL xs (asY 1) y/\Q y (atV xs.dropLast)
def XG:MtM X "list.pop" aat:=by
 intro pins s σ H x vs v us Q I rx rv h;obtain⟨l,xs,y,rfl,rfl,hH,hy,q⟩:=h;cases rx;have hus:=rv.zero;subst hus;obtain⟨z,bR,n,r,hl,e⟩:=I.EM hH;obtain⟨u,hu,ru⟩:=r.get hy
 rw[acH hy' (acL bR.toArray (bR.toArray.size-1) u) (by
  show acL bR.toArray (bR.length-1) u;rw[asI Array.getElem?_toList hl hu]) (call_meets F.slot_list_pop (ajs _ e) F.entry_list_pop (F.args_list_pop_1 _) (MeetsSeq.list_pop_last l bR.toArray n u hy' (by rw[aEM])) (aiS e))]
 refine⟨y,_,I.O7 (its':=bR.dropLast) hH e ?_ r.dropLast ?_,ru,q⟩
 ·show aNs (bR.toArray.size-1) bR.dropLast.toArray;rw[List.size_toArray,List.eraseIdxIfInBounds_toArray,Jg]
 ·rw[akB List.length_dropLast]
abbrev Pa:V->ajT:=λ x vs H Q=>∃l xs i k y,x=Δ l/\vs=[η i]/\H l=agz /\ -(2 ^ 63)≤i/\i<2 ^ 63/\b7 (seqIndex? i xs.length) k/\acL xs k y/\Q y (atV (xs.eraseIdx k))
def Pb:MtM X "list.pop" Pa:=by
 intro pins s σ H x vs v us Q I rx rv h;obtain⟨l,xs,i,k,y,rfl,rfl,hH,h1,h2,hk,hy,q⟩:=h;cases rx;rw[adC u ru rv.one];rw[aib ru]
 obtain⟨z,bR,n,r,hl,e⟩:=I.EM hH;rw[aoa w hw CY (r.get hy) (call_meets F.slot_list_pop (amT e) F.entry_list_pop (F.args_list_pop_2 _ _)
  (MeetsSeq.list_pop_at l bR.toArray n i t k w (fitsIndex_both h1 h2) (by rw[List.size_toArray,← hl];exact hk) (by rw[abd Array.getElem?_toList hw]) (by rw[aEM])) (aiS e))]
 refine⟨y,_,I.O7 (its':=bR.eraseIdx k) hH e ?_ (r.eraseIdx k) ?_,CY,q⟩
 ·show aNs k (asm (bR.eraseIdx k));rw[List.eraseIdxIfInBounds_toArray]
 ·rw[ae9 (DJ xs k)]
abbrev Tp:R2:=am8 (∃l b xs zs,x=Δ l/\y=Δ b/\H l=agz/\H b=anb zs/\af6 (xs.length+zs.length)/\∀p,alq->Q (Δ p) (arY (xs++zs)))
def XH:anv Add Tp:=by
 intro pins s σ H x y v u Q I rx ry h;obtain⟨l,b,xs,zs,rfl,rfl,hH,hB,hz,q⟩:=h;cases rx;cases ry;obtain⟨z,bR,n,r,hl,e⟩:=I.EM hH;obtain⟨z2,GJ,n2,r2,O8,e2⟩:=I.EM hB;rw[aiQ (PySem.P.add_list e e2 ?_ (by rw[aLR];omega)) ea (bR.toArray++GJ.toArray=asm (bR++GJ)) Ξ]
 rw[ae2 ea (abS (Δ _) _ (I.XF (t':=s.toks) (r.append r2) (by rw[aEL])) (q _ I.fresh))]
abbrev aau:R2:=am8 (∃l k xs,x=Δ l/\y=η k/\H l=agz /\ -(2 ^ 63)≤k/\k<2 ^ 63/\af6 aKw ∧
 ∀p,alq->Q (Δ p) (arY (aH2 xs).flatten))
def Tq aPp aRM aPS:(aLh xs).flatten.length=k*xs.length:=by
 induction k with
 | zero=>simp
 | succ k ih=>rw[List.replicate_succ,List.flatten_cons,List.length_append,ih,Nat.succ_mul,Nat.add_comm]
def XI:anv Mult aau:=by
 intro pins s σ H x y v u Q I rx ry h;obtain⟨l,k,xs,rfl,rfl,hH,h1,h2,hz,q⟩:=h;cases rx;rw[aib ry]
 obtain⟨z,bR,n,r,hl,e⟩:=I.EM hH
 rw[d6 hlen (af6 aNd) (by rw[List.size_toArray,← hl];exact hz) aeg (¬aNd > (2 ^ 63-1) / 8) (by
  have:afN sizeLine≤(2 ^ 63-1) / 8:=d7
  omega)]
 rw[d6 aeh (¬(ae8 (! Builtin.List.listFitsIndex k))) (by
  rw[aH3 (fitsIndex_both h1 h2)]) O9 (¬(c8 (aNz aNd))) (by
  rw[aH3 (GK hlen)])]
 rw[acH XJ (List.foldl (λ x1 x2=>x1++x2) #[] (auJ (ahy bR.toArray.isEmpty 0 k.toNat) bR.toArray)=(aH2 bR).flatten.toArray) (by
  have f0:av2 m (List.foldl (λ x1 x2=>x1++x2) #[] (aIB bR.toArray)=(aIB bR).flatten.toArray):=λ m=>by
   have:=foldl_rep bR m [];rw[t7 zH this this]
  rw[f0];cases bR with
  | nil=>simp
  | cons a r'=>rw[agL Ξ]) (wpAny_binaryOp_repeat_ref (T := "list") (U := "int") d7 (amT e) (λ s'=>typeIs_int s' k t) noFill_list_mul F.fills_int_mul F.slot_int_rmul repeat_list F.slot_int_index.lookup
  (call_meets F.slot_int_rmul (typeIs_int s k t) F.entry_int_rmul (F.args_int_rmul_2 _ _) (int___rmul___int_list k t l bR.toArray n)
   (ahh e (amT e) (call_meets F.slot_list_mul (ajs _ e) F.entry_list_mul (F.args_list_mul_2 _ _) (AutoListH.list___mul___list_int_3 l bR.toArray n k t aeh aeg O9) (aiS e)))))]
 rw[ae2 XJ (abS (Δ _) _ (I.XF (t':=s.toks) (r.rep k.toNat) (by rw[ae0 Tq Nat.mul_comm hz])) (q _ I.fresh))]
universe zE
section
variable {prog:Program} {w:World} {A:Around} {E:abE} {s:Shared}
universe zE
section
variable {X:Cx}
universe zE
universe L2
namespace Att
open PySem PySem.W PySem.Calls PyProof.Rows
def zt{P:Params}aQk:∀aQW(vs:x8),WellAll P h vs aOC->aCl:=by
 intro ns
 induction ns with
 | nil =>
  intro vs w;rw[zD] at w;cases w;rw[al3]
 | cons n ns ih =>
  intro vs w;rw[zC] at w;cases w with
  | cons a b =>
   cases a;exact aaP _ _ (ih _ b)
def My{l:OpenLaw}aPa aU0{P:Params}aQk{args:List WData}{vals:x8}
  (la:c8 (l.row.toRowW.claim.pre args))(Gs:WellAll P h vals args) :
  ∃a vs ns,vals=[aog]/\args=[WData.list aOC]/\aof a aBV/\aCl/\aJD n:=by
 rw[d6 hsh (c8 (WShape.hasAll [] args [ao2 η])) (pre_splitW la).1 hc (c8 (l.pre.holds [] { args:=args })) (pre_splitW la).2];rw[acM d r h1 h2 (hasAllW_cons hsh)];obtain rfl:=hasAllW_nil h2;rw[adC xs h3 (hasW_list h1)];rw[aiK ns (items_int h3)]
 have hlen:aJD n:=by
  unfold OpenLaw.pre at hc
  have h4:c8 ((WTm.not (.lt (.lit (η afA)) (.len (.arg 0)))).holds [] { args:=[ao2 aAI] }):=by
   have h4:=(holds_andW hc).1;rw[t7 hn h4 h4]
  rw[aev h5 (condW_of h4 (w_not (w_lt w_lit (w_len_list (w_arg rfl))))) zK h5];rw[aiQ (Nat.le_of_not_lt (g8 q)) q' (afA<afW ns.length) b6]
  first
   | (rw[t7 (decide_eq_true q') h5 (absurd h5 d7)])
   | (simp at h5; omega)
 cases Gs with
 | cons w1 w2 =>
  cases w2;cases w1 with
  | list ho OX=>exact⟨_,_,ns,rfl,rfl,ho,zt ns _ OX,hlen⟩
def Mz(l:OpenLaw)(args:List WData):c8 (l.row.toRowW.claim.post args ato args) :=
 postW_of (r:=l.row.toRowW) (X:=(true == true))
  (show c8 (WShape.has [] ato ajF) by first | rfl | decide | simp[WShape.has,WShape.arms,WShape.armsAll])
  (show(WTm.eq .res (.lit ato)).value [] { args:=args,res:=abq ajF true,after:=args }=amC ajF (true == true) from w_eq_bool (w_res rfl) w_lit) rfl
def GL{l:OpenLaw}aPa{q:Program}aWI{YP:World->axW}{d:DefRec}
  aU0 aWr
  (call:∀(w:World)(s₀ s₁:Shared)(mg mb:adp)(fa:Addr)(o:Obj)(pm cd doc:Value)aP3(vs:x8)aQW,
   Ground q loose [] XP w s₀ mg mb s₁.heap->YP w s₁.heap →
   s₁.heap.get? fa=t9->ayZ (.func (docDef d.name d.params d.body d.scope pm cd doc))->s₁.heap.CodeRec cd d.name->mg d.name=aG3 →
   b7 (s₁.heap.get? a) aBV->aCl->aJD n->s₁.gens=#[] →
   avb (model l.prog w) callerA (.call (Δ fa) (amR [Δ a])) (λ r s'=>r=.ok (.ret ato)/\aNe/\aLg/\aAj) s₁) :
  WalkO q loose XP YP l.row.toRowW d [] (λ f vs=>PySem.call f vs):=by
 intro w s₀ s₁ mg mb G Y fa o pm cd doc dV kV ho hd OG hD XM hg args vals as la ahs hrd Gs hlo;obtain rfl:dV=abc:=Dflts.none hD hdf;obtain rfl:kV=abc:=Dflts.noKw hD;obtain⟨a,vs,ns,rfl,rfl,XO,hints,hlen⟩:=My hn la Gs;refine enter_call (codeAny_mono (call w s₀ s₁ mg mb fa o pm cd doc a vs ns G Y ho (fd_plain hd) OG XM XO hints hlen hg) (IL r s' hq));rw[af7 rfl h2 h3 h4 hq ⟨b5 ⟨ato,ato,[],rfl,anm,ato,Mz l _,λ _=>⟨List.Pairwise.nil,abf hm (nomatch hm)⟩⟩,h2,h3,h4⟩]
section
variable {prog:Program} {w:World} {A:Around} {E:abE} {s:Shared} {K:Frag}
abbrev aek aQT(L d:Addr):KB:=ag8 (aLI).filterMap a (if a=L\/a=d then none else ag8 (as1).map o (a,o))
universe zE
universe Att
namespace L2
open PySem PySem.Spec PyProof.Rows
def DL:∀{vs:x8}aRO,aCl->Vals aq5 vs
 | _,_,abO=>abO
 | _,_,aaP n t h=>aaP azb (DL h)
abbrev XQ aPC:Prop:=∀b,ahn\/∃o xs,H b=ac1 .ku o (ς xs)
def Pd aQQ{mg mb:adp}aSm aPg{fa a:Addr}{fd:FuncData}aPl{sp:Sp}{s₁:Shared}{vs:x8}aRO
  (KX:K.In s₁.heap)(MA:s₁.heap.Ns mainGlobals mg)(hb:s₁.heap.Ns builtinsNs mb)(Ts:∀x:Str,awv -> mb x=axi)(ael:s₁.heap.NoLimit)(hg:s₁.gens=#[])
  (ha:b7 (s₁.heap.get? a) aBV)(hi:aCl)(hl:af6 ns.length)(hr:jf k callerA)
  (F:∀base:Heap,aKa->aG4->pN P w K mg base CX k fa fd [x] sp)(aav:∀aPF aQ7,BindsTo s fd (amR [u]) [(x,u)])
  (VU:∀H:Hp,XQ H->qB K H a aq5->sp [Δ a] H (λ v _=>v=af4) λ _ _ _=>False)
  (hCX:∀H e s',CX [] H s₁ (λ _ _ _=>False) e s'->False) :
  avb (model P w) callerA (.call (Δ fa) (amR [Δ a])) (λ r s'=>r=.ok (.ret ato)/\aNe/\aLg/\aAj) s₁:=by
 rw[ZI rv (DL hi) aen hi.length]
 have core:∀H:Hp,XQ H->qB K H a aq5->rf P w H s₁.heap->(∀b,H b≠none->b=a)->(H a≠none->aaz aJK) →
   avb (model P w) callerA (.call (Δ fa) (amR [Δ a])) (λ r s'=>r=.ok (.ret ato)/\aNe/\aLg/\aAj) s₁:=by
  intro H hO hS cQ hA hK;rw[d6 KR (∀aSB,s₁.heap.get? b=t9->ahn->(Eu s₁.heap H).get? b=t9) (λ e n=>OE e n) noA (∀aSB aS2,s₁.heap.get? b=t9->ayZ (.dict es ep)->ahn) (λ{b o es ep} e d=>by
   cases q:H b with
   | none=>rfl
   | some u =>
    have e':b=a:=hA b (by rw[agb q]);rw[alL e' ha e]; cases e;have d':Data.seq vs.toArray _=Data.dict es ep:=d;cases d')]
  rw[d6 nsK (∀{b:Addr}{m:adp},s₁.heap.Ns b m->(Eu s₁.heap H).Ns b m) (λ{b m} ⟨o,es,ep,e,d,r⟩=>⟨o,es,ep,KR e (noA e d),d,r⟩) hKb (K.In (Eu s₁.heap H)) (anZ (KR (KX b o e) (by
   cases q:H b with
   | none=>rfl
   | some u =>
    have e':b=a:=hA b (by rw[agb q])
    rw[alL e' (hK (by rw[agb q])) e]; cases e)))]
  rw[ai3 hM (Mod K mg (Eu s₁.heap H)) ⟨hKb,nsK MA,⟨mb,nsK hb,Ts⟩,let⟨mc,h1,h2⟩:=ael; ⟨mc,nsK h1,h2⟩⟩ e0 (Jb P w K mg (Eu s₁.heap H) callerA [] s₁ H) ⟨rfl,hM,anZ (SA e),Nat.le_of_eq (Mc _ _),trivial,aBx b hb (aAR b ([]:d8) hb),cQ,.of_eq hg⟩ (codeAny_mono ((F _ hKb (nsK MA)).run callerA [] s₁ H (amR [Δ a]) [Δ a] [Δ a] _ _ hr e0 (aav s₁ (Δ a)) (aaP rfl abO) (VU H hO hS)) (IL r s' h))];cases r with
  | error e=>exact(hCX H e s' h).elim
  | ok fl =>
   cases fl with
   | next=>rw[aoc h]
   | brk=>rw[aoc h]
   | cont=>rw[aoc h]
   | ret u =>
    obtain⟨v,H',os,bare,un,XR,r',q⟩:=h;have q':v=af4:=q;subst q';obtain rfl:u=Value.bool true:=r';rw[aup rfl (OldK.of_keep (IL b o e)) os bare];cases q:H b with
    | none=>exact un.keep b o e q (by intro z; rw[akK (aAR b ([]:d8) z) Ξ]) Ξ
    | some u =>
     rcases hO b with z | ⟨ob,xs,z⟩
     ·rw[q] at z; cases z
     ·have z2:=un.nS b ob _ z;obtain⟨e1,_⟩:=cQ b _ z;obtain⟨e2,_⟩:=XR b _ z2;rw[e] at e1; cases e1;exact e2
 cases hk:aJK with
 | some o =>
  rw[aev e (KX a o hk) ha e];cases e;refine core awC (λ _=>b5 rfl) (c6 ⟨_,vs.toArray,_,hk,rfl,rfl,rfl,by rw[aH0 aen]; exact hl,aam rv⟩) (agT u z (by have z':(none:Option HO)=aaZ:=z; cases z')) (aAn b z rfl z) (acZ (absurd rfl z))
 | none =>
  refine core (att b b a (ac1 .ku aBV (ς aq5)) none) (g8 b) (b5 (alx aBV afC)) (IL b u z) (acO b z) λ _=>hk
  ·rw[alT (b=a)]
   ·exact c6 ⟨_,_,if_pos hb⟩
   ·exact b5 aKO
  ·rw[alT (b=a)]
   ·have z':=(aK0 (if_pos hb)) z;cases z';subst hb;exact⟨ha,by rw[alb hl],vs,_,rv,ha⟩
   ·have z':=(aK0 aKO) z;cases z'
  ·rw[alT (b=a)]
   ·exact hb
   ·rw[akK aKO z]
universe L2
namespace L2
open PySem PySem.Spec PyProof.Rows
universe L2
namespace L2
open PySem PySem.Spec PyProof.Rows
structure Pe aPe(x qual:Str)(st:Stmt)(f:Addr)aTQ:Prop where
 ex:∃(oc:Value) (od:auY) (kV doc pm:Value) (an:auY) (lO ct:Value) (VR:aGs),
  fd=PySem.W.fnOf x qual (mQ st) (gM st) (au st) abc kV doc pm an lO ct/\b7 (K.lookup f) ⟨oc,od,.func fd,VR⟩/\c8 (PySem.W.codeIn K lO qual)
 kp:c8 (PySem.W.keepIn K (Δ f))
section
variable {P:Program} {w:World} {K:Fg} {mg:adp} {base:Heap}
def Pe.binds aU7 aTe aWR
  (h:∀aWG(lO ct:Value)aQL,aMN->bindArgs (PySem.W.fnOf x qual (mQ st) (gM st) (au st) abc kV doc pm an lO ct) (amR us)=anH axI):at6:=by
 obtain⟨oc,od,kV,doc,pm,an,lO,ct,VR,rfl,lk,OG⟩:=F.ex;exact .all (h kV doc pm an lO ct)
def vn aU7{f:Addr}{oc:Value}{od an:auY}{VR:aGs}{kV doc pm lO ct:Value}(l:b7 (K.lookup f) ⟨oc,od,.func (PySem.W.fnOf x qual (mQ st) (gM st) (au st) abc kV doc pm an lO ct),VR⟩)
  (c:c8 (PySem.W.codeIn K lO qual))aV5:Pe K x qual st f (PySem.W.fnOf x qual (mQ st) (gM st) (au st) abc kV doc pm an lO ct):=⟨⟨oc,od,kV,doc,pm,an,lO,ct,VR,rfl,l,c⟩,k⟩
universe zE
def DN aPa(h:n≤1000):n<sizeLine:=aNP h
section
variable {X:Cx}
universe zE
def GN{A B:Prop}(h:B):ahy false A B:=by
 rw[Ω ane h]
def GO{A B:Prop}(h:A):ahy true A B:=by
 rw[Ω afC h]
abbrev mq(H H':Hp):Prop:=∀b o,H b=t9->amm=t9
def mq.refl aPC:mq H H:=agG _ _ h
def mq.trans{H H1 H2:Hp}(a:mq H H1)(b:mq H1 H2):mq H H2:=agG c o (b c o (a c o h))
def mq.free{H H':Hp}(e:mq H H'){l:Addr}(h:H' l=Option.none):H l=Option.none:=by
 cases q:H l with
 | none=>rfl
 | some o =>
  rw[ajR (e l o q)];cases h
universe L2
namespace L2
open PySem PySem.Spec PyProof.Rows
section
variable {X:Cx}
def MB:aqm "len" (λ xs H Q=>∃a kvs,xs=[V.ref a]/\H a=amo/\Q aF7 H):=by
 intro pins s σ H xs us Q I r h;rw[anJ a kvs ha h];rw[arb u ru r];cases ru;exact aal I (b5 ha) λ t s' I'=>⟨aF7,H,I',azb,q⟩
universe zE
section
variable {κ:Type} [an8]
universe zE
universe L2
universe zE
end
mutual
section
namespace L2
open PySem PySem.Spec PyProof.Rows
abbrev xI(env:Env):aAv->apU->apU
 | [],acc=>acc
 | (n,k)::r,acc=>xI env r (if ae8 (akl k) then(n,(aIq).getD 0)::acc else acc)
def vo aR9:∀(l:aAv)(acc:apU),(afz l (p.2=ahR->∃c,b7 (env.cells.lookup p.1) c)) →
  (forIn l acc fun(x:Str×NameKind) (cs:apU)=>(if ae8 (akl x.2) then do let a ← cellOf env x.1; pure (ForInStep.yield ((x.1,a)::cs)) else anH (ForInStep.yield cs):Sem (ForInStep apU)))=anH (xI env l acc)
 | [],acc,_=>rfl
 | (n,k)::r,acc,h=>by
  rw[List.forIn_cons];rw[ahN hk (akl k)]
  ·obtain⟨c,hc⟩:=h (n,k) List.mem_cons_self ajD;rw[ajS CU (b7 (env.cells.lookup n) c) hc e1 (cellOf env n) (pure c) (by rw[acP cellOf CU])]
   simp only[hk,if_true,e1];show(forIn r ((n,c)::acc) _:Sem _)=_;rw[aaA ih (vo (env:=env) r ((n,c)::acc) (ahT (h p (ahv hp)))) (ih.trans ?_)];show _=anH (xI env r (if ae8 (akl k) then(n,(aIq).getD 0)::acc else acc));rw[alN hk CU];rfl
  ·have hk':ai6 (akl k):=ajD
   simp only[hk',Bool.false_eq_true,if_false];show(forIn r acc _:Sem _)=_;rw[aaA ih (vo (env:=env) r acc (ahT (h p (ahv hp)))) (ih.trans ?_)];show _=anH (xI env r (if ae8 (akl k) then(n,(aIq).getD 0)::acc else acc))
   rw[agL hk]
def AY aR9 aS0(h:afz scope.names (p.2=ahR->∃c,b7 (env.cells.lookup p.1) c)):closureFor scope env=anH (xI env scope.names []):=by
 unfold closureFor;have:=vo (env:=env) scope.names [] h;show((forIn scope.names ([]:apU) (fun(x:Str×NameKind) (cs:apU)=>(if ae8 (akl x.2) then do let a ← cellOf env x.1; pure (ForInStep.yield ((x.1,a)::cs)) else anH (ForInStep.yield cs):Sem (ForInStep apU))):Sem apU) >>= λ r=>pure r)=_;rw[acR this]
def xJ aR9 aPl aP9:∀{l:aAv}{acc:apU},(afz l (p.2=ahR->∃c,b7 (env.cells.lookup p.1) c))->(∀c,b7 (acc.lookup x) c->b7 (env.cells.lookup x) c) →
  b7 ((xI env l acc).lookup x) c->b7 (env.cells.lookup x) c
 | [],acc,_,ha,h=>ha c h
 | (n,k)::r,acc,hl,ha,h=>by
  refine xJ (l:=r) (ahT (hl p (ahv hp))) ?_ h;intro c' CU;rw[ahN hk (akl k)]
  ·rw[apN hk CU];rw[apB c0 hc0 (hl (n,k) List.mem_cons_self ajD) hc0 (b7 (env.cells.lookup n) c0) hc0];rw[aL4 CU];cases hx:x == n with
   | true =>
    rw[hx] at CU;rw[hc0] at CU
    have e:x=n:=aGN
    rw[ae0 e hc0 CU]
   | false =>
    rw[t7 hx CU (ha c' CU)]
  ·rw[t7 (if_neg hk) CU (ha c' CU)]
def AZ aR9 aPl:∀{l:aAv}{acc:apU},(aMH x∈l\/∃c,b7 (acc.lookup x) c)->∃c,b7 ((xI env l acc).lookup x) c
 | [],acc,h=>by
  rcases h with h | h
  ·exact nomatch h
  ·exact h
 | (n,k)::r,acc,h=>by
  show ∃c,b7 ((xI env r (if ae8 (akl k) then(n,(aIq).getD 0)::acc else acc)).lookup x) c
  refine AZ (l:=r) ?_;rcases h with h | ⟨c,h⟩
  ·rcases asy with e | h
   ·injection e with e1 e2;subst e1 e2;right;rw[agW (by rfl),List.lookup_cons];simp
   ·exact b5 h
  ·right;rw[ahN hk (akl k)]
   ·rw[alN hk List.lookup_cons];cases hx:x == n with
    | true=>exact acV
    | false=>rw[aaX c h]
   ·rw[agL hk];rw[aaX c h]
abbrev ie aPq(scope:Scope)(N:adl)aPL(fp:d8)aPF aPC:Cx :=
 { X with N:=N,s₀:=s,H₀:=H,env:=compEnvC scope aCm C X.env,outer:=X.stack,stack:=X.stack,ex:=fp,fn:=λ _=>false,pn:=[],xe:=ao0 }
abbrev uW aRP(σ:St):St:=my.map λ o=>match o with
 | av6=>(σ[i]?).join
 | none=>none
structure cx aPq(scope:Scope)(N:adl)aRP:Prop where
 kind:scope.kind=aoi
 Pf:aMD y (y.2≠ai8)
 names:aMD y (y.2=amE -> az8 y.1 amE)
 free:aMD y (y.2=ahR->(auH y.1 ai8\/auH y.1 ahR))
 len:my.length=N.length
 my:∀aRU aPM aPs,acL N j x->aiz my j i->arv/\aMH x∈scope.names/\az8 x ahR
def wm aR9:∀{names:aAv}aPl{k:NameKind},b7 (names.lookup x) k →
  b7 ((names.map fun(n,k)=>if (akl k && env.scope.kind == aoi && env.kindOf n == apO) then(n,NameKind.cell) else(n,k)).lookup x) k\/(k=ahR ∧
   b7 ((names.map fun(n,k)=>if (akl k && env.scope.kind == aoi && env.kindOf n == apO) then(n,NameKind.cell) else(n,k)).lookup x) ai8)
 | [],_,_,h=>al5
 | (n,k')::r,x,k,h=>by
  have ih:=@wm env r x k;show List.lookup x ((if ae8 (aHK && env.kindOf n == apO) then(n,NameKind.cell) else(n,k'))::_)=_\/_/\List.lookup x ((if ae8 (aHK && env.kindOf n == apO) then(n,NameKind.cell) else(n,k'))::_)=_;cases hx:x == n with
  | true =>
   simp only[List.lookup_cons,hx] at h;cases h;rw[ahN hc (aHK && env.kindOf n == apO)]
   ·right;rw[aj9 hc];rw[aLv hc];rw[aaX (aam hc.1.1) (by rw[aH1 hx])]
   ·left;rw[agL hc];rw[aH1 hx]
  | false =>
   simp only[List.lookup_cons,hx] at h;rw[ahN hc (aHK && env.kindOf n == apO)]
   ·rw[aj9 hc]; rw[aH1 hx]; exact ih h
   ·rw[agL hc];rw[aH1 hx]; exact ih h
def rf.but aQp aPy{h h':Heap}aP5 aRr(hn:ai7 C)(hs:Heap.SameBut C h h'):rf P w H h':=agT u e (by
 refine(ok b u e).vZ (λ c v hc q=>x6 (hs.2 c ?_) q) (abf q q) λ _ _ q=>q
 rintro rfl;rcases hc with rfl | hc
 ·rw[hn] at e; cases e
 ·rw[hn] at hc; cases hc)
abbrev A0 aPq(ifs:acU)(t:TT):Prop :=
 ∀aPR(Q:atJ),OA->anY →
  adT (forIn ifs true λ c r=>if c8 r then do let ok ← isTrue c X.env (ahr c); pure aOo else anH (ForInStep.yield r)) (TP X pins σ Q) s
abbrev aaw:TT:=λ _ H Q=>Q true H
def Pg aPE:A0 X [] aaw:=λ pins s σ H Q I h=>wpAny_tests_nil ⟨H,I,h⟩
def Ph aPE{c:Expr}{t:TT}(h:apl c t):A0 X [c] t:=λ pins s σ H Q I hw=>wpAny_tests_one (h pins s σ H Q I hw)
abbrev DP(J:It)(g:TG)(tt:TT)aSl(acc:Addr)(Q:asw)aST:Prop :=
 ∃W:ali (aoK g9 aph),(∃m,W 0 m [] σ H)/\∀i m ys σ' H',W i m ys σ' H' →
  (J.stop i H'/\Q H') ∨
  (J.go i H'/\∀x H2,J.yld i H' x H2->g x σ' H2 λ σ3 H3=>tt σ3 H3 λ b H4 =>
   if c8 b then te σ3 H4 λ y H5=>H5 acc=anb ys/\ys.length<sizeLine/\∃m',m'<m/\W (i+1) m' (ys++[y]) σ3 (agP H5 acc (ς (ys++[y])))
   else ∃m',m'<m/\W (i+1) m' ys σ3 H4)
abbrev Pj aRP(wi:TI)(g:TG)(tt:TT)aSl:TE:=λ σ H Q =>
 wi σ H (ado J (∀acc,aA0 acc->DP J g tt te acc (Q (Δ acc)) ay7 (agP H1 acc (ς []))))
def tF aUJ aQA{R:Result->anc}aPK{elt target iter:Expr}{ifs:acU}aS0 aQ8{it acc:Value}aR9(I:ali anc)
  (turn:∀n s,I n s->afe (model prog w) A (pyNext it) (λ r s₁=>match r with
   | none=>R (.ok .next) s₁
   | afw=>ajV (model prog w) A (letOwnedTupleGo target it v) (abf s₁' (ajV (model prog w) A (assign target env v) (λ _ s₂ =>
     ajV (model prog w) A (forIn ifs true λ c r=>if c8 r then do let ok ← isTrue c env (aA9 c); pure aOo else anH (ForInStep.yield r)) (λ ok s₃ =>
      if c8 ok then ajV (model prog w) A (aA9 elt) (λ x s₄ =>
       ajV (model prog w) A (call (aea "list.append") [acc,x]) (abf s₅ (∃m,m<n/\I m s₅)) ao0 s₄) ao0 s₃
      else ∃m,m<n/\I m s₃) ao0 s₂) ao0 s₁')) ao0 s₁) ao0)
  aPf(h:I n s) :
  avb (model prog w) A (.compLoop (.ListComp elt [⟨target,iter,ifs,0⟩] scope pos) 0 it acc env) R s:=by
 refine codeAny_loop rfl I (IL n s hI) n h;show afe _ A ((compTurn (.ListComp elt [⟨target,iter,ifs,0⟩] scope pos) 0 it acc env).onRaise (λ x=>do noteFrame x env; theTreesLotGoes x)) _ _;rw[aiy (wpAny_noted ?_) compTurn_list];refine aL0 (afE (wpAny_mono (turn n s hI) (IL r s₁ h₁) λ _ _ h'=>h'.elim));cases r with
 | none=>rw[aEt h₁]
 | some v =>
  rw[afQ (afE (wpAny_mono h₁ (IL _ s₁' h₁') λ _ _ h'=>h'.elim)) (afE (wpAny_mono h₁' (λ _ s₂ h₂=>afE (wpAny_mono h₂ (IL ok s₃ h₃) λ _ _ h'=>h'.elim)) λ _ _ h'=>h'.elim))];cases ok with
  | false=>rw[aEt (aju h₃)]
  | true =>
   exact afE (afE (wpAny_mono h₃ (λ x s₄ h₄=>afE (wpAny_mono h₄ (λ _ s₅ h₅=>auV (wpAny_pure (aju h₅))) λ _ _ h'=>h'.elim)) λ _ _ h'=>h'.elim))
section
variable {X:Cx} {scope:Scope} {N:adl} {my:aer}
def cx.cells(ok:aui)(xo:X.Ok):afz scope.names (p.2=ahR->∃c,b7 (X.env.cells.lookup p.1) c):=λ p hp e=>xo.has p.1 (ok.free p hp e)
def Jh aQG aRc{h1:Heap}{tk:Nat}(co:aui)aTd(EN:∀b∈fp,axh b)
  (MA:h1.Ns agn awC)(hk:∀b o,(ary ([]:x8)).get? b=t9->aJ8=t9) :
  Inv (ie X scope N agn fp (ain s (ary ([]:x8))) (upd H s.heap.objs.size (ς []))) [] ay7 (upd H s.heap.objs.size (ς []))
   (air s h1 tk):=by
 have cells:=aIU;rw[d6 look (∀x c,b7 ((aCm).lookup x) c->al7) (λ x c e=>xJ cells (ajU c al5) e) I1 (afn (upd H s.heap.objs.size (ς [])) (air s (ary ([]:x8)) s.toks)) (I.XF (t':=s.toks) abO auO)];rw[d6 ahu (∀b o,afB=t9->aCQ) (anZ (ajp akO)) fne (anV asO (b∈X.env.locals::X.fs)) I.Ew];rw[ah8 A2 (aHD ([]:x8)=agn) (Heap.size_push ..) ⟨⟨I.ok.mod,co.kind,I.ok.glob,I.ok.blt,?_,?_,?_,agG x c (nomatch h),I.ok.hd,I.ok.frames,b5 rfl,?_,?_,?_,?_,?_,?_,?_⟩,rfl,I.bare,Un.kept hk,?_,?_,?_,?_,?_,?_,?_⟩]
 ·rw[ax0 (aHD ([]:x8)≤agn) A2 acT]
 ·intro x y c e1 e2;exact I.ok.inj x y c (look x c e1) (look y c e2)
 ·intro x hx;rw[anl (AZ (b5 ?_)) hx (b7 ((aJB aKr) x) ai8\/b7 ((aJB aKr) x) ahR) hx key (∀(l:aAv),(∀y∈l,y.2≠ai8)->(b7 ((l.map fun(n,k)=>if (akl k && aD5 aoi && X.env.kindOf n == apO) then(n,NameKind.cell) else(n,k)).lookup x) ai8 ∨
    b7 ((l.map fun(n,k)=>if (akl k && aD5 aoi && X.env.kindOf n == apO) then(n,NameKind.cell) else(n,k)).lookup x) ahR)->aMH x∈l) (by
   intro l
   induction l with
   | nil=>intro _ h; rw[ao3]
   | cons p r ih =>
    obtain⟨n,k⟩:=p;intro hn h;rw[d6 hn' (∀y∈r,y.2≠ai8) (ao1 y (hn y (ahv hy))) hkc (k≠ai8) (hn (n,k) List.mem_cons_self)];rw[ajR zC];rw[ahN hc (akl k && aD5 aoi && X.env.kindOf n == apO)]
    ·rw[apE];rw[apN hc h];rw[aL4 h];cases hx:x == n with
     | true =>
      have e:x=n:=aGN
      rw[aLv hc]
      have ek:k=ahR:=aam hc.1.1
      rw[e,ek];rw[aLU]
     | false =>
      rw[t7 hx h (ahv (ih hn' h))]
    ·rw[apE];rw[if_neg hc] at h;rw[aL4 h];cases hx:x == n with
     | true =>
      rw[ajR hx]
      have e:x=n:=aGN
      rcases h with h | h
      ·rw[akK aqX hkc]
      ·have ek:k=ahR:=aqX;rw[e,ek];rw[aLU]
     | false =>
      rw[t7 hx h (ahv (ih hn' h))])]
  exact key scope.names co.Pf hx
 ·intro b hb;obtain⟨f0,f1,f2,f3,f4,f5⟩:=hf b hb;rw[aaX (ajp (Nat.lt_succ_of_lt (EN b hb))) (λ x c e=>f4 x c (look x c e))]
 ·intro b o e;exact I1.bs b o e
 ·show X.base.objs.size≤aHD ([]:x8);rw[Ω A2 (Nat.le_succ_of_le (aHZ I.sz))]
 ·intro b o e hb;obtain⟨f0,f1,f2,f3,f4,f5⟩:=hf b hb;rcases f3 with z | z
  ·exact I.ok.OF b o e z
  ·rw[akK (asr akO (aHZ z)) aAi]
 ·intro b hb hm;obtain⟨f0,f1,f2,f3,f4,f5⟩:=hf b hb;rcases List.mem_cons.mp (fne b hm) with z | z
  ·exact f1 z
  ·exact f2 z
 ·exact I1.stack
 ·exact I1.Ey
 ·rw[adv awC MA (aiA j x v e1 e2 e3)];rw[aoh uW e2 zJ e2];cases ec:my[j]? with
  | none=>rw[ec] at e2; cases e2
  | some o =>
   rw[ec] at e2;cases o with
   | none=>cases aIp
   | some i =>
    rw[d6 e2' ((σ[i]?).join=afw) aIp aep aDu (by
     cases q:σ[i]? with
     | none=>rw[q] at e2'; cases e2'
     | some z=>rw[q] at e2'; rw[avq z afw e2'])]
    obtain⟨c1,c2,c3⟩:=co.my j x i e1 ec;rw[apF m hn hl I.loc kx (auH x ai8\/auH x ahR) (co.free (x,ahR) c2 rfl)];rw[ajq u ru lk (hl i x v c1 aep (c6 kx)) (aoN u ru)];rcases lk with⟨k1,_⟩ | ⟨k1,c,hc,yN⟩
    ·rcases kx with z | z<;>(rw[k1] at z; cases z)
    ·refine c6 ⟨?_,c,?_,?_⟩
     ·rcases wm (env:=X.env) c3 with z | ⟨_,z⟩
      ·exact c6 z
      ·exact b5 z
     ·obtain⟨c',CU⟩:=AZ (env:=X.env) (x:=x) (l:=scope.names) (acc:=[]) (b5 c2);rw[aj3 (look x c' CU) hc];cases this;exact CU
     ·rw[ahd oc ho hd yN oc (hk _ _ aCd) hd]
 ·intro x c e;rw[af7 v oc ho hd (I.cell x c (look x c e)) ⟨v,oc,hk _ _ aCd,hd⟩]
 ·show aaz (upd H s.heap.objs.size (ς []) agn);rw[acY aOp (amx aq2)]
 ·intro x c e;exact I1.nN x c (look x c e)
 ·intro p hp;rw[akK (aAR p ([]:KB) hp) Ξ]
 ·exact I1.cQ.kept hk
 ·show aeA ay7=N.length;rw[ahc uW zK co.len]
def comp_back aRK{σ σ':St}aSX aRc{h2:Heap}aTd
  (J:Inv (ie X scope N agn fp (ain s (ary ([]:x8))) (upd H s.heap.objs.size (ς []))) [] σ' H' s')
  (hs:aMv agn s'.heap):asU H' s' h2:=by
 have u1:Un asO fp H (upd H s.heap.objs.size (ς [])) s.heap (ary ([]:x8)) :=
  Un.laid (λ b u e=>agH e) acT I.fresh
 rw[ajG u2 (Un asO fp (upd H s.heap.objs.size (ς [])) H' (ary ([]:x8)) s'.heap) J.base u3 (u1.trans u2)];rw[ai3 hn (ak4 agn) J.free old (∀b o,afB=t9->aJ9=s'.heap.get? b) (anZ (hs.2 b (ajp (Nat.lt_succ_of_lt akO)))) (I.VL (s':=ain s' h2) (ch:=fp) J.os ⟨aiA b o e n h1 h2',aiA b o e n h1 h2',u3.free,am0 e h1,u3.pL,u3.nS,u3.pM⟩ (J.cQ.but hn hs) J.bare ajj)]
 ·rw[ae0 (akT ((ain s' h2:Shared).heap.get? b=aJ9)) (old b o e) (u3.keep b o e n h1 h2')]
 ·rw[af8 sl q (u3.slot b o e n h1 h2') sl (by rw[ae0 (akT ((ain s' h2:Shared).heap.get? b=aJ9)) (old b o e) q])]
 ·rw[af8 o' q (u3.there b o e h1) o' (by rw[ae0 (akT ((ain s' h2:Shared).heap.get? b=aJ9)) (old b o e) q])]
 ·obtain⟨f0,f1,f2,f3,f4,f5⟩:=hf b hb;exact⟨f3,f1,f4,f5⟩
variable {elt iter tg:Expr} {ifs:acU} {wi:TI} {g:TG} {tt:TT} {te:TE} {pos:Pos}
def GP aQG{it:Addr}aRc{tn:ali axW}{J:It}{Q:aC9}{RR:apu (Addr->Result->anc)}
  aTD aPb(T:Turn X.prog X.w X.K tg J fp it tn)(st:aKc 0)(hf:aud)
  (hg:∀C s0 H0,PG (ie X scope N C fp s0 H0) tg g)(hi:∀C s0 H0,A0 (ie X scope N C fp s0 H0) ifs tt)(he:∀C s0 H0,PE (ie X scope N C fp s0 H0) elt te)
  (hw:∀acc,ai7 acc->DP J g tt te acc (Q (Δ acc)) ay7 (ajB acc ς []))
  (hR:∀(H':Hp)aRj(σ':St),Inv (ie X scope N agn fp (ain s (ary ([]:x8))) (upd H s.heap.objs.size (ς []))) [] σ' H' s' →
   ajQ ajA->RR ajA agn (.ok .next) s') :
  adT (newList []) (λ acc s₃=>adT (newFunctionEnv scope X.env.globals aCm [] X.env.qual none abc (some X.env)) (λ aay s₄ =>
   avb (model X.prog X.w) X.A (.compStart (.ListComp elt [⟨tg,iter,ifs,0⟩] scope pos) 0 (Δ it) acc { aay with scope:=aKr }) (RR acc aay.locals) s₄) s₃) s:=by
 rw[acH EN (∀b∈fp,axh b) (aqp (by
  obtain⟨o,e,_⟩:=T.obj _ _ st b hb;rw[atM])) (wpAny_newObj_type (wpAny_newFunctionEnv co.Pf (by intro y hy; simp at hy) (IL h₁ XT XU) co.kind))];dsimp only at XT XU ⊢;have A2:aHD ([]:x8)=agn:=Heap.size_push ..
 rw[A2] at XT XU ⊢
 rw[d6 hk (∀b o,(ary ([]:x8)).get? b=t9->h₁.get? b=t9) (λ b o e =>
  XU.extBut b o (by have:=akO;rw[t7 A2 this (Nat.ne_of_lt this)]) (agH e)) hk0 (∀b o,afB=t9->h₁.get? b=t9) (anZ (hk b o (agH e)))];rw[ajG st1 (tn 0 h₁) (T.keep _ _ _ st λ b _ o e=>hk0 b o e) J1 (Jh (tk:=s.toks+ahK ([]:asV)) co I hf EN (h1:=h₁) (aam XT) hk)];generalize MC:ie X scope N agn fp (ain s (ary ([]:x8))) (upd H s.heap.objs.size (ς []))=Xc at J1 hR
 rw[ajS eP (Xc.prog=X.prog) (by rw[ayK]) eW Xc.w X.w (by rw[ayK])]
 rw[ajS eK (Xc.K=X.K) (by rw[ayK]) eA Xc.A X.A (by rw[ayK])]
 rw[ajS ec (c8 Xc.calm) (by rw[abd MC uX]) eE Xc.env (compEnvC scope aCm agn X.env) (by rw[ayK])]
 rw[d6 ex (Xc.xe=ao0) (by rw[ayK]) hg' (PG Xc tg g) (by rw[abd MC (hg _ _ _)])]
 rw[d6 hi' (A0 Xc ifs tt) (by rw[abd MC (hi _ _ _)]) he' (PE Xc elt te) (by rw[abd MC (he _ _ _)])]
 have IT:∀{H':Hp},(∀b∈fp,ak4 b)->∀b∈fp,zr Xc [] H' b:=λ{H'} hn b hb=>by
  obtain⟨f0,f1,f2,f3,f4,f5⟩:=hf b hb;refine⟨hn b hb,?_,?_,b5 ?_,?_,?_⟩
  ·rw[Ω eE (ajp (Nat.lt_succ_of_lt (EN b hb)))]
  ·rw[← MC];show b∉asO;intro hm;rcases List.mem_cons.mp (I.Ew b hm) with z | z
   ·exact f1 z
   ·exact f2 z
  ·rw[abd MC hb]
  ·intro x c e;rw[t7 eE e (f4 x c (xJ aIU (ajU c al5) e))]
  ·intro p hp;rw[← MC] at hp;rw[akK (aAR p ([]:KB) hp) Ξ]
 obtain⟨W,⟨m0,w0⟩,turn⟩:=hw s.heap.objs.size I.fresh
 rw[d6 fr0 (∀b∈fp,aaz (upd H s.heap.objs.size (ς []) b)) (aqp (by
  rw[ae2 (aS (ajp (EN b hb))) (hf b hb).1])) loop (∀sx:Shared,sx=air s h₁ (s.toks+ahK ([]:asV)) →
   avb (model X.prog X.w) X.A (.compLoop (.ListComp elt [⟨tg,iter,ifs,0⟩] scope pos) 0 (Δ it) ajA (compEnvC scope aCm agn X.env)) (RR ajA agn) sx) (by
  rintro sx rfl;refine tF (λ n s'=>∃i ys σ' H',Inv Xc [] σ' H' s'/\tn i s'.heap/\(∀b∈fp,ak4 b)/\W i n ys σ' H') ?_ m0 ⟨0,[],ay7,_,J1,st1,fr0,w0⟩;rintro n s3 ⟨i,ys,σ3,H3,I3,Z5,Z6,w3⟩;rcases turn i n ys σ3 H3 w3 with⟨stop,qn⟩ | ⟨go,step⟩
  ·rw[aj3 (T.done Xc eP eW eK ec i [] s3 σ3 H3 ao0 I3 (IT Z6) Z5 stop) eA];refine ahw this r s4 ⟨hr,I4⟩;rw[aeq hr (hR H3 s4 σ3 I4 qn)]
  ·rw[aj3 (T.item Xc eP eW eK ec i [] s3 σ3 H3 ao0 I3 (IT Z6) Z5 go) eA];refine ahw this r s4 ⟨u,hr,h4⟩
   subst hr
   refine ahw h4 _ s5 ⟨x,H5,I5,r5,y5,W6,fr5⟩;rw[ZI I5' (I5.pinned (IT fr5) (T.obj _ _ W6)) a1 (hg' _ s5 σ3 H5 x u _ I5' r5 (step x H5 y5))];rw[eP,eW,eA,eE,ex] at a1;rw[amJ (ahw a1 _ s6 ⟨σ6,H6,I6,q6⟩) a2 (hi' _ s6 σ6 H6 _ I6 q6)];rw[eP,eW,eA,eE,ex] at a2;rw[aiQ (ahw a2 b s7 ⟨H7,I7,q7⟩) again (∀{σ8:St}{H8:Hp}{s8:Shared}{zs:g9},Inv Xc ([]++AN fp s5.heap) σ8 H8 s8->(∃m',m'<n/\W (i+1) m' zs σ8 H8)->∃m,m<n/\∃i ys σ' H',Inv Xc [] σ' H' s8/\tn i s8.heap/\(∀b∈fp,ak4 b)/\W i m ys σ' H') (λ{σ8 H8 s8 zs} I8 ⟨m',hm,w8⟩=>by
    refine⟨m',hm,i+1,zs,σ8,H8,I8.v7,T.keep _ _ _ W6 λ b hb o e=>(I8.pin (b,o) (aqU (aqU (rg hb e)))).1,ajj,w8⟩;rw[aHP o e d (T.obj _ _ W6 b hb) (I8.pin (b,o) (aqU (aqU (rg hb e)))).2.1])]
   cases b with
   | false =>
    rw[akU ane q7 (again I7 q7)]
   | true =>
    rw[afC] at q7 ⊢;have a3:=he' _ s7 σ6 H7 _ I7 q7;rw[eP,eW,eA,eE,ex] at a3;rw[amJ (ahw a3 v s8 ⟨y,H8,I8,r8,q1,q2,q3⟩) a4 (DK (X:=Xc) _ s8 σ6 H8 ajA [y] ajA [v] (abf H' (∃m',m'<n/\W (i+1) m' (ys++[y]) σ6 H')) I8 rfl (aaP r8 abO) ⟨_,ys,y,rfl,rfl,q1,q2,q3⟩)];rw[eP,eW,eA,ex] at a4;exact agj a4 _ s9 ⟨_,H9,I9,_,q9⟩ (again I9 q9))]
 exact codeAny_compStart_list (loop _ rfl) (T.self X.A 0 _ _ _ st1 (loop _ rfl))
def Tt aWM
  aVy
  aSu:aeM (.ListComp elt [⟨tg,iter,ifs,0⟩] scope pos) (Pj my wi g tt te):=by
 intro pins s σ H Q I h;rw[eval_ListComp];rw[afQ (wpAny_comprehension_free (use:=none) rfl hs (AY aIU) co.kind co.names ?_) (agj (Aq pins s σ H _ I h) v s1 h1 (ahw h1 itv s2 h2))];obtain⟨it,fp,tn,J,H2,e,I2,T,Z4,f2,w⟩:=h2;subst e;refine GP (RR:=λ acc C=>compPost (model X.prog X.w) X.A X.xe none (EP X pins σ Q) acc C) co uX I2 T Z4 f2 (λ C=>hg C fp) (λ C=>hi C fp) (λ C=>he C fp) w (aeB H' s' σ' J' q);obtain⟨m,hn,_⟩:=J'.loc;rw[aas m hn (λ h' tH=>abS (Δ _) H' (comp_back I2 f2 J' tH) q)]
def Ji aPt{y:Str}{py Pm:Pos}aWM
  aVy
  aRi(hy:ah0 X.N y)(hx:aLi y)aVm
  aVo
  aSu:PS X (aoy [ac6 y py] (.ListComp elt [⟨tg,iter,ifs,0⟩] scope pos) Pm) (WZ (Pj my wi g tt te) (KG i)):=by
 intro pins s σ H D I h
 rw[exec_Assign_Name_used _ _ _ _ hsw]
 refine aL0 (wpAny_bind ?_);show wpAny _ _ (do let _ ← comprehension (.ListComp elt [⟨tg,iter,ifs,0⟩] scope pos) scope X.env _ (newList []) false (ahr iter) (f7 (auS (ac6 y py)))) _ _ s;rw[afQ (afE (auh (wpAny_comprehension_free (use:=f7 (auS (ac6 y py))) (Q:=abf s' (SP X pins D .next s')) rfl hs (AY aIU) co.kind co.names ?_) (λ _ s' hq=>auV (wpAny_pure hq)) e e)) (agj (Aq pins s σ H _ I h) v s1 h1 (ahw h1 itv s2 h2))];obtain⟨it,fp,tn,J,H2,e,I2,T,Z4,f2,w⟩:=h2;subst e
 refine GP (Q:=ado v (KG i v σ H1 D.nx)) (RR:=λ acc C=>compPost (model X.prog X.w) X.A X.xe (f7 (auS (ac6 y py))) (abf s' (SP X pins D .next s')) acc C) co uX I2 T Z4 f2 (λ C=>hg C fp) (λ C=>hi C fp) (λ C=>he C fp) w (aeB H' s' σ' J' q)
 obtain⟨m,hn,_⟩:=J'.loc;have B:=comp_back (h2:=s'.heap) I2 f2 J' (Heap.SameBut.refl ..);show ajV _ _ (aI7 (ac6 y py) aBP) _ _ _;rw[d6 hnC (ak4 aCS) J'.free hCL (az5 aCS) (Nat.ne_of_gt (Nat.lt_succ_of_lt I2.lt))]
 rw[acH hCc (∀x c,al7->c≠aCS) (λ x c e z=>by
  obtain⟨v,q'⟩:=I2.cell x c e;have:=q'.lt;rw[t7 z this (axZ this (Nat.not_lt.mpr aq2))]) (wpAny_assign_Name (Dx (s:=ain s' s'.heap) B hN hy hx (v:=aBP) rfl (IL s3 I3 ⟨a,hsb,ha⟩) hf))]
 have hCa:aCS≠a:=by
  rcases ha with z | z
  ·rw[Ω z hCL]
  ·exact adm (hCc y a z e.symm)
 rw[adv m (hn.sameBut hsb hCa) (acO h' tH)];rw[aup _ H' (I3.turned (t':=s3.toks) (it:=aCS) (λ b o hb e=>x6 (tH.2 b hb) e) hnC hCL (c6 (Nat.le_succ_of_le I2.sz)) hCc (IL p hp z)) q];have:=Heap.lt_size (I2.pin p hp).1
 rw[t7 z this (axZ this (Nat.not_lt.mpr aq2))]
universe zE
universe L2
universe zE
end
mutual
section
namespace L2
open PySem PySem.Spec PyProof.Rows
structure XS aQO(outer:agy)aPC aPF(e:Addr)(cls:Value)(H':Hp)aRj:Prop where
 os:s'.os=s.os
 bare:aAj
 fly:∃(B:Heap) (a0:Value),Heap.FlyingW B outer e cls a0 s'.heap/\rf P w H' B/\(∀b o,afB=t9->ahn->b∉apQ->aFp=t9) ∧
  ∀b o,afB=t9->b∉apQ->∃o',b7 aFp o'
 slot:∀b o,afB=t9->ahn->b∈apQ->∃sl,b7 (s'.heap.get? b) { o with slots:=sl }
 free:∀b o,afB=t9->ahn->ak4 b
 pL:∀b xs,H b=al0->amm=al0
 nS:∀b o u,H b=ac1 .ku o u->amm=ac1 .ku o u
 pM:∀b ps,H b=abq .IF ps->∃more,amm=amC .IF (ps++more)
abbrev tq aQO:GB:=λ outer H s E ev s'=>∃(e:Addr) (cls:Value) (H':Hp),ev=Δ e/\XS P w outer H s e cls H' s'/\E cls none H'
def XS.un aQp aRE aSX{e:Addr}{cls:Value}aUx:Un apQ [] H H' s.heap s'.heap:=by
 obtain⟨B,a0,f,cQ,k1,k2⟩:=x.fly;refine⟨λ b o q n hb _=>f.1 b o (k1 b o q n hb),λ b o q n hb _=>x.slot b o q n hb,λ b o q n _=>x.free b o q n,am0 q _,x.pL,x.nS,x.pM⟩;rw[alT (b∈apQ)]
 ·obtain⟨_,o',ho,_⟩:=f.2.2.1.mem hb;rw[aaX o' ho]
 ·rw[af8 o' ho (k2 b o q hb) o' (f.1 b o' ho)]
def XS.cQ aQp aRE aSX{e:Addr}{cls:Value}aUx:rf P w H' s'.heap:=by
 obtain⟨B,a0,f,cQ,k1,k2⟩:=x.fly;exact cQ.kept (agT o q (f.1 b o q))
def Tu aRt{N:adl}aTP aTF aQA aRE aPK aPy aQN :
  Passes (tq P w) (lT (tq P w) P w K mg base N qual scope f cd A outer s H E) E:=by
 intro pins σ H1 s1 ev s2 I h;obtain⟨e,cls,H2,rfl,x,q⟩:=h;obtain⟨B,a0,fl,cQ,k1,k2⟩:=x.fly;have Tv:(A.deeper (envOfC qual scope s.heap.objs.size f cd)).frames=f7 aA7:=I.ok.frames;show ajV (model P w) (A.deeper (envOfC qual scope s.heap.objs.size f cd)) (leaving (envOfC qual scope s.heap.objs.size f cd) (Δ e)) _ _ s2;rw[anl (wpAny_leaves_onW Tv rfl fl (atp fl' up)) hL (∀b o,afB=t9->aCQ) (agT o q (aD8 q)) nf (∀b o,afB=t9->b∉apQ->b∉atF) (λ b o q hb hm=>by
  rw[aoh sU hm List.filterMap_cons hm];rcases aOa with z | z
  ·exact hL b o q z
  ·exact hb z)]
 rw[ah8 nx (∀b:Addr,b∉([]:d8)) (λ b z=>asx z) (asi e cls H2 ⟨x.os.trans I.os,x.bare,⟨B,a0,fl',cQ,aCu,am0 q hb⟩,aCu,am0 q n,λ b xs q=>x.pL b xs (aI5 b q),λ b o u q=>x.nS b o u (aEz b u q),ajk ps⟩ q)]
 ·exact k1 b o (I.base.keep b o q n hb (nx b)) (I.base.free b o q n (nx b)) (nf b o q hb)
 ·rw[aeO o1 q1 (I.base.there b o q (nx b)) (k2 b o1 q1 (nf b o q hb))]
 ·rw[apB sl q1 (I.base.slot b o q n hb (nx b)) hm (b∈atF) (by
   rw[ahc sU List.filterMap_cons (ahv hb)])]
  obtain⟨sl2,q2⟩:=x.slot b _ q1 (I.base.free b o q n (nx b)) hm;obtain⟨_,o3,q3,XV⟩:=fl.2.2.1.mem hm
  rw[q2] at q3;cases q3;rw[af8 Om q4 (up b _ q2 XV) Om q4]
 ·rw[aeO o1 q1 (I.base.there b o q (nx b)) (x.free b o1 q1 (I.base.free b o q n (nx b)))]
 ·obtain⟨m1,e1⟩:=I.base.pM b ps q;rw[af8 m2 e2 (x.pM b _ e1) (m1++m2) (ag3 e2 Array.append_assoc)]
structure Tw aTf aPM aPL:Prop where
 name:mg x=alO C
 exc:PySem.W.excIn K C [ad6 "ValueError",ad6 "Exception",aF1,aB0] "ValueError.__new__" = true
def Tw.own aPG{mg:adp}aPl aP5 aQk(X:auf x C)(KX:K.In h):OwnCls x C [ad6 "ValueError",ad6 "Exception",aF1,aB0] "ValueError.__new__" mg h:=by
 have q:=X.exc;rw[aej X.name ?_];unfold PySem.W.excIn at q;split at q
 ·rename_i dd cd sl ho;split at q
  ·rename_i C' bm k0 k1 k2 k3 n k5 hm hs;simp only[Bool.and_eq_true,beq_iff_eq,Bool.not_eq_true'] at q;obtain⟨⟨⟨⟨⟨rfl,rfl⟩,aaB⟩,ht⟩,cQ⟩,hni⟩:=q;obtain⟨nm,bs,mro,ns,qn,hd,sn,sub,ab,col,del⟩:=cd;dsimp only at hm aaB cQ hni;subst hm aaB
   have sW:sl=#[k0,k1,k2,k3,abq aea "ValueError.__new__",k5]:=by
    obtain⟨l⟩:=sl;simp only at hs;rw[hs]
   subst sW;exact⟨bm,ns,nm,qn,bs,hd,sn,sub,ab,col,dd,k0,k1,k2,k3,k5,_,KX _ _ ho,.of_isNs (PySem.W.isNs_of_in KX cQ),PySem.W.nsMap_none_of_in KX cQ hni,PySem.W.tail_of_in KX ht⟩
  ·cases q
 ·cases q
abbrev XW aPL(E:XK)(ta:TA):TS:=anW (ta σ H (ado vs (aML/\E (Δ C) none H1)))
def GQ aRt{N:adl}aTP aTF aQA aRE aPK aPy aQN
  aPl aP5{np dg pos:Pos}{e₀:Expr}{rest:acU}{ta:TA}(M:auf x C)(hh:aaz (A.deeper (envOfC qual scope s.heap.objs.size f cd)).handled)
  (hg:Gl (lT (tq P w) P w K mg base N qual scope f cd A outer s H E) x)(ha:PA (lT (tq P w) P w K mg base N qual scope f cd A outer s H E) (e₀::rest) ta)
  aRB
  aVk
  aWs :
  PS (lT (tq P w) P w K mg base N qual scope f cd A outer s H E) (.Raise (f7 (afy (ac6 x np) (e₀::rest) [] dg)) none pos) (XW C E ta):=by
 intro pins s1 σ H1 D I h;have O:=M.own I.Gy;obtain⟨tl,Nn,nm,q,bs,hdct,sn,sub,ab,col,dd,k0,k1,k2,k3,k5,mN,hC,hN,hni,T⟩:=(M.own (I.ok.mod.Zx)).obj;rw[apL FB PySem.F.excBase_ValueError AX (amB (backTo dg (starEach (e₀::rest) (envOfC qual scope s.heap.objs.size f cd))).any) (by
  rw[he]; show ai6 (false || ae4 (aLd).any); rw[acR sV]) (wpAny_Raise_call_subT (C:=C) (nm:=nm) (q:=q) (N:=Nn) (bs:=bs) (bm:=tl) (hdct:=hdct) (sn:=sn) (sub:=sub) (ab:=ab) (col:=col) (dd:=dd) (k0:=k0) (k1:=k1) (k2:=k2) (k3:=k3) (k5:=k5)
  FB (mN:=mN) (T.hasType FB.hasBase) hh AX hni (v5 I hg M.name (aju ?_) hd))]
 rw[ZI hA (ha dg pins s1 σ H1 _ I h) hA' hA];show ajV (model P w) (A.deeper (envOfC qual scope s.heap.objs.size f cd)) (evalArgs (Δ C) true (backTo dg (starEach (e₀::rest) (envOfC qual scope s.heap.objs.size f cd))) []) _ _ s1;have hA2:ajV (model P w) (A.deeper (envOfC qual scope s.heap.objs.size f cd)) (spliced (backTo dg (starEach (e₀::rest) (envOfC qual scope s.heap.objs.size f cd)))) (AP (lT (tq P w) P w K mg base N qual scope f cd A outer s H E) pins σ _) _ s1:=hA
 rw[he] at hA2 ⊢;refine Calls.evalArgs_plain (auh hA2 (IL us s2 ⟨vs,H2,I2,r2,hlen,q2⟩) y y)
 refine⟨rfl,by rw[abd r2.length hlen],I2.bk _ _ hC,hN.keeps I2.bk,T.keeps I2.bk,atp e mk⟩;rw[ajS L0 (s.heap.objs.size<s2.heap.objs.size) I2.lt Tv (A.deeper (envOfC qual scope s.heap.objs.size f cd)).frames (f7 aA7) I2.ok.frames];rw[d6 FF (s2.heap.FunFrames base aA7) I2.stack EN (∀env∈aA7,∀b,b7 env.frame b->b∈atF) (λ env he b hb=>List.mem_filterMap.mpr ⟨env,he,hb⟩)];show ajV (model P w) (A.deeper (envOfC qual scope s.heap.objs.size f cd)) (leaving (envOfC qual scope s.heap.objs.size f cd) (Δ e)) _ _ (alc s2);rw[anl (wpAny_leaves_madeW (base:=PySem.W.hideAll s2.heap atF) Tv rfl (agT o q (PySem.W.of_hideAll _ q)) (PySem.W.funFrames_hide FF EN) mk (aiA h2 t x1 x2 x3 x4)) nx (∀b:Addr,b∉([]:d8)) (λ b z=>asx z) hL (∀b o,afB=t9->aCQ) (agT o q (aD8 q))]
 rw[d6 nf (∀b o,afB=t9->b∉apQ->b∉atF) (λ b o q hb hm=>by
  rw[aoh sU hm List.filterMap_cons hm];rcases aOa with z | z
  ·exact hL b o q z
  ·exact hb z) XX (∀b o,H2 b=t9->b∉atF) (λ b o q hm=>by
  rw[aj3 (I2.Ey b hm) q];cases this)]
 rw[ah8 ahF (∀b y,H2 b=abq .own y->b∉atF) (agT y q (XX b _ q)) (asi e (Δ C) H2 ⟨I2.os,I2.bare,⟨_,Δ t,x1,ajk o,aCu,am0 q hb⟩,aCu,λ b o q n=>I2.base.free b o q n (nx b),I2.base.pL,I2.base.nS,I2.base.pM⟩ q2)]
 ·refine(I2.cQ b o q).vZ (λ c v hc z=>aH5 z ?_) (abf z z) λ _ _ z=>z;rcases hc with rfl | hc
  ·exact XX _ _ q
  ·exact XX _ _ hc
 ·exact aH5 (I2.base.keep b o q n hb (nx b)) (nf b o q hb)
 ·rw[af8 o' q' (I2.base.there b o q (nx b)) o' (aH5 q' (nf b o q hb))]
 ·rw[apB sl q1 (I2.base.slot b o q n hb (nx b)) hm (b∈atF) (by
   rw[ahc sU List.filterMap_cons (ahv hb)])]
  obtain⟨_,o3,q3,XV⟩:=FF.mem hm
  rw[q1] at q3;cases q3;rw[af8 Om q4 (x4 b _ (mk.keeps _ _ q1) XV) Om q4]
universe L2
universe zE
section
namespace L2
open PySem PySem.Spec PyProof.Rows
abbrev MD(e C:Addr):HO:=ag8 .ext h (∃ob vs,aof e ob/\ob.cls=Δ C/\ayh (ahe vs))
noncomputable abbrev Cx.tr aPq(pn:KB)(E:abE):Cx:={ X with pn:=pn,xe:=E }
abbrev uw(CX:GB)aQq:Prop:=∀(pins:KB)aST aPF aTW,ahX (CX X.stack H s (Ex σ) e s') (X.xe e s')
abbrev XY(sp:Sp)(Mq:g9)aR5(t:TA):TE:=age (t σ H (ado vs (sp (vs++Mq) H1 Q (Ex σ))))
abbrev Pn aPL(m:Str)(sp:Sp)(Mq:g9)aR5(ta:TE)(t:TA):TE:=age (ta σ H (ado x (∃a dx fs,x=Δ a/\H1 a=at9/\aaz (fs.lookup m) ∧
 t σ H1 (aiE vs (sp (x::(vs++Mq)) H2 Q (Ex σ))))))
section
variable {X:Cx} {CX:GB} {k:Nat} {f C:Addr} {fd:FuncData} {ps:adl} {sp:Sp} {Mq:g9} {ds:x8} {Ex:St->XK} {x m:Str} {p pos apos:Pos} {e o:Expr} {es:acU} {ta:TE} {t:TA}
def EO aQG aP2 aQM aQu aSU aSb aUt aTM
  aPb(r:avL)(h:sp (vs++Mq) H Q (Ex σ)):adT (call (Δ f) us) (EP X pins σ Q) s:=by
 rw[ai3 r2 (aut (vs++Mq) (us++ds)) (r.append hd) hl (aKp (us++ds)) (by rw[abd r2.length (F.len _ _ _ _ h)]) (wpAny_call (codeAny_mono (F.run X.A X.stack s H (amR us) (us++ds) (vs++Mq) Q (Ex σ) hr I.aag (hb s us I.Gy hl) r2 h) (IL r s' hq)))];cases r with
 | error e=>exact hx pins σ H s e s' I hq
 | ok fl =>
  cases fl with
  | ret u=>exact I.after hq
  | next=>rw[aoc hq]
  | brk=>rw[aoc hq]
  | cont=>rw[aoc hq]
def Po aSU aSb(hg:aml)(hm:aB9=alO f)(hk:c8 (PySem.W.keepIn X.K (Δ f)))aUt aTM
  aS1 aTE aRX :
  aeM (afy (ac6 x p) (e::es) [] pos) (XY sp Mq Ex t):=by
 intro pins s σ H Q I h;rw[afQ (axe (v5 I hg hm ?_ Jc)) (PySem.W.callWith_K (h₀:=X.base) I.ok.mod.Zx hk (agj (ha pos pins s σ H _ I h) us s1 ⟨vs,H1,I1,r,q⟩ (aiS I1.Gy)) he sV)];exact EO F hr hb hd hx I1 r q
def Pp{pl:aBa}(he:aeM o ta)aWA aSU aSb aUt aTM aS1
  aVB
  aVg :
  aeM (afy (aio o m apos) (e::es) [] pos) (Pn C m sp Mq Ex ta t):=by
 intro pins s σ H Q I h
 refine PySem.W.methodCall_KW (pl:=pl) (amN (he pins s σ H _ I h) u ⟨x,H1,I1,rx,a,dx,fs,ex,ea,l,q⟩) ht
 subst ex
 obtain rfl:u=aog:=rx;rw[afQ (AR I1 ea c hm l ?_) (PySem.W.callWith_K (first:=[Δ a]) (h₀:=X.base) I.ok.mod.Zx hm.kp (agj (ha pos pins s1 σ H1 _ I1 q) us s2 ⟨vs,H2,I2,r,q2⟩ (aiS I2.Gy)) Gz sV)]
 exact EO (us:=Δ a::us) (vs:=Δ a::vs) F hr hb hd hx I2 (aaP rfl r) q2
universe zE
def XS.next aQp aRE aSX{e:Addr}{cls a0:Value}{B h':Heap}aUx
  (f:Heap.FlyingW B outer e cls a0 s'.heap)(cQ:rf P w H' B)(k1:∀b o,afB=t9->ahn->b∉apQ->aFp=t9)(k2:∀b o,afB=t9->b∉apQ->∃o',b7 aFp o')
  (f':Heap.FlyingW B outer e cls a0 h')(up:s'.heap.UpToSlots h'):XS P w outer H s e cls H' (alc s'):=by
 refine⟨x.os,x.bare,⟨B,a0,f',cQ,k1,k2⟩,aCu,x.free,x.pL,x.nS,x.pM⟩;obtain⟨sl,q1⟩:=x.slot b o q n hb;obtain⟨_,o3,q3,XV⟩:=f.2.2.1.mem hb;rw[q1] at q3;cases q3;rw[af8 Om q4 (up b _ q1 XV) Om q4]
def XS.Pq aPE aRK{σ:St}aSX{e C:Addr}aPb(x:XS X.prog X.w X.stack H s e (Δ C) H' s')(Gz:aGi)(hdct:∃ob vs,b7 (s'.heap.get? e) ob/\ob.cls=Δ C/\ayh (ahe vs)) :
  ak4 e/\afn (agP H' e (MD e C)) s':=by
 obtain⟨B,a0,f,cQ,k1,k2⟩:=id x.fly;rw[d6 hBe (aaz aFo) f.2.1 hen (ak4 e) (by
  cases q:H' e with
  | none=>rfl
  | some u =>
   have h1:=cQ.lt q
   have:∃o,aFo=t9:=by
    have z:=cQ e u q;cases u with
    | lst xs=>obtain⟨_,_,_,_,z⟩:=z;rw[afi z]
    | tup xs=>obtain⟨_,_,_,o,z,_⟩:=z;rw[afi z]
    | dK kvs=>obtain⟨_,_,_,_,o,_,_,z,_⟩:=z;rw[afi z]
    | dT kvs=>obtain⟨_,_,_,_,o,_,_,z,_⟩:=z;rw[afi z]
    | set S n=>obtain⟨o,_,_,_,z,_⟩:=z;rw[afi z]
    | ins C dx fs=>rw[aLB z z z]
    | own y=>obtain⟨_,z⟩:=z;rw[afi z]
    | xd fs=>obtain⟨_,⟨_,_,_,z,_⟩,_⟩:=z;rw[afi z]
    | Gx lo hi=>obtain⟨_,_,_,z⟩:=z;rw[afi z]
    | ku ob u=>obtain⟨z,_⟩:=z;rw[afi z]
    | IF ps=>rw[afi (aEs aFo _ z)]
    | met f y=>rw[afi (aEs aFo _ z)]
    | ext φ=>obtain⟨_,⟨_,z⟩,_⟩:=z;rw[afi z]
   obtain⟨o,z⟩:=this
   rw[hBe] at z;cases z)]
 rw[aot ob he hc hd hdct]
 rw[anu hnf (e∉asO) hm (by
  obtain⟨_,o3,q3,XV⟩:=f.2.2.1.mem hm;rw[he] at q3;cases q3;exact XV vs hd) new (∀b o,afB=t9->b≠e) (λ b o q z=>by
  subst z;obtain⟨o',q'⟩:=k2 b o q hnf;rw[hBe] at q';cases q')]
 rw[ajG VD (∀b o,H b=t9->b≠e) (agT o q (by
  have qj:∃o',b7 afB o':=by
   have z:=atu o q;cases o with
   | lst xs=>obtain⟨_,_,_,_,z⟩:=z;rw[afi z]
   | tup xs=>obtain⟨_,_,_,o,z,_⟩:=z;rw[afi z]
   | dK kvs=>obtain⟨_,_,_,_,o,_,_,z,_⟩:=z;rw[afi z]
   | dT kvs=>obtain⟨_,_,_,_,o,_,_,z,_⟩:=z;rw[afi z]
   | set S n=>obtain⟨o,_,_,_,z,_⟩:=z;rw[afi z]
   | ins C dx fs=>rw[aLB z z z]
   | own y=>obtain⟨_,z⟩:=z;rw[afi z]
   | xd fs=>obtain⟨_,⟨_,_,_,z,_⟩,_⟩:=z;rw[afi z]
   | Gx lo hi=>obtain⟨_,_,_,z⟩:=z;rw[afi z]
   | ku ob u=>obtain⟨z,_⟩:=z;rw[afi z]
   | IF ps=>rw[afi (aEs afB _ z)]
   | met f y=>rw[afi (aEs afB _ z)]
   | ext φ=>obtain⟨_,⟨_,z⟩,_⟩:=z;rw[afi z]
  rw[aeO o' z qj (new b o' z)])) u x.un];rw[aej hen (I.VL (ch:=[]) x.os ⟨u.keep,u.slot,aeB b o q n z,u.there,ajk xs,am0 v q,ajk ps⟩ (ajk o) x.bare (aBx b z z))]
 ·rw[acY (new b o q) (u.free b o q n z)]
 ·rw[acY (VD b _ q) (u.pL b xs q)]
 ·rw[acY (VD b _ q) (u.nS b o v q)]
 ·rw[af8 m q' (u.pM b ps q) m (by rw[acY (VD b _ q) q'])]
 ·have XR:=x.cQ
  rw[alT (b=e)]
  ·rw[azs];cases q;rw[adv (alz ob he hc hd) ⟨ob,he⟩ (acI h1 h2 p k)];rw[ae3 ob' vs' z1 z2 z3 p ⟨ob',vs',k _ z1,z2,z3⟩]
  ·rw[aBq ao4 q ((XR b o q).vZ (λ _ _ _ z=>z) (acO c z) (IL c xs z))]
   ·rw[acY (λ zz=>by rw[zz,hen] at z; cases z) z]
   ·rw[acY (λ zz=>by rw[zz,hen] at z; cases z) z]
abbrev V1 aPe(Cb:Addr)(iy iN:Nat)(nx:aph):St->XK:=λ σ cls _ H'=>∃C,cls=Δ C/\au7 (PySem.W.exmOne K (Δ C) (Δ Cb)) ∧
 ∀e,ak4 e->nx ((σ.set iy (alO e)).set iN none) (agP H' e (MD e C))
section
variable {X:Cx}
def XZ{x n y:Str}{Cb:Addr}{iy iN:Nat}aVW{tb:(St->XK)->TS}aQp(eP:X.prog=P)(eW:X.w=w)
  (Gz:aGi)(Tv:aMC)(uX:ah1)aRi
  (hx:aml)(hm:aB9=alO Cb)(hy:acL X.N iy y)(ly:axF y)(hn:acL X.N iN n)(ln:axF n)
  (hb:∀(pn:KB)(Et:abE)aR5,uw (tq P w) aHj Ex->IM aHj body (tb Ex))
  aVK :
  PS X (.Try body [aME (ac1 ac6 x np) aB8 [aoy [ac6 y py] (ac6 n ZA) apos] ME] [] [] pos) (anW (tb (V1 X.K Cb iy iN D.nx) D σ H)):=by
 subst eP eW;rw[ajK D (wpAny_Try_except ?_)];have KH:=I.ok.kind
 have I0:Inv (X.tr aqI (λ e s₁=>adT (noteFrame e X.env) (abf s₂ (adT (setFlight e none) (abf s₃ (adT (handleBy e X.env [aME (ac1 ac6 x np) aB8 [aoy [ac6 y py] (ac6 n ZA) apos] ME]) (SP X pins D) s₃)) s₂)) s₁)) [] σ H s :=
  ⟨⟨I.ok.mod,I.ok.kind,I.ok.glob,I.ok.blt,I.ok.above,I.ok.inj,I.ok.has,I.ok.ZO,I.ok.hd,I.ok.frames,I.ok.stk,I.ok.exf,I.ok.bs,I.ok.Sh,I.ok.OF,I.ok.SE,I.ok.zq,I.ok.WM⟩,I.os,I.bare,I.base,I.loc,I.cell,I.free,I.nN,ahT (I.pin p (aam hp)),I.cQ,I.len⟩
 rw[acH back (∀{Dw:KB}{σ':St}{H':Hp}{s':Shared}{Et:abE},Inv (X.tr aqI Et) Dw σ' H' s'->aua) (λ{Dw σ' H' s' Et} J =>
  ⟨⟨J.ok.mod,J.ok.kind,J.ok.glob,J.ok.blt,J.ok.above,J.ok.inj,J.ok.has,J.ok.ZO,J.ok.hd,J.ok.frames,J.ok.stk,J.ok.exf,J.ok.bs,J.ok.Sh,J.ok.OF,J.ok.SE,J.ok.zq,J.ok.WM⟩,J.os,J.bare,J.base,J.loc,J.cell,J.free,J.nN,ahT (J.pin p (aLJ hp)),J.cQ,J.len⟩) (auh (hb aqI _ (V1 X.K Cb iy iN D.nx) ?_ [] s σ H D I0 h) (IL f s1 q) z z)]
 ·
  intro Dw σ1 H1 s1 ev s2 J1 q;obtain⟨e,cls,H2,rfl,x2,C,rfl,hex,qn⟩:=q;have J1:=back J1;obtain⟨B,a0,fl,cQ,k1,k2⟩:=id x2.fly
  have hfs:X.A.frames=f7 aM0:=ag3 J1.ok.frames Gz
  rw[show(X.tr aqI _).stack=aM0 from Gz] at fl k1 k2 x2
  show ajV (model X.prog X.w) X.A (noteFrame (Δ e) X.env) _ _ s2
  rw[afQ (wpAny_looks_onW hfs Tv fl (IL h3 held up3)) (wpAny_landsW held (IL h4 fl4 up4))];rw[aeC x4 (x2.next fl cQ k1 k2 fl4 (up3.trans up4)) x4' (XS X.prog X.w X.stack H1 s1 e (Δ C) H2 (ain s2 h4)) (by rw[Ω Gz x4])]
  obtain⟨oe,vs,he,hc,hd,_⟩:=fl4.first
  obtain⟨_,J4⟩:=XS.Pq J1 x4' Gz (alz oe he hc hd);refine wpAny_handleBy_cons (codeAny_handlers_test (Calls.Name_function_global J4.ok.kind hx (Calls.loadGlobal_global (by rw[Ω J4.ok.glob (J4.mod.glob.keeps J4.bk)]) hm ?_) hdx)) (by intro q; cases q)
  rw[acH LT (PySem.W.Looks (model X.prog X.w) h4 (typeOf (Δ e)) (Δ C)) (by
   rw[aFi hc ((PySem.W.Looks.ld he).andThen .now)]) (PySem.W.Looks.here (PySem.W.exm_one J4.Gy LT hex) ?_)];rw[afC]
  rw[afQ (codeAny_handlers_suite_as ?_) (lands_againW fl4 (IL h5 fl5 up5))];rw[aeC x5 (x4.next fl4 cQ k1 k2 fl5 up5) x5' (XS X.prog X.w X.stack H1 s1 e (Δ C) H2 (ain s2 h5)) (by rw[Ω Gz x5])]
  obtain⟨oe5,vs5,he5,hc5,hd5,_⟩:=fl5.first
  obtain⟨hen,J5⟩:=XS.Pq J1 x5' Gz ⟨oe5,vs5,he5,hc5,hd5⟩;rw[afQ (v3 J5 hN hn (b5 ln) (v:=Δ e) rfl (acO s6 J6) (c6 ln)) (wpAny_execs_cons (wpAny_Assign_Name ?_ Pr))];rw[apF m6 hn6 hl6 J6.loc hlen (iN < σ1.length) (by rw[ae2 J1.len (List.getElem?_eq_some_iff.mp hn).1])]
  obtain⟨u6,ru6,lk6⟩:=hl6 iN n (Δ e) hn (agB (List.getElem?_set_self hlen)) (b5 ln);cases ru6
  rw[acH hm6 (m6 n=alO e) (by
   rcases lk6 with⟨_,z⟩ | ⟨k,_⟩
   ·exact z
   ·have ln':auH n amE := ln;rcases k with k | k<;>(rw[ln'] at k; cases k)) (wpAny_Name (wpAny_loadName_local KH ln hn6 hm6 ?_) hdn)];rw[afQ (v3 J6 hN hy (b5 ly) (v:=Δ e) rfl (acO s7 J7) (c6 ly)) (wpAny_execs_nil ?_)];rw[aoa m7 hn7 hl7 (id J7.loc) (wpAny_nameGoes_keeps ln hn7 (by rw[acR KH]) (acI h8 v8 hn8 X0))]
  have J8:aw2 X ((σ1.set iy (alO e)).set iN none) (agP H2 e (MD e C)) (air s7 h8 (s7.toks+1)):=by
   have K7:=J7.weak (σ':=(σ1.set iy (alO e)).set iN none) Ξ (λ i v hv=>by
    by_cases hi:i=iN
    ·subst hi;rw[aqT (aam hlen) hv];cases hv
    ·rw[aqV (Ne.symm hi) hv];by_cases Ps:i=iy
     ·subst Ps
      have l2:i < σ1.length:=by rw[ae2 J1.len (List.getElem?_eq_some_iff.mp hy).1]
      rw[aqT l2 hv];rw[Ω (aDW (aam l2)) hv]
     ·rw[aqV (Ne.symm Ps) hv];rw[ae0 (aD1 (Ne.symm Ps)) (aD1 (Ne.symm hi)) hv])
   rw[apF m Ar hlm (id K7.loc) em (m=m7) (by
    obtain⟨o1,es1,ep1,ho1,hd1,_,f1⟩:=id Ar;obtain⟨o2,es2,ep2,KI,Td,_,f2⟩:=id hn7;rw[ho1] at KI;cases KI;rw[hd1] at Td
    injection Td with Td _;subst Td
    funext z
    rw[← f1 z,← f2 z])]
   subst em;rw[ah8 tracked (rf X.prog X.w (agP H2 e (MD e C)) h8) (K7.cQ.but K7.free X0) ⟨K7.ok,K7.os,K7.bare,⟨aiA b o q n hb hx,aiA b o q n hb hx,K7.base.free,am0 q hx,K7.base.pL,K7.base.nS,K7.base.pM⟩,⟨_,hn8,aiA j z v e1 e2 e3⟩,IL z c q,K7.free,K7.nN,ar6,tracked,K7.len⟩]
   ·exact x6 (X0.2 b (ajp (aAc q K7.ok.above))) (K7.base.keep b o q n hb hx)
   ·rw[af8 sl q1 (K7.base.slot b o q n hb hx) sl (x6 (X0.2 b (ajp (aAc q K7.ok.above))) q1)]
   ·rw[af8 o' q1 (K7.base.there b o q hx) o' (x6 (X0.2 b (ajp (aAc q K7.ok.above))) q1)]
   ·rw[ajq u ru lk (hlm j z v e1 e2 e3) (aoN u ru)];rcases lk with⟨kk,mz⟩ | ⟨kk,c,CU,yN⟩
    ·rw[aiQ (b5 (aiS kk)) hz (z≠n) (λ ez=>by
      subst ez;have:=AL hN e1 hn;subst this;rw[aqT (aam hlen) e2];cases e2)]
     show(alE z n v8 (m z))=aaZ;rw[auT hz mz]
    ·exact c6 ⟨kk,c,CU,yN.sameBut X0 (K7.SF z c CU)⟩
   ·rw[af8 v yN (K7.cell z c q) v (yN.sameBut X0 (K7.SF z c q))]
   ·rw[ae3 q1 q2 q3 q4 q5 (K7.pin p hp) ⟨x6 (X0.2 p.1 q3) q1,q2,q3,q4,q5⟩]
  exact⟨_,_,J8,qn e hen⟩
 ·cases f with
  | next =>
   rw[auU σ' H' J qq q (aL3 σ' H' aGE qq)]
  | brk=>rw[af7 σ' H' J qq q ⟨σ',H',aGE,qq⟩]
  | cont=>rw[af7 σ' H' J qq q ⟨σ',H',aGE,qq⟩]
  | ret v=>obtain⟨v',σ',H',J,r,qq⟩:=q; exact⟨v',σ',H',aGE,r,qq⟩
universe zE
universe L2
universe zE
end
mutual
section
namespace L2
open PySem PySem.Spec PyProof.Rows
inductive PV where
 | bb | bl(b:Bool) | int aP0 | str aPM | lst aQm | tup aQm | obj aPf
 | pR aQW
mutual
noncomputable def PV.mr aPf:amF PV
 | ς xs=>axV n
 | sT xs=>axV n
 | ο m=>an2 m n
 | .bb=>true
 | .bl _=>true
 | η _=>true
 | c7 _=>true
 | .pR _=>true
noncomputable def PV.sX aPf:amF d9
 | []=>true
 | x::xs=>PV.mr n x && axV n
end
inductive MO where
 | gone
 | lst aQm
 | bB aTm
 | MF(kvs:af5 akP PV)
 | jd aTm
 | ins aPL(fs:aka)
 | exc aPL
noncomputable abbrev aY:=List MO
noncomputable abbrev eu:=asq PV
noncomputable abbrev lim:Nat:=16000000
def tI aPa(h:aqq n):af6 n:=by rw[Ω sizeLine_eq (adP h)]
def A3 aPa(h:n<lim):n<sizeLine:=by rw[Ω sizeLine_eq (aNM h)]
section
variable (K:Fg) (ι:d8) (S:Hp)
mutual
noncomputable def bj:PV->ad9 V
 | .bb,v=>v=.bb
 | .bl b,v=>v=.bl b
 | η i,v=>v=η i
 | c7 x,v=>v=c7 x
 | ς xs,v=>∃a vs,v=Δ a/\S a=awb/\bg xs vs
 | sT xs,v=>∃a vs,v=Δ a/\S a=aq0 vs/\bg xs vs
 | ο n,v=>∃a,v=Δ a/\al8
 | .pR ns,v=>∃a,v=Δ a/\qB K S a aq5
noncomputable def bg:d9->ad9 g9
 | [],vs=>vs=[]
 | x::xs,vs=>∃v r,vs=v::r/\bj x v/\bg xs r
end
abbrev dR aQg(kvs:ald)(cf:agC):Prop:=Paired (fun(p:κ×PV) (q:κ×V)=>p.1=q.1/\akW p.2 q.2) kvs cf
universe zE
structure Up aTU(ι':d8)(S':Hp):Prop where
 ix:∀aPf aP3,al8->acL ι' n a
 sm:aDp
structure Ext aTN(ι':d8)(S' H':Hp):Prop extends ar9 where
 pre:ι'.take ι.length=ι
 fr:∀b u,H b=aaZ->b∉ι->aaz (S b)->amm=aaZ/\b∉ι'/\aaz (S' b)
def Ext.refl aTO:Ext ι S H ι S H:=⟨⟨λ _ _ h=>h,mq.refl S⟩,List.take_length,λ _ _ h1 h2 h3=>⟨h1,h2,h3⟩⟩
def Ext.trans{ι ι1 ι2:d8}{S S1 S2 H H1 H2:Hp}(a:Ext ι S H ι1 S1 H1)(b:Ext ι1 S1 H1 ι2 S2 H2):Ext ι S H ι2 S2 H2 :=
 ⟨⟨λ n x h=>b.ix n x (a.ix n x h),a.sm.trans b.sm⟩,by
  rw[al1 a.pre b.pre]
  have hl:ι.length≤ι1.length:=by rw[← h1];rw[afo]
  rw[← h2,List.take_take,Nat.min_eq_left hl] at h1
  exact h1,λ c u h1 h2 h3=>by
  rw[asK k1 k2 k3 (a.fr c u h1 h2 h3) (b.fr c u k1 k2 k3)]⟩
def Up.push aRk aP3:Up ι S (ι++[a]) S:=by
 rw[aej (IL n x h) (mq.refl S)];have hl:n < ι.length:=(List.getElem?_eq_some_iff.mp h).1;rw[Ω (List.getElem?_append_left hl) h]
def Rd.mono{S S':Hp}(h:aDp)aPz{u:HO}(r:Rd S a u):Rd S' a u:=by
 rcases r with r | ⟨o,r⟩
 ·exact b5 (h _ _ r)
 ·exact alx o (h _ _ r)
def qB.mono aPG{S S':Hp}(h:aDp)aPz aQu(q:qB K S a vs):qB K S' a vs:=by
 rcases q with q | q
 ·exact b5 (q.mono h)
 ·exact c6 q
section
variable {K:Fg}
mutual
theorem bj.wo aSZ aW9(hs:aDp):∀aTp,ae7->bj K ι' S' x v
 | .bb,v,h=>aoZ
 | .bl b,v,h=>aoZ
 | η i,v,h=>aoZ
 | c7 x,v,h=>aoZ
 | ς xs,v,h=>by
  rw[bj] at h ⊢;rw[ae3 a vs e q r h (alz a e (hs _ _ q) (bg.wo hi hs xs vs r))]
 | sT xs,v,h=>by
  rw[bj] at h ⊢;rw[ae3 a vs e q r h (alz a e (hs _ _ q) (bg.wo hi hs xs vs r))]
 | ο n,v,h=>by
  rw[bj] at h ⊢;rw[ahd a e q h a e (hi _ _ q)]
 | .pR ns,v,h=>by
  rw[bj] at h ⊢;rw[ahd a e q h a e (q.mono hs)]
theorem bg.wo aSZ aW9(hs:aDp):∀aQm aQY,afm->awF
 | [],vs,h=>aw4 bg h
 | x::xs,vs,h=>by
  rw[bg] at h ⊢;rw[ae3 v r e h1 h2 h ⟨v,r,e,bj.wo hi hs x v h1,bg.wo hi hs xs r h2⟩]
end
def bj.up aSZ(e:ar9)aT8:bj K ι' S' x v:=bj.wo e.ix e.sm x v h
def bj.mono aSV(e:akH)aT8:bj K ι' S' x v:=bj.wo e.ix e.sm x v h
def bg.up aSZ(e:ar9)aT9:awF:=bg.wo e.ix e.sm xs vs h
def bg.mono aSV(e:akH)aT9:awF:=bg.wo e.ix e.sm xs vs h
def dR.up aQg aSZ(e:ar9)aRn:dR K ι' S' kvs cf :=
 Paired.OD h λ _ _ z=>⟨z.1,z.2.up e⟩
def dR.mono aQg aSV(e:akH)aRn:dR K ι' S' kvs cf :=
 Paired.OD h λ _ _ z=>⟨z.1,z.2.mono e⟩
mutual
theorem bj.mr aRk:∀aTp,ae7->c8 (PV.mr ι.length x)
 | .bb,v,h=>rfl
 | .bl b,v,h=>rfl
 | η i,v,h=>rfl
 | c7 x,v,h=>rfl
 | ς xs,v,h=>by
  rw[ajR bj];rw[aot a e q r h];rw[Ω PV.mr (bg.sX xs vs r)]
 | sT xs,v,h=>by
  rw[ajR bj];rw[aot a e q r h];rw[Ω PV.mr (bg.sX xs vs r)]
 | ο n,v,h=>by
  rw[bj] at h;obtain⟨a,e,q⟩:=h;rw[Ω PV.mr (decide_eq_true (List.getElem?_eq_some_iff.mp q).1)]
 | .pR ns,v,h=>rfl
theorem bg.sX aRk:∀aQm aQY,afm->c8 (axV ι.length)
 | [],vs,h=>rfl
 | x::xs,vs,h=>by
  rw[ajR bg];obtain⟨v,r,e,h1,h2⟩:=h;rw[PV.sX,bj.mr x v h1,bg.sX xs r h2]; rfl
end
mutual
theorem bj.cut aRk aPa:∀aTp,c8 (PV.mr n x)->ae7->bj K aKe S x v
 | .bb,v,b,h=>aoZ
 | .bl _,v,b,h=>aoZ
 | η i,v,b,h=>aoZ
 | c7 x,v,b,h=>aoZ
 | ς xs,v,b,h=>by
  rw[bj] at h ⊢;rw[PV.mr] at b;rw[ae3 a vs e q r h (alz a e q (bg.cut xs vs b r))]
 | sT xs,v,b,h=>by
  rw[bj] at h ⊢;rw[PV.mr] at b;rw[ae3 a vs e q r h (alz a e q (bg.cut xs vs b r))]
 | ο m,v,b,h=>by
  rw[bj] at h ⊢;rw[PV.mr] at b;rw[ahd a e q h a e (by rw[Ω (List.getElem?_take_of_lt (of_decide_eq_true b)) q])]
 | .pR ns,v,b,h=>by
  rw[akU bj h h]
theorem bg.cut aRk aPa:∀aQm aQY,c8 (axV n)->afm->bg K aKe S xs vs
 | [],vs,b,h=>aw4 bg h
 | x::xs,vs,b,h=>by
  rw[bg] at h ⊢;rw[aIw PV.sX b];rw[ae3 v r e h1 h2 h ⟨v,r,e,bj.cut x v b.1 h1,bg.cut xs r b.2 h2⟩]
end
variable {ι:d8} {S:Hp}
def bg.nil:aoD [] []:=agB bg
def bg.cons aPw aPi aPP aQu(h:ae7)(t:afm):auv (x::xs) (v::vs):=by
 rw[ae2 bg (ad8 v vs h t)]
def bg.lg aPw aPW(h:bg K ι S (x::xs) vs):∃v r,vs=v::r/\ae7/\aoD xs r:=by
 rw[t7 bg h h]
def bg.length:∀aPW,afm->aA1 vs.length
 | [],vs,h=>by rw[bg] at h;subst h; rfl
 | x::xs,vs,h=>by
  obtain⟨v,r,rfl,_,h2⟩:=h.lg;simp[bg.length h2]
def bg.get:∀aPW aPt aPw,afm->anF->∃v,aHd/\ae7
 | [],vs,i,x,h,e=>asx e
 | y::xs,vs,i,x,h,e=>by
  rw[acM v r h1 h2 h.lg];cases i with
  | zero=>simp at e;subst e;exact ad5 v h1
  | succ i =>
   rw[ahd w q1 q2 (bg.get (i:=i) h2 (aam e)) w (aam q1) q2]
def bg.append:∀aUi{vs ws:g9},afm->aoD ys ws->auv (xs++ys) (vs++ws)
 | [],ys,vs,ws,h,t=>by rw[bg] at h;rw[aeq h t]
 | x::xs,ys,vs,ws,h,t=>by
  rw[acM v r h1 h2 h.lg];exact aaP h1 (bg.append h2 t)
def bg.one aT8:aoD [x] [v]:=aaP h abO
def bg.set:∀aPW aQr aPs,ae7->afm->auv (xs.set i x) (vs.set i v)
 | [],vs,x,v,i,h,t=>by rw[bg] at t;rw[aeq t abO]
 | y::xs,vs,x,v,i,h,t=>by
  rw[acM w r h1 h2 t.lg];cases i with
  | zero=>exact aaP h h2
  | succ i=>exact aaP h1 (bg.set i h h2)
def bg.drop:∀aPW aPf,afm->auv (xs.drop n) (vs.drop n)
 | xs,vs,0,h=>h
 | [],vs,n+1,h=>by rw[bg] at h;rw[aeq h abO]
 | x::xs,vs,n+1,h=>by
  rw[acM v r h1 h2 h.lg];exact bg.drop n h2
def bg.take:∀aPW aPf,afm->auv (xs.take n) (vs.take n)
 | xs,vs,0,h=>by rw[anr abO]
 | [],vs,n+1,h=>by rw[bg] at h;rw[aeq h abO]
 | x::xs,vs,n+1,h=>by
  rw[acM v r h1 h2 h.lg];exact aaP h1 (bg.take n h2)
def bg.reverse:∀aPW,afm->aoD xs.reverse vs.reverse
 | [],vs,h=>by rw[bg] at h;rw[aeq h abO]
 | x::xs,vs,h=>by
  rw[acM v r h1 h2 h.lg];rw[List.reverse_cons,List.reverse_cons];exact(bg.reverse h2).append (.one h1)
def bg.dropLast aT9:aoD xs.dropLast vs.dropLast:=by
 rw[List.dropLast_eq_take,List.dropLast_eq_take,h.length]; exact h.take _
def bg.eraseIdx:∀aPW aPs,afm->auv (xs.eraseIdx i) (vs.eraseIdx i)
 | [],vs,i,h=>by rw[bg] at h;rw[aeq h abO]
 | x::xs,vs,i,h=>by
  rw[acM v r h1 h2 h.lg];cases i with
  | zero=>exact h2
  | succ i=>exact aaP h1 (bg.eraseIdx i h2)
def bg.rep aT9:av2 k (aoD (ayX xs) (ayX vs))
 | 0=>abO
 | k+1=>by
  rw[List.replicate_succ,List.replicate_succ,List.flatten_cons,List.flatten_cons];exact h.append (bg.rep h k)
def dR.length aQg aRn:kvs.length=cf.length:=aOI
def bj.kZ aPP:akW .bb v↔v=.bb:=avM
def bj.fG aQI aPP:aw0 .bl b (v=.bl b):=avM
def bj.bD aPu aPP:aw0 η i (v=η i):=avM
def bj.ux aPl aPP:aw0 c7 x (v=c7 x):=avM
def bj.mR aPi aPP:aw0 ς xs (∃a vs,v=Δ a/\S a=awb/\afm):=avM
def bj.gO aPi aPP:aw0 sT xs (∃a vs,v=Δ a/\S a=aq0 vs/\afm):=avM
def bj.wq aRO aPP:aw0 .pR ns (∃a,v=Δ a/\qB K S a aq5):=avM
def bj.fA aPa aPP:aw0 ο n (∃a,v=Δ a/\al8):=avM
universe zE
def DQ aPp:∀{l:af1},l.Nodup->∀{n m:Nat}(h1:as8 n)(h2:as8 m),l[n]=l[m]->n=m
 | [],_,n,m,h1,h2,e=>asx h1
 | x::l,nd,n,m,h1,h2,e=>by
  rw[List.nodup_cons] at nd;cases n with
  | zero =>
   cases m with
   | zero=>rfl
   | succ m =>
    simp only[List.getElem_cons_zero,List.getElem_cons_succ] at e;rw[afZ (ap5 (List.getElem_mem _)) nd.1]
  | succ n =>
   cases m with
   | zero =>
    simp only[List.getElem_cons_zero,List.getElem_cons_succ] at e;rw[afZ (ap5 (List.getElem_mem _)) nd.1]
   | succ m =>
    rw[aJF List.getElem_cons_succ];rw[DQ nd.2 aCb aGM e]
abbrev rj aPe aTN aP3:ad9 MO
 | .gone=>∃o,H a=t9
 | ς xs=>aqw/\∃vs,H a=awb/\afm
 | .bB kvs=>aqw/\∃cf,H a=av9 .dK/\alu
 | .MF kvs=>aqw/\∃cf,H a=av9 .dT/\alu
 | .jd kvs=>∃ob cf,S a=aha/\H a=aha/\alu
 | abT C fs=>aqw/\∃dx xK,H a=f7 (abT C dx xK)/\aHt
 | L6 C=>aqw/\H a=f7 (MD a C)
structure cu aPe aTU aPh aPC:Prop where
 sub:mq S H
 len:aDX ι.length
 nd:ι.Nodup
 ob:∀aPf aP3(o:MO),al8->asd->awK
abbrev Slots aPe aTU(ρ:eu)(σ:St):Prop :=
 ρ.length=σ.length/\∀aPs aPO,aiz ρ i x->∃v,aDu/\ae7
section
variable {K:Fg} {ι ι':d8} {S S' H H':Hp} {M M':aY} {ρ:eu} {σ:St}
def rj.there aPz aQj(h:awK):∃u,H a=aaZ:=by
 cases o with
 | gone=>exact h
 | lst xs=>obtain⟨_,vs,e,_⟩:=h;rw[afi e]
 | bB xs=>obtain⟨_,vs,e,_⟩:=h;rw[afi e]
 | MF xs=>obtain⟨_,vs,e,_⟩:=h;rw[afi e]
 | jd xs=>rw[aLB e h e]
 | ins C fs=>obtain⟨_,dx,vs,e,_⟩:=h; rw[afi e]
 | exc C=>obtain⟨_,e⟩:=h;rw[afi e]
def rj.up aPz aQj(h:awK)(e:ar9)(hs:aqw->aaz (S' a))(hh:H' a=H a):rj K ι' S' H' a o:=by
 cases o with
 | gone=>rw[af8 u q h u axC]
 | lst xs=>rw[af7 z vs q r h ⟨hs z,vs,axC,r.up e⟩]
 | bB xs=>rw[af7 z vs q r h ⟨hs z,vs,axC,r.up e⟩]
 | MF xs=>rw[af7 z vs q r h ⟨hs z,vs,axC,r.up e⟩]
 | jd xs=>rw[ae3 ob vs z q r h (alz ob (e.sm _ _ z) axC (r.up e))]
 | ins C fs=>rw[ae3 z dx vs q r h ⟨hs z,dx,vs,axC,r.up e⟩]
 | exc C=>rw[af8 z q h (hs z) axC]
def Slots.mono(s:apa)(e:akH):Slots K ι' S' ρ σ:=⟨s.1,agG i x (by
 rw[ahd v h1 h2 (s.2 i x h) v h1 (h2.mono e)])⟩
def Slots.set(s:apa)aT8 aPs:Slots K ι S (ρ.set i aeU) aGu:=by
 rw[aej (f6 s.1) (IL j y hj)]
 by_cases hij:i=j
 ·subst hij;rw[akv hl (i<aeA (ρ.set i aeU)) (List.getElem?_eq_some_iff.mp hj).1 List.length_set hl];rw[aqT hl hj];cases hj;rw[aas v (agB (aDW (by rw[abd s.1 hl]))) h]
 ·rw[aqV hij hj];rw[ahd w h1 h2 (s.2 j y hj) w (by rw[aLt hij h1]) h2]
def cu.addr aQv aPa aPz(h:al8):∃o,asd/\awK:=by
 rw[avc hl (aow n) (by rw[aFi s.len (List.getElem?_eq_some_iff.mp h).1]) M[n] apr (s.ob n a _ h apr)]
def cu.at aQv aPa aQj(h:asd):∃a,al8/\awK:=by
 rw[avc hl (n < ι.length) (by rw[ae2 s.len (List.getElem?_eq_some_iff.mp h).1]) ι[n] apr (s.ob n _ o apr h)]
def cu.fresh aQv aQl(h:alq):p∉ι:=asl (by
 obtain⟨n,hn,e⟩:=List.getElem_of_mem hm;obtain⟨o,_,q⟩:=s.addr (List.getElem?_eq_some_iff.mpr ⟨hn,e⟩);obtain⟨u,z⟩:=q.there;rw[h] at z; cases z)
def cu.vp aQv aQl(h:alq):aCR:=s.sub.free h
def cu.tree aQv aQl{o:HO}(h:alq):cu K ι (upd S p o) M (aoS p)/\Ext ι S H ι (upd S p o) (aoS p):=by
 have hS:=s.vp h
 rw[d6 sm (mq S (upd S p o)) (agT u q (by rw[acY (bZ q hS) q])) up (Up ι S ι (upd S p o)) ⟨λ _ _ h=>h,sm⟩];rw[aej ⟨ajk u,s.len,s.nd,aeB n a u h1 h2⟩ ⟨up,List.take_length,aeB b u h1 h2 h3⟩]
 ·rw[alT (b=p)]
  ·subst hb;rw[akU bF q q]
  ·rw[akU ao4 q (s.sub b u q)]
 ·have dz:a≠p:=λ z=>s.fresh h (asu z h1);exact(avU n a u).up up (acZ (by rw[aoI z])) (aS dz)
 ·have dz:=bZ h1 h;rw[aas (by rw[aoI h1]) h2 (by rw[aoI h3])]
def cu.side aQv aQl{o:HO}(h:alq):cu K ι S M (aoS p)/\Ext ι S H ι S (aoS p):=by
 rw[aej ⟨ajk u,s.len,s.nd,aeB n a u h1 h2⟩ ⟨⟨λ _ _ h=>h,mq.refl S⟩,List.take_length,aeB b u h1 h2 h3⟩]
 ·rw[acY (bZ (s.sub b u q) h) (s.sub b u q)]
 ·have dz:a≠p:=λ z=>s.fresh h (asu z h1);exact(avU n a u).up ⟨λ _ _ h=>h,mq.refl S⟩ (acZ z) (aS dz)
 ·have dz:=bZ h1 h;rw[aas (by rw[aoI h1]) h2 h3]
def cu.enter aQv aQl aQj(hp:p∉ι)(h:rj K ι S H p o):cu K (ι++[p]) S (M++[o]) H:=by
 refine⟨s.sub,aEQ,?_,aeB n a u h1 h2⟩
 ·rw[List.nodup_append];rw[adv s.nd Ξ (acI a ha b hb)];rw[List.mem_singleton] at hb;rw[aeq hb (acZ (hp (z ▸ ha)))]
 ·by_cases hn:n < ι.length
  ·rw[aNu] at h1;rw[aw7 (by rw[abd s.len hn])] at h2;exact(avU n a u).up (.push p) (acZ z) rfl
  ·have e1:n=ι.length:=by
    have:=aNo.1;rw[axS];omega
   subst e1;simp at h1;rw[aiq s.len h2 h2];subst h1; rw[aeq h2 (h.up (.push _) (acZ z) rfl)]
def cu.new aQv aQl{u:HO}aQj(h:alq)(ho:rj K ι S (atR p) p o):cu K (ι++[p]) S (M++[o]) (atR p)/\Ext ι S H (ι++[p]) S (atR p):=by
 rw[aej ((s.side h).1.enter (s.fresh h) ho) ⟨.push p,Ξ,aeB b v h1 h2 h3⟩];have dz:=bZ h1 h;rw[aas (by rw[aoI h1]) (afr h2 dz) h3]
def cu.inj aQv{n m:Nat}aPz(h1:al8)(h2:acL ι m a):n=m:=by
 obtain⟨l1,e1⟩:=aNo;rw[aeO l2 e2 aLl (DQ s.nd l1 l2 aOz)]
def cu.put aQv aPa aPz{u:HO}aQj(h:al8)(hS:aqw)(ho:rj K ι S (atR a) a o):cu K ι S (atd o) (atR a)/\Ext ι S H ι S (atR a):=by
 rw[aej ⟨ajk v,aEQ,s.nd,aeB m b v h1 h2⟩ ⟨⟨λ _ _ h=>h,mq.refl S⟩,List.take_length,aeB b v h1 h2 h3⟩]
 ·rw[acY (bZ q hS) (s.sub b v q)]
 ·by_cases hm:n=m
  ·rw[alL hm h h1]; cases h1
   have hl:aow n:=by
    have:=aLl.1;simpa using this
   rw[aqT hl h2];cases h2;exact ho
  ·rw[aqV hm h2];have dz:b≠a:=λ z=>hm (s.inj h (z ▸ h1));exact(avU m b v).up ⟨λ _ _ h=>h,mq.refl S⟩ (acZ z) (aS dz)
 ·rw[avc dz (b≠a) (acZ (h2 (asu z h))) (by rw[aoI h1]) h2 h3]
def cu.freeze aQv aPa aPz aPi(h:al8)(hM:az0) :
  ∃S',cu K ι S' (atd .gone) H/\Ext ι S H ι S' H/\bj K ι S' (ς xs) (Δ a):=by
 obtain⟨hS,vs,hH,hr⟩:=s.ob n a _ h hM
 rw[au6 sm (mq S (agP S a (ς vs))) (agT u q (by rw[acY (bZ q hS) q])) up (Up ι S ι (agP S a (ς vs))) ⟨λ _ _ h=>h,sm⟩ ⟨agP S a (ς vs),⟨ajk u,aEQ,s.nd,aeB m b v h1 h2⟩,⟨up,List.take_length,aeB b v h1 h2 h3⟩,bj.mR.mpr (ad8 a vs bF (hr.up up))⟩]
 ·rw[alT (b=a)]
  ·rw[azs]; cases q; exact hH
  ·rw[t7 ao4 q (s.sub b u q)]
 ·by_cases hm:n=m
  ·rw[alL hm h h1]; cases h1;have hl:aow n:=aLm.1;rw[aqT hl h2];cases h2;rw[afi hH]
  ·rw[aqV hm h2];have dz:b≠a:=λ z=>hm (s.inj h (z ▸ h1));exact(avU m b v).up up (acZ (by rw[aoI z])) rfl
 ·rw[avc dz (b≠a) (acZ (h2 (asu z h))) h1 h2 (by rw[aoI h3])]
universe zE
inductive Res(α:Type) where
 | ok(a:α)aPh
 | exc aRa aPh
 | bad
abbrev Res.bind aQd:amS->(α->aY->arB)->arB
 | .ok a M,f=>f a M
 | L6 c M,_=>L6 c M
 | d5,_=>d5
@[simp] def Res.ag aQd{a:α}aPc aSA:(Res.ok a M).bind f=f a M:=rfl
@[simp] def Res.Pt aQd aP9 aPc aSA:(Res.exc c M:amS).bind f=L6 c M:=rfl
@[simp] def Res.aaE aQd aSA:(Res.bad:amS).bind f=d5:=rfl
abbrev Res.opt aPp(o:aJ5)aPh:amS:=match o with
 | some a=>.ok a M
 | none=>d5
@[simp] def Res.A4 aPp{a:α}aPc:asZ (some a) M=.ok a M:=rfl
@[simp] def Res.Pu aPp aPc:Res.opt (none:aJ5) M=d5:=rfl
abbrev cA aQd aWN(Ex:XK)aTN(Q:aHm):ad9 amS
 | .ok x M'=>∀ ι' S' H' v,akH->avV->Rp ι' S' x v->ajQ v
 | L6 c M'=>∀ ι' S' H',akH->avV->Ex (Δ c) none H'
 | d5=>False
section
variable {α β γ δ:Type} {K:Fg} {Rp:d8->Hp->α->aCf} {Rq:d8->Hp->γ->ad9 δ} {Ex:XK} {ι ι':d8} {S S' H H':Hp} {Q Q':aHm} {P:ajo δ} {r:amS}
def cA.up(h:cA K Rp Ex ι S H Q r)(e:akH):cA K Rp Ex ι' S' H' Q r:=by
 cases r with
 | ok x M=>exact λ ι1 S1 H1 v e1 s1 r1=>h ι1 S1 H1 v (e.trans e1) s1 r1
 | exc c M=>exact λ ι1 S1 H1 e1 s1=>h ι1 S1 H1 (e.trans e1) s1
 | bad=>exact h
def cA.bind{f:α->aY->Res γ}(h:cA K Rq Ex ι S H P (r.bind f))
  (g:∀ ι1 S1 M1 H1 x v,Ext ι S H ι1 S1 H1->cu K ι1 S1 M1 H1->Rp ι1 S1 x v->cA K Rq Ex ι1 S1 H1 P (f x M1)->apm v):cA K Rp Ex ι S H Q r:=by
 cases r with
 | ok x M=>exact λ ι1 S1 H1 v e1 s1 r1=>g ι1 S1 M H1 x v e1 s1 r1 (cA.up h e1)
 | exc c M=>exact h
 | bad=>exact h
universe zE
abbrev tG aQd aWN aR5(d:eu->aY->amS)aST(Q:aHm):Prop :=
 ∃ ι S M ρ,aeE/\apa/\cA K Rp (Ex σ) ι S H Q aaQ
noncomputable abbrev DE:=eu->aY->afV
noncomputable abbrev DA:=eu->aY->Res d9
noncomputable abbrev DT:=eu->aY->Res Bool
noncomputable abbrev iw aPe:d8->Hp->PV->ad9 V:=λ ι S x v=>ae7
noncomputable abbrev RpA aPe:d8->Hp->d9->ad9 g9:=λ ι S x v=>aoD x v
noncomputable abbrev Oo:d8->Hp->Bool->ad9 Bool:=λ _ _ x v=>v=x
structure VE aQq aSa aPJ:Prop where
 out:avp (tG X.K (iw X.K) Ex d)
structure VT aQq aSa(d:DT):Prop where
 out:apl e (tG X.K Oo Ex d)
structure VW aQq aSa(d:DT):Prop where
 out:aqP e (tG X.K Oo Ex d)
structure VA aQq(es:acU)(d:DA):Prop where
 out:awo (tG X.K (RpA X.K) Ex d)
def PE.imp aPE aQ9{t t':TE}(h:avp t)aSw:avp t':=λ pins s σ H Q I hw=>h pins s σ H Q I (i σ H Q hw)
def PT.imp aPE aQ9{t t':TT}(h:apl e t)aSw:apl e t':=λ pins s σ H Q I hw=>h pins s σ H Q I (i σ H Q hw)
def PW.imp aPE aQ9{t t':TT}(h:aqP e t)aSw:aqP e t':=λ w pins s σ H Q I hw=>h w pins s σ H Q I (i σ H Q hw)
def PA.imp aPE{es:acU}{t t':TA}(h:awo t)aSw:awo t':=λ pos pins s σ H Q I hw=>h pos pins s σ H Q I (i σ H Q hw)
def VW.vt aPE aRF aQ9{d:DT}(h:VW X Ex e d):VT X Ex e d:=⟨PW.pt h.out⟩
universe L2
universe zE
end
mutual
section
namespace L2
open PySem PySem.Spec PyProof.Rows
section
variable {X:Cx} {Ex:St->XK} {a b c e:Expr} {es:acU} {da db dc d:DE} {ds:afq} {pos:Pos}
abbrev ae aPs:DE:=λ ρ M=>match ρ[i]? with
 | akj x=>.ok x M
 | _=>d5
def aa aPs aPl(hN:arv:=by rfl)(hv:aMu x:=by first | exact aEG | exact Or.inr aEG | exact Or.inr aJL)
  aVH:aeL (ac6 x pos) (ae i):=⟨by
 refine PE.imp (WN hN hv hd OG) (acI σ H Q h);obtain⟨ι,S,M,ρ,aW,sl,w⟩:=h;rw[agY ae];cases q:ρ[i]? with
 | none=>rw[anw q]
 | some o =>
  cases o with
  | none=>rw[anw q]
  | some y =>
   rw[q] at w;rw[ahd v h1 h2 (sl.2 i y q) v h1 (alR v h2)]⟩
abbrev dC aPO:DE:=abf M (.ok x M)
def Pw aQr(h:avp (tC v))(r:∀ ι S,bj X.K ι S x v):aeL e (dC x):=⟨by
 refine PE.imp h (acI σ H Q hh)
 obtain⟨ι,S,M,ρ,aW,sl,w⟩:=hh
 exact alR v (r ι S)⟩
def aq aPu{j}:anO aom (η i) j (Θ i):=aE5 WO apt
def mw aQI{j}:anO aom (ajF b) j (dC (.bl b)):=aE5 ZR (bj.fG.mpr rfl)
def cR{j}:anO aom abc j (dC .bb):=aE5 WQ (bj.kZ.mpr rfl)
def aB aPl{j}:anO aom (c7 x) j (aaM x):=aE5 OH (bj.ux.mpr rfl)
def qC aPl aPu{t:Tok}(hm:aB9=ac1 η i t)(hg:aml:=by rfl)aRB:aeL (ac6 x pos) (Θ i) :=
 aE5 (SG hg hm (v:=η i) azb hd) apt
abbrev fH:afq->DA
 | []=>abf M (.ok [] M)
 | d::ds=>ahk (aaQ).bind (aic (fH ds ρ M1).bind xs (.ok (x::xs) M2))
noncomputable abbrev MG aPe aPf:d8->Hp->d9->ad9 g9:=λ ι S x v=>aoD x v/\x.length=n
structure VN aQq(es:acU)aRb:Prop where
 out:awo (tG X.K (anh X.K) Ex (fH ds))
def aj:VN X Ex [] []:=⟨by
 refine PA.imp EB (acI σ H Q h)
 obtain⟨ι,S,M,ρ,aW,sl,w⟩:=h
 exact alR [] (aiI abO)⟩
def af(ha:aqz)(hr:ape es)aUv:VN X Ex (e::es) (d::ds):=⟨by
 refine PA.imp (Ap ha.out hr.out hs) (acI σ H Q h)
 obtain⟨ι,S,M,ρ,aW,sl,w⟩:=h
 refine⟨ι,S,M,ρ,aW,sl,aeK (iw X.K) w (λ ι1 S1 M1 H1 x v e1 s1 r1 w1=>?_)⟩;refine⟨ι1,S1,M1,ρ,s1,agx,aeK (anh X.K) w1 (λ ι2 S2 M2 H2 xs vs e2 s2 r2 w2=>?_)⟩
 exact w2 ι2 S2 H2 (v::vs) agi s2 ⟨aaP (apz e2) r2.1,f6 r2.2⟩⟩
abbrev tJ aPI aQm aPh:afV:=auW aBw (if c8 live then .ok aes (M++[ς xs]) else .ok (ς xs) M) d5
def oR{ι:d8}aTs aQN aP2 aRm aPW aPG aSN(r:afm)(w:apk (tJ live xs M)) :
  aML/\∀p,alq->Q (Δ p) (arY vs):=by
 rw[agY tJ];split at w
 ·rw[atc];rw[axN (by rw[abd r.length (tI hl)]) p hp];split at w
  ·have hS:=aW.vp hp;obtain⟨s2,e2⟩:=aW.new (u:=ς vs) (o:=ς xs) hp ⟨hS,vs,bF,r⟩;refine w _ _ _ _ e2 s2 (bj.fA.mpr (ad5 p ?_));rw[← aW.len];simp
  ·rw[aeO s2 e2 (aW.tree (o:=ς vs) hp) (w _ _ _ _ e2 s2 (bj.mR.mpr (ad8 p vs bF (r.mono e2))))]
 ·rw[abR]
@[simp] def bM aRR(h:aBw):tJ false xs M=.ok (ς xs) M:=by rw[aga tJ axT (if_neg d7)]
@[simp] def jZ aRR(h:aBw):tJ true xs M=.ok aes (M++[ς xs]):=by rw[aga tJ axT afC]
abbrev iS aRb:DE:=awe (al9).bind (.ok (sT xs) M1)
abbrev cE aPI aRb:DE:=awe (al9).bind (tJ live xs M1)
def gz{x1}(h:ape es)(hn:ds.length≤1000:=by exact aLx):anO ats es x1 (iS ds):=⟨by
 refine PE.imp (Xl h.out) (acI σ H Q hh)
 obtain⟨ι,S,M,ρ,aW,sl,w⟩:=hh
 refine⟨ι,S,M,ρ,aW,sl,aeK (anh X.K) w (λ ι1 S1 M1 H1 xs vs e1 s1 r1 w1=>?_)⟩;rw[axN (by rw[← ahK r1.1,r1.2];exact Nat.le_of_lt (DN hn)) p hp];rw[aeO s2 e2 (s1.tree (o:=sT vs) hp) (w1 _ _ _ _ e2 s2 (bj.gO.mpr (ad8 p vs bF (r1.1.mono e2))))]⟩
def cb aPI(h:ape es):aeL (.List es pos) (cE live ds):=⟨by
 refine PE.imp (Xm h.out) (acI σ H Q hh)
 obtain⟨ι,S,M,ρ,aW,sl,w⟩:=hh
 refine⟨ι,S,M,ρ,aW,sl,aeK (anh X.K) w (λ ι1 S1 M1 H1 xs vs e1 s1 r1 w1=>?_)⟩
 exact oR s1 r1.1 w1⟩
abbrev jg aPh:ajz PV d9
 | ς xs=>aj4
 | ο n=>match M[n]? with
  | agz=>aj4
  | _=>none
 | _=>none
@[simp] def jh aPc aPi:b7 (akI (ς xs)) xs:=rfl
@[simp] def aaF aPc aPi:aaz (akI (sT xs)):=rfl
@[simp] def A5 aPc aPa:akI (ο n)=(match M[n]? with | agz=>aj4 | _=>none):=rfl
def gA aQK aPw aPi aPP aRh(h:b7 (akI x) xs):∃p vs,v=Δ p/\H p=awb/\afm:=by
 cases x with
 | lst ys =>
  cases h;rw[acM p vs e q (bj.mR.mp r)];exact ad8 p vs aC4 q
 | obj n =>
  rw[adC p e (bj.fA.mp r)];obtain⟨o,e2,q⟩:=aW.addr e;simp only[A5,e2] at h;cases o with
  | lst ys =>
   cases h;obtain⟨_,vs,h1,h2⟩:=q;exact ad8 p vs h1 h2
  | _=>cases h
 | _=>cases h
abbrev sY aPh aPO:as7 d9:=match x with
 | sT xs=>aj4
 | .pR ns=>f7 aAI
 | x=>apc
@[simp] def qD aPc aPi:b7 (am6 (ς xs)) xs:=rfl
@[simp] def Px aPc aPi:b7 (am6 (sT xs)) xs:=rfl
@[simp] def aaG aPc aRO:am6 (.pR ns)=f7 aAI:=rfl
@[simp] def tK aPc aPa:am6 (ο n)=(match M[n]? with | agz=>aj4 | _=>none):=rfl
def bg.ints aPB:∀ns:acm,aoD (ns.map PV.int) aq5
 | []=>abO
 | n::ns=>aaP apt (bg.ints ns)
def wu aQK aPw aPi aPP aRh(h:b7 (am6 x) xs) :
  ∃p vs,v=Δ p/\(qB K H p vs\/CV K H p vs)/\afm:=by
 cases x with
 | tup ys =>
  cases h;rw[acM p vs e q (bj.gO.mp r)];exact ad8 p vs (c6 (.of aC4)) q
 | pR ns =>
  cases h;rw[adC p e (bj.wq.mp r)];exact ad8 p _ (b5 (e.mono aW.sub)) (.ints ns)
 | lst ys =>
  rw[ae3 p vs e1 e2 q (gA aW r h) (alz p e1 (b5 (.of e2)) q)]
 | obj n =>
  rw[ae3 p vs e1 e2 q (gA aW r h) (alz p e1 (b5 (.of e2)) q)]
 | _=>cases h
noncomputable abbrev D2:=PV->PV->aY->afV
abbrev rP aPe(f:D2):R2:=am8 (∃E ι S M p q,aeE/\akW p x/\akW q y/\apk (f p q M))
abbrev ay(f:D2)aUj:DE:=ahk (da ρ M).bind (aic (aCz).bind y (f x y M2))
def KS{f:D2}aPG aQy aP2(h:tG K (iw K) Ex (ay f da db) σ H Q):Z7 (rP K f) (tG K (iw K) Ex da) (tG K (iw K) Ex db) σ H Q:=by
 obtain⟨ι,S,M,ρ,aW,sl,w⟩:=h;refine⟨ι,S,M,ρ,aW,sl,arU w (λ ι1 S1 M1 H1 x v e1 s1 r1 w1=>?_)⟩;refine⟨ι1,S1,M1,ρ,s1,agx,arU w1 (λ ι2 S2 M2 H2 y u e2 s2 r2 w2=>?_)⟩;exact⟨_,ι2,S2,M2,x,y,s2,apz e2,r2,w2⟩
def bh{op:Operator}{f:D2}(ho:nO X (binaryOp op) (anq f))aSz:aeL (.BinOp a op b pos) (ay f da db):=⟨PE.imp (Z8 ho ha.out hb.out) λ _ _ _ h=>KS h⟩
def nO.imp{f:ax9}{r r':R2}(h:at1 r)(i:∀x y H Q,r' x y H Q->r x y H Q):at1 r':=λ pins s σ H x y v u Q I rx ry q=>h pins s σ H x y v u Q I rx ry (i x y H Q q)
abbrev mB(C:aGz)(g:aum PV):D2:=λ x y M=>match x,y with
 | η i,η j=>if c8 (C i j) then .ok (g i j) M else d5
 | _,_=>d5
@[simp] def aaH{C:aGz}{g:aum PV}aRD(h:c8 (C i j)):mB C g (η i) (η j) M=.ok (g i j) M:=by unfold mB;simp[h]
def oS aPG{C:aGz}{g:aum PV}{x y:V}aPy aP2(h:rP K (mB C g) x y H Q) :
  ∃i j,x=η i/\y=η j/\c8 (C i j)/\∃ ι S M,aeE/\∀v,akW (g i j) v->Q v H:=by
 obtain⟨E,ι,S,M,p,q,aW,rx,ry,w⟩:=h;cases p with
 | int i =>
  cases q with
  | int j =>
   rw[ZI hx aM4 hy aJo];rw[au2 mB];split at w
   ·rw[atb];exact⟨i,j,hx,hy,hc,ι,S,M,aW,λ v hv=>alR v hv⟩
   ·rw[abR]
  | _=>rw[abR]
 | _=>rw[abR]
abbrev zv:D2:=mB (abf _ true) λ i j=>η (i-j)
abbrev eh:D2:=mB (abf j (agf (0<j/\aAQ j))) λ i j=>η (i / j)
abbrev cC:D2:=mB (abf j (agf (0<j))) λ i j=>η (i%j)
def As:anv Sub (anq zv):=Xa.imp (apo (by
 obtain⟨i,j,rfl,rfl,_,ι,S,M,aW,k⟩:=oS h;exact abS i j rfl (k _ apt)))
def hE:anv FloorDiv (anq eh):=SU.imp (apo (by
 obtain⟨i,j,rfl,rfl,hc,ι,S,M,aW,k⟩:=oS h;exact ama i j rfl (show 0<j/\aAQ j from aN4) (k _ apt)))
def cS:anv Mod (anq cC):=Xd.imp (apo (by
 obtain⟨i,j,rfl,rfl,hc,ι,S,M,aW,k⟩:=oS h;exact ama i j rfl aN4 (k _ apt)))
abbrev small aP0:Bool:=agf (-(2 ^ 64)<i/\i<2 ^ 64)
abbrev dX aPI:D2:=λ x y M=>match x,y with
 | η i,η j=>.ok (η (i+j)) M
 | sT xs,sT ys=>if acS xs.isEmpty/\aqq aMZ then .ok (sT (xs++ys)) M else d5
 | x,y=>match apc,akI y with
  | aj4,avs=>tJ live (xs++ys) M
  | _,_=>d5
@[simp] def wx aRm aRD:dX live (η i) (η j) M=.ok (η (i+j)) M:=rfl
@[simp] def qE aRm aUi aPc:dX live (ς xs) (ς ys) M=tJ live (xs++ys) M:=rfl
def Jj aPG aRm{x y:V}aPy aP2(h:rP K (dX live) x y H Q) :
  (∃i j,x=η i/\y=η j/\Q (η (i+j)) H)\/VZ K x y H Q\/Tp x y H Q:=by
 obtain⟨E,ι,S,M,p,q,aW,rx,ry,w⟩:=h
 rw[d6 lists (∀aUi,b7 (akI p) xs->b7 (akI q) ys->apk (tJ live (xs++ys) M)->Tp x y H Q) (λ{xs ys} h1 h2 w=>by
  rw[acM l vs e1 r1 (gA aW rx h1)];rw[acM b us e2 r2 (gA aW ry h2)];rw[ahJ w1 w2 (oR aW aMR w) ⟨l,b,vs,us,rfl,rfl,e1,e2,aam w1,w2⟩]) other ((dX live p q M=match azq,akI q with | aj4,avs=>tJ live (xs++ys) M | _,_=>d5)->Tp x y H Q) (adm (by
  rw[e] at w;cases h1:azq with
  | none=>rw[anw h1]
  | some xs =>
   cases h2:akI q with
   | none=>rw[h1,h2] at w;rw[abR]
   | some ys=>rw[ap4 h1 h2 w (lists h1 h2 w)]))]
 cases p with
 | int i =>
  cases q with
  | int j=>exact b5 ⟨i,j,aM4,aJo,arz⟩
  | _=>exact c6 (c6 aKR)
 | tup xs =>
  cases q with
  | tup ys =>
   refine c6 (b5 ?_);rw[au2 dX];split at w
   ·rw[atb]
    rw[acM l vs e1 r1 (bj.gO.mp rx)];rw[acM b us e2 r2 (bj.gO.mp ry)];refine⟨l,b,vs,us,rfl,rfl,.of (aW.sub _ _ e1),.of (aW.sub _ _ e2),g8 z,?_,g8 z,IL _ p hp⟩
    ·subst z;have:=r1.length;cases xs with
     | nil=>cases hc.1
     | cons _ _=>rw[axS]
    ·rw[asI r1.length r2.length (tI hc.2)]
    ·subst z;have:=r2.length;cases ys with
     | nil =>
      rw[t7 zI w (alR _ rx)]
     | cons _ _=>rw[axS]
    ·rw[aeO s2 e2 (aW.tree (o:=sT (vs++us)) hp) (w _ _ _ _ e2 s2 (bj.gO.mpr (ad8 p _ bF ((aMR).mono e2))))]
   ·rw[abR]
  | _=>exact c6 (c6 aKR)
 | _=>exact c6 (c6 (other (by cases q<;>rfl)))
def bV aPI:anv Add (anq (dX live)):=(W9.or (Tj.or XH)).imp (apo (by
 rcases Jj h with⟨i,j,hx,hy,q⟩ | h | h
 ·exact b5 ⟨i,j,hx,hy,q⟩
 ·exact c6 (b5 h)
 ·exact c6 (c6 h)))
abbrev nq aPI:D2:=λ x y M=>match x,y with
 | η i,η j=>if ae8 (small i || small j) then .ok (η (i*j)) M else d5
 | x,η k=>match apc with
  | aj4=>aqZ (aAE k/\k<am9 /\ -am9<k/\aqq aKw) (tJ live (aH2 xs).flatten M)
  | none=>d5
 | _,_=>d5
@[simp] def Py aRm aRD(h:ae8 (small i || small j)):nq live (η i) (η j) M=.ok (η (i*j)) M:=by unfold nq;simp only[axT]
def nU aPI:anv Mult (anq (nq live)):=(Xb.or XI).imp (apo (by
 obtain⟨E,ι,S,M,p,q,aW,rx,ry,w⟩:=h
 have rep:∀{k:Int},q=η k->(nq live p q M=match azq with
  | aj4=>aqZ (aAE k/\k<am9 /\ -am9<k/\aqq aKw) (tJ live (aH2 xs).flatten M)
  | none=>d5)->aau x y H Q:=λ{k} e1 e2=>by
  rw[alL e1 e2 w];cases h1:azq with
  | none=>rw[anw h1]
  | some xs =>
   rw[h1] at w;rw[acM l vs e3 r1 (gA aW rx h1)];dsimp only at w;split at w
   ·rw[atb];rw[aq4 w1 w2 (oR aW (r1.rep k.toNat) w) hy aJo];subst hy;refine⟨l,k,vs,rfl,rfl,e3,?_,?_,?_,w2⟩
    ·rw[ae9 hc.2.2.1]
    ·rw[ae9 hc.2.1]
    ·rw[abd r1.length (tI hc.2.2.2)]
   ·rw[abR]
 cases q with
 | int j =>
  cases p with
  | int i =>
   left;rw[au2 nq];split at w
   ·rw[atb];refine⟨i,j,aM4,aJo,?_,arz⟩;rcases Bool.or_eq_true_iff.mp hc with z | z
    ·exact b5 aOe
    ·exact c6 aOe
   ·rw[abR]
  | _=>exact c6 (rep rfl rfl)
 | _=>cases p<;>exact w.elim))
universe zE
universe L2
universe zE
section
namespace L2
open PySem PySem.Spec PyProof.Rows
abbrev nV aQd(f:ajz α β):ajz af1 aFD
 | []=>some []
 | x::xs=>match f x,akE f with
  | aoG,avs=>f7 (y::ys)
  | _,_=>none
abbrev leaf:ajz PV PyData
 | .bb=>some abc
 | .bl b=>abq ajF b
 | η i=>akd
 | c7 x=>ahy (PyData.canLay0 (c7 x)) (abq c7 x) none
 | _=>none
abbrev flat aPh:ali (ajz PV PyData)
 | 0,x=>leaf x
 | k+1,x=>match x with
  | ς xs=>(akE (flat M k)).map ao2
  | sT xs=>(akE (flat M k)).map av4
  | ο n=>match M[n]? with
   | agz=>(akE (flat M k)).map ao2
   | _=>none
  | x=>leaf x
def KU aPB aQk aQr aQe aUk(r:ae7)(ru:aji)(e:b7 (leaf x) d):Reads h u d []/\aAs/\d.depth=0:=by
 cases x with
 | bb =>
  cases e;cases aKA;cases ru;exact avm abc
 | bl b =>
  cases e;cases aEH;cases ru;exact avm (ajF b)
 | int i =>
  cases e;cases aJM;rw[ahJ t rfl ru (avm (η i t))]
 | str z =>
  rw[aJF leaf];split at e
  ·rw[atb];cases e;cases aJN;rw[ahJ t rfl ru (ajs (c7 z t) hc)]
  ·cases e
 | _=>cases e
def qF aPB aQk aPg{f:ajz PV PyData}
  (ih:∀x v u d,ae7->aji->b7 (f x) d->(∃as,Reads h u d as)/\aAs/\aE4 k) :
  ∀aQm aQY aQL(ds:aJl),afm->avL->b7 (akE f) ds->(∃as,ReadsAll h us ds as)/\aLG ds/\PyData.depthAll ds≤k
 | [],vs,us,ds,r,ru,e=>by
  rw[bg] at r;subst r;cases ru;cases e;exact ad5 (arP abO) auO
 | x::xs,vs,us,ds,r,ru,e=>by
  rw[acM v r' h1 h2 r.lg];cases ru with
  | cons q1 q2 =>
   rw[nV] at e;cases e1:f x with
   | none=>rw[e1] at e; cases e
   | some y =>
    cases e2:akE f with
    | none=>rw[e1,e2] at e; cases e
    | some ys =>
     rw[e1,e2] at e;cases e;obtain⟨⟨as,a1⟩,a2,a3⟩:=ih x v _ y h1 q1 e1
     obtain⟨⟨bs,b1⟩,b2,b3⟩:=qF ih xs r' _ ys h2 q2 e2;rw[adv (arP (aaP a1 b1)) ?_ ?_]
     ·rw[PyData.canLayAll0,a2,b2]; rfl
     ·rw[Ω PyData.depthAll (Nat.max_le.mpr ⟨a3,b3⟩)]
def mS aQp aQK aQk aSN(cQ:alw) :
  ∀aPS aTp aQ7(d:PyData),ae7->aji->b7 (flat M k x) d->(∃as,Reads h u d as)/\aAs/\aE4 k
 | 0,x,v,u,d,r,ru,e=>by
  rw[ahd h1 h2 h3 (KU (h:=h) r ru e) (arP h1) h2 (Nat.le_of_eq h3)]
 | k+1,x,v,u,d,r,ru,e=>by
  rw[aeC ih (mS aW cQ k) lst (∀aPz aPW,v=Δ a->H a=awb->afm->b7 ((akE (flat M k)).map ao2) d->(∃as,Reads h u d as)/\aAs/\aE4 (k+1)) (λ{a xs vs} ev eH hr e=>by
   subst ev;cases ru;obtain⟨_,bR,n,hv,hg⟩:=cQ a _ eH;cases e2:akE (flat M k) with
   | none=>rw[azA]; cases e
   | some ds =>
    rw[azA];cases e;obtain⟨⟨as,a1⟩,a2,a3⟩:=qF ih xs vs bR ds hr hv e2;rw[aas (arP (ao2 hg rfl rfl (aam a1))) (by rw[Ω PyData.canLay0 a2]) (by rw[Ω PyData.depth (Nat.succ_le_succ a3)])])]
  cases x with
  | lst xs =>
   rw[aot a ev eS hr (bj.mR.mp r)];exact lst ev (aW.sub _ _ eS) hr e
  | tup xs =>
   rw[acM a vs eS hr (bj.gO.mp r)];cases ru;obtain⟨_,bR,hv,o,hg,hc,n,hd⟩:=cQ a _ (aW.sub _ _ eS);have e:b7 ((akE (flat M k)).map PyData.tuple) d:=e;cases e2:akE (flat M k) with
   | none=>rw[azA]; cases e
   | some ds =>
    rw[azA];cases e;obtain⟨⟨as,a1⟩,a2,a3⟩:=qF ih xs vs bR ds hr hv e2;rw[aas (arP (av4 hg hc hd (aam a1))) (by rw[Ω PyData.canLay0 a2]) (by rw[Ω PyData.depth (Nat.succ_le_succ a3)])]
  | obj n =>
   obtain⟨a,ev,ei⟩:=bj.fA.mp r;obtain⟨o,eM,mo⟩:=aW.addr ei;simp only[flat,eM] at e;cases o with
   | lst xs =>
    obtain⟨_,vs,eH,hr⟩:=mo;exact lst ev eH hr e
   | _=>cases e
  | _ =>
   rw[ahd h1 h2 h3 (KU (h:=h) r ru e) (arP h1) h2 b6]
noncomputable abbrev deep:Nat:=10
section
variable {X:Cx} {Ex:St->XK} {a b c e:Expr} {es:acU} {da db dc d:DE} {ds:afq} {pos:Pos}
abbrev dW aUl:D2:=λ x y M=>match ao7 x,ao7 y with
 | some p,some q=>.ok (.bl (aja (PyData.eqv p q) (PyData.eqv p q))) M
 | _,_=>d5
def KW aPG aQf{x y:V}aPy aP2(h:rP K (dW neg) x y H Q) :
  ∃ ι S M p q d1 d2,aeE/\akW p x/\akW q y/\b7 (ao7 p) d1/\b7 (ao7 q) d2/\Q (.bl (aja (PyData.eqv d1 d2) (PyData.eqv d1 d2))) H:=by
 obtain⟨E,ι,S,M,p,q,aW,rx,ry,w⟩:=h;rw[agY dW];cases e1:ao7 p with
 | none=>rw[anw e1]
 | some d1 =>
  cases e2:ao7 q with
  | none=>rw[e1,e2] at w;rw[abR]
  | some d2 =>
   rw[e1,e2] at w;exact⟨ι,S,M,p,q,d1,d2,aW,rx,ry,e1,e2,aye⟩
def bN aQi:arO Eq (dW false):=by
 intro pins s σ H x y v u Q I rx ry h;obtain⟨ι,S,M,p,q,d1,d2,aW,px,py,e1,e2,w⟩:=KW h;obtain⟨⟨as,a1⟩,a2,a3⟩:=mS aW I.cQ deep p x v d1 px rx e1;obtain⟨⟨bs,b1⟩,b2,b3⟩:=mS aW I.cQ deep q y u d2 py ry e2;exact SeqAt.compareEq_reads a1 b1 a2 b2 (by have:=Nat.min_le_left d1.depth d2.depth;have:d1.depth≤10:=a3;omega) (asb .bl _ w)
def oT aQi:arO NotEq (dW true):=by
 intro pins s σ H x y v u Q I rx ry h;obtain⟨ι,S,M,p,q,d1,d2,aW,px,py,e1,e2,w⟩:=KW h;obtain⟨⟨as,a1⟩,a2,a3⟩:=mS aW I.cQ deep p x v d1 px rx e1;obtain⟨⟨bs,b1⟩,b2,b3⟩:=mS aW I.cQ deep q y u d2 py ry e2;exact SeqAt.compareNe_reads a1 b1 a2 b2 (by have:=Nat.min_le_left d1.depth d2.depth;have:d1.depth≤10:=a3;omega) (asb .bl _ w)
abbrev kQ:ajz PV Key
 | η i=>abq b5 i
 | c7 x=>abq c6 x
 | _=>none
abbrev KY:ajz PV akP
 | sT xs=>akE kQ
 | _=>none
abbrev jF aQg [an8] (kvs:ald)aP7:ahL:=anz (kvs.find? (atx (agv=k))).map
abbrev nW aQg [an8] (kvs:ald)aP7(v:PV):ald :=
 if kvs.any (atx (agv=k)) then kvs.map (λ kv=>if agv=k then(agv,v) else kv) else kvs++[(k,v)]
abbrev uY aQg [an8] (kvs:ald)aP7:ald:=kvs.filter (ajd kv agv k)
def nu aPB aQr aQX(r:ae7)(e:b7 (kQ x) k):v=akM:=by
 cases x with
 | int i=>cases e; exact aJM
 | str z=>cases e; exact aJN
 | _=>cases e
def xM aPB:∀aPW{ks:akP},afm->b7 (akE kQ) ks->vs=aKd
 | [],vs,ks,r,e=>by rw[bg] at r;subst r; cases e; rfl
 | x::xs,vs,ks,r,e=>by
  rw[acM v r' h1 h2 r.lg];rw[nV] at e;cases e1:kQ x with
  | none=>rw[e1] at e; cases e
  | some k =>
   cases e2:akE kQ with
   | none=>rw[e1,e2] at e; cases e
   | some ks' =>
    rw[e1,e2] at e;cases e;rw[zC,← nu h1 e1,← xM h2 e2]
def dR.val aPB aQg [an8] aRn aP7 :
  (aaz aoW/\aaz (nT cf k))\/∃x v,aoW=aeU/\nT cf k=afw/\ae7:=by
 induction h with
 | nil=>exact awk rfl
 | @cons p q kvs cf r t ih =>
  obtain⟨r1,r2⟩:=r;rw[awO]
  ·refine c6 ⟨p.2,q.2,au3 jF e,agB (wa (r1 ▸ e)),r2⟩
  ·have e':¬q.1=k:=r1 ▸ e
   have h1:jF (p::kvs) k=aoW:=au3 jF e
   rw[ae0 h1 (wb e') ih]
def dR.any aPB aQg [an8] aRn aP7:kvs.any (atx (agv=k))=cf.any (atx (agv=k)):=by
 induction h with
 | nil=>rfl
 | cons r t ih=>rw[List.any_cons,List.any_cons,r.1,ih]
def dR.put aPB aQg [an8] aRn aP7 aQr(r:ae7):dR K ι S (nW kvs k x) (putK cf k v):=by
 unfold nW putK;rw[h.any k];split
 ·induction h with
  | nil=>rw[al3]
  | @cons p q kvs cf r' t ih =>
   rw[zC,zC]
   refine aaP ?_ ?_
   ·rw[awO]
    ·rw[akr e (r'.1 ▸ e)];rw[aaX r'.1 r]
    ·rw[ae0 ak3 (if_neg (r'.1 ▸ e)) r']
   ·rename_i hq;clear ih hq
    induction t with
    | nil=>rw[al3]
    | @cons p q kvs cf r' t ih =>
     rw[zC,zC]
     refine aaP ?_ ih;rw[awO]
     ·rw[akr e (r'.1 ▸ e)];rw[aaX r'.1 r]
     ·rw[ae0 ak3 (if_neg (r'.1 ▸ e)) r']
 ·induction h with
  | nil=>exact ay5 r abO
  | cons r' t ih =>
   rename_i hq;refine aaP r' (ih ?_);intro z;exact hq (by rw[List.any_cons,z,Bool.or_true])
def dR.drop aPB aQg [an8] aRn aP7:dR K ι S (uY kvs k) (v9 cf k):=by
 unfold uY v9
 induction h with
 | nil=>rw[al3]
 | @cons p q kvs cf r t ih =>
  rw[List.filter_cons,List.filter_cons,← r.1];split
  ·exact aaP r ih
  ·exact ih
abbrev getD aPh(x k:PV):as7 ahL:=match x with
 | ο n=>match M[n]? with
  | aCC=>(kQ k).map (jF kvs)
  | abq .MF kvs=>(KY k).map (jF kvs)
  | abq .jd kvs=>(kQ k).map (jF kvs)
  | _=>none
 | _=>none
def GR aQK{x k:PV}{v y:V}{o:ahL}aRh(ry:akW k y)(h:getD M x k=t9) :
  ∃p ov,v=Δ p/\Xr H p/\tE H p y ov/\((aaz o/\aaz ov)\/∃z w,b7 o z/\b7 ov w/\akW z w):=by
 cases x with
 | obj n =>
  rw[adC p ei (bj.fA.mp r)];obtain⟨mo,eM,q⟩:=aW.addr ei;simp only[getD,eM] at h;cases mo with
  | bB kvs =>
   obtain⟨_,cf,eH,rk⟩:=q;rw[apE];cases ek:kQ k with
   | none=>rw[ayY]; cases h
   | some kk =>
    rw[ayY];cases h;have:=nu ry ek
    subst this
    refine ama p (nT cf kk) (aoQ cf (b5 eH)) (tE.k eH) ?_;rcases aKS with⟨h1,h2⟩ | ⟨z,w,h1,h2,h3⟩
    ·exact aoQ h1 h2
    ·exact c6 ⟨z,w,h1,h2,h3⟩
  | MF kvs =>
   obtain⟨_,cf,eH,rk⟩:=q;rw[apE];cases k with
   | tup xs =>
    rw[acM b vs eS hr (bj.gO.mp ry)];simp only[KY] at h;cases ek:akE kQ with
    | none=>rw[ayY]; cases h
    | some kk =>
     rw[ayY];cases h;have:=xM hr ek
     subst this
     refine ama p (nT cf kk) (alx cf (b5 eH)) (tE.t eH (aW.sub _ _ eS)) ?_;rcases aKS with⟨h1,h2⟩ | ⟨z,w,h1,h2,h3⟩
     ·exact aoQ h1 h2
     ·exact c6 ⟨z,w,h1,h2,h3⟩
   | _=>cases h
  | jd kvs =>
   obtain⟨ob,cf,_,eH,rk⟩:=q;rw[apE];cases ek:kQ k with
   | none=>rw[ayY]; cases h
   | some kk =>
    rw[ayY];cases h;have:=nu ry ek
    subst this
    refine ama p (nT cf kk) (aoQ cf (alx ob eH)) (b5 (abS cf kk (alx ob eH) rfl)) ?_;rcases aKS with⟨h1,h2⟩ | ⟨z,w,h1,h2,h3⟩
    ·exact aoQ h1 h2
    ·exact c6 ⟨z,w,h1,h2,h3⟩
  | _=>cases h
 | _=>cases h
abbrev ju aUl:D2:=λ x y M=>match am6 y with
 | avs=>match ao7 x,nV (flat M deep) ys with
  | some p,some qs=>.ok (.bl (aja (qs.any (alH q q p)) (qs.any (alH q q p)))) M
  | _,_=>d5
 | none=>match getD M y x with
  | t9=>.ok (.bl (aja o.isSome o.isSome)) M
  | none=>d5
def Pz aUl aQi aSI
  (hL:∀aPK{c x:Value}{xs:aJl}aUk{as bs:d8}aPN(rc:aJa c (ao2 xs) as)aWB(hd:aAs)
   aVl,adT (compareOp op x c) Q s)
  (hT:∀aPK{c x:Value}{xs:aJl}aUk{as bs:d8}aPN(rc:aJa c (av4 xs) as)aWB(hd:aAs)
   aVl,adT (compareOp op x c) Q s)
  (hD:∀aRK aPK aQy aQl aSL{o:ark}aPN,ahX (tE H p y o) (akG->(∀s',aty->Q (ajF (aja o.isSome o.isSome)) s') →
   adT (compareOp op u (Δ p)) Q s)):ayb (anq (ju neg)):=by
 intro pins s σ H x y v u Q I rx ry h;obtain⟨E,ι,S,M,p,q,aW,px,py,w⟩:=h;rw[agY ju];cases e1:am6 q with
 | some ys =>
  rw[azJ];cases e2:ao7 p with
  | none=>rw[aCk]
  | some d =>
   cases e3:nV (flat M deep) ys with
   | none=>rw[e2,e3] at w;rw[abR]
   | some qs =>
    rw[e2,e3] at w;have fin:=aye;obtain⟨⟨as,a1⟩,a2,a3⟩:=mS aW I.cQ deep p x v d px rx e2;rw[acM l vs hq rs (wu aW py e1)];cases ry
    have room:axb 1+min aL7 d.depth<cLine:=by have:=Nat.min_le_right aL7 d.depth;have:aE4 10:=a3;omega
    rcases hq with hq | hq
    ·rw[agg rv pl hz (I.list hq)];obtain⟨⟨bs,b1⟩,b2,b3⟩:=qF (mS aW I.cQ deep) ys vs bR qs rs rv e3;obtain⟨o,n,ho,hc,_,hd⟩:=pl;exact hL (ao2 ho hc hd (aam b1)) a1 b2 a2 room (asb .bl _ fin)
    ·rw[agg rv pl hz (I.tuple hq)];obtain⟨⟨bs,b1⟩,b2,b3⟩:=qF (mS aW I.cQ deep) ys vs bR qs rs rv e3;obtain⟨o,ho,hc,n,hd⟩:=pl;exact hT (av4 ho hc hd (aam b1)) a1 b2 a2 room (asb .bl _ fin)
 | none =>
  rw[azJ];cases e2:getD M q p with
  | none=>rw[aCk]
  | some o =>
   rw[e2] at w;have fin:=aye;obtain⟨l,ov,rfl,_,g,hh⟩:=GR aW py px e2;cases ry
   have eo:o.isSome=ov.isSome:=by
    rcases hh with⟨h1,h2⟩ | ⟨z,w',h1,h2,_⟩
    ·rw[h1,h2]; rfl
    ·rw[h1,h2]; rfl
   rw[t7 eo fin (hD I g rx λ s' I'=>abS (.bl _) H I' fin)]
def eL aQi:arO In (ju false) :=
 Pz false hu (λ rc rx Tx hd hu h=>SeqAt.in_list_reads rc rx Tx hd hu h) (λ rc rx Tx hd hu h=>SeqAt.in_tuple_reads rc rx Tx hd hu h) λ I g ry h=>ad7 b6 I g ry h
def rm aQi:arO NotIn (ju true) :=
 Pz true hu (λ rc rx Tx hd hu h=>SeqAt.notIn_list_reads rc rx Tx hd hu h) (λ rc rx Tx hd hu h=>SeqAt.notIn_tuple_reads rc rx Tx hd hu h) λ I g ry h=>S7 b6 I g ry h
abbrev Jk:D2:=mB (abf _ true) λ i j=>.bl (an2 i j)
abbrev leP:D2:=mB (abf _ true) λ i j=>.bl (arL i j)
abbrev IH:D2:=mB (abf _ true) λ i j=>.bl (an2 j i)
abbrev geP:D2:=mB (abf _ true) λ i j=>.bl (arL j i)
def xN:arO Lt Jk:=aab.imp (apo (by
 obtain⟨i,j,rfl,rfl,_,ι,S,M,aW,k⟩:=oS h;exact abS i j rfl (k _ (bj.fG.mpr rfl))))
def PB:arO LtE leP:=aac.imp (apo (by
 obtain⟨i,j,rfl,rfl,_,ι,S,M,aW,k⟩:=oS h;exact abS i j rfl (k _ (bj.fG.mpr rfl))))
def tL:arO Gt IH:=aad.imp (apo (by
 obtain⟨i,j,rfl,rfl,_,ι,S,M,aW,k⟩:=oS h;exact abS i j rfl (k _ (bj.fG.mpr rfl))))
def PC:arO GtE geP:=aae.imp (apo (by
 obtain⟨i,j,rfl,rfl,_,ι,S,M,aW,k⟩:=oS h;exact abS i j rfl (k _ (bj.fG.mpr rfl))))
abbrev uZ:amF PV
 | .bb=>true
 | _=>false
def DR aPB aQr(r:ae7):afJ v .bb=uZ x:=by
 cases x with
 | bb=>cases aKA; rfl
 | bl b=>cases aEH; rfl
 | int i=>cases aJM; rfl
 | str z=>cases aJN; rfl
 | lst xs=>obtain⟨p,vs,rfl,_⟩:=bj.mR.mp r;rfl
 | tup xs=>obtain⟨p,vs,rfl,_⟩:=bj.gO.mp r;rfl
 | obj n=>obtain⟨p,rfl,_⟩:=bj.fA.mp r;rfl
 | pR n=>obtain⟨p,rfl,_⟩:=bj.wq.mp r;rfl
abbrev rn aUl:D2:=λ x y M=>match y with
 | .bb=>.ok (.bl (aja (uZ x) (uZ x))) M
 | _=>d5
def mC:arO Is (rn false):=Xf.imp (apo (by
 obtain⟨E,ι,S,M,p,q,aW,rx,ry,w⟩:=h;cases q with
 | bb =>
  rw[aej (bj.kZ.mp ry) ?_];rw[Ω (DR rx) aye]
 | _=>rw[abR]))
def rq:arO IsNot (rn true):=SV.imp (apo (by
 obtain⟨E,ι,S,M,p,q,aW,rx,ry,w⟩:=h;cases q with
 | bb =>
  rw[aej (bj.kZ.mp ry) ?_];rw[Ω (DR rx) aye]
 | _=>rw[abR]))
def eN aSI{f:D2}aU1 aSz(hm:aDg:=by rfl):aeL (aA8 a [op] [b] pos) (ay f da db):=⟨PE.imp (SW ho ha.out hb.out hm) λ _ _ _ h=>KS h⟩
abbrev jG aPh:ajz PV Bool
 | .bb=>some false
 | .bl b=>aBl
 | η i=>f7 (i != 0)
 | c7 x=>asC (aqq x.length) (f7 (acy x.length != 0))
 | ς xs=>aK3
 | sT xs=>aK3
 | .pR ns=>some ! ns.isEmpty
 | ο n=>match M[n]? with
  | agz=>aK3
  | aCC=>some aI6
  | _=>none
def isEmpty_eq aQd aRN{ys:aFD}(h:aA1 ys.length):xs.isEmpty=ys.isEmpty:=by cases xs<;>cases ys<;>simp_all
def PD aQK aQr{k:Bool}aRh(h:b7 (jG M x) k):Xh K v H k:=by
 cases x with
 | bb=>cases aKA; cases h; rfl
 | bl b=>cases aEH; cases h; rfl
 | int i=>cases aJM; cases h; rfl
 | str z =>
  cases aJN;simp only[jG] at h;split at h
  ·cases h;rw[atc];exact aiI (tI hl)
  ·cases h
 | lst xs =>
  rw[acM p vs e q (bj.mR.mp r)];cases h;exact b5 ⟨vs,.of aC4,agB (isEmpty_eq q.length)⟩
 | tup xs =>
  rw[acM p vs e q (bj.gO.mp r)];cases h;exact c6 (b5 ⟨vs,.of aC4,agB (isEmpty_eq q.length)⟩)
 | pR ns =>
  rw[adC p e (bj.wq.mp r)];cases h;exact b5 ⟨_,e.mono aW.sub,agB (isEmpty_eq (Ξ:ns.length=aeA aq5))⟩
 | obj n =>
  rw[adC p e (bj.fA.mp r)];obtain⟨o,eM,q⟩:=aW.addr e;simp only[jG,eM] at h;cases o with
  | lst xs =>
   cases h;obtain⟨_,vs,e,q⟩:=q;exact b5 ⟨vs,.of e,agB (isEmpty_eq q.length)⟩
  | bB xs =>
   cases h;obtain⟨_,vs,e,q⟩:=q;exact c6 (c6 ⟨vs,e,agB (isEmpty_eq q.length)⟩)
  | _=>cases h
abbrev dP aPJ:DT:=ahk (aaQ).bind (asZ (jG M1 x) M1)
def bt(ha:aoY)(he:∀whole,isTrue a X.env whole=(do let v ← whole; standAt a.pos; aor [v] (truthy v)):=by rw[ar5]):VT X Ex a (dP da):=⟨by
 refine PT.imp (OP ha.out he) (acI σ H Q h);obtain⟨ι,S,M,ρ,aW,sl,w⟩:=h;refine⟨ι,S,M,ρ,aW,sl,aeK (iw X.K) w (λ ι1 S1 M1 H1 x v e1 s1 r1 w1=>?_)⟩;cases e:jG M1 x with
 | none=>rw[t7 e w1 w1.elim]
 | some k =>
  rw[e] at w1
  rw[aas k (PD s1 r1 e) (w1 ι1 S1 H1 k agi s1 rfl)]⟩
abbrev ba aPJ:DT:=ahk (aaQ).bind (match x with
 | .bl k=>.ok k M1
 | _=>d5)
def X1 aPG aQy{Q:atJ}{t:TE}(h:tG K Oo Ex (ba d) σ H Q)(hd:∀Q',tG K (iw K) Ex d σ H Q'->t σ H Q'):VQ t σ H Q:=by
 obtain⟨ι,S,M,ρ,aW,sl,w⟩:=h;rw[afQ (hd _ ⟨ι,S,M,ρ,aW,sl,?_⟩) (arU w (λ ι1 S1 M1 H1 x v e1 s1 r1 w1=>?_))];cases x with
 | bl k=>rw[aas k (bj.fG.mp r1) (w1 ι1 S1 H1 k agi s1 rfl)]
 | _=>rw[ai4]
def aO aSI{f:D2}aU1 aSz(hm:aDg:=by rfl) :
  VT X Ex (aA8 a [op] [b] pos) (ajM f da db):=⟨PT.imp (SX ho ha.out hb.out hm) λ σ H Q h=>X1 h λ Q' h'=>KS h'⟩
abbrev ER(f g:D2)(da db dc:DE):DE:=ahk (da ρ M).bind (aic (aCz).bind y ((f x y M2).bind λ z M3=>match z with
 | af4=>(dc ρ M3).bind λ w M4=>g y w M4
 | aiU .bl=>.ok (aiU .bl) M3
 | _=>d5))
def PF{f g:D2}aPG aQy aP2(h:tG K (iw K) Ex (ER f g da db dc) σ H Q):ON (rP K f) (rP K g) (tG K (iw K) Ex da) (tG K (iw K) Ex db) (tG K (iw K) Ex dc) σ H Q:=by
 obtain⟨ι,S,M,ρ,aW,sl,w⟩:=h;refine⟨ι,S,M,ρ,aW,sl,arU w (λ ι1 S1 M1 H1 x v e1 s1 r1 w1=>?_)⟩;refine⟨ι1,S1,M1,ρ,s1,agx,arU w1 (λ ι2 S2 M2 H2 y u e2 s2 r2 w2=>?_)⟩;refine⟨_,ι2,S2,M2,x,y,s2,apz e2,r2,arU w2 (λ ι3 S3 M3 H3 z t e3 s3 r3 w3=>?_)⟩;cases z with
 | bl k =>
  rw[adv k (bj.fG.mp r3) ?_];cases k with
  | false=>exact GN (w3 ι3 S3 H3 _ agi s3 (bj.fG.mpr rfl))
  | true =>
   refine GO ⟨ι3,S3,M3,ρ,s3,(agx).mono (e2.trans e3),arU w3 (λ ι4 S4 M4 H4 c t4 e4 s4 r4 w4=>?_)⟩;exact⟨_,ι4,S4,M4,y,c,s4,bj.mono (e3.trans e4) r2,r4,w4⟩
 | _=>exact w3.elim
def PH{op Xg:CmpOp}{f g:D2}aU1(KC:nO X (compareOp Xg) (anq g))aSz(hc:aeL c dc)
  aVI:aeL (aA8 a [op,Xg] [b,c] pos) (ER f g da db dc):=⟨PE.imp (OO ho KC ha.out hb.out hc.out hm) λ _ _ _ h=>PF h⟩
variable {ta tb tc:DT} {rest:acU}
abbrev mD(ta tb:DT):DT:=λ ρ M=>akY (ta ρ M).bind k (ahy k (tb ρ M1) (.ok false M1))
abbrev A6(ta tb:DT):DT:=λ ρ M=>akY (ta ρ M).bind k (if c8 k then .ok true M1 else tb ρ M1)
abbrev nv(ta:DT):DT:=λ ρ M=>akY (ta ρ M).bind k (.ok (! k) M1)
def jM(h:aDh):VW X Ex (ait .And [a] pos) ta:=⟨SH h.out⟩
def nE(h:aDh):VW X Ex (ait .Or [a] pos) ta:=⟨WR h.out⟩
def j4(ha:aDh)(hb:VW X Ex (ait .And als pos) tb):VW X Ex (ait .And (a::als) pos) (mD ta tb):=⟨by
 refine PW.imp (WS ha.out hb.out) (acI σ H Q h);obtain⟨ι,S,M,ρ,aW,sl,w⟩:=h;refine⟨ι,S,M,ρ,aW,sl,aeK Oo w (λ ι1 S1 M1 H1 x v e1 s1 r1 w1=>?_)⟩;cases r1;cases x with
 | false=>exact GN (w1 ι1 S1 H1 false agi s1 rfl)
 | true=>exact aGG⟩
def qG(ha:aDh)(hb:VW X Ex (ait .Or als pos) tb):VW X Ex (ait .Or (a::als) pos) (A6 ta tb):=⟨by
 refine PW.imp (ZS ha.out hb.out) (acI σ H Q h);obtain⟨ι,S,M,ρ,aW,sl,w⟩:=h;refine⟨ι,S,M,ρ,aW,sl,aeK Oo w (λ ι1 S1 M1 H1 x v e1 s1 r1 w1=>?_)⟩;cases r1;cases x with
 | true=>exact GO (w1 ι1 S1 H1 true agi s1 rfl)
 | false=>exact aGF⟩
def j5(ha:aDh):VT X Ex (aFn .Not a pos) (nv ta):=⟨by
 refine PT.imp (WT ha.out) (acI σ H Q h)
 obtain⟨ι,S,M,ρ,aW,sl,w⟩:=h
 refine⟨ι,S,M,ρ,aW,sl,aeK Oo w (λ ι1 S1 M1 H1 x v e1 s1 r1 w1=>?_)⟩;cases r1
 exact alp rfl⟩
abbrev sH aUj:DE:=ahk (da ρ M).bind (match x with
 | af4=>aCz
 | aiU .bl=>.ok (aiU .bl) M1
 | _=>d5)
abbrev xO aUj:DE:=ahk (da ρ M).bind (match x with
 | aiU .bl=>aCz
 | af4=>.ok af4 M1
 | _=>d5)
def qc{op}(h:aoY):aeL (ait op [a] pos) da:=⟨WU h.out⟩
def A7(ha:aoY)(hb:aeL (ait .And als pos) db):anO ait .And (a::als) (sH da db):=⟨by
 rw[am4 (WV ha.out hb.out) (λ ι1 S1 M1 H1 x v e1 s1 r1 w1=>?_)];cases x with
 | bl k =>
  rw[adv k (bj.fG.mp r1) ?_];cases k with
  | false=>exact GN (alp (bj.fG.mpr rfl))
  | true=>exact aGG
 | _=>rw[ai4]⟩
def GU(ha:aoY)(hb:aeL (ait .Or als pos) db):anO ait .Or (a::als) (xO da db):=⟨by
 rw[am4 (ZU ha.out hb.out) (λ ι1 S1 M1 H1 x v e1 s1 r1 w1=>?_)];cases x with
 | bl k =>
  rw[adv k (bj.fG.mp r1) ?_];cases k with
  | true=>exact GO (alp (bj.fG.mpr rfl))
  | false=>exact aGF
 | _=>rw[ai4]⟩
abbrev KZ(tc:DT)aUj:DE:=λ ρ M=>akY (tc ρ M).bind k (ahy k (da ρ M1) aCz)
def yS(hc:VT X Ex c tc)aSz:aeL (.IfExp c a b pos) (KZ tc da db):=⟨by
 refine PE.imp (OI hc.out ha.out hb.out) (acI σ H Q h);obtain⟨ι,S,M,ρ,aW,sl,w⟩:=h;refine⟨ι,S,M,ρ,aW,sl,aeK Oo w (λ ι1 S1 M1 H1 x v e1 s1 r1 w1=>?_)⟩;cases r1;cases x with
 | true=>exact aGG
 | false=>exact aGF⟩
universe zE
universe L2
universe zE
end
mutual
section
namespace L2
open PySem PySem.Spec PyProof.Rows
section
variable {X:Cx} {Ex:St->XK} {a b c e o:Expr} {es:acU} {da db dc d lQ:DE} {ds:afq} {pos apos dg:Pos}
def Tz aQi:Tl X (am8 (∃p v,x=Δ p/\tE H p y afw/\Q v H)):=by
 intro value slice pins s σ H x y v u Q I rx ry h hs;rw[anJ p z g h];cases rx;exact tail_any (GH I g) PySem.F.slot_dict_getitem.lookup (Mt b6 I g ry λ w' s3 I3 CY=>⟨z,H,I3,CY,q⟩) hs
abbrev aK:D2:=λ x y M=>match aDa with
 | aj4=>match y with
  | η i=>asZ azF M
  | _=>d5
 | none=>match getD M x y with
  | akj z=>.ok z M
  | _=>d5
def PJ aPB aPW aPu aPw(r:afm)(h:azF=aeU):∃v,Mw vs i=afw/\ae7:=by
 unfold Mw at h ⊢;rw[← r.length];cases e:axp i with
 | none=>rw[akN]; cases h
 | some j =>
  rw[t7 e h (r.get h)]
def aew aQi:Tl X (anq aK):=by
 have base:=(Tn (X:=X)).or (vm.or (Tz hu));intro value slice pins s σ H x y v u Q I rx ry h hs;refine base value slice pins s σ H x y v u Q I rx ry ?_ hs;obtain⟨E,ι,S,M,p,q,aW,px,py,w⟩:=h;rw[agY aK];cases e1:am6 p with
 | some xs =>
  rw[azJ];cases q with
  | int i =>
   dsimp only at w;cases e2:azF with
   | none=>rw[aCk]
   | some z =>
    rw[e2] at w
    rw[acM l vs hq rs (wu aW px e1)];obtain⟨z',h1,h2⟩:=PJ rs e2;have fin:=alR z' h2;rcases hq with hq | hq
    ·exact b5 ⟨l,vs,i,z',rfl,bj.bD.mp py,hq,h1,fin⟩
    ·exact c6 (b5 ⟨l,vs,i,z',rfl,bj.bD.mp py,hq,h1,fin⟩)
  | _=>rw[abR]
 | none =>
  rw[azJ];cases e2:getD M p q with
  | none=>rw[aCk]
  | some oo =>
   cases oo with
   | none=>rw[aCk]
   | some z =>
    rw[e2] at w;obtain⟨l,ov,rfl,_,g,hh⟩:=GR aW px py e2;rcases hh with⟨h1,_⟩ | ⟨z',w',h1,h2,h3⟩
    ·cases h1
    ·cases h1;rw[aeq h2 (c6 (c6 (ad8 l w' g (alR w' h3))))]
def aw aQi aSz(hs:KO b:=by intro _ _; rfl):anO amz a b (ay aK da db):=⟨PE.imp (aaq (aew hu) ha.out hb.out hs) λ _ _ _ h=>KS h⟩
noncomputable abbrev DO:=eu->aY->Res adq
noncomputable abbrev RpO:d8->Hp->adq->ad9 adq:=λ _ _ x v=>v=x
structure VO aQq(e:aEy)(d:DO):Prop where
 out:PO X e (tG X.K RpO Ex d)
def PO.imp{e:aEy}{t t':TO}(h:PO X e t)aSw:PO X e t':=λ pins s σ H Q I hw=>h pins s σ H Q I (i σ H Q hw)
abbrev dn:DO:=abf M (.ok none M)
abbrev gB aPJ:DO:=ahk (aaQ).bind (match x with
 | η i=>.ok av6 M1
 | _=>d5)
def eU:VO X Ex none dn:=⟨by
 refine PO.imp Tf (acI σ H Q h)
 obtain⟨ι,S,M,ρ,aW,sl,w⟩:=h
 exact alR none rfl⟩
def eC(h:aqz):VO X Ex aGC (gB d):=⟨by
 refine PO.imp (Ti h.out) (acI σ H Q h);obtain⟨ι,S,M,ρ,aW,sl,w⟩:=h;refine⟨ι,S,M,ρ,aW,sl,aeK (iw X.K) w (λ ι1 S1 M1 H1 x v e1 s1 r1 w1=>?_)⟩;cases x with
 | int i=>rw[aas i au0 (alp rfl)]
 | _=>rw[ai4]⟩
abbrev qH aQm aRl:d9:=(aA2 aqA).take (ayB-aqA)
def bg.qH aPB aPW(r:afm)aRl:auv (qH xs lo hi) (EF vs lo hi):=by
 unfold L2.qH EF;rw[ae2 r.length ((r.drop _).take _)]
abbrev GV aPI aPO aRl aPh:afV:=match x with
 | sT xs=>if aqA=0/\aE3 ayB then d5 else .ok (sT (qH xs lo hi)) M
 | x=>match apc with
  | aj4=>tJ live (qH xs lo hi) M
  | none=>d5
abbrev aex aPe aPI:V->adq->auq:=λ x lo hi H Q=>∃E ι S M p,aeE/\akW p x/\apk (GV live p lo hi M)
def O3.imp aWm(i:∀x lo hi H Q,r' x lo hi H Q->r x lo hi H Q):O3 X r':=λ pins s σ H x v vl vu lo hi sl Q I rx hs pl pu q=>h pins s σ H x v vl vu lo hi sl Q I rx hs pl pu (i _ _ _ _ _ q)
def aey aPI:O3 X (aex X.K live):=(To.or XA).imp λ x lo hi H Q h=>by
 obtain⟨E,ι,S,M,p,aW,px,w⟩:=h
 rw[d6 lists (∀aPi,b7 (akI p) xs->cA X.K (iw X.K) E ι S H Q (tJ live (qH xs lo hi) M)->XC X.K x lo hi H Q) (λ{xs} h1 w=>by
  rw[acM l vs e1 r1 (gA aW px h1)];rw[ahJ w1 w2 (oR aW (r1.qH lo hi) w) (ad8 l vs (.of e1) w2)]) other ((GV live p lo hi M=match azq with | aj4=>tJ live (qH xs lo hi) M | none=>d5)->XC X.K x lo hi H Q) (adm (by
  rw[e] at w;cases h1:azq with
  | none=>rw[anw h1]
  | some xs=>rw[t7 h1 w (lists h1 w)]))]
 cases p with
 | tup xs =>
  right;rw[au2 GV];split at w
  ·rw[abR]
  ·rw[atb];rw[acM l vs e1 r1 (bj.gO.mp px)];rw[asR (ama l vs (.of (aW.sub _ _ e1)) (by rw[abd r1.length hc]) ar6) s2 e2 (aW.tree (o:=sT (EF vs lo hi)) hp) (w _ _ _ _ e2 s2 (bj.gO.mpr (ad8 p _ bF ((r1.qH lo hi).mono e2))))]
 | _=>exact b5 aKR
abbrev wz aPI(da:DE)(dl dh:DO):DE:=ahk (da ρ M).bind (aic (dl ρ M1).bind lo ((dh ρ M2).bind λ hi M3=>GV live x lo hi M3))
def j6 aPI{lo hi:aEy}{dl dh:DO}{p2:Pos}aSO(hl:VO X Ex lo dl)(hh:VO X Ex hi dh):anO amz e (ayl lo hi none p2) (wz live d dl dh):=⟨by
 rw[am4 (O4 (aey live) he.out hl.out hh.out) (λ ι1 S1 M1 H1 x v e1 s1 r1 w1=>?_)]
 refine⟨ι1,S1,M1,ρ,s1,agx,aeK RpO w1 (λ ι2 S2 M2 H2 l l' e2 s2 r2 w2=>?_)⟩;cases r2;refine⟨ι2,S2,M2,ρ,s2,aBA,aeK RpO w2 (λ ι3 S3 M3 H3 h h' e3 s3 r3 w3=>?_)⟩;cases r3
 exact⟨_,ι3,S3,M3,x,s3,aHx,w3⟩⟩
abbrev ES aPO aPh:afV:=match x with
 | ο n=>match M[n]? with
  | agz=>.ok (ς xs) (atd .gone)
  | _=>.ok x M
 | x=>.ok x M
abbrev ET aPJ:DE:=ahk (aaQ).bind (ES x M1)
def xP(h:aqz):aeL e (ET d):=⟨by
 refine PE.imp h.out (acI σ H Q hh);obtain⟨ι,S,M,ρ,aW,sl,w⟩:=hh;refine⟨ι,S,M,ρ,aW,sl,aeK (iw X.K) w (λ ι1 S1 M1 H1 x v e1 s1 r1 w1=>?_)⟩;have keep:cA X.K (iw X.K) (Ex σ) ι1 S1 H1 Q (.ok x M1)->apm v:=λ w=>w ι1 S1 H1 v agi s1 r1;cases x with
 | obj n =>
  simp only[ES] at w1;cases eM:M1[n]? with
  | none=>rw[t7 eM w1 (keep w1)]
  | some o =>
   rw[eM] at w1;cases o with
   | lst xs =>
    rw[adC p ei (bj.fA.mp r1)];rw[auU S' s2 e2 r2 (s1.freeze ei eM) (w1 _ _ _ _ e2 s2 r2)]
   | _=>exact keep w1
 | _=>exact keep w1⟩
noncomputable abbrev D1:=d9->aY->afV
abbrev rC aPe(f:D1):ajT:=λ vs H Q=>∃E ι S M xs,aeE/\afm/\apk (f xs M)
def ir.imp{f:Value}{r r':ajT}(h:ir X f r)(i:∀xs H Q,r' xs H Q->r xs H Q):ir X f r':=λ pins s σ H xs us Q I rs q=>h pins s σ H xs us Q I rs (i _ _ _ q)
abbrev av(f:D1)aRb:DE:=awe (al9).bind (f xs M1)
def K0{f:D1}aPG aQy aP2(h:tG K (iw K) Ex (av f ds) σ H Q):tCB (rC K f) (tG K (anh K) Ex (fH ds)) σ H Q:=by
 obtain⟨ι,S,M,ρ,aW,sl,w⟩:=h;refine⟨ι,S,M,ρ,aW,sl,aeK (anh K) w (λ ι1 S1 M1 H1 x v e1 s1 r1 w1=>?_)⟩;exact⟨_,ι1,S1,M1,x,s1,r1.1,w1⟩
def bo{f:D1}aPl aT3{p:Pos}(hc:aqm id (aqb f))(hm:aCZ)(hv:axi=abq aea id)aTu aTt
  aRX:aeL (afy (ac6 x p) (e::es) [] pos) (av f ds):=⟨PE.imp (OU hc hg hm hv ha.out hn Jc he sV) λ _ _ _ h=>K0 h⟩
def du{f:D1}aPl{T:String}{p:Pos}(hc:ir X (ad6 T) (aqb f))(hm:aCZ)(hv:axi=abq ad6 T)aTu aTt
  aRX:aeL (afy (ac6 x p) (e::es) [] pos) (av f ds):=⟨PE.imp (Ms hc hg hm hv ha.out hn Jc he sV) λ _ _ _ h=>K0 h⟩
def bg.i6 aPB aPw aQu(h:bg K ι S [x] vs):∃v,vs=[v]/\ae7:=by
 rw[acM v r h1 h2 h.lg];rw[bg] at h2;subst h2;exact ad5 v h1
def bg.Au aPB aSP aQu(h:bg K ι S [x,y] vs):∃v w,vs=[v,w]/\ae7/\akW y w:=by
 rw[acM v r h1 h2 h.lg];rw[adC w h3 h2.i6];exact ad8 v w h1 h3
abbrev bU:D1:=apg (match xs with
 | [x]=>match aDa with
  | avs=>.ok aGc M
  | none=>match x with
   | ο n=>match M[n]? with
    | aCC=>.ok aF7 M
    | _=>d5
   | _=>d5
 | _=>d5)
def br:aqm "len" (aqb bU):=(EK.or MB).imp λ vs H Q h=>by
 obtain⟨E,ι,S,M,xs,aW,r,w⟩:=h;rw[agY bU]
 match xs,r,w with
 | [],r,w=>rw[abR]
 | x::y::z,r,w=>rw[abR]
 | [x],r,w =>
  rw[adC v r1 r.i6];dsimp only at w;cases e1:aDa with
  | some ys =>
   rw[e1] at w;rw[acM p vs hq rs (wu aW r1 e1)];refine b5 (ad8 p vs hq ?_);rw[aIX arz]
  | none =>
   rw[azJ];cases x with
   | obj n =>
    rw[adC p ei (bj.fA.mp r1)];obtain⟨o,eM,q⟩:=aW.addr ei;rw[au2 eM];cases o with
    | bB kvs =>
     obtain⟨_,cf,eH,rk⟩:=q;refine c6 (ad8 p cf eH ?_);rw[abd rk.length arz]
    | _=>rw[abR]
   | _=>rw[abR]
abbrev lE aPI:D1:=apg (match xs with
 | [x]=>match aDa with
  | avs=>tJ live ys M
  | none=>d5
 | _=>d5)
def j7 aPI:ir X apx (aqb (lE live)):=EL.imp λ vs H Q h=>by
 obtain⟨E,ι,S,M,xs,aW,r,w⟩:=h;rw[agY lE]
 match xs,r,w with
 | [],r,w=>rw[abR]
 | x::y::z,r,w=>rw[abR]
 | [x],r,w =>
  rw[adC v r1 r.i6];dsimp only at w;cases e1:aDa with
  | none=>rw[anw e1]
  | some ys =>
   rw[e1] at w;rw[acM p vs hq rs (wu aW r1 e1)];exact ad8 p vs hq (oR aW rs w).2
abbrev EU:D1:=apg (match xs with
 | [x]=>match apc with
  | avs=>.ok (sT ys) M
  | none=>match x with
   | sT ys=>.ok (sT ys) M
   | _=>d5
 | _=>d5)
def GW:ir X arw (aqb EU):=C0.imp λ vs H Q h=>by
 obtain⟨E,ι,S,M,xs,aW,r,w⟩:=h;rw[agY EU]
 match xs,r,w with
 | [],r,w=>rw[abR]
 | x::y::z,r,w=>rw[abR]
 | [x],r,w =>
  rw[adC v r1 r.i6];dsimp only at w;cases e1:apc with
  | some ys =>
   rw[e1] at w;rw[acM p vs eH rs (gA aW r1 e1)];rw[asR (amK p vs (aoQ (.of eH) (acO l hl))) s2 e2 (aW.tree (o:=sT vs) hl) (w _ _ _ _ e2 s2 (bj.gO.mpr (ad8 l _ bF (rs.mono e2))))]
  | none =>
   rw[azJ];cases x with
   | tup ys =>
    rw[acM p vs e q (bj.gO.mp r1)];exact amK p vs (alx (.of aC4) (alR _ r1))
   | _=>rw[abR]
abbrev qI:D1:=apg (match xs with
 | [η i]=>.ok (η i) M
 | [.bl b]=>.ok (η (if b then 1 else 0)) M
 | _=>d5)
def rA:ir X (ad6 "int") (aqb qI):=Mn.imp λ vs H Q h=>by
 obtain⟨E,ι,S,M,xs,aW,r,w⟩:=h;rw[agY qI];split at w
 ·rw[adC v r1 r.i6];cases au0;exact b5 (arS arz)
 ·rw[adC v r1 r.i6];cases bj.fG.mp r1;exact c6 (arS arz)
 ·rw[abR]
abbrev TC:D1:=apg (match xs with
 | [η i,η j]=>.ok (η (aI1 (j > i) i)) M
 | _=>d5)
abbrev Jl:D1:=apg (match xs with
 | [η i,η j]=>.ok (η (aI1 (j<i) i)) M
 | _=>d5)
def MH aQU:aqm "max" (aqb TC):=(Ml hc).imp λ vs H Q h=>by
 obtain⟨E,ι,S,M,xs,aW,r,w⟩:=h;rw[agY TC];split at w
 ·rw[acM v u r1 r2 r.Au];cases au0;cases aJn;exact amK _ _ arz
 ·rw[abR]
def DU aQU:aqm "min" (aqb Jl):=(Mm hc).imp λ vs H Q h=>by
 obtain⟨E,ι,S,M,xs,aW,r,w⟩:=h;rw[agY Jl];split at w
 ·rw[acM v u r1 r2 r.Au];cases au0;cases aJn;exact amK _ _ arz
 ·rw[abR]
noncomputable abbrev DM:=PV->d9->aY->afV
abbrev rM aPe(f:DM):V->ajT:=λ v vs H Q=>∃E ι S M x xs,aeE/\ae7/\afm/\apk (f x xs M)
def EI.imp aT3{r r':V->ajT}(h:EI X id r)(i:∀x xs H Q,r' x xs H Q->r x xs H Q):EI X id r':=λ pins s σ H x xs v us Q I rx rs q=>h pins s σ H x xs v us Q I rx rs (i _ _ _ _ q)
abbrev ji(f:DM)(lQ:DE)aRb:DE:=ahk (lQ ρ M).bind (match jg M1 x with
 | aqa=>aic (fH ds ρ M1).bind xs (f x xs M2)
 | none=>d5)
def oU{f:DM}{name:Str}aT3 aVT aWK(ha:ape (e::es))
  aTv
  aVi
  aSx aV4 :
  aeL (afy aFz (e::es) [] dg) (ji f lQ ds):=⟨by
 rw[am4 (aar PySem.F.plainAttrs_list slot XE hm ho.out ha.out oP O6 oQ hs AX) (λ ι1 S1 M1 H1 x v e1 s1 r1 w1=>?_)];cases e2:jg M1 x with
 | none=>rw[ayE]
 | some ys =>
  rw[e2] at w1
  rw[acM p vs eH rs (gA s1 r1 e2)];refine⟨b5 ⟨rfl,vs,.of eH⟩,ι1,S1,M1,ρ,s1,agx,aeK (anh X.K) w1 (λ ι2 S2 M2 H2 xs us e3 s2 r2 w2=>?_)⟩
  exact⟨_,ι2,S2,M2,x,xs,s2,apz e3,r2.1,w2⟩⟩
def X2{f:DM}{name:Str}aT3 aVT aWK
  aTv aSx:aeL (afy aFz [] [] dg) (ji f lQ []):=⟨by
 rw[am4 (XD PySem.F.plainAttrs_list slot XE hm ho.out oP oQ) (λ ι1 S1 M1 H1 x v e1 s1 r1 w1=>?_)];cases e2:jg M1 x with
 | none=>rw[ayE]
 | some ys =>
  rw[e2] at w1
  rw[acM p vs eH rs (gA s1 r1 e2)]
  rw[aaX (b5 ⟨rfl,vs,.of eH⟩) ⟨_,ι1,S1,M1,x,[],s1,r1,abO,w1⟩]⟩
abbrev C1 aPO aPh(k:aoK d9 afV):afV:=match x with
 | ο n=>match M[n]? with
  | agz=>k n xs
  | _=>d5
 | _=>d5
def wA aPG aQN{ι:d8}aTs aQr aP2{k:aoK d9 afV}aRh(w:apk (C1 x M k)) :
  ∃n p xs vs,v=Δ p/\acL ι n p/\az0/\H p=awb/\aCR/\afm/\apk (k n xs):=by
 cases x with
 | obj n =>
  rw[adC p ei (bj.fA.mp r)];obtain⟨o,eM,q⟩:=aW.addr ei;simp only[C1,eM] at w;cases o with
  | lst xs =>
   rw[af7 hS vs eH rs q ⟨n,p,xs,vs,rfl,ei,eM,eH,hS,rs,w⟩]
  | _=>rw[abR]
 | _=>rw[abR]
def uy aQK aPa aQl{ys:d9}{us:g9}aSN aW0(r:aoD ys us):cu K ι S (anj n ys) (arY us)/\Ext ι S H ι S (arY us) :=
 aW.put hi hS ⟨hS,us,bF,r⟩
abbrev fB:DM:=λ x as M=>match as with
 | [y]=>C1 x M λ n xs=>apZ (xs.length<lim) .ok .bb (akL n (xs++[y]))
 | _=>d5
def j8:EI X "list.append" (atv fB):=EI.imp (r:=KP) DK λ v vs H Q h=>by
 obtain⟨E,ι,S,M,x,xs,aW,r,rs,w⟩:=h;rw[agY fB];split at w
 ·rw[adC u r1 rs.i6];obtain⟨n,p,ys,us,rfl,hi,eM,eH,hS,rr,w⟩:=aDw;split at w
  ·rw[atc];rw[asR ⟨p,us,u,rfl,rfl,eH,by rw[abd rr.length (A3 hl)],?_⟩ sp ep (uy aW hi hS (rr.append (.one r1))) (w ι S _ _ ep sp (bj.kZ.mpr rfl))]
  ·rw[abR]
 ·rw[abR]
abbrev Av:DM:=λ x as M=>match as with
 | [y]=>C1 x M λ n xs=>match akI y with
  | avs=>apZ (aqq aMZ) .ok .bb (akL n (xs++ys))
  | none=>d5
 | _=>d5
def Jm:EI X "list.extend" (atv Av):=EI.imp (r:=KQ) Mx λ v vs H Q h=>by
 obtain⟨E,ι,S,M,x,xs,aW,r,rs,w⟩:=h;rw[agY Av];split at w
 ·rw[adC u r1 rs.i6];obtain⟨n,p,ys,us,rfl,hi,eM,eH,hS,rr,w⟩:=aDw;split at w
  ·rename_i zs hz;rw[acM b ws eb rb (gA aW r1 hz)];split at w
   ·rw[atc];rw[asR ⟨p,b,us,ws,rfl,rfl,eH,eb,by rw[asI rr.length rb.length (tI hl)],?_⟩ sp ep (uy aW hi hS (rr.append rb)) (w ι S _ _ ep sp (bj.kZ.mpr rfl))]
   ·rw[abR]
  ·rw[abR]
 ·rw[abR]
abbrev PK:DM:=λ x as M=>match as with
 | []=>C1 x M λ n xs=>match xs[(asY 1)]? with
  | aoG=>.ok y (anj n xs.dropLast)
  | none=>d5
 | _=>d5
def TF:EI X "list.pop" (atv PK):=EI.imp (r:=aat) XG λ v vs H Q h=>by
 obtain⟨E,ι,S,M,x,xs,aW,r,rs,w⟩:=h;rw[agY PK];split at w
 ·rw[bg] at rs
  subst rs;obtain⟨n,p,ys,us,rfl,hi,eM,eH,hS,rr,w⟩:=aDw;split at w
  ·rename_i y hy;rw[aI2 z h1 h2 (rr.get hy) rr.length h1];rw[asR ⟨p,us,z,rfl,rfl,eH,h1,?_⟩ sp ep (uy aW hi hS rr.dropLast) (w ι S _ _ ep sp h2)]
  ·rw[abR]
 ·rw[abR]
universe zE
universe L2
universe zE
section
namespace L2
open PySem PySem.Spec PyProof.Rows
inductive Out where
 | nx aR7
 | rt aPO aPh
 | bk aR7
 | ct aR7
 | exc aRa aR7
 | bad
noncomputable abbrev DS:=eu->aY->Out
abbrev jj aPe aR5 aTN(D:Ends):aiu
 | .nx ρ M=>∀ ι' S' H' σ',akH->cu K ι' S' M H'->Slots K ι' S' ρ σ'->D.nx σ' H'
 | .bk ρ M=>∀ ι' S' H' σ',akH->cu K ι' S' M H'->Slots K ι' S' ρ σ'->D.bk σ' H'
 | .ct ρ M=>∀ ι' S' H' σ',akH->cu K ι' S' M H'->Slots K ι' S' ρ σ'->D.ct σ' H'
 | L6 c ρ M=>∀ ι' S' H' σ',akH->cu K ι' S' M H'->Slots K ι' S' ρ σ'->Ex σ' (Δ c) none H'
 | .rt x M=>∀ ι' S' H' v,akH->cu K ι' S' M H'->bj K ι' S' x v->D.rt v H'
 | d5=>False
def jj.up aPG aRF{ι ι':d8}{S H S' H':Hp}{D:Ends}{o:Out}(h:jj K Ex ι S H D o)(e:akH):jj K Ex ι' S' H' D o:=by
 cases o with
 | nx ρ M=>exact aHw
 | bk ρ M=>exact aHw
 | ct ρ M=>exact aHw
 | exc c ρ M=>exact aHw
 | rt x M=>exact λ ι1 S1 H1 v e1 s1 l1=>h ι1 S1 H1 v (e.trans e1) s1 l1
 | bad=>exact h
abbrev tS aPe aR5(d:DS):TS:=anW (∃ ι S M ρ,aeE/\apa/\jj K Ex ι S H D aaQ)
structure VS aQq(st:Stmt)(d:DS):Prop where
 out:awr (tS X.K Ex d)
structure II aQq(st:ano)(d:DS):Prop where
 out:IM X st (tS X.K Ex d)
def PS.imp aPE aQ5{t t':TS}(h:awr t)aV0:awr t':=λ pins s σ H D I hw=>h pins s σ H D I (i D σ H hw)
def IM.imp aPE{st:ano}{t t':TS}(h:IM X st t)aV0:IM X st t':=λ pins s σ H D I hw=>h pins s σ H D I (i D σ H hw)
abbrev Res.out aPp(r:amS)(ρ:eu)(f:α->aY->Out):Out:=match r with
 | .ok x M=>f x M
 | L6 c M=>L6 c ρ M
 | d5=>d5
@[simp] def Res.eV aPp{x:α}aPc aUL:(Res.ok x M).out ρ f=f x M:=rfl
@[simp] def Res.TH aPp aP9 aPc aUL:(Res.exc c M:amS).out ρ f=L6 c ρ M:=rfl
@[simp] def Res.ac0 aPp aUL:(Res.bad:amS).out ρ f=d5:=rfl
def jj.res aQd aPG{Rp:d8->Hp->α->aCf}aRF aTO{D:Ends}aS6{r:amS}{f:α->aY->Out}{Q:aHm}(sl:apa)(h:jj K Ex ι S H D (r.out ρ f))
  (g:∀ ι1 S1 M1 H1 x v,Ext ι S H ι1 S1 H1->cu K ι1 S1 M1 H1->Rp ι1 S1 x v->jj K Ex ι1 S1 H1 D (f x M1)->apm v):cA K Rp (Ex σ) ι S H Q r:=by
 cases r with
 | ok x M=>exact λ ι1 S1 H1 v e1 s1 r1=>g ι1 S1 M H1 x v e1 s1 r1 (jj.up h e1)
 | exc c M=>exact λ ι1 S1 H1 e1 s1=>h ι1 S1 H1 σ e1 s1 agx
 | bad=>exact h
section
variable {X:Cx} {Ex:St->XK} {a b c e o:Expr} {es:acU} {da db dc d lQ:DE} {ds:afq} {pos pos' apos dg:Pos} {st:Stmt} {rest:ano} {s1 s2:DS} {tc:DT}
abbrev fo:DS:=λ ρ M=>.nx ρ M
abbrev aG(s1 s2:DS):DS:=λ ρ M=>match azy with
 | .nx ρ' M'=>s2 ρ' M'
 | o=>o
def aP:II X Ex [] fo:=⟨IM.imp SI λ D σ H h=>by
 obtain⟨ι,S,M,ρ,aW,sl,w⟩:=h
 exact alR σ sl⟩
def X3 aPG{D:Ends}aQy(h:tS K Ex (aG s1 s2) D σ H):ZW (tS K Ex s1) (tS K Ex s2) D σ H:=by
 obtain⟨ι,S,M,ρ,aW,sl,w⟩:=h;refine⟨ι,S,M,ρ,aW,sl,?_⟩;rw[agY aG];cases q:azy with
 | nx ρ' M' =>
  rw[t7 q w (λ ι1 S1 H1 σ1 e1 s1 l1=>⟨ι1,S1,M',ρ',s1,l1,jj.up w e1⟩)]
 | _=>rw[t7 q w w]
def ai(h1:VS X Ex st s1)(h2:II X Ex rest s2):II X Ex (st::rest) (aG s1 s2):=⟨IM.imp (OJ h1.out h2.out) λ _ _ _ h=>X3 h⟩
def ak(h1:VS X Ex st s1):II X Ex [st] s1:=⟨SJ h1.out⟩
abbrev bO aPJ:DS:=λ ρ M=>alj (aaQ).out _ (.nx ρ M1)
def bq aSO aWn:aqN (.Expr e pos) (bO d):=⟨PS.imp (SK he.out hs) λ D σ H h=>by
 obtain⟨ι,S,M,ρ,aW,sl,w⟩:=h
 refine⟨ι,S,M,ρ,aW,sl,jj.res (Rp:=iw X.K) sl w λ ι1 S1 M1 H1 x v e1 s1 r1 w1=>?_⟩
 exact w1 ι1 S1 H1 σ agi s1 agx⟩
abbrev bK aPJ:DS:=λ ρ M=>alj (aaQ).out x (.rt x M1)
def aR aSO:aqN (.Return aGC pos) (bK d):=⟨PS.imp (WW he.out) λ D σ H h=>by
 obtain⟨ι,S,M,ρ,aW,sl,w⟩:=h
 refine⟨ι,S,M,ρ,aW,sl,jj.res (Rp:=iw X.K) sl w λ ι1 S1 M1 H1 x v e1 s1 r1 w1=>?_⟩
 exact w1 ι1 S1 H1 v agi s1 r1⟩
abbrev aaJ:DS:=abf M (.rt .bb M)
abbrev bu(tc:DT)(s1 s2:DS):DS:=λ ρ M=>alj (tc ρ M).out k (ahy k (s1 ρ M1) (s2 ρ M1))
def bf{xs ys:ano}(hc:VT X Ex c tc)(h1:II X Ex xs s1)(h2:II X Ex ys s2):aqN (.If c xs ys pos) (bu tc s1 s2):=⟨PS.imp (ZY hc.out h1.out h2.out) λ D σ H h=>by
 obtain⟨ι,S,M,ρ,aW,sl,w⟩:=h;refine⟨ι,S,M,ρ,aW,sl,jj.res (Rp:=Oo) sl w λ ι1 S1 M1 H1 x v e1 s1 r1 w1=>?_⟩;cases r1;cases x with
 | true=>exact aGG
 | false=>exact aGF⟩
noncomputable abbrev DG:=PV->ajz eu eu
abbrev tgD aPe(g:DG):TG:=λ v σ H Q=>∃ ι S M ρ x ρ',aeE/\apa/\ae7/\b7 (g x ρ) ρ'/\∀ ι' S' H' σ',akH->cu K ι' S' M H'->Slots K ι' S' ρ' σ'->aGg
structure VG aPq(tg:Expr)(g:DG):Prop where
 out:PG X tg (tgD X.K g)
def PG.imp{tg:Expr}{t t':TG}(h:PG X tg t)aVQ:PG X tg t':=λ pins s σ H v u Q I r hw=>h pins s σ H v u Q I r (i v σ H Q hw)
abbrev gN aPs:DG:=λ x ρ=>f7 (ρ.set i aeU)
def aN aPs aPl aRi aVw
  aSt:VG X (ac6 x pos) (gN i):=⟨PG.imp (SO hN hi hx hf) λ v σ H Q h=>by
 obtain⟨ι,S,M,ρ,x,ρ',aW,sl,r,e,k⟩:=h;cases e
 exact k ι S H _ agi aW (sl.set r i)⟩
noncomputable abbrev V2:=d9->ajz eu eu
abbrev aez aPe(g:V2):SM:=λ vs σ H Q=>∃ ι S M ρ xs ρ',aeE/\apa/\afm/\b7 (g xs ρ) ρ'/\∀ ι' S' H' σ',akH->cu K ι' S' M H'->Slots K ι' S' ρ' σ'->aGg
structure VGs aPq(ts:acU)(g:V2):Prop where
 out:Sj X ts (aez X.K g)
def Sj.imp{ts:acU}{t t':SM}(h:Sj X ts t)aVQ:Sj X ts t':=λ pins s σ H v u Q I r hw=>h pins s σ H v u Q I r (i v σ H Q hw)
abbrev nw:V2:=λ xs ρ=>match xs with
 | []=>some ρ
 | _=>none
abbrev dA(g:DG)(gs:V2):V2:=λ xs ρ=>match xs with
 | x::r=>(g x ρ).bind (gs r)
 | []=>none
def ky:VGs X [] nw:=⟨Sj.imp SQ λ vs σ H Q h=>by
 obtain⟨ι,S,M,ρ,xs,ρ',aW,sl,r,e,k⟩:=h;cases xs with
 | nil =>
  rw[bg] at r;cases e;rw[aaX r (k ι S H _ agi aW sl)]
 | cons x xs=>cases e⟩
def cI{g:DG}{gs:V2}(h1:VG X e g)(h2:VGs X es gs)aVA:VGs X (e::es) (dA g gs):=⟨Sj.imp (OK h1.out h2.out hs) λ vs σ H Q h=>by
  obtain⟨ι,S,M,ρ,xs,ρ',aW,sl,r,e,k⟩:=h;cases xs with
  | nil=>cases e
  | cons x xs =>
   rw[acM v vr r1 r2 r.lg];have e:b7 ((g x ρ).bind (gs xs)) ρ':=e;cases e1:g x ρ with
   | none=>rw[e1] at e; cases e
   | some ρ1 =>
    rw[aBq e1 e ⟨v,vr,rfl,ι,S,M,ρ,x,ρ1,aW,sl,r1,e1,alm ι1 S1 H1 σ1 ex1 s1 l1⟩]
    exact⟨ι1,S1,M,ρ1,xs,ρ',s1,l1,r2.mono ex1,e,λ ι2 S2 H2 σ2 X4 s2 l2=>k ι2 S2 H2 σ2 (ex1.trans X4) s2 l2⟩⟩
abbrev gT aPf(gs:V2):DG:=λ x ρ=>match x with
 | sT xs=>alE xs.length n (gs xs ρ) none
 | _=>none
def mE aPg{gs:V2}aPa aQU(h:VGs X es gs)aVv:VG X (ats es k pos) (gT n gs):=⟨PG.imp (WX hc h.out hn Gz) λ v σ H Q h=>by
  obtain⟨ι,S,M,ρ,x,ρ',aW,sl,r,e,k⟩:=h;cases x with
  | tup xs =>
   rw[aJF gT];split at e
   ·rw[atc];rw[acM p vs eS rs (bj.gO.mp r)];exact⟨p,vs,rfl,.of (aW.sub _ _ eS),by rw[aIX hl],ι,S,M,ρ,xs,ρ',aW,sl,rs,e,k⟩
   ·cases e
  | _=>cases e⟩
abbrev bL aPs aPJ:DS:=λ ρ M=>alj (aaQ).out x (.nx (ρ.set i aeU) M1)
def aU aPs aPl aRi aSO aVw aVP
  aSt:aqN (aoy [ac6 x pos'] e pos) (bL i d):=⟨PS.imp (W3 hN hi hx he.out hs hf) λ D σ H h=>by
 obtain⟨ι,S,M,ρ,aW,sl,w⟩:=h
 refine⟨ι,S,M,ρ,aW,sl,jj.res (Rp:=iw X.K) sl w λ ι1 S1 M1 H1 x v e1 s1 r1 w1=>?_⟩
 exact alp ((agx).set r1 i)⟩
abbrev EV aPJ(g:DG):DS:=λ ρ M=>alj (aaQ).out x (match g x ρ with
 | some ρ'=>.nx ρ' M1
 | none=>d5)
def A9{tg:Expr}{g:DG}aSO(hg:VG X tg g)aVn
  aVM:aqN (aoy [tg] e pos) (EV d g):=⟨PS.imp (OL he.out hg.out hs hw h1) λ D σ H h=>by
 obtain⟨ι,S,M,ρ,aW,sl,w⟩:=h;refine⟨ι,S,M,ρ,aW,sl,jj.res (Rp:=iw X.K) sl w λ ι1 S1 M1 H1 x v e1 s1 r1 w1=>?_⟩;cases e2:g x ρ with
 | none=>rw[ayE]
 | some ρ' =>
  rw[e2] at w1
  exact⟨ι1,S1,M1,ρ,x,ρ',s1,agx,r1,e2,w1⟩⟩
universe zE
universe L2
universe zE
end
mutual
section
namespace L2
open PySem PySem.Spec PyProof.Rows
noncomputable abbrev DV:=as7 (Nat×MO)
abbrev vq(w:DV)aPh:Prop:=match w with
 | none=>True
 | aiR n o=>asd
@[simp] def aaK aPc:vq none M:=trivial
@[simp] def aaL aPa aQj aPc:vq (aiR n o) M↔asd:=Iff.rfl
abbrev Walks aPe(J:It)aQm(w:DV)aTU:Prop :=
 ∀aPs ι' S' M' H',ar9->avV->asa →
  (∀x,anF->J.go i H'/\∀v H2,J.yld i H' v H2->∃ ι2 S2,Ext ι' S' H' ι2 S2 H2/\cu K ι2 S2 M' H2/\bj K ι2 S2 x v)/\(aCO->J.stop i H')
noncomputable abbrev DI:=eu->aY->Res (d9×DV)
noncomputable abbrev RpI aPe:d8->Hp->(d9×DV)->ad9 It:=λ ι S r J=>Walks K J r.1 r.2 ι S
structure VI aQq(tg iter:Expr)(d:DI):Prop where
 out:PI X tg iter (tG X.K (RpI X.K) Ex d)
def PI.imp aPE{tg iter:Expr}{t t':TI}(h:PI X tg iter t)(i:∀ σ H R,t' σ H R->t σ H R):PI X tg iter t':=λ pins s σ H R I hw=>h pins s σ H R I (i σ H R hw)
section
variable {X:Cx} {Ex:St->XK} {a b c e o:Expr} {es:acU} {da db dc d lQ:DE} {ds:afq} {pos pos' apos dg:Pos} {st:Stmt} {rest:ano} {s1 s2:DS} {tc:DT} {tg iter:Expr} {di:DI} {g:DG}
abbrev iL aPJ:DI:=ahk (aaQ).bind (match x with
 | ς xs=>.ok (xs,none) M1
 | ο n=>match M1[n]? with
  | agz=>.ok (xs,aHk) M1
  | _=>d5
 | _=>d5)
def Ba aPB aQl aPi{w:DV}(h:∀ ι' S' M' H',ar9->avV->asa->∃vs,qB K H' p vs/\awF):Walks K (Itl K p) xs w ι S:=by
 intro i ι' S' M' H' up aW hc;rw[ajq vs hq rs (h ι' S' M' H' up aW hc) ⟨acO x hx,λ hl=>⟨vs,hq,by rw[aIX hl]⟩⟩];rw[ajq v hv r (rs.get hx) ⟨⟨vs,v,hq,hv⟩,IL u H2 y⟩];rw[au1 y y];rw[aj3 (y vs hq) hv];cases this;exact⟨ι',S',agi,aW,r⟩
def bS(h:aLb):VI X Ex tg iter (iL d):=⟨by
 refine PI.imp (SR h.out) (acI σ H R hh);obtain⟨ι,S,M,ρ,aW,sl,w⟩:=hh;refine⟨ι,S,M,ρ,aW,sl,aeK (iw X.K) w (λ ι1 S1 M1 H1 x v e1 s1 r1 w1=>?_)⟩;cases x with
 | lst xs =>
  rw[acM p vs eS rs (bj.mR.mp r1)];refine ahh p ⟨vs,.of (s1.sub _ _ eS)⟩ (alp (Ba (alm ι2 S2 M2 H2 up s2 _)));rw[aas vs (.of (s2.sub _ _ (up.sm _ _ eS))) (rs.up up)]
 | obj n =>
  rw[adC p ei (bj.fA.mp r1)];obtain⟨o,eM,q⟩:=s1.addr ei;simp only[eM] at w1;cases o with
  | lst xs =>
   obtain⟨_,vs,eH,rs⟩:=q;refine ahh p ⟨vs,.of eH⟩ (alp (Ba (alm ι2 S2 M2 H2 up s2 hc)));obtain⟨_,vs2,GX,V3⟩:=s2.ob n p _ (up.ix _ _ ei) hc;rw[aas vs2 (.of GX) V3]
  | _=>rw[ai4]
 | _=>rw[ai4]⟩
abbrev iT aPJ:DI:=ahk (aaQ).bind (match x with
 | sT xs=>.ok (xs,none) M1
 | _=>d5)
def Bb(h:aLb):VI X Ex tg iter (iT d):=⟨by
 refine PI.imp (W4 h.out) (acI σ H R hh);obtain⟨ι,S,M,ρ,aW,sl,w⟩:=hh;refine⟨ι,S,M,ρ,aW,sl,aeK (iw X.K) w (λ ι1 S1 M1 H1 x v e1 s1 r1 w1=>?_)⟩;cases x with
 | tup xs =>
  rw[acM p vs eS rs (bj.gO.mp r1)];refine ahh p ⟨vs,.of (s1.sub _ _ eS)⟩ (alp (λ i ι2 S2 M2 H2 up s2 _=>?_));rw[ajG hq (CV X.K H2 p vs) (.of (s2.sub _ _ (up.sm _ _ eS))) V3 (rs.up up)];rw[aej (acO x hx) (λ hl=>⟨vs,hq,by rw[abd V3.length hl]⟩)];rw[ajq v hv r (V3.get hx) ⟨⟨vs,v,hq,hv⟩,IL u H3 y⟩];rw[au1 y y];rw[aj3 (y vs hq) hv];cases this;exact⟨ι2,S2,agi,s2,r⟩
 | _=>rw[ai4]⟩
abbrev Gx aTX:d9:=(aod).map (aul k (η (lo+ao9)))
def DW aPB aTX:Walks K (Z0 lo n) (Gx lo n) none ι S:=by
 intro i ι' S' M' H' up aW _;rw[aej (acO x hx) (λ hl=>by(have hl:n≤i:=aw4 Gx hl); exact hl)];rw[aoh Gx hx zJ hx];by_cases hi:i<n
 ·rw[List.getElem?_range hi] at hx;cases hx;rw[aej hi (IL v H2 y)];rw[ahJ rfl rfl y ⟨ι',S',agi,aW,apt⟩]
 ·rw[an4 awa] at hx;cases hx
abbrev xQ aRb:DI:=awe (al9).bind (match xs with
 | [η j]=>apZ (auy j/\j<am9) .ok (Gx 0 j.toNat,none) M1
 | _=>d5)
def kz{p:Pos}(hm:aJy)(ha:ape [a])(hg:aJJ X := by rfl)aTz:VI X Ex tg (afy (ac6 "range" p) [a] [] pos) (xQ ds):=⟨by
 refine PI.imp (Mg hg hm ha.out hs) (acI σ H R hh)
 obtain⟨ι,S,M,ρ,aW,sl,w⟩:=hh
 refine⟨ι,S,M,ρ,aW,sl,aeK (anh X.K) w (λ ι1 S1 M1 H1 xs vs e1 s1 r1 w1=>?_)⟩;split at w1
 ·rename_i j;rw[adC v r2 r1.1.i6];cases aJn;split at w1
  ·rename_i hb;exact⟨j,rfl,hb.1,hb.2,alp (DW 0 _)⟩
  ·rw[ai4]
 ·rw[ai4]⟩
abbrev ZB aRb:DI:=awe (al9).bind (match xs with
 | [η i,η j]=>apZ (auy i/\i<am9 /\ auy j/\j<am9) .ok (Gx i (aiF (j-i)),none) M1
 | _=>d5)
def MI{p:Pos}(hm:aJy)(ha:ape [a,b])(hg:aJJ X := by rfl)aVt :
  VI X Ex tg (afy (ac6 "range" p) [a,b] [] pos) (ZB ds):=⟨by
 refine PI.imp (Mh hg hm ha.out hs Mi) (acI σ H R hh)
 obtain⟨ι,S,M,ρ,aW,sl,w⟩:=hh
 refine⟨ι,S,M,ρ,aW,sl,aeK (anh X.K) w (λ ι1 S1 M1 H1 xs vs e1 s1 r1 w1=>?_)⟩;split at w1
 ·rename_i i j;rw[acM v u r2 r3 r1.1.Au];cases aJn;cases bj.bD.mp r3;split at w1
  ·rename_i hb;exact ad8 i j hb (alp (DW i _))
  ·rw[ai4]
 ·rw[ai4]⟩
open Classical in
noncomputable def xR(w:DV)(g:DG)(s1:DS):d9->eu->aY->Out
 | [],ρ,M=>.nx ρ M
 | x::xs,ρ,M=>match g x ρ with
  | none=>d5
  | some ρ1=>match s1 ρ1 M with
   | .nx ρ' M'=>aqZ asa (xR w g s1 xs ρ' M')
   | .ct ρ' M'=>aqZ asa (xR w g s1 xs ρ' M')
   | .bk ρ' M'=>.nx ρ' M'
   | .rt x M'=>.rt x M'
   | L6 c ρ' M'=>L6 c ρ' M'
   | d5=>d5
abbrev hG(di:DI)(g:DG)(s1:DS):DS:=λ ρ M=>(apd).out ρ λ r M1=>open Classical in aqZ (vq r.2 M1) (xR r.2 g s1 r.1 ρ M1)
def dQ{body:ano}aVx(hi:VI X Ex tg iter di)(hg:VG X tg g)(hb:II X Ex body s1)aSu :
  aqN (.For tg iter body [] pos) (hG di g s1):=⟨by
 refine PS.imp (W5 hp hc hi.out hg.out hb.out hs) (acI D σ H h)
 obtain⟨ι,S,M,ρ,aW,sl,w⟩:=h
 refine⟨ι,S,M,ρ,aW,sl,jj.res (Rp:=RpI X.K) sl w λ ι1 S1 M1 H1 r J e1 PL wk w1=>?_⟩;rw[aIe xs wt r wk w1];split at w1
 ·rename_i hc1
  refine⟨λ i m σ' H'=>m=asY i/\aJE i/\∃ ι' S' M' ρ',Ext ι1 S1 H1 ι' S' H'/\cu X.K ι' S' M' H'/\Slots X.K ι' S' ρ' σ'/\vq wt M'/\jj X.K Ex ι1 S1 H1 D (xR wt g s1 (xs.drop i) ρ' M'),
   ⟨xs.length,Ξ,auO,ι1,S1,M1,ρ,agi,PL,agx,hc1,aam w1⟩,?_⟩
  rintro i m σ' H' ⟨rfl,hi',ι',S',M',ρ',ex,oV,Sf,hck,ww⟩;obtain⟨wgo,wst⟩:=wk i ι' S' M' H' ex.toUp oV hck
  by_cases qj:aqv
  ·right;obtain⟨go,yl⟩:=wgo xs[i] aNw;rw[aNv,xR] at ww;rw[aup go (aiE σ2 (∃ ι' S' M' ρ',Ext ι1 S1 H1 ι' S' H2/\cu X.K ι' S' M' H2/\Slots X.K ι' S' ρ' σ2/\vq wt M'/\jj X.K Ex ι1 S1 H1 D (xR wt g s1 (aA2 (i+1)) ρ' M'))) (λ σ2 H2 q=>ad8 (asY (i+1)) b6 qj q) (IL v H2 y)];obtain⟨ι2,S2,X4,X5,r2⟩:=yl v H2 y;cases eg:g xs[i] ρ' with
   | none=>rw[t7 eg ww ww.elim]
   | some ρ1 =>
    rw[aBq eg ww ⟨ι2,S2,M',ρ',xs[i],ρ1,X5,Sf.mono X4,r2,eg,alm ι3 S3 H3 σ3 ex3 X6 Om⟩];refine⟨ι3,S3,M',ρ1,X6,Om,?_⟩;have PM:=ex.trans (X4.trans ex3);dsimp only at ww;cases eb:s1 ρ1 M' with
    | nx ρ4 M4 =>
     rw[amt eb ww ww];split at ww
     ·rw[au5 hc4 (λ ι4 S4 H4 σ4 K1 zw TK=>⟨ι4,S4,M4,ρ4,aEA,zw,TK,hc4,ww⟩)]
     ·rw[aJ4]
    | ct ρ4 M4 =>
     rw[amt eb ww ww];split at ww
     ·rw[au5 hc4 (λ ι4 S4 H4 σ4 K1 zw TK=>⟨ι4,S4,M4,ρ4,aEA,zw,TK,hc4,ww⟩)]
     ·rw[aJ4]
    | bk ρ4 M4 =>
     rw[t7 eb ww (λ ι4 S4 H4 σ4 K1 zw TK=>ww ι4 S4 H4 σ4 aEA zw TK)]
    | rt x M4 =>
     rw[t7 eb ww (λ ι4 S4 H4 σ4 K1 zw TK=>ww ι4 S4 H4 σ4 aEA zw TK)]
    | exc c ρ4 M4 =>
     rw[t7 eb ww (λ ι4 S4 H4 σ4 K1 zw TK=>ww ι4 S4 H4 σ4 aEA zw TK)]
    | bad=>rw[t7 eb ww ww.elim]
  ·left
   have e:aE3 i:=b6
   subst e
   rw[List.drop_length,xR] at ww;rw[aaX (wst acT) (ww ι' S' H' σ' ex oV Sf)]
 ·rw[ai4]⟩
abbrev Res.yT aQd:amS->(α->aY->arB)->arB
 | .ok a M,f=>f a M
 | L6 _ _,_=>d5
 | d5,_=>d5
@[simp] def Res.wB aQd{a:α}aPc aSA:(Res.ok a M).yT f=f a M:=rfl
noncomputable abbrev PN:St->XK:=λ _ _ _ _=>False
abbrev wC aRP(ρ:eu):eu:=my.map λ o=>match o with
 | av6=>(ρ[i]?).join
 | none=>none
def Slots.my aPB aS6(sl:apa)aRP:Slots K ι S (wC my ρ) ay7:=by
 rw[aej (afr wC uW) (IL i x h)];rw[ak9 wC];unfold uW;rw[zJ] at h ⊢;cases ec:my[i]? with
 | none=>rw[ajR ec]; cases h
 | some o =>
  rw[ajR ec];cases o with
  | none=>cases h
  | some j =>
   have h':(ρ[j]?).join=aeU:=aqX;cases q:ρ[j]? with
   | none=>rw[q] at h'; cases h'
   | some z =>
    rw[q] at h';have ZC:z=aeU:=h';subst ZC;rw[ahd v h1 h2 (sl.2 j x q) v (f6 h1) h2]
open Classical in
noncomputable def oW(w:DV)(g:DG)(tc:DT)aPJ:d9->eu->aY->d9->Res d9
 | [],_,M,acc=>.ok acc M
 | x::xs,ρ,M,acc=>match g x ρ with
  | none=>d5
  | some ρ1=>akY (ayn M).yT k (if c8 k then aic (atN M1).yT y (aqZ (vq w M2/\acc.length<lim) (oW w g tc d xs ρ1 M2 (acc++[y])))
   else aqZ (vq w M1) (oW w g tc d xs ρ1 M1 acc))
open Classical in
noncomputable def cg aPI aRP(di:DI)(g:DG)(tc:DT)aPJ:DE:=λ ρ M=>akY (apd).bind r (if vq r.2 M1 then aic (oW r.2 g tc d r.1 (wC my ρ) M1 []).yT ys (tJ live ys M2) else d5)
structure TL aPq(ifs:acU)(t:DT):Prop where
 out:A0 X ifs (tG X.K Oo PN t)
abbrev sI:DT:=abf M (.ok true M)
def A0.imp{ifs:acU}{t t':TT}(h:A0 X ifs t)aSw:A0 X ifs t':=λ pins s σ H Q I hw=>h pins s σ H Q I (i σ H Q hw)
def eX:TL X [] sI:=⟨A0.imp Pg λ σ H Q h=>by
 obtain⟨ι,S,M,ρ,aW,sl,w⟩:=h
 exact alR true rfl⟩
def gC(h:VT X PN c tc):TL X [c] tc:=⟨Ph h.out⟩
def MJ aSV aPc aQN aP2 aRm aPW aPG aQl(h0:alq)(ex:akH)(aW:cu K ι' S' M H')(hp:H' p=awb)(hi:p∉ι')(hS:aaz (S' p))(r:awF)
  (w:apk (tJ live xs M)):ajQ (Δ p):=by
 have ne:∀b u,H b=aaZ->b≠p:=agT u q (bZ q h0);rw[agY tJ];split at w
 ·split at w
  ·refine w (ι'++[p]) S' H' _ ⟨⟨λ n a h=>(Up.push (S:=S') p).ix n a (ex.ix n a h),ex.sm⟩,?_,aeB b u q1 q2 q3⟩ (aW.enter hi ⟨hS,vs,hp,r⟩) (aAk p (by rw[← aW.len];simp))
   ·rw[aeC h1 ex.pre hl (ι.length≤ι'.length) (by rw[← h1];rw[afo])]
    rw[aNn hl h1]
   ·rw[ahd k1 k2 k3 (ex.fr b u q1 q2 q3) k1 (afr k2 (ne b u q1)) k3]
  ·rw[ai3 sm (mq S' (agP S' p (ς vs))) (agT u q (by rw[acY (bZ q hS) q])) up (Up ι' S' ι' (agP S' p (ς vs))) ⟨λ _ _ h=>h,sm⟩ (w ι' (agP S' p (ς vs)) H' _ ⟨⟨ex.ix,ex.sm.trans sm⟩,ex.pre,aeB b u q1 q2 q3⟩ ⟨ajk u,aW.len,aW.nd,aeB n a u h1 h2⟩ (bj.mR.mpr (ad8 p vs bF (r.up up))))]
   ·rw[ahd k1 k2 k3 (ex.fr b u q1 q2 q3) k1 k2 (by rw[acY (ne b u q1) k3])]
   ·rw[alT (b=p)]
    ·rw[azs]; cases q; exact hp
    ·rw[t7 ao4 q (aW.sub b u q)]
   ·have dz:a≠p:=λ z=>hi (asu z h1);exact(aW.ob n a u h1 h2).up up (acZ (by rw[aoI z])) rfl
 ·rw[abR]
variable {scope:Scope} {N:adl} {my:aer} {elt:Expr} {ifs:acU}
def K3 aPG aRm aQy aP2(h:tG K (iw K) Ex (cg live my di g tc d) σ H Q) :
  Pj my (tG K (RpI K) Ex di) (tgD K g) (tG K Oo PN tc) (tG K (iw K) PN d) σ H Q:=by
 obtain⟨ι,S,M,ρ,aW,sl,w⟩:=h
 refine⟨ι,S,M,ρ,aW,sl,aeK (RpI K) w (λ ι1 S1 M1 H1 r J e1 PL wk w1=>?_)⟩;rw[aIe xs wt r wk w1];split at w1
 ·rename_i hc1;intro acc PQ;rw[ZI hSa (PL.vp PQ) hia (PL.fresh PQ)];obtain⟨aaO,aeF⟩:=PL.side (o:=ς []) PQ
  refine⟨λ i m ys σ' H'=>m=asY i/\aJE i/\∃ ι' S' M' ρ' Sk,Ext ι1 S1 H1 ι' S' H'/\avV/\Slots K ι' S' ρ' σ'/\H' acc=anb ys/\acc∉ι'/\aaz (S' acc)/\bg K ι' S' Sk ys/\vq wt M' ∧
    cA K (iw K) (Ex σ) ι1 S1 H1 Q (aic (oW wt g tc d (xs.drop i) ρ' M' Sk).yT ys (tJ live ys M2)),
   ⟨xs.length,Ξ,auO,ι1,S1,M1,wC my ρ,[],aeF,aaO,(agx).my my,bF,hia,hSa,abO,hc1,aam w1⟩,?_⟩
  rintro i m ys σ' H' ⟨rfl,hi',ι',S',M',ρ',Sk,ex,oV,Sf,hl1,O8,hl3,rs,hck,ww⟩;obtain⟨wgo,wst⟩:=wk i ι' S' M' H' ex.toUp oV hck
  by_cases qj:aqv
  ·right;obtain⟨go,yl⟩:=wgo xs[i] aNw;rw[aNv,oW] at ww;rw[aej go (IL v H2 y)];obtain⟨ι2,S2,X4,X5,r2⟩:=yl v H2 y;cases eg:g xs[i] ρ' with
   | none=>rw[t7 eg ww ww.elim]
   | some ρ1 =>
    rw[aBq eg ww ⟨ι2,S2,M',ρ',xs[i],ρ1,X5,Sf.mono X4,r2,eg,alm ι3 S3 H3 σ3 ex3 X6 Om⟩];have aeG:=X4.trans ex3;refine⟨ι3,S3,M',ρ1,X6,Om,?_⟩;dsimp only at ww;cases et:ayn M' with
    | exc c M4=>rw[t7 et ww ww.elim]
    | bad=>rw[t7 et ww ww.elim]
    | ok k M4 =>
     rw[et] at ww;intro ι4 S4 H4 k' K1 zw rk;cases rk;rw[ZI TM (aeG.trans K1) aeH (ex.trans TM)];rw[apF f1 f2 f3 (TM.fr acc _ hl1 O8 hl3) ww (cA K (iw K) (Ex σ) ι1 S1 H1 Q (aic (if c8 k then(atN M4).yT λ y M2=>open Classical in aqZ (vq wt M2/\Sk.length<lim) (oW wt g tc d (aA2 (i+1)) ρ1 M2 (Sk++[y])) else open Classical in aqZ (vq wt M4) (oW wt g tc d (aA2 (i+1)) ρ1 M4 Sk)).yT ys (tJ live ys M2))) ww];cases k with
     | false =>
      rw[avd ane ww (GN ⟨asY (i+1),b6,rfl,qj,ι4,S4,M4,ρ1,Sk,aeH,zw,Om.mono K1,f1,f2,f3,rs.mono TM,?_⟩)];split at ww
      ·rename_i hc4; rw[aaX hc4 ww]
      ·rw[aJ4]
     | true =>
      rw[avd afC ww (GO ⟨ι4,S4,M4,ρ1,zw,Om.mono K1,?_⟩)];cases ed:atN M4 with
      | exc c M5=>rw[t7 ed ww ww.elim]
      | bad=>rw[t7 ed ww ww.elim]
      | ok yv M5 =>
       rw[ed] at ww;intro ι5 S5 H5 u ex5 TN r5;rw[ZI X7 (TM.trans ex5) X8 (ex.trans X7)];rw[apF f1 f2 f3 (X7.fr acc _ hl1 O8 hl3) ww (cA K (iw K) (Ex σ) ι1 S1 H1 Q (aic (open Classical in aqZ (vq wt M5/\Sk.length<lim) (oW wt g tc d (aA2 (i+1)) ρ1 M5 (Sk++[yv]))).yT ys (tJ live ys M2))) ww];split at ww
       ·rename_i hc5
        refine⟨f1,by rw[aIX (A3 hc5.2)],asY (i+1),b6,rfl,qj,ι5,S5,M5,ρ1,Sk++[yv],?_,?_,Om.mono (K1.trans ex5),bF,f2,f3,(rs.mono X7).append (.one r5),hc5.1,ww⟩
        ·rw[adv X8.toUp X8.pre (aeB b u q1 q2 q3)];rw[ahd k1 k2 k3 (X8.fr b u q1 q2 q3) (by rw[acY (bZ q1 PQ) k1]) k2 k3]
        ·refine⟨agT v q (by rw[acY (bZ q f3) (TN.sub b v q)]),TN.len,TN.nd,aeB n a v h1 h2⟩;have dz:a≠acc:=λ z=>f2 (asu z h1);exact(TN.ob n a v h1 h2).up ⟨λ _ _ h=>h,mq.refl _⟩ (acZ z) (aS dz)
       ·rw[aJ4]
  ·left
   have e:aE3 i:=b6
   subst e
   rw[List.drop_length,oW] at ww;rw[aaX (wst acT) (MJ PQ ex oV hl1 O8 hl3 rs ww)]
 ·rw[ai4]
def dS aPI aTD aWS
  aVz
  aSu:aeL (.ListComp elt [⟨tg,iter,ifs,0⟩] scope pos) (cg live my di g tc d):=⟨PE.imp (Tt (g:=tgD X.K g) (tt:=tG X.K Oo PN tc) (te:=tG X.K (iw X.K) PN d) co uX Aq.out (λ C fp s0 H0=>(hg C fp s0 H0).out) (λ C fp s0 H0=>(hi C fp s0 H0).out) (λ C fp s0 H0=>(he C fp s0 H0).out) hs) λ _ _ _ h=>K3 h⟩
def j9 aPI aPs{y:Str}{py Pm:Pos}aTD aRi aWS
  aVz
  aVm
  (hy:ah0 X.N y:=by rfl)(hx:aLi y:=by first | exact aEG | exact aJL)
  aVo
  aSu:aqN (aoy [ac6 y py] (.ListComp elt [⟨tg,iter,ifs,0⟩] scope pos) Pm) (bL i (cg live my di g tc d)):=⟨PS.imp (Ji (g:=tgD X.K g) (tt:=tG X.K Oo PN tc) (te:=tG X.K (iw X.K) PN d) co uX Aq.out (λ C fp s0 H0=>(hg C fp s0 H0).out) (λ C fp s0 H0=>(hi C fp s0 H0).out) (λ C fp s0 H0=>(he C fp s0 H0).out) hN hy hx hsw hf hs) λ D σ H h=>by
  obtain⟨ι,S,M,ρ,aW,sl,w⟩:=h;rw[ans (K3 ⟨ι,S,M,ρ,aW,sl,jj.res (Rp:=iw X.K) sl w λ ι1 S1 M1 H1 x v e1 s1 r1 w1=>?_⟩) (alp ((agx).set r1 i))]⟩
universe zE
universe L2
universe zE
section
namespace L2
open PySem PySem.Spec PyProof.Rows
abbrev Oq aPe aPf aPd:Sp:=λ vs H Q E=>vs.length=n/\∃ ι S M xs,aeE/\afm/\apk (g xs M)
abbrev Out.res:Out->afV
 | .nx _ M=>.ok .bb M
 | .rt x M=>.ok x M
 | L6 c _ M=>L6 c M
 | _=>d5
@[simp] def Out.X9 aPX:(Out.nx ρ M).res=.ok .bb M:=rfl
@[simp] def Out.Yb aPw aPc:(Out.rt x M).res=.ok x M:=rfl
@[simp] def Out.TQ aP9 aPX:(Out.exc c ρ M).res=L6 c M:=rfl
abbrev gq aPf(d:DS):D1:=apg (d (aJm++auJ (n-xs.length) none) M).res
section
variable {P:Program} {w:World} {K:Fg} {mg:adp} {base:Heap}
def GY aRk aPW{N:adl}(r:afm):Slots K ι S (aJm++auJ (N.length-xs.length) none) (start N vs):=by
 unfold start;have hl:=r.length;rw[aej (f6 hl) (IL i x h)]
 by_cases hi:aqv
 ·rw[aw7 awa,zJ] at h;rw[aw7 (by simpa[← hl] using hi),zJ];cases e:xs[i]? with
  | none=>rw[akN]; cases h
  | some y =>
   rw[akN];cases h;rw[ahd v h1 h2 (r.get e) v (by rw[acR h1]) h2]
 ·rw[ajR (aDQ awa)];rw[aLu h];split at h<;>cases h
def EW aU7 aTr aRJ aPg{d:DS}aWR(S:ar8)
  (hb:∀(lO:Value)aRu,aGv qual →
   auu (lT (tq P w) P w K mg base N qual (au st) f lO A outer s H E)) :
  pN P w K mg base (tq P w) (k+1) f fd ps (Oq K ps.length (gq N.length d)):=by
 obtain⟨oc,od,kV,doc,pm,an,lO,ct,VR,rfl,lk,OG⟩:=F.ex;refine aai lk OG S (λ vs H Q E h=>h.1) λ A outer s H vs Q E hr VU=>aoN _ (hb lO A outer s H E hr).out;obtain⟨hl,ι,S',M,xs,aW,r,w'⟩:=VU;refine⟨ι,S',M,_,aW,GY r,?_⟩;unfold gq at w';cases q:d (aJm++auJ (N.length-xs.length) none) M with
 | nx ρ M'=>rw[t7 q w' (λ ι1 S1 H1 σ1 e1 s1 _=>w' ι1 S1 H1 .bb e1 s1 (bj.kZ.mpr rfl))]
 | rt y M'=>rw[t7 q w' (λ ι1 S1 H1 v e1 s1 r1=>w' ι1 S1 H1 v e1 s1 r1)]
 | exc c ρ M'=>rw[t7 q w' (λ ι1 S1 H1 σ1 e1 s1 _=>w' ι1 S1 H1 e1 s1)]
 | bk ρ M'=>rw[t7 q w' w'.elim]
 | ct ρ M'=>rw[t7 q w' w'.elim]
 | bad=>rw[t7 q w' w'.elim]
abbrev MO.mr aPf:amF MO
 | .gone=>true
 | ς xs=>axV n
 | .bB kvs=>kvs.all λ kv=>PV.mr n kv.2
 | .MF kvs=>kvs.all λ kv=>PV.mr n kv.2
 | .jd kvs=>kvs.all λ kv=>PV.mr n kv.2
 | abT _ fs=>fs.all λ kv=>PV.mr n kv.2
 | L6 _=>true
def dR.mr aQg aRk aRn:ae8 (kvs.all λ kv=>PV.mr ι.length kv.2):=by
 induction h with
 | nil=>rfl
 | cons r t ih=>rw[List.all_cons,ih,bj.mr _ _ r.2]; rfl
def dR.cut aQg aRk aPa aRn(hb:ae8 (kvs.all λ kv=>PV.mr n kv.2)):dR K aKe S kvs cf:=by
 induction h with
 | nil=>rw[al3]
 | cons r t ih =>
  rw[aIw List.all_cons hb];exact aaP ⟨r.1,bj.cut _ _ hb.1 r.2⟩ (ih hb.2)
def rj.mr aTO aPz aQj(h:awK):c8 (o.mr ι.length):=by
 cases o with
 | gone=>rfl
 | lst xs=>obtain⟨_,vs,_,r⟩:=h;exact bg.sX _ _ r
 | bB kvs=>obtain⟨_,vs,_,r⟩:=h;exact r.mr
 | MF kvs=>obtain⟨_,vs,_,r⟩:=h;exact r.mr
 | jd kvs=>obtain⟨_,_,_,_,r⟩:=h;exact r.mr
 | ins C fs=>obtain⟨_,dx,vs,_,r⟩:=h; exact r.mr
 | exc C=>rfl
def rj.cut aTO aPz aQj aPa(h:awK)(hb:c8 (o.mr n)):rj K aKe S H a o:=by
 cases o with
 | gone=>exact h
 | lst xs=>rw[af7 z vs e r h ⟨z,vs,e,bg.cut _ _ hb r⟩]
 | bB kvs=>rw[af7 z vs e r h ⟨z,vs,e,aFr⟩]
 | MF kvs=>rw[af7 z vs e r h ⟨z,vs,e,aFr⟩]
 | jd kvs=>rw[ae3 ob vs z e r h (alz ob z e aFr)]
 | ins C fs=>rw[ae3 z dx vs e r h ⟨z,dx,vs,e,aFr⟩]
 | exc C=>exact h
open Classical in
noncomputable def C2 aPh:afV->afV
 | .ok x M'=>if aEd=M/\aJf x then .ok x M else d5
 | L6 c M'=>if aEd=M then L6 c M else d5
 | d5=>d5
abbrev trunc aPd:D1:=apg (C2 M (g xs M))
def K4{M M':aY}aPw(h:aEd=M)(hb:aJf x):C2 M (.ok x M')=.ok x M:=by rw[ako C2 (if_pos ⟨h,hb⟩)]
def PR{M M':aY}aP9(h:aEd=M):C2 M (L6 c M')=L6 c M:=by rw[ako C2 axT]
@[simp] def ZD aPc aPw(hb:aJf x):C2 M (.ok x M)=.ok x M:=K4 List.take_length hb
@[simp] def aaR aPc aP9:C2 M (L6 c M)=L6 c M:=PR List.take_length
@[simp] def aaS aPc:C2 M d5=d5:=rfl
def K5 aSV{M M':aY}aSN(oV:avV)(ex:akH)(h:aEd=M):cu K ι S' M H'/\Ext ι S H ι S' H':=by
 rw[aej ⟨oV.sub,aW.len,aW.nd,aeB n a o h1 h2⟩ ⟨⟨λ _ _ h=>h,ex.sm⟩,List.take_length,aeB b u q1 q2 q3⟩]
 ·rw[d6 hn (aow n) aLl.1 h2' (acL M' n o) (by rw[← h,List.getElem?_take_of_lt hn] at h2; exact h2)]
  rw[ZI m1 (oV.ob n a o (ex.ix n a h1) h2') m2 (aW.ob n a o h1 h2).mr];have:=m1.cut m2
  rw[t7 ex.pre this this]
 ·rw[ahd k1 k2 k3 (ex.fr b u q1 q2 q3) k1 q2 k3]
def MK aPa aQZ aQu aPy aP2 aQN(h:Oq K n (trunc g) vs H Q E):Oq K n g vs H Q E:=by
 obtain⟨hl,ι,S,M,xs,aW,r,w'⟩:=h;refine⟨hl,ι,S,M,xs,aW,r,?_⟩;unfold trunc at w';cases q:g xs M with
 | bad=>rw[t7 q w' w']
 | ok x M' =>
  rw[q] at w'
  simp only[C2] at w';split at w'
  ·rw[atb];intro ι1 S1 H1 v e1 s1 r1;obtain⟨s2,e2⟩:=K5 aW s1 e1 hc.1;refine w' ι S1 H1 v e2 s2 ?_;have:=bj.cut (n:=M.length) x v hc.2 r1;rw[← aW.len,e1.pre] at this;rw[ap9]
  ·exact w'.elim
 | exc c M' =>
  rw[q] at w'
  simp only[C2] at w';split at w'
  ·rw[atb];intro ι1 S1 H1 e1 s1;rw[aeO s2 e2 (K5 aW s1 e1 hc) (w' ι S1 H1 e2 s2)]
  ·exact w'.elim
universe zE
structure hJ aQO aSe aPS aPM aPf aPd:Prop where
 ex:∃f fd ps,pN P w K mg base (tq P w) k f fd ps (Oq K n g)/\mg x=alO f/\c8 (PySem.W.keepIn K (Δ f))/\at6
section
variable {P:Program} {w:World} {K:Fg} {mg:adp} {base:Heap}
def hJ.mono aTk aPl aPa aQZ aWj aTl:hJ P w K mg base k x n g:=by
 rw[ae3 f fd ps F r F.ex ⟨f,fd,ps,aBc,r⟩]
def hJ.trunc aPg aPl aPa aQZ(F:hJ P w K mg base k x n g):hJ P w K mg base k x n (trunc g):=by
 rw[ae3 f fd ps F r F.ex ⟨f,fd,ps,F.imp λ _ _ _ _ h=>MK h,r⟩]
structure bP aTf aPM aTH:Prop where
 ex:∃f fd,Pe K x x st f fd/\mg x=alO f/\at6
def hJ.of aPl aQ5 aRJ aPg{d:DS}aUM
  (hb:∀aSy aRu,aGv x →
   auu (lT (tq P w) P w K mg base N x (au st) f lO A outer s H E)):hJ P w K mg base (k+1) x ps.length (gq N.length d):=by
 rw[ae3 f fd F hm hB D.ex ⟨f,fd,ps,EW F S (hb f),hm,F.kp,hB⟩]
universe zE
structure Good0 aQq:Prop where
 hu:akA
 calm:ah1
 ps:uw (tq X.prog X.w) X Ex
 nd:X.N.Nodup
structure Good aQq:Prop extends ar1 where
 own:PassesOwn (model X.prog X.w) X.A X.env X.xe
def Good.gg aPE aRF(G:Good X Ex):ar1:=G.toGood0
def Aw aRt aRJ aTP aTF aQA aRE aPK aPy aQN aPg aUT
  aUp:aB4 (lT (tq P w) P w K mg base N qual scope f cd A outer s H E) :=
 ⟨ahh hr.units (λ pins σ H s e s' I h=>Tu pins σ H s e s' I h) S.nd,PassesOwn.leaving⟩
def aC aPE aRF aSn aS0{N:adl}aP5 aRc aPK aPy(nd:N.Nodup):Good (ie X scope N C fp s H) PN :=
 ⟨⟨G.hu,G.calm,λ pins σ H s e s' I h=>by obtain⟨_,_,_,_,_,z⟩:=h;exact z.elim,nd⟩,PassesOwn.never⟩
section
variable {X:Cx} {Ex:St->XK} {a b c e o:Expr} {es:acU} {da db dc d lQ:DE} {ds:afq} {pos pos' apos dg:Pos} {k n:Nat} {x m:Str} {g:D1}
def aE{p:Pos}(F:hJ X.prog X.w X.K X.mg X.base k x n g)aSb aSn aTu(hn:ds.length=n:=by rfl)aTE
  aRX:aeL (afy (ac6 x p) (e::es) [] pos) (av g ds):=⟨by
 obtain⟨f,fd,ps,F,hm,hk,hb⟩:=F.ex;refine PE.imp (Po F hr hg hm hk hb abO G.ps ha.out Jc he sV) (acI σ H Q h)
 obtain⟨ι,S,M,ρ,aW,sl,w⟩:=h
 refine⟨ι,S,M,ρ,aW,sl,aeK (anh X.K) w (λ ι1 S1 M1 H1 xs vs e1 s1 r1 w1=>?_)⟩;rw[ae2 zI ⟨by rw[← ahK r1.1,r1.2,hn],ι1,S1,M1,xs,s1,r1.1,w1⟩]⟩
universe zE
noncomputable abbrev RpU:d8->Hp->Unit->ad9 Unit:=λ _ _ _ _=>True
abbrev dJ:ayt->eu->aY->Res Unit
 | [],_,M=>.ok () M
 | none::r,ρ,M=>dJ r ρ M
 | aGD::r,ρ,M=>anL (aaQ).bind (match x with
  | η i=>ahy (small i) (dJ r ρ M1) d5
  | _=>d5)
structure VJ aQq(es:acU)(ps:ayt):Prop where
 out:∀aPR(Q:ajo Unit)(acc:Str)aPf,OA->tG X.K RpU Ex (dJ ps) σ H Q →
 aEO (ps.length*2000)≤n->n≤1000000->Joins (model X.prog X.w) X.A X.xe (aEj es) acc (λ out s₁=>out.length≤n/\∃H',aAP s₁/\ajQ ()) s
section
variable {X:Cx} {Ex:St->XK} {a b c e:Expr} {es:acU} {d:DE} {ds:afq} {ps:ayt} {pos pos' dg:Pos}
def gD:VJ X Ex [] []:=⟨λ pins s σ H Q acc n I h hl hn=>by
 obtain⟨ι,S,M,ρ,aW,sl,w⟩:=h
 exact⟨aam hl,H,I,alR () trivial⟩⟩
def cD aPl{j}(h:VJ X Ex es ps)(hx:x.length≤2000:=by decide)(he:aEj (aom (c7 x) j pos::es)=ahr (aom (c7 x) j pos)::aEj es:=by rfl):VJ X Ex (aom (c7 x) j pos::es) (none::ps):=⟨λ pins s σ H Q acc n I hw hl hn=>by
 rw[he];rw[zE] at hl;rw[acH e1 (aqH acc x=aEO x.length) (strLen_append _ _) (Calls.Constant_str (ad8 x _ ?_ ?_))]
 ·rw[e1,sizeLine_eq];omega
 ·exact h.out pins _ σ H Q (acc++x) n (I.tok _) hw (by rw[akB e1]) hn⟩
def ML aPu(h:aAE i):i.natAbs.log2<1920:=by
 rw[an6 h h]
 have hn:i.natAbs<2 ^ 64:=b6
 by_cases h0:i.natAbs=0
 ·rw[h0];decide
 ·exact asr ((Nat.log2_lt h0).mpr hn) d7
def fw{v:Expr}(hv:avn v)(h:VJ X Ex es ps)(he:aEj (aMr v (-1) none pos::es)=ahr (aMr v (-1) none pos)::aEj es:=by rfl):VJ X Ex (aMr v (-1) none pos::es) (aGD::ps):=⟨λ pins s σ H Q acc n I hw hl hn=>by
 rw[he];rw[zE] at hl;refine FormattedValue_plain ?_
 obtain⟨ι,S,M,ρ,aW,sl,w⟩:=hw;refine amN (hv.out pins s σ H (ado x (∃i,x=η i/\aAE i/\tG X.K RpU Ex (dJ ps) σ H1 Q)) I ⟨ι,S,M,ρ,aW,sl,aeK (iw X.K) w (λ ι1 S1 M1 H1 x v e1 s1 r1 w1=>?_)⟩) u ⟨x,H1,I1,rx,i,ex,hs,q⟩
 ·cases x with
  | int i =>
   dsimp only at w1;split at w1
   ·rename_i hs;exact⟨i,au0,hs,ι1,S1,M1,ρ,s1,agx,w1⟩
   ·rw[ai4]
  | _=>rw[ai4]
 ·subst ex;rw[aib rx];have aaT:=ML hs
  rw[ai3 hlen (agS aCU 1921) (by rw[Ω PySem.ofString_length (int_text_length_le d7 aaT)]) e1 (aqH acc aCU=aEO (aeA aCU)) (strLen_append _ _) (formatField_int_small aaT (ad8 aCU _ ?_ ?_))]
  ·rw[e1,sizeLine_eq];omega
  ·exact h.out pins _ σ H1 Q (acc++aCU) n (I1.tok _) q (by rw[akB e1]) hn⟩
def TR aWC(h:VJ X Ex (v₁::aFy) ps)(hp:ap0:=by decide):aeM (.JoinedStr (v₁::aFy) pos) (age (tG X.K RpU Ex (dJ ps) σ H (abf H' (∀z,ajQ (c7 z))))):=by
 intro pins s σ H Q I hw
 refine wpAny_JoinedStr ?_;have:=h.out pins s σ H _ Str.empty 1000000 I hw (by have:Str.empty.length=0:=rfl;omega) acT
 rw[acH mono (∀(parts:aw1 aEc)(acc:Str)aPF(Q1 Q2:Str->anc),(∀o s,Q1 o s->Q2 o s)->Joins (model X.prog X.w) X.A X.xe parts acc Q1 s->Joins (model X.prog X.w) X.A X.xe parts acc Q2 s) (by
  intro parts
  induction parts with
  | nil=>intro acc s Q1 Q2 hq h; exact hq _ _ h
  | cons p r ih =>
   intro acc s Q1 Q2 hq h;exact agj h v s1 ⟨y,t,e1,e2,e3⟩ ⟨y,t,e1,e2,ih _ _ _ _ hq e3⟩) (mono _ _ _ _ _ (IL o s1 ⟨h1,H',I1,q⟩) this)]
 refine⟨by rw[sizeLine_eq];omega,c7 o,H',I1.tok _,acV,q o⟩
universe zE
abbrev cn aPL(ps:ayt):DS:=λ ρ M=>alj (dJ ps ρ M).out _ (L6 C ρ M1)
abbrev Jn aPL aRb:DS:=λ ρ M=>alj (al9).out _ (L6 C ρ M1)
section
variable {P:Program} {w:World} {K:Fg} {mg:adp} {base:Heap} {N:adl} {qual:Str} {scope:Scope} {f:Addr} {cd:Value} {A:Around} {outer:agy} {s:Shared} {H:Hp} {E:XK} {x:Str} {C:Addr} {np dg pos aeI:Pos} {k:Nat}
def cJ aWC{ps:ayt}(M:auf x C)aUp(h:VJ (lT (tq P w) P w K mg base N qual scope f cd A outer s H E) (λ _=>E) (v₁::aFy) ps)
  aVq(hp:ap0:=by decide)aRB :
  VS (lT (tq P w) P w K mg base N qual scope f cd A outer s H E) (λ _=>E) (.Raise (f7 (afy (ac6 x np) [.JoinedStr (v₁::aFy) aeI] [] dg)) none pos) (cn C ps):=⟨by
 refine PS.imp (GQ M hr.hd hg (Ap (TR h hp) EB) hd) (acI D σ H h)
 obtain⟨ι,S,M,ρ,aW,sl,w'⟩:=h
 refine⟨ι,S,M,ρ,aW,sl,jj.res (Rp:=RpU) sl w' λ ι1 S1 M1 H1 x v e1 s1 r1 w1=>?_⟩;intro z
 rw[aaX (by show af6 1;rw[sizeLine_eq];decide) (w1 ι1 S1 H1 σ agi s1 agx)]⟩
def PU{e₀:Expr}{rest:acU}aQJ(M:auf x C)aUp(h:VN (lT (tq P w) P w K mg base N qual scope f cd A outer s H E) (λ _=>E) (e₀::rest) ds)
  aVq(hn:ds.length≤1000:=by decide)aRB
  aVk
  aWs :
  VS (lT (tq P w) P w K mg base N qual scope f cd A outer s H E) (λ _=>E) (.Raise (f7 (afy (ac6 x np) (e₀::rest) [] dg)) none pos) (Jn C ds):=⟨by
 refine PS.imp (GQ M hr.hd hg h.out hd he sV) (acI D σ H h)
 obtain⟨ι,S,M,ρ,aW,sl,w'⟩:=h
 refine⟨ι,S,M,ρ,aW,sl,jj.res (Rp:=anh K) sl w' λ ι1 S1 M1 H1 x v e1 s1 r1 w1=>?_⟩
 rw[aaX (by rw[← ahK r1.1,r1.2];exact Nat.le_of_lt (DN hn)) (w1 ι1 S1 H1 σ agi s1 agx)]⟩
universe zE
universe L2
universe zE
end
mutual
section
namespace L2
open PySem PySem.Spec PyProof.Rows
def Inv.K6 aSg aTj aQH aRc aQu aTd
  aV1(kf:∀b∈fp,∃o,ahZ=t9)(new:iV X.prog X.w (upd H s.heap.objs.size (sT vs)) h' s.heap.objs.size (sT vs)) :
  afn (upd H s.heap.objs.size (sT vs)) (air s h' t'):=by
 rw[d6 hp aN7 (amx acT) VF (∀b u,H b=aaZ->b∉fp) (λ b u e z=>by rw[(hf b z).1] at e; cases e)]
 rw[acH np (∀b o,afB=t9->aCQ) (anZ (ajp akO)) (I.step (g':=s.gens) (d':=s.drawn) (ch:=fp) ajj (λ b o _ _ hc e _=>k b o hc e) (λ b o _ _ hc e _=>⟨o.slots,k b o hc e⟩) (λ b o hc e n=>by rw[acY (np b o e) n])
  (λ b o hc e=>⟨o,k b o hc e⟩) (λ b xs e=>by rw[acY (bZ e hp) e]) (λ b o u e=>by rw[acY (bZ e hp) e]) (λ b ps e=>⟨#[],by rw[aS (bZ e hp),e];simp⟩) (acO m hm) (IL b u e) I.bare)]
 ·obtain⟨f0,f1,f2,f3,f4,f5⟩:=hf b hb;exact⟨f3,f1,f4,f5⟩
 ·rw[ae3 o es ep ho r hm ⟨o,es,ep,k _ o (acZ ((hf _ z).2.1 rfl)) ho,r⟩]
 ·rw[alT (b=s.heap.objs.size)]
  ·rw[alL hb bF e];cases e;exact new
  ·rw[aBq ao4 e ((atu u e).vZ (λ c v hc q=>k c v ?_ q) (λ c q=>by rw[acY (bZ q hp) q]) λ c xs q=>by rw[acY (bZ q hp) q])]
   rcases hc with z | z
   ·rw[Ω z (VF b u e)]
   ·exact VF c _ z
def Inv.K8 aSg aTj aQH aRc aTd
  aV1:afn H (air s h' t'):=by
 rw[acH VF (∀b u,H b=aaZ->b∉fp) (λ b u e z=>by rw[(hf b z).1] at e; cases e) (I.step (g':=s.gens) (d':=s.drawn) (ch:=fp) ajj (λ b o _ _ hc e _=>k b o hc e) (λ b o _ _ hc e _=>⟨o.slots,k b o hc e⟩) (λ b o hc e n=>n)
  (λ b o hc e=>⟨o,k b o hc e⟩) (λ b xs e=>e) (λ b o u e=>e) (λ b ps e=>⟨#[],by rw[arW]⟩) (acO m hm) (IL b u e) I.bare)]
 ·obtain⟨f0,f1,f2,f3,f4,f5⟩:=hf b hb;exact⟨f3,f1,f4,f5⟩
 ·rw[ae3 o es ep ho r hm ⟨o,es,ep,k _ o (acZ ((hf _ z).2.1 rfl)) ho,r⟩]
 ·refine(atu u e).vZ (λ c v hc q=>k c v ?_ q) (λ c q=>q) λ c xs q=>q;rcases hc with z | z
  ·rw[Ω z (VF b u e)]
  ·exact VF c _ z
abbrev Ite aPe aP3:It :=
 ⟨λ i H=>∃xs x,aqC/\anF,λ i H v H'=>∃p,alq/\v=Δ p/\∀xs,aqC->∃x,anF/\H'=aBy p [η i,x],λ i H=>∃xs,aqC/\aCO⟩
def MM aQQ{elts:acU}{x1}{CW:Pos}(a e it:Addr)(dz:e≠it) :
  Turn P w K (ats elts x1 CW) (Ite K a) [e,it] e (aqO (∃old,IsEnum h e it (afN i) old/\h.IsListIter it a i)) where
 mem:=Ξ
 obj:=λ i h ⟨old,he,Aq⟩ b hb=>by
  rcases aIk with rfl | hb
  ·rw[aas _ he (λ v z=>by cases z)]
  ·have eb:b=it:=ah7
   subst eb;rw[af7 o e c d Aq ⟨o,e,λ v z=>by rw[d] at z; cases z⟩]
 keep:=λ i h h' ⟨old,he,Aq⟩ k=>⟨old,k e Ξ _ he,Aq.at λ o q=>atI o q⟩
 item:=by
  intro X hP hw hK hc i pins s σ H E I hf st hg;subst hP hw hK
  obtain⟨old,he,Aq⟩:=st;obtain⟨xs,x,hq,hx⟩:=hg
  rw[agg rv p hz (I.list hq)];rw[aoa u hu ru (rv.get hx) (wpAny_pyNext_enum_item he Aq p.isList (x:=u) aGL dz λ h1 he1 aaU ht1 Ot k1=>arS (wpAny_letOwnedTupleGo_enum he1 (IL h2 ZE sb2)))];rw[d6 Sn (axh e) (Heap.lt_size he) Jo (aMv e h1) sb2];rw[d6 ht2 (b7 aNF (ajt arw (aif #[aB7 i,u]))) (x6 (Jo.2 _ aOK) ht1) I1 (afn (upd H s.heap.objs.size (sT [η i,x])) (air s h2 (s.toks+1))) (by
   refine I.K6 (fp:=[e,it]) hf (am0 hb q) ajj ?_
   ·rw[anu n1 (b≠e) z (hb (f6 z)) n2 (b≠it) (acZ (hb (f6 z)))];exact x6 (Jo.2 b n1) (k1 b o n1 n2 q)
   ·rcases aIk with rfl | hb
    ·rw[afi ZE]
    ·have eb:b=it:=ah7
     subst eb
     obtain⟨o,q,_⟩:=aaU;rw[aaX o (x6 (Jo.2 b aAH) q)]
   ·exact⟨by show af6 2;rw[sizeLine_eq];decide,[aB7 i,u],aaP acV (aaP ru abO),ad8 _ ht2 _ rfl⟩)]
  have hp:=amx (Nat.le_refl s.heap.objs.size)
  refine⟨ajA,_,I1,rfl,amK s.heap.objs.size hp (ao1 ys (ajs x (by rw[Ω (I.AM hy hq) hx]))),aoN u ?_,ajj⟩
  ·have:afW (i+1)=aCW+1:=by push_cast; rfl
   rw[Ω this ZE]
  ·exact aaU.at λ o q=>x6 (Jo.2 it aAH) q
  ·have:aCQ:=by
    rcases aIk with rfl | hb
    ·exact aOJ
    ·have eb:b=it:=ah7
     subst eb
     obtain⟨o,q,_⟩:=Aq;exact aD8 q
   rw[ae2 (aS this) (hf b hb).1]
 done:=by
  intro X hP hw hK hc i pins s σ H E I hf st hg;subst hP hw hK;obtain⟨old,he,Aq⟩:=st;obtain⟨xs,hq,hx⟩:=hg;rw[agg rv p hz (I.list hq)];rw[aaA hl rv.length (wpAny_pyNext_enum_end (I.ok.hd hc) he Aq p.isList (by rw[afo]) λ h' eb=>aju ?_)];exact I.K8 (t':=s.toks) (fp:=[e,it]) hf λ b o hb q=>eb b o (acZ (hb (f6 z))) q
 self:=λ _ _ _ _ _ ⟨old,he,Aq⟩ h=>wpAny_pyIter_enum he h
section
variable {X:Cx} {Ex:St->XK} {a:Expr} {d:DE} {pos p CW:Pos} {elts:acU} {x1:Nat}
abbrev sJ aQm:d9:=ag8 (xs.zipIdx).map q (sT [η q.2,q.1])
def MN aPi aPt{y:PV}(h:ah0 (sJ xs) y):∃x,anF/\y=sT [η i,x]:=by
 rw[ak9 sJ];rw[zJ,List.getElem?_zipIdx] at h;cases e:xs[i]? with
 | none=>rw[akN]; cases h
 | some x=>rw[akN]; cases h; exact ad5 x Ξ
abbrev iE aPJ:DI:=ahk (aaQ).bind (match x with
 | ς xs=>.ok (sJ xs,none) M1
 | ο n=>match M1[n]? with
  | agz=>.ok (sJ xs,aHk) M1
  | _=>d5
 | _=>d5)
def Bc aPB{q:Addr}aPi aVs:Walks K (Ite K q) (sJ xs) w ι S:=by
 intro i ι' S' M' H' up aW hc;rw[ajq vs hq rs (h ι' S' M' H' up aW hc) ⟨acO y hy,λ hl=>⟨vs,hq,by rw[← rs.length]; simpa[sJ] using hl⟩⟩];obtain⟨x,hx,rfl⟩:=MN hy;rw[ajq v hv r (rs.get hx) ⟨⟨vs,v,hq,hv⟩,IL u H2 y⟩];rw[aAO p hp y y];rw[aI2 z hz rfl (y vs hq) hv hz];cases hz;rw[ahJ s2 e2 (aW.tree (o:=sT [η i,v]) hp) ⟨ι',_,e2,s2,bj.gO.mpr (ad8 p _ bF (aaP apt (.one (r.mono e2))))⟩]
def EX(h:avn a)(hm:X.mg "enumerate" = none)(hg:Gl X "enumerate" := by rfl)aTz:VI X Ex (ats elts x1 CW) (afy (ac6 "enumerate" p) [a] [] pos) (iE d):=⟨by
 intro pins s σ H R I hw
 obtain⟨ι,S,M,ρ,aW,sl,w⟩:=hw;rw[acH A1 (PA X [a] (OT (tG X.K (iw X.K) Ex d) S6)) (Ap h.out EB (by rw[acR hs])) (axe (xE I hg hm (u:=ad6 "enumerate") (by first | rfl | decide) ?_ d7 d7))]
 refine aDO (amN (A1 pos pins s σ H (ado vs (∃q,vs=[Δ q]/\(∃xs,qB X.K H1 q xs)/\R (Ite X.K q) H1)) I ?_) us ⟨vs,H1,I1,r1,q,ev,⟨xs,hq⟩,k⟩) (by rw[acR hs]) rfl
 ·refine⟨ι,S,M,ρ,aW,sl,aeK (iw X.K) w (λ ι1 S1 M1 H1 x v e1 s1 r1 w1=>?_)⟩;cases x with
  | lst xs =>
   rw[acM q vs eS rs (bj.mR.mp r1)];refine ahh q ⟨vs,.of (s1.sub _ _ eS)⟩ (alp (Bc (alm ι2 S2 M2 H2 up s2 _)));rw[aas vs (.of (s2.sub _ _ (up.sm _ _ eS))) (rs.up up)]
  | obj n =>
   rw[adC q ei (bj.fA.mp r1)];obtain⟨o,eM,mo⟩:=s1.addr ei;simp only[eM] at w1;cases o with
   | lst xs =>
    obtain⟨_,vs,eH,rs⟩:=mo;refine ahh q ⟨vs,.of eH⟩ (alp (Bc (alm ι2 S2 M2 H2 up s2 hc)));obtain⟨_,vs2,GX,V3⟩:=s2.ob n q _ (up.ix _ _ ei) hc;rw[aas vs2 (.of GX) V3]
   | _=>rw[ai4]
  | _=>rw[ai4]
 ·subst ev
  rw[arb u ru r1];cases ru;rw[agg rv pl hz (I1.list hq)];rw[afQ (call_enumerate_list pl.isList (aeB h' he Aq hsz kp)) (wpAny_pyIter_enum he ?_)];rw[ZI hp (aDT (Nat.le_refl s1.heap.objs.size)) TU (aDT (Nat.le_succ s1.heap.objs.size))];refine⟨aIA 1,[aIA 1,s1.heap.objs.size],_,_,H1,rfl,I1.kept (t':=s1.toks) kp,MM q _ _ aOp,⟨abc,he,Aq⟩,ajj,k⟩;rcases aIk with rfl | hb
  ·exact I1.Ez aq2 TU
  ·have eb:b=s1.heap.objs.size:=ah7
   rw[aeq eb (I1.Ez acT hp)]⟩
universe zE
universe L2
universe zE
section
namespace L2
open PySem PySem.Spec PyProof.Rows
abbrev K9(scope sc:Scope)(XN N:adl)aRP:Bool :=
 apD (scope.kind=aoi) (scope.names.all (λ y=>!(y.2 == ai8))) && scope.names.all (λ y=>!(y.2 == amE) || (scope.names.lookup y.1 == some amE)) &&
 scope.names.all (λ y=>!(y.2 == ahR) || (aMc y.1 apO) || (aMc y.1 (some ahR))) && afJ my.length N.length &&
 ag8 (List.range N.length).all j (match N[j]?,my[j]? with
  | aeU,akj i=>(XN[i]? == aeU) && scope.names.any (λ y=>y.1 == x && y.2 == ahR) && (scope.names.lookup x == some ahR)
  | _,_=>true)
def cx.of aPE{scope sc:Scope}(XN N:adl)aRP(hX:X.N=XN)(hk:∀x,aO2=auB)(h:c8 (K9 scope sc XN N my)):aui:=by
 subst hX;rw[ak9 K9];rw[aLv h];obtain⟨⟨⟨⟨⟨h1,h2⟩,h3⟩,h4⟩,h5⟩,h6⟩:=h;refine⟨aN3,IL y hy e,IL y hy e,IL y hy e,of_decide_eq_true h5,aeB j x i e1 e2⟩
 ·have:=List.all_eq_true.mp h2 y hy;rw[aiq e this this]
 ·rw[aj3 (List.all_eq_true.mp h3 y hy) e];simpa using this
 ·rw[aj3 (List.all_eq_true.mp h4 y hy) e];rw[hk];simpa[or_comm] using this
 ·have hj:j<N.length:=(List.getElem?_eq_some_iff.mp e1).1;have:=List.all_eq_true.mp h6 j (List.mem_range.mpr hj);rw[e1,e2] at this;simp only[Bool.and_eq_true,beq_iff_eq,List.any_eq_true] at this;obtain⟨⟨a1,⟨y,a2,a3⟩⟩,a4⟩:=this;rw[aas a1 (by rw[asI a3.1 a3.2 a2]) a4]
abbrev Jp(scope sc:Scope):Scope:={ scope with names:=scope.names.map fun(n,k)=>if (akl k && aMc n apO) then(n,NameKind.cell) else(n,k) }
def MP aPE{scope sc:Scope}{N:adl}aP5 aRc aPK aPy(hk:∀x,aO2=auB)(hf:X.env.scope.kind=aoi)aPM :
  (ie X scope N C fp s H).env.kindOf x=(aJB (Jp scope sc)) x:=by
 show(aJB aKr) x=_;unfold relabel Jp;simp only[hk,hf];simp only[akT (ae8 (ScopeKind.function == ScopeKind.function)),Bool.and_true]
section
variable {X:Cx} {Ex:St->XK} {a b c e o:Expr} {es:acU} {da db dc d lQ:DE} {ds:afq} {pos pos' apos dg:Pos}
abbrev sZ aPJ:DE:=ahk (aaQ).bind (match x with
 | η i=>.ok (η (-i)) M1
 | _=>d5)
def Bd(ha:aoY):anO aFn .USub a (sZ da):=⟨by
 rw[am4 (Z9 Xe ha.out) (λ ι1 S1 M1 H1 x v e1 s1 r1 w1=>?_)];cases x with
 | int i=>rw[aas i au0 (alp apt)]
 | _=>rw[ai4]⟩
def GZ aSg aRk aPc{ys:d9}aQu{bR:x8}aQr aQe aUk{qs:aJl}aQi aPb(aW:cu X.K ι S M H)
  (rs:bg X.K ι S ys vs)(rv:aAF vs)(px:bj X.K ι S x v)(rx:aji)(e1:b7 (ao7 x) d)(e2:b7 (nV (flat M deep) ys) qs) :
  (∀y,y∈bR.toArray->SeqAt.EqAt X.A.in1 s y u (PyData.eqv (aAb y) d))/\bR.map (λ y=>aAb y)=qs:=by
 obtain⟨⟨as,a1⟩,a2,a3⟩:=mS aW I.cQ deep x v u d px rx e1
 obtain⟨⟨bs,b1⟩,b2,b3⟩:=qF (mS aW I.cQ deep) ys vs bR qs rs rv e2
 have b1':ReadsAll s.heap bR.toArray.toList qs bs:=aam b1
 rw[aej (SeqAt.items_eqAt b1' a1 b2 a2 (by have:=Nat.min_le_right aL7 d.depth;have:aE4 10:=a3;omega)) ?_];exact SeqAt.readsAll_map qs bR bs b2 b1
abbrev countP:DM:=λ x as M=>match as with
 | [y]=>match apc,ao7 y with
  | aj4,aGD=>match akE (flat M deep) with
   | some qs=>.ok (η (qs.countP (alH q q d))) M
   | none=>d5
  | _,_=>d5
 | _=>d5
def DX aQi:EI X "list.count" (atv countP):=by
 intro pins s σ H x xs v us Q I rx rs h;obtain⟨E,ι,S,M,p,ps,aW,r,rr,w⟩:=h;rw[agY countP];split at w
 ·rw[adC z r1 rr.i6]
  rw[arb u ru rs];split at w
  ·rename_i ys d h1 h2;split at w
   ·rename_i qs h3
    rw[acM l vs eH rl (gA aW r h1)];cases rx;rw[agg rv pl hz (I.list (.of eH))]
    obtain⟨q1,q2⟩:=GZ hu I aW rl rv r1 ru h2 h3;obtain⟨⟨cls,dd,data,sl⟩,n,ho,hc,hd0,hd⟩:=id pl;simp only at hc hd hd0
    subst hc hd;rw[aiQ (call_meets PySem.F.slot_list_count pl.isList.typeIs PySem.F.entry_list_count (PySem.F.args_list_count_2 _ _) (SeqAt.list_countAt l _ n dd sl u _) (aoN ho q1)) e (afN (List.countP (alH y (aAb y) d) bR.toArray.toList)=qs.countP (alH q q d)) (by
     rw[← q2,List.countP_map]; rfl)]
    rw[ae2 e ⟨η _,H,I.tok _,acV,arz⟩]
   ·rw[abR]
  ·rw[abR]
 ·rw[abR]
abbrev vv:DM:=λ x as M=>match as with
 | [y]=>match apc,ao7 y with
  | aj4,aGD=>match akE (flat M deep) with
   | some qs=>match qs.findIdx? (alH q q d) with
    | some j=>.ok (η j) M
    | none=>d5
   | none=>d5
  | _,_=>d5
 | _=>d5
def DY aQi:EI X "list.index" (atv vv):=by
 intro pins s σ H x xs v us Q I rx rs h;obtain⟨E,ι,S,M,p,ps,aW,r,rr,w⟩:=h;rw[agY vv];split at w
 ·rw[adC z r1 rr.i6]
  rw[arb u ru rs];split at w
  ·rename_i ys d h1 h2;split at w
   ·rename_i qs h3;split at w
    ·rename_i j h4
     rw[acM l vs eH rl (gA aW r h1)];cases rx;rw[agg rv pl hz (I.list (.of eH))]
     obtain⟨q1,q2⟩:=GZ hu I aW rl rv r1 ru h2 h3;obtain⟨⟨cls,dd,data,sl⟩,n,ho,hc,hd0,hd⟩:=id pl;simp only at hc hd hd0
     subst hc hd;rw[apF hj ht hno (List.findIdx?_eq_some_iff_getElem.mp h4) hlen (bR.length=qs.length) (by rw[← q2];simp)]
     rw[apL Ou rv.length at' (∀(m:Nat)(h:m<bR.length),PyData.eqv (aAb bR[m]) d=PyData.eqv (qs[m]' b6) d) (ajU m (by
      have:apK qs m (aAb bR[m]):=by rw[← q2,zJ,List.getElem?_eq_getElem h]; rfl
      rw[List.getElem?_eq_getElem b6] at this;rw[Option.some.inj this])) (call_meets PySem.F.slot_list_index pl.isList.typeIs PySem.F.entry_list_index (PySem.F.args_list_index_2 _ _) (SeqAt.list_indexAt l _ n dd sl u (alH y (aAb y) d) j (aw4 hlen hj) ?_ ?_ ?_) (aoN ho q1))]
     ·rw[ae9 sizeLine_eq]
     ·simp only[List.getElem_toArray];rw[Ω (at' j b6) ht]
     ·intro m hm qj;rw[ako List.getElem_toArray (at' m (aam hm))];simpa using hno m qj
     ·exact⟨η _,H,I.tok _,acV,arz⟩
    ·rw[abR]
   ·rw[abR]
  ·rw[abR]
 ·rw[abR]
universe zE
def cj:bootBuiltins "len" = abq aea "len":=adz
def TV:bootBuiltins "max" = abq aea "max":=adz
def La:bootBuiltins "min" = abq aea "min":=adz
def wD:bootBuiltins "all" = abq aea "all":=adz
def Lb:bootBuiltins "any" = abq aea "any":=adz
def gE:bootBuiltins "list" = abq ad6 "list":=adz
def MQ:bootBuiltins "tuple" = abq ad6 "tuple":=adz
def Ax:bootBuiltins "int" = abq ad6 "int":=adz
universe L2
universe zE
section
namespace L2
open PySem PySem.Spec PyProof.Rows
structure mx aSf aQt:Prop where
 cl:asp
 no:vi K C f
abbrev qJ aQt(v:PV):aka->aka
 | []=>[(f,v)]
 | (g,x)::r=>if g=f then(g,v)::r else(g,x)::qJ f v r
def dR.lookup aPB aSQ{xK:aoR}(h:aHt)aQt :
  (aaz auZ/\aaz (xK.lookup f))\/∃x v,auZ=aeU/\xK.lookup f=afw/\ae7:=by
 induction h with
 | nil=>exact awk rfl
 | @cons p q fs xK r t ih =>
  rw[aDU r1 r2 r p1 p2 p];rw[aIe q1 q2 q r1 r2];subst r1;rw[List.lookup_cons,List.lookup_cons];cases e:f == p1 with
  | true=>exact c6 (abS p2 q2 rfl r2)
  | false=>exact ih
def dR.qb aPB aSQ{xK:aoR}(h:aHt)aQt aQr(r:ae7):dR K ι S (qJ f x fs) (qb f v xK):=by
 induction h with
 | nil=>exact ay5 r abO
 | @cons p q fs xK r' t ih =>
  rw[aDU p1 p2 p q1 q2 q];rw[aIe r1 r2 r' r1 r2]
  subst r1;show dR K ι S (if p1=f then(p1,x)::fs else(p1,p2)::qJ f x fs) (if p1=f then(p1,v)::xK else(p1,q2)::L2.qb f v xK);rw[aih p1 f]
  ·rw[akr e e];exact ay5 r t
  ·rw[ae0 ak3 ak3 (ay5 r2 ih)]
abbrev Ov aPL aPO aPh:as7 (Nat×aka):=match x with
 | ο n=>match M[n]? with
  | ac1 abT C' fs=>alE C' C (aiR n fs) none
  | _=>none
 | _=>none
def mT aP5 aPa aPc aSQ(h:M[n]? = ac1 abT C fs):b7 (Ov C (ο n) M) (n,fs):=afr Ov h
def Ay aQK aQr aP5 aPa aSQ aRh(h:b7 (Ov C x M) (n,fs)) :
  ∃a dx xK,v=Δ a/\al8/\H a=f7 (abT C dx xK)/\aqw/\aHt:=by
 cases x with
 | obj m =>
  rw[adC p ei (bj.fA.mp r)];obtain⟨o,eM,q⟩:=aW.addr ei;simp only[Ov,eM] at h;cases o with
  | ins C' gs =>
   rw[apE];split at h
   ·rename_i ec;cases h;subst ec;rw[ae3 hS dx xK eH rr q ⟨p,dx,xK,rfl,ei,eH,hS,rr⟩]
   ·cases h
  | _=>cases h
 | _=>cases h
section
variable {X:Cx} {Ex:St->XK} {a b c e o value:Expr} {es:acU} {da db dc d dv lQ:DE} {ds:afq} {pos pos' apos dg:Pos} {C:Addr} {f:Str}
abbrev bY aPL aQt aPJ:DE:=ahk (aaQ).bind (match aDx with
 | aiR _ fs=>asZ auZ M1
 | none=>d5)
def bw(h:mx X.K C f)(ha:aoY)(hb:an5 a f (ahr a)=ahr a:=by rfl):anO aio a f (bY C f da):=⟨by
 refine PE.imp (Xj ha.out hb) (acI σ H Q hh);obtain⟨ι,S,M,ρ,aW,sl,w⟩:=hh;refine⟨ι,S,M,ρ,aW,sl,aeK (iw X.K) w (λ ι1 S1 M1 H1 x v e1 s1 r1 w1=>?_)⟩;cases e2:aDx with
 | none=>rw[ayE]
 | some p =>
  obtain⟨n,fs⟩:=p
  rw[amt e2 w1 w1];obtain⟨p,dx,xK,rfl,ei,eH,hS,rr⟩:=Ay s1 r1 e2;rcases rr.lookup f with⟨k1,_⟩ | ⟨y,u,k1,k2,k3⟩
  ·rw[t7 k1 w1 w1.elim]
  ·rw[k1] at w1
   exact⟨p,C,dx,xK,u,rfl,eH,h.cl,h.no,k2,w1 ι1 S1 H1 u agi s1 k3⟩⟩
abbrev gS aPL aQt(lQ dv:DE):DS:=λ ρ M=>alj (aDk).out y ((aCq).out ρ λ x M2=>match Ov C x M2 with
 | aiR n fs=>apZ aBk .nx ρ (M2.set n (abT C aDl))
 | none=>d5)
def fC(h:mx X.K C f)aSF(hv:aeL value dv)(hs:aAx value (f7 (aio o f pos'))=apG:=by rfl):aqN (aoy [aio o f pos'] value pos) (gS C f lQ dv):=⟨by
 refine PS.imp (Xk ho.out hv.out hs) (acI D σ H hh);obtain⟨ι,S,M,ρ,aW,sl,w⟩:=hh;refine⟨ι,S,M,ρ,aW,sl,jj.res (Rp:=iw X.K) sl w λ ι1 S1 M1 H1 y u e1 s1 r1 w1=>?_⟩;refine⟨ι1,S1,M1,ρ,s1,agx,jj.res (Rp:=iw X.K) agx w1 λ ι2 S2 M2 H2 x v e2 s2 r2 w2=>?_⟩;cases e3:Ov C x M2 with
 | none=>rw[t7 e3 w2 w2.elim]
 | some p =>
  obtain⟨n,fs⟩:=p
  rw[amt e3 w2 w2];split at w2
  ·rw[atc];obtain⟨p,dx,xK,rfl,ei,eH,hS,rr⟩:=Ay s2 r2 e3;rw[asR ⟨p,C,dx,xK,rfl,eH,h.cl,h.no,by rw[abd rr.length hl],?_⟩ s3 e4 (s2.put (u:=abT C dx (qb f u xK)) (o:=abT C aDl) ei hS ⟨hS,dx,_,bF,rr.qb f (apz e2)⟩) (w2 _ _ _ σ e4 s3 ((aBA).mono e4))]
  ·exact w2.elim⟩
universe zE
structure DZ aQO aSe aPS aPL(m:Str)aPf aPd:Prop where
 ex:∃f fd ps,pN P w K mg base (tq P w) k f fd ps (Oq K n g)/\Meth K C m f/\asp/\at6
structure G0 aQO aSe aPS aPM aPL aPf aPd:Prop where
 ex:∃f fd ps,pN P w K mg base (tq P w) k f fd ps (Oq K n g)/\Mk K C f/\mg x=alO C/\at6
section
variable {P:Program} {w:World} {K:Fg} {mg:adp} {base:Heap} {C:Addr} {m x:Str} {n:Nat} {g g':D1}
def DZ.mono aTk aWd aTl:DZ P w K mg base k C m n g:=by
 rw[ae3 f fd ps F r F.ex ⟨f,fd,ps,aBc,r⟩]
def G0.mono aTk aWe aTl:G0 P w K mg base k x C n g:=by
 rw[ae3 f fd ps F r F.ex ⟨f,fd,ps,aBc,r⟩]
structure wF aSf(m q:Str)aTH:Prop where
 ex:∃f fd,Pe K m q st f fd/\Meth K C m f/\asp/\at6
structure D0 aTf aPM aPL(q:Str)aTH:Prop where
 ex:∃f fd,Pe K "__init__" q st f fd/\Mk K C f/\mg x=alO C/\at6
def DZ.of{q:Str}aQ5 aRJ aPg{d:DS}aWo
  aW3:DZ P w K mg base (k+1) C m ps.length (gq N.length d):=by
 obtain⟨f,fd,F,hm,hc,hB⟩:=D.ex;exact⟨f,fd,ps,EW F S (hb f),hm,hc,hB⟩
def G0.of{q:Str}aQ5 aRJ aPg{d:DS}aWg
  aW3:G0 P w K mg base (k+1) x C ps.length (gq N.length d):=by
 obtain⟨f,fd,F,hm,hc,hB⟩:=D.ex;exact⟨f,fd,ps,EW F S (hb f),hm,hc,hB⟩
universe zE
section
variable {X:Cx} {Ex:St->XK} {a b c e o:Expr} {es:acU} {da d lQ:DE} {ds:afq} {pos apos p:Pos} {C:Addr} {m x:Str} {n k:Nat} {g:D1}
abbrev iG aPL(m:Str)aPd(lQ:DE)aRb:DE:=ahk (lQ ρ M).bind (match aDx with
 | aiR _ fs=>match fs.lookup m with
  | aqa=>d5
  | none=>aic (fH ds ρ M1).bind xs (g (x::xs) M2)
 | none=>d5)
def mF{pl:aBa}(F:DZ X.prog X.w X.K X.mg X.base k C m n g)aSb aSn aSF(ha:ape (e::es))aWt
  aVB
  aVg :
  aeL (afy (aio o m apos) (e::es) [] pos) (iG C m g lQ ds):=⟨by
 obtain⟨f,fd,ps,F,hm,hc,hb⟩:=F.ex;rw[am4 (Pp ho.out hc hm F hr hb abO G.ps ha.out Gz sV ht) (λ ι1 S1 M1 H1 x v e1 s1 r1 w1=>?_)];cases e2:aDx with
 | none=>rw[ayE]
 | some q =>
  obtain⟨j,fs⟩:=q
  rw[amt e2 w1 w1];obtain⟨q,dx,xK,rfl,ei,eH,hS,rr⟩:=Ay s1 r1 e2;rcases rr.lookup m with⟨k1,k2⟩ | ⟨y,u,k1,k2,k3⟩
  ·rw[aBq k1 w1 ⟨q,dx,xK,rfl,eH,k2,ι1,S1,M1,ρ,s1,agx,aeK (anh X.K) w1 (λ ι2 S2 M2 H2 xs vs e3 s2 r2 w2=>?_)⟩];rw[ae2 zI ⟨by rw[zE,← ahK r2.1,r2.2,hn],ι2,S2,M2,_,s2,aaP (apz e3) r2.1,w2⟩]
  ·rw[t7 k1 w1 w1.elim]⟩
def MR aSm aTe{sp:Sp}aRF{ta:TE}{pl:aBa}(he:aeM o ta)aWA aSU aSb aWT aTM
  aVh :
  aeM (afy (aio o m apos) [] [] pos) (Pn C m sp [] Ex ta S6):=by
 intro pins s σ H Q I h;refine PySem.W.methodCall_KW (pl:=pl) (amN (he pins s σ H _ I h) u ⟨x,H1,I1,rx,a,dx,fs,ex,ea,l,q⟩) ht;subst ex;obtain rfl:u=aog:=rx;rw[ans (AR I1 ea c hm l ?_) (PySem.W.callWith_K0 (first:=[Δ a]) I1.Gy hm.kp (EO (us:=[Δ a]) (vs:=[Δ a]) F hr hb abO hx I1 (aaP rfl abO) q))]
def TX{pl:aBa}(F:DZ X.prog X.w X.K X.mg X.base k C m 1 g)aSb aSn aSF
  aVh :
  aeL (afy (aio o m apos) [] [] pos) (iG C m g lQ []):=⟨by
 obtain⟨f,fd,ps,F,hm,hc,hb⟩:=F.ex;rw[am4 (MR ho.out hc hm F hr hb G.ps ht) (λ ι1 S1 M1 H1 x v e1 s1 r1 w1=>?_)];cases e2:aDx with
 | none=>rw[ayE]
 | some q =>
  obtain⟨j,fs⟩:=q
  rw[amt e2 w1 w1];obtain⟨q,dx,xK,rfl,ei,eH,hS,rr⟩:=Ay s1 r1 e2;rcases rr.lookup m with⟨k1,k2⟩ | ⟨y,u,k1,k2,k3⟩
  ·rw[k1] at w1;exact⟨q,dx,xK,rfl,eH,k2,rfl,ι1,S1,M1,_,s1,.one r1,w1⟩
  ·rw[t7 k1 w1 w1.elim]⟩
abbrev u0 aPL aPd aRb:DE:=awe (al9).bind (aic (g (ο M1.length::xs) (M1++[abT C []])).bind r (match r with
 | .bb=>.ok (ο M1.length) M2
 | _=>d5))
def D3 aSm aTe{sp:Sp}aQN aQG aP2 aQM aQu(M:Mk X.K C f)aSU aUU aWT
  (hx:∀(pins:KB)aPC aPF aTW,ahX (CX X.stack H s E e s') (X.xe e s'))aPb(r:avL)
  (h:∀x dx,ai7 x->ai7 dx->dx≠x->sp (Δ x::vs) (agP (ajB dx .own x) x (abT C dx [])) (aiE v (v=.bb/\Q (Δ x) H2)) E) :
  adT (call (Δ C) us) (EP X pins σ Q) s:=by
 rw[ZI hq (h agn s.heap.objs.size (amx aq2) (amx acT) (aNR _)) I2 (Inv.made (C:=C) I)];rw[d6 r2 (aut (V.ref agn::vs) (aEo::us)) (aaP rfl r) hl (aKp (aEo::us++[])) (by
  rw[aev e r2.length (F.len _ _ _ _ hq) e];rw[Ω zI e.symm])]
 rw[aev Ts (hb _ (aEo::us) I2.Gy hl) zI Ts]
 refine wpAny_call (OS (f:=f) I.Gy M.makes M.init (beq_iff_eq.mp M.fn) (codeAny_mono (F.run _ X.stack _ _ (amR (aEo::us)) (aEo::us) _ _ E (hr.make C us [])
  (I2.aag.make C us []) Ts r2 hq) (IL r s' xS)))
 cases r with
 | error e=>exact hx pins _ _ e s' I2 xS
 | ok fl =>
  cases fl with
  | ret u =>
   obtain⟨v,H',I3,rv,ev,q3⟩:=I2.after xS;subst ev;rw[aaX rv (abS (V.ref agn) H' I3 q3)]
  | next=>rw[aoc xS]
  | brk=>rw[aoc xS]
  | cont=>rw[aoc xS]
def D4 aQK aQN aP2 aPW aSN(r:afm)(hn:vs.length+1=n)
  (w:apk (aic (g (aes::xs) (M++[abT C []])).bind r (match r with | .bb=>.ok aes M2 | _=>d5))) :
  ∀x dx,ai7 x->ai7 dx->dx≠x->Oq K n g (Δ x::vs) (agP (ajB dx .own x) x (abT C dx [])) (aiE v (v=.bb/\Q (Δ x) H2)) E:=by
 intro x dx hx hdx dz;rw[apB s1 e1 (aW.side (o:=.own x) hdx) hx1 (aaz (upd H dx (.own x) x)) (by rw[acY aAH hx])]
 have hS:=s1.vp hx1
 rw[aq4 s2 e2 (s1.new (u:=abT C dx []) (o:=abT C []) hx1 ⟨hS,dx,[],bF,abO⟩) e12 (e1.trans e2)]
 rw[ah8 hi (acL (ι++[x]) M.length x) (by rw[← aW.len];simp) ⟨ag3 zE hn,ι++[x],S,_,_,s2,aaP (aAk x hi) (r.mono e12),arU (w.up e12) (λ ι1 S1 M1 H1 y v ex sm rp wk=>?_)⟩];cases y with
 | bb=>rw[aaX (bj.kZ.mp rp) (wk ι1 S1 H1 _ agi sm (aAk x (ex.ix _ _ hi)))]
 | _=>exact wk.elim
def Lc(F:G0 X.prog X.w X.K X.mg X.base k x C n g)aUU aSn aTu aWt aTE
  aRX:aeL (afy (ac6 x p) (e::es) [] pos) (u0 C g ds):=⟨by
 obtain⟨f,fd,ps,F,M,hm,hb⟩:=F.ex;intro pins s σ H Q I h
 obtain⟨ι,S,M',ρ,aW,sl,w⟩:=h;rw[afQ (axe (v5 I hg hm ?_ Jc)) (PySem.W.callWith_K (h₀:=X.base) I.ok.mod.Zx M.kp (agj (ha.out pos pins s σ H (ado vs (∀x dx,aA0 x->aA0 dx->dx≠x->Oq X.K n g (Δ x::vs) (agP (agP H1 dx (.own x)) x (abT C dx [])) (aiE v (v=.bb/\Q (Δ x) H2)) (Ex σ))) I ?_) us s1 ⟨vs,H1,I1,r,q⟩ (aiS I1.Gy)) he sV)]
 ·refine⟨ι,S,M',ρ,aW,sl,aeK (anh X.K) w (λ ι1 S1 M1 H1 xs vs e1 s1 r1 w1=>?_)⟩;exact D4 s1 r1.1 (by rw[← ahK r1.1,r1.2,hn]) w1
 ·exact D3 M F hr hb (λ pins H s e s' I h=>G.ps pins σ H s e s' I h) I1 r q⟩
def PX(F:G0 X.prog X.w X.K X.mg X.base k x C 1 g)aUU aSn(hg:aml:=by rfl)aTE:aeL (afy (ac6 x p) [] [] pos) (u0 C g []):=⟨by
 obtain⟨f,fd,ps,F,M,hm,hb⟩:=F.ex;intro pins s σ H Q I h
 obtain⟨ι,S,M',ρ,aW,sl,w⟩:=h;rw[ans (axe (v5 I hg hm ?_ Jc)) (PySem.W.callWith_K0 I.Gy M.kp (D3 (us:=[]) M F hr hb (λ pins H s e s' I h=>G.ps pins σ H s e s' I h) I abO (D4 aW abO rfl w)))]⟩
universe zE
section
variable {X:Cx} {Ex:St->XK} {a b c e o i value:Expr} {es:acU} {da db dc d dv di lQ:DE} {ds:afq} {pos pos' apos dg:Pos}
def set_dict aUZ:IP X (λ o i v H Q=>∃a H',o=Δ a/\EC H a i v H'/\Q H'):=by
 intro pins s σ H o i v ov iv u Q I ro ri rv h;rw[anJ p H' g h];cases ro;exact Mu hu I g ri rv λ s' I'=>⟨H',I',q⟩
abbrev zx(x k y:PV)aPh:Option aY:=match x with
 | ο n=>match M[n]? with
  | agz=>match k with
   | η j=>ag8 (axp j).map m (akL n (xs.set m y))
   | _=>none
  | aCC=>match kQ k with
   | some kk=>asC (kvs.length<lim) (f7 (adw n .bB (nW kvs kk y)))
   | none=>none
  | abq .MF kvs=>match KY k with
   | some kk=>asC (kvs.length<lim) (f7 (adw n .MF (nW kvs kk y)))
   | none=>none
  | _=>none
 | _=>none
def PY aUn{S H:Hp}{M M':aY}{x k y:PV}{v kv u:V}{Q:asw}aRh(rk:akW k kv)(ry:akW y u)(h:b7 (zx x k y M) M')
  (hQ:∀H',cu K ι S M' H'->Ext ι S H ι S H'->Q H'):V0 v kv u H Q\/∃a H',v=Δ a/\EC H a kv u H'/\Q H':=by
 cases x with
 | obj n =>
  rw[adC p ei (bj.fA.mp r)];obtain⟨o,eM,q⟩:=aW.addr ei;simp only[zx,eM] at h;cases o with
  | lst xs =>
   rw[apE];cases k with
   | int j =>
    rw[apE];obtain⟨hS,vs,eH,rr⟩:=q;cases e:axp j with
    | none=>rw[akN]; cases h
    | some m =>
     rw[akN];cases h;rw[aeO s2 e2 (uy aW ei hS (rr.set m ry)) (b5 ⟨p,vs,j,m,rfl,bj.bD.mp rk,eH,by rw[abd rr.length e],hQ _ s2 e2⟩)]
   | _=>cases h
  | bB kvs =>
   rw[apE];obtain⟨hS,cf,eH,rr⟩:=q;cases e:kQ k with
   | none=>rw[akN]; cases h
   | some kk =>
    rw[amt e h h];split at h
    ·rw[atc];cases h;have:=nu rk e;subst this;rw[aeO s2 e2 (aW.put (u:=.dK (putK cf kk u)) (o:=.bB (nW kvs kk y)) ei hS ⟨hS,_,bF,rr.put kk ry⟩) (c6 (ad8 p _ (EC.k eH (by rw[abd rr.length (A3 hl)])) (hQ _ s2 e2)))]
    ·cases h
  | MF kvs =>
   rw[apE];obtain⟨hS,cf,eH,rr⟩:=q;cases k with
   | tup ks =>
    rw[acM b vs eS rs (bj.gO.mp rk)];simp only[KY] at h;cases e:nV kQ ks with
    | none=>rw[akN]; cases h
    | some kk =>
     rw[amt e h h];split at h
     ·rw[atc];cases h;have:=xM rs e;subst this;rw[aeO s2 e2 (aW.put (u:=.dT (putK cf kk u)) (o:=.MF (nW kvs kk y)) ei hS ⟨hS,_,bF,rr.put kk ry⟩) (c6 (ad8 p _ (EC.t eH (aW.sub _ _ eS) (by rw[abd rr.length (A3 hl)])) (hQ _ s2 e2)))]
     ·cases h
   | _=>cases h
  | _=>cases h
 | _=>cases h
abbrev eY(lQ di dv:DE):DS:=λ ρ M=>alj (aDk).out y ((aCq).out ρ λ x M2=>(di ρ M2).out ρ λ k M3=>match zx x k y M3 with
 | some M4=>.nx ρ M4
 | none=>d5)
def IP.or{t t':SN}(h:IP X t)(h':IP X t'):IP X (λ o i v H Q=>t o i v H Q\/t' o i v H Q):=by
 intro pins s σ H o i v ov iv u Q I ro ri rv q;rcases q with q | q
 ·exact h pins s σ H o i v ov iv u Q I ro ri rv q
 ·exact h' pins s σ H o i v ov iv u Q I ro ri rv q
def cM aQi aSF(hi:aeL i di)(hv:aeL value dv)
  (ha:∀v,aI7 (amz o i pos') v=(do
   let ov ← aor [v] ahj
   let iv ← aor [v,ov] (ahr i)
   standAt pos'
   aor [v,ov,iv] (setItem ov iv v)
   release [v,ov,iv] []):=by rw[ar5])
  (hs:swapsWithSole [amz o i pos'] value pos.line X.env=apG:=by rfl)(hw:aLX [amz o i pos'] value=aKQ:=by rfl)
  (h1:anz (aw8 [amz o i pos']).map=[auS (amz o i pos')]:=by rfl):aqN (aoy [amz o i pos'] value pos) (eY lQ di dv):=⟨by
 refine PS.imp (OL hv.out (WY ho.out hi.out (set_list.or (set_dict b6)) ha) hs hw h1) (acI D σ H hh);obtain⟨ι,S,M,ρ,aW,sl,w⟩:=hh;refine⟨ι,S,M,ρ,aW,sl,jj.res (Rp:=iw X.K) sl w λ ι1 S1 M1 H1 y u e1 s1 r1 w1=>?_⟩;refine⟨ι1,S1,M1,ρ,s1,agx,jj.res (Rp:=iw X.K) agx w1 λ ι2 S2 M2 H2 x v e2 s2 r2 w2=>?_⟩;refine⟨ι2,S2,M2,ρ,s2,aBA,jj.res (Rp:=iw X.K) aBA w2 λ ι3 S3 M3 H3 k kv e3 s3 r3 w3=>?_⟩;cases e4:zx x k y M3 with
 | none=>rw[t7 e4 w3 w3.elim]
 | some M4 =>
  rw[t7 e4 w3 (PY s3 (bj.mono e3 r2) r3 aHx e4 λ H' s' e'=>w3 _ _ _ σ e' s' ((sl.mono (e1.trans (e2.trans e3))).mono e'))]⟩
universe zE
universe L2
universe zE
end
mutual
section
namespace L2
open PySem PySem.Spec PyProof.Rows
abbrev bools:ajz d9 akZ
 | []=>some []
 | .bl b::r=>(bools r).map (b::·)
 | _::_=>none
def xT aPB:∀aPW aSc,afm->b7 (bools xs) bs->vs=aM5
 | [],vs,bs,r,e=>by rw[bg] at r;subst r; cases e; rfl
 | x::xs,vs,bs,r,e=>by
  rw[acM v r' h1 h2 r.lg];cases x with
  | bl b =>
   rw[bools] at e;cases e2:bools xs with
   | none=>rw[azA]; cases e
   | some cs =>
    rw[azA];cases e;rw[zC,xT h2 e2,bj.fG.mp h1]
  | _=>cases e
def qK aPp(f:awf)aRM:bools (xs.map λ x=>.bl (f x))=f7 (xs.map f):=by
 induction xs with
 | nil=>rfl
 | cons x xs ih=>rw[zC,bools,ih]; rfl
section
variable {X:Cx} {Ex:St->XK} {a b c e o:Expr} {es:acU} {da db dc d lQ:DE} {ds:afq} {pos pos' apos dg:Pos}
abbrev vw:D1:=apg (match xs with
 | [x]=>match (apc).bind bools with
  | some bs=>.ok (.bl aKT) M
  | none=>d5
 | _=>d5)
abbrev EY:D1:=apg (match xs with
 | [x]=>match (apc).bind bools with
  | some bs=>.ok (.bl aKU) M
  | none=>d5
 | _=>d5)
def PZ aSc{bR:x8}(rv:aAF aM5)aPs aSJ(h:arM bR.toArray):v=ajF (bs.getD i false):=by
 have h':arM bR:=aza
 rw[aev hl rv.length zK hl]
 have hi:i<bs.length:=by rw[ae2 hl (List.getElem?_eq_some_iff.mp h').1]
 rw[aI2 u h1 h2 (rv.get (i:=i) (x:=.bl bs[i]) (by rw[zJ,List.getElem?_eq_getElem hi];rfl)) h' h1];cases h1;rw[aHU hi];exact h2
def MS aSc:(aN0).all (λ i=>bs.getD i false)=aKT:=by
 induction bs with
 | nil=>rfl
 | cons b bs ih =>
  rw[zE,List.range_succ_eq_map,List.all_cons,List.all_map,List.all_cons,← ih];rfl
def MT aSc:(aN0).any (λ i=>bs.getD i false)=aKU:=by
 induction bs with
 | nil=>rfl
 | cons b bs ih =>
  rw[zE,List.range_succ_eq_map,List.any_cons,List.any_map,List.any_cons,← ih];rfl
def P0 aSg{l:Addr}aSc aPb aQU(eH:H l=ag4 aM5){f:String}{k:Bool}aP2
  (call:∀aPN,ajV (model X.prog X.w) X.A.in1 (pyIter (Δ l)) (λ it s₂=>∃I fp wr n P St tr,it=Δ I/\PySem.Walks X.prog X.w X.A.in1 I fp wr n P St/\St 0 s₂.heap/\TruthOf X.prog X.w X.A.in1 P tr ∧
   n=bs.length/\tr=(λ i=>bs.getD i false)/\∀h' tk,(∀b o,b∉wr->s₂.heap.get? b=t9->ahZ=t9)->Q (ajF k) (air s₂ h' tk)) X.xe s →
   adT (call (aea f) [Δ l]) Q s)(q:Q (.bl k) H):adT (PySem.call (aea f) [Δ l]) (EP X pins σ Q) s:=by
 rw[agg rv pl hz (I.list (.of eH))];rw[anl (call (wpAny_pyIter_list pl.isList ?_)) dz (l≠s.heap.objs.size) (by
  obtain⟨o,n,ho,_⟩:=pl;exact aD8 ho) hlen (bR.toArray.size=bs.length) (by have:=rv.length;rw[axS]; simp[this])]
 refine⟨s.heap.objs.size,_,_,_,_,_,λ i=>bs.getD i false,rfl,PySem.Walks.list (A:=X.A.in1) (I.ok.hd hc) s.heap.objs.size l dz bR.toArray,⟨azH,pl.isList.at λ o e=>agH e⟩,?_,hlen,rfl,atp tk hk⟩
 ·intro i v s2 Q' E' hP hQ;have:=PZ rv i v hP;rw[aeq this (wpAny_truthy_bool hQ)]
 ·refine abS (.bl k) H ?_ q
  refine I.kept (t':=tk) (anZ (hk b o ?_ (agH e)));intro hb
  have:b=s.heap.objs.size:=ah7
  exact Nat.ne_of_lt akO this
def qL aQU:aqm "all" (aqb vw):=by
 intro pins s σ H xs us Q I rs h;obtain⟨E,ι,S,M,ys,aW,r,w⟩:=h;rw[agY vw];split at w
 ·split at w
  ·rename_i x bs hb;rw[adC v r1 r.i6];rw[adC u ru (vals1 rs)];obtain⟨zs,h1,h2⟩:=Option.bind_eq_some_iff.mp hb;rw[acM l vs eH rr (gA aW r1 h1)];cases ru;rw[avd (xT rr h2) eH (P0 I hc eH (λ{Q} h=>call_all_walk (auh h (λ it s2 ⟨I1,fp,wr,n,P,St,tr,e1,e2,e3,e4,e5,e6,e7⟩=>⟨I1,fp,wr,n,P,St,tr,e1,e2,e3,e4,atp tk hk⟩) z z)) aye)];subst e5 e6;rw[Ω MS (e7 h' tk hk)]
  ·rw[abR]
 ·rw[abR]
def D5 aQU:aqm "any" (aqb EY):=by
 intro pins s σ H xs us Q I rs h;obtain⟨E,ι,S,M,ys,aW,r,w⟩:=h;rw[agY EY];split at w
 ·split at w
  ·rename_i x bs hb;rw[adC v r1 r.i6];rw[adC u ru (vals1 rs)];obtain⟨zs,h1,h2⟩:=Option.bind_eq_some_iff.mp hb;rw[acM l vs eH rr (gA aW r1 h1)];cases ru;rw[avd (xT rr h2) eH (P0 I hc eH (λ{Q} h=>call_any_walk (auh h (λ it s2 ⟨I1,fp,wr,n,P,St,tr,e1,e2,e3,e4,e5,e6,e7⟩=>⟨I1,fp,wr,n,P,St,tr,e1,e2,e3,e4,atp tk hk⟩) z z)) aye)];subst e5 e6;rw[Ω MT (e7 h' tk hk)]
  ·rw[abR]
 ·rw[abR]
universe zE
universe L2
universe zE
section
namespace L2
open PySem PySem.Spec PyProof.Rows
abbrev aaV:ajz d9 acm
 | []=>some []
 | η i::r=>(aaV r).map (i::·)
 | _::_=>none
section
variable {X:Cx} {Ex:St->XK} {a:Expr} {da:DE} {pos:Pos}
abbrev oX:DE:=abf M (.ok aes (M++[.bB []]))
def pS:aeL (.Dict [] [] pos) oX:=⟨PE.imp OV λ σ H Q h p hp=>by
 obtain⟨ι,S,M,ρ,aW,sl,w⟩:=h;rw[aeO s1 x1 (aW.new (u:=.dK []) (o:=.bB []) hp ⟨aW.vp hp,[],afC,abO⟩) (w _ _ _ _ x1 s1 (aAk p (by rw[← aW.len,aDQ acT]; simp)))]⟩
universe zE
universe L2
universe zE
section
namespace L2
open PySem PySem.Spec PyProof.Rows
abbrev u7 aPO aPh:as7 (Nat×afx):=match x with
 | ο n=>match M[n]? with
  | aCC=>atm
  | _=>none
 | _=>none
def eD aPa aPc aTn aQ4:b7 (u7 (ο n) M) (n,kvs):=afr u7 h
def nX aQK aQr aQF aRh(h:b7 (u7 x M) (n,kvs)) :
  ∃a cf,v=Δ a/\al8/\H a=av9 .dK/\aqw/\alu/\x=ο n:=by
 cases x with
 | obj m =>
  rw[adC p ei (bj.fA.mp r)];obtain⟨o,eM,q⟩:=aW.addr ei;simp only[u7,eM] at h;cases o with
  | bB xs =>
   cases h;rw[af7 hS cf eH rk q ⟨p,cf,rfl,ei,eH,hS,rk,rfl⟩]
  | _=>cases h
 | _=>cases h
section
variable {X:Cx} {Ex:St->XK} {a b c e f o:Expr} {es:acU} {da db dc d lQ dk dx:DE} {ds:afq} {pos pos' apos dg:Pos}
abbrev xU(lQ dk:DE):DE:=ahk (lQ ρ M).bind (match am1 with
 | aqa=>aic (dk ρ M1).bind y (match aHI,kQ y with
  | aiR _ kvs,av5=>.ok ((aoW).getD .bb) M2
  | _,_=>d5)
 | none=>d5)
abbrev nF(lQ dk dx:DE):DE:=ahk (lQ ρ M).bind (match am1 with
 | aqa=>aic (dk ρ M1).bind y ((dx ρ M2).bind λ z M3=>match aHJ,kQ y with
  | aiR _ kvs,av5=>.ok ((aoW).getD z) M3
  | _,_=>d5)
 | none=>d5)
abbrev rB(lQ dk:DE):DE:=ahk (lQ ρ M).bind (match am1 with
 | aqa=>aic (dk ρ M1).bind y (match aHI,kQ y with
  | atm,av5=>match aoW with
   | afw=>.ok v (M2.set n (.bB (uY kvs k)))
   | none=>d5
  | _,_=>d5)
 | none=>d5)
abbrev xV(lQ dk dx:DE):DE:=ahk (lQ ρ M).bind (match am1 with
 | aqa=>aic (dk ρ M1).bind y ((dx ρ M2).bind λ z M3=>match aHJ,kQ y with
  | atm,av5=>match aoW with
   | afw=>.ok v (M3.set n (.bB (uY kvs k)))
   | none=>.ok z M3
  | _,_=>d5)
 | none=>d5)
def EZ aQK aQr{q:Nat×afx}aRh(h:b7 (u7 x M) q):∃p,v=Δ p/\Xr H p:=by
 obtain⟨p,cf,rfl,_,eH,_⟩:=nX aW r h;exact ad5 p (aoQ cf (b5 eH))
def Ld aQK aPa aQl{ys:afx}{us:ahD}aSN aW0(r:dR K ι S ys us):cu K ι S (M.set n (.bB ys)) (ajB p .dK us)/\Ext ι S H ι S (ajB p .dK us) :=
 aW.put hi hS ⟨hS,us,bF,r⟩
def G1 aQi aTY(m:M1 X o "get" apos e dg:=by exact aGp):aeL (afy aKu [e] [] dg) (xU lQ dk):=⟨by
 rw[am4 (OY b6 ho.out he.out m) (λ ι1 S1 M1 H1 x v e1 s1 r1 w1=>?_)];cases q1:am1 with
 | none=>rw[awg]
 | some q =>
  rw[q1] at w1;rw[adC p hd (EZ s1 r1 q1)];refine⟨p,rfl,hd,ι1,S1,M1,ρ,s1,agx,aeK (iw X.K) w1 (λ ι2 S2 M2 H2 y u e2 s2 r2 w2=>?_)⟩;cases q2:aHI with
  | none=>rw[t7 q2 w2 w2.elim]
  | some nk =>
   obtain⟨n,kvs⟩:=nk;cases q3:kQ y with
   | none=>rw[ap4 q2 q3 w2 w2.elim]
   | some k =>
    rw[q2,q3] at w2
    obtain⟨p',cf,ep,ei,eH,hS,rk,_⟩:=nX s2 (apz e2) q2;cases ep;have ek:=nu r2 q3
    subst ek
    rw[adv _ (.k eH) ?_]
    dsimp only at w2;rcases aE6 with⟨z1,z2⟩ | ⟨x',v',z1,z2,rr⟩
    ·rw[z1] at w2;rw[Ω z2 (w2 ι2 S2 H2 _ agi s2 (bj.kZ.mpr rfl))]
    ·rw[z1] at w2
     rw[Ω z2 (w2 ι2 S2 H2 _ agi s2 rr)]⟩
def wG aQi aTY(hf:aeL f dx)(m:M2 X o "get" apos e f dg:=by exact aGp):aeL (afy aKu [e,f] [] dg) (nF lQ dk dx):=⟨by
 rw[am4 (OZ b6 ho.out he.out hf.out m) (λ ι1 S1 M1 H1 x v e1 s1 r1 w1=>?_)];cases q1:am1 with
 | none=>rw[awg]
 | some q =>
  rw[q1] at w1;rw[adC p hd (EZ s1 r1 q1)];refine⟨p,rfl,hd,ι1,S1,M1,ρ,s1,agx,aeK (iw X.K) w1 (λ ι2 S2 M2 H2 y u e2 s2 r2 w2=>?_)⟩;refine⟨ι2,S2,M2,ρ,s2,aBA,aeK (iw X.K) w2 (λ ι3 S3 M3 H3 z t e3 s3 r3 w3=>?_)⟩;cases q2:aHJ with
  | none=>rw[t7 q2 w3 w3.elim]
  | some nk =>
   obtain⟨n,kvs⟩:=nk;cases q3:kQ y with
   | none=>rw[ap4 q2 q3 w3 w3.elim]
   | some k =>
    rw[q2,q3] at w3
    obtain⟨p',cf,ep,ei,eH,hS,rk,_⟩:=nX s3 aHx q2;cases ep;have ek:=nu r2 q3
    subst ek
    rw[adv _ (.k eH) ?_]
    dsimp only at w3;rcases aE6 with⟨z1,z2⟩ | ⟨x',v',z1,z2,rr⟩
    ·rw[z1] at w3;rw[Ω z2 (w3 ι3 S3 H3 _ agi s3 r3)]
    ·rw[z1] at w3
     rw[Ω z2 (w3 ι3 S3 H3 _ agi s3 rr)]⟩
def qM aQi aTY(m:M1 X o "pop" apos e dg:=by exact aGp):aeL (afy aKv [e] [] dg) (rB lQ dk):=⟨by
 rw[am4 (O0 ho.out he.out m) (λ ι1 S1 M1 H1 x v e1 s1 r1 w1=>?_)];cases q1:am1 with
 | none=>rw[awg]
 | some q =>
  rw[q1] at w1;rw[adC p hd (EZ s1 r1 q1)];refine⟨p,rfl,hd,ι1,S1,M1,ρ,s1,agx,aeK (iw X.K) w1 (λ ι2 S2 M2 H2 y u e2 s2 r2 w2=>?_)⟩;cases q2:aHI with
  | none=>rw[t7 q2 w2 w2.elim]
  | some nk =>
   obtain⟨n,kvs⟩:=nk;cases q3:kQ y with
   | none=>rw[ap4 q2 q3 w2 w2.elim]
   | some k =>
    rw[q2,q3] at w2
    obtain⟨p',cf,ep,ei,eH,hS,rk,_⟩:=nX s2 (apz e2) q2;cases ep;have ek:=nu r2 q3
    subst ek
    dsimp only at w2;rcases aE6 with⟨z1,z2⟩ | ⟨x',v',z1,z2,rr⟩
    ·rw[t7 z1 w2 w2.elim]
    ·rw[z1] at w2;rw[asR ⟨cf,k,v',eH,rfl,z2,?_⟩ s4 x4 (Ld s2 ei hS (rk.drop k)) (w2 ι2 S2 _ _ x4 s4 rr)]⟩
def Be aQi aTY(hf:aeL f dx)(m:M2 X o "pop" apos e f dg:=by exact aGp):aeL (afy aKv [e,f] [] dg) (xV lQ dk dx):=⟨by
 rw[am4 (O1 ho.out he.out hf.out m) (λ ι1 S1 M1 H1 x v e1 s1 r1 w1=>?_)];cases q1:am1 with
 | none=>rw[awg]
 | some q =>
  rw[q1] at w1;rw[adC p hd (EZ s1 r1 q1)];refine⟨p,rfl,hd,ι1,S1,M1,ρ,s1,agx,aeK (iw X.K) w1 (λ ι2 S2 M2 H2 y u e2 s2 r2 w2=>?_)⟩;refine⟨ι2,S2,M2,ρ,s2,aBA,aeK (iw X.K) w2 (λ ι3 S3 M3 H3 z t e3 s3 r3 w3=>?_)⟩;cases q2:aHJ with
  | none=>rw[t7 q2 w3 w3.elim]
  | some nk =>
   obtain⟨n,kvs⟩:=nk;cases q3:kQ y with
   | none=>rw[ap4 q2 q3 w3 w3.elim]
   | some k =>
    rw[q2,q3] at w3
    obtain⟨p',cf,ep,ei,eH,hS,rk,_⟩:=nX s3 aHx q2;cases ep;have ek:=nu r2 q3
    subst ek
    dsimp only at w3;refine asi cf k eH (acO v' hv) (g8 hv)
    ·rcases aE6 with⟨z1,z2⟩ | ⟨x',v'',z1,z2,rr⟩
     ·rw[z2] at hv; cases hv
     ·rw[z2] at hv;cases hv;rw[z1] at w3;rw[aeO s4 x4 (Ld s3 ei hS (rk.drop k)) (w3 ι3 S3 _ _ x4 s4 rr)]
    ·rcases aE6 with⟨z1,z2⟩ | ⟨x',v'',z1,z2,rr⟩
     ·rw[t7 z1 w3 (w3 ι3 S3 H3 _ agi s3 r3)]
     ·rw[z2] at hv; cases hv⟩
universe zE
universe L2
universe zE
section
namespace L2
open PySem PySem.Spec PyProof.Rows
def cu.Yc aQK aQl{u:HO}aQv(hp:p∉ι)(hS:aCR):cu K ι S M (atR p):=by
 refine⟨ajk o,s.len,s.nd,aeB n a o h1 h2⟩
 ·rw[acY (bZ q hS) (s.sub b o q)]
 ·have dz:a≠p:=λ z=>hp (asu z h1);exact(avU n a o).up ⟨λ _ _ h=>h,mq.refl S⟩ (acZ z) (aS dz)
def wH:∀(more kvs:ahD),agM (kvs.map (·.1)++more.map (·.1))->rh kvs more=kvs++more
 | [],kvs,_=>f6 rh
 | p::r,kvs,h=>by
  rw[ajS h1 (¬(ae8 (kvs.any (acN kv (agv=p.1))))) (by
   rw[List.any_eq_true];rintro⟨q,hq,e⟩;rw[t7 List.nodup_append h (h.2.2 q.1 (List.mem_map_of_mem hq) p.1 Ξ aOd)]) h2 (rh kvs (p::r)) (rh (axn p.1 p.2) r) rfl];rw[h2,putK,if_neg h1,wH r _ aza];simp
section
variable {X:Cx} {Ex:St->XK} {v:Expr} {d:DE} {pos p kp:Pos} {keys:aFa} {values:acU} {yU:aCh}
noncomputable abbrev dB aPM:Key:=Sum.inr x
abbrev C3(yU:aCh):DE:=awe (fH aMI ρ M).bind (.ok (ο M1.length) (M1++[.bB ((arf q (dB q.1)).zip xs)]))
structure VP aQq(pos:Pos)(keys:aFa)(values:acU)(yU:aCh):Prop where
 out:PPs X pos keys values (arf q (tC (c7 q.1),tG X.K (iw X.K) Ex q.2))
def E0:VP X Ex pos [] [] []:=⟨Ta⟩
def jN{k:Str}{j}(hv:avn v)(hr:VP X Ex pos keys values yU):VP X Ex pos (f7 (aom (c7 k) j kp)::keys) (v::values) ((k,d)::yU):=⟨OW OH hv.out hr.out⟩
def Le aPG aS6:∀(yU:aCh){ι:d8}aTs{Q:ajo (af5 V V)},aeE->apa →
  cA K (RpA K) (Ex σ) ι S H (awY vs (ajQ ((arf q (V.str q.1)).zip vs))) (fH aMI ρ M)->EE (arf q (tC (c7 q.1),tG K (iw K) Ex q.2)) σ H Q
 | [],ι,S,H,M,Q,aW,sl,w=>alR [] abO
 | (k,d)::r,ι,S,H,M,Q,aW,sl,w=>by
  refine⟨ι,S,M,ρ,aW,sl,arU w (λ ι1 S1 M1 H1 x v e1 s1 r1 w1=>?_)⟩;rw[ans (Le r s1 agx (aeK (RpA K) w1 (λ ι2 S2 M2 H2 xs vs e2 s2 r2 w2=>?_))) (w2 ι2 S2 H2 (v::vs) agi s2 (aaP (apz e2) r2))]
def Lf aPB:∀{ks:akP}aPW,afm->dR K ι S (ks.zip xs) (ks.zip vs)
 | [],xs,vs,_=>abO
 | k::ks,[],vs,h=>by rw[bg] at h;rw[aeq h abO]
 | k::ks,x::xs,vs,h=>by
  rw[acM v r h1 h2 h.lg];exact ay5 h1 (Lf h2)
def E1(h:VP X Ex pos keys values yU)(OX:c8 aN1:=by rfl)(hl:aNh:=by rfl)(h0:agU keys:=by exact List.cons_ne_nil _ _)(h15:keys.length≤15:=by exact aLx)(hk:yU.length≤15:=by exact aLx)
  (hn:agM (arf q (dB q.1)):=by rw[aDH]):anO .Dict keys values (C3 yU):=⟨by
 refine PE.imp (Tb h.out OX hl h0 h15) (aiA σ H Q hh a ha);obtain⟨ι,S,M,ρ,aW,sl,w⟩:=hh;obtain⟨s0,x0⟩:=aW.side (o:=.dK []) ha;rw[aip hai (aW.fresh ha) haS (aW.vp ha) (Le yU s0 sl ?_)];rw[agY C3];cases ed:fH aMI ρ M with
 | bad=>rw[anw ed]
 | exc c M2=>rw[t7 ed w (λ ι2 S2 H2 e2 s2=>w ι2 S2 H2 (x0.trans e2) s2)]
 | ok xs M2 =>
  rw[ed] at w;intro ι2 S2 H2 vs e2 s2 r2;obtain⟨f1,f2,f3⟩:=e2.fr a _ bF hai haS
  rw[au6 hlen (∀(yU:aCh)aQY,(arf q (V.str q.1)).zip vs=ag8 ((arf q (dB q.1)).zip vs).map kv (kV agv,kv.2)) (by
   intro yU
   induction yU with
   | nil=>intro vs;rfl
   | cons q r ih =>
    intro vs;cases vs with
    | nil=>rfl
    | cons v vs=>simp only[zC,List.zip_cons_cons,ih vs];rfl) aeP (∀(ks:akP)aQY,(ae4 (ks.zip vs).map).Sublist ks) (by
   intro ks
   induction ks with
   | nil=>intro vs;exact List.Sublist.slnil
   | cons k r ih =>
    intro vs;cases vs with
    | nil=>exact List.nil_sublist _
    | cons v vs=>exact(ih vs).cons₂ k) ⟨f1,(arf q (dB q.1)).zip vs,hlen yU vs,?_,?_⟩]
  ·rw[List.length_zip,zK];omega
  ·have xA:aop ((arf q (dB q.1)).zip vs).map:=hn.sublist (aeP _ _);rw[wH _ _ (aam xA),zH];have s3:cu X.K ι2 S2 M2 (agP H2 a (.dK ((arf q (dB q.1)).zip vs))):=s2.Yc f2 f3;rw[apL e3 (x0.trans e2) O8 (ι.length≤ι2.length) (by have:=e3.pre; rw[← this];rw[afo]) (w (ι2++[a]) S2 _ _ ⟨⟨λ n b hb=>(Up.push (S:=S2) a).ix n b (e3.ix n b hb),e3.sm⟩,?_,aeB b u q1 q2 q3⟩ (s3.enter f2 ⟨f3,_,bF,Lf r2⟩) (aAk a (by rw[← s2.len];simp)))]
   ·rw[aNn O8 e3.pre]
   ·rw[apF k1 k2 k3 (e3.fr b u q1 q2 q3) hb (b≠a) (acZ (by rw[z,ha] at q1; cases q1))]
    rw[aas (by rw[Ω (aS hb) k1]) (afr k2 hb) k3]⟩
universe zE
universe L2
universe zE
section
namespace L2
open PySem PySem.Spec PySem.Calls PyProof.Rows PySem.W Builtin Builtin.ObjectAttr Builtin.Getset_descriptor
structure aaW aSf:Prop where
 ga:amu (Δ C) "__getattribute__" = aNm aea
 gt:amu (Δ C) "__getattr__" = some none
 cl:amu (Δ C) "__class__" = amv aea "object.__class__"
 gn:aLo K (aea "object.__class__") = amv aea "getset_descriptor.__get__"
 tk:au7 (PySem.W.takesIn K (aea "object.__class__"))
 mo:aL2 K C aB0
 mb:aL2 K C aF1
 ci:aql (PySem.W.clsIn K C)
section
variable {K:Fg} {C e:Addr} {prog:Program} {w:World} {A:Around} {E:abE} {s:Shared}
universe zE
universe L2
universe zE
section
namespace L2
open PySem PySem.Spec PyProof.Rows
section
variable {X:Cx} {Ex:St->XK} {a:Expr} {da:DE} {pos:Pos}
structure ah5 aPe(T:Value)(IF:af5 Addr Bool):Prop where
 all:∀C k,b7 (IF.lookup C) k->aaW K C/\b7 (PySem.W.kitOne K (Δ C) T) k
structure ah6 aPe(Ds:d8)(IF:af5 Addr Bool):Prop where
 all:∀C k,b7 (IF.lookup C) k->aaW K C/\b7 (PySem.W.kitAny K (Δ C) (Ds.map Value.ref)) k
universe zE
universe L2
universe zE
end
mutual
section
namespace L2
open PySem PySem.Spec PyProof.Rows
section
variable {X:Cx} {Ex:St->XK}
abbrev G2(cs:d8)(iy iN:Nat)(s1:DS):DS:=λ ρ M=>match azy with
 | L6 c ρ' M'=>apZ (c8 (cs.contains c)) .nx ((ρ'.set iy (ahq M'.length)).set iN none) (M'++[L6 c])
 | o=>o
def Slots.unset aPB aS6(s:apa)aPs:Slots K ι S (ρ.set i none) (σ.set i none):=by
 rw[aej (f6 s.1) (IL j x h)];rw[aih i j]
 ·rw[alL e List.getElem?_set_self' h];cases q:ρ[i]? with
  | none=>rw[ajR q]; cases h
  | some z=>rw[ajR q]; cases h
 ·rw[akU aD0 h (s.2 j x h)]
structure Catch aTf aPM(Cb:Addr)(cs:d8):Prop where
 name:mg x=alO Cb
 all:∀c∈cs,au7 (PySem.W.exmOne K (Δ c) (Δ Cb))
def Ye{x n y:Str}{Cb:Addr}{cs:d8}(iy iN:Nat)aVW{s1:DS}aSn(hC:Catch X.K X.mg x Cb cs)
  (hb:∀(pn:KB)(Et:abE)aR5,Good0 aHj Ex->II aHj Ex body s1)
  (Gz:aGi:=by rfl)(Tv:aMC:=by rfl)(hx:aml:=by rfl)(hy:acL X.N iy y:=by rfl)(ly:axF y := by rfl)(hn:acL X.N iN n:=by rfl)(ln:axF n := by rfl)
  aVK :
  aqN (.Try body [aME (ac1 ac6 x np) aB8 [aoy [ac6 y py] (ac6 n ZA) apos] ME] [] [] pos) (G2 cs iy iN s1):=⟨by
 refine PS.imp (XZ (P:=X.prog) (w:=X.w) (tb:=λ Ex=>tS X.K Ex s1) rfl rfl Gz Tv G.calm G.nd hx hC.name hy ly hn ln (λ pn Et Ex' hp=>(hb pn Et Ex' ⟨G.hu,G.calm,hp,G.nd⟩).out) Pr hdx hdn) (acI D σ H h);obtain⟨ι,S,M,ρ,aW,sl,w⟩:=h;refine⟨ι,S,M,ρ,aW,sl,?_⟩;rw[agY G2];cases e:azy with
 | exc c ρ' M' =>
  rw[amt e w w];split at w
  ·rw[atb];intro ι1 S1 H1 σ1 e1 s1' Yg;refine ahh c (hC.all c (aam hc)) (acO a ha);obtain⟨s2,x2⟩:=s1'.new (u:=MD a c) (o:=L6 c) ha ⟨s1'.vp ha,bF⟩;refine w _ _ _ _ (e1.trans x2) s2 (Slots.unset (Slots.set (Yg.mono x2) (aAk a (by rw[← s1'.len];simp)) iy) iN)
  ·rw[abR]
 | nx ρ' M'=>rw[t7 e w w]
 | rt y M'=>rw[t7 e w w]
 | bk ρ' M'=>rw[t7 e w w]
 | ct ρ' M'=>rw[t7 e w w]
 | bad=>rw[t7 e w w]⟩
universe zE
universe L2
universe zE
section
namespace L2
open PySem PySem.Spec PyProof.Rows
abbrev less(S:Hp)aP3:Hp:=att b b a none (S b)
def pT{S:Hp}{a b:Addr}(h:b≠a):less S a b=S b:=apP
def D6{S:Hp}aPz:aaz (less S a a):=afC
def Qa{S:Hp}{a b:Addr}{u:HO}(h:less S a b=aaZ):S b=aaZ:=by
 rw[ak9 less];split at h
 ·cases h
 ·exact h
section
variable {K:Fg} {ι:d8} {S:Hp} {a:Addr} {ob:Obj} {cf:ahD}
def qB.less aQl aQu aSC(q:qB K S p vs):qB K (less S a) p vs:=by
 rcases q with(q | ⟨o,q⟩) | q
 ·rw[akc dz (p≠a) (acZ (by rw[z,ha] at q; cases q)) (b5 (b5 (by rw[Ω (pT dz) q])))]
 ·rw[akc dz (p≠a) (acZ (by rw[z,ha] at q; cases q)) (b5 (alx o (by rw[Ω (pT dz) q])))]
 ·exact c6 q
mutual
theorem bj.less aSC:∀aTp,ae7->bj K ι (less S a) x v
 | .bb,v,h=>aoZ
 | .bl b,v,h=>aoZ
 | η i,v,h=>aoZ
 | c7 x,v,h=>aoZ
 | ς xs,v,h=>by
  rw[bj] at h ⊢
  rw[aot p e q r h]
  have dz:p≠a:=λ z=>by rw[z,ha] at q; cases q
  exact alz p e (by rw[Ω (pT dz) q]) (bg.less ha xs vs r)
 | sT xs,v,h=>by
  rw[bj] at h ⊢
  rw[aot p e q r h]
  have dz:p≠a:=λ z=>by rw[z,ha] at q; cases q
  exact alz p e (by rw[Ω (pT dz) q]) (bg.less ha xs vs r)
 | ο n,v,h=>by
  rw[akU bj h h]
 | .pR ns,v,h=>by
  rw[bj] at h ⊢;rw[ahd p e q h p e (q.less ha)]
theorem bg.less aSC:∀aQm aQY,afm->bg K ι (less S a) xs vs
 | [],vs,h=>aw4 bg h
 | x::xs,vs,h=>by
  rw[bg] at h ⊢;rw[ae3 v r e h1 h2 h ⟨v,r,e,bj.less ha x v h1,bg.less ha xs r h2⟩]
end
def dR.less aQg{kvs:ald}{kvv:agC}aSC(h:dR K ι S kvs kvv):dR K ι (less S a) kvs kvv:=by
 induction h with
 | nil=>rw[al3]
 | cons r t ih=>exact aaP ⟨r.1,bj.less ha _ _ r.2⟩ ih
def rj.xW aPy{b:Addr}aQj aSC(hb:b≠a)(h:rj K ι S H b o):rj K ι (aKf a) (ajB a .dK cf) b o:=by
 rw[anu hn (aaz (S b)->aaz (L2.less S a b)) z (by rw[Ω (pT hb) z]) hu (upd H a (.dK cf) b=H b) ao4];cases o with
 | gone=>rw[af8 u q h u axD]
 | lst xs=>rw[af7 z vs q r h ⟨hn z,vs,axD,bg.less ha _ _ r⟩]
 | bB xs=>rw[af7 z vs q r h ⟨hn z,vs,axD,aKg⟩]
 | MF xs=>rw[af7 z vs q r h ⟨hn z,vs,axD,aKg⟩]
 | jd xs=>rw[ae3 ob' vs z q r h (alz ob' (by rw[Ω (pT hb) z]) axD aKg)]
 | ins C fs=>rw[ae3 z dx vs q r h ⟨hn z,dx,vs,axD,aKg⟩]
 | exc C=>rw[af8 z q h (hn z) axD]
def cu.xW aPc aPy aQF aQv(hi:al8)(hM:aiZ .jd) :
  ∃ob cf,S a=aha/\H a=aha/\cu K ι (aKf a) (aoU .bB) (ajB a .dK cf):=by
 obtain⟨ob,cf,hS,hH,r⟩:=s.ob n a _ hi hM
 refine⟨ob,cf,hS,hH,ajk u,aEQ,s.nd,aeB m b o h1 h2⟩
 ·have hb:b≠a:=acZ (by rw[z,D6] at q; cases q)
  rw[Ω (aS hb) (s.sub b u (Qa q))]
 ·by_cases hm:n=m
  ·rw[alL hm hi h1];cases h1;have hl:aow n:=aLm.1;rw[aqT hl h2];cases h2;exact⟨D6,cf,bF,r.less hS⟩
  ·rw[aqV hm h2];have dz:b≠a:=λ z=>hm (s.inj hi (z ▸ h1));exact(avU m b o).xW hS dz
def Slots.less aS6 aSC(s:apa):Slots K ι (aKf a) ρ σ:=⟨s.1,agG i x (by
 rw[ahd v h1 h2 (s.2 i x h) v h1 (bj.less ha _ _ h2)])⟩
def Ext.xW{ι0:d8}{S0 H0 H:Hp}aPa(e:Ext ι0 S0 H0 ι S H)(hi:acL ι0 n a)(h0:aaz (S0 a)):Ext ι0 S0 H0 ι (aKf a) (ajB a .dK cf):=by
 rw[adv ⟨e.ix,ajk u⟩ e.pre (aeB b u q1 q2 q3)]
 ·rw[Ω (pT (bZ q h0)) (e.sm b u q)]
 ·rw[apF k1 k2 k3 (e.fr b u q1 q2 q3) hb (b≠a) (acZ (q2 (asu z hi)))];rw[aas (by rw[Ω (aS hb) k1]) k2 (by rw[Ω (pT hb) k3])]
def cu.Bf aPc aPy aQF aQv(hi:al8)(hM:aiZ .bB)(ob:Obj) :
  ∃cf,aqw/\H a=av9 .dK/\alu/\cu K ι (azC S .ku (.dK cf)) (aoU .jd) (upd H a (.ku ob (.dK cf)))/\Ext ι S H ι (azC S .ku (.dK cf)) (upd H a (.ku ob (.dK cf))):=by
 obtain⟨hS,cf,hH,r⟩:=s.ob n a _ hi hM
 rw[au6 sm (mq S (azC S .ku (.dK cf))) (agT u q (by rw[acY (bZ q hS) q])) up (Up ι S ι (azC S .ku (.dK cf))) ⟨λ _ _ h=>h,sm⟩ ⟨cf,hS,hH,r,⟨ajk u,aEQ,s.nd,aeB m b o h1 h2⟩,up,List.take_length,aeB b u q1 q2 q3⟩]
 ·rw[alT (b=a)]
  ·subst hb;rw[akU bF q q]
  ·rw[akU ao4 q (s.sub b u q)]
 ·by_cases hm:n=m
  ·rw[alL hm hi h1];cases h1;have hl:aow n:=aLm.1;rw[aqT hl h2];cases h2;exact⟨ob,cf,bF,bF,r.up up⟩
  ·rw[aqV hm h2];have dz:b≠a:=λ z=>hm (s.inj hi (z ▸ h1));exact(avU m b o).up up (acZ (by rw[aoI z])) (aS dz)
 ·rw[avc dz (b≠a) (acZ (q2 (asu z hi))) (by rw[aoI q1]) q2 (by rw[aoI q3])]
universe zE
section
variable {X:Cx} {pins:KB} {σ:St} {H:Hp} {s:Shared} {a:Addr} {ob:Obj} {u:HO}
def Inv.xW aPb(h:H a=ac1 .ku ob u)(hm:∀o v,X.H₀ a≠ac1 .ku o v):afn (atR a) s:=by
 rw[ah8 dz (∀b,ahn->b≠a) (agT q z (by rw[z,h] at q; cases q)) ⟨I.ok,I.os,I.bare,⟨I.base.keep,I.base.slot,aeB b o q n hx,I.base.there,ajk xs,am0 v q,ajk ps⟩,I.loc,I.cell,?_,IL x c q,ar6,ajk o,I.len⟩]
 ·have:=I.base.free b o q n hx;rw[acY (dz b this) this]
 ·have:=aI5 b q
  have hb:b≠a:=acZ (by rw[z,h] at this; cases this)
  rw[Ω (aS hb) this]
 ·have hb:b≠a:=acZ (by rw[t7 z q (hm o v q)])
  rw[Ω (aS hb) (aEz b v q)]
 ·rw[apB m e (I.base.pM b ps q) hb (b≠a) (acZ (by rw[z,h] at e; cases e))]
  rw[aaX m (by rw[Ω (aS hb) e])]
 ·rw[acY (dz _ I.free) I.free]
 ·rw[acY (dz _ (I.nN x c q)) (I.nN x c q)]
 ·rw[ahd e n r ayG e (by rw[acY (dz _ n) n]) r]
 ·rw[d6 ho (∀c x,H c=aub->upd H a u c=aub) (λ c x z=>by rw[acY (λ y=>by rw[y,h] at z; cases z) z]) ht (∀c xs,H c=al0->upd H a u c=al0) (λ c xs z=>by rw[acY (λ y=>by rw[y,h] at z; cases z) z])]
  rw[alT (b=a)]
  ·rw[azs];cases q;exact(show b7 afB ob/\iV X.prog X.w H s.heap b u from atu _ h).2.vZ (λ _ _ _ z=>z) (λ c z=>ho c _ z) ht
  ·rw[ao4] at q;exact(atu o q).vZ (λ _ _ _ z=>z) (λ c z=>ho c _ z) ht
def Inv.Bf{o:Obj}aPb(h:H a=aaZ)(ho:s.heap.get? a=t9)(h1:∀xs,u≠sT xs)(h2:∀x,u≠.own x)(h3:∀ps,u≠.IF ps)(h4:∀o' v,u≠.ku o' v):afn (upd H a (.ku o u)) s:=by
 rw[au6 dz (∀b,ahn->b≠a) (agT q z (by rw[z,h] at q; cases q)) ne2 (∀{b v},H b=afw->v≠u->b≠a) (λ{b v} q n z=>by rw[z,h] at q; cases q; exact n rfl) ⟨I.ok,I.os,I.bare,⟨I.base.keep,I.base.slot,aeB b o q n hx,I.base.there,ajk xs,am0 v q,ajk ps⟩,I.loc,I.cell,?_,IL x c q,ar6,ajk o',I.len⟩]
 ·have:=I.base.free b o q n hx;rw[acY (dz b this) this]
 ·have:=aI5 b q;rw[acY (ne2 this (acZ (h1 xs z.symm))) this]
 ·have:=aEz b v q;rw[acY (ne2 this (acZ (h4 o v z.symm))) this]
 ·rw[af8 m e (I.base.pM b ps q) m (by rw[acY (ne2 e (acZ (h3 _ z.symm))) e])]
 ·rw[acY (dz _ I.free) I.free]
 ·rw[acY (dz _ (I.nN x c q)) (I.nN x c q)]
 ·rw[ahd e n r ayG e (by rw[acY (dz _ n) n]) r]
 ·rw[d6 KC (∀c x,H c=aub->upd H a (.ku o u) c=aub) (λ c x z=>by rw[acY (ne2 z (λ y=>h2 x y.symm)) z]) ht (∀c xs,H c=al0->upd H a (.ku o u) c=al0) (λ c xs z=>by rw[acY (ne2 z (λ y=>h1 xs y.symm)) z])]
  rw[alT (b=a)]
  ·rw[azs];cases q;rw[aaX ho ((atu _ h).vZ (λ _ _ _ z=>z) (λ c z=>KC c _ z) ht)]
  ·rw[ao4] at q;exact(atu o' q).vZ (λ _ _ _ z=>z) (λ c z=>KC c _ z) ht
universe zE
universe L2
universe zE
section
namespace L2
open PySem PySem.Spec PyProof.Rows
abbrev Itk aP3(ob:Obj):It :=
 ⟨λ i H=>∃cf k v,H a=aha/\avK (k,v),λ i H x H'=>H'=H/\∀cf k v,H a=aha->avK (k,v)->x=akM,λ i H=>∃cf,H a=aha/\cf.length≤i⟩
def KV.get{cf:ahD}{vs:aAT}(h:KV cf vs)aPt aQX aPP(e:avK (k,v)):∃u,ah0 vs (k,u)/\aji:=by
 induction h generalizing i with
 | nil=>simp at e
 | cons r t ih =>
  rename_i p q xs ys;cases i with
  | zero =>
   simp only[zA,Option.some.injEq] at e;subst e;obtain⟨q1,q2⟩:=q;rw[ahJ rfl r2 r (ad5 q2 r2)]
  | succ i =>
   simp only[zB] at e ⊢;exact ih e
def KV.len{cf:ahD}{vs:aAT}(h:KV cf vs):cf.length=vs.length:=aOI
def xX aQp aPy aQk aPz{ob:Obj}{cf:ahD}aS2 aRr(e:H a=aha)aTA :
  arZ/\∃vs,KV cf vs/\h.DictAt (cL P w) a vs ep/\aJZ:=by
 obtain⟨h1,_,hs,vs,kv,o,es',ep',ho,hx,hd,hr⟩:=(show aof a ob/\iV P w H h a (.dK cf) from ok a _ e)
 rw[h1] at ho;cases ho;rw[Qb] at hd;cases hd;refine alz hs kv ⟨ob,es,h1,hx,Qb,hr⟩ ?_;have:=ahK hr.2.1
 simpa using this.symm
def MU aQQ aSY{ob:Obj}aS2 aTA:azY (Itk a ob) (aqO (h.IsKeyIter it a i es.size ep)) where
 mem:=Ξ
 obj:=λ i h st b hb=>by
  have e:b=it:=ah7
  subst e
  rw[af7 o e c d st ⟨o,e,λ v z=>by rw[d] at z; cases z⟩]
 keep:=λ i h h' st k=>by
  rw[ahd o e r st o (atI o e) r]
 item:=by
  intro X hP hw hK hc i pins s σ H E I hf st hg;subst hP hw hK
  obtain⟨cf,k,v,eH,hx⟩:=hg
  rw[aot hs kv da hl (xX I.cQ eH Qb)];obtain⟨u,hu,ru⟩:=kv.get hx
  obtain⟨f0,f1,f2,f3,f4,f5⟩:=hf it Ξ;rw[← hl] at st
  rw[aiQ (wpAny_pyNext_dict_item st da hu (aeB key h' hk Dz sb)) I1 (afn H (alc s)) (I.turned (t':=s.toks) (λ b o hb e=>x6 (sb.2 b hb) e) f0 f1 f3 f4 f5)];obtain⟨o,e,c,d⟩:=id Dz
  rw[akv rk (RelV akM key) (by
   rcases fh (show aBi k key from hk) with⟨i,t,rfl,rfl⟩ | ⟨x,t,rfl,rfl⟩<;>exact azb) hl Dz]
  exact ad5 key (Dy (s:=alc s) e c d d7 ⟨akM,H,I1,rk,aju (λ Qc k' v' e1 e2=>by rw[eH] at e1; cases e1; rw[hx] at e2; cases e2; rfl),Dz,ayR⟩)
 done:=by
  intro X hP hw hK hc i pins s σ H E I hf st hg;subst hP hw hK;obtain⟨cf,eH,hx⟩:=hg;rw[aot hs kv da hl (xX I.cQ eH Qb)];obtain⟨f0,f1,f2,f3,f4,f5⟩:=hf it Ξ;rw[← hl] at st;exact wpAny_pyNext_dict_end (I.ok.hd hc) st da (an4 (by rw[abd kv.len hx])) azP
 self:=λ _ _ _ _ _ st h=>wpAny_pyIter_keyiter st h
section
variable {X:Cx} {Ex:St->XK} {tg l iter e:Expr} {tl:TE} {d:DE} {st:Stmt} {s:DS} {di:DI}
abbrev Yh(tl:TE):TI:=λ σ H R=>tl σ H (ado x (∃a cf,x=Δ a/\H1 a=av9 .dK/\∀ob,R (Itk a ob) (azC H1 .ku (.dK cf))))
def TY(hl:aeM l tl):PI X tg l (Yh tl):=by
 rw[ajK R (ap2 (hl pins s σ H _ I h) v x)];rw[anJ a cf eH q1];cases r1;obtain⟨hz,hs,vs,kv,o,es,ep,ho,hx,hd,hr⟩:=wd I1.cQ eH;rw[acH da (s1.heap.DictAt aks a vs ep) ⟨o,es,ho,hx,hd,hr⟩ (wpAny_pyIter_dict hs da ?_)];rw[d6 dz (a≠s1.heap.objs.size) (aD8 ho) I2 (asU H1 s1 (aD7 (ad6 "dict_keyiterator") (ahe #[Δ a,η 0 0,η vs.length 0,η ep 0]))) (I1.kept (t':=s1.toks) λ b o e=>agH e)];rw[aeC I3 (I2.Bf (o:=o) eH aCd (λ _ z=>nomatch z) (λ _ z=>nomatch z) (λ _ z=>nomatch z) (λ _ _ z=>nomatch z)) hl aJZ (by have:=ahK hr.2.1;simpa using this.symm)]
 refine⟨s1.heap.objs.size,aIl,_,_,_,rfl,I3,MU a _ hd,amK _ (aDI _) (by rw[acR hl]),ajj,q o⟩
 have e:b=s1.heap.objs.size:=ah7
 rw[aeq e (I1.Ez acT (by rw[acY aAH avv]))]
abbrev vx:Key->PV
 | b5 i=>η i
 | c6 x=>c7 x
def Bg aPB(k:Key):akW (vx k) akM:=by
 cases k with
 | inl i=>exact apt
 | inr x=>exact bj.ux.mpr rfl
abbrev oY aPJ:DI:=ahk (aaQ).bind (match am1 with
 | atm=>.ok (apC q (vx q.1),arJ .jd) (M1.set n (.jd kvs))
 | none=>d5)
def dR.get aPB aTn{cf:ahD}(h:alu)aPt aQX aPw(e:ah0 kvs (k,x)):∃v,avK (k,v)/\ae7:=by
 induction h generalizing i with
 | nil=>simp at e
 | cons r t ih =>
  rename_i p q xs ys;cases i with
  | zero =>
   simp only[zA,Option.some.injEq] at e;subst e;obtain⟨q1,q2⟩:=q;rw[ahJ rfl r2 r (ad5 q2 r2)]
  | succ i =>
   simp only[zB] at e ⊢;exact ih e
def Az(h:aLb):VI X Ex tg iter (oY d):=⟨by
 refine PI.imp (TY h.out) (acI σ H R hh);obtain⟨ι,S,M,ρ,aW,sl,w⟩:=hh;refine⟨ι,S,M,ρ,aW,sl,aeK (iw X.K) w (λ ι1 S1 M1 H1 x v e1 s1 r1 w1=>?_)⟩;cases q1:am1 with
 | none=>rw[awg]
 | some nk =>
  obtain⟨n,kvs⟩:=nk
  rw[q1] at w1;obtain⟨a,cf,rfl,ei,eH,hS,rk,rfl⟩:=nX s1 r1 q1;refine ad8 a cf eH (g8 ob)
  have eM:M1[n]? = abq .bB kvs:=by
   rw[aHR u7 q1 q1];split at q1
   ·rename_i z; cases q1; exact z
   ·cases q1
  obtain⟨Qc,hS',V4,rk',s2,x2⟩:=s1.Bf ei eM ob;rw[eH] at V4;cases V4;rw[anl (w1 ι1 _ _ _ x2 s2 λ i ι' S' M' H' up oV _=>?_) eS (S' a=aha) (up.sm a _ bF) GX (H' a=aha) (oV.sub a _ eS)];rw[aej (acO y hy) (λ hl=>⟨cf,GX,by rw[← rk.length];simpa using hl⟩)]
  rw[zJ] at hy
  obtain⟨⟨k,z⟩,hk,rfl⟩:=Option.map_eq_some_iff.mp hy;obtain⟨v,hv,_⟩:=rk.get hk;rw[aej ⟨cf,k,v,GX,hv⟩ (IL u H2 yl)];rw[au1 yl yl]
  rw[ae2 (yl cf k v GX hv) ⟨ι',S',agi,oV,Bg k⟩]⟩
universe zE
abbrev aaY aPC(D:Ends):Ends where
 nx:=awY σ' (∃a ob u,H' a=ac1 .ku ob u/\(∀o v,H a≠ac1 .ku o v)/\D.nx σ' (upd H' a u))
 rt:=awY v (∃a ob u,H' a=ac1 .ku ob u/\(∀o v,H a≠ac1 .ku o v)/\D.rt v (upd H' a u))
def Jq aSg aPz aPb(h:∀o v,H a≠ac1 .ku o v):∀o v,X.H₀ a≠ac1 .ku o v:=λ o v z=>h o v (aEz a v z)
def TZ aPE aQ5{t:TS}(h:awr t):awr (anW (t (aaY H D) σ H)):=by
 intro pins s σ H D I q;refine auh (h pins s σ H _ I q) (IL f s1 z) y y;cases f with
 | next =>
  obtain⟨σ',H',I',a,ob,u,e,nf,z⟩:=z;exact⟨σ',_,I'.xW e (Jq I nf),z⟩
 | brk=>rw[aIj z z z.elim]
 | cont=>rw[aIj z z z.elim]
 | ret v =>
  obtain⟨v',σ',H',I',r,a,ob,u,e,nf,z⟩:=z;exact⟨v',σ',_,I'.xW e (Jq I nf),r,z⟩
def T6 aPE aQ9{t:TE}(h:avp t):avp (age (t σ H (awY v (∃a ob u,H' a=ac1 .ku ob u/\(∀o v,H a≠ac1 .ku o v)/\Q v (upd H' a u))))):=by
 intro pins s σ H Q I q;refine auh (h pins s σ H _ I q) (IL f s1 z) y y;obtain⟨v,H',I',r,a,ob,u,e,nf,z⟩:=z;exact⟨v,_,I'.xW e (Jq I nf),r,z⟩
abbrev V5(di:DI)aR7:as7 (Nat×afx):=match apd with
 | .ok r _=>match r.2 with
  | arJ .jd=>match M[n]? with
   | abq .bB _=>atm
   | _=>none
  | _=>none
 | _=>none
open Classical in
noncomputable def G3 aPf aTm:Out->Out
 | .nx ρ M=>apZ (aiZ .jd) .nx ρ (aoU .bB)
 | .rt x M=>apZ (aiZ .jd) .rt x (aoU .bB)
 | _=>d5
open Classical in
noncomputable def Qd aPf aTm:afV->afV
 | .ok x M=>apZ (aiZ .jd) .ok x (aoU .bB)
 | _=>d5
abbrev sL(di:DI)(s:DS):DS:=λ ρ M=>match aDq with
 | atm=>G3 n kvs (s ρ M)
 | none=>d5
abbrev tM(di:DI)aPJ:DE:=λ ρ M=>match aDq with
 | atm=>Qd n kvs aaQ
 | none=>d5
def Lg{di:DI}aPX aQF(h:b7 aDq (n,kvs)):∃aeR,M[n]? = abq .bB aeR:=by
 rw[ak9 V5];split at h
 ·split at h
  ·split at h
   ·rename_i q; cases h; rw[afi q]
   ·cases h
  ·cases h
 ·cases h
def uz aPE aRF aQ5{s:DS}{di:DI}(h:VS X Ex st s):VS X Ex st (sL di s):=⟨by
 refine PS.imp (TZ h.out) (acI D σ H q);obtain⟨ι,S,M,ρ,aW,sl,w⟩:=q;refine⟨ι,S,M,ρ,aW,sl,?_⟩;rw[agY sL];cases ez:aDq with
 | none=>rw[anw ez]
 | some nk =>
  obtain⟨n,kvs⟩:=nk
  rw[amt ez w w]
  obtain⟨aeS,e0⟩:=Lg ez;obtain⟨a,hi,hS0,aeT,hH0,_⟩:=aW.at e0
  have nf:∀o v,H a≠ac1 .ku o v:=λ o v z=>by rw[hH0] at z; cases z
  cases es:s ρ M with
  | nx ρ' M' =>
   rw[es] at w
   rw[au2 G3];split at w
   ·rename_i hM;intro ι' S' H' σ' ex oV Sf;rw[ae3 ob cf eS eH s2 (oV.xW (ex.ix n a hi) hM) ⟨a,ob,_,eH,nf,w ι' _ _ σ' (ex.xW hi hS0) s2 (Sf.less eS)⟩]
   ·rw[abR]
  | rt x M' =>
   rw[es] at w
   rw[au2 G3];split at w
   ·rename_i hM;intro ι' S' H' v ex oV r';rw[ae3 ob cf eS eH s2 (oV.xW (ex.ix n a hi) hM) ⟨a,ob,_,eH,nf,w ι' _ _ v (ex.xW hi hS0) s2 (bj.less eS _ _ r')⟩]
   ·rw[abR]
  | bk ρ' M'=>rw[ayF]
  | ct ρ' M'=>rw[ayF]
  | exc c ρ' M'=>rw[ayF]
  | bad=>rw[ayF]⟩
def Lh aPE aRF aQ9 aPo{di:DI}(h:aqz):aeL e (tM di d):=⟨by
 refine PE.imp (T6 h.out) (acI σ H Q q);obtain⟨ι,S,M,ρ,aW,sl,w⟩:=q;refine⟨ι,S,M,ρ,aW,sl,?_⟩;rw[agY tM];cases ez:aDq with
 | none=>rw[anw ez]
 | some nk =>
  obtain⟨n,kvs⟩:=nk
  rw[amt ez w w]
  obtain⟨aeS,e0⟩:=Lg ez;obtain⟨a,hi,hS0,aeT,hH0,_⟩:=aW.at e0
  have nf:∀o v,H a≠ac1 .ku o v:=λ o v z=>by rw[hH0] at z; cases z
  cases es:aaQ with
  | ok x M' =>
   rw[es] at w
   rw[au2 Qd];split at w
   ·rename_i hM;intro ι' S' H' v ex oV r';rw[ae3 ob cf eS eH s2 (oV.xW (ex.ix n a hi) hM) ⟨a,ob,_,eH,nf,w ι' _ _ v (ex.xW hi hS0) s2 (bj.less eS _ _ r')⟩]
   ·rw[abR]
  | exc c M'=>rw[ayF]
  | bad=>rw[ayF]⟩
universe L2
universe zE
end
mutual
section
namespace L2
open PySem PySem.Spec PyProof.Rows
def uS:entryFor table "dict_itemiterator.__iter__" = some Builtin.«dict_keyiterator.__iter__» :=
 entryFor_alias (id' := "dict_keyiterator.__iter__") (by kernel_rfl) rfl adz (by kernel_rfl)
def tf aUJ aQA{E:abE}aPK{it d:Addr}{i n ep:Nat}{ok ov:Value}aPN(Aq:IsItemIter s.heap it d i n ep ok ov)(h:Q (Δ it) s):ase (pyIter (Δ it)):=by
 have hT:s.TypeIs (Δ it) "dict_itemiterator" := amT Aq;refine wpAny_pyIter_slot hT PySem.F.slot_dict_itemiterator_iter (wpAny_call_entry PySem.F.slot_dict_itemiterator_iter hT uS ?_ (PySem.F.args_dict_itemiterator_iter_1 _));show afe _ _ (ret (Δ it)) _ _;rw[aEt ⟨_,rfl,"dict_itemiterator",_,hT,PySem.F.slot_dict_itemiterator_next.lookup,h⟩]
abbrev Iti aP3(ob:Obj):It :=
 ⟨λ i H=>∃cf k v,H a=aha/\avK (k,v),λ i H x H'=>∃p,alq/\x=Δ p/\∀cf k v,H a=aha->avK (k,v)->H'=aBy p [akM,v],λ i H=>∃cf,H a=aha/\cf.length≤i⟩
abbrev Itv aP3(ob:Obj):It :=
 ⟨λ i H=>∃cf k v,H a=aha/\avK (k,v),λ i H x H'=>H'=H/\∀cf k v,H a=aha->avK (k,v)->x=v,λ i H=>∃cf,H a=aha/\cf.length≤i⟩
def Jr aQQ{elts:acU}{x1}{CW:Pos}(a it:Addr){ob:Obj}aS2 aTA :
  Turn P w K (ats elts x1 CW) (Iti a ob) [it] it (aqO (∃ok ov,IsItemIter h it a i es.size ep ok ov)) where
 mem:=Ξ
 obj:=λ i h ⟨ok,ov,st⟩ b hb=>by
  have e:b=it:=ah7
  subst e
  rw[aas _ st (λ v z=>by cases z)]
 keep:=λ i h h' ⟨ok,ov,st⟩ k=>⟨ok,ov,atI _ st⟩
 item:=by
  intro X hP hw hK hc i pins s σ H E I hf st hg;subst hP hw hK
  obtain⟨ok,ov,st⟩:=st;obtain⟨cf,k,v,eH,hx⟩:=hg
  rw[aot hs kv da hl (xX I.cQ eH Qb)];obtain⟨u,hu,ru⟩:=kv.get hx;rw[← hl] at st;rw[acH Sn (axh it) (Heap.lt_size st) (wpAny_pyNext_items_item st da hu λ key h1 hk he1 ht1 Ot k1=>arS (wpAny_letOwnedTupleGo_items he1 (IL h2 ZE sb2)))];rw[d6 Jo (aMv it h1) sb2 ht2 (b7 aNF (ajt arw (aif #[key,u]))) (x6 (Jo.2 _ aOK) ht1)]
  rw[d6 rk (RelV akM key) (by
   rcases fh (show aBi k key from hk) with⟨i,t,rfl,rfl⟩ | ⟨x,t,rfl,rfl⟩<;>exact azb) I1 (asU (upd H s.heap.objs.size (sT [akM,v])) s h2) (by
   refine I.K6 (t':=s.toks) (fp:=[it]) hf (am0 hb q) ajj ?_
   ·have n1:b≠it:=λ z=>hb (f6 z);exact x6 (Jo.2 b n1) (k1 b o n1 q)
   ·have eb:b=it:=ah7
    subst eb;rw[afi ZE]
   ·exact⟨by show af6 2;rw[sizeLine_eq];decide,[key,u],aaP rk (aaP ru abO),ad8 _ ht2 _ rfl⟩)]
  rw[aev hp (amx (Nat.le_refl s.heap.objs.size)) hl ZE];refine⟨ajA,_,I1,rfl,amK s.heap.objs.size hp (λ Qc k' v' e1 e2=>by rw[eH] at e1; cases e1; rw[hx] at e2; cases e2; rfl),⟨key,u,ZE⟩,ajj⟩
  have eb:b=it:=ah7
  subst eb;rw[ae2 (aS aOJ) (hf b hb).1]
 done:=by
  intro X hP hw hK hc i pins s σ H E I hf st hg;subst hP hw hK;obtain⟨ok,ov,st⟩:=st;obtain⟨cf,eH,hx⟩:=hg;rw[aot hs kv da hl (xX I.cQ eH Qb)];rw[← hl] at st;exact wpAny_pyNext_items_end (I.ok.hd hc) st da (an4 (by rw[abd kv.len hx])) λ h' eb=>aju (I.K8 (t':=s.toks) (fp:=[it]) hf λ b o hb q=>eb b o (acZ (hb (f6 z))) q)
 self:=λ _ _ _ _ _ ⟨ok,ov,st⟩ h=>tf st h
def MV aQQ aSY{ob:Obj}aS2 aTA:azY (Itv a ob) (aqO (h.IsValIter it a i es.size ep)) where
 mem:=Ξ
 obj:=λ i h st b hb=>by
  have e:b=it:=ah7
  subst e
  rw[af7 o e c d st ⟨o,e,λ v z=>by rw[d] at z; cases z⟩]
 keep:=λ i h h' st k=>by
  rw[ahd o e r st o (atI o e) r]
 item:=by
  intro X hP hw hK hc i pins s σ H E I hf st hg;subst hP hw hK;obtain⟨cf,k,v,eH,hx⟩:=hg;rw[aot hs kv da hl (xX I.cQ eH Qb)];obtain⟨u,hu,ru⟩:=kv.get hx;obtain⟨f0,f1,f2,f3,f4,f5⟩:=hf it Ξ;rw[← hl] at st;rw[aiQ (wpAny_pyNext_values_item st da hu aHs) I1 (afn H (alc s)) (I.turned (t':=s.toks) (λ b o hb e=>x6 (sb.2 b hb) e) f0 f1 f3 f4 f5)];obtain⟨o,e,c,d⟩:=id Dz;rw[hl] at Dz;exact ad5 u (Dy (s:=alc s) e c d d7 ⟨v,H,I1,ru,aju (λ Qc k' v' e1 e2=>by rw[eH] at e1; cases e1; rw[hx] at e2; cases e2; rfl),Dz,ayR⟩)
 done:=by
  intro X hP hw hK hc i pins s σ H E I hf st hg;subst hP hw hK;obtain⟨cf,eH,hx⟩:=hg;rw[aot hs kv da hl (xX I.cQ eH Qb)];obtain⟨f0,f1,f2,f3,f4,f5⟩:=hf it Ξ;rw[← hl] at st;exact wpAny_pyNext_values_end (I.ok.hd hc) st da (an4 (by rw[abd kv.len hx])) azP
 self:=λ _ _ _ _ _ st h=>wpAny_pyIter_valiter st h
section
variable {X:Cx} {Ex:St->XK} {tg o:Expr} {to:TE} {d:DE} {apos dg CW:Pos} {elts:acU} {x1:Nat}
abbrev Li(J:Addr->Obj->It)(tl:TE):TI:=λ σ H R=>tl σ H (ado x (∃a cf,x=Δ a/\H1 a=av9 .dK/\∀ob,R (J a ob) (azC H1 .ku (.dK cf))))
def Qe(ho:aCt)aVV:PI X (ats elts x1 CW) (afy (aio o "items" apos) [] [] dg) (Li Iti to):=by
 intro pins s σ H R I h
 refine aLs oQ (auj v ⟨x,H1,I1,r1,a,cf,ex,eH,q⟩)
 subst ex;cases r1;obtain⟨hz,hs,vs,kv,o,es,ep,ho,hx,hd,hr⟩:=wd I1.cQ eH;have dd:s1.heap.DictOf aks a vs:=⟨o,es,ep,ho,hx,hd,hr⟩
 obtain⟨t1,t2,_⟩:=xG I1 (aoQ cf (b5 eH))
 refine⟨"dict","dict.items",PySem.F.plainAttrs_dict,PySem.F.slot_dict_items,PySem.F.type_dict_items,t1,t2,Calls.callWith_builtin rfl (PySem.evalArgs_none ?_)⟩;refine call_meetsIn PySem.F.slot_dict_items t1 PySem.F.entry_dict_items (PySem.F.args_dict_items_1 _) (meets_dict_items aks a hs) (aiS ⟨vs,dd⟩)
 rw[acH da ((aD7 (ad6 "dict_items") (ahe #[Δ a])).DictAt aks a vs ep) ⟨o,es,aCd,hx,hd,hr⟩ (wpAny_pyIter_items (v:=s1.heap.objs.size) azH da ?_)]
 generalize hh1:aD7 (ad6 "dict_items") (ahe #[Δ a])=h1
 rw[d6 hsz (h1.objs.size=aIA 1) (by rw[← hh1,Heap.size_push]) k1 (∀b u,aO4=aaZ->aJ8=aaZ) (agT u e (by rw[abd hh1 (agH e)]))]
 rw[ajG I2 (asU H1 s1 (h1.push (ajt (ad6 "dict_itemiterator") (ahe #[abc,aiU ajF,Δ a,η 0 0,η vs.length 0,η ep 0,abc,abc])))) (I1.kept (t':=s1.toks) λ b o e=>agH (k1 b o e)) I3 (I2.Bf (o:=o) eH (agH (k1 a o ho)) (λ _ z=>nomatch z) (λ _ z=>nomatch z) (λ _ z=>nomatch z) (λ _ _ z=>nomatch z))]
 rw[au6 hl aJZ (by have:=ahK hr.2.1;simpa using this.symm) dz (a≠h1.objs.size) (ajp (by rw[Ω hsz (Nat.lt_succ_of_lt (Heap.lt_size ho))])) ⟨h1.objs.size,[h1.objs.size],_,_,_,rfl,I3,Jr a _ hd,⟨abc,abc,by rw[abd hl azc]⟩,ajj,q o⟩]
 have e:b=h1.objs.size:=ah7
 rw[aeq e (I1.Ez (by rw[Ω hsz aq2]) (by rw[acY aAH (aDT (by rw[Ω hsz aq2]))]))]
def T7(ho:aCt)aVR:PI X tg (afy (aio o "values" apos) [] [] dg) (Li Itv to):=by
 intro pins s σ H R I h
 refine aLs oQ (auj v ⟨x,H1,I1,r1,a,cf,ex,eH,q⟩)
 subst ex;cases r1;obtain⟨hz,hs,vs,kv,o,es,ep,ho,hx,hd,hr⟩:=wd I1.cQ eH;have dd:s1.heap.DictOf aks a vs:=⟨o,es,ep,ho,hx,hd,hr⟩
 obtain⟨t1,t2,_⟩:=xG I1 (aoQ cf (b5 eH))
 refine⟨"dict","dict.values",PySem.F.plainAttrs_dict,PySem.F.slot_dict_values,PySem.F.type_dict_values,t1,t2,Calls.callWith_builtin rfl (PySem.evalArgs_none ?_)⟩;refine call_meetsIn PySem.F.slot_dict_values t1 PySem.F.entry_dict_values (PySem.F.args_dict_values_1 _) (meets_dict_values aks a hs) (aiS ⟨vs,dd⟩)
 rw[acH da ((aD7 (ad6 "dict_values") (ahe #[Δ a])).DictAt aks a vs ep) ⟨o,es,aCd,hx,hd,hr⟩ (wpAny_pyIter_values (v:=s1.heap.objs.size) azH da ?_)]
 generalize hh1:aD7 (ad6 "dict_values") (ahe #[Δ a])=h1
 rw[d6 hsz (h1.objs.size=aIA 1) (by rw[← hh1,Heap.size_push]) k1 (∀b u,aO4=aaZ->aJ8=aaZ) (agT u e (by rw[abd hh1 (agH e)]))]
 rw[ajG I2 (asU H1 s1 (h1.push (ajt (ad6 "dict_valueiterator") (ahe #[Δ a,η 0 0,η vs.length 0,η ep 0])))) (I1.kept (t':=s1.toks) λ b o e=>agH (k1 b o e)) I3 (I2.Bf (o:=o) eH (agH (k1 a o ho)) (λ _ z=>nomatch z) (λ _ z=>nomatch z) (λ _ z=>nomatch z) (λ _ _ z=>nomatch z))]
 rw[au6 hl aJZ (by have:=ahK hr.2.1;simpa using this.symm) dz (a≠h1.objs.size) (ajp (by rw[Ω hsz (Nat.lt_succ_of_lt (Heap.lt_size ho))])) ⟨h1.objs.size,[h1.objs.size],_,_,_,rfl,I3,MV a _ hd,amK _ (aDI _) (by rw[acR hl]),ajj,q o⟩]
 have e:b=h1.objs.size:=ah7
 rw[aeq e (I1.Ez (by rw[Ω hsz aq2]) (by rw[acY aAH (aDT (by rw[Ω hsz aq2]))]))]
abbrev rD aPJ:DI:=ahk (aaQ).bind (match am1 with
 | atm=>.ok (apC q (sT [vx q.1,q.2]),arJ .jd) (M1.set n (.jd kvs))
 | none=>d5)
abbrev Bh aPJ:DI:=ahk (aaQ).bind (match am1 with
 | atm=>.ok (apC q q.2,arJ .jd) (M1.set n (.jd kvs))
 | none=>d5)
def Lj{n m:Nat}aPc aTn(h:b7 (u7 (ο m) M) (n,kvs)):aiZ .bB:=by
 rw[aHR u7 h h];split at h
 ·rename_i z; cases h; exact z
 ·cases h
def Bi(h:avn o)aVV:VI X Ex (ats elts x1 CW) (afy (aio o "items" apos) [] [] dg) (rD d):=⟨by
 refine PI.imp (Qe h.out oP oQ) (acI σ H R hh);obtain⟨ι,S,M,ρ,aW,sl,w⟩:=hh;refine⟨ι,S,M,ρ,aW,sl,aeK (iw X.K) w (λ ι1 S1 M1 H1 x v e1 s1 r1 w1=>?_)⟩;cases q1:am1 with
 | none=>rw[awg]
 | some nk =>
  obtain⟨n,kvs⟩:=nk
  rw[q1] at w1;obtain⟨a,cf,rfl,ei,eH,hS,rk,rfl⟩:=nX s1 r1 q1;refine ad8 a cf eH (g8 ob)
  obtain⟨Qc,hS',V4,rk',s2,x2⟩:=s1.Bf ei (Lj q1) ob;rw[eH] at V4;cases V4;rw[anl (w1 ι1 _ _ _ x2 s2 λ i ι' S' M' H' up oV _=>?_) eS (S' a=aha) (up.sm a _ bF) GX (H' a=aha) (oV.sub a _ eS)];rw[aej (acO y hy) (λ hl=>⟨cf,GX,by rw[← rk.length];simpa using hl⟩)]
  rw[zJ] at hy
  obtain⟨⟨k,z⟩,hk,rfl⟩:=Option.map_eq_some_iff.mp hy;rw[ajq v hv rz ((rk.mono x2).get hk) ⟨⟨cf,k,v,GX,hv⟩,IL u H2 yl⟩];rw[aAO p hp yl yl];rw[yl cf k v GX hv];rw[ahJ s3 x3 (oV.tree (o:=sT [akM,v]) hp) ⟨ι',_,x3,s3,bj.gO.mpr (ad8 p _ bF (aaP (Bg k) (.one ((bj.up up rz).mono x3))))⟩]⟩
def T8(h:avn o)aVR:VI X Ex tg (afy (aio o "values" apos) [] [] dg) (Bh d):=⟨by
 refine PI.imp (T7 h.out oP oQ) (acI σ H R hh);obtain⟨ι,S,M,ρ,aW,sl,w⟩:=hh;refine⟨ι,S,M,ρ,aW,sl,aeK (iw X.K) w (λ ι1 S1 M1 H1 x v e1 s1 r1 w1=>?_)⟩;cases q1:am1 with
 | none=>rw[awg]
 | some nk =>
  obtain⟨n,kvs⟩:=nk
  rw[q1] at w1;obtain⟨a,cf,rfl,ei,eH,hS,rk,rfl⟩:=nX s1 r1 q1;refine ad8 a cf eH (g8 ob)
  obtain⟨Qc,hS',V4,rk',s2,x2⟩:=s1.Bf ei (Lj q1) ob;rw[eH] at V4;cases V4;rw[anl (w1 ι1 _ _ _ x2 s2 λ i ι' S' M' H' up oV _=>?_) eS (S' a=aha) (up.sm a _ bF) GX (H' a=aha) (oV.sub a _ eS)];rw[aej (acO y hy) (λ hl=>⟨cf,GX,by rw[← rk.length];simpa using hl⟩)]
  rw[zJ] at hy
  obtain⟨⟨k,z⟩,hk,rfl⟩:=Option.map_eq_some_iff.mp hy;rw[ajq v hv rz ((rk.mono x2).get hk) ⟨⟨cf,k,v,GX,hv⟩,IL u H2 yl⟩];rw[au1 yl yl]
  rw[ae2 (yl cf k v GX hv) ⟨ι',S',agi,oV,bj.up up rz⟩]⟩
universe zE
universe L2
universe zE
section
namespace L2
open PySem PySem.Spec PyProof.Rows
section
variable {X:Cx} {Ex:St->XK}
def C4 aQU:ir X apx (λ xs H Q=>∃a cf,xs=[V.ref a]/\H a=av9 .dK/\∀l,ai7 l->Q (Δ l) (atV aDz)):=by
 intro pins s σ H xs us Q I r h;rw[anJ a cf eH h]
 rw[arb u ru r];cases ru;obtain⟨hz,hs,vs,kv,dd⟩:=wd I.cQ eH;obtain⟨ep,da⟩:=dd.dictAt;rw[aaA hl kv.len (PySem.W.kdl_call (PySem.W.kdl_dict (knd:=aks) (kvs:=vs) (ep:=ep) hs) (I.ok.hd hc) da (by rw[abd hl hz]) (alm h' tk acc c' kp e Aq))]
 rw[au6 hv (∀(cf:ahD)(vs:aAT),KV cf vs->∀bR:x8,bR.length=vs.length->(∀aPs aSJ,arM bR->∃(k:Key) (x:Value),ah0 vs (k,x)/\aBi k v)->aAF aDz) (by
  intro cf vs kv
  induction kv with
  | nil=>intro bR hl _; cases bR with
   | nil=>rw[al3]
   | cons _ _=>cases hl
  | cons r t ih =>
   rename_i p q xs ys;intro bR hl hi;cases bR with
   | nil=>cases hl
   | cons z bR =>
    obtain⟨k,x,e1,e2⟩:=hi 0 z rfl;simp only[zA,Option.some.injEq] at e1;subst e1;obtain⟨r1,_⟩:=r;refine aaP ?_ (ih bR (aam hl) (agG i v (aam (hi (i+1) v aza))));dsimp only;rw[r1];rcases fh e2 with⟨i,t,rfl,rfl⟩ | ⟨x',t,rfl,rfl⟩<;>exact azb) aa0 (Vals aDz acc.toList) (hv cf vs kv acc.toList (by rw[Ω Array.length_toList Aq.1]) (agG i v (Aq.2 i v (by rw[abd Array.getElem?_toList h])))) (abS ajA _ (I.laid (t':=tk) kp acT (show iV X.prog X.w _ h' _ (ς aDz) from⟨by rw[alb hz],acc.toList,c',aa0,by rw[Ω Array.toArray_toList e]⟩)) (q _ (amx acT)))]
abbrev jO aPI:D1:=apg (match xs with
 | [x]=>match u7 x M with
  | aiR _ kvs=>tJ live (apC q (vx q.1)) M
  | none=>d5
 | _=>d5)
def MW aPB:∀aTn{cf:ahD},alu->auv (apC q (vx q.1)) aDz:=by
 intro kvs cf h
 induction h with
 | nil=>rw[al3]
 | cons r t ih=>exact aaP (by dsimp only; rw[abd r.1 (Bg _)]) ih
def lh aPI aQU:ir X apx (aqb (jO live)):=(C4 hc).imp λ vs H Q h=>by
 obtain⟨E,ι,S,M,xs,aW,r,w⟩:=h;rw[agY jO]
 match xs,r,w with
 | [],r,w=>rw[abR]
 | x::y::z,r,w=>rw[abR]
 | [x],r,w =>
  rw[adC v r1 r.i6];dsimp only at w;cases q1:u7 x M with
  | none=>rw[anw q1]
  | some nk =>
   obtain⟨n,kvs⟩:=nk;rw[q1] at w;obtain⟨a,cf,rfl,ei,eH,hS,rk,_⟩:=nX aW r1 q1;exact ad8 a cf eH (oR aW (MW rk) w).2
abbrev Bj:DM:=λ x as M=>match as with
 | [η i]=>C1 x M λ n xs=>match axp i with
  | some j=>match xs[j]? with
   | aoG=>apZ (-(acy 9223372036854775808)≤i/\i<9223372036854775808) .ok y (akL n (xs.eraseIdx j))
   | none=>d5
  | none=>d5
 | _=>d5
def MX:EI X "list.pop" (atv Bj):=EI.imp (r:=Pa) Pb λ v vs H Q h=>by
 obtain⟨E,ι,S,M,x,xs,aW,r,rs,w⟩:=h;rw[agY Bj];split at w
 ·rename_i i;rw[adC u r1 rs.i6];cases au0;obtain⟨n,p,ys,us,rfl,hi,eM,eH,hS,rr,w⟩:=aDw;split at w
  ·rename_i j hj;split at w
   ·rename_i y hy;split at w
    ·rename_i hb;obtain⟨z,hz,rz⟩:=rr.get hy;rw[aev hj' (EH hj).1 rr.length hj'];rw[asR ⟨p,us,i,j,z,rfl,rfl,eH,hb.1,hb.2,hj',hz,?_⟩ sp ep (uy aW hi hS (rr.eraseIdx j)) (w ι S _ _ ep sp rz)]
    ·rw[abR]
   ·rw[abR]
  ·rw[abR]
 ·rw[abR]
abbrev G4:V->ajT:=λ x vs H Q=>∃l xs y,x=Δ l/\vs=[η 0,y]/\H l=agz/\xs.length<sizeLine/\Q .bb (atV (y::xs))
def Js:MtM X "list.insert" G4:=by
 intro pins s σ H x vs v us Q I rx rv h;obtain⟨l,xs,y,rfl,rfl,hH,hz,q⟩:=h;cases rx;rw[acM u u2 ru ru2 (vals2 rv)];rw[aib ru];obtain⟨z,bR,n,r,hl,e⟩:=I.EM hH;refine call_meets PySem.F.slot_list_insert (ajs _ e) PySem.F.entry_list_insert (PySem.F.args_list_insert_3 _ _ _) (AutoListH.list_insert_list_int_val_1 l bR.toArray n 0 t u2 d7 (by rw[aEM])) (aiS e);refine abS .bb _ (I.O7 (its':=u2::bR) hH e Ξ (aaP ru2 r) ?_) q;rw[akB zE]
abbrev wI:DM:=λ x as M=>match as with
 | [η 0,y]=>C1 x M λ n xs=>apZ (xs.length<lim) .ok .bb (akL n (y::xs))
 | _=>d5
def Jt:EI X "list.insert" (atv wI):=EI.imp (r:=G4) Js λ v vs H Q h=>by
 obtain⟨E,ι,S,M,x,xs,aW,r,rs,w⟩:=h;rw[agY wI];split at w
 ·rw[acM u u2 r1 r2 rs.Au];cases au0;obtain⟨n,p,ys,us,rfl,hi,eM,eH,hS,rr,w⟩:=aDw;split at w
  ·rw[atc];rw[asR ⟨p,us,u2,rfl,rfl,eH,by rw[abd rr.length (A3 hl)],?_⟩ sp ep (uy aW hi hS (aaP r2 rr)) (w ι S _ _ ep sp (bj.kZ.mpr rfl))]
  ·rw[abR]
 ·rw[abR]
universe zE
universe L2
universe zE
section
namespace L2
open PySem PySem.Spec PyProof.Rows
abbrev Itb aPe aP3 aPf:It :=
 ⟨λ i H=>i<n/\∃xs x,aqC/\acL xs (n-1-i) x,λ i H x H'=>H'=H/\∀xs,aqC->acL xs (n-1-i) x,λ i _=>n≤i⟩
def Qf aQQ aSY aPf:azY (Itb K a n) (aqO (i≤n/\h.IsRevIter it a (afA-1-i))) where
 mem:=Ξ
 obj:=λ i h st b hb=>by
  have e:b=it:=ah7
  subst e;obtain⟨_,o,e,c,d⟩:=st;rw[aas o e (λ v z=>by rw[d] at z; cases z)]
 keep:=λ i h h' st k=>⟨st.1,st.2.at λ o e=>atI o e⟩
 item:=by
  intro X hP hw hK hc i pins s σ H E I hf st hg;subst hP hw hK;obtain⟨EN,st⟩:=st;obtain⟨hi,xs,x,hq,hx⟩:=hg;rw[agg rv p hz (I.list hq)];obtain⟨u,hu,ru⟩:=rv.get hx
  obtain⟨f0,f1,f2,f3,f4,f5⟩:=hf it Ξ
  rw[akv e0 (afA-1-i=afW (n-1-i)) b6 e0 st];rw[aiQ (wpAny_pyNext_rev_item st p.isList (x:=u) aGL aHs) I1 (afn H (alc s)) (I.turned (t':=s.toks) (λ b o hb e=>x6 (sb.2 b hb) e) f0 f1 f3 f4 f5)];obtain⟨o,e,c,d⟩:=id Dz
  rw[akv e2 (afW (n-1-i)-1=afA-1-afW (i+1)) b6 e2 Dz]
  exact ad5 u (Dy (s:=alc s) e c d d7 ⟨x,H,I1,ru,aju (ao1 ys (by rw[Ω (I.AM hy hq) hx])),⟨hi,Dz⟩,ayR⟩)
 done:=by
  intro X hP hw hK hc i pins s σ H E I hf st hg;subst hP hw hK;rw[apB EN st st hg (n≤i) hg];obtain⟨f0,f1,f2,f3,f4,f5⟩:=hf it Ξ
  have e0:afA-1-i = -1:=b6
  rw[t7 e0 st (wpAny_pyNext_rev_end (I.ok.hd hc) st azP)]
 self:=λ _ _ _ _ _ st h=>wpAny_pyIter_revIter st.2 h
section
variable {X:Cx} {Ex:St->XK} {a e tg:Expr} {d:DE} {pos p p2:Pos}
abbrev Qg aPJ:DI:=ahk (aaQ).bind (match x with
 | ς xs=>.ok (xs.reverse,none) M1
 | ο n=>match M1[n]? with
  | agz=>.ok (xs.reverse,aHk) M1
  | _=>d5
 | _=>d5)
def D7 aPB{q:Addr}aPi aVs:Walks K (Itb K q xs.length) xs.reverse w ι S:=by
 intro i ι' S' M' H' up aW hc;rw[ajq vs hq rs (h ι' S' M' H' up aW hc) ⟨acO x hx,λ hl=>by show aCO; simpa using hl⟩]
 rw[akv hi aqv (aMP aNp.1) (List.getElem?_reverse hi) hx];rw[ajq v hv r (rs.get hx) ⟨alz hi v hq hv,IL u H2 y⟩]
 rw[au1 y y]
 rw[aj3 (y vs hq) hv];cases this;exact⟨ι',S',agi,aW,r⟩
def Yi(h:avn a)(hm:X.mg "reversed" = none)(hg:Gl X "reversed" := by rfl)aTz:VI X Ex tg (afy (ac6 "reversed" p) [a] [] pos) (Qg d):=⟨by
 intro pins s σ H R I hw
 obtain⟨ι,S,M,ρ,aW,sl,w⟩:=hw;rw[acH A1 (PA X [a] (OT (tG X.K (iw X.K) Ex d) S6)) (Ap h.out EB (by rw[acR hs])) (axe (xE I hg hm (u:=ad6 "reversed") (by first | rfl | decide) ?_ d7 d7))]
 refine aDO (amN (A1 pos pins s σ H (ado vs (∃q n,vs=[Δ q]/\(awV (qB X.K H1 q xs) (aA1 n))/\R (Itb X.K q n) H1)) I ?_) us ⟨vs,H1,I1,r1,q,n,ev,⟨xs,hq,hn⟩,k⟩) (by rw[acR hs]) rfl
 ·refine⟨ι,S,M,ρ,aW,sl,aeK (iw X.K) w (λ ι1 S1 M1 H1 x v e1 s1 r1 w1=>?_)⟩;cases x with
  | lst xs =>
   rw[acM q vs eS rs (bj.mR.mp r1)];refine ad8 q xs.length ⟨vs,.of (s1.sub _ _ eS),rs.length.symm⟩ (alp (D7 (alm ι2 S2 M2 H2 up s2 _)));rw[aas vs (.of (s2.sub _ _ (up.sm _ _ eS))) (rs.up up)]
  | obj n =>
   rw[adC q ei (bj.fA.mp r1)];obtain⟨o,eM,mo⟩:=s1.addr ei;simp only[eM] at w1;cases o with
   | lst xs =>
    obtain⟨_,vs,eH,rs⟩:=mo;refine ad8 q xs.length ⟨vs,.of eH,rs.length.symm⟩ (alp (D7 (alm ι2 S2 M2 H2 up s2 hc)));obtain⟨_,vs2,GX,V3⟩:=s2.ob n q _ (up.ix _ _ ei) hc;rw[aas vs2 (.of GX) V3]
   | _=>rw[ai4]
  | _=>rw[ai4]
 ·subst ev
  rw[arb u ru r1];cases ru;rw[agg rv pl hz (I1.list hq)];rw[aaA hl rv.length (call_reversed_list pl.isList ?_)]
  have e0:afW bR.toArray.size-1=afA-1-at5:=by rw[afo]
  rw[e0];rw[acH hR ((s1.heap.push (revObj q (afA-1-at5))).IsRevIter s1.heap.objs.size q (afA-1-at5)) azH (wpAny_pyIter_revIter (s:=ain s1 (s1.heap.push (revObj q (afA-1-at5)))) hR ?_)]
  refine⟨s1.heap.objs.size,aIl,_,_,H1,rfl,I1.kept (t':=s1.toks) λ b o e=>agH e,Qf q _ n,⟨auO,hR⟩,ajj,k⟩
  have eb:b=s1.heap.objs.size:=ah7
  rw[aeq eb (I1.Ez acT avv)]⟩
abbrev tRv aPe aSl(ts:TO):TE:=age (te σ H (ado x (ts σ H1 (aiE k (k=azu/\∃a xs,x=Δ a/\qB K H2 a xs/\∀p,aaz (H2 p)->Q (Δ p) (agP H2 p (ς xs.reverse)))))))
def T9{st:Expr}{te:TE}{ts:TO}aSM(hs:PO X (some st) ts):anP amz e (ayl none none (some st) p2) (tRv X.K te ts):=by
 intro pins s σ H Q I h
 rw[afQ (Subscript_ (ap2 (he pins s σ H _ I h) v x)) (wpAny_Slice ?_)];rw[evalPart_none]
 rw[afQ aEq (auV (ahw (hs pins s1 σ H1 _ I1 q1) vk s2 ⟨k,H2,I2,pk,ek,q2⟩))];subst ek;rw[anJ l xs hx q2];cases r1;have I4:asU H2 s2 (s2.heap.push (ajt ayc (ahe #[abc,abc,vk]))):=I2.kept (t':=s2.toks) azL;rw[agg r ht hz (I4.list hx)];rw[aeC hlen r.length hg (adT (getItem (Δ l) aBP) (EP X pins σ Q) (ain s2 (s2.heap.push (ajt ayc (ahe #[abc,abc,vk]))))) (by
  rw[aiy (wpAny_getItem_list_slice ht.isList aNH abc abc pk Ξ ?_ aKx) PySem.W.krv_pick];refine abS (Δ _) _ (I4.laid (t':=s2.toks) (o:=ς xs.reverse) azL acT ?_) (q _ (I4.cQ.fresh acT));refine⟨by rw[Ω List.length_reverse hz],bR.reverse,0,Vals.reverse r,?_⟩;have:=Heap.get?_push_size (s2.heap.push (ajt ayc (ahe #[abc,abc,vk]))) (o:=aos (aif bR.toArray.toList.reverse.toArray)) rfl;rw[ap9])]
 rw[aqj (adT (subscriptTail e (ayl none none (some st) p2) (Δ l) aBP) (EP X pins σ Q) (ain s2 (s2.heap.push (ajt ayc (ahe #[abc,abc,vk]))))) (tail_any (ops:=[Δ l,aBP]) ht.isList.typeIs slot_list_getitem.lookup hg aao)]
abbrev Yj aPI aPO(k:adq)aPh:afV:=auW (k=azu) (match apc with
  | aj4=>tJ live xs.reverse M
  | none=>d5) d5
abbrev Lk aPI(da:DE)(dk:DO):DE:=ahk (da ρ M).bind (aic (dk ρ M1).bind k (Yj live x k M2))
def Ua aPI{st:Expr}{dk:DO}aSO(hk:VO X Ex (some st) dk):anO amz e (ayl none none (some st) p2) (Lk live d dk):=⟨by
 rw[am4 (T9 he.out hk.out) (λ ι1 S1 M1 H1 x v e1 s1 r1 w1=>?_)]
 refine⟨ι1,S1,M1,ρ,s1,agx,aeK RpO w1 (λ ι2 S2 M2 H2 l l' e2 s2 r2 w2=>?_)⟩;cases r2;unfold Yj at w2;split at w2
 ·rename_i ek;cases h1:jg M2 x with
  | none=>rw[t7 h1 w2 w2.elim]
  | some xs =>
   rw[h1] at w2;rw[acM p vs eH rr (gA s2 (apz e2) h1)];obtain⟨_,w3⟩:=oR s2 rr.reverse w2;exact asi ek p vs (.of eH) w3
 ·exact w2.elim⟩
universe zE
universe L2
universe zE
end
mutual
section
noncomputable section
namespace Sb
open PySem L2
abbrev dN:D1:=abP 1 (bK (av (lE false) [(ajg b8)]))
abbrev ig(dD:D1):D1:=abP 2 (bK (cg false (ahp none ahM) (iE b8) (gT 2 (dA (gN 0) (aqo 1))) (axR c9 (av dD [b9])) b8))
abbrev iH(ka:D1):D1:=abP 4 (ahO (hG (iL (aso ka)) (gN 3) (bu (ba (adU (dW true) b9)) (bK aah) fo)) (dC .bb))
abbrev mU(dE:D1):D1:=abP 3 (bK (ay (rn false) (av dE [b8,b9,c9]) (dC .bb)))
abbrev kb(dD:D1):D1:=abP 2 (ahC (acW akC (aaM "plain")) (aeu (amM asX (iL (av dD aiV)) (ba (ay (dW true) b8 b9)))) (ahC (ay (dW false) b9 (amw 1)) (aeu (aem [(amw 2),(amw 3)])) (aeu (aem [(amw 1)]))))
abbrev mV:D1:=abP 1 (bK (acW akC aq6))
abbrev pU(kd:D1):D1:=abP 2 (ahO (bu (mD (dP (av kd aiV)) (axR (amw 3) (ajg b9))) (aeu aq7) fo) (dC af9))
abbrev lU(oZ nG:D1):D1:=abP 2 (axX (av oZ aiV) (anT nG))
abbrev kA(cK:Addr)(o4 dD:D1):D1:=abP 2 (ahC (acW (aiM b8) (Θ 0)) (Jn cK [(aaM "a yard has at least one piece")]) (amO IH (aiM b8) (Θ 16) (aBr cK (f7 (Θ 16))) (hG (iL b8) (gN 1) (av0 o4 (av dD [b9])))))
abbrev kC(cK:Addr)(ka:D1):D1:=abP 3 (hG (iL b9) (gN 2) (aiL (avj (ajM Jk c9 (Θ 0)) (ajM IH c9 (Θ 999)) (cn cK [none,atg,none,f7 (Θ 999)])) (amO IH (ji countP b9 [c9]) (Θ 1) (aBr cK atg) (bu (ba (ay IH (agR (aso ka)) (Θ 2))) (cn cK (aox atg)) fo))))
abbrev jP(cK:Addr)(dD:D1):D1:=abP 4 (amO IH (aiM b9) (Θ 16) (aBr cK (f7 (Θ 16))) (hG (iL b9) (azQ (gN 2)) (amO IH (ji countP b9 [(iS [c9,aah])]) (Θ 1) (cn cK [none,atg,none,f7 aah]) (aiL (avj (ba (adU Jk (Θ 0))) (ba (adU geP (aiM b8))) (aBr cK (f7 aah))) (bu (ba (ay (ju true) c9 (av dD [(axG b8)]))) (cn cK [none,f7 aah,none,atg]) fo)))))
abbrev lV(bW:Addr):D1:=avB 1 (gS bW "steps" b8 arG) (gS bW "ahead" b8 arG) (gS bW "is_out" b8 (aoe .bl))
abbrev kD(bW:Addr):D1:=abP 1 (bK (cg false aiw (iL (bY bW "steps" b8)) (gN 0) sI akC))
abbrev rE:D1:=abP 1 (bK (iS [akC,(amw 2),(amw 1)]))
abbrev vy(rF mG:D1):D1:=abP 6 (apI (anT rF) 2 arG (ahO (hG (iE b9) (gT 2 (dA (gN 3) (aqo 4))) (hG (iL (av mG [b8,b9,aqd,(t6 ZJ (dC (η 0))),aF5])) (gN 5) (bO (ji fB c9 [(iS [aah,aeJ])])))) (ET c9)))
abbrev yV(rG dE mG:D1):D1:=abP 9 (ahC (agZ ZJ aGq) (aeu aqd) (alk 5 arG (ahO (hG (iL (av rG [(t6 b8 ZJ),aah])) (gN 6) (aqK 7 (akt c9 (awS [ZJ,aah,(ae 6)])) 8 (av dE [b8,ZJ,(ae 6)]) (bu (A6 (ajM (rn false) (ae 8) (dC .bb)) (axR (iS [(ae 6),(ae 8)]) b9)) (bO (ji fB aeJ [(ae 7)])) (bO (ji Av aeJ [(av mG [b8,b9,(ae 7),(ae 6),(ae 8)])]))))) (ET aeJ))))
abbrev qd aQh(Bk:D1):D1:=avB 4 (aqi "found" (av Bk [b9,c9])) (aqi "pieces" (av (lE false) [b9])) (ais (aqi "signals" (av (lE false) [c9])) (aqi "wait" aah) (ais (aqi "ticks" (Θ 0)) (aqi "locks" oX) (ais (aqi "lying" (cg true aiw (iL b9) (gN 0) sI (dC af9))) (aqi "greens" oX) (aiL (aqi "falls" oX) (aqi "trains" oX)))))
abbrev kE aQh(dY:D1):D1:=abP 2 (ahO (anT dY) (xU aJt b9))
abbrev hU aQh(dY gF:D1):D1:=avB 4 (anT dY) (sL aGI (hG aGI (azQ (gN 2)) (bu (ba (agZ b9 (av gF [aah]))) (bK c9) fo))) (aeu (dC .bb))
abbrev lW(gF ck:D1):D1:=abP 2 (bK (av gF [(amq ck)]))
abbrev mW(iW:Addr):D1:=abP 3 (aiL (gS iW "until" b8 b9) (gS iW "near" b8 c9))
abbrev jv aQh(ij gG fx xY dF:D1):D1:=abP 4 (apI (anT ij) 2 (amq gG) (ais (auk (iL c9) (av0 fx (t6 aah (dC (η 0))))) (auk (iL c9) (aiL (eY aJt (t6 aah (dC (η 0))) b9) (eY aJu (t6 aah (dC (η 0))) (av xY [(amb aAw (t6 aah (dC (η 0)))),aah])))) (eY (agh "greens") (amq dF) b9)))
abbrev lj(iW bQ aF:Addr)(ij dF rH dG tN gH gG:D1):D1:=abP 4 (apI (anT ij) 2 (amq dF) (amO (dW true) (xU (agh "greens") c9) b9 (cn bQ (aox ara)) (apI (bO (rB (agh "greens") c9)) 3 (aso rH) (bu (mD (ajM IH (agh "wait") (Θ 0)) (A6 (ba (adU (rn true) (dC .bb))) (dP (aso dG)))) (aqc (agh "falls") (u0 iW tN [(aly aNb (agh "wait")),aah])) (av0 gH (amq gG))))))
abbrev wJ(iW aF:Addr)(gH gG:D1):D1:=abP 2 (aiL (aqi "ticks" (ax8 aNb)) (hG (iL (av (jO false) [(agh "falls")])) (gN 1) (bu (ba (acW (bY iW "until" (ami (agh "falls"))) aNb)) (axX (rB (agh "falls") b9) (av0 gH (amq gG))) fo)))
abbrev oA aQh(gI fx:D1):D1:=avB 2 (anT gI) (anT fx) (aqc aJu (KZ (ata (ami aJu) (dC af9)) aq7 (dC af9)))
abbrev ll aQh:D1:=abP 3 (hG (iL b9) (gN 2) (bO (rB aJt amY)))
abbrev kR aQh:D1:=abP 2 (bK (aEY aJs))
abbrev o5 aQh:D1:=abP 2 (bK (t6 (ami aJs) (dC (η 1))))
abbrev iI aQh(ke:D1):D1:=avC 3 2 (ami aI0) (aeu (av ke [aAw,(t6 c9 (dC (η 1))),amY]))
abbrev kF(bW aF:Addr)(dE:D1):D1:=aE0 4 2 (ak8 (bY bW "steps" b9)) 3 (iS [(t6 c9 (dC (η 2))),(av dE [aAw,amY,(t6 c9 (dC (η 2)))])]) (ahC (adU (ju false) aI0) (aeu (ji vv aI0 [aah])) (aeu (dC .bb)))
abbrev lX aQh(gJ:D1):D1:=abP 4 (ahO (sL aGI (hG aGI (azQ (gN 2)) (bu (ba (acW (azX gJ aah) b9)) (bK c9) fo))) (dC .bb))
abbrev kG aTc:D1:=abP 2 (amO (ju true) b9 (agh "trains") (atC bQ) (aeu (ami (agh "trains"))))
abbrev nH aTc(dH:D1):D1:=abP 2 (bu (nv (dP (av dH [aJs,b9]))) (atC bQ) fo)
abbrev nI aTc(dH:D1):D1:=abP 2 (bu (nv (dP (av dH [aAw,b9]))) (atC bQ) fo)
abbrev kH aTc(dY kd:D1):D1:=abP 2 (axX (amq dY) (bu (nv (dP (av kd [(ami aAw)]))) (atC bQ) fo))
abbrev mH aTc(dH:D1):D1:=abP 2 (bu (nv (dP (av dH [aI0,b9]))) (atC bQ) fo)
abbrev cZ:D1:=abP 2 (bK (sH (ay geP b9 (Θ 0)) (ay Jk b9 (aiM b8))))
abbrev i7(lY aF:Addr)(cH:D1):D1:=abP 2 (ahC (agZ b9 aJt) aHe (bu (ba (ay (rn true) (asG aF cH b8 [b9]) (dC .bb))) aHe fo))
abbrev uA(lY bQ bW aF:Addr)(gK dG i8 rJ ik:D1):D1:=avB 5 (av1 gK) (bu (nv (dP (aso dG))) (aBr bQ atg) fo) (ahC (agZ b9 (agh "trains")) aHe (aG (bL 3 (av i8 [b8,b9,c9])) (aG (bL 4 (u0 bW rJ [])) (axX (av ik [b8,ZJ,aah]) (aqc (agh "trains") ZJ)))))
abbrev E2(rK bW aF:Addr)(ck mI ke ik i8 gJ:D1):D1:=abP 4 (aG (bL 2 (av ck (ahb b9))) (aG (bL 3 (ak8 aCo)) (aiL (as5 (bY bW "is_out" c9) (atC rK)) (bu (dP (bY bW "ahead" c9)) (av1 mI) (bu (dP (av ke [aAw,(t6 aah (dC (η 0))),aBC])) (gS bW "is_out" c9 (dC (.bl true))) (avZ ik [b8,c9,(av i8 [b8,b9,(aso gJ)])]))))))
abbrev wK(lY bW aF:Addr)(ck:D1):D1:=abP 3 (aG (bL 2 (amq ck)) (ais (bu (mD (ba (acW (agR aCo) (Θ 1))) (nv (dP (bY bW "is_out" c9)))) aHe fo) (bO (ji PK aCo [])) (bu (ba (acW (agR aCo) (Θ 0))) (bO (rB (agh "trains") b9)) fo)))
abbrev wL(iW rK bW aF:Addr)(ck gH Bl:D1):D1:=abP 4 (aG (bL 2 (amq ck)) (ais (as5 (bY bW "is_out" c9) (atC rK)) (av0 gH (bY bW "ahead" c9)) (ais (gS bW "ahead" c9 arG) (gS bW "steps" c9 (cg true aiw (Qg aCo) (gN 0) sI (av Bl aiV))) (sL (Bh (agh "falls")) (auk (Bh (agh "falls")) (bu (ba (acW (bY iW "near" aah) b9)) (gS iW "near" aah (dC .bb)) fo))))))
abbrev iJ(iW rK aF:Addr)(dG dF:D1):D1:=abP 5 (amO (rn false) c9 (dC .bb) (cn rK (aox ara)) (ahC (agZ c9 (agh "greens")) (aeu (amb (agh "greens") c9)) (aiL (sL (rD (agh "falls")) (hG (rD (agh "falls")) (gT 2 (dA (gN 3) (aqo 4))) (bu (mD (ba (acW (azX dF aah) c9)) (A6 (ba (acW (bY iW "near" ZJ) b9)) (dP (aso dG)))) (bK aah) fo))) (cn rK [none,ara,none,atg]))))
abbrev k6(bW aF:Addr)(dF gG mI:D1):D1:=avB 3 (bO (xV (agh "greens") (aso dF) (dC .bb))) (bO (xV (agh "falls") c9 (dC .bb))) (aiL (gS bW "ahead" b9 (av (lE true) [(aso gG)])) (anT mI))
abbrev pV(bW:Addr)(gH:D1):D1:=avC 3 2 (ji Bj (bY bW "ahead" b9) [(Θ 0)]) (axX (azX gH (aem [c9])) (bO (ji wI (bY bW "steps" b9) [(Θ 0),c9])))
abbrev rL:D1:=abP 2 (ahO (as5 b8 (aeu (t6 b8 (ay cC b9 (aiM b8))))) (Θ 0))
abbrev uB(Bm:D1):D1:=aE0 3 2 (ay cC (atE (amq Bm) (Θ 104729) (ax8 b9)) (Θ 4294967291)) 2 (ay cC (ay (nq false) c9 (Θ 48271)) (Θ 4294967279)) (aeu (ay cC (ay (dX false) (ay (nq false) (ay eh c9 (Θ 64)) (Θ 69621)) c9) (Θ 4294967231)))
abbrev nY:D1:=avC 4 3 (amM [none,ahM,arA,ai9] (xQ [(aiM b8)]) (mD (ba (ay (dW true) b8 b9)) (axR c9 (ajg (ay aK aah b8))))) (aeu (KZ (dP aah) (t6 aah (dC (η 0))) (dC .bb)))
abbrev nZ(fD:D1):D1:=aE0 11 2 arG 3 aqd (aG (bL 4 (Θ 0)) (ahO (hG (xQ [(akt (Θ 1) (ay cC (av fD (ahb b9)) (Θ 8)))]) (gN 5) (aG (bL 6 (av fD (ahb (aly (ax8 b9) aeJ)))) (aG (bL 7 arG) (apI (hG (xQ [(akt (Θ 2) (av qI [(ay Jk (ay cC (ae 6) (Θ 5)) (Θ 3))]))]) (gN 8) (aG (bL 9 (av fD (ahb (aly (atE (akt b9 (Θ 10)) (Θ 3) aeJ) (ae 8))))) (aG (bL 10 (amM (akb 7) (iL aah) (ajM (ju true) b8 b9))) (bu (mD (dP (ae 10)) (ajM Jk (ay cC (ae 9) (Θ 8)) (amb (aem [(Θ 7),(Θ 2),(Θ 2)]) (ae 8)))) (bO (ji fB (ae 7) [(t6 (ae 10) (ay cC (ay eh (ae 9) (Θ 8)) (av Jl [(Θ 4),(agR (ae 10))])))])) (axX (ji fB (ae 7) [(ay cC (atE (azX fD (akt b9 (Θ 9))) (Θ 37) ZJ) (Θ 1000))]) (bL 4 (ax8 ZJ))))))) 3 (aly (amM (akb 3) (iL (ae 7)) (ajM (ju true) b8 b9)) (amM (akb 7) (iL aah) (ajM (ju true) b8 b9))) (bO (ji fB c9 [(aly (iS [(t6 (aem [(aaM "plain"),aq6]) (ay zv (agR (ae 7)) (Θ 2)))]) (av EU [(ae 7)]))])))))) (ET c9)))
abbrev mX(fD cm:D1):D1:=avC 9 3 arG (apI (hG (xQ [(aiM c9)]) (gN 4) (hG (iT (ajg (t6 c9 ZJ))) (gN 5) (aG (bL 6 (av fD (ahb (aly (atE b9 (Θ 3) ZJ) (aiM aah))))) (aG (bL 7 (ay (rn false) (av cm [c9,ZJ,aeJ]) (dC .bb))) (avj (ba (acW (ay cC (ae 6) (Θ 3)) (Θ 0))) (mD (dP (ae 7)) (ba (acW (ay cC (ae 6) (Θ 3)) (Θ 1)))) (bO (ji fB aah [(iS [aeJ,ZJ])]))))))) 8 (ay cC (av fD (ahb (akt b9 (Θ 30)))) (akt (Θ 1) (aiM aah))) (aeu (wz false (aly (wz false aah (gB (ae 8)) dn) (wz false aah dn (gB (ae 8)))) dn (gB (Θ 16)))))
abbrev rN:D1:=abP 2 (ahC (acW akC (aaM "plain")) (aeu (amM asX (iT (ajg b8)) (ba (ay (dW true) b8 b9)))) (aeu (KZ (aus (amw 1)) (aem [(amw 2),(amw 3)]) (aem [(amw 1)]))))
abbrev vz(Bn cm o6:D1):D1:=avC 9 5 arG (ahC (adU (ju false) aGq) (aeu (ET aeJ)) (ahO (hG (iL (av Bn [(axG b8),ZJ])) (gN 6) (aqK 7 (akt c9 (awS [aah,ZJ,(ae 6)])) 8 (av cm [b8,aah,(ae 6)]) (bu (A6 (ajM (rn false) (ae 8) (dC .bb)) (axR (iS [(ae 6),(ae 8)]) b9)) (bO (ji fB aeJ [(ae 7)])) (bL 5 (ay (dX true) aeJ (av o6 [b8,b9,(ae 7),(ae 8),(ae 6)])))))) (ET aeJ)))
abbrev rO(o6:D1):D1:=avC 4 2 aqd (ahO (hG ayU (gN 3) (bL 2 (akt c9 (cg false (akb 3) (iL (av o6 [b8,b9,aqd,(t6 (axG b9) (dC (η 1))),(ak8 (axG b9))])) (gN 0) sI (iS [b9,b8]))))) c9)
abbrev uC(vA:D1):D1:=aE0 5 3 (cg true aiw (iL b8) (gN 0) sI (KZ (ata akC aq6) (dC af9) (dC .bb))) 4 (C3 [("pieces",b8),("signals",b9),("wait",c9),("points",aah),("green",aqd),("now",(Θ 0))]) (ais (eY ZJ (aaM "routes") (amq vA)) (eY ZJ (aaM "locks") (ay (nq true) (aem [(dC .bb)]) (aiM b8))) (ais (eY ZJ (aaM "falls") oX) (eY ZJ aMW oX) (bK ZJ)))
abbrev lZ:D1:=abP 3 (ahO (sL aGH (bL 2 (amM (ahp ahM ai9) aGH (axR b9 (cg false aiw (iL (ak8 (ay aK aJg b8))) (gN 0) sI akC))))) (KZ (dP c9) amY (dC .bb)))
abbrev rQ(rR:D1):D1:=abP 2 (bK (xO (ay (rn true) (ami (akQ "locks")) (dC .bb)) (ay (rn true) (amq rR) (dC .bb))))
abbrev rS:D1:=abP 2 (eY b8 (aaM "locks") (cg true asX (iL (akQ "locks")) (gN 0) sI (KZ (ba (ay (dW false) b8 b9)) (dC .bb) b8)))
abbrev qN(o7:D1):D1:=abP 5 (aG (bL 2 (t6 (ami asL) (dC (η 1)))) (ais (as5 (av EY [(cg false (aox ai9) (iL c9) (gN 0) sI (av o7 [b9,akC]))]) aF8) (auk (iL c9) (apI (eY (akQ "locks") (t6 aah (dC (η 0))) b9) 4 (amb axt (t6 aah (dC (η 0)))) (bu (ba (acW (t6 ZJ (dC (η 0))) aq6)) (eY aMX (t6 aah (dC (η 0))) (amb (aem [aq7,(dC af9)]) (av qI [(agZ (t6 ZJ (dC (η 2))) (ajg aah))]))) fo))) (ahO (eY b8 aNa (aly aAD (aem [b9]))) (aaM "ok"))))
abbrev rT:D1:=abP 8 (apI (EV (ami auQ) (azQ (gN 2))) 4 arG (ahO (sL aGH (hG aGH (gN 5) (aqK 6 (t6 akR aeJ) 7 (ak8 (aov 6)) (bu (mD (ata (t6 (ae 6) (dC (η 1))) aqd) (mD (nv (dP (t6 (ae 6) (dC (η 2))))) (mD (ba (acW (t6 (ae 7) (dC (η 2))) c9)) (ba (ay (dW true) (aov 7) aah))))) (bO (ji fB ZJ [aeJ])) fo)))) (ET ZJ)))
abbrev kI(o8 cm o9:D1):D1:=abP 6 (amO (ju true) b9 aAD aF9 (ais (eY b8 aNa (amM asX (iL aAD) (ba (ay (dW true) b8 b9)))) (EV (amb auQ (aEY asL)) (azQ (gN 2))) (aG (bL 4 (av o8 (ahb (aEY asL)))) (aG (bL 5 (ay (rn false) (av cm [axt,aah,c9]) (dC .bb))) (ahO (bu (mD (ajM IH (akQ "wait") (Θ 0)) (A6 (dP ZJ) (dP aeJ))) (aqc amy (iS [(aly aKZ (akQ "wait")),ZJ,aeJ])) (anT o9)) (aaM "ok"))))))
abbrev rV(o9:D1):D1:=avB 2 (eY b8 (aaM "now") (ax8 aKZ)) (hG (iL (av (jO false) [amy])) (gN 1) (bu (ba (ay leP (aEY amy) aKZ)) (axX (rB amy b9) (anT o9)) fo)) aBZ
abbrev lF(o7:D1):D1:=abP 2 (ahC (acW (aEY axt) (aaM "plain")) aF9 (ais (as5 (amq o7) aF8) (aqc aMX (amb (C3 [("straight",aq7),("branch",(dC af9))]) (ami aMX))) aBZ))
abbrev pb:D1:=abP 6 (ahO (hG (iL (aly aAD (av (jO false) [amy]))) (gN 3) (bu (ba (acW (ak8 (axG asL)) b9)) (alk 4 (nF amy aah (iS [(Θ 0),(aem [c9]),(aoe .bl)])) (avj (dP (t6 ZJ (dC (η 2)))) (axR c9 aF5) (ais (eY b8 aNa (amM (akb 3) (iL aAD) (ba (ay (dW true) b8 b9)))) (bO (xV amy aah (dC .bb))) (alk 5 (av (lE false) [(t6 (axG asL) (dC (η 1)))]) (ahO (eY (akQ "locks") (ak8 (aov 5)) (dC .bb)) aeJ))))) fo)) (dC .bb))
abbrev pW(cm pd:D1):D1:=abP 6 (aiL (EV (amb auQ c9) (gT 2 (dA (gN 3) (aqo 4)))) (amO (rn true) (av cm [axt,ZJ,aah]) (dC .bb) aF9 (ahC (agZ b9 akR) aF8 (alk 5 (av pd [b8,c9,b9]) (amO (rn false) aeJ (dC .bb) aGa (ahO (aqc akR (aem [(wz false aeJ dn (gB (Θ 1))),(ajg aeJ),(aoe .bl)])) (aaM "ok")))))))
abbrev wM(cm pd:D1):D1:=aE0 6 2 (axg akR) 3 (ak8 amY) (aiL (as5 (t6 c9 (dC (η 2))) aGa) (amO (dW true) (t6 c9 (dC (η 1))) aqd (ais (eY (akQ "locks") (ak8 (ak8 (t6 c9 (dC (η 1))))) (dC .bb)) (aqc akR (aem [(aly (wz false (t6 c9 (dC (η 1))) dn (gB (Θ 1))) amY),(ajg (t6 c9 (dC (η 1)))),(aoe .bl)])) aBZ) (alk 4 (av cm [axt,(t6 aah (dC (η 0))),aBC]) (amO (rn false) ZJ (dC .bb) (ahO (aqc akR (aem [amY,aqd,(dC (.bl true))])) (aaM "ok")) (alk 5 (dC .bb) (ahC (agZ (iS [aBC,ZJ]) auQ) (bL 5 (av pd [b8,(ji vv auQ [(iS [aBC,ZJ])]),b9])) (amO (rn false) aeJ (dC .bb) aGa (ahO (aqc akR (aem [(aly (wz false aeJ dn (gB (Θ 1))) amY),(ajg aeJ),(aoe .bl)])) (aaM "ok")))))))))
abbrev rW:D1:=abP 3 (aG (bL 2 (axg akR)) (ais (bu (mD (ba (acW (agR amY) (Θ 1))) (nv (dP (t6 c9 (dC (η 2)))))) aF8 fo) (aqc akR (aem [(wz false amY dn (gB (sZ (Θ 1)))),(t6 c9 (dC (η 1))),(t6 c9 (dC (η 2)))])) (ahC (acW (agR amY) (Θ 1)) (bO (rB akR b9)) aBZ)))
abbrev rX:D1:=abP 7 (aG (bL 2 (axg akR)) (ais (as5 (t6 c9 (dC (η 2))) aGa) (auk (iL (t6 c9 (dC (η 1)))) (eY (akQ "locks") (t6 aah (dC (η 0))) (dC .bb))) (aG (bL 4 (cg false aiw (iL (Lk false amY (gB (sZ (Θ 1))))) (gN 0) sI (iS [akC,(amw 2),(amw 1)]))) (ais (aqc akR (aem [ZJ,aqd,(aoe .bl)])) (hG (iL (av (jO false) [amy])) (gN 5) (alk 6 (amb amy aeJ) (eY amy aeJ (iS [(aov 6),(amM asX (iL (t6 (ae 6) (dC (η 1)))) (ba (ay (dW true) b8 b9))),(t6 (ae 6) (dC (η 2)))])))) aBZ))))
abbrev tO:D1:=avC 5 4 (C3 [("set",(agR asL)),("cancel",(agR asL)),("throw",(agR axt))]) (aiL (eY ZJ (aaM "enter") (agR auQ)) (ahC (agZ b9 ZJ) (aeu (ER leP Jk (Θ 0) c9 (axg ZJ))) (aeu (xO (ay (dW false) b9 (aaM "tick")) (adU (ju false) akR)))))
abbrev rY(xZ E3 vB ya yb Bo Ju Bp Bq:D1):D1:=abP 4 (aiL (bu (nv (dP (av xZ [b8,b9,c9,aah]))) aF9 fo) (ahC (ay (dW false) b9 aEV) (aeu (av E3 (ahb c9))) (ahC (ay (dW false) b9 apy) (aeu (av vB (ahb c9))) (ahC (ay (dW false) b9 aJr) (aeu (av ya (ahb c9))) (ahC (ay (dW false) b9 (aaM "enter")) (aeu (av yb [b8,aah,c9])) (ahC (ay (dW false) b9 (aaM "tick")) (aeu (av Bo aiV)) (ahC (ay (dW false) b9 (aaM "go")) (aeu (av Ju (ahb aah))) (ahC (ay (dW false) b9 aEK) (aeu (av Bp (ahb aah))) (aeu (av Bq (ahb aah)))))))))))
abbrev kJ(cm o8:D1):D1:=abP 4 (aiL (EV (ami auQ) (azQ (gN 2))) (amO (rn false) (av cm [axt,aah,c9]) (dC .bb) (aeu (awS [(aaM "enter"),b9,(amb (aem [(Θ 0),(Θ 101),(Θ 102),(Θ 103),(Θ 104)]) (av Jl [(Θ 4),(agR akR)]))])) (aeu (cg false aiw (iL (amq o8)) (gN 0) sI (iS [(aaM "go"),(Θ 0),b8])))))
abbrev pe(fD kg:D1):D1:=abP 12 (aG (bL 3 (av fD (ahb b9))) (aG (bL 4 (av (jO false) [aJg])) (aqK 5 (KZ (dP ZJ) (t6 ZJ (ay cC (adU eh (Θ 16)) aFS)) (Θ 7)) 6 (aem [aEV,aEV,(aaM "go"),(aaM "go"),(aaM "go"),aEK,aEK,(aaM "enter"),apy,(aaM "tick"),aJr,(aaM "turn")]) (aqK 7 (t6 (ae 6) (ay cC (adU eh (Θ 4)) (Θ 12))) 8 (C3 [("set",(agR aLS)),("cancel",(agR aLS)),("throw",(agR (aiN "pieces")))]) (aG (bL 9 (ay cC (av fD (ahb (ax8 b9))) (av TC [(Θ 1),aHE]))) (ais (bu (mD (ba (acW (adU cC (Θ 4)) (Θ 0))) (dP (aiN "green"))) (aqK 10 (t6 (aiN "green") (ay cC (adU eh (Θ 64)) (agR (aiN "green")))) 11 (atE (av kg [c9,aGn]) (awS [apy,(ae 10),(Θ 0)]) aGr) (as5 (ae 11) (aeu (t6 (ae 11) (ay cC (adU eh (Θ 1024)) (agR (ae 11))))))) fo) (bu (mD (dP aNc) (mD (dP ZJ) (ba (acW (adU cC (Θ 4)) (Θ 2))))) (aFh [(t6 (aem [(aaM "turn"),(aaM "go"),(aaM "turn"),(aaM "tick")]) (ay cC (adU eh (Θ 64)) (Θ 4))),(Θ 0),(t6 ZJ (ay cC (adU eh (Θ 256)) aFS))]) fo) (aiL (bu (mD (ata (ae 7) apy) (dP (aiN "green"))) (bL 9 (t6 (aiN "green") (ay cC (adU eh (Θ 64)) (agR (aiN "green"))))) fo) (ahC (acW (adU cC (Θ 32)) (Θ 1)) (alk 9 (t6 (aem [(sZ (Θ 1)),aHE,(aly (Θ 1000) (atG 32 (Θ 1000)))]) (ay cC (adU eh aBg) (Θ 3))) (bL 5 (t6 (aem [(sZ (Θ 5)),(Θ 3),aKF]) (ay cC (adU eh aBg) (Θ 3))))) (aFh [(ae 7),(ae 9),(KZ aHF aeJ (t6 (aem [(Θ 0),(Θ 100),(Θ 101),(sZ (Θ 3))]) (ay cC (adU eh (Θ 512)) (Θ 4))))])))))))))
abbrev mY aQh:D1:=abP 1 (bK (cg true (aox none) (iL aJs) (gT 2 (dA (gN 0) (aqo 1))) sI (iS (ahb (av (lE true) [b9])))))
abbrev mZ aQh(gI:D1):D1:=abP 2 (ahO (anT gI) (ami aJu))
abbrev jQ aQh(gK:D1):D1:=abP 2 (ahO (anT gK) (agZ b9 (agh "greens")))
universe Sb
universe zE
universe zE
end
mutual
section
noncomputable section
namespace Sb
open PySem L2
abbrev tP(cK lY bQ rK:Addr)aWk:D1:=avC 6 4 (dC .bb) (ahO (G2 [cK,bQ,lY,rK] 4 5 (bu (aus aEV) (av1 ny) (bu (as9 apy) (av1 tQ) (bu (aus aJr) (av1 wN) (bu (as9 (aaM "enter")) (avZ wO [b8,aah,c9]) (bu (as9 (aaM "tick")) (avZ Br aiV) (bu (as9 (aaM "go")) (aBE Qh) (bu (aus aEK) (aBE Bs) (aBE Bt))))))))) (ay (rn false) ZJ (dC .bb)))
abbrev n0 aQh(fi:D1):D1:=avB 9 (auk (xQ [ayN]) (awm (amM [none,ahM,arA,avG] (iT (ajg (t6 b9 aBR))) (aKs (ajg (t6 b9 (t6 c9 (adU (dX false) (Θ 1))))))) .bl)) (auk (ZB [(Θ 1),ayN]) (aqK 4 (t6 b9 aBR) 5 (amM [none,ahM,arA,avG] (iT (ajg ZJ)) (aKs (ajg (t6 b9 (t6 c9 (adU zv (Θ 1))))))) (alk 6 (amM [none,ahM,arA,avG] (iT (ajg ZJ)) (aKs (ajg (t6 b9 (t6 c9 (adU (dX false) (Θ 1))))))) (bu (ba (acW (t6 ZJ (dC (η 0))) aq6)) (aqK 7 (t6 ZJ (ay (dX false) (Θ 2) (av qI [(acW (iG aF "lies" fi b8 [aBR]) aq7)]))) 8 (xO (sH (agZ aF5 aeJ) (agZ (ae 7) (ae 6))) (sH (agZ aF5 (ae 6)) (agZ (ae 7) aeJ))) (awm (ae 8) .bl)) fo)))) (aeu (dC (.bl true)))
abbrev vC aQh(rZ vD fI cH tR fi nJ:D1):D1:=abP 13 (aG (bL 4 aqd) (ais (hG (iL c9) (gN 5) (alk 6 (iG aF "where" rZ b8 [aeJ]) (apI (avj (nv (dP (ae 6))) (A6 (nv (dP (av vD [b8,b9,(ae 6)]))) (dP (av EY [(cg false (akb 4) (iL (ae 6)) (gN 0) sI (agZ b8 b9))]))) (aeu (aoe .bl))) 4 (akt ZJ (ae 6)) (awm (av vw [(cg false (ahp ai9 (some 5)) (iL (ae 6)) (gN 0) sI (sH (acW (asG aF cH b9 aiV) c9) (ay (rn false) (iG aF "lock_of" fI b9 aiV) (dC .bb))))]) .bl)))) (awm (av vw [(cg false (ahp (some 4) ai9) ayU (gN 0) sI (xO (agZ b8 b9) (ay (rn false) (asG aF cH c9 aiV) (dC .bb))))]) .bl) (aG (bL 7 oX) (ahO (hG (iE (iG aF "ways" tR b8 [])) (gT 2 (dA (gN 8) (aqo 9))) (alk 10 (sH (av vw [(cg false (ahp ai9 (some 8)) (iL aGA) (gN 0) sI (acW (iG aF "lock_of" fI b9 [akC]) c9))]) (ay (ju true) (ae 8) aah)) (aiL (hG (iL aGA) (gN 11) (alk 12 (t6 b9 ayD) (bu (mD (ata (aov 12) aq6) (dP (ae 10))) (bL 10 (acW (iG aF "lies" fi b8 [ayD]) (amb (aem [aq7,(dC af9)]) (av qI [(agZ (t6 (ae 12) (dC (η 2))) (ajg (ae 11)))])))) fo))) (eY (ae 7) (aov 9) (xO (nF (ae 7) (aov 9) (aoe .bl)) (ae 10)))))) (av vw [(tM (oY (ae 7)) (cg false (ahp ai9 (some 7)) (oY (ae 7)) (gN 0) sI (acW (iG aF "is_green" nJ b9 aiV) aF2)))])))))
abbrev tT aQh(vE tU fD tV E4 Bu cH fI fi Bv yc Bw:D1):D1:=abP 13 (aG (bL 1 (av vE (ahb (Θ 0)))) (aG (bL 2 (av tU [b8,(Θ 40),b9])) (aqK 3 (ay cC (av fD (ahb (Θ 39))) (Θ 4)) 4 (u0 aF tV [(av (lE false) [b9]),(av (lE false) [c9]),aah]) (aG (bL 5 (av E4 [b9,c9,aah])) (aG (bL 6 (amM asX ayU (ata (ak8 (ay aK b9 b8)) aq6))) (ahO (hG (xQ [(ay cC (av fD (ahb (Θ 38))) (Θ 31))]) (gN 7) (apI (EV (av Bu [b8,(atE (Θ 60) (Θ 2) (ae 7)),aeJ]) (gT 3 (dA (gN 8) (dA (gN 9) (aqo 10))))) 11 oX (ais (hG (iL (ae 6)) (gN 12) (avj (ajM (rn true) (iG aF "lock_of" fI ZJ aqr) (dC .bb)) (ajM (rn true) (asG aF cH ZJ aqr) (dC .bb)) (eY (ae 11) (ae 12) (iG aF "lies" fi ZJ aqr)))) (avZ Bv [aeJ,(ae 8),(ae 9),(ae 10)]) (ais (avZ yc [ZJ,(ae 8),(ae 9),(ae 10)]) (awm (av vw [(tM (oY (ae 11)) (cg false (ahp (some 4) (some 11)) (oY (ae 11)) (gN 0) sI (acW (iG aF "lies" fi b9 aiV) aF2)))]) .bl) (awm (av Bw [ZJ,b9,(av (jO false) [(aJh aeJ)]),(av (jO false) [(t6 aeJ (dC (c7 "falls")))])]) .bl))))) (dC (.bl true))))))))
universe Sb
universe zE
universe zE
section
namespace L2
open PySem
section
variable {ρ:eu} {M:aY}
@[simp] def aA aPt:ae i ρ M=(match ρ[i]? with | akj x=>.ok x M | _=>d5):=rfl
@[simp] def bA aPw:dC x ρ M=.ok x M:=rfl
@[simp] def aM:fH [] ρ M=.ok [] M:=rfl
@[simp] def ax aPo aQJ:fH (d::ds) ρ M=anL (aaQ).bind (aic (fH ds ρ M1).bind xs (.ok (x::xs) M2)):=rfl
@[simp] def r6 aQJ:iS ds ρ M=akY (al9).bind xs (.ok (sT xs) M1):=rfl
@[simp] def jR{l:Bool}aQJ:cE l ds ρ M=akY (al9).bind xs (tJ l xs M1):=rfl
@[simp] def aD{f:D2}{a b:DE}:ay f a b ρ M=anL (a ρ M).bind (aic (b ρ M1).bind y (f x y M2)):=rfl
@[simp] def aZ{f:D1}aQJ:av f ds ρ M=akY (al9).bind xs (f xs M1):=rfl
@[simp] def eG aPo:dP d ρ M=anL (aaQ).bind (asZ (jG M1 x) M1):=rfl
@[simp] def bI aPo:ba d ρ M=anL (aaQ).bind (match x with | .bl b=>.ok b M1 | _=>d5):=rfl
@[simp] def m3{a b:DT}:mD a b ρ M=akY (a ρ M).bind k (ahy k (b ρ M1) (.ok false M1)):=rfl
@[simp] def vF{a b:DT}:A6 a b ρ M=akY (a ρ M).bind k (if c8 k then .ok true M1 else b ρ M1):=rfl
@[simp] def m4{a:DT}:nv a ρ M=akY (a ρ M).bind k (.ok (! k) M1):=rfl
@[simp] def By{t:DT}{a b:DE}:KZ t a b ρ M=akY (t ρ M).bind k (ahy k (a ρ M1) (b ρ M1)):=rfl
@[simp] def r9{l:Bool}aPo{dl dh:DO}:wz l d dl dh ρ M=anL (aaQ).bind (aic (dl ρ M1).bind lo ((dh ρ M2).bind λ hi M3=>GV l x lo hi M3)):=rfl
@[simp] def lp:dn ρ M=.ok none M:=rfl
@[simp] def nz aPo:gB d ρ M=anL (aaQ).bind (match x with | η i=>.ok av6 M1 | _=>d5):=rfl
@[simp] def ac7 aPo:ET d ρ M=anL (aaQ).bind (ES x M1):=rfl
@[simp] def aa1{f:DM}aPo aQJ:ji f d ds ρ M=anL (aaQ).bind (match jg M1 x with | aqa=>aic (fH ds ρ M1).bind xs (f x xs M2) | none=>d5):=rfl
@[simp] def aeW:fo ρ M=.nx ρ M:=rfl
@[simp] def Ub{a b:DS}:aG a b ρ M=(match a ρ M with | .nx ρ' M'=>b ρ' M' | o=>o):=rfl
@[simp] def aa2 aPo:bO d ρ M=alj (aaQ).out _ (.nx ρ M1):=rfl
@[simp] def ac8 aPo:bK d ρ M=alj (aaQ).out x (.rt x M1):=rfl
@[simp] def aa3:aaJ ρ M=.rt .bb M:=rfl
@[simp] def ac9{t:DT}{a b:DS}:bu t a b ρ M=alj (t ρ M).out k (ahy k (a ρ M1) (b ρ M1)):=rfl
@[simp] def Uc aPt aPo:bL i d ρ M=alj (aaQ).out x (.nx (ρ.set i aeU) M1):=rfl
@[simp] def ada aPo{g:DG}:EV d g ρ M=alj (aaQ).out x (match g x ρ with | some ρ'=>.nx ρ' M1 | none=>d5):=rfl
@[simp] def ago aPt aPw:gN i x ρ=f7 (ρ.set i aeU):=rfl
@[simp] def aeX:sI ρ M=.ok true M:=rfl
@[simp] def ZF aP5 aQJ:Jn C ds ρ M=alj (al9).out _ (L6 C ρ M1):=rfl
@[simp] def ag aQd{x:α}aSA:(Res.ok x M).bind f=f x M:=rfl
@[simp] def A4 aPp{x:α}:Res.opt aeU M=.ok x M:=rfl
@[simp] def Pu aPp:(Res.opt none M:amS)=d5:=rfl
@[simp] def Yb aPw:(Out.rt x M).res=.ok x M:=rfl
@[simp] def X9:(Out.nx ρ M).res=.ok .bb M:=rfl
@[simp] def TQ aP9:(Out.exc c ρ M).res=L6 c M:=rfl
universe zE
abbrev Pl:ali (ad9 PV)
 | 0,x=>match x with
  | .bb=>True
  | η _=>True
  | c7 x=>aD3 (c7 x)
  | _=>False
 | k+1,x=>match x with
  | .bb=>True
  | η _=>True
  | c7 x=>aD3 (c7 x)
  | ς xs=>ash
  | sT xs=>ash
  | _=>False
def nA aQd{f:ajz α β}{g:α->β}:∀aRN,(∀x∈xs,f x=f7 (g x))->akE f=f7 (xs.map g)
 | [],_=>rfl
 | x::xs,h=>by
  rw[aga nV (h x Ξ) (nA (ao1 y (h y (ahv hy))))];rfl
abbrev fy aPS aPO:PyData:=(flat [] k x).getD abc
def k7 aPc:∀aPS aPO,Pl k x->flat M k x=f7 (fy k x)
 | 0,x,h=>by
  cases x<;>simp_all [Pl,fy,flat,leaf]
 | k+1,x,h=>by
  cases x with
  | lst xs =>
   rw[d6 h' ash h e (∀N:aY,flat N (k+1) (ς xs)=amC ao2 (xs.map (fy k))) (λ N=>by
    rw[ako flat (nA (ao1 y (k7 k y (h' y hy))))];rfl)]
   rw[e,fy,e]; rfl
  | tup xs =>
   rw[d6 h' ash h e (∀N:aY,flat N (k+1) (sT xs)=amC av4 (xs.map (fy k))) (λ N=>by
    rw[ako flat (nA (ao1 y (k7 k y (h' y hy))))];rfl)]
   rw[e,fy,e]; rfl
  | _=>simp_all [Pl,fy,flat,leaf]
def jw aPg aUa:fy (k+1) (ς xs)=ao2 (xs.map (fy k)):=by
 have e:flat [] (k+1) (ς xs)=amC ao2 (xs.map (fy k)):=by
  rw[ako flat (nA (ao1 y (k7 k y (h y hy))))];rfl
 rw[fy,e]; rfl
def jy aPg aUa:fy (k+1) (sT xs)=av4 (xs.map (fy k)):=by
 have e:flat [] (k+1) (sT xs)=amC av4 (xs.map (fy k)):=by
  rw[ako flat (nA (ao1 y (k7 k y (h y hy))))];rfl
 rw[fy,e]; rfl
def ye aPg(ih:∀x y,Pl k x->Pl k y->(c8 (PyData.eqv (fy k x) (fy k y))↔x=y)):∀xs ys:d9,ash->(∀y∈ys,Pl k y)->(c8 (PyData.eqvAll (xs.map (fy k)) (ys.map (fy k)))↔xs=ys)
 | [],[],_,_=>aMh
 | [],y::ys,_,_=>aMh
 | x::xs,[],_,_=>aMh
 | x::xs,y::ys,hx,hy=>by
  rw[zC,zC,PyData.eqvAll,Bool.and_eq_true,ih x y (hx x Ξ) (hy y Ξ),ye ih xs ys (λ z hz=>hx z (f6 hz)) (λ z hz=>hy z (f6 hz))];simp
def fO aPg:fy k .bb=abc:=by cases k<;>rfl
def fP aPg aPu:fy k (η i)=η i:=by cases k<;>rfl
def ff aPg aPl(h:aD3 (c7 x)):fy k (c7 x)=c7 x:=by cases k<;>simp[fy,flat,leaf,h]
inductive Pk:ali (ad9 PV)
 | bb aPg:Pk k .bb
 | int aPg aP0:Pk k (η i)
 | str aPg aPl(h:aD3 (c7 x)):Pk k (c7 x)
 | lst aPg aUa:Pk (k+1) (ς xs)
 | tup aPg aUa:Pk (k+1) (sT xs)
def Pl.pk aPg aPw(h:Pl k x):Pk k x:=by
 cases k with
 | zero =>
  cases x with
  | bb=>exact .bb
  | int i=>exact η i
  | str x=>exact c7 h
  | _=>exact h.elim
 | succ k =>
  cases x with
  | bb=>exact .bb
  | int i=>exact η i
  | str x=>exact c7 h
  | lst xs=>exact ς h
  | tup xs=>exact sT h
  | _=>exact h.elim
def Bz aPS:∀(x y:PV),Pl k x->Pl k y->(c8 (PyData.eqv (fy k x) (fy k y))↔x=y):=by
 induction k with
 | zero =>
  intro x y hx hy;cases hx.pk with
  | bb=>cases hy.pk with
   | bb=>rw[aJk fO]
   | int j=>rw[ajZ fO fP]
   | str h=>rw[ajZ fO (ff h)]
  | int i=>cases hy.pk with
   | bb=>rw[ajZ fO fP]
   | int j=>rw[aJk fP]
   | str h=>rw[ajZ fP (ff h)]
  | str h=>cases hy.pk with
   | bb=>rw[ajZ fO (ff h)]
   | int j=>rw[ajZ fP (ff h)]
   | str h'=>rw[ajZ (ff h) (ff h')]
 | succ k ih =>
  intro x y hx hy;cases hx.pk with
  | bb=>cases hy.pk with
   | bb=>rw[aJk fO]
   | int j=>rw[ajZ fO fP]
   | str h=>rw[ajZ fO (ff h)]
   | lst h=>rw[aBe fO h]
   | tup h=>rw[aBf fO h]
  | int i=>cases hy.pk with
   | bb=>rw[ajZ fO fP]
   | int j=>rw[aJk fP]
   | str h=>rw[ajZ fP (ff h)]
   | lst h=>rw[aBe fP h]
   | tup h=>rw[aBf fP h]
  | str h=>cases hy.pk with
   | bb=>rw[ajZ fO (ff h)]
   | int j=>rw[ajZ fP (ff h)]
   | str h'=>rw[ajZ (ff h) (ff h')]
   | lst h'=>rw[aBe (ff h) h']
   | tup h'=>rw[aBf (ff h) h']
  | lst h=>cases hy.pk with
   | bb=>rw[aBe fO h]
   | int j=>rw[aBe fP h]
   | str h'=>rw[ajZ (jw h) (ff h')]
   | lst h'=>rw[jw h,jw h',PyData.eqv,ye ih _ _ h h'];simp
   | tup h'=>rw[aBf (jw h) h']
  | tup h=>cases hy.pk with
   | bb=>rw[aBf fO h]
   | int j=>rw[aBf fP h]
   | str h'=>rw[ajZ (jy h) (ff h')]
   | lst h'=>rw[aBe (jy h) h']
   | tup h'=>rw[jy h,jy h',PyData.eqv,ye ih _ _ h h'];simp
def yW aQI{p:Prop} [Decidable p] (h:c8 b↔p):b=aK2:=by
 cases b<;>simp_all
def se aQf aSP aPc{p:Prop} [Decidable p] (hx:ate x)(hy:ate y)(h:x=y↔p):dW neg x y M=.ok (.bl (aja aK2 aK2)) M:=by
 rw[asN dW (k7 deep x hx) (k7 deep y hy)];rw[yW (x6 (Bz deep x y hx hy) h)]
def sf aQf aPp aSD aUs aVc [Decidable (a∈as)] {y:PV}aPc(hy:am6 y=f7 (as.map enc)) :
  ju neg aoO y M=.ok (.bl (aja (ac5 a as) (ac5 a as))) M:=by
 unfold ju
 rw[agV hy]
 rw[asB (k7 deep _ (hp a)) (nA (g:=ax3) λ z hz=>by
  obtain⟨b,_,rfl⟩:=List.mem_map.mp hz
  exact k7 deep _ (hp b))]
 rw[auo (((as.map enc).map ax3).any (alH q q aGl)=ac5 a as) (by
  rw[aiy (yW ?_) List.any_eq_true];constructor
  ·rintro⟨q,hq,he⟩;rw[ahP z hz hq];rw[ahP b hb hz];have:=inj _ _ ((Bz deep _ _ (hp b) (hp a)).mp he);rw[aeq this hb]
  ·intro hm;rw[aas _ (ahg _ (ahg a hm)) ((Bz deep _ _ (hp a) (hp a)).mpr rfl)])]
def jH aPg aP0:Pl k (η i):=by cases k<;>trivial
def vG aPg:Pl k .bb:=by cases k<;>trivial
@[simp] def fu aQf aRD:dW neg (η i) (η j) M=.ok (.bl (aja (afJ i j) (afJ i j))) M:=se (jH i) (jH j) Ξ
@[simp] def qO aQf aPu aRO aPc:ju neg (η i) (ς aAI) M=.ok (.bl (aja (ac5 i ns) (ac5 i ns))) M:=sf (enc:=PV.int) (λ a=>jH a) (λ a b e=>by cases e; rfl) rfl
@[simp] def wQ aQf aPu aRO aPc:ju neg (η i) (sT aAI) M=.ok (.bl (aja (ac5 i ns) (ac5 i ns))) M:=sf (enc:=PV.int) (λ a=>jH a) (λ a b e=>by cases e; rfl) rfl
def vH aPp{w:DV}{g:DG}aUb aPc aR1(P:awf)(f:α->PV)(R:aCg)(hc:vq w M) :
  ∀aRM(ρ:eu)(acc:d9),R ρ->(∀x∈xs,∀ ρ,R ρ->aDG (ayn M=.ok (P x) M/\(c8 (P x)->atN M=.ok (f x) M)))->aqq (aEO xs.length) →
   oW w g tc d au4 ρ M acc=.ok (acc++(xs.filter P).map f) M
 | [],ρ,acc,_,_,_=>f6 oW
 | x::xs,ρ,acc,hR,h,hl=>by
  obtain⟨ρ1,h1,h2,h3,h4⟩:=h x Ξ ρ hR;simp only[zE] at hl;rw[aj2 zC oW h1];rw[h3,Res.wB];cases hp:P x with
  | true =>
   rw[afC,h4 hp,Res.wB,if_pos ⟨hc,b6⟩,vH enc P f R hc xs ρ1 _ h2 aDv (by rw[afo]),List.filter_cons_of_pos hp];simp
  | false =>
   rw[if_neg d7,aJ6,vH enc P f R hc xs ρ1 _ h2 aDv b6,List.filter_cons_of_neg (f6 hp)]
def cc aPp aRm{my:aer}aS9 aUb aR0{w:DV}aRN aR1(P:awf)(f:α->PV)(R:aCg)
  aWb aUV(h:∀x∈xs,∀ ρ,R ρ->aDG (ayn M'=.ok (P x) M'/\(c8 (P x)->atN M'=.ok (f x) M')))(hl:aBw) :
  cg live my di g tc d ρ M=tJ live ((xs.filter P).map f) M':=by
 unfold cg;rw[hi,ag,aJ6,vH enc P f R hc xs _ _ hR h (aam hl)];rfl
def Ud aS9{s1:DS}aR0 aPi{w:DV}(hi:apd=.ok (xs,w) M')(hc:asa):hG di g s1 ρ M=xR w g s1 xs ρ M':=by
 rw[aiY hG hi Res.eV aJ6]
@[simp] def ej aPo aR0 aPi(h:aaQ=.ok (ς xs) M'):iL d ρ M=.ok (xs,none) M':=by rw[avg iL h]
def yg aPo aR0 aPa aPi(h:aaQ=.ok (ο n) M')(hn:M'[n]? = agz):iL d ρ M=.ok (xs,aHk) M':=by rw[asN iL h ag]; rw[hn]
def Jv aPo aR0 aPi(h:aaQ=.ok (sT xs) M'):iT d ρ M=.ok (xs,none) M':=by rw[avg iT h]
abbrev qe aPd aQm aPh aPO:Prop:=∃G,g xs M=.ok x (M++G)
def qe.trunc aQZ aRR aPw(h:qe g xs M x)(hb:aJf x):trunc g xs M=.ok x M:=by
 rw[amD G h];rw[aga L2.trunc e (K4 Ξ hb)]
universe L2
universe zE
section
namespace L2
open PySem
section
variable {Q:aiu} {ρ:eu} {M:aY} {s1 s2:DS} {d:DE} {t:DT}
abbrev E5(Q:aiu)(s2:DS):aiu
 | .nx ρ M=>Q (s2 ρ M)
 | o=>Q o
def aH(h:E5 Q s2 azy):Q (aG s1 s2 ρ M):=by
 unfold aG;cases e:azy<;>rw[e] at h<;>exact h
def wR aPt aPO aSW(q:Q (.nx (ρ.set i aeU) M')):Q (bL i d ρ M):=by
 rw[ahc bL h q]
def aT aPt aPO aSW(q:Q (s2 (ρ.set i aeU) M')):Q (aG (bL i d) s2 ρ M):=aH (wR x M' h q)
def eO(k:Bool)aRx(h:t ρ M=.ok k M')(q1:c8 k->Q (s1 ρ M'))(q2:acS k->Q (s2 ρ M')):Q (bu t s1 s2 ρ M):=by
 rw[apH bu h];cases k with
 | true=>exact q1 rfl
 | false=>exact q2 rfl
def G5 aRx(h:t ρ M=.ok true M')(q1:Q (s1 ρ M')):Q (bu t s1 s2 ρ M):=eO true M' h (λ _=>q1) nofun
def pO aRx(h:t ρ M=.ok false M')(q2:Q (s2 ρ M')):Q (bu t s1 s2 ρ M):=eO false M' h nofun (λ _=>q2)
def bx aPO aSW(q:Q (.rt x M')):Q (bK d ρ M):=by
 rw[ahc bK h q]
def cy aPO aSW(q:Q (.nx ρ M')):Q (bO d ρ M):=by
 rw[ahc bO h q]
def G6{g:DG}aPO(ρ':eu)aSW(hg:b7 (g x ρ) ρ')(q:Q (.nx ρ' M')):Q (EV d g ρ M):=by
 rw[aiY EV h Res.eV hg];exact q
def dq(q:Q (.nx ρ M)):Q (fo ρ M):=q
abbrev Body(w:DV)(R:eu->ayu)(Q:aiu):aiu
 | .nx ρ M=>vq w M/\R ρ M
 | .ct ρ M=>vq w M/\R ρ M
 | .bk ρ M=>Q (.nx ρ M)
 | o=>Q o
def Jw aPp{w:DV}{g:DG}aR1(R:af1->eu->ayu)aRM aVL
  aVj :
  ∀(post pre:af1)aR7,xs=pre++post->R pre ρ M->Q (xR w g s1 (post.map enc) ρ M)
 | [],pre,ρ,M,e,h=>by rw[zI] at e;rw[aeq e (k ρ M h)]
 | x::post,pre,ρ,M,e,h=>by
  obtain⟨ρ1,h1,h2⟩:=hs pre x post e ρ M h;rw[aj2 zC xR h1];cases e2:s1 ρ1 M with
  | nx ρ' M' =>
   rw[e2] at h2;dsimp only;rw[Ω (if_pos h2.1) (Jw enc R xs k hs post (agw x) ρ' M' (by rw[arW]) h2.2)]
  | ct ρ' M' =>
   rw[e2] at h2;dsimp only;rw[Ω (if_pos h2.1) (Jw enc R xs k hs post (agw x) ρ' M' (by rw[arW]) h2.2)]
  | bk ρ' M'=>rw[t7 e2 h2 h2]
  | rt x M'=>rw[t7 e2 h2 h2]
  | exc c ρ' M'=>rw[t7 e2 h2 h2]
  | bad=>rw[t7 e2 h2 h2]
def fS aPp aS9 aR1(R:af1->eu->ayu)aRM(w:DV)(M1:aY)(hi:apd=.ok (au4,w) M1)(hc:vq w M1)(h0:R [] ρ M1)
  aVj aVL:Q (hG di g s1 ρ M):=by
 rw[aiY hG hi Res.eV aJ6];exact Jw enc R xs k hs xs [] ρ M1 rfl h0
abbrev Fin(P:avt)(o:Out):Prop:=P o.res
def cV aPa aPi{d:DS}aSo(h:Fin P (d (aJm++auJ (n-xs.length) none) M)):P (gq n d xs M):=h
def aV aSo aPw(h:P (.ok x M)):Fin P (.rt x M):=h
def fJ aSo(h:P (.ok .bb M)):Fin P (.nx ρ M):=h
def cT aSo aP9(h:P (L6 c M)):Fin P (L6 c ρ M):=h
def az(h:Q (s2 ρ M)):E5 Q s2 (.nx ρ M):=h
def cY aPw(h:Q (.rt x M)):E5 Q s2 (.rt x M):=h
def dr aP9(h:Q (L6 c ρ M)):E5 Q s2 (L6 c ρ M):=h
def bC aUW(hc:vq w M)(h:R ρ M):awq w R Q (.nx ρ M):=⟨hc,h⟩
def AA aUW aPw(h:Q (.rt x M)):awq w R Q (.rt x M):=h
def Qi aUW aP9(h:Q (L6 c ρ M)):awq w R Q (L6 c ρ M):=h
universe zE
@[simp] def G7 aPc aQj:acL (M++[o]) M.length o:=Ξ
@[simp] def BA aPc{o o':MO}:(M++[o]).set M.length o'=M++[o']:=Ξ
def E6 aPa:∀aPi,(∀x∈xs,c8 (PV.mr n x))->c8 (axV n)
 | [],_=>agB PV.sX
 | x::xs,h=>by rw[PV.sX,h x Ξ,E6 aDv]; rfl
def Ll aPa aV8:c8 (PV.mr n (ς xs)):=by rw[Ω PV.mr (E6 h)]
def AB aPa aV8:c8 (PV.mr n (sT xs)):=by rw[Ω PV.mr (E6 h)]
@[simp] def adb aPa aPu:c8 (PV.mr n (η i)):=aKn
@[simp] def ade aPa:c8 (PV.mr n .bb):=aKn
@[simp] def adf aPa aPl:c8 (PV.mr n (c7 x)):=aKn
@[simp] def aeY aPa aQI:c8 (PV.mr n (.bl b)):=aKn
universe L2
universe zE
end
mutual
section
namespace L2
open PySem PySem.Spec PyProof.Rows
abbrev G8 aPe:Sp:=λ vs H Q E=>∃(a:Addr) (ns:acm),vs=[V.ref a]/\qB K H a aq5/\∀H',ajQ af4
def aa4 aPG aQZ(hg:∀ns M,∃M',g [.pR ns] M=.ok af4 M')aQu aPy aP2 aQN(h:G8 K vs H Q E):Oq K 1 g vs H Q E:=by
 rw[anJ a ns hS h];rw[amD M' (hg ns [])];refine⟨rfl,[],H,[],[.pR ns],ahh (mq.refl H) List.nodup_nil (λ n a o h=>nomatch h),.one (bj.wq.mpr (ad5 a hS)),?_⟩;rw[e];intro ι' S' H' v _ _ r;rw[Ω aEH (q H')]
def MY aPG aQZ(hg:∀ns,∃M',g [.pR ns] []=.ok af4 M')aQu aPy aP2 aQN(h:G8 K vs H Q E):Oq K 1 g vs H Q E:=by
 rw[anJ a ns hS h];rw[amD M' (hg ns)];refine⟨rfl,[],H,[],[.pR ns],ahh (mq.refl H) List.nodup_nil (λ n a o h=>nomatch h),.one (bj.wq.mpr (ad5 a hS)),?_⟩;rw[e];intro ι' S' H' v _ _ r;rw[Ω aEH (q H')]
def aeZ{p:ad9 Addr}{a b c d:Addr}(ha:p a)(hb:p b)(hc:p c)(hd:p d):anU [a,b,c,d] (p x):=by
 intro x hx
 rw[ajr hx];rcases hx with rfl | rfl | rfl | rfl
 ·exact ha
 ·exact hb
 ·exact hc
 ·exact hd
def hJ.bad aRt aPl aQ5 aRJ aPg aUM:hJ P w K mg base (k+1) x ps.length (gq N.length (abf _ d5)) :=
 hJ.of D S λ f lO A outer s H E hr=>⟨λ pins s1 σ H1 D I h=>by
  obtain⟨_,_,_,_,_,_,h⟩:=h
  exact h.elim⟩
universe L2
universe zE
section
namespace L2
open PySem PySem.Spec PyProof.Rows PySem.W
section
variable {K:Fg} {hp:Heap} {mg:adp} {x m q:Str} {st:Stmt} {ps:adl} {C:Addr}
inductive FnAt aPe(v:as7 apq)(x q:Str)(st:Stmt):Prop
 | mk{f:Addr}{oc kV dc pm cd ct:Value}{od an:auY}{sl:aGs}(a:v=aC1)
  (l:b7 (K.lookup f) ⟨oc,od,.func (PySem.W.fnOf x q (mQ st) (gM st) (au st) abc kV dc pm an cd ct),sl⟩)(c:c8 (PySem.W.codeIn K cd q))aV5(j:aIv K (Δ f)):FnAt K v x q st
abbrev BO(x q:Str)aTH:Prop:=∀aWG(lO ct:Value)aQL,aMN->bindArgs (PySem.W.fnOf x q (mQ st) (gM st) (au st) abc kV doc pm an lO ct) (amR us)=anH axI
def FnAt.de(h:FnAt K (nsIn K mainGlobals x) x x st)aVY(b:BO x x st ps:=by intro _ _ _ _ _ _ us hl; rcases us with _ | ⟨_,_ | ⟨_,_ | ⟨_,_ | ⟨_,_ | ⟨_,_ | ⟨_,_ | ⟨_,us⟩⟩⟩⟩⟩⟩⟩<;>first | rfl | cases hl | (simp at hl)):acQ x st ps:=by
 rw[ae3 a l c k j h ⟨_,_,vn l c k,mg_of X G a,(vn l c k).binds b⟩]
def FnAt.me(h:FnAt K (findIn K (Δ C) m) m q st)(c:asp)(b:BO m q st ps:=by intro _ _ _ _ _ _ us hl; rcases us with _ | ⟨_,_ | ⟨_,_ | ⟨_,_ | ⟨_,_ | ⟨_,_ | ⟨_,us⟩⟩⟩⟩⟩⟩<;>first | rfl | cases hl | (simp at hl)):wF K C m q st ps:=by
 rw[ae3 a l c' k j h ⟨_,_,vn l c' k,⟨a,j,k⟩,c,(vn l c' k).binds b⟩]
def FnAt.ini(h:FnAt K (findIn K (Δ C) "__init__") "__init__" q st)(mk:c8 (makesIn K C))(kc:c8 (keepIn K (Δ C)))(nm:mg x=alO C)(b:BO "__init__" q st ps:=by intro _ _ _ _ _ _ us hl; rcases us with _ | ⟨_,_ | ⟨_,_ | ⟨_,_ | ⟨_,_ | ⟨_,_ | ⟨_,us⟩⟩⟩⟩⟩⟩<;>first | rfl | cases hl | (simp at hl)):D0 K mg x C q st ps:=by
 rw[ae3 a l c k j h ⟨_,_,vn l c k,⟨mk,a,j,kc⟩,nm,(vn l c k).binds b⟩]
def FnAt.law{fa:Addr}(h:FnAt K (nsIn K mainGlobals "law") "law" "law" st)aVY(e:mg "law" = aG3):∃kV dc pm an cd ct,Pe K "law" "law" st fa (PySem.W.fnOf "law" "law" (mQ st) (gM st) (au st) abc kV dc pm an cd ct):=by
 obtain⟨a,l,c,k,j⟩:=h;cases e.symm.trans (mg_of X G a);exact⟨_,_,_,_,_,_,vn l c k⟩
structure aa5 aPe aPM aPL:Prop where
 a:nsIn K mainGlobals x=amv Δ C
 e1:aE7 (Δ C) "__getattribute__" = aNm aea
 e2:aE7 (Δ C) "__getattr__" = some none
 e3:aE7 (Δ C) "__class__" = amv aea "object.__class__"
 e4:au7 (mroIn K C aB0)
 e5:au7 (mroIn K C aF1)
 e6:c8 (isClsIn K C)
 eg:specialIn K (aea "object.__class__") "__get__" = amv aea "getset_descriptor.__get__"
 et:au7 (takesIn K (aea "object.__class__"))
structure MZ aPe aPM aPL:Prop where
 a:nsIn K mainGlobals x=amv Δ C
 pg:c8 (plainGet K C Str.empty)
 hd:c8 (hasDictIn K C)
 po:c8 (plainOver K C)
 sa:aE7 (Δ C) "__setattr__" = amv aea "object.__setattr__"
def MZ.cl(h:MZ K x C):asp:=⟨h.pg,h.hd,h.po,h.sa⟩
def MZ.fd(h:MZ K x C)aRd(n:b7 (aE7 (Δ C) f) none):mx K C f:=⟨h.cl,n⟩
universe zE
structure Zn where
 P:Program
 w:World
 K:Fg
 mg:adp
 base:Heap
noncomputable abbrev Fn(z:Zn):=hJ z.P z.w z.K z.mg z.base
noncomputable abbrev Me(z:Zn):=DZ z.P z.w z.K z.mg z.base
noncomputable abbrev In(z:Zn):=G0 z.P z.w z.K z.mg z.base
section
variable {P:Program} {w:World} {K:Fg} {mg:adp} {base:Heap} {x m q:Str} {st:Stmt} {N ps:adl} {k j n:Nat} {d:DS} {C:Addr} {g:D1}
def je{sc:Scope}(a:sc.kind=aoi:=by rfl)(b:aOr:=by rfl)(c:aOs:=by rfl)(d:N.Nodup:=by rw[aDH])(e:N.take ps.length=ps:=by rfl)
  (f:anU ps (b7 auB amE \/ aBT):=by rw[aDH])(g:∀y∈sc.names,y.2≠ahR:=by rw[aDH]):aL N ps sc:=⟨a,b,c,d,e,f,g⟩
def hJ.go aUM
  (hb:∀aSy aRu,aGv x->aB4 (lT (tq P w) P w K mg base N x (au st) f lO A outer s H E) →
   auu (lT (tq P w) P w K mg base N x (au st) f lO A outer s H E)):hJ P w K mg base (k+1) x ps.length (gq N.length d):=hJ.of D S λ f lO A outer s H E hr=>hb f lO A outer s H E hr (Aw S hr)
def DZ.go aWo
  aW2:DZ P w K mg base (k+1) C m ps.length (gq N.length d):=DZ.of D S λ f lO A outer s H E hr=>hb f lO A outer s H E hr (Aw S hr)
def G0.go aWg
  aW2:G0 P w K mg base (k+1) x C ps.length (gq N.length d):=G0.of D S λ f lO A outer s H E hr=>hb f lO A outer s H E hr (Aw S hr)
def aa6 aTr(F:Pe K x q st f fd)(S:ar8)
  (hb:∀(lO:Value)aRu,aDd->aB4 (lT (tq P w) P w K mg base N q (au st) f lO A outer s H E) →
   auu (lT (tq P w) P w K mg base N q (au st) f lO A outer s H E)):pN P w K mg base (tq P w) (k+1) f fd ps (Oq K ps.length (gq N.length d)):=EW F S λ lO A outer s H E hr=>hb lO A outer s H E hr (Aw S hr)
def hJ.up aWj aUu:hJ P w K mg base k x n g:=aBc
def DZ.up aWd aUu:DZ P w K mg base k C m n g:=aBc
def G0.up aWe aUu:G0 P w K mg base k x C n g:=aBc
universe zE
universe L2
universe zE
section
namespace Hd
open PySem PySem.Spec PyProof.Rows PySem.W L2
section
variable {K:Fg} {l:aFE} {e:En}
def Sat.at(h:Sat K l)aPs(hi:ah0 l e):e.1 K=e.2:=h _ aNJ
def G9{f:amF Fg}(h:(eb f).1 K=(eb f).2):c8 (f K):=by
 have h':OB.b (f7 (f K))=OB.b (some true):=h;injection h' with h1; injection h1
def Lm{f:ajz Fg Bool}{v:aM3}(h:(eo f v).1 K=(eo f v).2):f K=v:=by
 have h':OB.b (f K)=OB.b v:=h;injection h'
def yX{f:aGt}{v:as7 apq}(h:(ev f v).1 K=(ev f v).2):f K=v:=by
 have h':OB.v (f K)=OB.v v:=h;injection h'
def aa7{g:aGt}{x q:Str}aQ5(h:(ef g x q st).1 K=(ef g x q st).2):FnAt K (g K) x q st:=by
 have h':OB.f (OC K (g K) q)=OB.f (aiR (PySem.W.fnOf x q (mQ st) (gM st) (au st) abc abc abc abc none abc abc) true):=h
 injection h' with h1;unfold OC at h1;split at h1
 ·rename_i f hf;split at h1
  ·rename_i a1 a2 fd a4 hl;injection h1 with h2;injection h2 with h3 h4;rw[aIw Bool.and_eq_true h4];obtain⟨⟨h5,h6⟩,h7⟩:=h4;obtain⟨n1,n2,n3,n4,n5,n6,n7,n8,n9,n10,n11,n12,n13,n14,n15⟩:=fd;simp only[PySem.W.fnOf,FuncData.mk.injEq] at h3;obtain⟨rfl,rfl,rfl,rfl,rfl,rfl,rfl,rfl,_,_,_,_,_,_,rfl⟩:=h3;exact .mk hf hl h5 h6 h7
  ·cases h1
 ·cases h1
def aa8 aPl aP5(h:Sat K (WH x C)):aa5 K x C :=
 ⟨yX (amG 0),yX (amG 1),yX (amG 2),yX (amG 3),Lm (amG 4),Lm (amG 5),G9 (amG 6),yX (amG 7),Lm (amG 8)⟩
def aa9 aPl aP5(h:Sat K (ZK x C)):MZ K x C :=
 ⟨yX (amG 0),G9 (amG 1),G9 (amG 2),G9 (amG 3),yX (amG 4)⟩
variable {L:aw1 aFE} {g:aFE}
def All.at aR8(hi:ah0 L g):Sat K g:=h _ aNJ
def All.b aR8{f:amF Fg}(hi:ah0 L [eb f]):c8 (f K):=G9 ((h.at i hi).at 0 rfl)
def All.o aR8{f:ajz Fg Bool}{v:aM3}(hi:ah0 L [eo f v]):f K=v:=Lm ((h.at i hi).at 0 rfl)
def All.v aR8{f:aGt}{v:as7 apq}(hi:ah0 L [ev f v]):f K=v:=yX ((h.at i hi).at 0 rfl)
def All.f aR8{g:aGt}{x q:Str}aQ5(hi:ah0 L [ef g x q st]):FnAt K (g K) x q st:=aa7 ((h.at i hi).at 0 rfl)
def All.x aR8 aPl aP5(hi:apK L i (WH x C)):aa5 K x C:=aa8 (h.at i hi)
def All.c aR8 aPl aP5(hi:apK L i (ZK x C)):MZ K x C:=aa9 (h.at i hi)
universe zE
def Yk{l:PySem.W.OpenLaw}{n k:Nat}{q:Program}aWI{d:DefRec}{CX:World->GB}{sp:Fg->Sp}aPl{as:d8}{L:aw1 aFE}
  aU0(OR:af6 n)aWr(hr:jf k callerA)
  (F:∀(w:World)(mg:adp)(fa:Addr)aQT aPe,K.In h->aue->h.Ns mainGlobals mg->mg d.name=aG3 →
   ∃fd:FuncData,(∀aPF aQ7,BindsTo s fd (amR [u]) [(x,u)]) ∧
    ∀base:Heap,aKa->aG4->pN l.prog w K mg base (CX w) k fa fd [x] (sp K))
  (VU:∀aPe aRQ aQW,aJD n->XQ H->qB K H a aq5->sp K [Δ a] H (λ v _=>v=af4) λ _ _ _=>False)
  (hCX:∀(w:World)aPC aPF aTW,CX w [] H s (λ _ _ _=>False) e s'->False) :
  PySem.W.WalkO q loose XP (hook as L).says l.row.toRowW d [] (λ f vs=>PySem.call f vs):=by
 refine Att.GL hn hdf λ w s₀ s₁ mg mb fa o pm cd doc a vs ns G Y ho hd OG XM XO hints hlen hg=>?_;obtain⟨K,KX,hK⟩:=Y;rw[asK fd hb hF (F w mg fa _ K KX hK G.T.g XM) (Pd KX G.T.g G.T.b G.T.builtins G.T.nolimit hg XO hints (Nat.le_trans hlen OR) hr hF hb (λ H hO hS=>VU K H a ns hlen hO hS) λ H e s'=>hCX w H s₁ e s')]
universe Hd
universe zE
section
namespace Sb
open PySem L2
inductive Pc where
 | pl(j k:Int)
 | pt(t s b:Int)
abbrev Pc.js:Pc->acm
 | .pl j k=>[j,k]
 | .pt t s b=>[t,s,b]
abbrev Pc.enc:Pc->PV
 | .pl j k=>sT [ayd,η j,η k]
 | .pt t s b=>sT [ap1,η t,η s,η b]
noncomputable abbrev kS:=List Pc
noncomputable abbrev bp aPD:PV:=ς aIV
noncomputable abbrev Sg:=Int×Nat
abbrev dw(s:Sg):PV:=sT [η s.1,η s.2]
noncomputable abbrev cU(ss:afD):PV:=ς (ss.map dw)
noncomputable abbrev dO:=Nat×Int×Int
abbrev aI aPV:PV:=sT [η s.1,η s.2.1,η s.2.2]
noncomputable abbrev bG aPZ:PV:=ς as3
noncomputable abbrev Rt:=Nat×z0
abbrev BB(r:Rt):PV:=sT [η r.1,bG r.2]
noncomputable abbrev hV aSd:PV:=ς (rs.map BB)
abbrev bJ:aeQ->PV
 | none=>.bb
 | aB8=>η n
noncomputable abbrev gW aQW:PV:=ς aAI
noncomputable abbrev cO(ns:ae6):PV:=ς (ns.map alC)
abbrev Pc.at aPD aPf:Pc:=ps.getD n (.pl 0 0)
abbrev beyond aPD aQs aPY:aeQ:=(apv).find? (aoF k (k≠a) (ac5 j (aeo k).js))
abbrev wU aQb aPY:acm:=match p with
 | .pl a b=>[a,b].filter (ajd o o j)
 | .pt t s b=>if j=t then[s,b] else[t]
def Ln(s:Sg):ate (dw s):=by
 intro y hy;rw[ajr hy];rcases hy with rfl | rfl<;>exact jH _
def E7(a b:Sg)(h:dw a=dw b):a=b:=by
 rw[aDU a1 a2 a b1 b2 b];simp[dw] at h;rw[anC h];subst h1
 have:a2=b2:=b6
 subst this;rfl
@[simp] def Ue aQf aSp aPa{ss:afD}aPc:ju neg (sT [η j,η n]) aiP M=.ok (.bl (aja (ac5 (j,n) ss) (ac5 (j,n) ss))) M:=by
 rw[aqj (ju neg (dw (j,n)) _ M=_) (sf (enc:=dw) Ln E7 (a:=(j,n)) qD)]
@[simp] def jT aQb aPh:dN aBs M=.ok (gW p.js) M:=by cases p<;>rfl
@[simp] def agp aPc:dW false ayd ayd M=.ok af4 M:=aao
@[simp] def agq aPc:dW false ap1 ayd M=.ok (aiU .bl) M:=aao
@[simp] def agr aPc:dW false ayd ap1 M=.ok (aiU .bl) M:=aao
@[simp] def ags aPc:dW false ap1 ap1 M=.ok af4 M:=aao
def vm aPi aPt aPw aPc(h:anF):agF (sT xs) i=.ok x M:=by
 have hl:aqv:=(List.getElem?_eq_some_iff.mp h).1;simp only[aK,Px,Mw,IG];rw[akr b6 b6];simp[h]
def fK aPi aPt aPw aPc(h:anF):agF (ς xs) i=.ok x M:=by
 have hl:aqv:=(List.getElem?_eq_some_iff.mp h).1;simp only[aK,qD,Mw,IG];rw[akr b6 b6];simp[h]
@[simp] def wV aPw aRR:agF (sT (x::xs)) 0=.ok x M:=vm (i:=0) rfl
@[simp] def agt aSP aRR:agF (sT (x::y::xs)) 1=.ok y M:=vm (i:=1) rfl
@[simp] def D8{x y z:PV}aRR:agF (sT (x::y::z::xs)) 2=.ok z M:=vm (i:=2) rfl
@[simp] def aba{x y z u:PV}aRR:agF (sT (x::y::z::u::xs)) 3=.ok u M:=vm (i:=3) rfl
@[simp] def cN aRR(h:aBM):tJ false xs M=.ok (ς xs) M:=ahY (adP h)
def iX aQb aRS:kb dN [p.enc,η j] M=.ok (gW (wU p j)) M:=by
 cases p with
 | pl a b =>
  have e:=jT (.pl a b) M;rw[aJF Pc.enc];simp only[kb,gq,Pc.enc]
  simp;rw[cc (xs:=[a,b]) (w:=none) (M':=M) PV.int (ajd o o j) PV.int (ahW [y,amW]) (by simp[e]; rfl) trivial ah2 (akf x) (adP (show 2≤3 by decide))]
  ·rw[acR (cN (by rw[anr (aiH (List.length_filter_le _ _) (show aiT 2 by decide))]))]
  ·rw[ahJ y rfl hρ ⟨_,rfl,acV,Ξ,λ _=>Ξ⟩]
 | pt t s b =>
  simp only[kb,gq,Pc.enc];simp;by_cases h:j=t<;>simp[h,wU]
def uD aQw aPa(h:ai5 n):apK ps n (aeo n):=by
 unfold Pc.at;rw[aHU h];rfl
def E8 aQw aPa(h:ai5 n):aeo n∈ps:=aLL (uD h)
def sM aQw aPa aPc(h:ai5 n):agF agm n=.ok (aeo n).enc M:=fK (by rw[zJ,uD h]; rfl)
abbrev Qj aPD aPY:ae6:=(apv).filter (aoM k j (aeo k).js)
def Qk aPD:sJ aIV=ag8 (apv).map k (sT [η k,(aeo k).enc]):=by
 refine aDY i
 unfold sJ
 rw[zJ,List.getElem?_zipIdx,zJ,zJ]
 rw[agN (ai5 i)]
 ·rw[uD h,aIa];simp
 ·rw[ax5,an4 (by rw[afo])];rfl
def uE aPa(h:aiT n):agS aod lim:=by
 rw[Ω List.length_range (adP h)]
def iU aPD aRS(hl:ap0):ig dN [agm,η j] M=.ok (cO azz) M:=by
 simp only[ig,gq];simp;rw[cc (xs:=apv) (w:=none) (M':=M) (λ k=>sT [η k,(aeo k).enc]) (aoM k j (aeo k).js) (aul k (η k)) (λ ρ=>∃y z,ρ=[y,z,amW]) ?_ trivial (ajs none none) (akf x) (uE hl)]
 ·rw[acR (cN (by rw[anr (aiH (List.length_filter_le _ _) (by rw[aLQ hl]))]))]
 ·unfold iE;simp[Qk]
 ·rw[aHP y z rfl hρ ⟨_,rfl,amT _,Ξ,λ _=>Ξ⟩]
def gv aPD aPf aRS(hl:ap0):iH (ig dN) [agm,η n,η j] M=.ok (aun n) M:=by
 have loop:∀(xs:ae6)(y:ahL),aG (xR none (gN 3) (bu (ba (adU (dW true) b9)) (bK aah) fo) (xs.map alC)) (aeu (dC .bb)) [ajE,afY n,amW,y] M=.rt (ail (xs.find? (ajd k k n))) M:=by
  intro xs
  induction xs with
  | nil=>intro y;rfl
  | cons x xs ih =>
   intro y;rw[agN (x=n)]
   ·subst h;have:=ih x9;simp[xR] at this ⊢;rw[ap9]
   ·have h':¬aCV=n:=b6
    simp[xR,h,h',bJ]
 simp only[iH,gq];have:=loop azz none;simp only[Ub] at this ⊢;rw[agb (Ud (w:=none) (M':=M) (ej (by rw[anr (iU ps j M hl)])) trivial)];rw[axS];rw[this];simp[Qj,beyond,Bool.and_comm]
universe Sb
universe zE
section
namespace Sb
open PySem L2
def Yl aPa aPV:c8 (PV.mr n amn):=AB (ame (by
 rw[ajr hx];rcases hx with rfl | rfl | rfl<;>simp))
def Ql aPa aPZ:c8 (PV.mr n an1):=Ll (ame (by
 obtain⟨s,_,rfl⟩:=List.mem_map.mp hx;exact Yl s))
def abb aPa(r:Rt):c8 (PV.mr n (BB r)):=AB (ame (by
 rw[ajr hx];rcases hx with rfl | rfl
 ·simp
 ·exact Ql _))
def wW aPa aPp aSD(h:∀a,c8 (PV.mr n aoO))(as:af1):c8 (PV.mr n (ς (as.map enc))):=Ll (ame (by
 obtain⟨a,_,rfl⟩:=List.mem_map.mp hx;exact h a))
abbrev pf aQz:aoK z0 (Int->ali (aw1 z0))
 | 0,_,_,_=>[]
 | n+1,way,j,a=>if a∈auM then[] else ag8 (aHC aDf) o (match awE with
  | none=>[way++[(a,j,o)]]
  | aBl=>if (o,b)∈ss then[way++[(a,j,o)]] else pf ps ss n (way++[(a,j,o)]) o b)
def BC aQb aPY:agS (wU p j) 2:=by
 cases p with
 | pl a b=>exact List.length_filter_le _ _
 | pt t s b=>rw[ams wU]; split<;>simp
def oB aQw aSK aSp(h:b7 (beyond ps a j) b):ai5 b/\b≠a/\j∈(aeo b).js:=by
 rw[ak9 beyond];rw[ZI h1 (List.mem_of_find?_eq_some h) h2 (List.find?_some h)];simp at h1 h2;rw[aas h1 h2.1 h2.2]
def ph aQd{f:α->aFD}aPg:∀aRM,(∀x∈xs,agS (f x) k)->agS (xs.flatMap f) (xs.length*k)
 | [],_=>Ξ
 | x::xs,h=>by
  rw[al1 (h x Ξ) (ph xs aDv)];rw[List.flatMap_cons,List.length_append,zE,Nat.succ_mul];omega
abbrev kK aQz aTZ aPY aQs(o:Int):aw1 z0:=match awE with
  | none=>[way++[(a,j,o)]]
  | aBl=>if (o,b)∈ss then[way++[(a,j,o)]] else pf ps ss n (way++[(a,j,o)]) o b
def mJ aQz aTZ aPY aQs:pf ps ss (n+1) way j a=if a∈auM then[] else(aHC aDf) (kK ps ss n way j a):=rfl
def oC aQz:∀aTZ aPY aQs,agS (pf ps ss n way j a) (2 ^ n)
 | 0,way,j,a=>auO
 | n+1,way,j,a=>by
  rw[mJ];split
  ·simp
  ·have h:∀o∈aDf,agS (kK ps ss n way j a o) (2 ^ n):=λ o _=>by
    have:=Nat.one_le_two_pow (n:=n)
    unfold kK;split
    ·rw[ap9]
    ·split
     ·rw[ap9]
     ·exact oC ps ss n _ _ _
   rw[al1 (ph _ h) (Nat.mul_le_mul_right (2 ^ n) (BC (aeo a) j))];rw[akB Nat.pow_succ]
def wX aQz aTZ aPY aQs(o:Int):agS (kK ps ss n way j a o) (2 ^ n):=by
 have:=Nat.one_le_two_pow (n:=n)
 unfold kK;split
 ·rw[ap9]
 ·split
  ·rw[ap9]
  ·exact oC ps ss n _ _ _
def Lo aPa(h:n≤20):2 ^ n≤1048576:=Nat.pow_le_pow_right d7 h
structure wY aPD(way:z0)aQs:Prop where
 qi:az6 16
 lt:ai5 a
 nd:agM auM
 all:agk way (ai5 s.1)
def wY.step aQw{way:z0}aSK{j o:Int}(h:aDi)(ha:a∉auM)(hb:b7 (beyond ps a o) b):wY ps (way++[(a,j,o)]) b:=by
 rw[aup h.qi (oB hb).1 ?_ aoX]
 ·rw[List.map_append,List.nodup_append];rw[adv h.nd Ξ (acI x hx y hy)];simp at hy;subst hy;rintro rfl;exact ha hx
 ·rcases aH8 with hs | hs
  ·exact h.all s hs
  ·rw[aAB hs hs h.lt]
def mK:∀aPa{xs:ae6},xs.Nodup->(∀x∈xs,x<n)->aHT n
 | 0,xs,_,hl=>by
  cases xs with
  | nil=>simp
  | cons x xs=>rw[akK (hl x Ξ) b6]
 | n+1,xs,h,hl=>by
  rw[d6 h1 (agM (xs.erase n)) (h.erase n) h2 (anU (xs.erase n) (x<n)) (ame (by
   rw[aeC h3 (hl x (List.mem_of_mem_erase hx)) h4 (x≠n) (adm (by subst e; exact(h.not_mem_erase) hx))]
   omega))]
  rw[ZI h3 (mK h1 h2) h4 (List.length_erase_le (a:=n) (l:=xs))];by_cases hm:n∈xs
  ·rw[List.length_erase_of_mem hm] at h3;omega
  ·rw[List.erase_of_not_mem hm] at h3;omega
def wY.len aQw{way:z0}{a:Nat}(h:aDi):axA way.length:=by
 have:=mK h.nd (ame (by
  rw[ahP s hs hx];exact h.all s hs))
 simpa using this
abbrev Lp aPf aPd:Prop:=∀ps ss way j a M,aDi->ps.length+1≤way.length+n->n≤20->g [agm,aiP,bG way,η j,η a] M=.ok (ς ((pf ps ss n way j a).map bG)) M
def Qm{way:z0}{a:Nat}aPc:ju false (η a) (ς (way.map (alI s s.1))) M=.ok (.bl (ac5 a auM)) M:=by
 have e:(way.map (alI s s.1))=atr (way.map λ s=>afW s.1).map:=Ξ
 rw[e,qO]
 have:(acy a∈way.map λ s=>afW s.1)↔a∈auM:=by
  simp only[List.mem_map];constructor
  ·rintro⟨s,hs,h⟩;rw[aas s hs b6]
  ·rintro⟨s,hs,h⟩;rw[aas s hs b6]
 simp only[this];rfl
def Qn aPX{way:z0}aPs(h:aj7 i aBL)(hl:aiT way.length):cg false aiw (iL (ae i)) (gN 0) sI akC ρ M=.ok (ς (way.map (alI s s.1))) M:=by
 rw[cc (xs:=way) (w:=none) (M':=M) aI ah9 (alI s s.1) (ahW [y]) (ej (anE h)) trivial ah2 (akf x) (adP hl)]
 ·rw[awN,cN (by rw[alb hl])]
 ·rw[ahJ y rfl hρ (abS _ rfl acV (λ _=>avJ))]
def Ym aPa aQZ(h:Lp n g):Lp (n+1) (ayi (yV (kb dN) (iH (ig dN)) g)):=by
 intro ps ss way j a M ok hn OR;rw[ZI hl ok.len hf ok.qi];rw[afQ (aEC (wW Ql _)) (cV (P:=λ r=>∃G,r=.ok _ (M++G)) ?_)];simp only[zC,zD,zE,zF,Nat.zero_add,Nat.reduceAdd,Nat.reduceSub,List.replicate,zG,zH]
 rw[ahU EN (ba (agZ ZJ aGq) [ajE,arq,aBL,amW,aCK,none,none,none,none] M=.ok (ac5 a auM) M) (by
  simp only[bI,aD,aA,zB,zA,ag];rw[Qn (way:=way) 2 rfl b6];rw[alM Qm]) (aBd _ _ EN (g8 ha) ha)]
 ·rw[aaA So (of_decide_eq_true ha) (bx (ς []) M Ξ (cY (aV (aiS []))))];rw[mJ,if_pos So];simp
 ·rw[aaA So (of_decide_eq_false ha) (afX (acK (aeV aes (M++[ς []]) Ξ)))];rw[ajW (aH (fS PV.int (ak6 (∃y6 y7 y8,ρ=[ajE,arq,aBL,amW,aCK,adW,y6,y7,y8]/\M'=M++[ς ((aiD).map bG)])) aDf none _
   (ej (afr (sM ok.lt) iX)) trivial aLe ?_ ?_))]
  ·rintro pre o post hx ρ M' ⟨y6,y7,y8,rfl,rfl⟩
   have la:agS aiD (2*2 ^ n):=by
    rw[aeC h1 (ph pre λ o _=>wX ps ss n way j a o) h2 (pre.length≤2) (by
     have:=BC (aeo a) j;rw[aiq hx this this];omega)]
    exact aiH h1 (Nat.mul_le_mul_right _ h2)
   rw[ZI Ha (wX ps ss n way j a o) GG (Lo (n:=n) b6)]
   refine ad5 _ ?_;rw[akp (bG (way++[(a,j,o)])) (M++[ς ((aiD).map bG)]) (by simp[aI]; rw[cN (by rw[afo])]; simp[aI])]
   rw[akp (ail awE) (M++[ς ((aiD).map bG)]) (f6 (gv _ _ _ _ (show ap0 by omega)))]
   rw[adk]
   rw[List.flatMap_append,List.flatMap_cons,List.flatMap_nil,zI];cases hb:awE with
   | none =>
    refine G5 (M++[ς ((aiD).map bG)]) aHu (cy .bb (M++[ς ((aiD++[way++[(a,j,o)]]).map bG)]) (by simp[fB,C1,lim,-List.length_flatMap];omega) (afR (abS _ _ _ ?_)));simp[kK,hb]
   | some b =>
    refine aBd (ac5 (o,b) ss) (M++[ς ((aiD).map bG)]) aHu (g8 hs) hs
    ·rw[aaA tH (of_decide_eq_true hs) (cy .bb (M++[ς ((aiD++[way++[(a,j,o)]]).map bG)]) (by simp[fB,C1,lim,-List.length_flatMap];omega) (afR (abS _ _ _ ?_)))];simp[kK,hb,tH]
    ·rw[ZI tH (of_decide_eq_false hs) hg (h ps ss (way++[(a,j,o)]) o b (M++[ς ((aiD).map bG)]) (ok.step So hb) (by rw[afo]) b6)];simp only[kK,hb,if_neg tH] at Ha ⊢;refine api .bb (M++[ς ((aiD++pf ps ss n (way++[(a,j,o)]) o b).map bG)]) (afR (abS _ _ _ rfl));simp[bJ,Av,C1] at hg ⊢;rw[hg];simp[lim,-List.length_flatMap];omega
  ·rintro ρ' M' ⟨y6,y7,y8,rfl,rfl⟩;refine acK (bx (ς ((pf ps ss (n+1) way j a).map bG)) (M++[.gone]) ?_ (aV (aiI [.gone])));rw[mJ,if_neg So];simp[ES]
universe Sb
universe zE
end
mutual
section
namespace Sb
open PySem L2
def ae1 aPf:Gx 0 n=(aod).map (aiJ (afN k) k):=by
 rw[aqR Gx (aps k _)];simp
def wZ aPo aPX aPa(h:aaQ=.ok (η n) M)(hn:n≤100000):xQ [d] ρ M=awT .ok (aod).map M:=by
 have e:fH [d] ρ M=.ok [η n] M:=by rw[ax,h]; rfl
 rw[asN xQ e ag]
 have h62:acy 2 ^ 62=4611686018427387904:=aKy
 rw[h62,if_pos ⟨b6,b6⟩,Int.toNat_natCast,ae1]
def Yg aQb aPh:GV false p.enc ahM none M=.ok (sT (p.js.map η)) M:=by cases p<;>rfl
def oM aQb aRS:rN [p.enc,η j] M=.ok (gW (wU p j)) M:=by
 cases p with
 | pl a b =>
  simp only[rN,gq,Pc.enc]
  simp;rw[cc (xs:=[a,b]) (w:=none) (M':=M) PV.int (ajd o o j) PV.int (ahW [y,amW]) (Jv (Yg (.pl a b) M)) trivial ah2 (akf x) (adP (show 2≤3 by decide))]
  ·rw[acR (cN (by rw[anr (aiH (List.length_filter_le _ _) (show aiT 2 by decide))]))]
  ·rw[ahJ y rfl hρ ⟨_,rfl,acV,Ξ,λ _=>Ξ⟩]
 | pt t s b =>
  simp only[rN,gq,Pc.enc];simp;by_cases h:j=t<;>simp[h,wU]
def jX aPD aPf aRS(hl:ap0):nY [agm,η n,η j] M=.ok (aun n) M:=by
 rw[ake nY (r=.ok (aun n) M)];simp only[zC,zD,zE,zF,Nat.zero_add,Nat.reduceAdd,Nat.reduceSub,List.replicate,zG,zH];rw[ag1 (cO ((apv).filter (aoF k (k≠n) (ac5 j (aeo k).js)))) M ?_]
 ·rw[cc (xs:=apv) (w:=none) (M':=M) (aiJ (afN k) k) (aoF k (k≠n) (ac5 j (aeo k).js)) (aiJ (afN k) k) (ahW [y,afY n,amW,ajE])
   (atw aCe) trivial ah2 (aoj x hx) (uE hl)]
  ·rw[cN (by rw[alb (aiH (List.length_filter_le _ _) (by rw[aLQ hl]))])]
  ·rw[aiK y hρ];rw[ah8 hx' (ai5 x) (List.mem_range.mp hx) ⟨_,rfl,acV,?_,λ _=>Ξ⟩];rw[aih x n]
   ·simp[e]
   ·have e':¬aCV=n:=b6
    simp[e,e',sM hx',Yg]
 ·rw[ajW (ah4 (aun n) M ?_)]
  have hb:beyond ps n j=((apv).filter (aoF k (k≠n) (ac5 j (aeo k).js))).head? := by
   rw[acP beyond List.head?_filter]
  cases e:((apv).filter (aoF k (k≠n) (ac5 j (aeo k).js))) with
  | nil=>rw[hb,e]; simp[jG,bJ]
  | cons x xs =>
   rw[hb,e];simp[jG,bJ];exact awB
abbrev Lq aPf aPd:Prop:=∀ps ss way j a M,aDi->ps.length+1≤way.length+n->n≤20->g [agm,aiP,bG way,η a,η j] M=.ok (ς ((pf ps ss n way j a).map bG)) M
abbrev Ug aPd:Prop:=∀aQb aRS,g [aK5,η j] M=.ok (gW (wU p j)) M
abbrev w5 aPd:Prop:=∀aPD aPf aRS,ap0->g [agm,η n,η j] M=.ok (aun n) M
def Yn aPa{go gb g:D1}(ho:Ug go)(Sz:w5 gb)(h:Lq n g):Lq (n+1) (ayi (vz go gb g)):=by
 intro ps ss way j a M ok hn OR;rw[aip hl ok.len hf ok.qi (aEC (wW Ql _))];rw[ake vz (∃G,r=.ok _ (M++G))];simp only[zC,zD,zE,zF,Nat.zero_add,Nat.reduceAdd,Nat.reduceSub,List.replicate,zG,zH];rw[ag1 aes (M++[ς []]) Ξ]
 rw[adk]
 rw[ahU EN (ba (adU (ju false) aGq) [ajE,arq,aBL,aCK,amW,adW,none,none,none] (M++[ς []])=.ok (ac5 a auM) (M++[ς []])) (by
  simp only[bI,aD,aA,zB,zA,ag];rw[Qn (way:=way) 2 rfl b6];rw[alM Qm]) (aBd _ _ EN (g8 ha) ha)]
 ·rw[aaA So (of_decide_eq_true ha) (bx (ς []) (M++[.gone]) (f6 ES) (cY (aV (aiS [.gone]))))];rw[mJ,if_pos So];simp
 ·rw[aaA So (of_decide_eq_false ha) (atL (fS PV.int (ak6 (∃y6 y7 y8 G,ρ=[ajE,arq,aBL,aCK,amW,ahq (aqH M G),y6,y7,y8]/\M'=(M++G)++[ς ((aiD).map bG)])) aDf none (M++[ς []])
   (ej (afr (sM ok.lt) (ho (aeo a) j))) trivial ⟨none,none,none,[],Ξ,Ξ⟩ ?_ ?_))]
  ·rintro pre o post hx ρ M' ⟨y6,y7,y8,G,rfl,rfl⟩
   have la:agS aiD (2*2 ^ n):=by
    rw[aeC h1 (ph pre λ o _=>wX ps ss n way j a o) h2 (pre.length≤2) (by
     have:=BC (aeo a) j;rw[aiq hx this this];omega)]
    exact aiH h1 (Nat.mul_le_mul_right _ h2)
   rw[ZI Ha (wX ps ss n way j a o) GG (Lo (n:=n) b6)]
   refine ad5 _ ?_;generalize Sq:M++G=M1;rw[akp (bG (way++[(a,j,o)])) (M1++[ς ((aiD).map bG)]) (by simp[aI]; rw[cN (by rw[afo])]; simp[aI])]
   rw[akp (ail awE) (M1++[ς ((aiD).map bG)]) (f6 (Sz ps a o _ b6))]
   rw[adk]
   rw[List.flatMap_append,List.flatMap_cons,List.flatMap_nil,zI];cases hb:awE with
   | none =>
    refine G5 (M1++[ς ((aiD).map bG)]) aHu (cy .bb (M1++[ς ((aiD++[way++[(a,j,o)]]).map bG)]) (by simp[fB,C1,lim,-List.length_flatMap];omega) (afR ⟨_,_,_,G,agB Sq,?_⟩));simp[kK,hb,Sq]
   | some b =>
    refine aBd (ac5 (o,b) ss) (M1++[ς ((aiD).map bG)]) aHu (g8 hs) hs
    ·rw[aaA tH (of_decide_eq_true hs) (cy .bb (M1++[ς ((aiD++[way++[(a,j,o)]]).map bG)]) (by simp[fB,C1,lim,-List.length_flatMap];omega) (afR ⟨_,_,_,G,agB Sq,?_⟩))];simp[kK,hb,tH,Sq]
    ·rw[ZI tH (of_decide_eq_false hs) hg (h ps ss (way++[(a,j,o)]) o b (M1++[ς ((aiD).map bG)]) (ok.step So hb) (by rw[afo]) b6)];simp only[kK,hb,if_neg tH] at Ha ⊢
     refine wR (ο (M1.length+1)) ((M1++[ς ((aiD).map bG)])++[ς ((aiD++pf ps ss n (way++[(a,j,o)]) o b).map bG)]) ?_ (afR ⟨afY o,f7 (bG (way++[(a,j,o)])),aCF,G++[ς ((aiD).map bG)],?_,?_⟩)
     ·simp[bJ] at hg ⊢;rw[hg];simp[dX];rw[agb (jZ (by simp[lim,-List.length_flatMap];omega))]
     ·rw[← List.append_assoc,Sq];simp
     ·rw[← List.append_assoc,Sq]
  ·rintro ρ' M' ⟨y6,y7,y8,G,rfl,rfl⟩;refine acK (bx (ς ((pf ps ss (n+1) way j a).map bG)) (M++G++[.gone]) ?_ (aV ⟨G++[.gone],agB List.append_assoc⟩));rw[mJ,if_neg So];generalize M++G=M1;simp[ES]
universe Sb
universe zE
section
namespace L2
open PySem
def BD aPp [BEq α] [LawfulBEq α] aSD aUs aVc aPc:countP (ς (as.map enc)) [aoO] M=.ok (η (as.count a)) M:=by
 rw[ams countP]
 rw[asB (k7 deep _ (hp a)) jh]
 rw[agV (nA (g:=ax3) λ z hz=>by
  obtain⟨b,_,rfl⟩:=List.mem_map.mp hz
  exact k7 deep _ (hp b))]
 rw[auo (((as.map enc).map ax3).countP (alH q q aGl)=as.count a) (by
  rw[List.countP_map,List.countP_map];rw[aqR List.count (List.countP_congr (acO b _))];rw[ako Function.comp (Bz deep _ _ (hp b) (hp a))];simp only[beq_iff_eq];rw[apX (adm (inj _ _ e)) e (agB e)])]
def gT2{i j:Nat}aSP{ρ:eu}:gT 2 (dA (gN i) (aqo j)) (sT [x,y]) ρ=ac1 (ρ.set i aeU).set j aoG:=rfl
universe L2
namespace Sb
open PySem L2
structure pj aQz:Prop where
 Qo:axA 1
 qi:az6 16
 Gx:afz ps (∀j∈p.js,0≤j/\j≤999)
 once:aCj
 two:∀j,agS (Qj ps j) 2
 zy:ss.length≤16
 nd:ss.Nodup
 sg:agk ss (ai5 s.2/\s.1∈(aeo s.2).js)
abbrev Uh aPd:Prop:=∀aPD aRS,ap0->g [agm,η j] M=.ok (cO azz) M
abbrev E9 aPd:Prop:=∀aQb aPh,g aBs M=.ok (gW p.js) M
abbrev si aPd aQm:Prop:=∀M,g xs M=.ok .bb M
def iA aP9{gp:D1}(hp:Uh gp)aQw(hl:ap0)(h2:∀j,agS (Qj ps j) 2){js:acm}(hr:∀j∈js,0≤j/\j≤999)(hn:js.Nodup):si (kC c gp) [agm,gW js]:=by
 intro M
 rw[ake kC (r=.ok .bb M)];simp only[zC,zD,zE,zF,Nat.zero_add,Nat.reduceAdd,Nat.reduceSub,List.replicate,zG,zH];refine fS PV.int (azT y2 (ρ=[ajE,aAf js,y2]) (M'=M)) js none M aGK trivial aLa ?_ ?_
 ·rintro pre j post hx ρ M' ⟨y2,rfl,rfl⟩
  have hj:j∈js:=by rw[ajc]
  rw[apB r1 r2 (hr j hj) hc (js.count j≤1) (List.nodup_iff_count.mp hn j)];refine ad5 _ ?_;rw[ajW (aH (pO M' ?_ (atL (pO M' ?_ (afX (acK (pO M' ?_ (afX (afR (avm _))))))))))]
  ·simp[Jk,IH];rw[agL b6];simp[r2]
  ·simp[IH,BD (enc:=PV.int) (λ a=>jH a) (λ a b e=>by cases e; rfl)];omega
  ·simp[hp ps j _ hl,bU,IH];rw[ae9 (h2 j)]
 ·rintro ρ' M' ⟨y2,rfl,rfl⟩;exact avH
def iz aP9{gc gj:D1}aR2(hc:afz ps (si gc [agm,gW p.js]))(hj:E9 gj):si (kA c gc gj) [agm]:=by
 intro M
 rw[ake kA (r=.ok .bb M)];simp only[zC,zD,zE,zF,Nat.zero_add,Nat.reduceAdd,Nat.reduceSub,List.replicate,zG,zH];rw[aip h1 hg.Qo h2 hg.qi (aH (pO M ?_ (atL (pO M ?_ arC))))]
 ·simp[bU];intro h;rw[aiq h h1 h1]
 ·simp[bU,IH];omega
 refine fS Pc.enc (azT y2 (ρ=[ajE,y2]) (M'=M)) ps none M aGK trivial aLa ?_ ?_
 ·rintro pre p post hx ρ M' ⟨y2,rfl,rfl⟩;refine ad5 _ ?_;rw[ajW (api .bb M' (afR (avm _)))];simp[hj p,hc p (by rw[ajc]) M']
 ·rintro ρ' M' ⟨y2,rfl,rfl⟩;exact avH
def gX aP9{gj:D1}aR2(hj:E9 gj):si (jP c gj) [agm,aiP]:=by
 intro M
 rw[ake jP (r=.ok .bb M)];simp only[zC,zD,zE,zF,Nat.zero_add,Nat.reduceAdd,Nat.reduceSub,List.replicate,zG,zH];rw[aaA h1 hg.zy (aH (pO M ?_ arC))]
 ·simp[bU,IH];omega
 refine fS dw (ak6 (∃y2 y3,ρ=[ajE,arq,y2,y3]/\M'=M)) ss none M aGK trivial (amK none none rfl) ?_ ?_
 ·rintro pre s post hx ρ M' ⟨y2,y3,rfl,rfl⟩
  have hs:s∈ss:=by rw[ajc]
  rw[apB r1 r2 (hg.sg s hs) hc (ss.count s≤1) (List.nodup_iff_count.mp hg.nd s)];have ZQ:=BD (enc:=dw) Ln E7 (a:=s) (as:=ss) (M:=M');obtain⟨j,n⟩:=s
  refine ad5 _ ?_;rw[ajW (aH (pO M' ?_ (atL (pO M' ?_ (afX (acK (pO M' ?_ (afX (afR (amK _ _ rfl))))))))))]
  ·simp[dw] at ZQ ⊢;rw[ZQ];simp[IH];omega
  ·dsimp only at r1;simp[Jk,geP,bU];rw[agL b6];rw[afo]
  ·simp[sM r1,hj (aeo n)];exact r2
 ·rintro ρ' M' ⟨y2,y3,rfl,rfl⟩;exact avH
def ko{gp gs:D1}aSP(hp:si gp [x])(hs:si gs [x,y]):si (lU gp gs) [x,y]:=by
 intro M;rw[ake lU (r=.ok .bb M)];exact aH (cy .bb M (f6 (hp M)) (acK (cy .bb M (f6 (hs M)) avH)))
universe Sb
universe zE
section
namespace Sb
open PySem L2
abbrev cw(ss:afD)aPS:Sg:=ss.getD k (0,0)
def xa{ss:afD}aPa(h:aA3 n):apK ss n (cw ss n):=by
 unfold cw;rw[aHU h];rfl
def vI{ss:afD}aPa(h:aA3 n):cw ss n∈ss:=aLL (xa h)
def BE{ss:afD}aPa aPc(h:aA3 n):agF aiP n=.ok (dw (cw ss n)) M:=fK (by rw[zJ,xa h]; rfl)
abbrev fuel:Nat:=17
abbrev pX aQz aPS:afT:=ag8 (pf ps ss fuel [] (cw ss k).1 (cw ss k).2).map w (k,w)
abbrev dU aQz:afT:=(aHC (List.range ss.length)) (pX ps ss)
def Ui(ss:afD):sJ (ss.map dw)=ag8 (List.range ss.length).map k (sT [η k,dw (cw ss k)]):=by
 refine aDY i
 unfold sJ
 rw[zJ,List.getElem?_zipIdx,zJ,zJ]
 rw[agN (aA3 i)]
 ·rw[xa h,aIa];simp
 ·rw[ax5,an4 (by rw[afo])];rfl
def uF aQz aPS:agS (pX ps ss k) 131072:=by
 rw[ahc pX zK (oC ps ss fuel _ _ _)]
def Yo aR2 aPg(hk:aA3 k):wY ps [] (cw ss k).2:=⟨hg.qi,(hg.sg _ (vI hk)).1,Ξ,Ξ⟩
abbrev pq aPd:Prop:=∀ps ss M,amV->g [agm,aiP] M=.ok (hV aiB) M
def Yp aPa aSd:c8 (PV.mr n (hV rs)):=wW abb rs
def oE aPa{pre post:ae6}aPg(h:aod=aDF k):k<n/\pre.length<n:=by
 rw[ajG h1 (k∈aod) (by rw[agb h]) h2 (az9 h)];simp at h1 h2
 omega
def ql{gc gw:D1}(hc:∀ps ss,amV->si gc [agm,aiP])(hw:Lp fuel gw):pq (ayi (vy gc gw)):=by
 intro ps ss M hg;refine aEC (Yp _);rw[ake vy (∃G,r=.ok (hV aiB) (M++G))];simp only[zC,zD,zE,zF,Nat.zero_add,Nat.reduceAdd,Nat.reduceSub,List.replicate,zG,zH];rw[aaA hfs hg.zy (aH (cy .bb M (f6 (hc ps ss hg M)) (acK (aeV aes (M++[ς []]) Ξ))))];rw[ajW (aH (fS (aul k (PV.tup [η k,dw (cw ss k)])) (ak6 (∃y3 y4 y5,ρ=[ajE,arq,adW,y3,y4,y5]/\M'=M++[ς ((avW).map BB)])) (List.range ss.length) none (M++[ς []])
  (by unfold iE;simp[Ui]) trivial aLe ?_ ?_))]
 ·rintro pre k post hx ρ M' ⟨y3,y4,y5,rfl,rfl⟩;rw[apB hk sV (oE hx) la (ang (aeA avW)) (by
   have h1:=ph pre λ k _=>uF ps ss k;omega)]
  rw[adv _ gT2 ?_];rw[adk];rw[aaA hww (hw ps ss [] (cw ss k).1 (cw ss k).2 (M++[ς ((avW).map BB)]) (Yo hg hk) (by simp;have:=hg.qi;unfold fuel;omega) d7) (fS bG (λ xb ρ M'=>∃y5,ρ=[ajE,arq,adW,agO,f7 (dw (cw ss k)),y5]/\M'=M++[ς ((avW++xb.map λ w=>(k,w)).map BB)])
   (pf ps ss fuel [] (cw ss k).1 (cw ss k).2) none (M++[ς ((avW).map BB)]) (ej (by simp[dw] at hww ⊢; exact hww)) trivial (arS Ξ) ?_ ?_)]
  ·rintro xb w V6 Sr ρ M' ⟨y5,rfl,rfl⟩
   rw[ah8 GG (xb.length≤131072) (by
    rw[aev h1 (oC ps ss fuel [] (cw ss k).1 (cw ss k).2) Sr h1];simp[fuel] at h1;omega) (ad5 _ ?_)];rw[ajW (api .bb (M++[ς ((avW++ag8 (xb++[w]).map w (k,w)).map BB)]) (afR (avm _)))];simp[fB,C1,BB,lim,-List.length_flatMap];omega
  ·rintro ρ' M' ⟨y5,rfl,rfl⟩;refine afR (abS _ _ _ ?_);rw[List.flatMap_append,List.flatMap_cons,List.flatMap_nil,zI];rfl
 ·rintro ρ' M' ⟨y3,y4,y5,rfl,rfl⟩;exact acK (bx (hV aiB) (M++[.gone]) (afr ES dU) (aV (aiI [.gone])))
def k8{gw:D1}(hw:Lq fuel gw):pq (rO gw):=by
 intro ps ss M hg;rw[ake rO (r=.ok (hV aiB) M)];simp only[zC,zD,zE,zF,Nat.zero_add,Nat.reduceAdd,Nat.reduceSub,List.replicate,zG,zH];rw[aaA hfs hg.zy (aeV (ς []) M Ξ)]
 rw[adk];have hi:xQ [(aiM b9)] [ajE,arq,anb [],none] M=awT .ok (List.range ss.length).map M:=atw aCe
 rw[aqW (xQ [(aiM b9)]) di hi (aH (fS (aiJ (afN k) k) (azT y3 (ρ=[ajE,arq,f7 (hV avW),y3]) (M'=M)) (List.range ss.length) none M
  hi trivial aLa ?_ ?_))]
 ·rintro pre k post hx ρ M' ⟨y3,rfl,rfl⟩;rw[apB hk sV (oE hx) la (ang (aeA avW)) (by
   have h1:=ph pre λ k _=>uF ps ss k;omega)]
  have Ha:=uF ps ss k;rw[ao8];rw[aaA hww (hw ps ss [] (cw ss k).1 (cw ss k).2 M' (Yo hg hk) (by simp;have:=hg.qi;unfold fuel;omega) d7) (wR (hV ((aHC (agw k)) (pX ps ss))) M' ?_ (afR (avm _)))];rw[aD];simp only[aA,zB,zA,ag]
  rw[cc (xs:=pf ps ss fuel [] (cw ss k).1 (cw ss k).2) (w:=none) (M':=M') bG ah9 (λ w=>BB (k,w)) (ahW [y,agO]) (ej (by simp[BE hk,dw] at hww ⊢; exact hww)) trivial ah2 (aoj x hx)
   (adP (oC ps ss fuel _ _ _))]
  ·rw[awN,ahY (by rw[aqg (oC ps ss fuel _ _ _)]),ag,qE,ahY (by simp[pX,lim,-List.length_flatMap] at Ha ⊢; omega)];simp[pX]
  ·rw[ahJ y rfl hρ (abS _ rfl acV (λ _=>f6 BB))]
 ·rintro ρ' M' ⟨y3,rfl,rfl⟩;exact acK (ah4 (hV aiB) M' (f6 dU))
universe Sb
universe zE
section
namespace L2
open PySem
def Uj{M G:aY}aQj:acL (M++o::G) M.length o:=Ξ
def Lr{M G:aY}{o o':MO}:(M++o::G).set M.length o'=M++o'::G:=Ξ
universe L2
namespace Sb
open PySem L2
abbrev xc aQW(k:Int):Int:=ns.getD (aiF (k%ns.length)) 0
abbrev kL aQW(k:Int):Int :=
 (aJ0 (awM+104729*(k+1))*48271%4294967279 / 64*69621+aJ0 (awM+104729*(k+1))*48271%4294967279)%4294967231
abbrev Hb aPd:Prop:=∀ns k M,g [.pR ns,η k] M=.ok (η awM) M
abbrev sj aPd:Prop:=∀ns k M,g [.pR ns,η k] M=.ok (η azg) M
def qt:Hb rL:=by
 intro ns k M
 rw[ake rL (r=.ok (η awM) M)];rw[agN (ns=[])]
 ·subst h;refine aH (pO M (f6 jG) (afX (acK (bx (η 0) M rfl (aV ?_)))));simp[xc]
 ·rw[ahU hl (0<ns.length) aNE (G5 M (afr jG h) (bx (η awM) M ?_ (cY (aV rfl))))];rw[al1 (aIc k b ns.length) (Int.emod_lt_of_pos k (b:=ns.length) b6)];simp[bU,cC,mB,hl,aK,Mw,IG];rw[akr h1 h2]
  have h3:aiF (k%acy ns.length)<ns.length:=b6
  simp[h3,xc]
def uv aQZ(h:Hb g):sj (uB g):=by
 intro ns k M
 rw[ake uB (r=.ok (η azg) M)];rw[ag1 (η (aJ0 (awM+104729*(k+1)))) M ?_]
 ·simp[h ns k M,cC,mB,nq,small]
 rw[ag1 (η (aJ0 (awM+104729*(k+1))*48271%4294967279)) M ?_]
 ·simp[cC,mB,nq,small]
 refine ah4 (η azg) M ?_;simp[cC,eh,mB,nq,small,kL]
def vJ aQW(k:Int):0≤azg:=Int.emod_nonneg _ d7
universe Sb
universe zE
section
namespace Sb
open PySem L2
abbrev cnt aPD aPY:Nat:=aeA (ps.filter (aoM p j p.js))
def Uk aPD aPY:aeA azz=aC8:=by
 unfold Qj cnt
 have:ps=(apv).map (Pc.at ps):=by
  rw[aiy (aDY i) zJ];rw[agN (ai5 i)]
  ·rw[uD h,aIa]; rfl
  ·rw[ax5,an4 (by rw[afo])]; rfl
 conv=>rhs; rw[this]
 rw[List.filter_map,zK];rfl
def Hc aPD aQb aPY:cnt (ps++[p]) j=aC8+apA j p.js 1 0:=by
 rw[aga cnt List.filter_append List.length_append]
 congr 1
 by_cases h:j∈p.js<;>simp[h]
abbrev fresh(c:Int)aPs:Int:=(c+37*i)%1000
def M6(c:Int)aPs:0≤aww/\aww≤999:=by
 unfold fresh;omega
def yh(c:Int){i k:Nat}(hi:i<27)(hk:k<27)(h:aww=fresh c k):i=k:=by
 rw[ak9 fresh];omega
structure M7(c:Int)aPD(loose:acm)(many:Nat):Prop where
 qi:many≤3*ps.length
 old:afz ps (∀j∈p.js,∃i,i<many/\j=aww)
 once:aCj
 two:∀j,aC8≤2
 lo:∀j∈loose,aC8≤1/\∃i,i<many/\j=aww
structure M8(c:Int)(loose:acm)(m0 many:Nat)(ends:acm):Prop where
 nd:ends.Nodup
 le:m0≤many
 src:∀j∈ends,j∈loose\/∃i,m0≤i/\i<many/\j=aww
abbrev Qp:acm->Pc
 | [j,k]=>.pl j k
 | [t,s,b]=>.pt t s b
 | _=>.pl 0 0
def Ul{ends:acm}aU2:(aBI).js=ends:=by
 rcases ends with _ | ⟨a,_ | ⟨b,_ | ⟨d,_ | ⟨e,r⟩⟩⟩⟩
 ·rw[ao3]
 ·rw[ao3]
 ·rfl
 ·rfl
 ·rw[ao3]
def Qq aQw aSp(h:afz ps (j∉p.js)):aC8=0:=by
 rw[aga cnt List.length_eq_zero_iff List.filter_eq_nil_iff];intro p hp;simp[h p hp]
def Qr{c:Int}aQw aUB aWL(hm:many≤3*(ps.length+1))(h24:many≤24)aU2 :
  M7 c (ps++[aBI]) (ends.filter (acN j (j∉loose))++loose.filter (acN j (j∉ends))) many:=by
 rw[aeC hj (Ul h) ku (∀i,m0≤i->i<many->cnt ps aww=0) (λ i h1 h2=>Qq λ p hp hm=>by
  obtain⟨i',h3,h4⟩:=I.old p hp _ hm;rw[ae9 (yh c b6 b6 h4)])]
 refine⟨by rw[Ω List.length_append hm],acI p hp j hm,ar6,g8 j,acO j hm⟩
 ·rcases aH7 with hp | hp
  ·rw[ahd i h1 h2 (I.old p hp j hm) i (aLC h1) h2]
  ·rw[ajr hp];rw[alL hp hj hm];rcases E.src j hm with h1 | ⟨i,_,h1,h2⟩
   ·obtain⟨_,i,h2,h3⟩:=I.lo j h1;rw[aas i (aLC h2) h3]
   ·rw[aas i h1 h2]
 ·rcases aH7 with hp | hp
  ·exact I.once p hp
  ·rw[ajr hp];subst hp;rw[Ω hj E.nd]
 ·rw[Hc,hj];have:=I.two j;split
  ·rename_i hm;rcases E.src j hm with h1 | ⟨i,h0,h1,rfl⟩
   ·rw[ae9 (I.lo j h1).1]
   ·rw[akB (ku i h0 h1)]
  ·omega
 ·rw[Hc,hj];rcases aLO with hm | hm
  ·rw[anC aH6]
   rw[an6 h2 h2];rcases E.src j h1 with h3 | ⟨i,h0,h3,rfl⟩
   ·rw[afZ h3 h2]
   ·rw[ku i h0 h3,aKL];exact⟨b6,i,h3,rfl⟩
  ·rw[anC aH6];rw[an6 h2 h2];rw[agL h2];rw[af7 h3 i h4 h5 (I.lo j h1) ⟨h3,i,aLC h4,h5⟩]
def Qs{c:Int}aUB aVF aSp(h1:j∈loose)(h2:j∉ends):M8 c loose m0 many (ends++[j]):=by
 rw[adv ?_ E.le (acO k hk)]
 ·rw[List.nodup_append];rw[adv E.nd Ξ (acI a ha b hb)];simp at hb;subst hb;rintro rfl;exact h2 ha
 ·rcases aNV with hk | hk
  ·exact E.src k hk
  ·rw[aAB hk hk (b5 h1)]
def Qt{c:Int}aQw aUB aWL(h24:many<24):M8 c loose m0 (many+1) (ends++[fresh c many]):=by
 have hn:fresh c many∉ends:=λ h=>by
  rcases E.src _ h with h1 | ⟨i,h0,h1,h2⟩
  ·obtain⟨_,i,h2,h3⟩:=I.lo _ h1;have:=yh c b6 (by rw[ae9 E.le]) h3;rw[ae9 E.le]
  ·rw[ae9 (yh c b6 b6 h2)]
 rw[adv ?_ (Nat.le_succ_of_le E.le) (acO k hk)]
 ·rw[List.nodup_append];rw[adv E.nd Ξ (acI a ha b hb)];simp at hb;subst hb;rintro rfl;exact hn ha
 ·rcases aNV with hk | hk
  ·rcases E.src k hk with h1 | ⟨i,h0,h1,h2⟩
   ·exact b5 h1
   ·exact c6 ⟨i,h0,b6,h2⟩
  ·rw[aAB hk hk (c6 ⟨many,E.le,b6,rfl⟩)]
structure He aPD:Prop where
 Qo:axA 1
 qi:az6 8
 Gx:afz ps (∀j∈p.js,0≤j/\j≤999)
 once:aCj
 two:∀j,agS (Qj ps j) 2
def M7.good{c:Int}aQw{loose:acm}{many:Nat}(I:M7 c ps loose many)(h1:axA 1)(h8:az6 8):aCI :=
 ⟨h1,h8,λ p hp j hj=>by obtain⟨i,_,rfl⟩:=I.old p hp j hj; exact M6 c i,I.once,λ j=>by rw[Ω Uk (I.two j)]⟩
universe Sb
universe zE
end
mutual
section
namespace Sb
open PySem L2
def Qu aPX{xs ys:acm}{i k:Nat}{y:PV}(hi:aj7 i (aAf xs))aVO(hl:aBM) :
  cg false (akb k) (iL (ae i)) (gN 0) (ajM (ju true) b8 b9) b8 ρ M=.ok (gW (xs.filter (acN j (j∉ys)))) M:=by
 rw[cc (xs:=xs) (w:=none) (M':=M) PV.int (acN j (j∉ys)) PV.int (λ ρ=>∃z,ρ=[z,aoG]) (ej (anE hi)) trivial ⟨none,afr wC hk⟩ (akf x) (adP hl)]
 ·rw[cN (by rw[alb (asF (List.length_filter_le _ _) hl)])]
 ·rw[aiK z hρ];refine⟨_,rfl,acV,?_,λ _=>Ξ⟩;simp[sf (neg:=true) (enc:=PV.int) (λ a=>jH a) (λ a b e=>by cases e; rfl) hy]
def Um aPX{xs ys:acm}{i k n:Nat}{y:PV}(hi:aj7 i aqt)(hn:auc n aJI)aVO(hl:aBM) :
  cg false (akb k) (iL (ae i)) (gN 0) (ajM (ju true) b8 b9) b8 ρ M=.ok (gW (xs.filter (acN j (j∉ys)))) M:=by
 rw[cc (xs:=xs) (w:=aiR n (ς aJI)) (M':=M) PV.int (acN j (j∉ys)) PV.int (λ ρ=>∃z,ρ=[z,aoG]) (yg (anE hi) hn) hn ⟨none,afr wC hk⟩ (akf x) (adP hl)]
 ·rw[cN (by rw[alb (asF (List.length_filter_le _ _) hl)])]
 ·rw[aiK z hρ];refine⟨_,rfl,acV,?_,λ _=>Ξ⟩;simp[sf (neg:=true) (enc:=PV.int) (λ a=>jH a) (λ a b e=>by cases e; rfl) hy]
def Uo{xs:acm}{n:Int}aPc(h:agU xs)(hn:0≤n):∃j∈xs,agF (gW xs) (n%(if aEr<4 then(xs.length:Int) else 4))=.ok (η j) M:=by
 rw[d6 hl (aAh 0) aNE hd (atX<(if aEr<4 then(xs.length:Int) else 4)) (by split<;>omega)]
 have hle:aJE (if aEr<4 then(xs.length:Int) else 4):=by split<;>omega
 generalize (if aEr<4 then(xs.length:Int) else 4)=d at hd hle;rw[al1 (aIc n b d) (Int.emod_lt_of_pos n hd)];rw[aLn i hi h1];rw[hi]
 rw[avc h3 aqv b6 xs[i] (List.getElem_mem h3) (fK (by rw[zJ,List.getElem?_eq_getElem h3];rfl))]
def Uq{ends:acm}aPc aU2:∃z,agF (ς [ayd,ap1]) (acy ends.length-2)=.ok z M/\(aBI).enc=sT (z::ends.map η):=by
 rcases ends with _ | ⟨a,_ | ⟨b,_ | ⟨d,_ | ⟨e,r⟩⟩⟩⟩
 ·rw[ao3]
 ·rw[ao3]
 ·rw[an0 ayd awB]
 ·rw[an0 ap1 (fK (i:=1) rfl)]
 ·rw[ao3]
abbrev Ls aPd:Prop:=∀ns(b:Int) M,∃ps,aCI/\g [.pR ns,η b] M=.ok agm M
def Qv aPa{xs:acm}{z:Str}:c8 (PV.mr n (sT (c7 z::aJI))):=AB (ame (by
 rcases aN9 with rfl | hx
 ·simp
 ·obtain⟨i,_,rfl⟩:=List.mem_map.mp hx;simp))
def Yq aPa aQb:c8 (PV.mr n p.enc):=by
 cases p with
 | pl j k=>exact Qv (xs:=[j,k])
 | pt t s b=>exact Qv (xs:=[t,s,b])
def iY{gm:D1}(hm:aCH):Ls (ayi (nZ gm)):=by
 intro ns b M
 suffices h:∃ps G,aCI/\nZ gm [.pR ns,η b] M=.ok agm (M++G) by
  rw[af7 ps G hg e h ⟨ps,hg,qe.trunc ⟨G,e⟩ (wW Yq _)⟩]
 rw[ake nZ (∃ps G,aCI/\r=.ok agm (M++G))];simp only[zC,zD,zE,zF,Nat.zero_add,Nat.reduceAdd,Nat.reduceSub,List.replicate,zG,zH];rw[ag1 aes (M++[ς []]) Ξ];rw[akp (ς []) (M++[ς []]) Ξ]
 rw[akp (η 0) (M++[ς []]) Ξ]
 rw[adk];rw[aLn n hn (show 0≤1+kL ns b%8 by rw[ae9 (vJ ns b)])]
 rw[d6 hn8 (1≤n/\n≤8) (by rw[ae9 (vJ ns b)]) hi (xQ [(akt (Θ 1) (ay cC (av gm (ahb b9)) (Θ 8)))] [akx .pR,arR,adW,anb [],afY 0,none,none,none,none,none,none] (M++[ς []])
   = awT .ok (aod).map (M++[ς []])) (atw (by simp[hm ns b,cC,mB,hn]))]
 rw[aqW (xQ [(akt (Θ 1) (ay cC (av gm (ahb b9)) (Θ 8)))]) di hi (aH (fS (aiJ (afN k) k) (ak6 (∃y5 y6 y7 y8 y9 sN G ps loose many,ρ=[akx .pR,arR,adW,aKo,axL (afN many),y5,y6,y7,y8,y9,sN] ∧
   M'=M++ς aIV::G/\ps.length=pre.length/\loose.length≤3*pre.length/\M7 (alB (b+9)) ps loose many)) aod none (M++[ς []]) hi trivial ?_ ?_ ?_))]
 ·exact⟨none,none,none,none,none,none,[],[],[],0,rfl,rfl,rfl,Ξ,⟨Ξ,Ξ,Ξ,f6 cnt,Ξ⟩⟩
 ·rintro pre k post hx ρ M' ⟨y5,y6,y7,y8,y9,sN,G,ps,loose,many,rfl,rfl,sV,hll,I⟩;obtain⟨hk,aid⟩:=oE hx
  refine ad5 _ ?_;generalize Sq:M++ς aIV::G=M1;rw[akp (η (alB (b+1+k))) M1 (f6 aCG)]
  rw[akp (ο M1.length) (M1++[ς []]) Ξ]
  rw[adk]
  obtain⟨n2,OR,aie⟩:∃n2:Nat,acy 2+(if alB (b+1+k)%5<3 then 1 else 0)=n2/\(n2=2\/n2=3):=by
   split
   ·exact ad5 3 (c6 rfl)
   ·exact ad5 2 (b5 rfl)
  have Ps:xQ [(akt (Θ 2) (av qI [(ay Jk (ay cC (ae 6) (Θ 5)) (Θ 3))]))] [akx .pR,arR,adW,aKo,afY many,agO,alA (alB (b+1+k)),aMK,y8,y9,sN] (M1++[ς []])
    = awT .ok (List.range n2).map (M1++[ς []]):=atw (by
   simp[cC,Jk,mB,qI]
   rw[← OR])
  rw[aqW (xQ [(akt (Θ 2) (av qI [(ay Jk (ay cC (ae 6) (Θ 5)) (Θ 3))]))]) di2 Ps (aH (fS (aiJ (afN k) k) (λ xb ρ M'=>∃y8 y9 sN ends qP,ρ=[akx .pR,arR,adW,aKo,axL (afN qP),agO,alA (alB (b+1+k)),aMK,y8,y9,sN] ∧
   M'=M1++[ς (ends.map η)]/\axz xb.length/\qP≤many+xb.length/\M8 (alB (b+9)) loose many qP ends) (List.range n2) none (M1++[ς []]) Ps trivial ?_ ?_ ?_))]
  ·exact⟨y8,y9,sN,[],many,rfl,rfl,rfl,acT,⟨Ξ,acT,Ξ⟩⟩
  ·rintro xb j V6 Sr ρ M' ⟨z8,z9,z10,ends,qP,rfl,rfl,Sn,hmm,E⟩;rw[aq4 hj aii (oE Sr) O6 I.qi];rw[ao8]
   generalize V7:alB (b+10+3*k+j)=pick
   rw[acH V8 (0≤pick) (by rw[abd V7 (vJ _ _)]) (aeV (η pick) (M1++[ς (ends.map η)]) (by simp[aCG,nq,small,V7]))];rw[akp (gW (loose.filter (acN j (j∉ends)))) (M1++[ς (ends.map η)]) (Qu (ys:=ends) rfl rfl Ξ b6)];obtain⟨L,hLm⟩:∃L,loose.filter (acN j (j∉ends))=L:=acV;rw[hLm];rw[adk]
   have hif:∃t,mD (dP (ae 10)) (ajM Jk (ay cC (ae 9) (Θ 8)) (amb (aem [(Θ 7),(Θ 2),(Θ 2)]) (ae 8))) [akx .pR,arR,adW,aKo,afY qP,agO,alA (alB (b+1+k)),aMK,amW,afY pick,aAf L] (M1++[ς (ends.map η)])
     = .ok t (M1++[ς (ends.map η)])/\(c8 t->agU L):=by
    have hj3:j=0\/j=1\/j=2:=b6
    obtain⟨v,hv⟩:∃v:Int,∀M,agF (ς [η 7,η 2,η 2]) j=.ok (η v) M:=by
     rcases hj3 with rfl | rfl | rfl
     ·rw[apX 7 M (fK (i:=0) rfl)]
     ·rw[apX 2 M (fK (i:=1) rfl)]
     ·rw[apX 2 M (fK (i:=2) rfl)]
    cases L with
    | nil=>rw[aas false (f6 jG) (nofun)]
    | cons x xs=>rw[aas (an2 (pick%8) v) (by simp[jG,cC,mB,Jk,hv]) (λ _=>Ξ)]
   rw[aoa t ht dz hif (aBd t _ ht (g8 ht) _)]
   ·obtain⟨x,hx,hix⟩:=Uo (M:=M1++[ς (ends.map η)]) (dz ht) (n:=pick / 8) b6;obtain⟨hx1,Sr⟩:=List.mem_filter.mp (hLm ▸ hx);rw[aiQ (api .bb (M1++[ς ((ends++[x]).map η)]) (afR ⟨_,_,_,ends++[x],qP,rfl,rfl,f6 Sn,by rw[afo],Qs E hx1 (of_decide_eq_true Sr)⟩)) hd (atX<(if acy L.length<4 then(L.length:Int) else 4)) (by
     have:=aNk (dz ht);split<;>omega)]
    simp[bU,Jl,eh,cC,mB];rw[if_pos hd,ag,hix];simp[fB,C1,lim];omega
   ·refine aH (api .bb (M1++[ς ((ends++[fresh (alB (b+9)) qP]).map η)]) (acK (wR (η (afW (qP+1))) (M1++[ς ((ends++[fresh (alB (b+9)) qP]).map η)]) Ξ (afR ⟨_,_,_,ends++[fresh (alB (b+9)) qP],qP+1,rfl,rfl,f6 Sn,by rw[afo],Qt I E b6⟩))));simp[aCG,nq,small,cC,mB,fB,C1,fresh,lim];omega
  ·rintro ρ' M' ⟨z8,z9,z10,ends,qP,rfl,rfl,Sn,hmm,E⟩;rw[List.length_range] at Sn hmm;rw[aaA O6 I.qi (acK (aeV (gW (ends.filter (acN j (j∉loose))++loose.filter (acN j (j∉ends)))) (M1++[ς (ends.map η)]) ?_))]
   ·rw[aD,Um (xs:=ends) (ys:=loose) (n:=M1.length) rfl Ξ rfl rfl b6,ag,Qu (xs:=loose) (ys:=ends) rfl rfl Ξ b6,ag,qE,← List.map_append,cN];rw[zK,List.length_append];rw[al1 (List.length_filter_le (acN j (j∉loose)) ends) (List.length_filter_le (acN j (j∉ends)) loose)];omega
   ·rw[adk]
    rw[aoa z hz1 hz2 (Uq (M:=M1++[ς (ends.map η)]) (ends:=ends) b6) (api .bb (M++ς ((ps++[aBI]).map Pc.enc)::(G++[ς (ends.map η)])) (afR ⟨_,_,_,_,_,_,G++[ς (ends.map η)],ps++[aBI],_,qP,rfl,rfl,f6 sV,?_,Qr I E b6 b6 b6⟩))]
    ·simp[bU,zv,mB] at hz1 ⊢;rw[hz1,hz2];subst Sq;simp[EU,dX,fB,C1,lim];rw[aj9 b6];rw[afo]
    ·rw[List.length_append];rw[al1 (List.length_filter_le (acN j (j∉loose)) ends) (List.length_filter_le (acN j (j∉ends)) loose)]
     have h3:aqH pre [k]=pre.length+1:=Ξ
     omega
 ·rintro ρ' M' ⟨y5,y6,y7,y8,y9,sN,G,ps,loose,many,rfl,rfl,sV,hll,I⟩;refine acK (bx agm (M++.gone::G) ?_ (aV ⟨ps,.gone::G,I.good ?_ ?_,rfl⟩))
  ·simp[ES]
  ·rw[sV]; rw[afo]
  ·rw[sV]; rw[afo]
universe Sb
universe zE
section
namespace Sb
open PySem L2
def Qw aPa{pre post:ae6}aPg(h:aod=aDF k):k=pre.length:=by
 have h1:acL aod pre.length k:=by rw[agb h]
 rw[aev h2 (oE h).2 (List.getElem?_range h2) h1];exact(auE).symm
def M9 aQb:p.js.length≤3:=by cases p<;>simp[Pc.js]
def Yr aPa(s:Sg):c8 (PV.mr n (dw s)):=AB (ame (by
 rw[ajr hx];rcases hx with rfl | rfl<;>simp))
abbrev Lu aPd:Prop:=∀ns(b:Int) ps M,aCI->∃ss,amV/\g [.pR ns,η b,agm] M=.ok aiP M
def Qx aPi aPg(h:aJE k):qH xs av5 none=xs.drop k:=by
 rw[aiY qH HT.KJ HT.AV (Nat.min_eq_left h)];exact List.take_of_length_le Ξ
def Jx aPi aPg:aFg av5=xs.take k:=by
 rw[aga qH HT.KJ HT.AV];simp
def lD{gm gb:D1}(hm:aCH)(hb:w5 gb):Lu (ayi (mX gm gb)):=by
 intro ns b ps M hg;have hp8:=hg.qi
 suffices h:∃ss G,amV/\mX gm gb [.pR ns,η b,agm] M=.ok aiP (M++G) by
  rw[af7 ss G hg e h ⟨ss,hg,qe.trunc ⟨G,e⟩ (wW Yr _)⟩]
 rw[ake mX (∃ss G,amV/\r=.ok aiP (M++G))];simp only[zC,zD,zE,zF,Nat.zero_add,Nat.reduceAdd,Nat.reduceSub,List.replicate,zG,zH];rw[ag1 aes (M++[ς []]) Ξ]
 rw[adk];have hi:xQ [(aiM c9)] [akx .pR,arR,ajE,adW,none,none,none,none,none] (M++[ς []])=awT .ok (apv).map (M++[ς []]):=atw aCe
 rw[aqW (xQ [(aiM c9)]) di hi (aH (fS (aiJ (afN k) k) (ak6 (∃y4 y5 y6 y7 ss,ρ=[akx .pR,arR,ajE,adW,y4,y5,y6,y7,none]/\M'=M++[ς (ss.map dw)]/\ss.length≤3*pre.length/\ss.Nodup ∧
  agk ss (s.2<pre.length/\s.1∈(aeo s.2).js))) apv none (M++[ς []]) hi trivial ⟨none,none,none,none,[],rfl,rfl,Ξ,Ξ,Ξ⟩ ?_ ?_))]
 ·rintro pre k post hx ρ M' ⟨y4,y5,y6,y7,ss,rfl,rfl,hl,xA,hs⟩;obtain⟨hk,sV⟩:=oE hx
  rw[ZI hkp (Qw hx) hjl (M9 (aeo k))];refine ad5 _ ?_
  rw[ajW (fS PV.int (λ xb ρ M'=>∃y5 y6 y7 ss,ρ=[akx .pR,arR,ajE,adW,agO,y5,y6,y7,none]/\M'=M++[ς (ss.map dw)]/\ss.length≤3*pre.length+xb.length/\ss.Nodup ∧
   agk ss ((s.2<pre.length/\s.1∈(aeo s.2).js)\/(s.2=k/\s.1∈xb))) (aeo k).js none (M++[ς (ss.map dw)]) (Jv (afr (sM hk) Yg)) trivial ⟨y5,y6,y7,ss,rfl,rfl,by rw[anr hl],xA,ajU s (b5 (hs s h))⟩ ?_ ?_)]
  ·rintro xb j V6 Sr ρ M' ⟨z5,z6,z7,tt,rfl,rfl,Ow,htn,hts⟩;rw[d6 hnj (aeo k).js.Nodup (hg.once _ (E8 hk)) hjn (j∉xb) (by
    rw[ap4 Sr List.nodup_append hnj (λ h=>hnj.2.2 j h j Ξ rfl)])]
   have aim:xb.length<3:=by
    have:=az9 Sr;rw[axS];omega
   rw[ao8]
   generalize ae5:alB (b+3*k+tt.length)=num;rw[ag1 (η num) (M++[ς aKh]) (by simp[aCG,bU,nq,small,ae5])];rw[akp (.bl (uZ (aun k))) (M++[ς aKh]) (afr (hb ps k j _ b6) rn)]
   rw[adk]
   rw[d6 XJ (agM (tt++[(j,k)])) (by
    rw[List.nodup_append]
    rw[adv htn Ξ (acI s Ot s2 Mi)];rw[ajr Mi]
    subst Mi;rintro rfl;rcases hts _ Ot with h | h
    ·omega
    ·exact hjn h.2) hif (∃t,A6 (ba (acW (ay cC (ae 6) (Θ 3)) (Θ 0))) (mD (dP (ae 7)) (ba (acW (ay cC (ae 6) (Θ 3)) (Θ 1)))) [akx .pR,arR,ajE,adW,agO,amW,afY num,amC .bl (uZ (aun k)),none] (M++[ς aKh])=.ok t (M++[ς aKh])) (by
    by_cases h1:num%3=0
    ·rw[aaX true (by simp[cC,mB,h1])]
    ·rw[ahN h2 (uZ (aun k))]
     ·rw[aaX (afJ (num%3) 1) (by simp[cC,mB,jG,h1,h2])]
     ·rw[aaX false (by simp[cC,mB,jG,h1,h2])])]
   obtain⟨t,ht⟩:=hif
   refine aBd t _ ht (g8 _) _
   ·refine api .bb (M++[ς ((tt++[(j,k)]).map dw)]) (afR ⟨_,_,_,tt++[(j,k)],rfl,rfl,by rw[afo],XJ,aoX⟩)
    ·simp[fB,C1,lim,dw];omega
    ·rcases aH8 with h | h
     ·rcases hts s h with h | h
      ·exact b5 h
      ·exact alx h.1 (f6 h.2)
     ·rw[ajr h];rw[aeq h (c6 (aju Ξ))]
   ·rw[amj (afR ⟨_,_,_,tt,rfl,rfl,by rw[afo],htn,aoX⟩)];rcases hts s hs with h | h
    ·exact b5 h
    ·exact alx h.1 (f6 h.2)
  ·rintro ρ' M' ⟨z5,z6,z7,tt,rfl,rfl,Ow,htn,hts⟩;refine afR ⟨_,_,_,_,tt,rfl,rfl,by rw[afo],htn,aoX⟩;rw[aIb];rcases hts s hs with h | h
   ·rw[aaX b6 h.2]
   ·rw[h.1];rw[aaX b6 h.2]
 ·rintro ρ' M' ⟨y4,y5,y6,y7,ss,rfl,rfl,hl,xA,hs⟩;rw[List.length_range] at hl hs;rw[aLn sh hsh (aIc (alB (b+30)) b (1+acy ss.length))]
  rw[acH sW (sh≤ss.length) (by rw[ae9 (Int.emod_lt_of_pos (alB (b+30)) (b:=1+acy ss.length) b6)]) (acK (aeV (η sh) (M++[ς (ss.map dw)]) ?_))]
  ·simp[aCG,bU,cC,mB];rw[alN b6 hsh]
  ·rw[adk]
   rw[acH V9 ((aJP++aJQ).Perm ss) (by
    rw[avl (List.perm_append_comm (l₁:=aJP) (l₂:=aJQ)) List.take_append_drop]) (bx (cU ((aJP++aJQ).take 16)) (M++[ς (ss.map dw)]) ?_ (aV ⟨_,[ς (ss.map dw)],⟨hg.Qo,b6,hg.Gx,hg.once,hg.two,?_,?_,acO s h⟩,rfl⟩))]
   ·rw[anu e1 (∀M:aY,GV false aes (aJH sh) none (M++[ς (ss.map dw)])=.ok (cU aJP) (M++[ς (ss.map dw)])) M (by
     simp only[GV,A5,G7];rw[Qx (by rw[anr sW]),← List.map_drop,cN (by rw[afo])]) e2 (∀M:aY,GV false aes none (aJH sh) (M++[ς (ss.map dw)])=.ok (cU aJQ) (M++[ς (ss.map dw)])) (λ M=>by
     simp only[GV,A5,G7];rw[Jx,← List.map_take,cN (by rw[afo])])]
    have e3:∀aPh(xs:afD),aBM->GV false (cU xs) none (some 16) M=.ok (cU (xs.take 16)) M:=λ M xs hx=>by
     simp only[GV,jh];rw[akT (b7 (aJH 16) (afW 16)),Jx,← List.map_take,cN (by rw[afo])]
    simp only[r9,aD,aA,nz,lp,bA,ag,zB,zA,e1,e2,qE];rw[← List.map_append,cN (by rw[afo]),ag,e3 _ _ (by rw[afo])]
   ·rw[akB List.length_take]
   ·exact((V9.nodup_iff).mpr xA).sublist (List.take_sublist _ _)
   ·exact hs s (V9.mem_iff.mp (List.mem_of_mem_take h))
universe Sb
universe zE
section
namespace Sb
open PySem L2 PyProof.Rows
structure Lv aQb(j o:Int):Prop where
 ne:o≠j
 mem:o∈p.js
 tip:p.js.length=3->p.js.headD 0=j\/p.js.headD 0=o
def Ur{p:Pc}aWJ(h:o∈wU p j):Lv p j o:=by
 cases p with
 | pl a b =>
  rw[ax2 h1 h2 aIf aAa h1 (f6 Pc.js)]
 | pt t s b =>
  simp only[Pc.js,List.nodup_cons,List.mem_cons,List.not_mem_nil,or_false,not_or] at hn;rw[aHR wU h h];split at h
  ·rename_i e
   subst e;rw[ajr h];rw[adv ?_ (by rcases h with rfl | rfl<;>simp[Pc.js]) (λ _=>b5 rfl)]
   rcases h with rfl | rfl
   ·exact adm (hn.1.1 e.symm)
   ·exact adm (hn.1.2 e.symm)
  ·rename_i e;rw[ajr h];subst h;rw[aas (acZ (e z.symm)) (f6 Pc.js) (λ _=>c6 rfl)]
abbrev Chain aQz:Bool->Int->aeQ->ad9 z0
 | _,j,a,[]=>∀b,b7 a b->(j,b)∈ss
 | f,j,a,(a',j',o)::r=>b7 a a'/\j'=j/\(acS f->(j,a')∉ss)/\ai5 a'/\Lv (aeo a') j o/\Chain ps ss false o (beyond ps a' o) r
def BF aSv(hn:aCj):∀aPf(way w:z0)aPY aQs(f:Bool),aDi->(acS f->(j,a)∉ss)->w∈pf ps ss n way j a →
  ∃r,w=way++r/\agU r/\Chain ps ss f j (some a) r/\atj/\axA w.length
 | 0,way,w,j,a,f,ok,hf,h=>by simp[pf] at h
 | n+1,way,w,j,a,f,ok,hf,h=>by
  rw[ajR mJ];split at h
  ·rw[ao3]
  rename_i ha;rw[aLr o ho hw h];have hoo:=Ur (hn _ (E8 ok.lt)) ho
  rw[d6 xA (aop (way++[(a,j,o)]).map) (by
   rw[List.map_append,List.nodup_append];rw[adv ok.nd Ξ (acI x hx y hy)];simp at hy;subst hy;rintro rfl;exact ha hx) hlen (axA (aqH way [(a,j,o)])) (by
   have:=mK (n:=ps.length) xA (ame (by
    rw[ahP s hs hx];rcases aH8 with hs | hs
    ·exact ok.all s hs
    ·rw[aAB hs hs ok.lt]))
   simpa using this)]
  unfold kK at hw;cases hb:awE with
  | none =>
   rw[hb] at hw;rw[ajr hw];subst hw;exact⟨[(a,j,o)],rfl,Ξ,⟨rfl,rfl,hf,ok.lt,hoo,by rw[Ω hb (nofun)]⟩,xA,hlen⟩
  | some b =>
   rw[amt hb hw hw];split at hw
   ·rename_i hs;rw[ajr hw];subst hw;exact⟨[(a,j,o)],rfl,Ξ,⟨rfl,rfl,hf,ok.lt,hoo,by rw[hb]; intro b' e; cases e; exact hs⟩,xA,hlen⟩
   ·rename_i hs;obtain⟨r,e,hr,hc,h1,h2⟩:=BF hn n (way++[(a,j,o)]) w o b false (ok.step ha hb) (λ _=>hs) hw;exact⟨(a,j,o)::r,by rw[arW],Ξ,⟨rfl,rfl,hf,ok.lt,hoo,by rw[Ω hb hc]⟩,h1,h2⟩
structure Lw aQz(r:Rt):Prop where
 lt:aA3 r.1
 ne:agU r.2
 chain:Chain ps ss true (cw ss r.1).1 (some (cw ss r.1).2) r.2
 nd:aop r.2.map
 len:axA (ahK r.2)
def Qy aR2{r:Rt}(h:r∈aiB):Lw ps ss r:=by
 rw[aLr k hk h h];have hk:=List.mem_range.mp hk;rw[ahP w hw h];obtain⟨r,e,h1,h2,h3,h4⟩:=BF hg.once fuel [] w (cw ss k).1 (cw ss k).2 true (Yo hg hk) nofun hw;rw[zH] at e;subst e;exact⟨hk,h1,h2,h3,h4⟩
universe Sb
universe zE
end
mutual
section
namespace L2
open PySem
def yi aRy aP5 aRd{lQ dv:DE}aPX(y:PV)(M1:aY)aPf(fs Ol:aka)(h:aDk=.ok y M1)(ho:aCq=.ok (ο n) M1)(hn:M1[n]? = ac1 abT C fs)(hl:aBk)(hf:aDl=Ol)
  (q:Q (.nx ρ (M1.set n (abT C Ol)))):Q (gS C f lQ dv ρ M):=by
 unfold gS;rw[h,Res.eV,ho,Res.eV,mT hn];dsimp only;rw[alN hl hf];exact q
def mL aRy aP9 aRd{dv:DE}{ρ:eu}{M G G':aY}aSQ{s2:DS}(y:PV)(Ol:aka)(h0:aj7 0 adW)(h:dv ρ (M++abT c fs::G)=.ok y (M++abT c fs::G'))(hl:aBk)(hf:aDl=Ol)
  (q:Q (.nx ρ (M++abT c Ol::G'))):Q (gS c f b8 dv ρ (M++abT c fs::G)):=by
 refine yi y _ M.length fs Ol h (anE h0) Ξ hl hf ?_;rw[Ω Lr q]
universe L2
namespace Sb
open PySem L2
abbrev Ys(L:Nat)aQz aSd aUm:aka :=
 [aqh,aru,atl,at4,awL,("locks",ο (L+1)),("lying",ο (L+2)),aC3 (L+3),aFC (ο (L+4)),("trains",ο (L+5))]
abbrev og aRa(L:Nat)aQz aSd aUm:aY :=
 [abT c (Ys L ps ss rs wait),.bB [],ς (ps.map λ _=>af9),.bB [],.bB [],.bB []]
def jU aP9 aUX aR2 aUm aPh:qd c gr [aes,agm,aiP,η wait] (M++[abT c []])=.ok .bb (M++og c M.length ps ss aiB wait):=by
 rw[ZI Gu hg.qi hss hg.zy];rw[ake qd (r=.ok .bb (M++og c M.length ps ss aiB wait))];simp only[zC,zD,zE,zF,Nat.zero_add,Nat.reduceAdd,Nat.reduceSub,List.replicate,zG,zH,zI];generalize hrs:aiB=rs
 rw[ahU Yt (∀N:aY,cg true aiw (iL b9) (gN 0) sI (dC af9) [adW,ajE,arq,afY wait] N=.ok (ο N.length) (N++[ς (ps.map λ _=>af9)])) (λ N=>by
  rw[cc (xs:=ps) (w:=none) (M':=N) Pc.enc ah9 (λ _=>af9) (ahW [y]) (ej Ξ) trivial ah2 (λ x _ ρ hρ=>by
   rw[ahJ y rfl hρ (abS _ rfl acV anm)]) (adP Gu),awN,jZ (by rw[aqg Gu])]) (mL (M:=M) (G':=[]) (s2:=fo) (hV rs) [aqh] rfl (afr (hr ps ss _ hg) hrs) (by rw[aiG 0]) aao ac4)];rw[ave (mL (M:=M) (G':=[]) (s2:=fo) agm [aqh,aru] rfl (by simp[lE];exact cN (by rw[afo])) (by rw[aiG 1]) aao ac4) (aH (mL (M:=M) (G':=[]) (s2:=fo) aiP [aqh,aru,atl] rfl (by simp[lE];exact cN (by rw[afo])) (by rw[aiG 2]) aao ac4))]
 rw[ave (mL (M:=M) (G':=[]) (s2:=fo) (η wait) [aqh,aru,atl,at4] rfl (rfl) (by rw[aiG 3]) aao ac4) (aH (mL (M:=M) (G':=[]) (s2:=fo) (η 0) [aqh,aru,atl,at4,awL] rfl (rfl) (by rw[aiG 4]) aao ac4))];rw[ave (mL (M:=M) (G':=[.bB []]) (s2:=fo) (ο ahB) [aqh,aru,atl,at4,awL,aCA] rfl aGP (by rw[aiG 5]) aao ac4) (aH (mL (M:=M) (G':=[.bB [],ς (ps.map λ _=>af9)]) (s2:=fo) (ο (ajY 2)) [aqh,aru,atl,at4,awL,aCA,aHz] rfl (by rw[agb Yt]) (by rw[aiG 6]) aao ac4))];rw[afQ (aH (mL (M:=M) (G':=[.bB [],ς (ps.map λ _=>af9),.bB []]) (s2:=fo) (ο (ajY 3)) [aqh,aru,atl,at4,awL,aCA,aHz,aC3 (ajY 3)] rfl aGP (by rw[aiG 7]) aao ac4)) (aH (mL (M:=M) (G':=[.bB [],ς (ps.map λ _=>af9),.bB [],.bB []]) (s2:=fo) (ο (ajY 4)) [aqh,aru,atl,at4,awL,aCA,aHz,aC3 (ajY 3),aFC (ο (ajY 4))] rfl aGP (by rw[aiG 8]) aao ac4))]
 exact mL (M:=M) (G':=[.bB [],ς (ps.map λ _=>af9),.bB [],.bB [],.bB []]) (s2:=fo) (ο (ajY 5)) [aqh,aru,atl,at4,awL,aCA,aHz,aC3 (ajY 3),aFC (ο (ajY 4)),("trains",ο (ajY 5))] rfl aGP (by rw[aiG 9]) aao avH
universe Sb
universe zE
section
namespace Sb
open PySem L2
section
variable {κ:Type} [an8] {α:Type}
abbrev aJ aRg:aJ5:=anz (aIW q (q.1=k)).map
abbrev cv aRg(v:α):ag2 :=
 if d.any (acN q (q.1=k)) then d.map (λ q=>if q.1=k then(q.1,v) else q) else d++[(k,v)]
abbrev cF aRg:ag2:=d.filter (ajd q q.1 k)
def l9 aP7:aaz (aJ ([]:ag2) k):=rfl
def fg(q:κ×α)aRg:aJ (q::d) k=alE q.1 k (some q.2) awy:=by
 rw[acP aJ List.find?_cons];by_cases h:q.1=k<;>simp[h]
def Hf aUc:aJ (d++[(k,v)]) k'=(awi).or (alE k k' afw none):=by
 induction d with
 | nil=>rw[zH,fg,l9]; rfl
 | cons q d ih =>
  rw[zG,fg,fg,ih];by_cases h:q.1=k'<;>simp[h]
def Qz aUc:aJ (ar0 (if q.1=k then(q.1,v) else q)) k'=if k'=k then(awi).map (λ _=>v) else awi:=by
 induction d with
 | nil=>simp[l9]
 | cons q d ih =>
  rw[zC,fg,fg,ih]
  rw[agN (q.1=k)]
  ·rw[ap7 (k=k')]
   ·simp[h,h2]
   ·have h3:¬k'=k:=adm (h2 e.symm);simp[h,h2,h3]
  ·rw[ap7 (q.1=k')]
   ·subst h2;simp[h]
   ·simp[h,h2]
def mem_keys aRg:k∈ajX↔aKt k:=by
 induction d with
 | nil=>simp[l9]
 | cons q d ih =>
  rw[zC,List.mem_cons,ih,fg]
  rw[agN (q.1=k)]
  ·simp[h]
  ·rw[agL h];rw[aaX (λ o=>o.elim (adm (absurd e.symm h)) id) c6]
def any_keys aRg:c8 (d.any (acN q (q.1=k)))↔k∈ajX:=by
 rw[List.any_eq_true];constructor
 ·rintro⟨q,hq,h⟩;exact az3 q hq (of_decide_eq_true h)
 ·intro h;rw[ana q hq e h];rw[aas q hq aOB]
def eB aUc:aJ (cv d k v) k'=alE k' k afw awi:=by
 unfold cv
 rw[ahN h (d.any (acN q (q.1=k)))]
 ·rw[alN h Qz];rw[ap7 (k'=k)]
  ·subst h2;have:=(aEJ k').mp ((aAK k').mp h);rw[afC,afC];cases e:awi with
   | none=>rw[aiq e this this]
   | some x=>rfl
  ·rw[asS,asS]
 ·rw[apP,Hf];rw[ap7 (k'=k)]
  ·subst h2;have h3:¬(aKt k'):=avF ((aAK k').mpr ((aEJ k').mpr e));rw[afC,afC];cases e:awi with
   | none=>rfl
   | some x=>rw[aiq e h3 h3]
  ·rw[asS,avY (h2 e.symm)];simp
def jz(d:ag2)(k k':κ):aJ (cF d k) k'=alE k' k none awi:=by
 unfold cF
 induction d with
 | nil=>simp[l9]
 | cons q d ih =>
  rw[List.filter_cons]
  rw[agN (q.1=k)]
  ·rw[an7 (f6 h),ih,fg];rw[ap7 (k'=k)]
   ·rw[akr h2 h2]
   ·rw[asS,asS,avY (h2 (e.symm.trans h))]
  ·rw[agW (f6 h),fg,ih,fg];rw[ap7 (k'=k)]
   ·rw[if_pos h2,if_pos h2,aB1 (e.trans h2)]
   ·rw[asS,asS]
def Na aRg(v:α):ae4 (cv d k v).map=apA k ajX ajX (ajX++[k]):=by
 unfold cv
 rw[ahN h (d.any (acN q (q.1=k)))]
 ·rw[axT,agW ((aAK k).mp h),List.map_map];refine aps q _;by_cases h2:q.1=k<;>simp[h2]
 ·rw[apP,aB1 ((aAK k).mpr e),List.map_append];rfl
def BG aUc:aur k' (cv d k v).map↔k'=k\/k'∈ajX:=by
 rw[mem_keys,eB,mem_keys];by_cases h:k'=k<;>simp[h]
def pv aRg(k':κ):aur k' (cF d k).map↔k'≠k/\k'∈ajX:=by
 rw[mem_keys,jz,mem_keys];by_cases h:k'=k<;>simp[h]
def uG aTa{v:α}(h:atk):aop (cv d k v).map:=by
 rw[Na];split
 ·exact h
 ·rename_i hk;rw[List.nodup_append];rw[adv h Ξ (acI a ha b hb)];simp at hb;subst hb;rintro rfl;exact hk ha
def pY aTa(h:atk):aop (cF d k).map:=by
 unfold cF;have:(ae4 (d.filter (ajd q q.1 k)).map).Sublist ajX:=aLy;exact h.sublist this
def Hg aTa{v:α}(h:k∉ajX):cv d k v=d++[(k,v)]:=by
 rw[acP cv (aB1 ((aAK k).mp e))]
def iK aTa{v:α}(h:awy=afw):(k,v)∈d:=by
 rw[ak9 aJ];rw[aLk q hq e h];rw[ZI h1 (List.mem_of_find?_eq_some hq) h2 (List.find?_some hq)];have h3:q.1=k:=aAa;obtain⟨a,b⟩:=q;cases h3; cases e;exact h1
def cz{d:ag2}(hn:atk){q:κ×α}(h:q∈d):b7 (aJ d q.1) q.2:=by
 induction d with
 | nil=>rw[ao3]
 | cons q' d ih =>
  rw[fg];rw[zC,List.nodup_cons] at hn;rcases asy with rfl | h
  ·simp
  ·rw[avY (hn.1 (by rw[Ω e (ahg q h)])),ih hn.2 h]
universe zE
universe Sb
universe zE
section
namespace Sb
open PySem L2
abbrev aX aQa aPk:z0:=(bz.getD r (0,[])).2
abbrev aQ aQa aPk:Nat:=(bz.getD r (0,[])).1
abbrev dZ aQa aPk:ae6:=ae4 (agc).map
structure Tr where
 steps:z0
 ahead:z0
 out:Bool
structure Fl where
 u:Int
 ns:acm
 bd:Bool
structure Wd where
 locks:aer
 points:apS
 green:ae6
 falls:alX
 now:Int
 trains:aoJ
structure TB where
 tr:Tr
 ob:Nat
 so:Nat
 ao:Nat
structure FB where
 u:Int
 nr:adq
 ob:Nat
structure Bx where
 locks:aj5
 lying:akZ
 greens:aj5
 falls:aCi
 ticks:Int
 trains:aG2
structure gU aPf aQa:Prop where
 nd:aJC r (agM aiX)
 lt:aJC r (afz aiX (p<n))
 hd:aJC r (aJC r' (arN=aHa->∃p,p∈aiX/\p∈dZ bz r'))
abbrev bX(t:Tr):dO:=t.steps.headD (0,0,0)
structure C5 aQa(jA:avA)(locks:aer)(t:Tr):Prop where
 ne:aHh
 nd:agM aL8
 st:arc (acL locks s.1 none)
 ah:aCp->∃r k,aC2/\ajf::t.ahead=(agc).drop k/\axw (aiz locks s.1 r)
 ot:c8 t.out->avT/\aaz (jA ajf.1 anx)
abbrev Dj(t t':Tr):Prop:=(arc (∀s'∈t'.steps,s.1≠s'.1))/\axw (∀s'∈t'.ahead,s.1≠s'.1)
abbrev jI aSh:Prop:=akF\/r∈aht
structure Inv aPf aQa(jA:avA)aP4:Prop where
 ln:W.locks.length=n
 own:∀r,ahV->aC2/\afz aiX (awG/\∀x t,acJ=adt->axw (s.1≠p))
 lk:∀p r,awG->p∈aiX
 C6:W.green.Nodup
 Jy:aFU
 Nb:∀r∈W.green,r∉aht
 vX:aFV
 tr:∀x t,acJ=adt->C5 bz jA W.locks t
 dj:∀x y t t',acJ=adt->aAV y t'->x≠y->Dj t t'
abbrev Fa aQa(oF:aj6)aPk(q:FB):Fl:=⟨q.u,q.nr.toList,oF arN⟩
abbrev C7(_:Int)aQx:Tr:=t.tr
section
variable {κ:Type} [an8] {α β:Type}
abbrev jJ aS4(d:ag2):af5 κ β:=ar0 (q.1,g q.1 q.2)
def oG aS4(d:ag2):ae4 (jJ g d).map=ajX:=by rw[asQ jJ]
def oH aS4 aP7:∀d:ag2,aJ (jJ g d) k=(awy).map (g k)
 | []=>rfl
 | q::d=>by
  have ih:=oH g k d
  unfold jJ at ih ⊢
  rw[zC,fg,fg,ih]
  rw[agN (q.1=k)]
  ·rw[azn]
  ·simp[h]
def qQ aS4 aP7(v:α)(d:ag2):jJ g (cv d k v)=cv (jJ g d) k (g k v):=by
 unfold jJ cv
 rw[auo ((ar0 (q.1,g q.1 q.2)).any (acN q (q.1=k))=d.any (acN q (q.1=k))) (by rw[List.any_map]; rfl)];split
 ·rw[List.map_map,List.map_map]
  refine aps q _
  rw[agN (q.1=k)]
  ·rw[azn]
  ·simp[h]
 ·simp
def yj aS4 aP7(d:ag2):jJ g (cF d k)=cF (jJ g d) k:=by
 unfold jJ cF;rw[aIG];rfl
universe zE
structure pw aPf aQa(kn:aj6)(oF:aj6)aP4 aPU:Prop where
 locks:∀p<n,amA p = f7 (alF p)
 QA:agM aIt
 QB:afz aIt (p<n)
 Hh:B.lying.length=n
 pn:W.points.length=n
 lies:∀p<n,aCY->acL W.points p B.lying[p]?
 greens:∀s r,anK aCP↔akF/\arN=s
 C6:agM aIn
 falls:W.falls=aAL (Fa bz oF)
 ticks:B.ticks=W.now
 trains:W.trains=jJ C7 B.trains
section
variable {n:Nat} {bz:afT} {kn:aj6} {oF:aj6} {jA:avA} {W:Wd} {B:Bx}
def Inv.glt aP1 aPj(h:akF):aC2:=(aiO (b5 h)).1
def Inv.lock aP1{r p:Nat}aRz(hp:p∈aiX):awG:=((aiO h).2 p hp).1
def Inv.one aP1(R:ajL){r r':Nat}aRz(h':atB)(e:arN=aHa):r=r':=by
 obtain⟨p,h1,h2⟩:=R.hd r (aiO h).1 r' (arl h').1 e;rw[aev e1 (aE8 h1) (I.lock h' h2) e1];cases e1;rfl
def pw.qR aQ6:aht=akk:=by
 rw[S.falls,oG]
abbrev jS aPk aRG:aer:=aBp l s (l.set s.1 akw) l
abbrev lG aPk aRH:aj5:=aBp d s (cv d s.1 r) d
abbrev hZ aPk aSq:aer:=l.map (att o o akw none o)
abbrev eJ aRH:aj5:=aBp d s (cF d s.1) d
abbrev jK aS3 aTh:apS:=aBp l s (if kn s.1 then l.set s.1 aC0 else l) l
abbrev BH(oh:anD)aPZ(l:akZ):akZ:=aBp l s (l.set s.1 (oh s)) l
def qS aPk:∀aRG,aFB (jS r w l)
 | [],l=>rfl
 | s::w,l=>by show aeA (jS r w (l.set s.1 akw))=_;rw[agb (qS r w)]
def uH(r p:Nat):∀aRG,as8 p->(jS r w l)[p]? = apA p aeN (akj r) l[p]?
 | [],l,h=>f6 jS
 | s::w,l,h=>by
  show(jS r w (l.set s.1 akw))[p]? = _;rw[uH r p w _ aza,zC];by_cases h1:p∈aeN
  ·rw[alN h1 (agW (ahv h1))]
  ·rw[agL h1]
   rw[ap7 (s.1=p)]
   ·subst h2;rw[alN Ξ (List.getElem?_set_self h)]
   ·rw[avY ((aIr).elim (adm (h2 e.symm)) h1),aNI]
def yk(r p:Nat):∀aRH,aJ (lG r w d) p=apA p aeN akw (aJ d p)
 | [],d=>f6 lG
 | s::w,d=>by
  show aJ (lG r w (cv d s.1 r)) p=_;rw[yk r p w,zC,eB];by_cases h1:p∈aeN
  ·rw[alN h1 (agW (ahv h1))]
  ·rw[agL h1]
   rw[ap7 (p=s.1)]
   ·subst h2;rw[afC,if_pos Ξ]
   ·rw[asS,avY ((aIr).elim h2 h1)]
def nB aQn:∀aRH,aJ (eJ w d) p=apA p aeN none (aJ d p)
 | [],d=>f6 eJ
 | s::w,d=>by
  show aJ (eJ w (cF d s.1)) p=_;rw[nB p w,zC,jz];by_cases h1:p∈aeN
  ·rw[alN h1 (agW (ahv h1))]
  ·rw[agL h1]
   rw[ap7 (p=s.1)]
   ·subst h2;rw[afC,if_pos Ξ]
   ·rw[asS,avY ((aIr).elim h2 h1)]
def BI aPk:∀aRH,atk->aop (lG r w d).map
 | [],d,h=>h
 | s::w,d,h=>BI r w _ (uG h)
def vK:∀aRH,atk->aop (eJ w d).map
 | [],d,h=>h
 | s::w,d,h=>vK w _ (pY h)
def Hi aPa aPk aRH(hw:afz aeN (p<n))(h:afz ajX (p<n)):afz (ae4 (lG r w d).map) (p<n):=by
 intro p hp
 rw[mem_keys,yk] at hp
 by_cases h1:p∈aeN
 ·exact hw p h1
 ·rw[if_neg h1,← mem_keys] at hp;exact h p hp
def BJ aPa aRH(h:afz ajX (p<n)):afz (ae4 (eJ w d).map) (p<n):=by
 intro p hp
 rw[mem_keys,nB] at hp
 by_cases h1:p∈aeN
 ·rw[aiq aKL hp hp]
 ·rw[if_neg h1,← mem_keys] at hp;exact h p hp
def oI(r p:Nat)aSq:(hZ r l)[p]? = l[p]?.map (att o o akw none o):=by
 rw[acP hZ zJ]
def vL(oh:anD):∀aTh,aFB aDc
 | [],l=>rfl
 | s::w,l=>by
  show aeA (jK kn oh w (if kn s.1 then l.set s.1 aC0 else l))=_;rw[vL oh w];split<;>simp
def BK(oh:anD):∀aPZ(l:akZ),aFB (BH oh w l)
 | [],l=>rfl
 | s::w,l=>by
  show aeA (BH oh w (l.set s.1 (oh s)))=_;rw[agb (BK oh w)]
def D9{lw lb:anD}:∀aTh(b:akZ),(agk w (c8 (kn s.1)->lw s=lb s))->l.length=b.length->(∀p<l.length,aCY->acL l p b[p]?) →
  ∀p<l.length,aCY->acL (jK kn lw w l) p (BH lb w b)[p]?
 | [],l,b,_,_,h=>h
 | s::w,l,b,hw,hl,h=>by
  show ∀p<l.length,aCY->acL (jK kn lw w (if kn s.1 then l.set s.1 (f7 (lw s)) else l)) p (BH lb w (b.set s.1 (lb s)))[p]?
  have ih:=D9 (lw:=lw) (lb:=lb) w (if kn s.1 then l.set s.1 (f7 (lw s)) else l) (b.set s.1 (lb s)) (amf (hw s (f6 hs))) (by split<;>simp[hl]) (by
   intro p hp Jz
   have Us:as8 p:=by split at hp<;>simpa using hp
   rw[aih s.1 p]
   ·subst e;rw[if_pos Jz,List.getElem?_set_self Us,List.getElem?_set_self b6,hw s Ξ Jz]
   ·rw[aD0];split
    ·rw[Ω aD0 (h p Us Jz)]
    ·exact h p Us Jz)
  intro p hp;exact ih p (by split<;>simpa using hp)
def C5.of{locks JA:aer}{t:Tr}(h:C5 bz jA locks t)(h1:arc (acL JA s.1 none))(h2:axw (JA[s.1]? = locks[s.1]?)):C5 bz jA JA t :=
 ⟨h.ne,h.nd,h1,adm (by rw[ae3 r k a b c (h.ah e) ⟨r,k,a,b,amf (by rw[Ω (h2 s hs) (c s hs)])⟩]),h.ot⟩
def C5.al aUY(h:C5 bz jA locks t)aQ0(hs:s∈t.ahead):∃r,aiz locks s.1 r:=by
 obtain⟨r,_,_,_,c⟩:=h.ah (List.ne_nil_of_mem hs);rw[aaX r (c s hs)]
def Dj.symm{t u:Tr}(h:Dj t u):Dj u t:=⟨λ s hs s' tH e=>h.1 s' tH s hs e.symm,λ s hs s' tH e=>h.2 s' tH s hs e.symm⟩
def BL{W W':Wd}aWh aPj(h:jI W' r):ahV:=h.imp (λ h=>hg.subset h) λ h=>hf.subset h
def Inv.put aP1 aSr aWO(hl:W'.locks.length=W.locks.length)
  aWh(hk:av2 p (W'.locks[p]? = amA p \/ acL W'.locks p none))
  (hv:∀r,jI W' r->afz aiX (W'.locks[p]? = amA p /\ axw (s.1≠p)))
  (hy:∀y u,y≠x->aCL=aaZ->(agk u.ahead (W'.locks[s.1]? = amA s.1))/\Dj t u)(hx:C5 bz jA W'.locks t):Inv n bz jA W':=by
 rw[ah8 get (∀y u,aJ W'.trains y=aaZ->(y=x/\u=t)\/(y≠x/\aCL=aaZ)) (agG y u (by
  rw[ht,eB] at h
  rw[aih y x]
  ·rw[apN e h]; cases h; exact awk e
  ·rw[t7 ak3 h (alx e h)])) ⟨by rw[Ω hl I.ln],λ r h=>⟨(aiO (BL hg hf h)).1,λ p hp=>⟨by rw[Ω (hv r h p hp).1 (asT (BL hg hf h))],IL y u hu⟩⟩,IL p r h,aOL,aOM,
  λ r h h'=>I.Nb r (hg.subset h) (hf.subset h'),by rw[Ω ht (uG I.vX)],IL y u hu,alm y z u u' hu hu' ne⟩]
 ·rcases aDt with⟨_,rfl⟩ | ⟨_,h'⟩
  ·exact(hv r h p hp).2
  ·exact((aiO (BL hg hf h)).2 p hp).2 y u h'
 ·rcases hk p with e | e
  ·rw[t7 e h (I.lk p r h)]
  ·rw[akN]; cases h
 ·rcases aDt with⟨_,rfl⟩ | ⟨e,h'⟩
  ·exact hx
  ·refine(I.tr y u h').of aoX (hy y u e h').1;rcases hk s.1 with e' | e'
   ·rw[ae2 e' ((I.tr y u h').st s hs)]
   ·exact e'
 ·rcases aDt with⟨rfl,rfl⟩ | ⟨e,h1⟩
  ·rcases get z u' hu' with⟨rfl,_⟩ | ⟨e',h2⟩
   ·rw[ath ne]
   ·exact(hy z u' e' h2).2
  ·rcases get z u' hu' with⟨rfl,rfl⟩ | ⟨e',h2⟩
   ·exact(hy y u e h1).2.symm
   ·exact I.dj y z u u' h1 h2 ne
def Inv.del aP1 aPv:Inv n bz jA (asE W ayQ):=by
 have get:∀y u,aGy=aaZ->aCL=aaZ:=agG y u (by
  rw[ajR jz];split at h
  ·cases h
  ·exact h)
 exact⟨I.ln,λ r h=>⟨(aiO h).1,λ p hp=>⟨((aiO h).2 p hp).1,λ y u hu=>((aiO h).2 p hp).2 y u aDt⟩⟩,I.lk,I.C6,I.Jy,I.Nb,pY I.vX,λ y u hu=>I.tr y u aDt,λ y z u u' h h'=>I.dj y z u u' (get y u h) (get z u' h')⟩
abbrev JB aQa aS3 aSh:Wd :=
 { W with locks:=alJ r agc,points:=jK kn oh agc W.points,green:=az1 }
abbrev setB aQa(oh:anD)aPU aPk:Bx :=
 { B with locks:=aok r agc,lying:=BH oh agc B.lying,greens:=cv B.greens arN r }
def set_inv{oh:anD}aRf aPj(hr:aC2)(dz:agU agc)aV2
  (ht:∀x t,acJ=adt->arc (s.1∉aiX)):amh (JB bz kn oh W r):=by
 rw[d6 hp0 (∃p,p∈aiX) (by
  unfold dZ;cases e:agc with
  | nil=>rw[ayJ]
  | cons s w=>rw[aaX s.1 Ξ]) hold (∀r',atB->afz (dZ bz r') (p∉aiX)) (λ r' h' p hp Us=>by
  rw[aev e1 (asT h') (hf p Us) e1];cases e1)]
 rw[d6 abg (∀r',atB->r'≠r) (λ r' h' e=>by
  subst e;rw[aeO p hp hp0 (hold _ h' p hp hp)]) hah (∀x t,acJ=adt->axw (s.1∉aiX)) (λ x t h s hs hp=>by
  rw[amD r' ((I.tr x t h).al hs)];rw[hf _ hp] at e;cases e)]
 have get:∀p<n,(alJ r agc)[p]? = apA p aiX (akj r) (amA p) := ahT (uH r p _ _ (by rw[Ω I.ln hp]))
 rw[au6 lt (∀p(o:aeQ),acL (alJ r agc) p o->p<n) (agG p o (by
  have:=(List.getElem?_eq_some_iff.mp h).1;rwa[qS,I.ln] at this)) lt' (∀p(o:aeQ),acL W.locks p o->p<n) (agG p o (by
  rw[avl (List.getElem?_eq_some_iff.mp h).1 I.ln])) ⟨by rw[ax0 (aeA (jS _ _ _)=_) qS I.ln],?_,?_,?_,I.Jy,?_,I.vX,?_,I.dj⟩]
 ·intro r' h'
  have h':atB\/r'=r:=by
   rcases h' with h' | h'
   ·rcases aNU with h' | h'
    ·exact b5 (b5 h')
    ·exact c6 (aam h')
   ·exact b5 (c6 h')
  rcases h' with h' | rfl
  ·rw[aej (arl h').1 (λ p hp=>⟨?_,((arl h').2 p hp).2⟩)];show(alJ r agc)[p]? = _;rw[ae0 (get p (R.lt r' (arl h').1 p hp)) (an7 (hold r' h' p hp)) (asT h')]
  ·rw[aaX hr (λ p hp=>⟨by show(alJ _ _)[p]? = _; rw[get p (R.lt _ hr p hp),if_pos hp],λ x t h s hs e=>hah x t h s hs (ap5 hp)⟩)]
 ·intro p r' h;rw[akv h (aiz (alJ r agc) p r') h (get p (lt p _ h)) h];split at h
  ·rename_i hp;cases h;exact hp
  ·exact I.lk p r' h
 ·show agM az1;rw[List.nodup_append];rw[adv I.C6 Ξ (acI a ha b hb)];rw[aAB hb hb (abg a (b5 ha))]
 ·intro r' h' h2
  have h':r'∈az1:=h';rcases aNU with h' | h'
  ·exact I.Nb r' h' h2
  ·simp at h';exact abg r' (c6 h2) h'
 ·intro x t h;refine(I.tr x t h).of aoX aoX
  ·have e:=(I.tr x t h).st s hs;show(alJ r agc)[s.1]? = _;rw[ae0 (get s.1 (lt' _ _ e)) (an7 (ht x t h s hs)) e]
  ·rw[amD r' ((I.tr x t h).al hs)];show(alJ r agc)[s.1]? = _;rw[get s.1 (lt' _ _ e),an7 (hah x t h s hs)]
def Ut{lw lb:anD}aRT aPj(hr:aC2)aV2(hl:agk agc (c8 (kn s.1)->lw s=lb s)) :
  am5 (JB bz kn lw W r) (setB bz lb B r):=by
 refine⟨?_,BI r _ _ S.QA,Hi r _ _ (R.lt r hr) S.QB,by rw[ax0 (aeA (BH _ _ _)=_) BK S.Hh],by rw[ax0 (aeA (jK _ _ _ _)=_) vL S.pn],?_,?_,uG S.C6,S.falls,S.ticks,S.trains⟩
 ·intro p hp;show apK (alJ r agc) p (aJ (aok r agc) p);rw[uH _ _ _ _ (by rw[Ω I.ln hp]),yk,aJS p];split<;>rfl
 ·intro p hp;exact D9 agc W.points B.lying hl (ag3 S.pn S.Hh) (ahT (S.lies p (by rw[t7 S.pn hp hp]))) p (by rw[Ω S.pn hp])
 ·intro s r';show b7 (aJ (cv B.greens arN r) s) r'↔r'∈az1/\aHa=s;rw[eB]
  rw[agN (s=arN)]
  ·subst h;rw[afC];constructor
   ·intro e; cases e; simp
   ·rintro⟨h1,h2⟩;rcases aNT with h1 | h1
    ·obtain⟨p,hp,Us⟩:=R.hd r' (I.glt h1) r hr h2;rw[aj3 (asT (b5 h1)) (hf p Us)];cases this
    ·simp at h1; rw[h1]
  ·rw[apP,S.greens];constructor
   ·rintro⟨h1,h2⟩;rw[aaX (f6 h1) h2]
   ·rintro⟨h1,h2⟩;rcases aNT with h1 | h1
    ·rw[aaX h1 h2]
    ·simp at h1;subst h1; rw[afZ h2.symm h]
def ym{s r' r:Nat}aRT aRz:b7 (aJ aGw s) r'↔r'∈(W.green.filter (acN x (x≠r)))/\aHa=s:=by
 rw[jz,List.mem_filter];rw[aih s arN]
 ·rw[aj9 e];constructor
  ·intro h; cases h
  ·rintro⟨⟨h1,h2⟩,h3⟩;rw[akK (I.one R (b5 h1) h (h3.trans e)) aAa]
 ·rw[ak3,S.greens];constructor
  ·rintro⟨h1,h2⟩;rw[aaX ⟨h1,decide_eq_true λ e'=>e (by rw[← h2,e'])⟩ h2]
  ·rintro⟨⟨h1,_⟩,h2⟩;rw[aaX h1 h2]
def QC aP1{r p:Nat}aRz(hp:p<n):aiW[p]? = apA p aiX (some none) (amA p) := by
 rw[oI];by_cases h1:p∈aiX
 ·rw[aE8 h1,aKL];simp
 ·rw[agL h1];cases e:amA p with
  | none=>rfl
  | some o =>
   rw[Option.map_some];split
   ·rename_i e2;subst e2;rw[akK (I.lk p r e) h1]
   ·rfl
def Hj aRf aPj aRz{g:ae6}{f:alX}{t:Int}(hg:g.Sublist W.green)(hf:(aEu).Sublist aht)(ZG:r∉g)(Tv:r∉aEu) :
  Inv n bz jA { W with locks:=aiW,green:=g,falls:=f,now:=t }:=by
 rw[ah8 old (∀r',r'∈g\/r'∈aEu->atB/\r'≠r) (λ r' h'=>by
  rcases h' with h' | h'
  ·rw[apX (b5 (hg.subset h')) e (ZG (ap5 h'))]
  ·rw[apX (c6 (hf.subset h')) e (Tv (ap5 h'))]) ⟨afr hZ I.ln,?_,?_,aOL,aOM,λ r' h1 h2=>I.Nb r' (hg.subset h1) (hf.subset h2),I.vX,?_,I.dj⟩]
 ·intro r' h';rw[anC (old r' h')];rw[aej (arl h1).1 (λ p hp=>⟨?_,((arl h1).2 p hp).2⟩)];show aiW[p]? = _;rw[oI,asT h1];simp[h2]
 ·intro p r' h';rw[akv h' (aiz aiW p r') h' oI h'];rw[aLk o ho e h'];split at e
  ·cases e
  ·rw[aeq e (I.lk p r' ho)]
 ·intro x u hu;refine(I.tr x u hu).of aoX aoX
  ·show aiW[s.1]? = _;rw[oI,(I.tr x u hu).st s hs];simp
  ·show aiW[s.1]? = _;rw[amD r' ((I.tr x u hu).al hs)];rw[oI,e,Option.map_some];by_cases e2:anK (aBG:aeQ)
   ·have e3:r'=r:=aIp;rw[t7 e3 e (axZ rfl (((aiO h).2 s.1 (I.lk _ _ e)).2 x u hu s hs))]
   ·rw[agL e2]
def Hk aRT aPj aRz{g:ae6}{gs:aj5}{f:alX}{fb:aCi}{t:Int}(hg:∀s r,anK (aJ gs s)↔r∈g/\arN=s)(hgn:agM (gs.map (·.1)))(hfb:f=jJ (Fa bz oF) fb) :
  pw n bz kn oF { W with locks:=aiW,green:=g,falls:=f,now:=t } { B with locks:=aFP,greens:=gs,falls:=fb,ticks:=t }:=by
 refine⟨?_,vK _ _ S.QA,BJ _ _ S.QB,S.Hh,S.pn,S.lies,hg,hgn,hfb,rfl,S.trains⟩;intro p hp;show apK aiW p (aJ aFP p);rw[QC I h hp,nB,aJS p];show(apA p aiX _ _)=f7 (apA p aiX _ _);split<;>rfl
abbrev sk aSh:Wd:=axm W aiW green (W.green.filter (acN x (x≠r)))
abbrev xf aQa aPU aPk:Bx:=axm B aFP greens aGw
def Hl{g:ae6}aPj:r∉g.filter (ajd x x r):=λ h=>of_decide_eq_true aIf.2 rfl
def JC aRf aPj(h:akF):amh (sk W r) :=
 Hj (t:=W.now) R I (b5 h) List.filter_sublist auD Hl (I.Nb r h)
def JD aRT aPj(h:akF):am5 (sk W r) (xf bz B r):=by
 have:=Hk (fb:=B.falls) (t:=W.now) R I S (b5 h) (λ s r'=>ym (s:=s) (r':=r') R I S (b5 h)) (pY S.C6) S.falls;have e2:=S.ticks;unfold sk xf;rw[← e2] at this;rw[abd e2 this]
abbrev BM aSh(u:Fl):Wd:={ W with green:=W.green.filter (ajd x x r),falls:=cv W.falls r u }
abbrev Lx aQa aPU aPk(u:FB):Bx:={ B with greens:=aGw,falls:=axE r u }
def QD aP1 aPj{u:Fl}(h:akF):amh (BM W r u):=by
 rw[ah8 hm (∀r',aur r' (cv W.falls r u).map↔r'=r\/r'∈aht) (BG _ _ _) ⟨I.ln,?_,I.lk,I.C6.sublist List.filter_sublist,uG I.Jy,?_,I.vX,I.tr,I.dj⟩]
 ·intro r' h';refine arl ?_;rcases h' with h' | h'
  ·exact b5 aLM.1
  ·rcases(hm r').mp h' with rfl | h'
   ·exact b5 h
   ·exact c6 h'
 ·intro r' h1 h2;rcases(hm r').mp h2 with rfl | h2
  ·exact Hl h1
  ·exact I.Nb r' (List.mem_filter.mp h1).1 h2
def QE aRT aPj{u:FB}(h:akF):am5 (BM W r (Fa bz oF r u)) (Lx bz B r u) :=
 ⟨S.locks,S.QA,S.QB,S.Hh,S.pn,S.lies,λ s r'=>ym R I S (b5 h),pY S.C6,by show cv W.falls r _=jJ _ (axE r u);rw[S.falls,qQ],S.ticks,S.trains⟩
abbrev yY(f:alX)aRV aPk:Bool:=match aJ f r with
 | aaZ=>arL u.u t
 | none=>false
abbrev Nc(f:aCi)aRV aPk:Bool:=match aJ f r with
 | aaZ=>arL u.u t
 | none=>false
def Hm aQ6 aRV aPk:yY W.falls t r=Nc B.falls t r:=by
 unfold yY Nc;rw[S.falls,oH];cases aJ B.falls r<;>rfl
abbrev cP aSh:Wd:=if yY W.falls W.now r then axm W aiW falls atW else W
abbrev il aQa aPU aPk:Bx:=if Nc B.falls B.ticks r then axm B aFP falls anM else B
def yn{f:alX}{t:Int}aPj(h:c8 (yY f t r)):r∈aEu:=by
 rw[ak9 yY];rw[mem_keys];cases e:aJ f r with
 | none=>rw[akN]; cases h
 | some u=>rfl
def Ea aRf aPj:amh (cP W r):=by
 unfold cP;split
 ·rename_i h;refine Hj (t:=W.now) R I (c6 (yn h)) auD aLy (λ h'=>I.Nb r h' (yn h)) (λ h'=>((pv _ _ _).mp h').1 rfl)
 ·exact I
def Nd aRT aPj:am5 (cP W r) (il bz B r):=by
 unfold cP il;rw[Hm S,S.ticks];split
 ·rename_i h;rw[← Hm S] at h;have:=Hk (f:=atW) (fb:=anM) (t:=W.now) R I S (c6 (yn h)) (λ s r'=>aJT r') S.C6 (ag3 S.falls yj);have e2:=S.ticks;rw[← e2] at this;rw[S.falls] at this ⊢;rw[abd e2 this]
 ·exact S
def Eb aPj:(cP W r).now=W.now:=by unfold cP; split<;>rfl
abbrev xg aP4:Wd:={ W with now:=anS }
abbrev xh aPU:Bx:=arj ticks (B.ticks+1)
def AD aP1:amh (xg W):=⟨I.ln,I.own,I.lk,I.C6,I.Jy,I.Nb,I.vX,I.tr,I.dj⟩
def Ly aQ6:am5 (xg W) (xh B):=⟨S.locks,S.QA,S.QB,S.Hh,S.pn,S.lies,S.greens,S.C6,S.falls,by show B.ticks+1=anS; rw[S.ticks],S.trains⟩
abbrev Due aP4:Prop:=am2 W.falls (W.now<q.2.u)
abbrev nP aP4:Wd:=(aht).foldl cP (xg W)
abbrev Hn aQa aPU:Bx:=(akk).foldl (il bz) (xh B)
def yo(R:ajL):∀aR3,afj->amh (rs.foldl cP W)
 | [],W,I=>I
 | r::rs,W,I=>yo R rs _ (Ea R I)
def yp(R:ajL):∀aR3 aPU,afj->akg->am5 (rs.foldl cP W) (rs.foldl (il bz) B)
 | [],W,B,I,S=>S
 | r::rs,W,B,I,S=>yp R rs _ _ (Ea R I) (Nd R I S)
def QF aRf:amh (nP W):=yo R _ _ (AD I)
def QG aRT:am5 (nP W) (Hn bz B):=by
 unfold nP Hn;rw[Ω S.qR (yp R _ _ _ (AD I) (Ly S))]
def BN:∀aR3,aFU->(rs.foldl cP W).now=W.now/\am2 (rs.foldl cP W).falls (q∈W.falls/\(q.1∈rs->W.now<q.2.u))
 | [],W,_=>aju (λ q hq=>⟨hq,Ξ⟩)
 | r::rs,W,hn=>by
  rw[List.foldl_cons]
  have afa:aop (cP W r).falls.map:=by
   unfold cP;split
   ·exact pY hn
   ·exact hn
  rw[anC (BN rs (cP W r) afa)];rw[Eb] at h1 h2;rw[axN h1 q hq];obtain⟨h3,h4⟩:=h2 q hq;unfold cP at h3;split at h3
  ·have h5:=List.mem_filter.mp h3;rw[apX h5.1 h ((asy).elim (adm (axZ e (of_decide_eq_true h5.2))) h4)]
  ·rename_i hd;rw[aej h3 (λ h=>(asy).elim (g8 e) h4)];subst e;unfold yY at hd;rw[aiq (cz hn h3) hd hd];omega
def QH aP1:Due (nP W):=by
 rw[anC (BN aht (xg W) I.Jy)];intro q hq;have h3:=h2 q hq;rw[ahc nP h1 (h3.2 (ahg q h3.1))]
def QI(D:aws)aPj{u:Fl}(hw:W.now<u.u)(hr:r∉aht):Due (BM W r u):=by
 intro q hq
 have hq:q∈cv W.falls r u:=hq;show W.now<q.2.u;rw[Hg hr] at hq;rcases aNW with hq | hq
 ·exact D q hq
 ·rw[aAB hq hq hw]
abbrev qf aP4 aQn:Wd:={ W with points:=aAm ((W.points.getD p none).map (!·)) }
abbrev BP aPU aQn:Bx:=arj lying (aMJ (!(asz p)))
def Nf aP1 aQo:amh (qf W p):=⟨I.ln,I.own,I.lk,I.C6,I.Jy,I.Nb,I.vX,I.tr,I.dj⟩
def Ng aQ6 aQo(hp:p<n)(Jz:aCY):am5 (qf W p) (BP B p):=by
 refine⟨S.locks,S.QA,S.QB,afr BP S.Hh,afr qf S.pn,?_,S.greens,S.C6,S.falls,S.ticks,S.trains⟩;intro q hq hqp;show acL (aAm ((W.points.getD p none).map (!·))) q (aMJ (!(asz p)))[q]?;rw[al1 (S.lies p hp Jz) (S.lies q hq hqp)]
 have Nh:aEn p:=by rw[Ω S.Hh hp]
 rw[aih p q]
 ·subst e;rw[aDW (by rw[Ω S.pn hp]),List.getElem?_set_self Nh,List.getD_eq_getElem?_getD,h1,List.getD_eq_getElem?_getD,List.getElem?_eq_getElem Nh];rfl
 ·rw[ae0 aD0 aD0 h2]
def Ni(D:aws)aQo:Due (qf W p):=D
def xi aSq(p q:Nat):(aAM p)[q]? = l[q]? \/ acL (aAM p) q none:=by
 rw[agN (p=q)]
 ·subst h;by_cases hl:as8 p
  ·exact c6 aNA
  ·left;rw[an4 (by rw[afo]),ax5]
 ·exact b5 aNO
def Lz aQ6(hl:W.locks.length=n){p q:Nat}(hq:q<n):apK (W.locks.set p none) q (aJ (asP p) q):=by
 rw[jz]
 rw[agN (q=p)]
 ·subst h;rw[afC,aDW (by rw[Ω hl hq])]
 ·rw[apP,aD1 (avF e.symm),S.locks q hq]
def QJ{d:aj5}aQo(h:am2 ajX (q<n)):am2 (ae4 (cF d p).map) (q<n):=ai1 (h q ((pv _ _ _).mp hq).2)
abbrev BQ aQa aSh aPv(old:z0):Wd :=
 { W with green:=W.green.filter (ajd y y r),falls:=atW,locks:=W.locks.set ((agc).headD (0,0,0)).1 none,trains:=amI (aj1 ((agc).take 1++old) ((agc).drop 1)) }
abbrev Ho aQa aPU aPk aPv aQx:Bx :=
 { B with greens:=aGw,falls:=anM,locks:=asP ((agc).headD (0,0,0)).1,trains:=azp }
def Hq aRf aPj aT0 aRz(dz:agU agc)(ho:∀t,acJ=adt->t.steps=old)(hn:aFX->old=[]):amh (BQ bz W r x old):=by
 obtain⟨s0,w,ew⟩:∃s w,agc=s::w:=by
  cases e:agc with
  | nil=>rw[ayJ]
  | cons s w=>rw[an0 s w]
 rw[ajG Ss (aiX=s0.1::aeN) (by rw[avg dZ ew]) xA (R.nd r (aiO h).1)];rw[Ss,List.nodup_cons] at xA;rw[d6 Yu (amA s0.1 = akj r) (aE8 (by rw[agb Ss])) hw (agk w (s.1∈aiX)) (amf (by rw[Ω Ss (ahv (ahg s hs))]))]
 have qj:aqu s0:=aNq.1;have JE:azU q (q≠s0.1) ((W.locks.set s0.1 none)[q]? = amA q) := ai1 (aD1 (adm (hq e.symm)))
 rw[d6 hold (agk old (acL W.locks s.1 none)) (amf (by
  cases e:acJ with
  | none=>rw[aiq (hn e) hs hs]
  | some t=>exact(I.tr x t e).st s (by rw[Ω (ho t e) hs]))) QK (aop ((s0::w).take 1++old).map) (by
  show agM (s0.1::old.map (·.1));rw[List.nodup_cons];rw[aej awt ?_]
  ·rw[ana s hs e h];have:=hold s hs;rw[e,Yu] at this;cases this
  ·cases e:acJ with
   | none=>rw[agb (hn e)]
   | some t=>rw[aFi (ho t e) (I.tr x t e).nd])]
 rw[acP BQ ew]
 refine I.put (x:=x) rfl Ξ List.filter_sublist aLy (λ p=>xi _ _ _) (acI r' h' p hp) (acI y u ne hu) ⟨Ξ,QK,?_,?_,Ξ⟩
 ·rw[d6 ZC (atB/\r'≠r) (by
   rcases h' with h' | h'
   ·rw[aaX (b5 aLM.1) (of_decide_eq_true aLM.2)]
   ·rw[aaX (c6 ((pv _ _ _).mp h').2) ((pv _ _ _).mp h').1]) hd (p∉aiX) (λ Us=>by
   rw[aev e1 (asT ZC.1) (aE8 Us) e1];cases e1;exact ZC.2 rfl)]
  rw[aaX (JE p (adm (hd (by rw[e,Ss];simp)))) (λ s hs e=>hd (ap5 (hw s hs)))]
 ·rw[adv (amf (JE _ (adm (((aiO h).2 s0.1 (by rw[agb Ss])).2 y u hu s hs e)))) (aeB s hs s' tH e) (λ s hs s' tH e=>((aiO h).2 s.1 (hw s hs)).2 y u hu s' tH e.symm)];rw[aeC e0 ((I.tr y u hu).st s' tH) hs (s=s0\/s∈old) ayq]
  rcases hs with rfl | hs
  ·rw[← e,Yu] at e0; cases e0
  ·cases e1:acJ with
   | none=>rw[aiq (hn e1) hs hs]
   | some t=>exact(I.dj x y t u e1 hu aF6).1 s (by rw[Ω (ho t e1) hs]) s' tH e
 ·intro s hs
  have hs:s=s0\/s∈old:=ayq
  show(W.locks.set s0.1 none)[s.1]? = _;rcases hs with rfl | hs
  ·exact aNB
  ·rcases xi W.locks s0.1 s.1 with e | e
   ·rw[amX (hold s hs)]
   ·exact e
 ·intro _;refine⟨r,0,(aiO h).1,by rw[acR ew],aoX⟩;have hs:s∈w:=hs;rw[ax0 ((W.locks.set s0.1 none)[s.1]? = _) (JE _ (adm (xA.1 (ap5 (ahg s hs))))) (aE8 (hw s hs))]
def Hr aRT aPj aT0{t:TB}aRz(ht:t.tr=aj1 ((agc).take 1++old) ((agc).drop 1)):am5 (BQ bz W r x old) (Ho bz B r x t) :=
 ⟨ahT (Lz S I.ln hp),pY S.QA,QJ S.QB,S.Hh,S.pn,S.lies,λ s r'=>ym R I S h,pY S.C6,by show atW=jJ _ anM;rw[S.falls,yj],S.ticks,by show aB2=jJ C7 azp;rw[qQ,S.trains,C7,ht]⟩
abbrev LA aRv(t:Tr):Wd :=
 axm W aB6 trains (amI (aj1 (aEk++t.steps) (t.ahead.drop 1)))
abbrev Wa aSi aQn aQx:Bx:=axm B (asP p) trains azp
def QL aRf aP8 aQ3(dz:aCp):amh (LA W x t):=by
 obtain⟨s0,w,ew⟩:∃s w,t.ahead=s::w:=by
  cases e:t.ahead with
  | nil=>rw[ayJ]
  | cons s w=>rw[an0 s w]
 have T:=ayH;obtain⟨r,k,hr,hk,Fb⟩:=T.ah dz;rw[ew] at hk Fb
 have xA:aop (s0::w).map:=by
  have h1:((agc).drop k |>.map (·.1)).Nodup:=by
   rw[ae2 List.map_drop ((R.nd r hr).sublist (aLY _))]
  rw[← hk,zC,List.nodup_cons] at h1
  exact h1.2
 rw[zC,List.nodup_cons] at xA;rw[aeC Yu (Fb s0 Ξ) qj (aqu s0) aNq.1];have JE:azU q (q≠s0.1) ((W.locks.set s0.1 none)[q]? = amA q) := ai1 (aD1 (adm (hq e.symm)))
 have QK:aop ((s0::w).take 1++t.steps).map:=by
  show agM (s0.1::aL8);rw[List.nodup_cons];rw[aej awt T.nd];rw[ana s hs e h];have:=T.st s hs;rw[e,Yu] at this;cases this
 rw[acP LA ew]
 refine I.put (x:=x) rfl Ξ auD auD (λ p=>xi _ _ _) (acI r' h' p hp) (acI y u ne hu) ⟨Ξ,QK,?_,?_,Ξ⟩
 ·rw[aev h1 (((arl h').2 p hp).2 x t hx) ew h1];rw[aaX (JE p (adm (h1 s0 Ξ e.symm))) (amf (h1 s (ahv hs)))]
 ·have hd:=I.dj x y t u hx hu aF6
  rw[Dj,ew] at hd;rw[adv (amf (JE _ (adm (hd.2 s0 Ξ s hs e.symm)))) (aeB s hs s' tH e) (amf (hd.2 s (ahv hs)))]
  have hs:s=s0\/aA4 s:=ayq
  rcases hs with rfl | hs
  ·have e0:=(I.tr y u hu).st s' tH;rw[← e,Yu] at e0; cases e0
  ·exact hd.1 s hs s' tH e
 ·intro s hs
  have hs:s=s0\/aA4 s:=ayq
  show(W.locks.set s0.1 none)[s.1]? = _;rcases hs with rfl | hs
  ·exact aNB
  ·rcases xi W.locks s0.1 s.1 with e | e
   ·rw[amX (T.st s hs)]
   ·exact e
 ·intro _;refine⟨r,k+1,hr,?_,aoX⟩
  ·rw[← List.drop_drop,← hk]; rfl
  ·have hs:s∈w:=hs;rw[ax0 ((W.locks.set s0.1 none)[s.1]? = _) (JE _ (adm (xA.1 (ap5 (ahg s hs))))) (Fb s (ahv hs))]
def QM aP1 aQ6 aP8{t':TB}(ht:t'.tr=aj1 (aEk++t.steps) (t.ahead.drop 1)):am5 (LA W x t) (Wa B x (t.ahead.headD (0,0,0)).1 t') :=
 ⟨ahT (Lz S I.ln hp),pY S.QA,QJ S.QB,S.Hh,S.pn,S.lies,S.greens,S.C6,S.falls,S.ticks,by show aB2=jJ C7 arI;rw[qQ,S.trains,C7,ht]⟩
abbrev JF aRv(t:Tr):Wd:=asE W (amI t)
abbrev Yv aSi aQx:Bx:=asE B azp
def LB aQ6 aPr{t:TB}:am5 (JF W x t.tr) (Yv B x t) :=
 ⟨S.locks,S.QA,S.QB,S.Hh,S.pn,S.lies,S.greens,S.C6,S.falls,S.ticks,by show aB2=jJ C7 azp; rw[qQ,S.trains,C7]⟩
def LC aP1 aPr{t t':Tr}aQ3(ha:t'.ahead=t.ahead)(hs:agk t'.steps (aA4 s))(hT:C5 bz jA W.locks t'):amh (JF W x t'):=by
 rw[amJ (I.put (W':=JF W x t') (x:=x) rfl rfl auD auD (λ p=>b5 rfl) (λ r' h' p hp=>aju (by rw[ae2 ha (((arl h').2 p hp).2 x t hx)])) (λ y u ne hu=>aiS aBY) hT) hd (I.dj x y t u hx hu aF6)];rw[aaX (ajU s (hd.1 s (hs s h))) (by rw[Ω ha hd.2])]
def Uu aP1 aP8 aQ3(ha:avT)(hb:aaz (jA ajf.1 anx)):amh (JF W x aHi) :=
 LC I hx ha.symm (ajU s h) ⟨(ayH).ne,(ayH).nd,(ayH).st,λ h=>absurd rfl h,λ _=>aju hb⟩
def Hs{t:Tr}(h:t.steps.length≠1)(dz:aHh):agU t.steps.dropLast/\t.steps.dropLast.headD (0,0,0)=ajf:=by
 unfold bX;cases e:t.steps with
 | nil=>rw[ayJ]
 | cons s w =>
  cases w with
  | nil=>rw[aiq e h h]
  | cons s' w=>simp
def QN aP1 aP8 aQ3(h1:t.steps.length≠1):amh (JF W x aAz):=by
 have T:=ayH;obtain⟨h2,h3⟩:=Hs h1 T.ne;rw[d6 hm (agk t.steps.dropLast (aA4 s)) (ajU s ((aNK).subset h)) e (bX aAz=ajf) h3];exact LC I hx rfl hm ⟨h2,T.nd.sublist ((aNK).map _),ajU s (T.st s (hm s h)),λ h=>by rw[amX (T.ah h)],λ h=>by rw[amX (T.ot h)]⟩
abbrev abh aRv:Wd:=asE W ayQ
abbrev abi aSi:Bx:=asE B (cF B.trains x)
def Uv aQ6 aPr:am5 (abh W x) (abi B x) :=
 ⟨S.locks,S.QA,S.QB,S.Hh,S.pn,S.lies,S.greens,S.C6,S.falls,S.ticks,by show ayQ=jJ C7 (cF B.trains x); rw[yj,S.trains]⟩
abbrev flip aPV:dO:=(s.1,s.2.2,s.2.1)
abbrev Fc aRG:aer:=aBp l s (aAM s.1) l
def xj:∀aRG,aFB (Fc w l)
 | [],l=>rfl
 | s::w,l=>by show aeA (Fc w (aAM s.1))=_;rw[agb (xj w)]
def AE aQn:∀aRG,as8 p->(Fc w l)[p]? = apA p aeN (some none) l[p]?
 | [],l,h=>f6 Fc
 | s::w,l,h=>by
  show(Fc w (aAM s.1))[p]? = _;rw[AE p w _ aza,zC];by_cases h1:p∈aeN
  ·rw[alN h1 (agW (ahv h1))]
  ·rw[agL h1]
   rw[ap7 (s.1=p)]
   ·subst h2;rw[alN Ξ (List.getElem?_set_self h)]
   ·rw[avY ((aIr).elim (adm (h2 e.symm)) h1),aNI]
def JG aRG aQn:(Fc w l)[p]? = l[p]? \/ acL (Fc w l) p none:=by
 rw[agN (as8 p)]
 ·rw[AE p w l h];split
  ·exact c6 rfl
  ·exact b5 rfl
 ·left;rw[an4 (by rw[akB xj]),ax5]
def LD aRG aQn(hp:p∉aeN):(Fc w l)[p]? = l[p]? := by
 rw[agN (as8 p)]
 ·rw[AE p w l h,if_neg hp]
 ·rw[an4 (by rw[akB xj]),ax5]
abbrev tW aPv(_:Nat)(u:Fl):Fl:=⟨u.u,u.ns.filter (ajd y y x),u.bd⟩
abbrev u9 aPv(_:Nat)(u:FB):FB:={ u with nr:=alE u.nr aeU none u.nr }
abbrev Ht aRv(t:Tr):Wd :=
 { W with locks:=aJx,falls:=aJR (tW x),trains:=aCr }
abbrev Wb aSi(ah:z0)aQx:Bx:={ B with locks:=ank ah,falls:=aAL (u9 x),trains:=azp }
def QO aP1 aP8 aQ3:amh (Ht W x t):=by
 have T:=ayH
 rw[d6 hm (∀s∈aw3,∃s'∈t.steps,s.1=s'.1) (ajU s (by
  rw[ahP s' h' h];exact ajs s' (List.mem_reverse.mp h'))) QK (aop (aw3).map) (by
  rw[List.map_map,akT (((·.1) ∘ flip:dO->Nat)=(·.1)),List.map_reverse]
  exact(List.reverse_perm _).nodup_iff.mpr T.nd)]
 rw[aqR Ht (I.put (x:=x) rfl (xj _ _) auD (by rw[Ω oG auD]) (λ p=>JG _ _ _) (acI r' h' p hp) (acI y u ne hu) ⟨?_,QK,?_,λ h=>absurd rfl h,λ h=>by cases h⟩)]
 ·have ZC:atB:=by
   rcases h' with h' | h'
   ·exact b5 h'
   ·right;have h':aur r' (aJR (tW x)).map:=h';rwa[oG] at h'
  rw[aej (LD _ _ _ awt) (amf (asx hs))]
  rw[ana s hs e h];exact((arl ZC).2 p hp).2 x t hx s hs e
 ·have hd:=I.dj x y t u hx hu aF6;rw[adv (amf (LD _ _ _ awt)) (aeB s hs s' tH e) (amf (asx hs))]
  ·rw[ana s' tH e h];exact hd.2 s' tH s hs e
  ·rw[asK s2 h2 e2 (hm s hs) (hd.1 s2 h2 s' tH (e2.symm.trans e))]
 ·have:=T.ne;intro h;apply this;rw[akc h2 (t.steps.reverse=[]) (List.map_eq_nil_iff.mp h) (List.reverse_eq_nil_iff.mp h2)]
 ·intro s hs
  obtain⟨s2,h2,e2⟩:=hm s hs;show aJx[s.1]? = _;rw[e2];rcases JG t.ahead W.locks s2.1 with e | e
  ·rw[amX (T.st s2 h2)]
  ·exact e
def QP aP1 aQ6 aP8{t':TB}(ht:t'.tr=aj1 aw3 []):am5 (Ht W x t) (Wb B x t.ahead t'):=by
 refine⟨ar6,vK _ _ S.QA,BJ _ _ S.QB,S.Hh,S.pn,S.lies,S.greens,S.C6,?_,S.ticks,by show aB2=jJ C7 arI;rw[qQ,S.trains,C7,ht]⟩
 ·show apK aJx p (aJ (ank t.ahead) p);rw[AE _ _ _ (by rw[Ω I.ln hp]),nB,aJS p];split<;>rfl
 ·show aJR (tW x)=jJ _ (aAL (u9 x));rw[S.falls];rw[aga jJ List.map_map List.map_map];refine aps q _;obtain⟨r,u,o,ob⟩:=q;simp only[Function.comp,tW,u9,Fa];cases o with
  | none=>simp
  | some y=>by_cases e:y=x<;>simp[e]
def uI aSr(D:aws)(hn:W'.now=W.now)(hf:∀q∈W'.falls,∃q'∈W.falls,q'.2.u=q.2.u):Due W':=ai1 (by
 rw[aA6 q' h (hf q hq)];rw[hn,← e];exact D q' h)
def Hu(D:aws)aPj aT0:Due (BQ bz W r x old):=uI D rfl (ai1 (ajs q aLN.1))
def QQ(D:aws)aP8:Due (Ht W x t):=uI D rfl (ai1 (by
 rw[ahP q' h hq];exact ajs q' h))
def Inv.lt aP1 aQo{v:aeQ}(h:acL W.locks p v):p<n:=by
 rw[avl (List.getElem?_eq_some_iff.mp h).1 I.ln]
def Inv.JH aP1 aP8(h:acJ=adt):t.steps.length≤n:=by
 have:=mK (n:=n) (I.tr x t h).nd (ahT (by
  rw[ahP s hs hp];exact I.lt ((I.tr x t h).st s hs)))
 simpa using this
def Inv.afb aRf aP8(h:acJ=adt):t.ahead.length≤n:=by
 by_cases e:avT
 ·rw[arW]
 ·obtain⟨r,k,hr,hk,_⟩:=(I.tr x t h).ah e;rw[aeC h1 (mK (n:=n) (R.nd r hr) (R.lt r hr)) h2 (agS (ajf::t.ahead) (aeA agc)) (by rw[ae2 hk (aLY _).length_le])]
  rw[aoh dZ h1 zK h1];rw[zE] at h2
  omega
def tX{t:Tr}(h:aHh):aA4 ajf:=by
 unfold bX;cases e:t.steps with
 | nil=>rw[afZ e h]
 | cons s w=>simp
def Hv:∀aSs,atk->(am2 d (agU auw))->(am2 d (∀q'∈d,q.1≠q'.1->Dj q.2 q'.2))->agM (ar0 (bX q.2).1)
 | [],_,_,_=>Ξ
 | q::d,hn,hs,hd=>by
  rw[zC,List.nodup_cons] at hn ⊢;rw[aej awt (Hv d hn.2 (ajU q' (hs q' (f6 h))) λ a ha b hb=>hd a (f6 ha) b (f6 hb))];rw[ana q' xS e h];have dz:q'.1≠q.1:=λ e'=>hn.1 (e' ▸ ahg q' xS);exact(hd q' (f6 xS) q Ξ dz).1 _ (tX (hs q' (f6 xS))) _ (tX (hs q Ξ)) e
def Inv.Uw aP1:aDV n:=by
 rw[ajG hm (aDZ q (aAV q.1 q.2)) (ai1 aCn) h1 (Hv W.trains I.vX (ai1 (apb (hm q hq)).ne) λ q hq q' xS dz=>I.dj _ _ _ _ (hm q hq) (hm q' xS) dz)]
 have:=mK (n:=n) h1 (ahT (by
  rw[ahP q hq hp];exact I.lt ((apb (hm q hq)).st _ (tX (apb (hm q hq)).ne))))
 simpa using this
universe zE
universe Sb
universe zE
end
mutual
section
namespace Sb
open PySem L2
section
variable {α:Type}
abbrev encD(e:avS)(d:awc):afx:=ar0 ((aj0 q.1:Key),e q.1 q.2)
def Fd aSK:((aj0 a:Key)=aj0 b)↔a=b:=by
 rw[akB Sum.inl.injEq]
def eZ(e:avS)aPS:∀d:awc,jF (aq1 e) azd=(awy).map (e k)
 | []=>rfl
 | q::d=>by
  have ih:=eZ e k d;unfold jF encD at ih ⊢
  rw[zC,List.find?_cons,fg]
  rw[agN (q.1=k)]
  ·rw[azn]
  ·rw[agL h];have h':acS (afJ (aj0 q.1:Key) azd):=aLV e (h (Fd.mp e));dsimp only;rw[Ω h' ih]
def pz(e:avS)aPS(v:α)(d:awc):nW (aq1 e) azd (e k v)=afh e (cv d k v):=by
 unfold nW cv encD
 have ha:(ar0 ((aj0 q.1:Key),e q.1 q.2)).any (atx (agv=azd))=d.any (acN q (q.1=k)):=by
  rw[List.any_map]
  congr 1
  funext q
  exact decide_eq_decide.mpr Fd
 rw[ha];split
 ·rw[List.map_map,List.map_map]
  refine aps q _
  rw[agN (q.1=k)]
  ·rw[azn]
  ·have h':¬((aj0 q.1:Key)=azd):=avF (Fd.mp e);rw[aD4 apP (if_neg h')]
 ·simp
def qT(e:avS)aPS(d:awc):uY (aq1 e) azd=afh e (cF d k):=by
 unfold uY cF encD
 rw[aIG]
 congr 1
 refine List.filter_congr (acO q _)
 exact decide_eq_decide.mpr (not_congr Fd)
abbrev ee(e:ay3)(d:ayA):afx:=ar0 ((atZ:Key),e q.1 q.2)
def AF{a b:Int}:((aJ2:Key)=aJ3)↔a=b:=agB Sum.inl.injEq
def kh aVd:∀d:ayA,jF (ee e d) aAS=(awy).map (e k)
 | []=>rfl
 | q::d=>by
  have ih:=kh e k d;unfold jF ee at ih ⊢
  rw[zC,List.find?_cons,fg]
  rw[agN (q.1=k)]
  ·rw[azn]
  ·rw[agL h];have h':acS (afJ (atZ:Key) aAS):=aLV e (h (AF.mp e));dsimp only;rw[Ω h' ih]
def Hw aVd(v:α)(d:ayA):nW (ee e d) aAS (e k v)=ee e (cv d k v):=by
 unfold nW cv ee
 have ha:(ar0 ((atZ:Key),e q.1 q.2)).any (atx (agv=aAS))=d.any (acN q (q.1=k)):=by
  rw[List.any_map]
  congr 1
  funext q
  exact decide_eq_decide.mpr AF
 rw[ha];split
 ·rw[List.map_map,List.map_map]
  refine aps q _
  rw[agN (q.1=k)]
  ·rw[azn]
  ·have h':¬((atZ:Key)=aAS):=avF (AF.mp e);rw[aD4 apP (if_neg h')]
 ·simp
def Ec aVd(d:ayA):uY (ee e d) aAS=ee e (cF d k):=by
 unfold uY cF ee
 rw[aIG]
 congr 1
 refine List.filter_congr (acO q _)
 exact decide_eq_decide.mpr (not_congr AF)
def BR(e:ay3)(d:ayA):aeA (ee e d)=d.length:=f6 ee
def Nj{e:ay3}aPr{t t':α}{d:ayA}(hn:atk)(h:aJ d x=adt)(he:e x t'=e x t):ee e (cv d x t')=ee e d:=by
 unfold cv ee;rw[agW ((aAK x).mpr ((aEJ x).mpr (by rw[acR h]))),List.map_map];refine aps q hq;rw[aIg];by_cases e1:q.1=x
 ·have:=ayP;rw[e1,h] at this;cases this;rw[if_pos e1,e1,he]
 ·rw[agL e1]
def pA(e:avS)(d:awc):aeA (aq1 e)=d.length:=f6 encD
universe zE
section
variable {M:aY} {n:Nat} {kvs:afx}
def tY aQf aPw aQX aQ4 aU3:ju neg x (ο n) M=.ok (.bl (if neg then !(agl aoW) else agl aoW)) M:=by
 rw[asN ju tK h];simp only[L2.getD,h,hk,Option.map_some]
def nK{x v:PV}aQX aQ4 aU3(hv:aoW=afw):aK (ο n) x M=.ok v M:=by
 rw[asN aK tK h];simp only[L2.getD,h,hk,Option.map_some,hv]
def uJ aPi aPt aPw(h:az0)(hx:anF):agF (ο n) i=.ok x M:=by
 have hl:aqv:=aNp.1;simp only[aK,tK,h,Mw,IG];rw[akr b6 b6];simp[hx]
def gL{k v:PV}{kk:Key}aQ4(hk:b7 (kQ k) kk)(hl:kvs.length<lim):zx (ο n) k v M=f7 (adw n .bB (nW kvs kk v)):=by
 simp only[zx,h,hk,aKM]
def nC aPi aPt{v:PV}(h:az0)(hi:aqv):zx (ο n) (η i) v M=f7 (akL n (xs.set i v)):=by
 simp only[zx,h,IG];rw[akr b6 b6];simp
def df aQj(h:asd):aow n:=(List.getElem?_eq_some_iff.mp h).1
def get_set{o o':MO}(h:asd):acL (atd o') n o':=aDW (df h)
def ar{m:Nat}{o':MO}(h:n≠m):(atd o')[m]? = M[m]? := aNO
universe zE
def fq aRy{lQ di dv:DE}aPX(y:PV)(M1:aY)aPO(M2:aY)(k:PV)(M3 M':aY)aVZ aVJ(q:Q (.nx ρ M')):Q (eY lQ di dv ρ M):=by
 unfold eY;rw[hv,Res.eV,ho,Res.eV,hk,Res.eV,hp];exact q
def BU aRy aP5{ps:ayt}aPX(h:dJ ps ρ M=.ok () M)(q:Q (L6 C ρ M)):Q (cn C ps ρ M):=by
 rw[ahc cn h q]
def mM aRy aPo aPX aRa aRx aV3:Q (bO d ρ M):=by
 rw[ahc bO h q]
def LF aRy aPt aPo aPX aRa aRx aV3:Q (bL i d ρ M):=by
 rw[ahc bL h q]
@[simp] def Pt aQd aP9 aPc aSA:(Res.exc c M:amS).bind f=L6 c M:=rfl
@[simp] def abj{a b:DE}aPX:sH a b ρ M=anL (a ρ M).bind (match x with | .bl k=>ahy k (b ρ M1) (.ok (aiU .bl) M1) | _=>d5):=by
 unfold sH
 congr 1
 funext x M1
 cases x<;>try rfl
 rename_i k;cases k<;>rfl
@[simp] def LG{a b:DE}aPX:xO a b ρ M=anL (a ρ M).bind (match x with | .bl k=>if c8 k then .ok af4 M1 else b ρ M1 | _=>d5):=by
 unfold xO
 congr 1
 funext x M1
 cases x<;>try rfl
 rename_i k;cases k<;>rfl
@[simp] def adh aQf aPu aPc:rn neg (η i) .bb M=.ok (.bl neg) M:=by cases neg<;>rfl
@[simp] def adi aQf aPc:rn neg .bb .bb M=.ok (.bl ! neg) M:=by cases neg<;>rfl
@[simp] def adj aQf aPa aPc:rn neg (ο n) .bb M=.ok (.bl neg) M:=by cases neg<;>rfl
@[simp] def QR aRD:Jk (η i) (η j) M=.ok (.bl (an2 i j)) M:=rfl
@[simp] def Hx aRD:leP (η i) (η j) M=.ok (.bl (arL i j)) M:=rfl
@[simp] def QS aRD:IH (η i) (η j) M=.ok (.bl (an2 j i)) M:=rfl
@[simp] def abk aRD:geP (η i) (η j) M=.ok (.bl (arL j i)) M:=rfl
universe Sb
universe zE
section
namespace Sb
open PySem L2
structure Cs where
 yd:Addr
 fa:Addr
 nt:Addr
 he:Addr
 tr:Addr
 rd:Addr
structure fE where
 ps:kS
 ss:afD
 rs:afT
 wait:Int
inductive Tg where
 | yard
 | fall aPk
 | train aPv
 | steps aPv
 | ahead aPv
 | uT
abbrev tj aPx aRV:aka :=
 [("found",hV Y.rs),("pieces",ahf),("signals",atf),("wait",ayk),("ticks",η t),("locks",ο 1),("lying",ο 2),aC3 3,aFC (ο 4),("trains",ο 5)]
abbrev jL(b:Bool):PV:=c7 (if b then "straight" else "branch")
abbrev fz:adq->PV
 | av6=>η i
 | none=>.bb
abbrev JI(u:FB):aka:=[("until",η u.u),aB5 (fz u.nr)]
abbrev lH aQx:aka:=[("steps",ο t.so),("ahead",ο t.ao),("is_out",.bl t.tr.out)]
abbrev eI:ali (ali PV):=abf r (η r)
abbrev eF:aoK FB PV:=abf u (ο u.ob)
abbrev eT:Int->TB->PV:=abf t aij
structure yZ(C:Cs)aQR aPv aQx:Prop where
 ot:o t.ob=aoE x
 os:o t.so=alV x
 oa:o t.ao=ag0 x
 mt:azB
 ms:aDb
 ma:auc t.ao (t.tr.ahead.map aI)
structure cW aPQ(e:adq)aQR aPU:Prop where
 y0:M[0]? = axy (tj Y B.ticks)
 y1:af2 M 1 .bB (encD eI B.locks)
 y2:auc 2 (B.lying.map jL)
 y3:af2 M 3 .bB (encD eI B.greens)
 y4:af2 M 4 .bB alY
 y5:af2 M 5 .bB awd
 lo:∀i≤5,o i=.yard
 hi:∀i,aAg i->o i=.uT
 yf:∀q∈B.falls,o q.2.ob=.fall q.1/\M[q.2.ob]? = aFb (JI q.2)
 yt:∀q∈B.trains,e≠some q.1->yZ C o M q.1 q.2
structure gP aQR(o':adu)aRx:Prop where
 len:auR
 tag:∀i<M.length,o' i=o i
 out:∀i<M.length,o i=.uT->M'[i]? = M[i]?
def gP.refl{o:adu}aPc:apf M:=⟨acT,aBY,λ _ _ _=>rfl⟩
def gP.trans{o o1 o2:adu}{M M1 M2:aY}(a:atD o1 M1)(b:gP o1 M1 o2 M2):atD o2 M2 :=
 ⟨Nat.le_trans a.len b.len,aqO (x6 (b.tag i (aLA h)) (a.tag i h)),λ i h1 h2=>x6 (b.out i (aLA h1) (x6 (a.tag i h1) h2)) (a.out i h1 h2)⟩
def gP.set{o:adu}aPc aPa{v:MO}(h:o n≠.uT):apf (atd v):=⟨Ξ,aBY,λ i _ hi=>ar (avF (ap5 hi))⟩
abbrev dt(o:adu)aPf(g:Tg):adu:=att i i n g (o i)
def ip{o:adu}aPa{g:Tg}:dt o n g n=g:=afC
def md{o:adu}{n i:Nat}{g:Tg}(h:i≠n):dt o n g i=o i:=apP
def gP.push{o:adu}aPc{v:MO}{g:Tg}:atD (dt o M.length g) (M++[v]):=⟨Ξ,aqO aCa,λ i h _=>List.getElem?_append_left h⟩
def iM{o:adu}{i j:Nat}{a b:Tg}(h1:o i=a)(h2:o j=b)(h:a≠b):i≠j:=avF (by rw[← h1,← h2,e])
section
variable {C:Cs} {Y:fE} {e:adq} {o:adu} {M:aY} {B:Bx} {ρ:eu}
def cW.gt aPA aPt{g:Tg}(hi:o i=g)(hg:g≠.yard):5<i:=by
 by_cases h5:i≤5
 ·rw[afZ ((aK0 (h.lo i h5)) hi).symm hg]
 ·omega
def cW.mv aPA aQS{B':Bx}(hl:alK)(h0:M'[0]? = axy (tj Y B'.ticks))(h1:af2 M' 1 .bB (encD eI B'.locks))(h2:M'[2]? = ag4 (B'.lying.map jL))
  (h3:af2 M' 3 .bB (encD eI B'.greens))(h4:af2 M' 4 .bB (encD eF B'.falls))(h5:af2 M' 5 .bB (ee eT B'.trains))(hf:am2 B'.falls (q∈B.falls))(ht:am2 B'.trains (q∈B.trains))(hm:∀i,5<i->M'[i]? = M[i]?):cW C Y e o M' B' :=
 ⟨h0,h1,h2,h3,h4,h5,h.lo,aJX i (by rw[abd hl hi]),λ q hq=>⟨(h.yf q (hf q hq)).1,x6 (hm _ (asv (h.yf q (hf q hq)).1)) (h.yf q (hf q hq)).2⟩,λ q hq he=>by
  have T:=h.yt q (ht q hq) he
  exact arK (x6 (hm _ (asv T.ot)) T.mt) (x6 (hm _ (asv T.os)) T.ms) (x6 (hm _ (asv T.oa)) T.ma)⟩
def cW.afc aPA aRV:cW C Y e o (M.set 0 (abT C.yd (tj Y t))) (arj ticks t) :=
 h.mv Ξ (get_set h.y0) (adS h.y1) (adS h.y2) (adS h.y3) (adS h.y4) (adS h.y5) (abf h h) (abf h h) avD
def cW.abl aPA(l:aj5):cW C Y e o (adw 1 .bB (encD eI l)) (akm B l) :=
 h.mv Ξ avi (get_set h.y1) (adS h.y2) (adS h.y3) (adS h.y4) (adS h.y5) (abf h h) (abf h h) avD
def cW.put2 aPA(l:akZ):cW C Y e o (akL 2 (l.map jL)) (arj lying l) :=
 h.mv Ξ avi (adS h.y1) (get_set h.y2) (adS h.y3) (adS h.y4) (adS h.y5) (abf h h) (abf h h) avD
def cW.put3 aPA(l:aj5):cW C Y e o (adw 3 .bB (encD eI l)) (arj greens l) :=
 h.mv Ξ avi (adS h.y1) (adS h.y2) (get_set h.y3) (adS h.y4) (adS h.y5) (abf h h) (abf h h) avD
def cW.Wc aPA aPk:cW C Y e o (adw 4 .bB (afh eF anM)) (arj falls anM) :=
 h.mv Ξ avi (adS h.y1) (adS h.y2) (adS h.y3) (get_set h.y4) (adS h.y5) (abf h aIf.1) (abf h h) avD
def cW.abm aPA aPv:cW C Y e o (adw 5 .bB (ee eT (cF B.trains x))) (asE B (cF B.trains x)) :=
 h.mv Ξ avi (adS h.y1) (adS h.y2) (adS h.y3) (adS h.y4) aJc (abf h h) (abf h aIf.1) avD
def cW.push aPA(v:MO)(g:Tg):cW C Y e (dt o M.length g) (M++[v]) B:=by
 rw[anu a (∀aUd,ayx M->ayx (M++[v])) e (x6 (aw7 (df e)) e) b (∀aUd,ayx M->dt o M.length g i=o i) (adm (md (by rw[ae9 (df e)])))]
 exact⟨a h.y0,a h.y1,a h.y2,a h.y3,a h.y4,a h.y5,aqk (x6 (md (by rw[ae9 (df h.y5)])) (h.lo i hi)),aqk (by
   rw[List.length_append,List.length_singleton] at hi;exact x6 aCa (h.hi i b6)),
  λ q hq=>⟨x6 (b (h.yf q hq).2) (h.yf q hq).1,a (h.yf q hq).2⟩,λ q hq he=>by
   have T:=h.yt q hq he
   exact⟨x6 (b T.mt) T.ot,x6 (b T.ms) T.os,x6 (b T.ma) T.oa,a T.mt,a T.ms,a T.ma⟩⟩
def yZ.push aPr{t:TB}(T:awJ)(v:MO)(g:Tg):akJ (dt o M.length g) (M++[v]) t:=by
 rw[anu a (∀aUd,ayx M->ayx (M++[v])) e (x6 (aw7 (df e)) e) b (∀aUd,ayx M->dt o M.length g i=o i) (adm (md (by rw[ae9 (df e)])))];exact⟨x6 (b T.mt) T.ot,x6 (b T.ms) T.os,x6 (b T.ma) T.oa,a T.mt,a T.ms,a T.ma⟩
def yZ.set aPr{t:TB}(T:awJ)aPt{v:MO}{g:Tg}(hi:o i=g)(h1:g≠aoE x)(h2:g≠alV x)(h3:g≠ag0 x):akJ o (M.set i v) t :=
 arK (ale (iM hi T.ot h1) T.mt) (ale (iM hi T.os h2) T.ms) (ale (iM hi T.oa h3) T.ma)
def cW.own(h:aqD)aPt{v:MO}(hi:o i=aoE x\/o i=alV x\/o i=ag0 x):cW C Y aeU o (M.set i v) B:=by
 have g:∀{j:Nat}{g:Tg},o j=g->g≠aoE x->g≠alV x->g≠ag0 x->(M.set i v)[j]? = M[j]? := λ hj h1 h2 h3=>ar (by
  rcases hi with hi | hi | hi
  ·exact iM hi hj (Ne.symm h1)
  ·exact iM hi hj (Ne.symm h2)
  ·exact iM hi hj (Ne.symm h3))
 have y:∀j≤5,(M.set i v)[j]? = M[j]? := λ j hj=>aAN (h.lo j hj) (nofun)
 refine⟨aBD 0 h.y0,aBD 1 h.y1,aBD 2 h.y2,aBD 3 h.y3,aBD 4 h.y4,aBD 5 h.y5,h.lo,λ j hj=>h.hi j (aam hj),
  λ q hq=>⟨(h.yf q hq).1,x6 (aAN (h.yf q hq).1 (nofun)) (h.yf q hq).2⟩,IL q hq he⟩
 rw[aeC T (h.yt q hq he) hn (q.1≠x) (adm (he (agB e)))]
 exact arK (x6 (g T.ot (adm (hn (Tg.train.inj e))) nofun nofun) T.mt) (x6 (g T.os nofun (adm (hn (Tg.steps.inj e))) nofun) T.ms) (x6 (aAN T.oa (adm (hn (Tg.ahead.inj e)))) T.ma)
def cW.but aPT aPv:aqD:=⟨h.y0,h.y1,h.y2,h.y3,h.y4,h.y5,h.lo,h.hi,h.yf,λ q hq _=>axq q hq⟩
def cW.seen aPr{t t':TB}(h:aqD)(hn:aBO)(hx:ajI=adt)(T:akJ o M t')(ho:t'.ob=t.ob):cW C Y none o M (asE B arI):=by
 refine⟨h.y0,h.y1,h.y2,h.y3,h.y4,?_,h.lo,h.hi,h.yf,IL q hq _⟩
 ·show af2 M 5 .bB (ee eT arI);rw[Ω (Nj hn hx (by show PV.obj t'.ob=PV.obj t.ob; rw[ho])) h.y5]
 ·have hq:q∈arI:=hq
  rw[aev QT (cz (uG hn) hq) eB QT];rw[aih q.1 x]
  ·rw[apN e QT];cases QT;rw[amX T]
  ·rw[t7 ak3 QT (h.yt q (iK QT) λ e'=>e (aOm).symm)]
def cW.afd aPr{t':TB}(h:aqD)(hn:aBO)(T:akJ o M t'):cW C Y none o (adw 5 .bB (ee eT arI)) (asE B arI):=by
 have T':=T.set (i:=5) (v:=.bB (ee eT arI)) (auL 5) nofun nofun nofun;have g:∀i,5<i->(adw 5 .bB (ee eT arI))[i]? = M[i]? := avD
 refine⟨avi,adS h.y1,adS h.y2,adS h.y3,adS h.y4,aJc,h.lo,aJX i awa,
  λ q hq=>⟨(h.yf q hq).1,x6 (g _ (asv (h.yf q hq).1)) (h.yf q hq).2⟩,IL q hq _⟩
 have hq:q∈arI:=hq
 rw[aev QT (cz (uG hn) hq) eB QT];rw[aih q.1 x]
 ·rw[apN e QT];cases QT;rw[amX T']
 ·rw[ak3] at QT;have T2:=h.yt q (iK QT) λ e'=>e (aOm).symm;exact⟨T2.ot,T2.os,T2.oa,x6 (g _ (asv T2.ot)) T2.mt,x6 (g _ (asv T2.os)) T2.ms,x6 (g _ (asv T2.oa)) T2.ma⟩
def cW.keep aPA aQS aVC:cW C Y e o M' B:=by
 rw[d6 g (∀aPt{v:MO},arM M->o i≠.uT->arM M') (λ e hn=>aBh _ (df e) hn e) y (∀aPt{v:MO},arM M->i≤5->arM M') (λ e hi=>g e (by rw[ak7 (h.lo _ hi)]))]
 exact⟨y h.y0 d7,y h.y1 d7,y h.y2 d7,y h.y3 d7,y h.y4 d7,y h.y5 d7,h.lo,aJX i (Nat.le_trans hl hi),λ q hq=>⟨(h.yf q hq).1,g (h.yf q hq).2 (by rw[ak7 (h.yf q hq).1])⟩,λ q hq he=>by
  have T:=h.yt q hq he
  exact arK (g T.mt (by rw[ak7 T.ot])) (g T.ms (by rw[ak7 T.os])) (g T.ma (by rw[ak7 T.oa]))⟩
def cW.fld aPA aRd aPw aPo aUN(hf:amU (tj Y B.ticks) f=aeU):bY C.yd f d ρ M=.ok x M:=by
 unfold bY;rw[aj2 hd ag (mT h.y0)];rw[acR hf]
variable {t:Int}
def uK:amU (tj Y t) aN2=f7 aBt:=aao
def pB:asj "pieces"=arn:=aao
def uL:asj "signals"=f7 atf:=aao
def Yw:asj "wait"=aKE:=aao
def Fe:asj "ticks"=afY t:=aao
def AG:asj "locks"=ahq 1:=aao
def Ff:asj "lying"=ahq 2:=aao
def tZ:asj "greens"=ahq 3:=aao
def uM:asj "falls"=ahq 4:=aao
def qU:asj "trains"=ahq 5:=aao
def sq:ayW (Str.ofString "train_in"):=aao
def yq:ayW (Str.ofString "lock_of"):=aao
def Fh:ayW (Str.ofString "lies"):=aao
def JJ:ayW (Str.ofString "is_green"):=aao
def cW.met aPA{m:Str}aQZ aPo aQJ aPi aUN(hf:aaz ((tj Y B.ticks).lookup m))(ha:al9=.ok xs M):iG C.yd m g d ds ρ M=g (ο 0::xs) M:=by
 unfold iG;rw[aj2 hd ag (mT h.y0)];rw[agV hf];rw[ha,ag]
abbrev bT aP0 aPf:Bool:=apD (0≤i) (agf (i<n))
def Hy aPi aPu:cZ [ς xs,η i] M=.ok (.bl (aAu i)) M:=by
 rw[ake cZ (r=.ok (.bl (aAu i)) M)];refine ah4 (.bl (aAu i)) M ?_;by_cases h:0≤i<;>simp[bU,h,bT]
def kT aPu(h : -1000≤i)(h2:aMj i):aAE i:=by
 rw[aqR small (decide_eq_true (aiS ?_))]
 ·have:acy (-(2 ^ 64)) = -18446744073709551616:=d7
  omega
 ·have:acy (2 ^ 64)=18446744073709551616:=d7
  omega
abbrev Sm aP0:Prop := -1000≤i/\aMj i
def QU aPu{y:PV}aQB:dJ (ahp ara none) [aoG,akd] M=.ok () M:=by
 have h:=kT hi.1 hi.2;simp only[dJ,aA,zB,zA,ag,h,if_true]
def Fi aPi{nt yd:Addr}aRd aPu aPA aQB(hf:amU (tj Y B.ticks) f=agz) :
  gq 2 (bu (nv (dP (av cZ [(axx f),b9]))) (atC nt) fo) [ο 0,η i] M=if aAu i then .ok .bb M else L6 nt M:=by
 refine cV (P:=λ r=>r=if aAu i then .ok .bb M else L6 nt M) ?_;rw[aaA e (aiC [f9,akd] hf) (atH (aAu i))]
 ·simp[e,Hy,jG]
 ·rw[aiy (BU (QU hi) (cT ?_)) (an7 ajD)]
 ·rw[aiy (afX (fJ ?_)) (agW ajD)]
def jq aPu aPA aQB:nH C.nt C.yd cZ [ο 0,η i] M=if aqS i then .ok .bb M else L6 C.nt M:=by
 have:=Fi (nt:=C.nt) (yd:=C.yd) h hi uK;rw[t7 zK this this]
def jr aPu aPA aQB:nI C.nt C.yd cZ [ο 0,η i] M=aqF .ok .bb:=by
 have:=Fi (nt:=C.nt) (yd:=C.yd) h hi pB;rw[t7 zK this this]
def iF aPu aPA aQB:mH C.nt C.yd cZ [ο 0,η i] M=if bT i Y.ss.length then .ok .bb M else L6 C.nt M:=by
 have:=Fi (nt:=C.nt) (yd:=C.yd) h hi uL;rw[t7 zK this this]
abbrev sr:amF Pc
 | .pl _ _=>false
 | .pt _ _ _=>true
def lA aQb:mV aBs M=.ok (.bl (sr p)) M:=by
 rw[ake mV (r=.ok (.bl (sr p)) M)];refine ah4 (.bl (sr p)) M ?_;cases p<;>simp[Pc.enc,sr]
def fQ aPu aPa(h:c8 (bT i n)):∃k:Nat,i=k/\k<n:=by
 rw[ak9 bT];rw[ao3];rw[aas i.toNat b6 b6]
def jk{k n:Nat}(h:k<n):c8 (bT ao9 n):=by
 unfold bT; rw[anr h]
abbrev bH aPD aQn:Bool:=sr (aeo p)
abbrev kU aP0 aPD:Bool:=bT i ps.length && bH ps i.toNat
def iD aPu{gc gp:D1}aPA aQB aUw aVN :
  kH C.nt C.yd gc gp [ο 0,η i] M=if ak5 i then .ok .bb M else L6 C.nt M:=by
 rw[ake kH (r=if ak5 i then .ok .bb M else L6 C.nt M)];unfold kU
 rw[ahN ho arT]
 ·rw[apN ho hc];rw[apT k hk ho];rw[amJ (aH (anA .bb M (f6 hc))) e (aiC [f9,agO] pB)];rw[ho]
  refine atH (auF k)
  ·simp[e,sM hk,hp,jG,bH]
  ·rw[aiQ (BU (QU hi) (cT ?_)) hk (aKj k) ajD]
   rw[Int.toNat_natCast,hk]
   rfl
  ·rw[aiQ (afX (fJ ?_)) hk (aqY k) ajD]
   rw[Int.toNat_natCast,hk]
   rfl
 ·have ho:acS arT:=aam ho
  rw[ho] at hc ⊢;refine aH (mM C.nt M (f6 hc) (dr (cT ?_)));rfl
def xk{rs:afT}aPj(h:aFk r):acL rs r (aQ rs r,aX rs r):=by
 unfold aQ aX;rw[aHU h];rfl
def xl{rs:afT}aPj(h:aFk r):agF (hV rs) r=.ok (sT [η (aQ rs r),bG (aX rs r)]) M:=fK (by rw[zJ,xk h]; rfl)
def ni aPj aPA aRs:kR C.yd [ο 0,η r] M=.ok (η Es) M:=by
 rw[ac2 kR (q=.ok (η Es) M)];rw[alU e (aiC [f9,aax] uK) (ah4 (η Es) M (afr e (xl hr)))]
def tu aPj aPA aRs:o5 C.yd [ο 0,η r] M=.ok ah3 M:=by
 rw[ac2 o5 (q=.ok ah3 M)];rw[alU e (aiC [f9,aax] uK) (ah4 ah3 M (afr e (xl hr)))]
def lz{gb:D1}aW7 aQs aPY:mU gb [ahf,η a,η j] M=.ok (.bl aCx) M:=by
 rw[ac2 mU (q=.ok (.bl aCx) M)];refine ah4 (.bl aCx) M ?_;cases e:alG a j<;>simp[hb,e,bJ]
abbrev cq aPx aP6:Bool:=(alG (cw Y.ss s).2 (cw Y.ss s).1).isNone
def jW{gb:D1}aRW aPA(hs:al4)aW8:iI C.yd gb [ο 0,η s] M=.ok (.bl ajl) M:=by
 rw[ac2 iI (q=.ok (.bl ajl) M)];rw[aip e1 (aiC [f9,aeD,none] uL) e2 (aiC [f9,aeD,f7 av7] pB) (aeV av7 M (afr e1 ay8))];exact ah4 (.bl ajl) M (by simp[e2,dw,hb,cq] at e2 ⊢)
def Nk aPu{gc:D1}aPA aUw :
  kE C.yd gc [ο 0,η i] M=aqF .ok (ail (alF i.toNat)):=by
 rw[ac2 kE (q=aqF .ok (ail (alF i.toNat)))]
 rw[ahN ho arT]
 ·rw[ho] at hc ⊢
  rw[apT k hk ho]
  rw[amJ (aH (cy .bb M (f6 hc) (acK (ah4 (ail (alF k)) M ?_)))) e (aiC [f9,agO] AG)];unfold xU;rw[akT (([PV.obj 0,PV.int ↑k].map some++auJ (2 - ahK [PV.obj 0,PV.int ↑k]) none:eu)=[f9,agO]),e,ag,eD h.y1]
  simp only[aA,zB,zA,ag]
  rw[eD h.y1];rw[ako kQ eZ];cases alF k<;>rfl
 ·have ho:acS arT:=aam ho
  rw[akU ho hc (aH (mM C.nt M (f6 hc) (dr (cT rfl))))]
def Yx aPu{gc:D1}aPA(hl:aMa)(hc:gc [ο 0,η i] M=if ak5 i then .ok .bb M else L6 C.nt M) :
  mZ C.yd gc [ο 0,η i] M=if ak5 i then .ok (jL (asz i.toNat)) M else L6 C.nt M:=by
 rw[ac2 mZ (q=if ak5 i then .ok (jL (asz i.toNat)) M else L6 C.nt M)]
 rw[ahN ho (ak5 i)]
 ·rw[ho] at hc ⊢
  rw[apT k hk aNy.1];refine aH (cy .bb M (f6 hc) (acK (ah4 (jL (asz k)) M ?_)));rw[aeC e (aiC [f9,agO] Ff) jB (aEn k) (by rw[Ω hl hk])]
  simp only[zC,zD,zE,zF,Nat.zero_add,Nat.reduceAdd,Nat.reduceSub,List.replicate,zG,zH,zI,aD,e,ag,aA,zB,zA];exact uJ h.y2 (by rw[zJ,List.getD_eq_getElem?_getD,List.getElem?_eq_getElem jB];rfl)
 ·have ho:acS (ak5 i):=aam ho
  rw[akU ho hc (aH (mM C.nt M (f6 hc) (dr (cT rfl))))]
def JK aPu{gc:D1}aPA(hc:gc [ο 0,η i] M=if bT i Y.ss.length then .ok .bb M else L6 C.nt M) :
  jQ C.yd gc [ο 0,η i] M=if bT i Y.ss.length then .ok (.bl (agl (aJ B.greens i.toNat))) M else L6 C.nt M:=by
 rw[ac2 jQ (q=if bT i Y.ss.length then .ok (.bl (agl (aJ B.greens i.toNat))) M else L6 C.nt M)]
 rw[ahN ho atO]
 ·rw[ho] at hc ⊢;rw[apT k hk ho];rw[amJ (aH (cy .bb M (f6 hc) (acK (ah4 (.bl (agl (aJ B.greens k))) M ?_)))) e (aiC [f9,agO] tZ)];simp only[zC,zD,zE,zF,Nat.zero_add,Nat.reduceAdd,Nat.reduceSub,List.replicate,zG,zH,zI,aD,e,ag,aA,zB,zA];rw[tY h.y3 (k:=aj0 k) rfl,eZ];simp
 ·have ho:acS atO:=aam ho
  rw[akU ho hc (aH (mM C.nt M (f6 hc) (dr (cT rfl))))]
universe zE
universe Sb
universe zE
end
mutual
section
namespace Sb
open PySem L2
def BV aPc aPa aQj(h:asd):atd o=M:=by
 refine aDY i;rw[aih n i]
 ·subst e; rw[aKX,h]
 ·rw[ar e]
def nD aPc aPa{o o':MO}(h:asd):(atd o').set n o=M:=by
 rw[List.set_set,BV h]
abbrev Th aPf aTm(Q:aiu):aiu
 | .nx ρ M=>aiZ .jd/\Q (.nx ρ (aoU .bB))
 | .rt x M=>aiZ .jd/\Q (.rt x (aoU .bB))
 | _=>False
def yr aRy{di:DI}{s:DS}aR0 aQF aPi aQ4(hi:apd=.ok (xs,arJ .jd) M')(hs:Th n kvs Q (s ρ M)):Q (sL di s ρ M):=by
 unfold sL V5;rw[agV hi];rw[agV h];revert hs;cases s ρ M with
 | nx ρ M=>rintro⟨a,b⟩;rw[ams G3];rw[Ω (if_pos a) b]
 | rt x M=>rintro⟨a,b⟩;rw[ams G3];rw[Ω (if_pos a) b]
 | _=>exact False.elim
def BW aPo aPX aQF aQ4 aTC:rD d ρ M=.ok (apC q (sT [vx q.1,q.2]),arJ .jd) (aoU .jd):=by
 rw[aiY rD hd ag (eD h)]
def Ux aPo aPX aQF aQ4 aTC:Bh d ρ M=.ok (apC q q.2,arJ .jd) (aoU .jd):=by
 rw[aiY Bh hd ag (eD h)]
def keys_eq aPo aPX aQF aQ4 aTC:oY d ρ M=.ok (apC q (vx q.1),arJ .jd) (aoU .jd):=by
 rw[aiY oY hd ag (eD h)]
abbrev eTi(q:Int×TB):PV:=sT [η q.1,ο q.2.ob]
abbrev eFi(q:Nat×FB):PV:=sT [η q.1,ο q.2.ob]
def LH(d:aG2):(ag8 (ee eT d).map q (PV.tup [vx q.1,q.2]))=d.map eTi:=by rw[asQ ee]
def Uy(d:aCi):(ag8 (aq1 eF).map q (PV.tup [vx q.1,q.2]))=d.map eFi:=by rw[aFw]
section
variable {C:Cs} {Y:fE} {e:adq} {o:adu} {M:aY} {B:Bx} {ρ:eu} {t:TB}
def yu aRd aPw aPo(h:azB)(hd:aaQ=.ok aij M)(hf:amU (lH t) f=aeU):bY C.tr f d ρ M=.ok x M:=by
 unfold bY;rw[aj2 hd ag (mT h)];rw[acR hf]
def su:amU (lH t) (Str.ofString "steps")=ahq t.so:=aao
def Fj:amU (lH t) (Str.ofString "ahead")=ahq t.ao:=aao
def QV:amU (lH t) (Str.ofString "is_out")=abq .bl t.tr.out:=aao
def Nl{tk:Int}aRd aPw aPo(h:M[0]? = axy (tj Y tk))aUN(hf:amU (tj Y tk) f=aeU):bY C.yd f d ρ M=.ok x M:=by
 unfold bY;rw[aj2 hd ag (mT h)];rw[acR hf]
def gx(h1:azB)(h2:aDb)(hl:ars):kD C.tr [aij] M=.ok (cO (t.tr.steps.map (·.1))) M:=by
 rw[ac2 kD (q=.ok (cO (t.tr.steps.map (·.1))) M)];rw[aaA e (yu (ρ:=[agX]) (d:=b8) h1 rfl su) (ah4 (cO (t.tr.steps.map (·.1))) M ?_)];show cg false aiw (iL (bY C.tr "steps" b8)) (gN 0) sI akC [agX] M=_;rw[cc (xs:=t.tr.steps) (w:=aiR t.so (ς ass)) (M':=M) aI ah9 (alI s s.1) (ahW [y]) (yg e h2) h2 ah2 (akf x) (adP hl)]
 ·rw[awN];rw[aga tJ (agW (by rw[aqg hl])) ane];rw[asQ cO]
 ·rw[ahJ y rfl hρ (abS _ rfl acV avJ)]
abbrev sv(d:aG2)(p:Int):adq:=ae4 (aIW q (p∈azO)).map
def JL aPu{gc gu:D1}aPT aUw
  aW4(hl:aDy) :
  hU C.yd gc gu [ο 0,η i] M=aqF .ok (fz (axa i)):=by
 rw[ac2 hU (q=aqF .ok (fz (axa i)))]
 rw[ahN ho arT]
 ·rw[ho] at hc ⊢;simp only[zC,zD,zE,zF,Nat.zero_add,Nat.reduceAdd,Nat.reduceSub,List.replicate,zG,zH,zI];refine aH (cy .bb M (f6 hc) aFl)
  rw[aev hi (BW h.y5 (aiC [f9,akd,none,none] qU)) LH hi];refine yr h.y5 hi ?_
  rw[acH hz (af2 (at8 .jd) 5 .jd awd) aJc (fS eTi (ak6 (∃y z,ρ=[f9,akd,y,z]/\M'=at8 .jd/\aIM (aoM q i azO))) B.trains _ _ hi hz (abS none none rfl rfl) ?_ ?_)]
  ·rintro pre q post hx ρ M' ⟨y,z,rfl,rfl,la⟩;refine ad5 _ ?_
   have hq:q∈B.trains:=by rw[ajc]
   rw[axr T (axq q hq) T' (T.set (i:=5) (v:=.jd awd) (auL 5) nofun nofun nofun) e1 (hu q.2 _ T'.mt T'.ms (hl q hq)) (eO (ac5 i azO) (at8 .jd) ?_ (g8 hk) (g8 hk))]
   ·rw[bI,aD,aA];dsimp only[List.set_cons_succ,List.set_cons_zero,zB,zA];rw[ag,aZ,ax,aA];rw[aiv];rw[ag,aM,ag,ag,e1,ag];rw[avq (cO (ae4 q.2.tr.steps.map)) (ς ((azO).map η)) (f6 cO),qO]
    rfl
   ·refine bx (η q.1) (at8 .jd) rfl (AA ⟨hz,cY (aV ?_)⟩);rw[aFH,aO1];unfold sv;rw[hx,List.find?_append,la,List.find?_cons,hk];rfl
   ·refine dq (bC hz (abS _ _ rfl ?_));rw[List.find?_append,la,List.find?_cons,hk];rfl
  ·rintro ρ' M' ⟨y,z,rfl,rfl,la⟩;rw[aej hz (acK (bx .bb M (by rw[acR aFH]) (aV ?_)))];rw[aga sv la aO1];rfl
 ·have ho:acS arT:=aam ho
  rw[akU ho hc (aH (mM C.nt M (f6 hc) (dr (cT rfl))))]
abbrev Yy aPd aPf aPh(ti:aj6):Prop:=azU p (p<n) (∃x,g [ο 0,η p] M=.ok x M/\rn true x .bb M=.ok (.bl (ti p)) M)
def fX aQo{gt:D1}{ti:aj6}aPT(ht:Yy gt Y.ps.length M ti)(hp:aln)(hs:Sm p) :
  i7 C.he C.yd gt [ο 0,η p] M=if ap6 p p then L6 C.he M else .ok .bb M:=by
 rw[ac2 i7 (q=if ap6 p p then L6 C.he M else .ok .bb M)]
 simp only[zC,zD,zE,zF,Nat.zero_add,Nat.reduceAdd,Nat.reduceSub,List.replicate,zG,zH,zI];rw[aaA e (aiC [f9,aia] AG) (aH (eO (agl (alF p)) M ?_ (g8 hk) (g8 hk)))]
 ·simp[e];rw[tY h.y1 (k:=aj0 p) rfl,eZ];simp
 ·have e3:=QU (M:=M) (y:=ο 0) hs;rw[apH cn e3];refine dr (cT ?_);rw[hk,Bool.true_or,afC]
 ·obtain⟨x,h1,h2⟩:=ht p hp;rw[aaA e2 (h.met (ρ:=[f9,aia]) (g:=gt) (d:=b8) (ds:=[b9]) (xs:=[η p]) rfl sq rfl) (afX (acK (eO (ti p) M ?_ (g8 jB) (g8 jB))))]
  ·show(ajM (rn true) (asG C.yd gt b8 [b9]) (dC .bb)) [f9,aia] M=_;rw[bI,aD,e2,h1,ag,bA,ag,h2];rfl
  ·refine BU (QU hs) (cT ?_);rw[jB,Bool.or_true,afC]
  ·rw[amj (fJ ?_)];rw[hk,jB,Bool.or_false,ane]
abbrev Fm aQb aPV:Bool:=match p with
 | .pl _ _=>true
 | .pt _ _ b=>!(ac5 b [s.2.1,s.2.2])
abbrev za aPD aPV:Bool:=Fm (aeo s.1) s
def Fo aPV:GV false amn ahM none M=.ok (sT ([s.2.1,s.2.2].map η)) M:=rfl
def om{gp:D1}aVN aQb aPV:pU gp [p.enc,amn] M=.ok (jL (Fm p s)) M:=by
 rw[ac2 pU (q=.ok (jL (Fm p s)) M)];cases p with
 | pl a b =>
  refine aH (pO M ?_ (afX (acK (bx af9 M rfl (aV rfl)))));simp[hp,jG,sr]
 | pt t u b =>
  rw[ahU e (ju false (η b) (sT ([s.2.1,s.2.2].map η)) M=_) wQ (eO (ac5 b [s.2.1,s.2.2]) M ?_ (g8 hk) (g8 hk))]
  ·simp[hp,jG,sr];simp only[Pc.enc,aba,ag,Fo];rw[arW]
  ·refine bx (c7 "branch") M rfl (cY (aV ?_));simp only[Fm,hk,jL];rfl
  ·rw[amj (acK (bx af9 M rfl (aV ?_)))];simp only[Fm,hk,jL];rfl
abbrev ua aPU(ti:aj6)aPZ:Bool:=w.any λ s=>ap6 s.1 s.1
def JM aPk aPZ aPV(d:aj5):lG r (w++[s]) d=cv (lG r w d) s.1 r:=by rw[acP lG List.foldl_append];rfl
def Nm(oh:anD)aPZ aPV(l:akZ):BH oh (w++[s]) l=(BH oh w l).set s.1 (oh s):=by rw[acP BH List.foldl_append];rfl
def i9 aPa{l:ae6}(h:l.Nodup)(hl:anU l (x<n)):l.length≤n:=mK h hl
def lC aPu{gc gw gn gl gs:D1}{ti:aj6}aPT aRe aSR(hss:Y.ss.length≤16)aWu
    (xA:agM aIt)(qj:∀p∈aIt, aln)(Yt:aMa)(hgn:agM aIn)(Fp:∀s∈aIn, al4)
    aVu
    (hw:∀r:Nat, adg->gw [ο 0, η r] M=.ok ah3 M)
    aVp
    (hl:∀M p s, gl [aK5, amn] M=.ok (jL (Fm p s)) M)
    aW5 :
    (at0/\jv C.yd gc gw gn gl gs [ο 0, η i] M=ai2)\/azV r (i=r) (adg ∧
      ((c8 (ua B ti aaC)/\jv C.yd gc gw gn gl gs [ο 0, η i] M=L6 C.he M) ∨
       (acS (ua B ti aaC)/\∃M', jv C.yd gc gw gn gl gs [ο 0, η i] M=.ok .bb M'/\cW C Y none o M' (setB Y.rs (za Y.ps) B r)/\ahG))):=by
  unfold jv
  rw[ahN ho (aqS i)]
  · rw[ho] at hc
    obtain⟨r, rfl, hr⟩:=fQ ho
    rw[afQ (c6 ⟨r, rfl, hr, ?_⟩) (cV (P:=λ q=>(c8 (ua B ti aaC)/\q=L6 C.he M)\/(acS (ua B ti aaC)/\∃M', q=.ok .bb M'/\cW C Y none o M' (setB Y.rs (za Y.ps) B r)/\ahG)) ?_)];simp only[zC, zD, zE, zF, Nat.zero_add, Nat.reduceAdd, Nat.reduceSub, List.replicate, zG, zH, zI];rw[ave (anA .bb M (f6 hc)) (aeV ah3 M (f6 (hw r hr)))];rw[adk]
    rw[ahU Np (∀s∈aaC, aDL s.1) (λ s tH=>R.lt r hr s.1 (List.mem_map.mpr ⟨s, tH, rfl⟩)) (fS aI (ak6 (∃y, ρ=[f9, aax, alP, y]/\M'=M/\acS (ua B ti pre))) aaC none M (ej Ξ) trivial ⟨none, rfl, rfl, rfl⟩ ?_ ?_)]
    · rintro pre s post hx ρ M' ⟨y, rfl, rfl, la⟩
      refine⟨_, rfl, ?_⟩
      rw[adk];rw[ZI Ot (Np s (by rw[ajc])) e (hn s.1 Ot)];rw[ahN hh (ap6 s.1 s.1)]
      · rw[apN hh e]
        refine mM C.he M' ?_ (Qi (dr (cT (b5 (aFm ?_)))))
        · simp[aI, e]
        · rw[hx]; unfold ua; rw[List.any_append, List.any_cons, hh]; simp
      · rw[avd (if_neg hh) e (api .bb M' (afR ⟨_, rfl, rfl, ?_⟩))]
        · simp[aI, e]
        · unfold ua at la ⊢
          rw[List.any_append, la, List.any_cons];simp only[Bool.not_eq_true] at hh;rw[acR hh]
    · rintro ρ' M' ⟨y, rfl, rfl, abn⟩
      refine aqn (fS aI (λ pre ρ M1=>∃y, ρ=[f9, aax, alP, y]/\cW C Y none o M1 { B with locks:=aok r pre, lying:=BH (za Y.ps) pre B.lying }/\gP o M' o M1)
        aaC none M' (ej Ξ) trivial ⟨_, rfl, h, gP.refl⟩ ?_ ?_)
      · rintro pre s post hx ρ M1 ⟨y, rfl, h1, f1⟩
        refine⟨_, rfl, ?_⟩
        rw[adk];have Ot:=Np s (by rw[ajc])
        rw[d6 YA (∀p∈aO5, aln) (ahT (by
          obtain⟨s', tH, rfl⟩:=List.mem_map.mp hp;exact Np s' (by rw[hx]; simp[tH]))) hlen (agS (aok r pre) 16) (by
          rw[aj3 (i9 (BI r pre _ xA) (Hi r pre _ YA qj)) zK];omega)]
        rw[aaA e1 (h1.fld (ρ:=[f9, aax, alP, ajH]) (d:=b8) rfl AG) (aH (fq (η r) M1 (ο 1) M1 (η s.1) M1 (M1.set 1 (.bB (afh eI (aok r (agw s))))) Ξ e1 avJ ?_ ac4))]
        · rw[awZ h1.y1 s.1 (by rw[pA]; show aeA (aok r pre)<_; exact aNP hlen), JM]
          congr 3
          exact pz eI s.1 r _
        rw[axr h2 (h1.abl (aok r (agw s))) e2 (h2.fld (ρ:=[f9, aax, alP, ajH]) (d:=b8) rfl Ff) e3 (h2.fld (ρ:=[f9, aax, alP, ajH]) (d:=b8) rfl pB) (fq (jL (za Y.ps s)) (M1.set 1 (.bB (afh eI (aok r (agw s))))) (ο 2) (M1.set 1 (.bB (afh eI (aok r (agw s))))) (η s.1) (M1.set 1 (.bB (afh eI (aok r (agw s))))) ((M1.set 1 (.bB (afh eI (aok r (agw s))))).set 2 (ς ((BH (za Y.ps) (agw s) B.lying).map jL))) ?_ e2 avJ ?_ (afR ⟨_, rfl, ?_, ?_⟩))]
        · rw[aZ, ax, aD, e3, ag]
          simp only[aD, aA, bA, zB, zA, ag, ax, aM];rw[avq (aK amn (η 0) (M1.set 1 (.bB (afh eI (aok r (agw s)))))) (.ok (η s.1) _) wV, ag, sM Ot, ag, ag, hl]
          rfl
        · rw[nC h2.y2 (by simp; rw[BK, Yt]; exact Ot), Nm, List.map_set]
        · exact h2.put2 _
        · exact x6 (aEX (by rw[apM 1])) (ak2 (by rw[apM 2]))
      · rintro ρ' M1 ⟨y, rfl, h1, f1⟩
        rw[apL e1 (h1.fld (ρ:=[f9, aax, alP, y]) (d:=b8) rfl tZ) hlen (B.greens.length≤16) (by
          rw[aj3 (i9 hgn Fp) zK];omega) (acK (fq (η r) M1 (ο 3) M1 (η Es) M1 (M1.set 3 (.bB (afh eI (cv B.greens Es r)))) Ξ e1 ?_ ?_ (fJ (c6 (aJ1 abn _ (h1.put3 _) (aEX (by rw[apM 3])))))))]
        · simp[hs M1 _ r h1 hr]
        · rw[awZ h1.y3 Es (by rw[Ω pA (Nat.lt_of_le_of_lt hlen d7)])]
          congr 3
          exact pz eI Es r _
  · rw[akv ho at0 (aam ho) ho hc]
    rw[afQ (b5 ⟨ho, ?_⟩) (cV (P:=λ q=>q=ai2) ?_)]
    exact aH (mM C.nt M (f6 hc) (dr (cT rfl)))
universe zE
universe Sb
universe zE
section
namespace Sb
open PySem L2
def BX aPp [BEq α] [LawfulBEq α] aSD aUs aVc aPc(ha:a∈as):vv (ς (as.map enc)) [aoO] M=.ok (η (as.idxOf a)) M:=by
 rw[ams vv]
 rw[asB (k7 deep _ (hp a)) jh]
 rw[agV (nA (g:=ax3) λ z hz=>by
  obtain⟨b,_,rfl⟩:=List.mem_map.mp hz
  exact k7 deep _ (hp b))]
 rw[auo (((as.map enc).map ax3).findIdx? (alH q q aGl)=f7 (as.idxOf a)) (by
  rw[List.findIdx?_map,List.findIdx?_map]
  have hf:(((alH q q aGl) ∘ ax3) ∘ enc)=λ b=>b == a:=by
   funext b
   rw[aIg];rw[Bool.eq_iff_iff,Bz deep _ _ (hp b) (hp a),beq_iff_eq];rw[apX (adm (inj _ _ e)) e (agB e)]
  rw[hf];have qj:as.findIdx (λ b=>b == a)<as.length:=List.findIdx_lt_length_of_exists ⟨a,ha,Ξ⟩
  rw[acR (List.findIdx?_eq_some_of_exists ⟨a,ha,Ξ⟩)])]
section
variable {C:Cs} {Y:fE} {e:adq} {o:adu} {M:aY} {B:Bx} {ρ:eu} {t:TB}
abbrev cG aPx aPV:aeQ:=match awP with
 | aBl=>asC ((s.2.2,b)∈Y.ss) (aMm (s.2.2,b))
 | none=>none
def abo(q:Int×aeQ):ate (sT [η q.1,bJ q.2]):=by
 intro y hy
 rw[ajr hy];rcases hy with rfl | rfl
 ·exact jH _
 ·cases q.2 with
  | none=>exact vG
  | some n=>exact jH _
def YB(a b:Int×aeQ)(h:PV.tup [η a.1,bJ a.2]=PV.tup [η b.1,bJ b.2]):a=b:=by
 rw[aDU a1 a2 a b1 b2 b];simp only[PV.tup.injEq,List.cons.injEq,PV.int.injEq,and_true] at h;rw[au1 h2 h];cases a2<;>cases b2<;>simp only[bJ] at h2<;>first | rfl | (cases h2; rfl) | cases h2 | (injection h2 with h3; have h4:=Int.ofNat.inj h3; subst h4; rfl)
def abp aSp{b:aeQ}{ss:afD}aPc:ju false (sT [η j,bJ b]) aiP M=.ok (.bl (ac5 (j,b) (ss.map λ s=>(s.1,some s.2)))) M:=by
 have:=sf (neg:=false) (M:=M) (enc:=λ q:Int×aeQ=>PV.tup [η q.1,bJ q.2]) abo YB (a:=(j,b)) (as:=ss.map λ s=>(s.1,some s.2)) (y:=aiP) (by
  show am6 (ς (ss.map dw))=_;rw[qD,List.map_map]
  rfl)
 rw[ap9]
def LI aQc(h:agU w):as3[0]? = aDK (w.headD (0,0,0)):=by
 cases w with
 | nil=>rw[ath h]
 | cons s w=>rfl
def iB{tk:Int}{gb:D1}(h0:M[0]? = axy (tj Y tk))(h1:azB)(h2:aDb)(dz:aHb)
  aW7:kF C.tr C.yd gb [ο 0,aij] M=.ok aDm M:=by
 rw[ac2 kF (q=.ok aDm M)];simp only[zC,zD,zE,zF,Nat.zero_add,Nat.reduceAdd,Nat.reduceSub,List.replicate,zG,zH,zI];rw[aaA e1 (yu (ρ:=[f9,agX,none,none]) (d:=b9) h1 rfl su) (aeV (aI (bX t.tr)) M ?_)]
 ·rw[aD,e1,ag,bA,ag];exact uJ (i:=0) h2 (LI dz)
 rw[adk];generalize bX t.tr=s;rw[aaA e2 (Nl (ρ:=[f9,agX,ajH,none]) (d:=b8) h0 rfl pB) (aeV (sT [η s.2.2,ail awP]) M ?_)]
 ·unfold iS;simp only[aI] at e2;simp only[ax,aM,aD,aA,bA,aZ,zB,zA,ag,e2,aI,D8,wV,hb]
 rw[adk];rw[aaA e3 (Nl (ρ:=[f9,agX,ajH,aq0 [η s.2.2,ail awP]]) (d:=b8) h0 rfl uL) (aH (eO (ac5 (s.2.2,awP) (Y.ss.map λ s=>(s.1,some s.2))) M ?_ (g8 hk) (g8 hk)))]
 ·simp only[bI,aD,aA,zB,zA,ag,e3,abp]
 ·rw[an6 hk hk]
  rw[ana q hq eq hk]
  rw[d6 e4 (s.2.2=q.1) (by have:=congrArg Prod.fst eq;exact this.symm) e5 (b7 awP q.2) (by have:=congrArg Prod.snd eq;exact this.symm)]
  rw[ai3 hm ((s.2.2,q.2)∈Y.ss) (by rw[Ω e4 hq]) hv (cG Y s=aMm (s.2.2,q.2)) (by rw[ahc cG e5 (if_pos hm)]) (bx (ail (cG Y s)) M ?_ (cY (aV rfl)))];rw[hv];rw[aga ji e3 ag];simp only[ax,aM,aA,zB,zA,ag];rw[Ω e5 (BX (enc:=dw) Ln E7 (a:=(s.2.2,q.2)) hm)]
 ·rw[axc hk hk]
  rw[acH hv (aaz (cG Y s)) (by
   unfold cG;cases Ts:awP with
   | none=>rfl
   | some b =>
    refine if_neg (asl (hk ?_));rw[Ω Ts (ahg (s.2.2,b) hm)]) (dq (acK (bx .bb M rfl (aV ?_))))];rw[acR hv]
abbrev kO aPx(d:aG2)aP6:adq:=ae4 (aIW q (b7 (cG Y (bX q.2.tr)) s)).map
def kr aRW{ga:D1}aPT(dz:∀q∈B.trains,agU q.2.tr.steps)
  (ha:∀aQx M',aDC->aHo->aHn->aHb->ga [ο 0,aij] M'=.ok aDm M') :
  lX C.yd ga [ο 0,η s] M=.ok (fz (kO Y B.trains s)) M:=by
 rw[ac2 lX (q=.ok (fz (kO Y B.trains s)) M)];simp only[zC,zD,zE,zF,Nat.zero_add,Nat.reduceAdd,Nat.reduceSub,List.replicate,zG,zH,zI];refine aH ?_
 rw[aev hi (BW h.y5 (aiC [f9,aeD,none,none] qU)) LH hi];refine yr h.y5 hi ?_
 rw[acH hz (af2 (at8 .jd) 5 .jd awd) aJc (fS eTi (ak6 (∃y z,ρ=[f9,aeD,y,z]/\M'=at8 .jd/\aIM (acN q (b7 (cG Y (bX q.2.tr)) s)))) B.trains _ _ hi hz (abS none none rfl rfl) ?_ ?_)]
 ·rintro pre q post hx ρ M' ⟨y,z,rfl,rfl,la⟩;refine ad5 _ ?_
  have hq:q∈B.trains:=by rw[ajc]
  rw[axr T (axq q hq) T' (T.set (i:=5) (v:=.jd awd) (auL 5) nofun nofun nofun) e1 (ha q.2 _ avi T'.mt T'.ms (dz q hq)) (eO (agf (b7 (cG Y (bX q.2.tr)) s)) (at8 .jd) ?_ (g8 hk) (g8 hk))]
  ·rw[bI,aD,aZ,ax,aA];dsimp only[List.set_cons_succ,List.set_cons_zero,zB,zA];rw[ag,ax,aA];rw[aiv];rw[ag,aM,ag,ag,ag,e1,ag,aA];rw[aiv];rw[ag];cases hv:cG Y (bX q.2.tr) with
   | none =>
    rw[avr none .bb,azZ]
    rfl
   | some s' =>
    rw[avr (some s') (η s'),fu]
    by_cases e2:s'=s
    ·subst e2;simp
    ·have e3:¬(acy s'=s):=b6
     simp[e2,e3]
  ·rw[aiy (bx (η q.1) (at8 .jd) rfl (AA ⟨hz,cY (aV ?_)⟩)) aFH];unfold kO;rw[hx,List.find?_append,la,List.find?_cons,hk];rfl
  ·refine dq (bC hz (abS _ _ rfl ?_));rw[List.find?_append,la,List.find?_cons,hk];rfl
 ·rintro ρ' M' ⟨y,z,rfl,rfl,la⟩;rw[aej hz (acK (bx .bb M (by rw[acR aFH]) (aV ?_)))];rw[avg kO la]
def iC aPr aPA(hs:ahI):kG C.nt C.yd [ο 0,η x] M=match ajI with
  | adt=>.ok aij M
  | none=>ai2:=by
 rw[ac2 kG (q=match ajI with | adt=>.ok aij M | none=>ai2)]
 simp only[zC,zD,zE,zF,Nat.zero_add,Nat.reduceAdd,Nat.reduceSub,List.replicate,zG,zH,zI];rw[aaA e1 (aiC [f9,x9] qU) (aH (atH (agl ajI)))]
 ·rw[aCs];rw[ag,e1,ag,tY h.y5 (k:=aon) rfl,kh];simp
 ·have e3:=QU (M:=M) (y:=ο 0) hs;rw[apH cn e3];refine dr (cT ?_);cases ht:ajI with
  | none=>rfl
  | some t=>rw[aiq ht hk hk]
 ·cases ht:ajI with
  | none=>rw[aiq ht hk hk]
  | some t =>
   rw[amj (acK (ah4 aij M ?_))];rw[aD,e1,ag,aA];rw[aiv];rw[Ω ag (axY h.y5 k aon (by rw[kh,ht]; rfl))]
def Uz aPr{gu gc:D1}aPT(hn:aBO)(hl:aDy)
  (hc:gc [ο 0,η x] M=match ajI with | adt=>.ok aij M | none=>ai2)
  aW4 :
  lW gu gc [ο 0,η x] M=match ajI with
  | adt=>.ok (cO (t.tr.steps.map (·.1))) M
  | none=>ai2:=by
 rw[ac2 lW (q=match ajI with | adt=>.ok (cO (t.tr.steps.map (·.1))) M | none=>ai2)]
 simp only[zC,zD,zE,zF,Nat.zero_add,Nat.reduceAdd,Nat.reduceSub,List.replicate,zG,zH,zI];cases ht:ajI with
 | none =>
  rw[ht] at hc;unfold bK
  have:av gu [av gc [b8,b9]] [f9,x9] M=ai2:=by
   simp[hc]
  rw[Ω this (cT rfl)]
 | some t =>
  rw[ht] at hc;rw[ZI hm (iK ht) T (axq _ hm)];exact ah4 (cO (t.tr.steps.map (·.1))) M (afr hc (hu t M T.mt T.ms (hl _ hm)))
def Fq aPZ aPV(d:aj5):eJ (w++[s]) d=cF (eJ w d) s.1:=by rw[acP eJ List.foldl_append];rfl
def Ed aRy{lQ dk:DE}aPX aQF{y:PV}aQX(v:PV)aWE(hn:aiZ .bB)(hk:dk ρ M=.ok y M)(hy:b7 (kQ y) k)(hv:aoW=afw)(q:Q (.nx ρ (adw n .bB (uY kvs k)))):Q (bO (rB lQ dk) ρ M):=by
 refine cy v (adw n .bB (uY kvs k)) ?_ q;unfold rB;rw[aj2 ho ag (eD hn)];rw[hk,ag,eD hn,hy];dsimp only;rw[hv]
def Ee aQc{xv:PV}{wt:DV}aPA aU5(hv:iL b9 [f9,some xv,none] M=.ok (as3,wt) M)(hc:vq wt M)
  (hk:∀(M1:aY) v,vq wt M1->vq wt (M1.set 1 v)):∃M',ll C.yd [ο 0,xv] M=.ok .bb M'/\cW C Y e o M' (akm B (ank w))/\ahG/\alK/\∀i,i≠1->M'[i]? = M[i]? := by
 rw[ac2 ll (∃M',q=.ok .bb M'/\cW C Y e o M' (akm B (ank w))/\ahG/\alK/\∀i,i≠1->M'[i]? = M[i]?)];simp only[zC,zD,zE,zF,Nat.zero_add,Nat.reduceAdd,Nat.reduceSub,List.replicate,zG,zH,zI];refine fS aI (λ pre ρ M1=>∃y,ρ=[f9,some xv,y]/\cW C Y e o M1 (akm B (ank pre))/\apf M1/\aDX M1.length/\vq wt M1/\∀i,i≠1->M1[i]? = M[i]?) w wt M hv hc ⟨none,rfl,h,gP.refl,rfl,hc,aBY⟩ ?_ ?_
 ·rintro pre s post hx ρ M1 ⟨y,rfl,h1,f1,l1,c1,g1⟩;rw[ao8];rw[aeC e1 (h1.fld (ρ:=[f9,some xv,ajH]) (d:=b8) rfl AG) hs (s.1∉aO5) (asl (by
   rw[hx,List.map_append,List.nodup_append] at hn;exact hn.2.2 s.1 hm s.1 Ξ rfl))]
  have hv:=hl s.1 (by rw[ajc]);rw[auz v hv hv]
  refine Ed (k:=aj0 s.1) (y:=η s.1) (η v) e1 h1.y1 avJ rfl ?_ (bC (hk _ _ c1) ⟨_,rfl,?_,aEX (by rw[apM 1]),by rw[axf l1],hk _ _ c1,aqk (aE1 (hi e.symm) (g1 i hi))⟩)
  ·rw[eZ,nB,if_neg hs,hv]; rfl
  ·rw[ae0 qT Fq (h1.abl _)]
 ·rintro ρ' M1 ⟨y,rfl,h1,f1,l1,_,g1⟩;exact fJ ⟨M1,rfl,h1,f1,l1,g1⟩
def qr aQc aPA aU5 :
  ∃M',ll C.yd [ο 0,an1] M=.ok .bb M'/\cW C Y e o M' (akm B (ank w))/\ahG/\alK/\∀i,i≠1->M'[i]? = M[i]? :=
 Ee (wt:=none) h hn hl (ej Ξ) trivial λ _ _ _=>trivial
def Nq aQc{a:Nat}aPA aU5(ha:auc a as3)(h1:a≠1) :
  ∃M',ll C.yd [ο 0,ο a] M=.ok .bb M'/\cW C Y e o M' (akm B (ank w))/\ahG/\alK/\∀i,i≠1->M'[i]? = M[i]? :=
 Ee (wt:=aiR a (ς as3)) h hn hl (yg rfl ha) ha λ M1 v hc=>aE1 (h1 e.symm) hc
def We aPu aQB(hr:aj7 1 akd):dJ (aox ara) ρ M=.ok () M:=by
 have h:=kT hi.1 hi.2;simp only[dJ,aA,hr,ag,h,if_true]
def lB{u:Int}{v:PV}:mW C.fa [aes,η u,v] (M++[abT C.fa []])=.ok .bb (M++[abT C.fa [azD,aB5 v]]):=by
 rw[ac2 mW (q=.ok .bb (M++[abT C.fa [azD,aB5 v]]))];simp only[zC,zD,zE,zF,Nat.zero_add,Nat.reduceAdd,Nat.reduceSub,List.replicate,zG,zH,zI]
 rw[ahU put (∀aRy aRd{dv:DE}{ρ:eu}(y:PV)(fs Ol:aka),aj7 0 adW->dv ρ (M++[abT C.fa fs])=.ok y (M++[abT C.fa fs])->aBk->aDl=Ol->Q (.nx ρ (M++[abT C.fa Ol]))->Q (gS C.fa f b8 dv ρ (M++[abT C.fa fs]))) (λ y fs Ol h0 h hl hf q=>by
  unfold gS;rw[h,Res.eV,aA,h0,Res.eV,mT (C:=C.fa) (fs:=fs) Ξ];dsimp only;rw[aKM,hf,BA];exact q) (put (η u) [] [azD] rfl Ξ (by rw[aiG 0]) aao ac4)];exact put v [azD] [azD,aB5 v] rfl Ξ (by rw[aiG 1]) aao avH
def cW.fall aPT aPj{u:FB}(hr:r∉akk)(hu:aDX u.ob) :
  cW C Y none (dt o M.length (.fall r)) ((M++[MO.ins C.fa (JI u)]).set 4 (.bB (afh eF (axE r u)))) (arj falls (axE r u)):=by
 rw[aeC hp (h.push (abT C.fa (JI u)) (.fall r)) h5 (aow 5) (df h.y5)];have g:∀i,5<i->((M++[MO.ins C.fa (JI u)]).set 4 (.bB (afh eF (axE r u))))[i]? = (M++[MO.ins C.fa (JI u)])[i]? := avD
 refine⟨adS hp.y0,adS hp.y1,adS hp.y2,adS hp.y3,get_set hp.y4,adS hp.y5,hp.lo,aqk (hp.hi i awa),azw,IL q hq he⟩
 ·rw[akv hq (q∈axE r u) hq (Hg hr) hq];rcases aNW with hq | hq
  ·have:=hp.yf q hq;rw[aaX this.1 (x6 (g _ (hp.gt this.1 nofun)) this.2)]
  ·simp at hq;subst hq;rw[hu];rw[aaX ip (x6 (g _ h5) Ξ)]
 ·have T:=hp.yt q hq he;exact arK (x6 (g _ (hp.gt T.ot nofun)) T.mt) (x6 (g _ (hp.gt T.os nofun)) T.ms) (x6 (g _ (hp.gt T.oa nofun)) T.ma)
def qp aPu aWF{W:Wd}{jA:avA}{oF:aj6}aPT aQB aRe(I:awx)(S:ayM)(LJ:aIL)aWu
    aVu
    aW5
    (ht:∀M B' aP6, cW C Y none o M B'->B'.trains=B.trains->al4->gt [ο 0, η s] M=.ok (fz (kO Y B.trains s)) M)
    (hb:∀M B aP6, afk->al4->apn [ο 0, η s]=.ok (.bl ajl) M)
    (hf:∀aPh(u:Int)(v:PV), gf [aes, η u, v] (M++[abT C.fa []])=.ok .bb (M++[abT C.fa [("until", η u), ("near", v)]]))
    (hu:∀M B w, afk->atj->(∀p∈aeN, aEP p)->∃M', gu [ο 0, an1] M=.ok .bb M'/\cW C Y none o M' (akm B (ank w))/\ahG/\alK/\∀i, i≠1->M'[i]? = M[i]?)
    (hw:∀M B aPk, afk->adg->gw [ο 0, η r] M=.ok ah3 M) :
    (at0/\lj C.fa C.nt C.yd gc gs gt gb gf gu gw [ο 0, η i] M=ai2)\/azV r (i=r) (adg ∧
      ((ar2/\lj C.fa C.nt C.yd gc gs gt gb gf gu gw [ο 0, η i] M=ai2) ∨
       (akF/\((ae8 (alf 0 (agl (amL Y) || ahE))/\∃M', lj C.fa C.nt C.yd gc gs gt gb gf gu gw [ο 0, η i] M=.ok .bb M'/\cW C Y none (dt o M.length (.fall r)) M' (Lx Y.rs B r (aAp arh (amL Y)))/\gP o M (dt o M.length (.fall r)) M')
          \/ ai6 (alf 0 (agl (amL Y) || ahE))/\∃M', lj C.fa C.nt C.yd gc gs gt gb gf gu gw [ο 0, η i] M=.ok .bb M'/\cW C Y none o M' (xf Y.rs B r)/\ahG)))):=by
  unfold lj
  rw[ahN ho (aqS i)]
  · rw[ho] at hc
    obtain⟨r, rfl, hr⟩:=fQ ho
    rw[afQ (c6 ⟨r, rfl, hr, ?_⟩) (cV (P:=λ q=>(ar2/\q=ai2) ∨
       (akF/\((ae8 (alf 0 (agl (amL Y) || ahE))/\∃M', q=.ok .bb M'/\cW C Y none (dt o M.length (.fall r)) M' (Lx Y.rs B r (aAp arh (amL Y)))/\gP o M (dt o M.length (.fall r)) M')
          \/ ai6 (alf 0 (agl (amL Y) || ahE))/\∃M', q=.ok .bb M'/\cW C Y none o M' (xf Y.rs B r)/\ahG))) ?_)]
    simp only[zC, zD, zE, zF, Nat.zero_add, Nat.reduceAdd, Nat.reduceSub, List.replicate, zG, zH, zI];rw[ave (anA .bb M (f6 hc)) (aeV (η Es) M (f6 (hs M B r h hr)))];rw[adk]
    rw[ZI sW (Yz r hr) e1 (aiC [f9, aax, ax4, none] tZ)]
    rw[avh aff (xU (axx "greens") c9 [f9, aax, ax4, none] M=.ok (ail aFR) M) (by
      unfold xU;rw[e1, ag, eD h.y3];dsimp only;simp only[aA, zB, zA, ag];rw[eD h.y3];rw[ako kQ eZ];cases aFR<;>rfl) ZG (anK aFR↔akF) (by
      rw[ae2 S.greens ⟨λ a=>a.1, λ a=>aFm a⟩]) (atH arV)]
    · rw[bI, aD, aff]
      simp only[aA, zB, zA, ag];cases e:aFR with
      | none =>
        have:ar2:=λ h=>by rw[ZG.mpr h] at e; cases e
        rw[avr none .bb, azZ]
        simp[this]
      | some r' =>
        rw[avr aBG (η r'), fu]
        by_cases e2:r'=r
        · subst e2
          have:=ZG.mp e;simp[this]
        · have:ar2:=λ h=>by rw[ZG.mpr h] at e; cases e; exact e2 rfl
          have e3:¬(acy r'=r):=b6
          simp[this, e3]
    · rw[ajG hk ar2 ajD e3 (We (M:=M) (ρ:=[f9, axL r, ax4, none]) hi rfl)];unfold cn;rw[e3, Res.eV];exact dr (cT (b5 (aFm hk)))
    · rw[aA5 hk akF ajD hg (ZG.mpr hk) (atL (Ed (k:=aj0 Es) (y:=η Es) (η r) e1 h.y3 Ξ rfl (by rw[eZ, hg]; rfl) ac4))];rw[qT];have h1:=h.put3 aoz
      rw[d6 f1 (apf (adw 3 .bB (afh eI aoz))) (ak2 (by rw[apM 3])) l1 (aEW (adw 3 .bB (afh eI aoz))) List.length_set];generalize adw 3 .bB (afh eI aoz)=M1 at h1 f1 l1;rw[ag1 (fz (amL Y)) M1 (f6 (ht M1 _ Es h1 rfl sW))];generalize hnr:amL Y=nr;rw[adk];rw[axr e2 (h1.fld (ρ:=[f9, aax, ax4, f7 (fz nr)]) (d:=b8) rfl Yw) e4 (h1.fld (ρ:=[f9, aax, ax4, f7 (fz nr)]) (d:=b8) rfl Fe) Ts (hb M1 _ Es h1 sW) (eO (alf 0 (nr.isSome || ahE)) M1 ?_ (g8 jB) (g8 jB))]
      · cases nr with
        | none =>
          simp only[fz] at e2 ⊢;simp[e2, jG, Ts];by_cases hwt:0<Y.wait<;>simp[hwt]
        | some x =>
          simp only[fz] at e2 ⊢;simp[e2, jG, Ts];by_cases hwt:0<Y.wait<;>simp[hwt]
      · rw[d6 hrf (r∉akk) (by rw[abd S.qR (I.Nb r hk)]) IJ aOt (by
          rw[aev h1 (i9 (n:=Y.rs.length) (l:=akk) (by rw[aFA]) (ame (I.own x (c6 (by rw[Ω S.qR hx]))).1)) zK h1];omega)]
        rw[aeC h2 (h1.fall (u:=⟨arh, nr, M1.length⟩) hrf rfl) e5 (u0 C.fa gf [(aly (axx "ticks") (axx "wait")), aah] [f9, aax, ax4, f7 (fz nr)] M1=.ok (ο M1.length) (M1++aHL)) (by
          unfold u0;simp only[ax, aM, aD, e2, e4, ag, aA, zB, zA];rw[show dX false (η _) (η _) M1=.ok (η arh) M1 from rfl]
          simp only[ag];rw[hf, ag])]
        rw[aip hp (h1.push (abT C.fa [("until", η arh), ("near", fz nr)]) (.fall r)) e6 (hp.fld (ρ:=[f9, aax, ax4, f7 (fz nr)]) (d:=b8) rfl uM) (fq (ο M1.length) _ (ο 4) (M1++aHL) (η r) (M1++aHL) _ e5 e6 Ξ (awZ hp.y4 r (by rw[Ω pA (Nat.lt_of_le_of_lt IJ d7)])) (fJ (c6 ⟨hk, b5 (aJ1 jB _ ?_ ?_)⟩)))]
        · rw[l1] at h2 ⊢
          have:nW alY awu aes=afh eF (axE r (aAp arh nr)):=pz eF r (aAp arh nr) B.falls;show cW C Y none _ (List.set _ 4 (.bB (nW alY awu aes))) _
          rw[Ω this h2]
        · rw[akv f2 (gP o M1 (aJb o (.fall r)) (M1++aHL)) gP.push l1 f2];rw[ae2 l1 (aEm f2 (ak2 (by rw[md (by rw[ae9 (df h.y5)]), auL 4]; nofun)))]
      · have YC:∀p∈ae4 (aaC).map, aEP p:=ahT (by
          rw[aev h1 (asT (b5 hk)) (S.locks p (R.lt r hr p hp)) h1];cases h1':alF p with
          | none=>rw[h1'] at h1; cases h1
          | some _=>rfl)
        obtain⟨M2, u1, u2, u3, u4, _⟩:=hu M1 _ aaC h1 (R.nd r hr) YC;refine api .bb M2 (fJ (c6 ⟨hk, c6 (aJ1 jB M2 u2 (f1.trans u3))⟩));simp[hw M1 _ r h1 hr, u1]
  · rw[akv ho at0 (aam ho) ho hc]
    rw[afQ (b5 ⟨ho, ?_⟩) (cV (P:=λ q=>q=ai2) ?_)]
    exact aH (mM C.nt M (f6 hc) (dr (cT rfl)))
universe zE
universe Sb
universe zE
end
mutual
section
namespace Sb
open PySem L2
section
variable {C:Cs} {Y:fE} {o:adu} {M:aY} {B:Bx} {ρ:eu}
def Ef aPj:∀aR3,r∉rs->aJ (rs.foldl cP W).falls r=arX
 | [],W,_=>rfl
 | x::rs,W,h=>by
  rw[List.foldl_cons,Ef rs _ (avF (f6 e))]
  unfold cP;split
  ·rw[jz,aB1 (f6 e)]
  ·rfl
def BY{bz:afT}aPj:∀(rs:ae6)aPU,r∉rs->aJ (rs.foldl (il bz) B).falls r=aJ B.falls r
 | [],B,_=>rfl
 | x::rs,B,h=>by
  rw[List.foldl_cons,BY rs _ (avF (f6 e))]
  unfold il;split
  ·rw[jz,aB1 (f6 e)]
  ·rfl
def yw:∀aR3,(rs.foldl cP W).now=W.now
 | [],W=>rfl
 | x::rs,W=>by rw[List.foldl_cons,yw rs,Eb]
def Fs aPp{xs pre post:af1}{x:α}(h:xs.Nodup)(e:xs=aDF x):x∉pre:=asl (by
 rw[ap4 e List.nodup_append h (h.2.2 x hm x Ξ rfl)])
def UA{u:FB}:amU (JI u) (Str.ofString "until")=afY u.u:=aao
def UB{t t':Int}:qJ "ticks" (η t') (tj Y t)=tj Y t':=aao
def xB{gu gw:D1}{W:Wd}{jA:avA}{oF:aj6}aPT aRe(I:awx)(S:ayM)(D:aws)(LJ:aIL)
  (hu:∀M B w,afk->atj->ay0->∃M',gu [ο 0,an1] M=.ok .bb M'/\cW C Y none o M' (akm B (ank w))/\ahG/\alK/\∀i,i≠1->M'[i]? = M[i]?)
  (hw:∀M B aPk,afk->adg->gw [ο 0,η r] M=.ok ah3 M) :
  ∃M',wJ C.fa C.yd gu gw [ο 0] M=.ok .bb M'/\cW C Y none o M' (Hn Y.rs B)/\ahG:=by
 rw[ac2 wJ (∃M',q=.ok .bb M'/\cW C Y none o M' (Hn Y.rs B)/\ahG)];simp only[zC,zD,zE,zF,Nat.zero_add,Nat.reduceAdd,Nat.reduceSub,List.replicate,zG,zH,zI];rw[aaA e1 (aiC azW Fe) (aH ?_)]
 have ep:gS C.yd "ticks" b8 (ax8 (axx "ticks")) azW M=.nx azW (M.set 0 (abT C.yd (tj Y (B.ticks+1)))):=by
  unfold gS;rw[aD,e1,ag,bA,ag,show dX false (η B.ticks) (η 1) M=.ok (η (B.ticks+1)) M from rfl,Res.eV,show ae 0 azW M=.ok (ο 0) M from rfl,Res.eV,mT h.y0]
  dsimp only;rw[agW (by rw[aiG 10]),UB]
 rw[ep]
 refine ac4;rw[aeC h1 (h.afc (B.ticks+1)) f1 (apf (M.set 0 (abT C.yd (tj Y (B.ticks+1))))) (ak2 (by rw[apM 0]))]
 rw[axB (M.set 0 (abT C.yd (tj Y (B.ticks+1)))) h1 f1]
 rw[d6 xA (agM akk) (by rw[aFA]) qj (∀r∈akk,adg) (amg (aiO (c6 (by rw[Ω S.qR hr]))).1)]
 have hlen:aOt:=by
  rw[aev h1 (i9 xA qj) zK h1];omega
 rw[apL e2 (h1.fld (ρ:=azW) (d:=b8) rfl uM) ei (av (jO false) [aEF] azW M1=.ok (ς ((akk).map azM)) M1) (by
  rw[aZ,ax,e2]
  rw[alM aM]
  rw[ani jO (eD h1.y4)]
  have e3:(alY).map azN=(akk).map azM:=by
   rw[aga encD List.map_map List.map_map];rfl
  rw[akT ((arj ticks (B.ticks+1):Bx).falls=B.falls),e3,ahY (by rw[axO hlen])]) (fS azM (λ pre ρ M2=>∃y,ρ=[f9,y]/\cW C Y none o M2 (pre.foldl (il Y.rs) (xh B))/\apf M2) akk none M1 (ej ei) trivial (ahh none h1 f1) ?_ ?_)]
 ·rintro pre r post hx ρ M2 ⟨y,rfl,h2,f2⟩;rw[ao8];have hr:adg:=qj r (by rw[ajc]);rw[akq Wg (Fs xA hx) I2 (yo R pre _ (AD I)) S2 (yp R pre _ _ (AD I) (Ly S))];rw[d6 Ft (aJ (pre.foldl (il Y.rs) (xh B)).falls r=aJ B.falls r) (BY pre _ Wg) YD (r∈akk) (by rw[ajc])]
  rw[auz u Ox ((mem_keys _ _).mp YD)]
  rw[ajG huW (arX=f7 (Fa Y.rs oF r u)) (by rw[S.falls,oH,Ox]; rfl) afg (D _ (iK huW))]
  rw[d6 QW ((pre.foldl (il Y.rs) (xh B)).ticks=anS) (by rw[S2.ticks,yw]; rfl) hq ((r,u)∈(pre.foldl (il Y.rs) (xh B)).falls) (iK (ag3 Ft Ox))];rw[akq hf (h2.yf _ hq).2 e3 (h2.fld (ρ:=[f9,aax]) (d:=b8) rfl uM) e4 (h2.fld (ρ:=[f9,aax]) (d:=b8) rfl Fe)]
  rw[ajS e5 (amP aEF b9 [f9,aax] M2=.ok (ο u.ob) M2) (by
   rw[aD,e3,ag];simp only[aA,zB,zA,ag];exact axY h2.y4 k awu (by rw[eZ,Ft,Ox]; rfl)) e6 (bY C.fa "until" (ami aEF) [f9,aax] M2) (.ok (η u.u) M2) (by
   unfold bY at e5 ⊢;rw[aj2 e5 ag (mT hf)];rw[acR UA])]
  rw[ai3 xm (il Y.rs (pre.foldl (il Y.rs) (xh B)) r=(agw r).foldl (il Y.rs) (xh B)) (by rw[List.foldl_append];rfl) Nr (Nc (pre.foldl (il Y.rs) (xh B)).falls (pre.foldl (il Y.rs) (xh B)).ticks r=afJ u.u anS) (by
   unfold Nc
   rw[aj2 Ft Ox QW];refine aLz awt awt
   ·have:W.now<u.u:=afg;omega
   ·omega) (eO (afJ u.u anS) M2 ?_ (g8 hk) (g8 hk))]
  ·rw[bI,aD,e6,ag,e4,ag,QW,fu];rfl
  ·rw[ahU YC (afz (ae4 (aaC).map) (c8 (aJ (pre.foldl (il Y.rs) (xh B)).locks p).isSome)) (ahT (by
    have hm2:aur r (pre.foldl cP (xg W)).falls.map:=by rw[S2.qR,mem_keys,Ft,Ox]; rfl
    rw[aev h1 (I2.lock (c6 hm2) hp) (S2.locks p (R.lt r hr p hp)) h1];cases h1':aJ (pre.foldl (il Y.rs) (xh B)).locks p with
    | none=>rw[h1'] at h1; cases h1
    | some _=>rfl)) (Ed (k:=awu) (y:=η r) (ο u.ob) e3 h2.y4 Ξ rfl (by rw[eZ,Ft,Ox]; rfl) ac4)];rw[qT];rw[aeC h3 (h2.Wc r) f3 (apf (M2.set 4 (.bB (afh eF (cF (pre.foldl (il Y.rs) (xh B)).falls r))))) (f2.trans (ak2 (by rw[apM 4])))];generalize M2.set 4 (.bB (afh eF (cF (pre.foldl (il Y.rs) (xh B)).falls r)))=M3 at h3 f3;obtain⟨M4,u1,u2,u3,u4,_⟩:=hu M3 _ aaC h3 (R.nd r hr) YC;refine cy .bb M4 (afr (hw M3 _ r h3 hr) u1) (afR (ahh _ ?_ (f3.trans u3)))
   rw[← xm];rw[ahc il (agW (by rw[aqj (c8 (Nc _ _ _)) aM8])) u2]
  ·rw[amj (afR (ahh _ ?_ f2))];rw[← xm];rw[ahc il (aq3 hc (by rw[aev h9 (Nr.symm.trans hc) hk h9]; cases h9)) h2]
 ·rintro ρ' M2 ⟨y,rfl,h2,f2⟩;exact fJ (ahh M2 h2 f2)
@[simp] def UC{neg b:Bool}:dW neg (jL b) af9 M=.ok (.bl (aja b b)) M:=by cases b<;>cases neg<;>with_unfolding_all rfl
def ur aPu{gc gn:D1}{ti:aj6}aPT(Yt:aMa)
    (hc:gc [ο 0, η i] M=if ak5 i then .ok .bb M else L6 C.nt M)
    aVp :
    (acS (ak5 i)/\oA C.yd gc gn [ο 0, η i] M=ai2)\/azV p (i=p) (aln/\ao5 ∧
      ((ae8 (ap6 p p)/\oA C.yd gc gn [ο 0, η i] M=L6 C.he M) ∨
       (ai6 (ap6 p p)/\∃M', oA C.yd gc gn [ο 0, η i] M=.ok .bb M'/\cW C Y none o M' (BP B p)/\ahG))):=by
  unfold oA
  rw[ahN ho (ak5 i)]
  · rw[ho] at hc
    have KI:=aNy;obtain⟨p, rfl, hp⟩:=fQ KI.1
    rw[afQ (c6 ⟨p, rfl, hp, aam KI.2, ?_⟩) (cV (P:=λ q=>(ae8 (ap6 p p)/\q=L6 C.he M)\/(ai6 (ap6 p p)/\∃M', q=.ok .bb M'/\cW C Y none o M' (BP B p)/\ahG)) ?_)]
    simp only[zC, zD, zE, zF, Nat.zero_add, Nat.reduceAdd, Nat.reduceSub, List.replicate, zG, zH, zI];rw[amJ (aH (anA .bb M (f6 hc))) e (hn p hp)];rw[ahN hh (ap6 p p)]
    · rw[t7 (if_pos hh) e (aH (mM C.he M (f6 e) (dr (cT (b5 (aFm hh))))))]
    · rw[if_neg hh] at e
      rw[aiQ (aH (anA .bb M (f6 e))) GG (aEn p) (by rw[Ω Yt hp])]
      rw[apL e1 (aiC [f9, aia] Ff) e2 (anN (axx "lying") b9 [f9, aia]=.ok (jL (asz p)) M) (by
        rw[aD, e1, ag];simp only[aA, zB, zA, ag];exact uJ h.y2 (by rw[zJ, List.getD_eq_getElem?_getD, List.getElem?_eq_getElem GG]; rfl)) (fq (jL (!(asz p))) M (ο 2) M (η p) M (akL 2 ((aMJ (!(asz p))).map jL)) ?_ e1 Ξ (by rw[nC h.y2 (aam GG), List.map_set]) (fJ (c6 (aJ1 aGO _ (h.put2 _) (ak2 (by rw[apM 2]))))))];rw[By, bI, aD, e2, ag, bA, ag, UC, ag, ag];cases asz p<;>rfl
  · rw[akv ho (acS (ak5 i)) (aam ho) ho hc]
    rw[afQ (b5 ⟨ho, ?_⟩) (cV (P:=λ q=>q=ai2) ?_)]
    exact aH (mM C.nt M (f6 hc) (dr (cT rfl)))
universe zE
universe Sb
universe zE
section
namespace Sb
open PySem L2
section
variable {C:Cs} {Y:fE} {e:adq} {o:adu} {M:aY} {B:Bx} {ρ:eu} {t:TB}
abbrev qV aPx aSi aP6:aeQ:=match aCP with
 | akw=>akw
 | none=>ae4 (B.falls.find? (aoF q (asf=s) (aCB q.2.nr))).map
def QX{u:FB}:amU (JI u) (Str.ofString "near")=f7 (fz u.nr):=aao
def abt{i j:Int}aT4 aQB(hj:Sm j):dJ [none,ara,none,atg] [y,akd,amW,z,w] M=.ok () M:=by
 rw[ZI h (kT hi.1 hi.2) h2 (kT hj.1 hj.2)];simp only[dJ,aA,zB,zA,ag,h,h2,if_true]
def Fu aPr{gb gs:D1}aQC:iJ C.fa C.rd C.yd gb gs [ο 0,η x,.bb] M=L6 C.rd M:=by
 rw[ac2 iJ (q=L6 C.rd M)];simp only[zC,zD,zE,zF,Nat.zero_add,Nat.reduceAdd,Nat.reduceSub,List.replicate,zG,zH,zI];rw[amJ (aH (G5 M Ξ ?_)) e3 (We (M:=M) (ρ:=[f9,x9,some .bb,none,none]) hx rfl)];rw[apH cn e3];exact dr (cT rfl)
def kt aPr aRW{gb gs:D1}aPA aQC(hsm:Sm s)(qj:∀r∈akk,adg)
  aW6
  (hb:∀M',aDC->gb [ο 0,η s] M'=.ok (.bl ajl) M') :
  iJ C.fa C.rd C.yd gb gs [ο 0,η x,η s] M=match qV Y B x s with
  | akw=>.ok (η r) M
  | none=>L6 C.rd M:=by
 rw[ac2 iJ (q=match qV Y B x s with | akw=>.ok (η r) M | none=>L6 C.rd M)]
 simp only[zC,zD,zE,zF,Nat.zero_add,Nat.reduceAdd,Nat.reduceSub,List.replicate,zG,zH,zI];refine aH (pO M Ξ aGk);rw[aaA e1 (aiC [f9,x9,aeD,none,none] tZ) (eO (agl (aJ B.greens s)) M ?_ (g8 hk) (g8 hk))]
 ·rw[aCs];rw[ag,e1,ag,tY h.y3 (k:=aj0 s) rfl,eZ];simp
 ·rw[auz r hr hk]
  rw[acH hp (anK (qV Y B x s)) (by rw[acP qV hr]) (bx (η r) M ?_ (cY (aV (agB hp))))];rw[aD,e1,ag,aA];rw[aiv]
  rw[Ω ag (axY h.y3 k (aj0 s) (by rw[eZ,hr]; rfl))]
 ·rw[ai3 hg (aaz aCP) ajD hp (qV Y B x s=ae4 (B.falls.find? (aoF q (asf=s) (aCB q.2.nr))).map) (by rw[acP qV hg]) aGk];rw[aev hi (BW h.y4 (aiC [f9,x9,aeD,none,none] uM)) Uy hi];rw[anl (yr h.y4 hi ?_) hz (af2 (adw 4 .jd alY) 4 .jd alY) (get_set h.y4) hz0 ((adw 4 .jd alY)[0]? = axy (tj Y B.ticks)) avi];rw[ajS hzf (∀q∈B.falls,(adw 4 .jd alY)[q.2.ob]? = aFb (JI q.2)) (λ q hm=>ale (by rw[ari (h.yf q hm).1]) (h.yf q hm).2) hbk ((adw 4 .jd alY).set 4 (.bB alY)) M (nD h.y4)];generalize adw 4 .jd alY=M1 at hi hz hz0 hzf hbk;refine fS eFi (ak6 (∃y z,ρ=[f9,x9,aeD,y,z]/\M'=M1/\aIM (aoF q (asf=s) (aCB q.2.nr)))) B.falls _ _ hi hz (abS none none rfl rfl) ?_ ?_
  ·rintro pre q post hq ρ M' ⟨y,z,rfl,rfl,la⟩;refine ad5 _ ?_
   rw[d6 hm (q∈B.falls) (by rw[agb hq]) hr (q.1<Y.rs.length) (qj _ (ahg q hm))];rw[axr F2 (hzf q hm) e2 (hs _ q.1 hz0 hr) e3 (hb _ hz0) (eO (apD (asf=s) (aCB q.2.nr)) M' ?_ (g8 hk) (g8 hk))]
   ·rw[ajS e4 (ba (acW (av gs [b8,aah]) c9) [f9,x9,aeD,al6,ahq q.2.ob] M'=.ok (afJ asf s) M') (by
     rw[bI,aD,aZ];simp only[ax,aM,aA,zB,zA,ag,e2,fu];by_cases e7:asf=s
     ·simp[e7]
     ·have e8:¬(acy asf=atY):=adm (e7 aII);simp[e7,e8]) e5 (ba (acW (bY C.fa "near" ZJ) b9) [f9,x9,aeD,al6,ahq q.2.ob] M') (.ok (afJ q.2.nr aeU) M') (by
     have e6:bY C.fa "near" ZJ [f9,x9,aeD,al6,ahq q.2.ob] M'=.ok (fz q.2.nr) M':=by
      rw[acP bY aA];rw[aiv];rw[asB ag (mT F2)];rw[acR QX]
     rw[bI,aD,e6,ag,aA];rw[aiv]
     rw[ag];cases q.2.nr with
     | none=>rw[show fz none=.bb from rfl,azZ]; rfl
     | some y=>rw[show fz aoG=η y from rfl,fu]; by_cases e7:y=x<;>simp[e7])]
    show mD _ _ [f9,x9,aeD,al6,ahq q.2.ob] M'=_;simp only[m3,vF,e4,e5,ag];by_cases h1:asf=s
    ·rw[ap7 (q.2.nr=aeU)]
     ·simp[h1,h2]
     ·simp[h1,h2,e3,jG]
    ·simp[h1]
   ·refine bx (η q.1) M' rfl (AA ⟨hz,cY (aV ?_)⟩);rw[hbk,hp,hq,List.find?_append,la,List.find?_cons,hk];rfl
   ·refine dq (bC hz (abS _ _ rfl ?_));rw[List.find?_append,la,List.find?_cons,hk];rfl
  ·rintro ρ' M' ⟨y,z,rfl,rfl,la⟩;rw[aej hz ac4];have e3:=abt (M:=M) (y:=f9) (z:=y) (w:=z) hx hsm;rw[hbk];rw[apH cn e3];refine cT ?_;rw[hp,la];rfl
universe zE
universe Sb
universe zE
section
namespace Sb
open PySem L2
section
variable {C:Cs} {Y:fE} {e:adq} {o:adu} {M:aY} {B:Bx} {ρ:eu} {t:TB}
def YE aPa aPw aPi(h:auc n (x::xs)):Bj (ο n) [η 0] M=.ok x (anj n xs):=by
 rw[ams Bj];rw[ani C1 h]
 have e:b7 (IG (awU x xs) 0) 0:=by unfold IG; simp
 rw[agV e];rw[agV zA];rw[aj9 d7];rfl
def UD aPa aPw aPi(h:az0)(hl:xs.length<lim):wI (ο n) [η 0,x] M=.ok .bb (akL n (x::xs)):=by
 unfold wI C1;rw[ako h aKM]
def Fv{f:DM}aPo aQJ aUi aPa aTC(hn:M[n]? = anb ys)(ha:al9=.ok xs M):ji f d ds ρ M=f (ο n) xs M:=by
 rw[aga ji hd ag]
 have:b7 (akI (ο n)) ys:=by unfold jg;simp only[hn]
 rw[agV this];rw[ha,ag]
def oq aPr aQ0{a:z0}{gu:D1}(h:aqD)(T:awJ)(ha:aEN (s::a))(hl:aDs)(sW:ars)
  (hu:∀M B,aqD->aDs->∃M',gu [ο 0,bG [s]] M=.ok .bb M'/\cW C Y aeU o M' (akm B (ank [s]))/\ahG/\alK/\∀i,i≠1->M'[i]? = M[i]?) :
  ∃M',pV C.tr gu [ο 0,aij] M=.ok .bb M'/\cW C Y aeU o M' (akm B (asP s.1))/\akJ o M' ⟨⟨s::t.tr.steps,a,t.tr.out⟩,t.ob,t.so,t.ao⟩/\ahG/\alK:=by
 rw[ac2 pV (∃M',q=.ok .bb M'/\cW C Y aeU o M' (akm B (asP s.1))/\akJ o M' ⟨⟨s::t.tr.steps,a,t.tr.out⟩,t.ob,t.so,t.ao⟩/\ahG/\alK)];simp only[zC,zD,zE,zF,Nat.zero_add,Nat.reduceAdd,Nat.reduceSub,List.replicate,zG,zH,zI];rw[ZI e1 (yu (ρ:=[f9,agX,none]) (d:=b9) T.mt rfl Fj) hma T.ma];rw[ha,zC] at hma;rw[ag1 amn (anj t.ao apR) ?_]
 ·rw[Ω (Fv e1 hma (xs:=[η 0]) rfl) (YE hma)]
 rw[adk];have h1:=h.own (v:=ς apR) (c6 (c6 T.oa));rw[d6 k1 ((anj t.ao apR)[t.ob]? = ac1 abT C.tr (lH t)) (amQ T.oa T.ot T.mt) k2 ((anj t.ao apR)[t.so]? = ag4 ass) (amQ T.oa T.os T.ms)];rw[d6 k3 ((anj t.ao apR)[t.ao]? = ag4 apR) (get_set T.ma) f1 (apf (anj t.ao apR)) (ak2 (by rw[ak7 T.oa]))];have l1:aEW (anj t.ao apR):=List.length_set;generalize anj t.ao apR=M1 at h1 k1 k2 k3 f1 l1;obtain⟨M2,u1,u2,u3,u4,u5⟩:=hu M1 B h1 hl;refine aH (anA .bb M2 ?_)
 ·have e2:cE false [c9] [f9,agX,ajH] M1=.ok (bG [s]) M1:=by
   unfold cE;simp only[ax,aM,aA,zB,zA,ag];rfl
  rw[aZ];simp only[ax,aM,aA,zB,zA,ag,e2]
  exact u1
 rw[d6 j1 (M2[t.ob]? = ac1 abT C.tr (lH t)) (x6 (u5 _ (by rw[ari T.ot])) k1) j2 (M2[t.so]? = ag4 ass) (x6 (u5 _ (by rw[ari T.os])) k2)];rw[aA5 j3 (M2[t.ao]? = ag4 apR) (x6 (u5 _ (by rw[ari T.oa])) k3) e3 (yu (ρ:=[f9,agX,ajH]) (d:=b9) j1 rfl su) (api .bb (M2.set t.so (ς (amn::ass))) (fJ ⟨_,rfl,?_,arK ?_ ?_ ?_,aEm u3 (ak2 (by rw[ak7 T.os])),by rw[List.length_set,u4,l1]⟩))]
 ·rw[Ω (Fv e3 j2 (xs:=[η 0,amn]) rfl) (UD j2 (by rw[Ω zK (Nat.lt_of_le_of_lt sW d7)]))]
 ·exact u2.own (c6 (b5 T.os))
 ·exact amQ T.os T.ot j1
 ·exact get_set j2
 ·exact amQ T.os T.oa j3
def Nt{κ α:Type} [an8] aTa(h:aaz awy):cF d k=d:=by
 rw[aqR cF (List.filter_eq_self.mpr (ai1 (decide_eq_true (g8 e))))];have:k∈ajX:=az3 q hq e;rw[mem_keys,h] at this;cases this
def BZ aPp{lQ dk dx:DE}aPa{en:avS}{d:awc}aPg{z:PV}aWE(hn:af2 M n .bB (aq1 en))(hk:dk ρ M=.ok (η k) M)(hx:dx ρ M=.ok z M) :
  ∃v,xV lQ dk dx ρ M=.ok v (adw n .bB (afh en (cF d k))):=by
 unfold xV;rw[aj2 ho ag (eD hn)];rw[hk,ag,hx,ag,eD hn];rw[ako kQ eZ];cases e:awy with
 | none =>
  rw[aej z ?_];rw[Nt e,BV hn];rfl
 | some v=>rw[afi (by rw[acR qT])]
abbrev Hz aPQ(gc:D1):Prop:=∀aPv aQR aPU aQx aPV(a:z0),aqD->awJ->aEN (s::a)->aDs->ars →
 ∃M',gc [ο 0,aij] M=.ok .bb M'/\cW C Y aeU o M' (akm B (asP s.1))/\akJ o M' ⟨⟨s::t.tr.steps,a,t.tr.out⟩,t.ob,t.so,t.ao⟩/\ahG/\alK
def LK aPa:qJ "ahead" (ο n) (lH t)=lH ⟨t.tr,t.ob,t.so,n⟩:=aao
def jt aPr aPj aQ0 aQc{gs gw gc:D1}(h:aqD)(T:awJ)aRs(ew:aaC=s::w)(Gs:aya)(hl:aDs)(sW:ars)
  aW6
  (hw:∀M' aPk,aDC->adg->gw [ο 0,η r] M'=.ok ah3 M')aVa :
  ∃M',k6 C.tr C.yd gs gw gc [ο 0,aij,η r] M=.ok .bb M'/\cW C Y aeU (dt o M.length (ag0 x)) M' { B with greens:=aoz,falls:=anM,locks:=asP s.1 } ∧
   akJ (dt o M.length (ag0 x)) M' ⟨⟨s::t.tr.steps,w,t.tr.out⟩,t.ob,t.so,M.length⟩/\gP o M (dt o M.length (ag0 x)) M':=by
 rw[ac2 k6 (∃M',q=.ok .bb M'/\cW C Y aeU (dt o M.length (ag0 x)) M' { B with greens:=aoz,falls:=anM,locks:=asP s.1 } ∧
   akJ (dt o M.length (ag0 x)) M' ⟨⟨s::t.tr.steps,w,t.tr.out⟩,t.ob,t.so,M.length⟩/\gP o M (dt o M.length (ag0 x)) M')]
 simp only[zC,zD,zE,zF,Nat.zero_add,Nat.reduceAdd,Nat.reduceSub,List.replicate,zG,zH,zI];have e1:=aiC [f9,agX,aax] tZ;obtain⟨v1,p1⟩:=BZ (dx:=dC .bb) (z:=.bb) e1 h.y3 (k:=Es) (dk:=av gs [b8,c9]) (f6 (hs M r h.y0 hr)) rfl
 rw[ZI h1 (h.put3 aoz) T1 (T.set (i:=3) (v:=.bB (afh eI aoz)) (auL 3) nofun nofun nofun)];rw[avh f1 (apf (adw 3 .bB (afh eI aoz))) (ak2 (by rw[apM 3])) l1 (aEW (adw 3 .bB (afh eI aoz))) List.length_set (anA v1 _ p1)];generalize adw 3 .bB (afh eI aoz)=M1 at h1 T1 f1 l1;have e2:=h1.fld (ρ:=[f9,agX,aax]) (d:=b8) rfl uM;obtain⟨v2,p2⟩:=BZ (dx:=dC .bb) (z:=.bb) e2 h1.y4 (k:=r) (dk:=c9) rfl rfl
 rw[ZI h2 (h1.Wc r) T2 (T1.set (i:=4) (v:=.bB (afh eF anM)) (auL 4) nofun nofun nofun)];rw[avh f2 (apf (M1.set 4 (.bB (afh eF anM)))) (aEX (by rw[apM 4])) l2 (aEW (M1.set 4 (.bB (afh eF anM)))) (ag3 List.length_set l1) (anA v2 _ p2)];generalize M1.set 4 (.bB (afh eF anM))=M2 at h2 T2 f2 l2;rw[ZI h3 (h2.push (ς ((aaC).map aI)) (ag0 x)) T3 (T2.push (ς ((aaC).map aI)) (ag0 x))];rw[d6 f3 (gP o M2 (dt o M2.length (ag0 x)) (M2++avR (aaC).map)) gP.push k3 ((M2++avR (aaC).map)[M2.length]? = ag4 ((aaC).map aI)) Ξ]
 have e3:av (lE true) [av gw [b8,c9]] [f9,agX,aax] M2=.ok (ο M2.length) (M2++avR (aaC).map):=by
  rw[aZ,ax,aZ];simp only[ax,aM,aA,zB,zA,ag,hw M2 r h2.y0 hr];rw[ani lE qD];exact jZ (by rw[aqg Gs])
 rw[← l2];rw[amJ (aH (yi (ο M2.length) _ t.ob (lH t) (lH ⟨t.tr,t.ob,t.so,M2.length⟩) e3 rfl T3.mt (by rw[aiG 3]) LK ac4)) h4 (h3.own (v:=anI (lH ⟨t.tr,t.ob,t.so,M2.length⟩)) (b5 T3.ot))]
 have T4:akJ (dt o M2.length (ag0 x)) ((M2++avR (aaC).map).set t.ob (anI (lH ⟨t.tr,t.ob,t.so,M2.length⟩))) (aIR aaC M2.length) :=
  ⟨T3.ot,T3.os,ip,get_set T3.mt,amQ T3.ot T3.os T3.ms,amQ T3.ot ip k3⟩
 have f4:atD (dt o M2.length (ag0 x)) ((M2++avR (aaC).map).set t.ob (anI (lH ⟨t.tr,t.ob,t.so,M2.length⟩))):=x6 (f2.trans f3) (ak2 (by rw[ak7 T3.ot]));obtain⟨M5,c1,c2,c3,c4,c5⟩:=hc x _ _ _ (aIR aaC M2.length) s w h4 T4 ew hl sW;exact cy .bb M5 (f6 c1) (fJ ⟨M5,rfl,c2,c3,f4.trans c4⟩)
universe zE
universe Sb
universe zE
end
mutual
section
namespace Sb
open PySem L2
section
variable {C:Cs} {Y:fE} {e:adq} {o:adu} {M:aY} {B:Bx} {ρ:eu} {t:TB} {W:Wd} {jA:avA} {oF:aj6}
def Eg aUS(S:ayM)(hp:anK (qV Y B x s)):ahV/\Es=s:=by
 unfold qV at hp;cases hg:aCP with
 | some r' =>
  rw[hg] at hp;cases hp;have:=(aJT r).mp hg;rw[aaX (b5 this.1) this.2]
 | none =>
  rw[hg] at hp;rw[aLk q hq rfl hp];rw[ZI h1 (List.find?_some hq) h2 (List.mem_of_find?_eq_some hq)];simp only[Bool.and_eq_true,decide_eq_true_eq] at h1;rw[aaX (c6 (by rw[Ω S.qR (ahg q h2)])) h1.1]
def Eh(I:awx)aRe(S:ayM){r p:Nat}aRz(hp:p∈aqy):aEP p:=by
 rw[aev h1 (asT h) (S.locks p (R.lt r (aiO h).1 p hp)) h1];cases h2:alF p with
 | none=>rw[h2] at h1; cases h1
 | some _=>rfl
def pw.QY(S:ayM)aPv:acJ=(ajI).map (·.tr):=by
 rw[S.trains,oH]; rfl
def pw.vX(S:ayM)(I:awx):aBO:=by
 have:=I.vX;rwa[S.trains,oG] at this
abbrev t0 aPf:TB:=⟨aj1 [] [],n,n+1,n+2⟩
def kq:lV C.tr [aes] (M++[anI []])=.ok .bb (M++aoP::[ς [],ς []]):=by
 rw[ac2 lV (q=.ok .bb (M++aoP::[ς [],ς []]))];simp only[zC,zD,zE,zF,Nat.zero_add,Nat.reduceAdd,Nat.reduceSub,List.replicate,zG,zH,zI]
 rw[ahU mk (∀(G:aY)(fs:aka),cE true [] [adW] (M++anI fs::G)=.ok (ο (ajY (G.length+1))) (M++anI fs::(G++[ς []]))) (λ G fs=>by
  rw[aiY cE aM ag (jZ d7)];simp) (mL (s2:=fo) (G:=[]) (G':=[ς []]) (ο ahB) [("steps",ο ahB)] rfl (mk [] []) (by rw[aiG 0]) aao ac4)];rw[ans (aH (mL (s2:=fo) (G:=[ς []]) (G':=[ς [],ς []]) (ο (ajY 2)) [("steps",ο ahB),("ahead",ο (ajY 2))] rfl (mk [ς []] _) (by rw[aiG 1]) aao ac4)) (mL (s2:=fo) (G:=[ς [],ς []]) (G':=[ς [],ς []]) (aiU .bl) (lH (t0 M.length)) rfl rfl (by rw[aiG 2]) aao avH)]
abbrev HA(o:adu)aPf aPv:adu:=dt (dt (dt o n (aoE x)) (n+1) (alV x)) (n+2) (ag0 x)
def cW.afl aPT aPv:cW C Y aeU (aJq o x) (M++aoP::[ς [],ς []]) B/\akJ (aJq o x) (M++aoP::[ς [],ς []]) (t0 M.length) ∧
  atD (aJq o x) (M++aoP::[ς [],ς []]):=by
 have e:M++aoP::[ς [],ς []]=((M++[aoP])++[ς []])++[ς []]:=Ξ
 rw[akq h1 (h.push aoP (aoE x)) h2 (h1.push (ς []) (alV x)) h3 (h2.push (ς []) (ag0 x))]
 rw[ajS l1 (aqH M arQ=ahB) Ξ l2 (aqH (M++arQ) arD) (ajY 2) Ξ]
 rw[l1] at h2 h3;rw[l2] at h3;rw[e];rw[adv (h3.but x) ⟨?_,?_,ip,f6 t0,f6 t0,f6 t0⟩ ?_]
 ·rw[aoC (HA o M.length x M.length=_) HA];rw[aCa,aCa,ip]
 ·show HA o M.length x ahB=_;rw[aga HA aCa ip]
 ·rw[d6 f1 (atD (dt o M.length (aoE x)) (M++arQ)) gP.push f2 (gP (dt o M.length (aoE x)) (M++arQ) (dt (dt o M.length (aoE x)) ahB (alV x)) ((M++arQ)++arD)) (by
   rw[avl (gP.push (o:=dt o M.length (aoE x)) (M:=M++arQ) (v:=MO.lst []) (g:=alV x)) l1])]
  have f3:gP (dt (dt o M.length (aoE x)) ahB (alV x)) ((M++arQ)++arD) (aJq o x) (((M++arQ)++arD)++arD):=by
   rw[avl (gP.push (o:=dt (dt o M.length (aoE x)) ahB (alV x)) (M:=(M++arQ)++arD) (v:=MO.lst []) (g:=ag0 x)) l2]
  exact aEm f2 f3
universe zE
universe Sb
universe zE
section
namespace Sb
open PySem L2
inductive Kd where
 | ok
 | none
 | held
 | red
abbrev Oy aPQ aQR aU8(P:aG0):Prop:=match k with
 | .ok=>∃M' o' B',res=.ok .bb M'/\cW C Y none o' M' B'/\gP o M o' M'/\P B'
 | abc=>res=ai2
 | .held=>res=L6 C.he M
 | .red=>res=L6 C.rd M
def B1 aPp{l:af1}{p:awf}{a:α}(ha:a∈l)(hp:c8 (p a))(hu:anV l (c8 (p b)->b=a)):b7 aKi a:=by
 cases e:aKi with
 | none=>rw[afZ hp (aam (List.find?_eq_none.mp e a ha))]
 | some b=>rw[hu b (List.mem_of_find?_eq_some e) (List.find?_some e)]
section
variable {C:Cs} {Y:fE} {e:adq} {o:adu} {M:aY} {B:Bx} {ρ:eu} {t:TB} {W:Wd} {jA:avA}
abbrev vM aPH aPv aP6 aPk:Bool:=apD (Es=s) (match arX with
 | some fl=>fl.bd || ac5 x fl.ns
 | none=>true)
abbrev pC aPH aPv aP6:aeQ:=(aBQ).find? (vM Y W x s)
def LM aPr aRW aRe aUq:pC Y W x s=qV Y B x s:=by
 rw[d6 Yz (∀r,c8 (vM Y W x s r)->Es=s) (ajU r (by
  rw[ak9 vM];simp only[Bool.and_eq_true,decide_eq_true_eq] at h;exact h.1)) abu (∀r∈aBQ,ahV) (ajU r (List.mem_append.mp h))];rw[d6 Ha (∀r∈aBQ,∀r',atB->aQ Y.rs r'=s->c8 (vM Y W x s r)->r=r') (λ r hr r' h' e hm=>I.one R (abu r hr) h' (x6 (Yz r hm) e.symm)) IJ (∀q∈B.falls,aJ W.falls q.1=f7 (Fa Y.rs (cq Y) q.1 q.2)) (ai1 (by
  have hn:agM akk:=by rw[aFA]
  rw[S.falls,oH,ayP];rfl))]
 unfold qV;cases hg:aCP with
 | some r =>
  rw[aaA h1 ((aJT r).mp hg) (B1 (aLT (b5 h1.1)) ?_ (agT hb hm (Ha b hb r (b5 h1.1) h1.2 hm)))]
  have h2:aaz arX:=by
   cases e2:arX with
   | none=>rfl
   | some _=>rw[akK ((mem_keys _ _).mpr (by rw[acR e2])) (I.Nb r h1.1)]
  rw[acP vM h2];simp[h1.2]
 | none =>
  dsimp only;cases hf:B.falls.find? (aoF q (asf=s) (aCB q.2.nr)) with
  | some q =>
   rw[ZI h1 (List.find?_some hf) h2 (List.mem_of_find?_eq_some hf)]
   simp only[Bool.and_eq_true,decide_eq_true_eq] at h1
   rw[acH hm (q.1∈aht) (by rw[Ω S.qR (ahg q h2)]) (B1 (a:=q.1) (aLT (c6 hm)) ?_ (agT hb hm' (Ha b hb q.1 (c6 hm) h1.1 hm')))];rw[acP vM (IJ q h2)];simp only[Fa,h1.1,decide_true,Bool.true_and];rcases Bool.or_eq_true_iff.mp h1.2 with h3 | h3
   ·rw[an6 h3 h3];rw[agb h3]
   ·rw[acR h3]
  | none =>
   show _=Option.none;rw[amJ (List.find?_eq_none.mpr (IL r hr hm)) e1 (Yz r hm)];rcases List.mem_append.mp hr with hr | hr
   ·rw[aj3 ((aJT r).mpr ⟨hr,e1⟩) hg];cases this
   ·rw[S.qR] at hr;rw[ahP q hq hr];have h4:=List.find?_eq_none.mp hf q hq;rw[aoh vM hm (IJ q hq) hm];simp only[Fa,e1,decide_true,Bool.true_and,Bool.or_eq_true,decide_eq_true_eq] at hm;simp only[e1,decide_true,Bool.true_and,Bool.or_eq_true,decide_eq_true_eq,not_or] at h4;rcases hm with hm | hm
    ·exact h4.2 hm
    ·cases hnr:q.2.nr with
     | none=>rw[aiq hnr hm hm]
     | some y =>
      rw[aiq hnr hm hm];exact h4.1 (ag3 hnr hm)
abbrev QZ aPQ(gr:D1):Prop:=∀(e:adq)aQR aSi aP6,afI->ahI->al4->(∀r∈akk,adg)->gr [ο 0,η x,η s] M=match qV Y B x s with
 | akw=>.ok (η r) M
 | none=>L6 C.rd M
abbrev HB aPQ(gp:D1):Prop:=∀aPv aQR aPU aQx aPk aPV aPZ,aqD->awJ->adg->aaC=s::w->aya->aDs->ars →
 ∃M',gp [ο 0,aij,η r] M=.ok .bb M'/\cW C Y aeU (dt o M.length (ag0 x)) M' { B with greens:=aoz,falls:=anM,locks:=asP s.1 } ∧
   akJ (dt o M.length (ag0 x)) M' ⟨⟨s::t.tr.steps,w,t.tr.out⟩,t.ob,t.so,M.length⟩/\gP o M (dt o M.length (ag0 x)) M'
def HC aUq:∀r∈akk,adg:=amg (aiO (c6 (by rw[Ω S.qR hr]))).1
def LN aRe aSR aRY:aya:=by
 have:=i9 (R.nd r hr) (R.lt r hr);rw[aoh dZ this zK this];omega
def abv{x j:Int}aT4(hj:Sm j):dJ (ahp atg none) [y,x9,amW,z,w] M=.ok () M:=by
 have h9:=kT hj.1 hj.2;simp only[dJ,aA,zB,zA,ag,h9,if_true]
def abw{x j:Int}aT4 aQC:dJ (ahp ara none) [y,x9,amW,z,w] M=.ok () M:=by
 have h9:=kT hx.1 hx.2;simp only[dJ,aA,zB,zA,ag,h9,if_true]
abbrev mO aPH(x i:Int):Kd:=auW atO (auW (cq Y i.toNat) (asM aFW held (match pC Y W x i.toNat with
 | aqa=>.ok
 | none=>.red)) abc) abc
abbrev pD aPH(x i:Int):Wd:=BQ Y.rs W ((pC Y W x i.toNat).getD 0) x []
def uu{x i:Int}{gk gb gr gi gp:D1}aPT aQC aQB aRe aUq aSR(dz:aHB)
  (hk:gk [ο 0,η i] M=if bT i Y.ss.length then .ok .bb M else L6 C.nt M)(hb:azU s al4 (apn [ο 0,η s]=.ok (.bl ajl) M))(hr:QZ C Y gr)
  (EN:∀M:aY,gi [aes] (M++[anI []])=.ok .bb (M++aoP::[ς [],ς []]))(hp:HB C Y gp) :
  Oy C Y o M (uA C.he C.nt C.tr C.yd gk gb gr gi gp [ο 0,η x,η i] M) (mO Y W x i) λ B'=>pw Y.ps.length Y.rs (bH Y.ps) (cq Y) (pD Y W x i) B':=by
 rw[ac2 uA (Oy C Y o M q (mO Y W x i) λ B'=>pw Y.ps.length Y.rs (bH Y.ps) (cq Y) (pD Y W x i) B')];simp only[zC,zD,zE,zF,Nat.zero_add,Nat.reduceAdd,Nat.reduceSub,List.replicate,zG,zH,zI];unfold mO
 rw[ahN ho atO]
 ·rw[ho] at hk ⊢
  rw[apT s hs ho];rw[aEb afC];rw[ave (cy .bb M (f6 hk) aFl) (eO (! ajl) M (afr (hb s hs) jG) (g8 jB) (g8 jB))]
  ·rw[ajG jB (acS ajl) aCc e3 (abv (M:=M) (x:=x) (y:=f9) (z:=none) (w:=none) hi)];rw[apH cn e3]
   rw[aiy (dr (cT ?_)) jB]
   rfl
  ·have jB:c8 ajl:=aCc
   rw[jB,afC];rw[amj aFl];rw[aaA e1 (aiC [f9,x9,aeD,none,none] qU) (eO (agl ajI) M ?_ (g8 B2) (g8 B2))]
   ·rw[aCs];rw[ag,e1,ag,tY h.y5 (k:=aon) rfl,kh];simp
   ·have e3:=abw (M:=M) (j:=atY) (y:=f9) (z:=none) (w:=none) hx
    rw[apH cn e3]
    refine dr (cT ?_)
    rw[aFj (aql acJ) (by rw[S.QY];simpa using B2)]
   ·rw[d6 Su (aaz ajI) (aam B2) hk5 aFX (by rw[S.QY,Su]; rfl)]
    rw[hk5];rw[agL Ξ];rw[aip Sv (LM (x:=x) (s:=s) R I S) e2 (hr none o M B x s h hx hs (HC I S)) arC];cases Nh:qV Y B x s with
    | none =>
     rw[Nh] at e2 Sv;rw[Sv];refine aH (LF C.rd M (f6 e2) (dr (cT rfl)))
    | some r =>
     rw[Nh] at e2 Sv;rw[Sv];rw[aq4 Ou Yz (Eg S Nh) LJ (aiO Ou).1]
     obtain⟨s0,w,ew⟩:∃s0 w,aaC=s0::w:=by
      cases e9:aaC with
      | nil=>rw[afZ e9 (dz r LJ)]
      | cons a b=>rw[an0 a b]
     rw[aaA Fb (Eh I R S Ou (p:=s0.1) (by rw[acP dZ ew];simp)) (aeV (η r) M (f6 e2))]
     rw[adk];obtain⟨h1,T1,f1⟩:=h.afl x
     rw[acH em (u0 C.tr gi [] [f9,x9,axL s,axL r,none] M=.ok aes (M++aoP::[ς [],ς []])) (by
      unfold u0;rw[aM,ag,EN,ag]) (aeV aes _ em)];rw[adk];generalize M++aoP::[ς [],ς []]=M1 at h1 T1 f1;obtain⟨M2,p1,p2,p3,p4⟩:=hp x _ _ _ (t0 M.length) r s0 w h1 T1 LJ ew (LN R Gu LJ) Fb (by show aiT 0;decide)
     refine aH (anA .bb M2 (by show av gp [b8,ZJ,aah] _ M1=_; rw[anr p1]));rw[akq xA (S.vX I) h5 (p2.afd (x:=x) xA p3) e5 (p2.fld (ρ:=[f9,x9,axL s,axL r,adW]) (d:=b8) rfl qU)]
     rw[acH hlen (B.trains.length≤16) (by
      rw[aj3 I.Uw S.trains];rw[aoh jJ this zK this];omega) (fq aes M2 (ο 5) M2 (η x) M2 _ rfl e5 rfl (ayC p2.y5 aon (by rw[Ω BR (Nat.lt_of_le_of_lt hlen d7)])) (fJ ⟨_,_,Ho Y.rs B r x ⟨aj1 (s0::[]) w,M.length,ahB,M1.length⟩,rfl,?_,aEm p4 (ak2 (by rw[ak7 (p2.lo 5 d7)])),?_⟩))]
     ·have:nW awd aon aes=ee eT (cv B.trains x ⟨aj1 (s0::[]) w,M.length,ahB,M1.length⟩):=Hw eT x ⟨aj1 (s0::[]) w,M.length,ahB,M1.length⟩ B.trains;show cW C Y none _ (M2.set 5 (.bB (nW awd aon aes))) _;rw[this];rw[ahc Ho ew h5]
     ·rw[aiY pD Int.toNat_natCast Sv Option.getD_some];exact Hr R I S Ou (by rw[acR ew])
 ·have ho:acS atO:=aam ho
  rw[akU ho hk (aH (mM C.nt M (f6 hk) (dr (cT rfl))))]
universe zE
universe Sb
universe zE
section
namespace Sb
open PySem L2
section
variable {C:Cs} {Y:fE} {e:adq} {o:adu} {M:aY} {B:Bx} {ρ:eu} {t:TB} {W:Wd} {jA:avA}
noncomputable abbrev lN aPH aPU:Prop:=pw Y.ps.length Y.rs (bH Y.ps) (cq Y) W B
noncomputable abbrev sy aPH:Prop:=Inv Y.ps.length Y.rs aM9 W
abbrev AH aPQ aPd:Prop:=∀aQR aSi,afk->ahI->g [ο 0,η x] M=match ajI with
 | adt=>.ok aij M
 | none=>ai2
def cW.gone aPr(h:aqD)(hx:x∉aNl):afk :=
 ⟨h.y0,h.y1,h.y2,h.y3,h.y4,h.y5,h.lo,h.hi,h.yf,λ q hq _=>h.yt q hq (adm (hx (az3 q hq (aMg).symm)))⟩
def abx:qJ "is_out" af4 (lH t)=lH ⟨aFc,t.ob,t.so,t.ao⟩:=aao
def Wh aPr aT4 aQC:dJ (ahp ara none) [y,x9,z,w] M=.ok () M:=by
 have h9:=kT hx.1 hx.2;simp only[dJ,aA,zB,zA,ag,h9,if_true]
def aby aPr{y z:ahL}aQC:dJ (ahp ara none) [y,x9,z] M=.ok () M:=by
 have h9:=kT hx.1 hx.2;simp only[dJ,aA,zB,zA,ag,h9,if_true]
abbrev Nu aPH aPv:Kd:=match acJ with
 | none=>abc
 | adt=>asM t.out red (asM aCp ok (match avz with
  | none=>.ok
  | aqa=>match cG Y ajf with
   | none=>.red
   | some s=>match pC Y W x s with
    | aqa=>.ok
    | none=>.red))
abbrev JN aPH aPv:Wd:=match acJ with
 | none=>W
 | adt=>if aCp then LA W x t else match avz with
  | none=>JF W x aHi
  | aqa=>BQ Y.rs W (((cG Y ajf).bind (pC Y W x)).getD 0) x t.steps
def JO aQ0 aPg(h:b7 (cG Y s) k):auA k:=by
 rw[ak9 cG];split at h
 ·split at h
  ·rename_i b _ hm;cases h;exact aNr
  ·cases h
 ·cases h
def L7 aPr{gt gc gb gp gr ga:D1}aPT aQC aRe aQ2 aSR(dz:aHB)
  aVb aVa aW8(hp:HB C Y gp)(hr:QZ C Y gr)(hr0:gr [ο 0,η x,.bb] M=L6 C.rd M)
  (ha:∀t:TB,azB->aDb->aHb->ga [ο 0,aij] M=.ok aDm M) :
  Oy C Y o M (E2 C.rd C.tr C.yd gt gc gb gp gr ga [ο 0,η x] M) (Nu Y W x) λ B'=>lN Y (JN Y W x) B':=by
 rw[ac2 E2 (Oy C Y o M q (Nu Y W x) λ B'=>lN Y (JN Y W x) B')];simp only[zC,zD,zE,zF,Nat.zero_add,Nat.reduceAdd,Nat.reduceSub,List.replicate,zG,zH,zI];rw[ZI e0 (ht o M B x h hx) hg (S.QY x)];unfold Nu JN;cases HD:ajI with
 | none =>
  rw[HD] at e0 hg;rw[Ω hg (aH (LF C.nt M (f6 e0) (dr (cT rfl))))]
 | some t =>
  rw[HD] at e0 hg
  have hg:b7 acJ t.tr:=hg
  rw[agV hg];rw[ZI T (axq _ (iK HD)) TI (I.tr x t.tr hg)];rw[acH sW ars (aiH (I.JH hg) (adP Gu)) (aeV aij M (f6 e0))];rw[adk]
  rw[aaA e1 (yu (ρ:=[f9,x9,agX,none]) (d:=c9) T.mt rfl su) (aeV (aI (bX t.tr)) M ?_)]
  ·rw[aD,e1,ag,bA,ag];exact uJ (i:=0) T.ms (LI TI.ne)
  rw[adk]
  rw[aip e2 (yu (ρ:=[f9,x9,agX,aFM]) (d:=c9) T.mt rfl QV) e3 (yu (ρ:=[f9,x9,agX,aFM]) (d:=c9) T.mt rfl Fj) (aH (eO t.tr.out M (by rw[eG,e2,ag]; rfl) (g8 hk) (g8 hk)))]
  ·have e4:=Wh (M:=M) (y:=f9) (z:=agX) (w:=aFM) hx;rw[apH cn e4];rw[aiy (dr (cT ?_)) hk];rfl
  ·rw[hk,ane];rw[afQ arC (eO (! t.tr.ahead.isEmpty) M ?_ (g8 jB) (g8 jB))]
   ·rw[eG,e3,ag];unfold jG;simp only[T.ma];cases t.tr.ahead<;>rfl
   ·have JP:agU t.tr.ahead:=λ e9=>by rw[e9] at jB; cases jB
    rw[akr JP JP]
    obtain⟨s0,w,ew⟩:∃s0 w,aEN (s0::w):=by
     cases e9:t.tr.ahead with
     | nil=>rw[afZ e9 JP]
     | cons a b=>rw[an0 a b]
    have Fb:aEP s0.1:=by
     obtain⟨r,h1⟩:=TI.al (s:=s0) (by rw[agb ew]);rw[aev hp9 (I.lt h1) (S.locks _ hp9) h1];cases h2:alF s0.1 with
     | none=>rw[h2] at h1; cases h1
     | some _=>rfl
    obtain⟨M2,c1,c2,c3,c4,c5⟩:=hc x o M B t s0 w aFI T ew Fb sW;refine cy .bb M2 (f6 c1) (fJ ⟨M2,o,Wa B x s0.1 ⟨⟨s0::t.tr.steps,w,t.tr.out⟩,t.ob,t.so,t.ao⟩,rfl,?_,c4,?_⟩)
    ·exact c2.seen (S.vX I) HD c3 rfl
    ·rw[avl (QM I S (x:=x) (t:=t.tr) (t':=⟨⟨s0::t.tr.steps,w,t.tr.out⟩,t.ob,t.so,t.ao⟩) (by rw[ew,hk]; rfl)) ew]
   ·have JP:aEN []:=by
     cases e9:t.tr.ahead with
     | nil=>rfl
     | cons a b=>rw[e9] at jB; cases jB
    rw[aq3 e9 (e9 JP),aq3 e9 (e9 JP)];rw[aaA e5 (aiC [f9,x9,agX,aFM] pB) (eO (aGo).isNone M ?_ (g8 B2) (g8 B2))]
    ·rw[ajS i0 (agF (aI (bX t.tr)) 0=.ok (η (bX t.tr).1) M) wV i2 (agF (aI (bX t.tr)) 2) (.ok (η (bX t.tr).2.2) M) D8];rw[eG,aZ,ax,e5,ag];simp only[ax,aM,aD,aA,bA,zB,zA,ag,i0,i2,hb];rfl
    ·have B2:aaz aGo:=aam B2
     rw[B2]
     refine yi af4 M t.ob (lH t) (lH ⟨aFc,t.ob,t.so,t.ao⟩) rfl rfl T.mt (by rw[aiG 3]) abx (fJ ⟨_,o,Yv B x ⟨aFc,t.ob,t.so,t.ao⟩,rfl,?_,ak2 (by rw[ak7 T.ot]),?_⟩)
     ·refine((aFI).own (b5 T.ot)).seen (S.vX I) HD (t':=⟨aFc,t.ob,t.so,t.ao⟩) (arK (get_set T.mt) (amQ T.ot T.os T.ms) (amQ T.ot T.oa T.ma)) rfl
     ·have:=LB S (x:=x) (t:=⟨aFc,t.ob,t.so,t.ao⟩);rw[akU JP this this]
    ·obtain⟨b,B2⟩:∃b,b7 aGo b:=by
      cases e9:aGo with
      | none=>rw[e9] at B2; cases B2
      | some b=>exact aiI b
     rw[agV B2];have ea:=ha t T.mt T.ms TI.ne;cases YF:cG Y (bX t.tr) with
     | none =>
      rw[avd YF ea (mM C.rd M ?_ (cT rfl))];simp[ea,bJ,hr0]
     | some s =>
      rw[YF] at ea;rw[akq ess (JO YF) Sv (LM (x:=x) (s:=s) R I S) er (hr none o M B x s h hx ess (HC I S))];rw[agV Option.bind_some];cases Nh:qV Y B x s with
      | none =>
       rw[Nh] at er Sv;rw[Sv];refine mM C.rd M ?_ (cT rfl);simp[ea,bJ,er]
      | some r =>
       rw[Nh] at er Sv;rw[Sv,Option.getD_some];rw[aq4 Ou Yz (Eg S Nh) LJ (aiO Ou).1]
       obtain⟨s0,w,ew⟩:∃s0 w,aaC=s0::w:=by
        cases e9:aaC with
        | nil=>rw[afZ e9 (dz r LJ)]
        | cons a b=>rw[an0 a b]
       have Fb:=Eh I R S Ou (p:=s0.1) (by rw[acP dZ ew];simp);obtain⟨M2,p1,p2,p3,p4⟩:=hp x _ _ _ t r s0 w aFI T LJ ew (LN R Gu LJ) Fb sW
       refine cy .bb M2 (by simp[ea,bJ,er]; exact p1) (fJ ⟨M2,_,Ho Y.rs B r x ⟨⟨s0::t.tr.steps,w,t.tr.out⟩,t.ob,t.so,M.length⟩,rfl,?_,p4,?_⟩)
       ·have:=p2.seen (S.vX I) HD p3 rfl;rw[ahc Ho ew this]
       ·exact Hr R I S Ou (by rw[ew,hk]; rfl)
abbrev va aRv:Kd:=match acJ with
 | none=>abc
 | adt=>asM (aAq 1/\aKY) held .ok
abbrev pE aRv:Wd:=match acJ with
 | none=>W
 | adt=>alE t.steps.length 1 (abh W x) (JF W x aAz)
def Q0 aPa aPi(h:az0)(hn:agU xs):∃y,PK (ο n) [] M=.ok y (anj n xs.dropLast):=by
 unfold PK C1;simp only[h]
 have hl:aAh (asY 1):=by
  have:xs.length≠0:=adm (hn (List.eq_nil_of_length_eq_zero e));omega
 rw[ae2 apr acV]
def xC aPr{gt:D1}aPT aQC aQ2 aVb :
  Oy C Y o M (wK C.he C.tr C.yd gt [ο 0,η x] M) (va W x) λ B'=>lN Y (pE W x) B':=by
 rw[ac2 wK (Oy C Y o M q (va W x) λ B'=>lN Y (pE W x) B')];simp only[zC,zD,zE,zF,Nat.zero_add,Nat.reduceAdd,Nat.reduceSub,List.replicate,zG,zH,zI];rw[ZI e0 (ht o M B x h hx) hg (S.QY x)];unfold va pE;cases HD:ajI with
 | none =>
  rw[HD] at e0 hg;rw[Ω hg (aH (LF C.nt M (f6 e0) (dr (cT rfl))))]
 | some t =>
  rw[HD] at e0 hg
  have hg:b7 acJ t.tr:=hg
  rw[agV hg];rw[aip T (axq _ (iK HD)) TI (I.tr x t.tr hg) (aeV aij M (f6 e0))];rw[adk]
  rw[ZI e1 (yu (ρ:=[f9,x9,agX]) (d:=c9) T.mt rfl su) e2 (yu (ρ:=[f9,x9,agX]) (d:=c9) T.mt rfl QV)]
  rw[ahU el (∀aRx aQm,M'[t.so]? = agz->bU [ο t.so] M'=.ok (η xs.length) M') (λ M' xs hm=>by
   unfold bU;simp only[tK,hm]) (eO (agf (aIz 1/\acS t.tr.out)) M ?_ (g8 hk) (g8 hk))]
  ·rw[m3,bI,aD,aZ,ax,e1,ag,aM,ag,ag,el M _ T.ms,ag,bA,ag,fu,zK];by_cases h1:aIz 1
   ·cases h2:t.tr.out<;>simp[h1,h2,e2,jG]
   ·have h3:¬(acy t.tr.steps.length=1):=b6
    simp[h1,h3]
  ·rw[ZI hk aN5 e4 (aby (M:=M) (y:=f9) (z:=agX) hx)];rw[apH cn e4];rw[aiy (dr (cT ?_)) aKN];rfl
  ·rw[axc hk hk]
   rw[agL hk];obtain⟨y,py⟩:=Q0 T.ms (aam TI.ne)
   refine atL (anA y (anj t.so (ass).dropLast) ?_)
   ·rw[Ω (Fv e1 T.ms (xs:=[]) rfl) py]
   rw[← List.map_dropLast];have h1:=(aFI).own (v:=ς aHY) (c6 (b5 T.os))
   have T1:akJ o (akL t.so aHY) aFx :=
    arK (amQ T.os T.ot T.mt) (get_set T.ms) (amQ T.os T.oa T.ma)
   have f1:apf (akL t.so aHY):=ak2 (by rw[ak7 T.os]);generalize akL t.so aHY=M1 at h1 T1 f1;rw[apL e5 (yu (t:=aFx) (ρ:=[f9,x9,agX]) (d:=c9) T1.mt rfl su) hl (t.tr.steps.length≠0) (λ e9=>TI.ne (List.eq_nil_of_length_eq_zero e9)) (eO (agf (aIz 1)) M1 ?_ (g8 jB) (g8 jB))]
   ·rw[bI,aD,aZ,ax,e5,ag,aM,ag,ag,el M1 _ T1.ms,ag,bA,ag,fu,zK,List.length_dropLast];by_cases h9:aIz 1
    ·simp[h9]
    ·have h8:¬(afW (t.tr.steps.length-1)=0):=b6
     simp[h9,h8];omega
   ·rw[an6 jB jB];rw[aj9 jB];rw[aaA e6 (h1.fld (ρ:=[f9,x9,agX]) (d:=b8) rfl qU) (Ed (k:=aon) (y:=η x) aij e6 h1.y5 rfl rfl (by rw[kh,HD]; rfl) (fJ ⟨_,o,abi B x,rfl,?_,aEX (by rw[apM 5]),Uv S⟩))];rw[ae2 Ec ((h1.abm x).gone (asl (((pv _ _ _).mp hm).1 rfl)))]
   ·rw[axc jB jB];rw[auT jB (afX (fJ ⟨M1,o,Yv B x aFx,rfl,h1.seen (S.vX I) HD T1 rfl,f1,LB (t:=aFx) S⟩))]
universe zE
universe Sb
universe zE
end
mutual
section
namespace Sb
open PySem L2
section
variable {C:Cs} {Y:fE} {e:adq} {o:adu} {M:aY} {B:Bx} {ρ:eu} {t:TB} {W:Wd}
abbrev vb aRv:Kd:=match acJ with
 | none=>abc
 | adt=>asM t.out red .ok
abbrev lq aRv:Wd:=match acJ with
 | none=>W
 | adt=>Ht W x t
def qo aPV:rE [amn] M=.ok awl M:=by
 rw[ac2 rE (q=.ok awl M)];exact ah4 awl M (by simp[aI,flip,iS])
def cW.afp aPr aPT aQS(hl:alK)(h4:af2 M' 4 .bB alY)(hm:∀i,i≠4->(∀r,o i≠.fall r)->M'[i]? = M[i]?)
  (hf:∀q∈B.falls,M'[q.2.ob]? = aFb (JI (u9 x q.1 q.2))):cW C Y none o M' (arj falls (aAL (u9 x))):=by
 have y:∀i≤5,i≠4->M'[i]? = M[i]? := λ i hi h4=>hm i h4 λ r=>by rw[ak7 (h.lo i hi)]
 refine⟨x6 (y 0 d7 d7) h.y0,x6 (y 1 d7 d7) h.y1,x6 (y 2 d7 d7) h.y2,x6 (y 3 d7 d7) h.y3,?_,x6 (y 5 d7 d7) h.y5,h.lo,aJX i (by rw[abd hl hi]),azw,IL q hq he⟩
 ·show af2 M' 4 .bB (afh eF (aAL (u9 x)));rw[h4];unfold encD jJ;rw[List.map_map];rfl
 ·rw[ahP q' xS hq];rw[aaX (h.yf q' xS).1 (hf q' xS)]
 ·rw[aeC T (h.yt q hq he) g (∀aPt{g:Tg}{v:MO},o i=g->(∀r,g≠.fall r)->g≠.yard->arM M->arM M') (λ hi hg hy e=>x6 (hm _ (by rw[ae9 (h.gt hi hy)]) (λ r=>by rw[Ω hi (hg r)])) e)];exact arK (aAN T.ot T.mt) (aAN T.os T.ms) (aAN T.oa T.ma)
def YG{u:FB}:qJ "near" .bb (JI u)=JI { u with nr:=none }:=aao
abbrev Fx aPQ(gu:D1):Prop:=∀aQR aPU aPZ aQs,afk->atj->ay0->auc a as3->a≠1 →
 ∃M',gu [ο 0,ο a] M=.ok .bb M'/\cW C Y none o M' (akm B (ank w))/\ahG/\alK/\∀i,i≠1->M'[i]? = M[i]?
abbrev eFv(q:Nat×FB):PV:=ο q.2.ob
def YH(d:aCi):(ag8 (aq1 eF).map q q.2)=d.map eFv:=by rw[aFw]
def Nv aPr{z:ahL}aSo aPT(hn:agM akk)
  (k:∀M',cW C Y none o M' (arj falls (aAL (u9 x)))->ahG->P (.ok .bb M')) :
  Fin P (sL (Bh aEF) (auk (Bh aEF) (bu (ba (acW (bY C.fa "near" aah) b9)) (gS C.fa "near" aah (dC .bb)) fo)) [f9,x9,z,none] M):=by
 rw[aev hi (Ux h.y4 (aiC [f9,x9,z,none] uM)) YH hi]
 refine yr h.y4 hi ?_;rw[ai3 hz (af2 (adw 4 .jd alY) 4 .jd alY) (get_set h.y4) abz (∀q∈B.falls,∀q'∈B.falls,q.2.ob=q'.2.ob->q=q') (λ q hq q' xS e1=>by
  have e2:q.1=q'.1:=by
   have h1:=(h.yf q hq).1;rw[e1,(h.yf q' xS).1] at h1;exact(Tg.fall.inj h1).symm
  rw[al1 ayP (cz hn xS)];rw[ap4 e2 h2 h1 (Prod.ext e2 (auE).symm)]) (fS eFv (azT y (ρ=[f9,x9,z,y]) (alK/\af2 M' 4 .jd alY/\(∀i,i≠4->(∀r,o i≠.fall r)->M'[i]? = M[i]?)/\(∀q∈B.falls,q∈pre->M'[q.2.ob]? = aFb (JI (u9 x q.1 q.2))) ∧
   ∀q∈B.falls,q∉pre->M'[q.2.ob]? = aFb (JI q.2))) B.falls _ _ hi hz ⟨none,rfl,Ξ,hz,λ i h4 _=>ar (adm aKW),λ q _ hq=>asx hq,λ q hq _=>ale (by rw[ari (h.yf q hq).1]) (h.yf q hq).2⟩ ?_ ?_)]
 ·rintro pre q post hx ρ M' ⟨y,rfl,l1,z1,g1,p1,p2⟩;refine ad5 _ ?_
  rw[d6 hq (q∈B.falls) (by rw[ajc]) Wg (q∉pre) (asl (by
   rw[hx,List.map_append,List.nodup_append] at hn;exact hn.2.2 q.1 (ahg q hm) q.1 Ξ rfl))]
  rw[apL m1 (p2 q hq Wg) e6 (bY C.fa "near" aah [f9,x9,z,ahq q.2.ob] M'=.ok (fz q.2.nr) M') (by
   rw[acP bY aA];rw[aiv];rw[asB ag (mT m1)];rw[acR QX]) (eO (afJ q.2.nr aeU) M' ?_ (g8 hk) (g8 hk))]
  ·show ba (acW (bY C.fa "near" aah) b9) [f9,x9,z,ahq q.2.ob] M'=_;rw[bI,aD,e6,ag,aA];rw[aiv];rw[ag];cases q.2.nr with
   | none=>rw[show fz none=.bb from rfl,azZ]; rfl
   | some y=>rw[show fz aoG=η y from rfl,fu]; by_cases e7:y=x<;>simp[e7]
  ·rw[an6 hk hk]
   rw[acH h4 (q.2.ob≠4) (by rw[ari (h.yf q hq).1]) (yi .bb M' q.2.ob (JI q.2) (JI { q.2 with nr:=none }) rfl rfl m1 (by rw[aiG 2]) YG (bC ?_ ⟨_,rfl,by rw[axf l1],?_,?_,?_,?_⟩))]
   ·exact x6 (ar h4) z1
   ·exact x6 (ar h4) z1
   ·intro i hi hr;exact aE1 (hr q.1 (by rw[aFi e (h.yf q hq).1])) (g1 i hi hr)
   ·intro q' xS hm
    by_cases e9:q'=q
    ·subst e9;rw[get_set m1];simp[u9,hk]
    ·rw[Ω (ar (adm (e9 (abz q hq q' xS e).symm))) (p1 q' xS (by rcases aLO with h9 | h9; exact h9;simp at h9;rw[afZ h9 e9]))]
   ·intro q' xS hm;have e9:q'≠q:=adm (hm (f6 e));rw[Ω (ar (adm (e9 (abz q hq q' xS e).symm))) (p2 q' xS λ h9=>hm (f6 h9))]
  ·rw[aaA hk (of_decide_eq_false hk) (afX (bC z1 ⟨_,rfl,l1,z1,g1,?_,λ q' xS hm=>p2 q' xS λ h9=>hm (f6 h9)⟩))];intro q' xS hm
   by_cases e9:q'=q
   ·subst e9;rw[m1];simp[u9,hk]
   ·exact p1 q' xS (by rcases aLO with h9 | h9; exact h9;simp at h9;rw[afZ h9 e9])
 ·rintro ρ' M' ⟨y,rfl,l1,z1,g1,p1,p2⟩;rw[aej z1 (fJ (k _ ?_ ?_))]
  ·refine h.afp (by rw[axf l1]) (get_set z1) (λ i h4 hr=>aE1 aKW (g1 i h4 hr)) azw;exact ale (by rw[ari (h.yf q hq).1]) (p1 q hq hq)
  ·rw[adv (by rw[ae0 List.length_set l1 acT]) aBY (IL i hi hw)]
   have h4:i≠4:=λ e=>by rw[e,auL 4] at hw; cases hw
   exact aE1 aKW (g1 i h4 λ r=>by rw[ak7 hw])
def UE aPa:qJ "steps" (ο n) (lH t)=lH ⟨t.tr,t.ob,n,t.ao⟩:=aao
def vh aPr{gt gu gd:D1}aPT aQC aRe aQ2 aSR aVb(hu:Fx C Y gu)(hd:∀s M,gd [amn] M=.ok awl M) :
  Oy C Y o M (wL C.fa C.rd C.tr C.yd gt gu gd [ο 0,η x] M) (vb W x) λ B'=>lN Y (lq W x) B':=by
 rw[ac2 wL (Oy C Y o M q (vb W x) λ B'=>lN Y (lq W x) B')];simp only[zC,zD,zE,zF,Nat.zero_add,Nat.reduceAdd,Nat.reduceSub,List.replicate,zG,zH,zI];rw[ZI e0 (ht o M B x h hx) hg (S.QY x)];unfold vb lq;cases HD:ajI with
 | none =>
  rw[HD] at e0 hg;rw[Ω hg (aH (LF C.nt M (f6 e0) (dr (cT rfl))))]
 | some t =>
  rw[HD] at e0 hg
  have hg:b7 acJ t.tr:=hg
  rw[agV hg];have T:awJ:=axq _ (iK HD);rw[apL TI (I.tr x t.tr hg) sW ars (aiH (I.JH hg) (adP Gu)) (aeV aij M (f6 e0))];rw[adk]
  rw[aip e2 (yu (ρ:=[f9,x9,agX,none]) (d:=c9) T.mt rfl QV) e3 (yu (ρ:=[f9,x9,agX,none]) (d:=c9) T.mt rfl Fj) (aH (eO t.tr.out M (by rw[eG,e2,ag]; rfl) (g8 hk) (g8 hk)))]
  ·have e4:=Wh (M:=M) (y:=f9) (z:=agX) (w:=none) hx;rw[apH cn e4];rw[aiy (dr (cT ?_)) hk];rfl
  ·rw[hk,ane];rw[anl arC hand (agM aNY) (by
    by_cases e9:aEN []
    ·rw[agb e9]
    ·obtain⟨r,k,hr,hk9,_⟩:=TI.ah e9
     have h1:((aaC).drop k |>.map (·.1)).Nodup:=by
      rw[ae2 List.map_drop ((R.nd r hr).sublist (aLY _))]
     rw[← hk9,zC,List.nodup_cons] at h1
     exact h1.2) Fb (afz aNY (c8 (alF p).isSome)) (ahT (by
    rw[ahP s0 hs0 hp];obtain⟨r,h1⟩:=TI.al hs0;rw[aev hp9 (I.lt h1) (S.locks _ hp9) h1];cases h2:alF s0.1 with
    | none=>rw[h2] at h1; cases h1
    | some _=>rfl))]
   have ha1:t.ao≠1:=by rw[ari T.oa]
   obtain⟨M1,u1,u2,u3,u4,u5⟩:=hu o M B t.tr.ahead t.ao h hand Fb T.ma ha1;refine aH (anA .bb M1 ?_)
   ·rw[aZ,ax];simp only[aA,zB,zA,ag];rw[ax,e3];simp only[aM,ag];exact u1
   have T1:akJ o M1 t:=arK (x6 (u5 _ (by rw[ari T.ot])) T.mt) (x6 (u5 _ (by rw[ari T.os])) T.ms) (x6 (u5 _ ha1) T.ma);rw[akq h1 (u2.but x) h2 (h1.push (ς []) (ag0 x)) T2 (T1.push (ς []) (ag0 x))];rw[avh f2 (gP o M1 (aJb o (ag0 x)) (M1++[ς []])) gP.push k2 ((M1++arD)[M1.length]? = anb []) Ξ (yi (ο M1.length) (M1++[ς []]) t.ob (lH t) (lH ⟨t.tr,t.ob,t.so,M1.length⟩) (by rw[aiY cE aM ag (jZ d7)]) rfl T2.mt (by rw[aiG 3]) LK ac4)];have h3:=h2.own (v:=aGx) (b5 T2.ot)
   have T3:akJ (aJb o (ag0 x)) ((M1++arD).set t.ob aGx) (aIR [] M1.length) :=
    ⟨T2.ot,T2.os,ip,get_set T2.mt,amQ T2.ot T2.os T2.ms,amQ T2.ot ip k2⟩
   have f3:atD (aJb o (ag0 x)) ((M1++arD).set t.ob aGx):=x6 (u3.trans f2) (ak2 (by rw[ak7 T2.ot]));generalize (M1++arD).set t.ob aGx=M3 at h3 T3 f3
   generalize M1.length=n1 at h3 T3 f3;generalize dt o n1 (ag0 x)=o1 at h3 T3 f3;rw[ZI h4 (h3.push (ς ((amr).map aI)) (alV x)) T4 (T3.push (ς ((amr).map aI)) (alV x))];rw[d6 f4 (gP o1 M3 (dt o1 M3.length (alV x)) (M3++[ς ((amr).map aI)])) gP.push k4 ((M3++avR (amr).map)[M3.length]? = ag4 ((amr).map aI)) Ξ]
   have e5:=yu (ρ:=[f9,x9,agX,none]) (d:=c9) T3.mt rfl su
   rw[ahU ec (cg true aiw (Qg (bY C.tr "steps" c9)) (gN 0) sI (av gd [b8]) [f9,x9,agX,none] M3=.ok (ο M3.length) (M3++[ς ((amr).map aI)])) (by
    have ei:Qg (bY C.tr "steps" c9) [f9,x9,agX,none] M3=.ok (t.tr.steps.reverse.map aI,aiR t.so (ς ass)) M3:=by
     rw[aga Qg e5 ag];rw[ako T3.ms List.map_reverse]
    rw[cc (xs:=t.tr.steps.reverse) (w:=aiR t.so (ς ass)) (M':=M3) aI ah9 (λ s=>awl) (ahW [y]) ei T3.ms ah2 (akf s) (by rw[Ω List.length_reverse (adP sW)])]
    ·rw[List.filter_eq_self.mpr (λ _ _=>rfl),jZ (by rw[ae0 zK List.length_reverse ayv]),List.map_map];rfl
    ·rw[ahJ y rfl hρ (abS _ rfl acV (f6 hd))]) (yi (ο M3.length) _ t.ob (lH (aIR [] n1)) (lH ⟨⟨amr,[],t.tr.out⟩,t.ob,M3.length,n1⟩) ec rfl T4.mt (by rw[aiG 3]) UE ac4)];have h5:=h4.own (v:=anI (lH ⟨⟨amr,[],t.tr.out⟩,t.ob,M3.length,n1⟩)) (b5 T4.ot)
   have T5:akJ (dt o1 M3.length (alV x)) ((M3++avR (amr).map).set t.ob (anI (lH ⟨⟨amr,[],t.tr.out⟩,t.ob,M3.length,n1⟩))) ⟨⟨amr,[],t.tr.out⟩,t.ob,M3.length,n1⟩ :=
    ⟨T4.ot,ip,T4.oa,get_set T4.mt,amQ T4.ot ip k4,amQ T4.ot T4.oa T4.ma⟩
   rw[aA5 f5 (atD (dt o1 M3.length (alV x)) ((M3++avR (amr).map).set t.ob (anI (lH ⟨⟨amr,[],t.tr.out⟩,t.ob,M3.length,n1⟩)))) (x6 (f3.trans f4) (ak2 (by rw[ak7 T4.ot]))) h6 (h5.seen (S.vX I) HD T5 rfl) (Nv h6 (by show agM akk; rw[aFA]) λ M' y1 y2=>⟨M',_,Wb B x t.tr.ahead ⟨⟨amr,[],t.tr.out⟩,t.ob,M3.length,n1⟩,rfl,y1,f5.trans y2,QP I S (agB hk)⟩)]
universe zE
universe Sb
universe zE
section
namespace Sb
open PySem L2
abbrev C8:aM3->PV
 | none=>.bb
 | aBl=>jL b
abbrev eW:aoK Fl PV:=abf u (sT [η u.u,gW u.ns,.bl u.bd])
abbrev dI(t:Tr):PV:=ς [aKC,bG t.ahead,.bl t.out]
abbrev eR:Int->Tr->PV:=abf t (dI t)
abbrev wKs aPx(g:ae6)aRV aRU:afx :=
 [(aM7,ahf),(aMT,atf),(aKV,ayk),(aM6,ο 6),(aJO,cO g),(aFs,η t),(aEB,aBt),(aAJ,ο j),(aEI,ο 9),(aJp,ο 10)]
structure gQ aPx aPh aP4 aRU:Prop where
 w6:auc 6 (W.points.map C8)
 w7:af2 M 7 .bB (wKs Y W.green W.now j)
 wl:auc j aO6
 wj:7<j/\j≠9/\j≠10
 w9:af2 M 9 .bB (encD eW W.falls)
 zb:af2 M 10 .bB ajb
structure ki aRU(M M':aY):Prop where
 len:auR
 out:∀i,i≠6->i≠7->i≠9->i≠10->i≠j->aow i->M'[i]? = M[i]?
section
variable {Y:fE} {M:aY} {W:Wd} {j:Nat} {ρ:eu}
def ki.refl:ki j M M:=⟨acT,λ _ _ _ _ _ _ _=>rfl⟩
def ki.trans{M1 M2:aY}(a:ki j M M1)(b:ki j M1 M2):ki j M M2:=⟨Nat.le_trans a.len b.len,λ i h1 h2 h3 h4 h5 h6=>x6 (b.out i h1 h2 h3 h4 h5 (aLA h6)) (a.out i h1 h2 h3 h4 h5 h6)⟩
def ki.set aPa aQj(h:n=6\/n=7\/n=9\/n=10\/n=j):aqM (atd o):=⟨Ξ,λ i h1 h2 h3 h4 h5 _=>ar b6⟩
def ki.push aQj:aqM (M++[o]):=⟨Ξ,λ i _ _ _ _ _ hi=>aDP⟩
abbrev Wi(j i:Nat):Prop:=i=6\/i=7\/i=9\/i=10\/i=j
def gQ.keep aPn aQS(h1:∀i,Wi j i->aow i->M'[i]? = M[i]?):ahQ M' W :=
 ⟨aBh 6 (b5 rfl) (df h.w6) h.w6,aBh 7 (c6 (b5 rfl)) (df h.w7) h.w7,aBh j (c6 (c6 (c6 (c6 rfl)))) (df h.wl) h.wl,h.wj,aBh 9 (c6 (c6 (b5 rfl))) (df h.w9) h.w9,aBh 10 (c6 (c6 (c6 (b5 rfl)))) aFG h.zb⟩
def gQ.push aPn(o:MO):ahQ (M++[o]) W:=h.keep λ i _ hi=>aDP
def gQ.abA aPn(l:apS):ahQ (akL 6 (l.map C8)) { W with points:=l } :=
 ⟨get_set h.w6,aFt,ale (by rw[avf]) h.wl,h.wj,aK6,aK7⟩
def gQ.UG aPn aSq:ahQ (akL j (l.map bJ)) (akm W l) :=
 ⟨ale (by rw[avf]) h.w6,ale (by rw[avf]) h.w7,get_set h.wl,h.wj,ale (by rw[avf]) h.w9,ale (by rw[avf]) h.zb⟩
def gQ.UH aPn(g:ae6)aRV:ahQ (adw 7 .bB (wKs Y g t j)) { W with green:=g,now:=t } :=
 ⟨adS h.w6,get_set h.w7,ale (by rw[avf]) h.wl,h.wj,aK6,aK7⟩
def gQ.UI aPn(f:alX):ahQ (adw 9 .bB (encD eW f)) { W with falls:=f } :=
 ⟨adS h.w6,aFt,ale (by rw[avf]) h.wl,h.wj,get_set h.w9,aK7⟩
def gQ.B3 aPn aSs:ahQ (adw 10 .bB (ee eR d)) (asE W d) :=
 ⟨adS h.w6,aFt,ale (by rw[avf]) h.wl,h.wj,aK6,get_set h.zb⟩
def gQ.abB aPn aSq:gQ Y ((M++akS (l.map bJ)).set 7 (.bB (wKs Y W.green W.now M.length))) (akm W l) M.length:=by
 rw[ZI hp (ayj (l.map bJ)) h10 aFG];exact⟨adS hp.w6,get_set hp.w7,ax7 Ξ,⟨b6,b6,b6⟩,adS hp.w9,adS hp.zb⟩
variable {g:ae6} {t:Int}
def pF:aqL aM7=arn:=aao
def oJ:aqL aMT=f7 atf:=aao
def YI:aqL aKV=aKE:=aao
def HE:aqL aM6=ahq 6:=aao
def uN:aqL aJO=ahx g:=aao
def Q3:aqL aFs=afY t:=aao
def qW:aqL aEB=f7 aBt:=aao
def uO:aqL aAJ=ahq j:=aao
def mf:aqL aEI=ahq 9:=aao
def fL:aqL aJp=ahq 10:=aao
def Fy{g':ae6}:nW (wKs Y g t j) aJO (cO g')=wKs Y g' t j:=aao
def abC{t':Int}:nW (wKs Y g t j) aFs (η t')=wKs Y g t' j:=aao
def UJ{j':Nat}:nW (wKs Y g t j) aAJ (ο j')=wKs Y g t j':=aao
def UK:aeA (wKs Y g t j)<lim:=by rw[aBo 10]
def gQ.ix aPn aPo aPl{v:PV}(hd:aaQ=.ok (ο 7) M)(hv:jF (wKs Y W.green W.now j) (dB x)=afw):anN d (aaM x) ρ=.ok v M:=by
 rw[aD,hd,ag,bA,ag];exact nK h.w7 rfl hv
def gQ.put aPn aPl{v:PV}:zx (ο 7) (c7 x) v M=f7 (adw 7 .bB (nW (wKs Y W.green W.now j) (dB x) v)):=gL h.w7 rfl UK
def Fz aPa{x v:PV}aQX aTn(h:aiZ .jd)aU3(hv:aoW=afw):aK (ο n) x M=.ok v M:=by
 rw[asN aK tK h];simp only[L2.getD,h,hk,Option.map_some,hv]
abbrev qg aSs(p:Int):adq:=ae4 (aIW q (p∈q.2.steps.map λ s=>akz s)).map
def zc aPp{p:awf}:∀l:af1,aKi=aKD[0]?
 | []=>rfl
 | a::l=>by
  rw[List.find?_cons,List.filter_cons];cases h:p a with
  | true=>rfl
  | false=>simpa using zc l
def FA aSs:((ee eR d).map azN)=d.map (alI q q.1):=by rw[asQ ee]
def UL{P:aiu}{di:DI}{s:DS}{M1:aY}aQF aPi{ρ':eu}aV9(hs:s ρ M=.nx ρ' (aoU .jd))(q:P (.nx ρ' M)):P (sL di s ρ M) :=
 yr h hi (by rw[hs];rw[aaX aKX (by rw[Ω (nD h) q])])
def gZ{p:Int}aPn(hn:aFV)(hl:aDZ q (aiT q.2.steps.length))(Ow:aFQ):lZ [ο 7,η p] M=.ok (fz (aob p)) M:=by
 rw[ac2 lZ (q=.ok (fz (aob p)) M)];simp only[zC,zD,zE,zF,Nat.zero_add,Nat.reduceAdd,Nat.reduceSub,List.replicate,zG,zH,zI];rw[ZI e (alo [t8,aia,none] fL) hi (keys_eq h.zb e)];rw[FA] at hi;rw[avh hz (af2 (adw 10 .jd ajb) 10 .jd ajb) (get_set h.zb) hz7 (af2 (adw 10 .jd ajb) 7 .bB (wKs Y W.green W.now j)) aFt (UL (ρ':=[t8,aia,ag4 ((W.trains.filter (aoM q p (q.2.steps.map λ s=>akz s))).map (alI q q.1))]) h.zb hi ?_ ac4)]
 ·rw[Uc,cc (xs:=W.trains) (w:=aiR 10 (.jd ajb)) (M':=adw 10 .jd ajb) (alI q q.1) (aoM q p (q.2.steps.map λ s=>akz s)) (alI q q.1) (ahW [y,aia,t8]) hi hz ah2 (aoj q hq) (adP Ow)]
  ·rw[ahY (by rw[alb (aiH (List.length_filter_le _ _) (adP Ow))]),Res.eV];rfl
  ·rw[aiK y hρ]
   refine⟨_,rfl,acV,?_,anm⟩;rw[axB (adw 10 .jd ajb) hz hz7]
   rw[ajS v1 (jF ajb atZ=f7 (dI q.2)) (by rw[kh,ayP]; rfl) e1 (amP (ay aK aJg b8) (Θ 0) [al6,aia,t8] M1) (.ok (bG auw) M1) (by
    have e2:amP c9 aMW [al6,aia,t8] M1=.ok (ο 10) M1:=by
     rw[aD,aA];rw[aiv];rw[ag,bA,ag];exact nK hz7 rfl fL
    rw[aD,aD,e2,ag,aA];rw[aiv];rw[ag,Fz hz (k:=atZ) rfl v1,ag,bA,ag];exact awB)]
   have e3:cg false aiw (iL (ak8 (ay aK aJg b8))) (gN 0) sI akC [al6,aia,t8] M1=.ok (ς ((q.2.steps.map λ s=>akz s).map η)) M1:=by
    rw[cc (xs:=auw) (w:=none) (M':=M1) aI ah9 (alI s s.1) (ahW [y]) (ej e1) trivial ah2 (akf s) (adP (hl q hq))]
    ·rw[List.filter_eq_self.mpr (λ _ _=>rfl),bM (by rw[aqg (hl q hq)]),List.map_map];rfl
    ·rw[ahJ y rfl hρ (abS _ rfl acV avJ)]
   show ba (agZ b9 _) [al6,aia,t8] M1=_;rw[aCs];rw[ag,e3,ag,qO];rfl
 ·refine ah4 (fz (aob p)) M ?_;rw[acP qg zc];rw[By,eG,aA];rw[aiv];cases aMk (aoM q p (q.2.steps.map λ s=>akz s)) with
  | nil=>rfl
  | cons q l =>
   simp[jG,fz];exact awB
def qu aQo{gt:D1}{ti:adq}aPn(hp:aDM p)(ht:gt [ο 7,η p] M=.ok (fz ti) M):rQ gt [ο 7,η p] M=.ok (.bl (agl (apw p) || ti.isSome)) M:=by
 rw[ac2 rQ (q=.ok (.bl (agl (apw p) || ti.isSome)) M)]
 simp only[zC,zD,zE,zF,Nat.zero_add,Nat.reduceAdd,Nat.reduceSub,List.replicate,zG,zH,zI];rw[aaA e (alo [t8,aia] uO) (ah4 (.bl (agl (apw p) || ti.isSome)) M ?_)]
 have e2:agF (ο j) p=.ok (ail (apw p)) M:=uJ h.wl (by rw[zJ,List.getD_eq_getElem?_getD,List.getElem?_eq_getElem hp];rfl);rw[LG,aD,aD,e,ag];simp only[aA,zB,zA,ag,e2,bA];cases apw p with
 | none=>cases ti<;>simp[bJ,ht,fz]
 | some r=>simp[bJ]
def UM{l:aer}aPj:(l.filter ah9).map (att o o akw PV.bb (bJ o))=(hZ r l).map bJ:=by
 rw[awN];rw[acP hZ List.map_map];refine aps o _;dsimp only[Function.comp];split<;>rfl
def oN aPj aPn(hl:aOu):rS [ο 7,η r] M=.ok .bb ((M++atA (aiW).map).set 7 (.bB (wKs Y W.green W.now M.length))):=by
 rw[ac2 rS (q=.ok .bb ((M++atA (aiW).map).set 7 (.bB (wKs Y W.green W.now M.length))))];simp only[zC,zD,zE,zF,Nat.zero_add,Nat.reduceAdd,Nat.reduceSub,List.replicate,zG,zH,zI];rw[aip e (alo [t8,aax] uO) hp (ayj ((aiW).map bJ)) (fq aes (M++atA (aiW).map) (ο 7) (M++atA (aiW).map) (c7 "locks") (M++atA (aiW).map) ((M++atA (aiW).map).set 7 (.bB (wKs Y W.green W.now M.length))) ?_ Ξ Ξ (ag3 hp.put UJ) avH)];rw[cc (xs:=W.locks) (w:=aiR j (ς aO6)) (M':=M) bJ ah9 (att o o akw PV.bb (bJ o)) (ahW [y,aax]) (yg e h.wl) h.wl ah2 (akf o) (adP hl)]
 ·rw[UM,jZ (by simp[hZ];exact adP hl)]
 ·rw[aiK y hρ];refine abS _ rfl acV (g8 _);simp only[List.set_cons_zero,By,bI,aD,aA,zB,zA,ag,bA];cases o with
  | none =>
   rw[avr none .bb,azZ]
   simp
  | some r' =>
   rw[avr aBG (η r'),fu]
   by_cases e2:r'=r
   ·subst e2;simp
   ·have e3:¬(acy r'=r):=b6
    simp[e2,e3]
universe zE
universe Sb
universe zE
end
mutual
section
namespace Sb
open PySem L2
section
variable {Y:fE} {M:aY} {W:Wd} {j:Nat} {ρ:eu}
def qK:∀bs:akZ,b7 (bools aMS) bs
 | []=>rfl
 | b::bs=>by rw[zC,bools,qK bs]; rfl
abbrev Q4 aQb aPV:Bool:=match p with
 | .pl _ _=>true
 | .pt _ u _=>ac5 u [s.2.1,s.2.2]
abbrev iu aPD aPV:Bool:=Q4 (aeo s.1) s
abbrev mh aP4 aQn:Bool:=agl (apw p) || agl (aob p)
abbrev heldW aP4 aPZ:Bool:=w.any λ s=>(mh W s.1)
def JQ aPk aPZ aPV aSq:jS r (w++[s]) l=(jS r w l).set s.1 akw:=by rw[acP jS List.foldl_append];rfl
def zd aS3 aPZ aPV(l:apS):jK kn oh (w++[s]) l=if kn s.1 then(aDc).set s.1 aC0 else aDc:=by rw[acP jK List.foldl_append];rfl
def Wj aQI aPo(hd:aaQ=.ok (.bl b) M):(amb (aem [aq7,(dC af9)]) (av qI [d])) ρ M=.ok (jL b) M:=by
 have e:av2 i (∀x,ah0 ([atn,af9]:d9) x->agF (ς [atn,af9]) i=.ok x M):=agG i x (fK h);simp only[aD,jR,ax,aM,bA,ag,aZ,hd];rw[av8,ag,hd,ag,ag,show qI [.bl b] M=.ok (η (if b then 1 else 0)) M from rfl,ag]
 cases b
 ·exact e 0 _ rfl
 ·exact e 1 _ rfl
def ra aPj{gh:D1}aPn aRe aSR(LJ:aIL)aRs(Gs:aya)(YJ:aAe)(V8:aIo)(Fp:aD9)
  (hh:azU p (aDM p) (gh [ο 7,η p] M=.ok (.bl amc) M)) :
  (c8 (aAy W)/\qN gh [ο 7,η r] M=.ok (c7 "held") M) ∨
  (aKk W/\∃M',qN gh [ο 7,η r] M=.ok (c7 "ok") M'/\ahQ M' (JB Y.rs (bH Y.ps) (iu Y.ps) W r)/\ki j M M'):=by
 rw[ac2 qN ((c8 (aAy W)/\q=.ok (c7 "held") M)\/(aKk W/\∃M',q=.ok (c7 "ok") M'/\ahQ M' (JB Y.rs (bH Y.ps) (iu Y.ps) W r)/\ki j M M'))];simp only[zC,zD,zE,zF,Nat.zero_add,Nat.reduceAdd,Nat.reduceSub,List.replicate,zG,zH,zI];rw[aaA e1 (alo [t8,aax,none,none,none] qW) (aeV ah3 M ?_)]
 ·rw[aD,aD,e1];simp[xl hr]
 rw[adk]
 rw[ahU Np (agk aaC (aDL s.1)) (λ s tH=>R.lt r hr s.1 (ahg s tH)) (eO (aAy W) M ?_ (g8 hk) (g8 hk))]
 ·have e2:cg false (aox ai9) (iL c9) (gN 0) sI (av gh [b9,akC]) [t8,aax,alP,none,none] M=.ok (ς ((ag8 (aaC).map s (mh W s.1)).map .bl)) M:=by
   rw[cc (xs:=aaC) (w:=none) (M':=M) aI ah9 (λ s=>.bl (mh W s.1)) (ahW [y,t8]) (ej Ξ) trivial ah2 (aoj s hs) (adP Gs)]
   ·rw[List.filter_eq_self.mpr (λ _ _=>rfl),cN (aam Gs),List.map_map];rfl
   ·rw[aiK y hρ];refine abS _ rfl acV (g8 _);have:=hh s.1 (by rw[Ω YJ (Np s hs)]);simp[aI];simpa using this
  rw[eG,aZ,ax,e2];rw[alM aM]
  unfold EY;simp only[jh,Option.bind_some,qK,ag,jG,A4];rw[avg heldW List.any_map]
 ·exact aJV M (cY (aV (awk hk)))
 rw[amj (aqn (fS aI (λ pre ρ M1=>∃y z,ρ=[t8,aax,alP,y,z]/\ahQ M1 (axm W (alJ r pre) points (jK (bH Y.ps) (iu Y.ps) pre W.points))/\ki j M M1)
  aaC none M (ej Ξ) trivial (ad8 none none h ki.refl) ?_ ?_))]
 ·rintro pre s post hx ρ M1 ⟨y,z,rfl,h1,f1⟩;rw[ao8];rw[aip Ot (Np s (by rw[ajc])) e2 (anR [t8,aax,alP,ajH,z] uO) (aH (fq (η r) M1 (ο j) M1 (η s.1) M1 (M1.set j (ς ((alJ r (agw s)).map bJ))) Ξ e2 avJ ?_ ac4))]
  ·rw[nC h1.wl (by simp;rw[ae0 qS YJ Ot]),JQ,List.map_set];rfl
  rw[aeC h2 (h1.UG (alJ r (agw s))) f2 (aqM (M1.set j (ς ((alJ r (agw s)).map bJ)))) avw];generalize M1.set j (ς ((alJ r (agw s)).map bJ))=M2 at h2 f2;rw[aaA e3 (ar7 [t8,aax,alP,ajH,z] pF) (aw6 (aje).enc M2 ?_)]
  ·rw[aD,e3];simp only[aD,aA,bA,zB,zA,ag];rw[avq (aK amn (η 0) M2) (.ok (η s.1) M2) wV,ag,sM Ot]
  rw[ajW (eO (auF s.1) M2 ?_ (g8 jB) (g8 jB))]
  ·unfold bH;cases hp:aje<;>simp[Pc.enc,sr]
  ·rw[aaA e4 (ar7 [t8,aax,alP,ajH,some (aje).enc] HE) (fq (jL aCX) M2 (ο 6) M2 (η s.1) M2 (M2.set 6 (ς ((jK (bH Y.ps) (iu Y.ps) (agw s) W.points).map C8))) ?_ e4 avJ ?_ (aEU _ _ (h2.abA _) aF4))]
   ·unfold bH at jB;unfold iu;cases hp:aje with
    | pl a b=>rw[hp] at jB; cases jB
    | pt t u b =>
     rw[acH e (ju false (η u) (sT ([s.2.1,s.2.2].map η)) M2=_) wQ (Wj ?_)];rw[aD,aD];simp only[aA,bA,r9,nz,lp,zB,zA,ag,Pc.enc,D8];rw[Fo,ag,e];rfl
   ·rw[nC h2.w6 (by simp;rw[ae0 vL V8 Ot]),zd,if_pos jB,List.map_set];rfl
  ·rw[amj (aEU _ _ ?_ f2)];rw[ae0 zd (an7 (by rw[aH3 jB])) h2]
 ·rintro ρ' M1 ⟨y,z,rfl,h1,f1⟩;rw[aaA e2 (anR [t8,aax,alP,y,z] uN) (aqn (fq (cO az1) M1 (ο 7) M1 (c7 "green") M1 (M1.set 7 (.bB (wKs Y az1 W.now j))) ?_ Ξ Ξ (ag3 h1.put Fy) (acK (bx (c7 "ok") _ rfl (aV (c6 (ad8 hk _ (h1.UH _ _) avw)))))))];rw[aD,e2];simp only[jR,ax,aM,aA,zB,zA,ag];rw[av8,ag,qE,ahY (by simp[lim];omega)];simp
universe zE
universe Sb
universe zE
section
namespace Sb
open PySem L2
section
variable {Y:fE} {M:aY} {W:Wd} {j:Nat} {ρ:eu}
def UN aSK aSP:gT 2 (dA (gN a) (aqo b)) (sT [x,y]) ρ=ac1 (ρ.set a aeU).set b aoG:=rfl
def abD aPZ:ate an1:=by
 intro y hy;obtain⟨s,_,rfl⟩:=List.mem_map.mp hy;intro z hz;rw[ajr hz];rcases hz with rfl | rfl | rfl<;>exact jH _
def eq_nil aQf aQc:dW neg an1 (ς []) M=.ok (.bl (aja (afJ w []) (afJ w []))) M :=
 se (abD w) (abD []) (by cases w<;>simp[bG])
abbrev vN aPx aP6(t:Tr):Bool:=apD avT (! t.out && (apD (anx=(cw Y.ss s).1) (agf (ajf.1≠(cw Y.ss s).2))))
abbrev dy aPx aSs aP6:acm:=ae4 (d.filter λ q=>vN Y s q.2).map
def HF aPf:∀l:acm,c8 (PV.sX n (l.map η))
 | []=>rfl
 | x::l=>by rw[zC,PV.sX,HF n l]; rfl
def qv aRW aPn(hs:al4)(hn:aFV)(dz:aDZ q (agU auw))(Ow:aFQ):trunc rT [ο 7,η s] M=.ok (gW (dy Y W.trains s)) M:=by
 refine aEC (HF _ _)
 rw[ac2 rT (∃G,q=.ok (gW (dy Y W.trains s)) (M++G))];simp only[zC,zD,zE,zF,Nat.zero_add,Nat.reduceAdd,Nat.reduceSub,List.replicate,zG,zH,zI];rw[aaA e1 (h.ix (ρ:=[t8,aeD,none,none,none,none,none,none]) (d:=b8) rfl oJ) (aH (G6 av7 [t8,aeD,aoA,aoL,none,none,none,none] M ?_ UN ac4))]
 ·rw[aD,e1];simp[ay8]
 rw[ag1 aes (M++[ς []]) Ξ]
 rw[adk];rw[aip hp (ayj []) e2 (hp.ix (ρ:=[t8,aeD,aoA,aoL,adW,none,none,none]) (d:=b8) rfl fL) (aH ?_)];rw[aev hi (keys_eq hp.zb e2) FA hi];rw[amJ (yr hp.zb hi ?_) h10 aFG];rw[anu zs (∀f:d9,af2 ((M++akS f).set 10 (.jd ajb)) 10 .jd ajb) f (get_set (ayj f).zb) z7 (∀f:d9,af2 ((M++akS f).set 10 (.jd ajb)) 7 .bB (wKs Y W.green W.now j)) (λ f=>adS (ayj f).w7)];rw[ai3 zl (∀f:d9,((M++akS f).set 10 (.jd ajb))[M.length]? = anb f) (λ f=>ax7 Ξ) zu (∀f f':d9,((M++akS f).set 10 (.jd ajb)).set M.length (ς f')=(M++akS f').set 10 (.jd ajb)) (λ f f'=>by
  rw[agb (List.set_comm _ _ b6)]) (fS (λ q:Int×Tr=>PV.int q.1) (ak6 (∃a b c,ρ=[t8,aeD,aoA,aoL,adW,a,b,c]/\M'=(M++akS ((dy Y pre s).map η)).set 10 (.jd ajb))) W.trains _ _ hi (zs []) aLe ?_ ?_)]
 ·rintro pre q post hx ρ M' ⟨a,b,c,rfl,rfl⟩;rw[ao8]
  rw[ajS hq (q∈W.trains) (by rw[ajc]) v1 (jF ajb atZ) (f7 (dI q.2)) (by rw[kh,ayP]; rfl)]
  rw[ZI z1 (zs ((dy Y pre s).map η)) z2 (z7 ((dy Y pre s).map η))];rw[ZI z3 (zl ((dy Y pre s).map η)) z4 (zu ((dy Y pre s).map η))]
  rw[d6 UO (aiT (aeA (dy Y pre s))) (by
   rw[acP dy zK];refine asF (List.length_filter_le _ _) ?_;rw[hx,List.length_append] at Ow;omega) xm (dy Y (agw q) s=dy Y pre s++(if vN Y s q.2 then[q.1] else[])) (by
   rw[aiY dy List.filter_append List.map_append List.filter_cons];split<;>rfl)]
  rw[xm];generalize (M++akS ((dy Y pre s).map η)).set 10 (.jd ajb)=M1 at z1 z2 z3 z4
  rw[acH et (∀ ρ:eu,aAG 0->amP b8 aMW ρ M1=.ok (ο 10) M1) (λ ρ h0=>by
   rw[aj2 aD aA h0];rw[ag,bA,ag];exact nK z2 rfl fL) (aeV (dI q.2) M1 ?_)]
  ·rw[aD,et _ rfl,ag,aA];rw[aiv];rw[Ω ag (Fz z1 (k:=atZ) rfl v1)]
  rw[adk];rw[ajS i0 (aK (dI q.2) (η 0) M1=.ok (bG auw) M1) awB i1 (aK (dI q.2) (η 1) M1) (.ok (bG q.2.ahead) M1) (fK (i:=1) rfl)];rw[ajS i2 (aK (dI q.2) (η 2) M1=.ok (.bl q.2.out) M1) (fK (i:=2) rfl) i3 (aK (bG auw) (η 0) M1) (.ok aHA M1) (fK (i:=0) (LI (dz q hq)))];rw[ai3 i4 (aK aHA (η 2) M1=.ok (η (bX q.2).2.2) M1) D8 i5 (aK aHA (η 0) M1=.ok (η (bX q.2).1) M1) wV (aeV aHA M1 ?_)]
  ·simp only[aD,aA,bA,zB,zA,ag,i0,i3]
  rw[ajW (eO (vN Y s q.2) M1 ?_ (g8 hk) (g8 hk))]
  ·rw[anu el (∀ ρ:eu,cE false [] ρ M1=.ok (ς []) M1) ρ (by rw[aiY cE aM ag (bM d7)]) hbt (∀b:Bool,asZ (jG M1 (.bl b)) M1=.ok b M1) (aw9 b)];simp only[m3,bI,m4,eG,aD,aA,bA,zB,zA,ag,i1,i2,i4,i5,el,eq_nil,fu,hbt];unfold vN;by_cases h1:q.2.ahead=[]
   ·cases h2:q.2.out
    ·by_cases h3:(bX q.2).2.2=(cw Y.ss s).1
     ·by_cases h4:(bX q.2).1=(cw Y.ss s).2
      ·simp[h1,h3,h4]
      ·have h5:¬(akz (bX q.2)=acy (cw Y.ss s).2):=adm (h4 aII);simp[h1,h3,h4,h5]
     ·simp[h1,h3]
    ·simp[h1]
   ·simp[h1]
  ·rw[aj9 hk]
   rw[acH em (ji fB ZJ [aeJ] [t8,aeD,aoA,aoL,adW,al6,f7 (dI q.2),aDK (bX q.2)] M1=.ok .bb (M1.set M.length (ς ((dy Y pre s).map η++[η q.1])))) (by
    rw[Fv rfl z3 (xs:=[η q.1]) rfl];unfold fB C1;rw[ako z3 (agW (by rw[Ω zK (Nat.lt_of_le_of_lt UO d7)]))]) (cy .bb _ em ?_)];rw[z4];rw[aiy (bC (zs _) (abS _ _ _ ?_)) List.map_append]
   rfl
  ·rw[hk,ane,zI];have:=z4 ((dy Y pre s).map η);rw[amj (bC z1 (abS _ _ _ ?_))];rw[← this,BV z3]
 ·rintro ρ' M' ⟨a,b,c,rfl,rfl⟩;rw[aej (zs _) ac4];rw[nD (ayj ((dy Y W.trains s).map η)).zb];refine bx (gW (dy Y W.trains s)) (M++[.gone]) ?_ (aV (aiI [.gone]));simp[ES,ET]
universe zE
universe Sb
universe zE
section
namespace Sb
open PySem L2
section
variable {Y:fE} {M:aY} {W:Wd} {j:Nat} {ρ:eu}
def UP aQf aPj{ns:ae6}:ju neg (η r) (cO ns) M=.ok (.bl (aja (ac5 r ns) (ac5 r ns))) M :=
 sf (enc:=alC) (λ a=>jH _) (λ a b e=>by cases e; rfl) (a:=r) (as:=ns) rfl
def k9 aPj{gn gb gf:D1}aPn aRs(hs:aFL)(Fp:aD9)(IJ:aAd)
  (hn:∀M W' aP6,ahQ M W'->W'.trains=W.trains->al4->gn [ο 7,η s] M=.ok (gW (dy Y W.trains s)) M)
  aW1
  (hf:∀M W,acX->aAe->gf [ο 7,η r] M=.ok .bb ((M++atA (aiW).map).set 7 (.bB (wKs Y W.green W.now M.length))))
  (YJ:aAe) :
  (ar2/\kI gn gb gf [ο 7,η r] M=.ok (c7 "none") M) ∨
  (akF/\((ae8 (alf 0 (!(dy Y W.trains Es).isEmpty || ahE))/\∃M',kI gn gb gf [ο 7,η r] M=.ok (c7 "ok") M'/\ahQ M' (BM W r ⟨avE,dy Y W.trains Es,ahE⟩)/\ki j M M') ∨
   (ai6 (alf 0 (!(dy Y W.trains Es).isEmpty || ahE))/\∃M',kI gn gb gf [ο 7,η r] M=.ok (c7 "ok") M'/\gQ Y M' (sk W r) M.length/\ki j M M'))):=by
 rw[ac2 kI ((ar2/\q=.ok (c7 "none") M) ∨
  (akF/\((ae8 (alf 0 (!(dy Y W.trains Es).isEmpty || ahE))/\∃M',q=.ok (c7 "ok") M'/\ahQ M' (BM W r ⟨avE,dy Y W.trains Es,ahE⟩)/\ki j M M') ∨
   (ai6 (alf 0 (!(dy Y W.trains Es).isEmpty || ahE))/\∃M',q=.ok (c7 "ok") M'/\gQ Y M' (sk W r) M.length/\ki j M M'))))]
 simp only[zC,zD,zE,zF,Nat.zero_add,Nat.reduceAdd,Nat.reduceSub,List.replicate,zG,zH,zI];rw[aaA e1 (h.ix (ρ:=[t8,aax,none,none,none,none]) (d:=b8) rfl uN) (aH (atH arV))]
 ·rw[bI,aD,ayS 1 [t8,aax,none,none,none,none] .ok r,ag,e1,ag,UP]
  rfl
 ·exact aJW M (cY (aV (awk ajD)))
 rw[acH hk akF ajD (dq (aqn (fq (cO (W.green.filter (acN x (x≠r)))) M (ο 7) M (c7 "green") M (adw 7 .bB (wKs Y (W.green.filter (acN x (x≠r))) W.now j)) ?_ Ξ Ξ (ag3 h.put Fy) ac4)))]
 ·rw[cc (xs:=W.green) (w:=none) (M':=M) alC (ajd x x r) alC (ahW [y,aax]) (ej e1) trivial ah2 (akf x) (adP Fp)]
  ·exact ahY (by rw[alb (aiH (List.length_filter_le _ _) (adP Fp))])
  ·rw[aiK y hρ]
   refine⟨_,rfl,acV,?_,anm⟩
   simp only[List.set_cons_zero,bI,aD,aA,zB,zA,ag,fu]
   by_cases e2:x=r
   ·subst e2;simp
   ·have e3:¬(aCV=r):=b6
    simp[e2,e3]
 have h1:=h.UH (W.green.filter (acN x (x≠r))) W.now
 rw[d6 f1 (aqM (adw 7 .bB (wKs Y (W.green.filter (acN x (x≠r))) W.now j))) anf l1 (aEW (adw 7 .bB (wKs Y (W.green.filter (acN x (x≠r))) W.now j))) List.length_set];generalize adw 7 .bB (wKs Y (W.green.filter (acN x (x≠r))) W.now j)=M1 at h1 f1 l1
 have ers:∀(ρ:eu),aAG 0->aj7 1 aax->amP (ami asL) (Θ 0) ρ M1=.ok (η Es) M1:=λ ρ h0 h1'=>by
  have:=h1.ix (ρ:=ρ) (d:=b8) (anE h0) qW;rw[aD,aD,this,ag,aA,h1'];simp[xl hr]
 rw[aaA e2 (anR [t8,aax,none,none,none,none] oJ) (aH (G6 (dw (cw Y.ss Es)) [t8,aax,aBN,aB3,none,none] M1 ?_ UN ac4))]
 ·rw[aD,e2,ag,ers _ rfl rfl,ag,ay8]
 rw[ag1 (gW (dy Y W.trains Es)) M1 ?_]
 ·rw[aZ,ax,aA];simp only[zB,zA,ag];rw[ax,ers _ rfl rfl];simp[hn M1 _ Es h1 rfl hs]
 rw[adk]
 rw[aaA e3 (anR [t8,aax,aBN,aB3,aFT,none] pF) (aeV (.bl ahE) M1 ?_)]
 ·rw[aD,aZ,ax,e3];simp only[ax,aM,aA,zB,zA,ag,bA,hb];unfold cq;cases alG (cw Y.ss Es).2 (cw Y.ss Es).1<;>rfl
 rw[adk]
 rw[ZI e4 (anR [t8,aax,aBN,aB3,aFT,amC .bl ahE] YI) e5 (anR [t8,aax,aBN,aB3,aFT,amC .bl ahE] Q3)];rw[aaA e6 (anR [t8,aax,aBN,aB3,aFT,amC .bl ahE] mf) (aH (eO (alf 0 (!(dy Y W.trains Es).isEmpty || ahE)) M1 ?_ (g8 jB) (g8 jB)))]
 ·rw[m3,bI,aD,e4];simp only[ag,bA,QS,vF,eG,aA,zB,zA,A4]
  rw[anu hbt (∀l:acm,jG M1 (gW l)=f7 (! l.isEmpty)) l (by cases l<;>rfl) hb2 (∀b:Bool,b7 (jG M1 (.bl b)) b) (aw9 b)];cases UO:(dy Y W.trains Es).isEmpty<;>by_cases hwt:0<Y.wait<;>simp[hwt,hbt,hb2,UO]
 ·refine fq (eW r ⟨avE,dy Y W.trains Es,ahE⟩) M1 (ο 9) M1 (η r) M1 (M1.set 9 (.bB (afh eW (cv W.falls r ⟨avE,dy Y W.trains Es,ahE⟩)))) ?_ e6 Ξ ?_ (acK (bx (c7 "ok") _ rfl (aV (alx hk (b5 (ad8 jB _ (h1.UI _) avw))))))
  ·rw[r6,ax,aD,e5,ag,e4,ag,show dX false (η W.now) ayk M1=.ok (η avE) M1 from rfl]
   simp[eW]
  ·rw[awZ h1.w9 r (by rw[Ω pA (Nat.lt_of_le_of_lt IJ d7)])]
   congr 3
   exact pz eW r _ _
 ·rw[aaA e7 (hf M1 _ h1 YJ) (cy .bb _ (by rw[anr e7]) (acK (bx (c7 "ok") _ rfl (aV (alx hk (c6 (ad8 jB _ ?_ (aEm ki.push anf))))))))];have:=h1.abB aiW;rw[akU l1 this this]
def qw{gf:D1}aPn(xA:aFU)(IJ:aAd)(YJ:aAe)
  (hf:∀M W j aPk,acX->aAe->gf [ο 7,η r] M=.ok .bb ((M++atA (aiW).map).set 7 (.bB (wKs Y W.green W.now M.length)))) :
  ∃M' j',rV gf [ο 7] M=.ok (c7 "ok") M'/\gQ Y M' (nP W) j'/\aHg/\(j'=j\/aAg j'):=by
 rw[ac2 rV (∃M' j',q=.ok (c7 "ok") M'/\gQ Y M' (nP W) j'/\aHg/\(j'=j\/aAg j'))];simp only[zC,zD,zE,zF,Nat.zero_add,Nat.reduceAdd,Nat.reduceSub,List.replicate,zG,zH,zI];rw[aaA e1 (h.ix (ρ:=[t8,none]) (d:=b8) rfl Q3) (aH (fq (η anS) M (ο 7) M (c7 "now") M (adw 7 .bB (wKs Y W.green anS j)) ?_ Ξ Ξ (ag3 h.put abC) ac4))]
 ·rw[aD,e1,ag,bA,ag]; rfl
 rw[aeC h1 (h.UH W.green anS) f1 (aqM (adw 7 .bB (wKs Y W.green anS j))) anf]
 rw[axB (adw 7 .bB (wKs Y W.green anS j)) h1 f1];have e2:=anR [t8,none] mf
 rw[ahU ei (av (jO false) [amy] [t8,none] M1=.ok (ς ((aht).map azM)) M1) (by
  rw[aZ,ax,e2]
  rw[alM aM]
  rw[ani jO (eD h1.w9)]
  have e3:(encD eW W.falls).map azN=(aht).map azM:=by
   rw[aga encD List.map_map List.map_map];rfl
  rw[e3,ahY (by rw[axO IJ])]) (fS azM (λ pre ρ M2=>∃y j2,ρ=[t8,y]/\gQ Y M2 (pre.foldl cP (xg W)) j2/\ki j M M2/\(j2=j\/aAg j2)/\aHW (pre.foldl cP (xg W)).locks.length) aht none M1 (ej ei) trivial ⟨none,j,rfl,h1,f1,b5 rfl,YJ⟩ ?_ ?_)]
 ·rintro pre r post hx ρ M2 ⟨y,j2,rfl,h2,f2,o2,l2⟩;rw[ao8]
  have Wg:=Fs xA hx;rw[d6 Ft (aJ (pre.foldl cP (xg W)).falls r=arX) (Ef pre _ Wg) YD (r∈aht) (by rw[ajc])]
  rw[auz u Ox ((mem_keys _ _).mp YD)]
  have QW:(pre.foldl cP (xg W)).now=anS:=by rw[acR yw]
  rw[ZI e3 (ar7 [t8,aax] mf) e4 (ar7 [t8,aax] Q3)]
  rw[ajS e5 (amP (axg amy) (Θ 0) [t8,aax] M2=.ok (η u.u) M2) (by
   rw[aD,aD,e3,ag];simp only[aA,zB,zA,ag];rw[nK h2.w9 (k:=awu) (v:=azS) rfl (by rw[eZ,Ft,Ox]; rfl)];simp[eW]) xm ((agw r).foldl cP (xg W)) (cP (pre.foldl cP (xg W)) r) (by rw[List.foldl_append];rfl)]
  have Nr:yY (pre.foldl cP (xg W)).falls (pre.foldl cP (xg W)).now r=arL u.u anS:=by
   rw[aiY yY Ft Ox QW]
  generalize pre.foldl cP (xg W)=W2 at *;refine eO (arL u.u anS) M2 ?_ (g8 hk) (g8 hk)
  ·rw[bI,aD,e5,ag,e4,ag,QW,Hx];rfl
  ·rw[aiy (aH (Ed (k:=awu) (y:=η r) azS e3 h2.w9 Ξ rfl (by rw[eZ,Ft,Ox]; rfl) ac4)) qT];have h3:=h2.UI (cF W2.falls r)
   rw[d6 f3 (aqM (M2.set 9 (.bB (afh eW (cF W2.falls r))))) aF4 l3 (aeA (M2.set 9 (.bB (afh eW (cF W2.falls r))))=M2.length) List.length_set];generalize M2.set 9 (.bB (afh eW (cF W2.falls r)))=M3 at h3 f3 l3;rw[aaA e7 (hf M3 _ _ r h3 l2) (cy .bb _ (by rw[anr e7]) (afR ⟨_,M3.length,rfl,?_,x6 (f3.trans ki.push) anf,c6 f3.len,?_⟩))]
   ·rw[xm];rw[ahc cP (agW aM8) (h3.abB _)]
   ·rw[xm];rw[acP cP (agW aM8)];simpa[hZ] using l2
  ·rw[amj (afR ⟨_,j2,rfl,?_,f2,o2,?_⟩)]
   ·rw[xm];rw[ahc cP (aq3 hc (by rw[aev h9 (Nr.symm.trans hc) hk h9]; cases h9)) h2]
   ·rw[xm];rw[ahc cP (aq3 hc (by rw[aev h9 (Nr.symm.trans hc) hk h9]; cases h9)) l2]
 ·rintro ρ' M2 ⟨y,j2,rfl,h2,f2,o2,l2⟩;exact acK (bx (c7 "ok") M2 rfl (aV (ama M2 j2 h2 f2 o2)))
def ou aQo{gh:D1}aPn(hp:aln)(YJ:aAe)(Jz:ao5->∃b,axj p = akj b)
  (hh:gh [ο 7,η p] M=.ok (.bl amc) M) :
  (aKj p/\lF gh [ο 7,η p] M=.ok (c7 "none") M) ∨
  (ao5/\((ae8 amc/\lF gh [ο 7,η p] M=.ok (c7 "held") M) ∨
   (ai6 amc/\∃M',lF gh [ο 7,η p] M=.ok (c7 "ok") M'/\ahQ M' (qf W p)/\ki j M M'))):=by
 rw[ac2 lF ((aKj p/\q=.ok (c7 "none") M) ∨
  (ao5/\((ae8 amc/\q=.ok (c7 "held") M) ∨
   (ai6 amc/\∃M',q=.ok (c7 "ok") M'/\ahQ M' (qf W p)/\ki j M M'))))]
 simp only[zC,zD,zE,zF,Nat.zero_add,Nat.reduceAdd,Nat.reduceSub,List.replicate,zG,zH,zI];rw[aaA e1 (h.ix (ρ:=[t8,aia]) (d:=b8) rfl pF) (aH (atH (auF p)))]
 ·rw[bI,aD,aD,aD,e1];simp only[aA,zB,zA,ag,sM hp,bA];unfold bH;cases hp:Pc.at Y.ps p<;>simp[Pc.enc,sr]
 ·exact aJW M (cY (aV (awk ajD)))
 rw[acH hk ao5 ajD (dq (aqn (eO amc M ?_ (g8 jB) (g8 jB))))]
 ·simp[hh,jG]
 ·exact aJV M (cY (aV (alx hk (awk jB))))
 rw[apB b hb (Jz hk) qk (p<W.points.length) (List.getElem?_eq_some_iff.mp hb).1];have h1:=h.push (.bB [(axk,atn),(axv,af9)]);rw[d6 f1 (aqM (M++[.bB [(axk,atn),(axv,af9)]])) ki.push g1 ((M++ant [(axk,atn),(axv,af9)])[M.length]? = abq .bB [(axk,atn),(axv,af9)]) Ξ]
 have ed:C3 [("straight",aq7),("branch",(dC af9))] [t8,aia] M=.ok aes (M++ant [(axk,atn),(axv,af9)]):=by
  rw[aHM]
 generalize M++ant [(axk,atn),(axv,af9)]=M1 at h1 f1 g1 ed;rw[apL e2 (anR [t8,aia] HE) e3 (aK (ο 6) (η p) M1=.ok (jL b) M1) (uJ h1.w6 (by rw[zJ,hb]; rfl)) (atL (fq (jL (! b)) M1 (ο 6) M1 (η p) M1 (M1.set 6 (ς ((aAm (some ! b)).map C8))) ?_ e2 Ξ (by rw[nC h1.w6 (aam qk),List.map_set];rfl) (acK (bx (c7 "ok") _ rfl (aV (alx hk (c6 (ad8 jB _ ?_ avw))))))))]
 ·rw[aD,ed,ag,aD,e2,ag];simp only[aA,zB,zA,ag,e3];cases b
  ·exact axY g1 k axv aao
  ·exact axY g1 k axk aao
 ·have:=h1.abA (aAm (some ! b));rw[aga qf List.getD_eq_getElem?_getD hb];rw[ap9]
universe zE
universe Sb
universe zE
end
mutual
section
namespace Sb
open PySem L2
section
variable {Y:fE} {M:aY} {W:Wd} {j:Nat} {ρ:eu}
abbrev LO aQa aSh:Wd:={ W with green:=W.green.filter (ajd y y r),falls:=atW,locks:=W.locks.set ((agc).headD (0,0,0)).1 none }
abbrev uU aRv aPk:Fl:=(arX).getD (aj1 0 [x])
def JR aUS:vM Y W x s r=(apD (Es=s) ((uU W x r).bd || ac5 x (uU W x r).ns)):=by
 unfold vM uU;cases arX<;>simp
def JS(d:alX):((aq1 eW).map azN)=(ajX).map alC:=by
 rw[aga encD List.map_map List.map_map];rfl
def UQ aQf aPr aRO:ju neg (η x) (gW ns) M=.ok (.bl (aja (ac5 x ns) (ac5 x ns))) M:=qO
def Nw{ρ:eu}aPg aPj{g:ae6}aPo(hd:aaQ=.ok (cO g) M)(hc:wC (akb k) ρ=aox aax)(hl:ang g.length) :
  cg false (akb k) (iL d) (gN 0) (ba (ay (dW true) b8 b9)) b8 ρ M=.ok (cO (g.filter (ajd x x r))) M:=by
 rw[cc (xs:=g) (w:=none) (M':=M) alC (ajd x x r) alC (ahW [y,aax]) (ej hd) trivial ⟨none,hc⟩ (akf x) (adP hl)]
 ·exact ahY (by rw[alb (aiH (List.length_filter_le _ _) (adP hl))])
 ·rw[aiK y hρ]
  refine⟨_,rfl,acV,?_,anm⟩
  simp only[List.set_cons_zero,bI,aD,aA,zB,zA,ag,fu]
  by_cases e2:x=r
  ·subst e2;simp
  ·have e3:¬(aCV=r):=adm (e2 aII);simp[e2,e3]
def oO aPr aRW aPn(Ou:∀r,ahV->adg)(dz:aHB)(Gs:∀r<Y.rs.length,aya)(Fp:aD9)(IJ:aAd)
  (Fb:∀r,ahV->aqu ((aaC).headD (0,0,0))) :
  match pC Y W x s with
  | none=>pb [ο 7,η s,η x] M=.ok .bb M
  | akw=>∃M',pb [ο 7,η s,η x] M=.ok ah3 M'/\ahQ M' (LO Y.rs W r)/\ki j M M':=by
 rw[ac2 pb (match pC Y W x s with | none=>q=.ok .bb M | akw=>∃M',q=.ok ah3 M'/\ahQ M' (LO Y.rs W r)/\ki j M M')]
 simp only[zC,zD,zE,zF,Nat.zero_add,Nat.reduceAdd,Nat.reduceSub,List.replicate,zG,zH,zI];rw[ZI e1 (alo [t8,aeD,x9,none,none,none] uN) e2 (alo [t8,aeD,x9,none,none,none] mf)]
 rw[ahU ei (ay (dX false) aAD (av (jO false) [amy]) [t8,aeD,x9,none,none,none] M=.ok (ς ((aBQ).map alC)) M) (by
  rw[aD,e1,ag,aZ,ax,e2];rw[alM aM];rw[ani jO (eD h.w9)];rw[JS,ahY (by rw[axO IJ]),ag,qE,List.map_append,ahY (by simp[lim];omega)]) (fS alC (ak6 (∃a b c,ρ=[t8,aeD,x9,a,b,c]/\M'=M/\aIM (vM Y W x s))) aBQ none M (ej ei) trivial (asi none none none rfl rfl) ?_ ?_)]
 ·rintro pre r post hx ρ M' ⟨a,b,c,rfl,rfl,la⟩;rw[ao8];rw[ajG hlr ahV (List.mem_append.mp (by rw[ajc])) hr (Ou r hlr)]
  rw[anu abF (c8 (vM Y W x s r)->anK (pC Y W x s)) hm (by
   unfold pC;rw[hx,List.find?_append,la,List.find?_cons,hm];rfl) Wk (acS (vM Y W x s r)->aaz ((agw r).find? (vM Y W x s))) (asl (by
   rw[List.find?_append,la,List.find?_cons,hm];rfl))]
  rw[acH er (amP asL aah [t8,aeD,x9,aax,b,c] M'=.ok (sT [η Es,ah3]) M') (by
   have:=alo [t8,aeD,x9,aax,b,c] qW;rw[aD,this,ag,aA];rw[aiv];rw[Ω ag (xl hr)]) (eO (afJ Es s) M' ?_ (g8 hk) (g8 hk))]
  ·rw[bI,aD,aD,er,ag,bA,ag,show aK (sT [η Es,ah3]) (η 0) M'=.ok (η Es) M' from rfl,ag,aA]
   rw[aiv];rw[ag,fu];by_cases e9:Es=s
   ·simp[e9]
   ·have e8:¬(acy Es=atY):=adm (e9 aII);simp[e9,e8]
  ·rw[aip hk aN5 e3 (alo [t8,aeD,x9,aax,b,c] mf) (aeV (eW r (uU W x r)) M' ?_)]
   ·unfold nF
    rw[aj2 e3 ag (eD h.w9)];rw[aA];rw[aiv]
    rw[ag]
    have ed:iS [Θ 0,aem [c9],aoe .bl] [t8,aeD,x9,aax,b,c] M'=.ok (sT [η 0,ς [η x],aiU .bl]) M':=by
     unfold iS cE;simp only[ax,aM,bA,aA,zB,zA,ag];rw[ahY (by show aqq 1;decide)];simp only[ag]
    rw[ed,ag,eD h.w9];rw[ako kQ eZ];unfold uU;cases arX<;>rfl
   rw[ajW (eO ((uU W x r).bd || ac5 x (uU W x r).ns) M' ?_ (g8 jB) (g8 jB))]
   ·rw[d6 i2 (aK (eW r (uU W x r)) (η 2) M'=.ok (.bl (uU W x r).bd) M') rfl i1 (aK (eW r (uU W x r)) (η 1) M'=.ok (gW (uU W x r).ns) M') rfl];have hbt:∀b:Bool,asZ (jG M' (.bl b)) M'=.ok b M':=aw9 b;simp only[vF,eG,bI,aD,aA,bA,zB,zA,ag,i1,i2,UQ,hbt];cases (uU W x r).bd<;>simp
   ·have hm:c8 (vM Y W x s r):=by rw[JR,jB]; simp[hk]
    rw[abF hm]
    obtain⟨s0,w,ew⟩:∃s0 w,aaC=s0::w:=by
     cases e9:aaC with
     | nil=>rw[afZ e9 (dz r hr)]
     | cons a b=>rw[an0 a b]
    rw[ZI e4 (alo [t8,aeD,x9,aax,f7 (eW r (uU W x r)),c] uN) h1 (h.UH (W.green.filter (acN y (y≠r))) W.now)];rw[ahU f1 (ki j M' (M'.set 7 (.bB (wKs Y (W.green.filter (acN y (y≠r))) W.now j)))) anf (fq (cO (W.green.filter (acN y (y≠r)))) M' (ο 7) M' (c7 "green") M' (M'.set 7 (.bB (wKs Y (W.green.filter (acN y (y≠r))) W.now j))) (Nw e4 rfl Fp) rfl rfl (ag3 h.put Fy) ac4)];rw[axB (M'.set 7 (.bB (wKs Y (W.green.filter (acN y (y≠r))) W.now j))) h1 f1];have e5:=anR [t8,aeD,x9,aax,f7 (eW r (uU W x r)),c] mf
    rw[aq4 v2 p2 (BZ (dx:=dC .bb) (z:=.bb) e5 h1.w9 (k:=r) (dk:=aah) rfl rfl) h2 (h1.UI atW)];rw[ahU f2 (ki j M' (M1.set 9 (.bB (afh eW atW)))) avw (anA v2 _ p2)];generalize M1.set 9 (.bB (afh eW atW))=M2 at h2 f2;rw[ag1 ah3 M2 ?_]
    ·have e6:=ar7 [t8,aeD,x9,aax,f7 (eW r (uU W x r)),c] qW;rw[aZ,ax,aD,aD,e6,ag,aA];rw[aiv];rw[ag,xl hr,ag,bA,ag,show aK (sT [η Es,ah3]) (η 1) M2=.ok ah3 M2 from rfl,ag,aM,ag,ag]
     rw[ani lE qD]
     exact ahY (by rw[aqg (Gs r hr)])
    rw[adk]
    rw[ZI e7 (ar7 [t8,aeD,x9,aax,f7 (eW r (uU W x r)),alP] uO) sV (Fb r hlr)];rw[ew] at sV;rw[aaA h3 (h2.UG (W.locks.set s0.1 none)) (aH (fq .bb M2 (ο j) M2 (η s0.1) M2 (M2.set j (ς ((W.locks.set s0.1 none).map bJ))) rfl e7 ?_ ?_ (acK (bx ah3 _ rfl (AA (cY (aV (ahh _ ?_ aF4))))))))]
    ·rw[aD,aD,aA]
     rw[aiv];rw[ag,bA,ag,ew,avq (aK (bG (s0::w)) (η 0) M2) (.ok (aI s0) M2) awB,ag,bA,ag]
     exact wV
    ·rw[nC h2.wl (by rw[alb sV]),List.map_set];rfl
    ·rw[ahc LO ew h3]
   ·rw[amj (afR (asi _ _ _ rfl (Wk ?_)))];rw[JR,jB,Bool.and_false]
  ·rw[amj (afR (asi _ _ _ rfl (Wk ?_)))];rw[JR,hk,Bool.false_and]
 ·rintro ρ' M' ⟨a,b,c,rfl,rfl,la⟩;refine acK (bx .bb M' rfl (aV ?_));rw[auo (aaz (pC Y W x s)) la]
universe zE
universe Sb
universe zE
section
namespace Sb
open PySem L2
abbrev UR:Kd->Str
 | .ok => "ok"
 | abc => "none"
 | .held => "held"
 | .red => "red"
abbrev B4 aPx aRU aPh aU8(W':Wd):Prop:=match k with
 | .ok=>∃M' j',res=.ok (c7 "ok") M'/\gQ Y M' W' j'/\aHg/\(j'=j\/aAg j')
 | abc=>res=.ok (c7 "none") M
 | .held=>res=.ok (c7 "held") M
 | .red=>res=.ok (c7 "red") M
section
variable {Y:fE} {M:aY} {W:Wd} {j:Nat} {ρ:eu}
def YK aPi:qH xs ahM none=xs.drop 1:=by
 cases xs with
 | nil=>rfl
 | cons x xs=>exact Qx (k:=1) Ξ
def YL aPi:aFg azu=xs.dropLast:=by
 rw[aiY qH HT.AV Nat.sub_zero List.drop_zero]
 have e:HT.lP xs.length xs.length azu=asY 1:=by
  rw[ams HT.lP];rw[aj9 d7];omega
 rw[e,List.dropLast_eq_take]
def YM aPi:aFg ahM=xs.take 1:=Jx (k:=1)
def Wl aQc:rn false an1 .bb M=.ok (aiU .bl) M:=rfl
def Q5 aQc(hl:aEw):GV false an1 none ahM M=.ok (bG (w.take 1)) M:=by
 show(match akI (ς as3) with | aj4=>tJ false (aFg ahM) M | none=>d5)=_
 rw[agV jh];rw[YM,← List.map_take,ahY (by rw[aqg (List.length_take_le _ _)])]
def Q6 aQc(hl:aEw):GV false an1 ahM none M=.ok (bG (w.drop 1)) M:=by
 show(match akI (ς as3) with | aj4=>tJ false (qH xs ahM none) M | none=>d5)=_
 rw[agV jh];rw[YK,← List.map_drop,ahY (by rw[ae0 zK List.length_drop (aiH (Nat.sub_le _ _) (adP hl))])]
def abG aQc(hl:aEw):GV false an1 none azu M=.ok (bG w.dropLast) M:=by
 show(match akI (ς as3) with | aj4=>tJ false (aFg azu) M | none=>d5)=_
 rw[agV jh];rw[YL,← List.map_dropLast,ahY (by rw[ae0 zK List.length_dropLast (aiH (Nat.sub_le _ _) (adP hl))])]
def Wm{a b:z0}(ha:aiT a.length)(hb:aiT b.length):dX false (bG a) (bG b) M=.ok (bG (a++b)) M:=by
 show tJ false (apR++b.map aI) M=_;rw[← List.map_append,ahY (by rw[zK,List.length_append]; show _≤16000000;omega)]
abbrev JT aPx(gp:D1):Prop:=∀aPh aP4 aRU aPv aP6,acX->(∀r,ahV->adg)->aD9->aAd->(∀r,ahV->aqu ((aaC).headD (0,0,0))) →
 match pC Y W x s with
 | none=>gp [ο 7,η s,η x] M=.ok .bb M
 | akw=>∃M',gp [ο 7,η s,η x] M=.ok ah3 M'/\ahQ M' (LO Y.rs W r)/\ki j M M'
structure WOk aPH:Prop where
 lv:∀r,ahV->adg
 gl:aD9
 fl:aAd
 lk:∀r,ahV->aqu ((aaC).headD (0,0,0))
 wl:∀r<Y.rs.length,aya
 nd:aFV
 tl:aFQ
 sl:∀x t,acJ=adt->t.steps.length≤99/\aiT t.ahead.length/\aHh
 al:∀x t,acJ=adt->axw (aqu s)
def yx aP8 aPn(hl:aFQ):zx (ο 10) (η x) (dI t) M=f7 (adw 10 .bB (ee eR (amI t))):=by
 rw[ayC h.zb aon (by rw[Ω BR (Nat.lt_of_le_of_lt hl d7)])]
 congr 3
 exact Hw eR x t _
def uP aWP:ahV:=List.mem_append.mp (List.mem_of_find?_eq_some h)
def ow aPr aRW{gb gp:D1}aUe(hs:al4)aW1(hp:JT Y gp) :
  B4 Y j M (pW gb gp [ο 7,η x,η s] M) (mO Y W x s) (pD Y W x s):=by
 rw[ac2 pW (B4 Y j M q (mO Y W x s) (pD Y W x s))];simp only[zC,zD,zE,zF,Nat.zero_add,Nat.reduceAdd,Nat.reduceSub,List.replicate,zG,zH,zI];rw[aaA e1 (h.ix (ρ:=[t8,x9,aeD,none,none,none]) (d:=b8) rfl oJ) (aH (G6 av7 [t8,x9,aeD,aoA,aoL,none] M ?_ UN ac4))]
 ·rw[aD,e1];simp[ay8]
 unfold mO pD;rw[aEb (as4 hs)];rw[aaA e2 (h.ix (ρ:=[t8,x9,aeD,aoA,aoL,none]) (d:=b8) rfl pF) (aH (atH ajl))]
 ·rw[bI,aD,aZ,ax,e2];simp only[ax,aM,aA,zB,zA,ag,bA,hb];unfold cq;cases alG (cw Y.ss s).2 (cw Y.ss s).1<;>rfl
 ·have hk:acS ajl:=ajD
  rw[Ω hk (aJW M (cY (aV rfl)))]
 have hk:c8 ajl:=ajD
 rw[hk,afC];rw[aaA e3 (alo [t8,x9,aeD,aoA,aoL,none] fL) (afX (aqn (eO aFW M ?_ (g8 jB) (g8 jB))))]
 ·rw[aCs];rw[ag,e3,ag,tY h.zb (k:=aon) rfl,kh];simp
 ·rw[ae0 jB afC (aJV M (cY (aV rfl)))]
 rw[jB,ane];rw[amJ arC ep (hp M W j x s h K.lv K.gl K.fl K.lk)];cases YN:pC Y W x s with
 | none =>
  rw[avd YN ep (aw6 .bb M (f6 ep))];rw[adk];exact aH (G5 M Ξ (bx (c7 "red") M rfl (cY (aV rfl))))
 | some r =>
  rw[YN] at ep;obtain⟨M1,p1,p2,p3⟩:=ep;rw[aaA Gs (K.wl r (K.lv r (uP YN))) (aeV ah3 M1 (by rw[anr p1]))];rw[ajW (aH (pO M1 (f6 Wl) aGk))];rw[aip e4 (p2.ix (ρ:=[t8,x9,aeD,aoA,aoL,alP]) (d:=b8) rfl fL) h2 (p2.B3 (amI (aj1 ((aaC).take 1++[]) ((aaC).drop 1)))) (fq (dI (aj1 ((aaC).take 1++[]) ((aaC).drop 1))) M1 (ο 10) M1 (η x) M1 _ ?_ e4 rfl (aBu p2) (acK (bx (c7 "ok") _ rfl (aV (ama _ j h2 (p3.trans anf) (b5 rfl))))))];rw[ZI sa (Q5 (M:=M1) Gs) sb (Q6 (M:=M1) Gs)];unfold cE;simp only[ax,aM,r9,nz,lp,aA,bA,zB,zA,ag,sa,sb];rw[ahY (by rw[azt]),zI];rfl
def Q7 aP8{d dk:DE}aPn aQ3(hd:aaQ=.ok (ο 7) M)(hk:dk ρ M=.ok (η x) M):anN (aJh d) dk ρ=.ok (dI t) M:=by
 rw[aD,h.ix hd fL,ag,hk,ag];exact axY h.zb k aon (by rw[kh,hx]; rfl)
def YO{t:Tr}:agF (dI t) 0=.ok aKC M:=awB
def tr1{t:Tr}:agF (dI t) 1=.ok (bG t.ahead) M:=fK (i:=1) rfl
def tr2{t:Tr}:agF (dI t) 2=.ok (.bl t.out) M:=fK (i:=2) rfl
def abJ aQc(h:agU w):agF an1 0=.ok (aI (w.headD (0,0,0))) M:=fK (i:=0) (LI h)
def US aQ0:agF (aI s) 0=.ok (η s.1) M:=wV
def abK aQ0:agF (aI s) 2=.ok (η s.2.2) M:=D8
def vO aQI:asZ (jG M (.bl b)) M=.ok b M:=rfl
def LP:cE false [] ρ M=.ok (ς []) M:=by rw[aiY cE aM ag (bM d7)]
def Wn{b:aeQ}:rn false (bJ b) .bb M=.ok (.bl b.isNone) M:=by cases b<;>rfl
def xD aP8{gb gp:D1}aUe aQ3 aW1(hp:JT Y gp) :
  B4 Y j M (wM gb gp [ο 7,η x] M) (Nu Y W x) (JN Y W x):=by
 rw[ac2 wM (B4 Y j M q (Nu Y W x) (JN Y W x))];simp only[zC,zD,zE,zF,Nat.zero_add,Nat.reduceAdd,Nat.reduceSub,List.replicate,zG,zH,zI];obtain⟨sW,hal,dz⟩:=K.sl x t hx
 unfold Nu JN
 rw[agV hx];rw[ag1 (dI t) M (Q7 h hx rfl rfl)]
 rw[akp (aI ajf) M (by simp only[aD,aA,bA,zB,zA,ag,YO,abJ dz]; rfl)];rw[ajW (aH (eO t.out M (by simp only[eG,aD,aA,bA,zB,zA,ag,tr2,vO]) (g8 hk) (g8 hk)))]
 ·rw[ae0 hk afC (bx (c7 "red") M rfl (cY (aV rfl)))]
 rw[hk,ane];rw[amj (aqn (eO (!(agf avT)) M ?_ (g8 jB) (g8 jB)))]
 ·simp only[bI,aD,aA,bA,zB,zA,ag,tr1,LP,eq_nil,if_true]
 ·have jB:aCp:=aCc
  rw[akr jB jB]
  have hhd:aqu (t.ahead.headD (0,0,0)):=by
   refine K.al x t hx _ ?_;cases e9:t.ahead with
   | nil=>rw[afZ e9 jB]
   | cons a b=>simp
  rw[ZI e1 (alo [t8,x9,ahS,avu,none,none] uO) h1 (h.UG aB6)];rw[ahU f1 (aqM (akL j ((aB6).map bJ))) anf (fq .bb M (ο j) M (η (t.ahead.headD (0,0,0)).1) M (akL j ((aB6).map bJ)) rfl e1 ?_ ?_ ac4)]
  ·simp only[aD,aA,bA,zB,zA,ag,tr1,abJ jB,US]
  ·rw[nC h.wl (by rw[alb hhd]),List.map_set];rfl
  rw[axB (akL j ((aB6).map bJ)) h1 f1];rw[aip e2 (anR [t8,x9,ahS,avu,none,none] fL) h2 (h1.B3 (amI (aj1 (aEk++t.steps) (t.ahead.drop 1)))) (aH (fq (dI (aj1 (aEk++t.steps) (t.ahead.drop 1))) M1 (ο 10) M1 (η x) M1 _ ?_ e2 rfl (aBu h1) (acK (bx (c7 "ok") _ rfl (cY (aV (ama _ j h2 avw (b5 rfl))))))))];rw[akq sa (Q5 (M:=M1) hal) sb (Q6 (M:=M1) hal) sc (Wm (M:=M1) (a:=aEk) (b:=t.steps) (adP (List.length_take_le _ _)) ayv)]
  unfold cE;simp only[ax,aM,aD,r9,nz,lp,aA,bA,zB,zA,ag,YO,tr1,sa,sb,sc];rw[acR (bM (by rw[azt]))]
 have jB:avT:=aCc
 rw[aq3 e9 (e9 jB),aq3 e9 (e9 jB)];rw[aaA e3 (alo [t8,x9,ahS,avu,none,none] pF) (afX (acK (aeV (ail avz) M ?_)))]
 ·rw[aZ,ax,e3];simp only[ax,aM,aD,aA,bA,zB,zA,ag,US,abK,hb]
 rw[ajW (aH (eO (avz).isNone M (by simp only[bI,aD,aA,bA,zB,zA,ag,Wn]) (g8 B2) (g8 B2)))]
 ·have B2:aaz avz:=aam B2
  rw[B2];rw[aip e4 (alo [t8,x9,ahS,avu,f7 (bJ none),none] fL) h2 (h.B3 (amI aHi)) (aH (fq (dI aHi) M (ο 10) M (η x) M _ ?_ e4 rfl (aBu h) (acK (bx (c7 "ok") _ rfl (cY (aV (ama _ j h2 anf (b5 rfl))))))))];have hn9:∀ ρ,cE false [] ρ M=.ok (ς []) M:=λ ρ=>LP;rw[jR];simp only[ax,aM,aD,aA,bA,zB,zA,ag,YO,hn9];rw[acR (bM (by rw[azt]))]
 obtain⟨b,B2⟩:∃b,b7 avz b:=by
  cases e9:avz with
  | none=>rw[e9] at B2; cases B2
  | some b=>exact aiI b
 rw[agV B2];rw[amj (acK (aw6 .bb M rfl))];rw[adk];have e5:=alo [t8,x9,ahS,avu,aCF,some .bb] oJ
 rw[ahU et (iS [aBC,ZJ] [t8,x9,ahS,avu,aCF,some .bb] M=.ok (dw (anx,b)) M) (by
  unfold iS;simp only[ax,aM,aD,aA,bA,zB,zA,ag,abK];rfl) (eO (ac5 (anx,b) Y.ss) M ?_ (g8 Su) (g8 Su))]
 ·rw[bI,aD,et,ag,e5,ag];show(ju false (sT [η anx,η b]) atf M).bind _=_;rw[Ue,ag];rfl
 ·rw[an6 Su Su]
  have YF:cG Y ajf=aMm (anx,b):=by rw[ahc cG B2 (if_pos Su)]
  rw[asB YF Option.bind_some];generalize hsi:Y.ss.idxOf (anx,b)=s
  rw[ajG ei (ji vv auQ [iS [aBC,ZJ]] [t8,x9,ahS,avu,aCF,some .bb] M=.ok (η s) M) (by
   unfold ji;rw[aj2 e5 ag jh];rw[ax,et];simp only[aM,ag];rw[BX (enc:=dw) Ln E7 (a:=(anx,b)) Su,hsi]) ep (hp M W j x s h K.lv K.gl K.fl K.lk)];cases YN:pC Y W x s with
  | none =>
   rw[avd YN ep (wR .bb M ?_ ac4)]
   ·rw[aZ,ax,aA];simp only[zB,zA,ag];rw[ax,ei];simp only[ax,aM,aA,zB,zA,ag,ep]
   rw[adk]
   exact aH (G5 M Ξ (bx (c7 "red") M rfl (cY (aV rfl))))
  | some r =>
   rw[YN] at ep
   obtain⟨M1,p1,p2,p3⟩:=ep;rw[Option.getD_some];rw[aaA Gs (K.wl r (K.lv r (uP YN))) (wR ah3 M1 ?_ ac4)]
   ·rw[aZ,ax,aA];simp only[zB,zA,ag];rw[ax,ei];simp only[ax,aM,aA,zB,zA,ag,p1]
   rw[ajW (aH (pO M1 (f6 Wl) aGk))]
   rw[aip e6 (p2.ix (ρ:=[t8,x9,ahS,avu,aCF,alP]) (d:=b8) rfl fL) h2 (p2.B3 (amI (aj1 ((aaC).take 1++t.steps) ((aaC).drop 1)))) (fq (dI (aj1 ((aaC).take 1++t.steps) ((aaC).drop 1))) M1 (ο 10) M1 (η x) M1 _ ?_ e6 rfl (aBu p2) (acK (bx (c7 "ok") _ rfl (aV (ama _ j h2 (p3.trans anf) (b5 rfl))))))];rw[akq sa (Q5 (M:=M1) Gs) sb (Q6 (M:=M1) Gs) sc (Wm (M:=M1) (a:=(aaC).take 1) (b:=t.steps) (adP (List.length_take_le _ _)) ayv)];rw[jR];simp only[ax,aM,aD,r9,nz,lp,aA,bA,zB,zA,ag,YO,sa,sb,sc];rw[acR (bM (by rw[azt]))]
 ·rw[axc Su Su]
  have YF:aaz (cG Y ajf):=by rw[ahc cG B2 (if_neg Su)]
  rw[Ω YF (atL (G5 M Ξ (bx (c7 "red") M rfl (cY (aV rfl)))))]
def qx aP8 aUe aQ3:B4 Y j M (rW [ο 7,η x] M) (va W x) (pE W x):=by
 rw[ac2 rW (B4 Y j M q (va W x) (pE W x))];simp only[zC,zD,zE,zF,Nat.zero_add,Nat.reduceAdd,Nat.reduceSub,List.replicate,zG,zH,zI];obtain⟨sW,hal,dz⟩:=K.sl x t hx
 unfold va pE
 rw[agV hx];rw[ag1 (dI t) M (Q7 h hx rfl rfl)]
 rw[adk]
 rw[avh el (∀M',bU [aKC] M'=.ok (η t.steps.length) M') (λ M'=>by
  rw[ani bU qD];rw[zK]) e1 (∀M',ba (acW (aiM amY) (Θ 1)) [t8,x9,ahS] M'=.ok (agf (aAq 1)) M') (λ M'=>by
  simp only[bI,aZ,ax,aM,aD,aA,bA,zB,zA,ag,YO,el,fu];by_cases h9:aAq 1
  ·simp[h9]
  ·have h8:¬(acy t.steps.length=1):=b6
   simp[h9,h8]) (eO (agf (aAq 1/\aKY)) M ?_ (g8 hk) (g8 hk))]
 ·rw[m3,e1,ag];simp only[m4,eG,aD,aA,bA,zB,zA,ag,tr2,vO];by_cases h9:aAq 1
  ·cases h2:t.out<;>simp[h9]
  ·simp[h9]
 ·rw[an6 hk hk];rw[Ω (if_pos hk) (aJV M (cY (aV rfl)))]
 rw[axc hk hk]
 rw[agL hk];rw[ZI e4 (alo [t8,x9,ahS] fL) h2 (h.B3 aF0)];rw[acH f2 (aqM (adw 10 .bB (ee eR aF0))) anf (dq (aqn (fq (dI aAz) M (ο 10) M (η x) M _ ?_ e4 rfl (aBu h) ac4)))]
 ·have sa:=abG (M:=M) ayv;rw[jR];simp only[ax,aM,aD,r9,nz,lp,aA,bA,zB,zA,ag,YO,tr1,tr2];rw[akT ((sZ (Θ 1) [t8,x9,ahS] M)=.ok (η (-1)) M)]
  rw[alM sa];rw[acR (bM (by rw[azt]))]
 rw[axB (adw 10 .bB (ee eR aF0)) h2 f2];refine aH (eO (agf (aAq 1)) M1 (e1 M1) (g8 jB) (g8 jB))
 ·rw[an6 jB jB]
  rw[aj9 jB];rw[aip e6 (ar7 [t8,x9,ahS] fL) h3 (h2.B3 ayQ) (Ed (k:=aon) (y:=η x) (dI aAz) e6 h2.zb rfl rfl (by rw[kh,eB,afC]; rfl) (acK (bx (c7 "ok") _ rfl (aV (ama _ j ?_ aF4 (b5 rfl))))))];rw[Ec]
  have:cF aF0 x=ayQ:=by
   unfold cF cv;split
   ·rw[aIG]
    rw[List.map_congr_left (g:=id) (ai1 (by
     rw[aLW aLN.2];by_cases e9:q.1=x
     ·exfalso;simp only[Function.comp,e9,if_true] at this;exact this rfl
     ·simp[e9])),List.map_id]
    refine List.filter_congr (acO q _);rw[aIg];by_cases e9:q.1=x<;>simp[e9]
   ·rw[agb List.filter_append]
  rw[Ω this h3]
 ·rw[axc jB jB];rw[auT jB (afX (acK (bx (c7 "ok") M1 rfl (aV (ama M1 j h2 f2 (b5 rfl))))))]
universe zE
universe Sb
universe zE
end
mutual
section
namespace Sb
open PySem L2
abbrev nQ aPv(pre:ae6)(d:alX):alX:=ar0 (if q.1∈pre then(q.1,tW x q.1 q.2) else q)
def Ei aPv(pre:ae6)aPk:∀d:alX,aJ (nQ x pre d) r=ag8 (aJ d r).map u (apA r pre (tW x r u) u)
 | []=>rfl
 | q::d=>by
  have ih:=Ei x pre r d
  unfold nQ at ih ⊢
  rw[zC,fg,fg,ih]
  rw[agN (q.1∈pre)]
  ·rw[aj9 h];rw[aih q.1 r]
   ·subst e;simp[h]
   ·simp[e]
  ·rw[agL h];rw[aih q.1 r]
   ·subst e;simp[h]
   ·simp[e]
def JU aPv(pre:ae6)(d:alX):ae4 (nQ x pre d).map=ajX:=by
 rw[acP nQ List.map_map];refine aps q _;rw[aIg];split<;>rfl
def Nx aPr{pre:ae6}{d:alX}aPj{u:Fl}(hn:atk)(hr:aJ d r=aaZ)(hp:r∉pre):cv (nQ x pre d) r (tW x r u)=nQ x (agw r) d:=by
 rw[acP cv (agW ((any_keys _ _).mpr (by rw[JU,mem_keys,hr]; rfl)))];rw[acP nQ List.map_map]
 refine aps q hq;rw[aih q.1 r]
 ·have h1:=ayP
  rw[e,hr] at h1;rw[aeC h2 auE h3 (q.1∉pre) (by rw[amX hp])]
  rw[aD4 (if_neg h3) (if_pos e)];rw[agW (f6 e),e,← h2]
 ·rw[agN (q.1∈pre)]
  ·rw[aD4 axT ak3];rw[agW (f6 h)]
  ·rw[aD4 apP ak3];rw[an7 (afr h e)]
def Ny aPr{d:alX}:nQ x ajX d=jJ (tW x) d:=by
 unfold nQ jJ;rw[aiy (aps q hq) (agW (ahg q hq))]
def Nz aPr{d:alX}:nQ x [] d=d:=by
 rw[aga nQ (List.map_congr_left (g:=id) (λ q _=>Ξ)) List.map_id]
def Q8 aPZ aPV aSq:Fc (w++[s]) l=(Fc w l).set s.1 none:=by rw[acP Fc List.foldl_append];rfl
section
variable {Y:fE} {M:aY} {W:Wd} {j:Nat} {ρ:eu}
def nj aP8 aUe(Zy:aFU)(MA:am2 W.falls (aiT q.2.ns.length))aQ3:B4 Y j M (rX [ο 7,η x] M) (vb W x) (lq W x):=by
 rw[ac2 rX (B4 Y j M q (vb W x) (lq W x))];simp only[zC,zD,zE,zF,Nat.zero_add,Nat.reduceAdd,Nat.reduceSub,List.replicate,zG,zH,zI];obtain⟨sW,hal,dz⟩:=K.sl x t hx
 unfold vb lq
 rw[agV hx];rw[ag1 (dI t) M (Q7 h hx rfl rfl)];rw[ajW (aH (eO t.out M (by simp only[eG,aD,aA,bA,zB,zA,ag,tr2,vO]) (g8 hk) (g8 hk)))]
 ·rw[ae0 hk afC (bx (c7 "red") M rfl (cY (aV rfl)))]
 rw[hk,ane];refine dq ac4
 rw[ahU ei (anN c9 (Θ 1) [t8,x9,ahS,none,none,none,none]=.ok (ς (t.ahead.map aI)) M) (by
  simp only[aD,aA,bA,zB,zA,ag,tr1]) (fS aI (λ pre ρ M1=>∃y,ρ=[t8,x9,ahS,y,none,none,none]/\ahQ M1 (akm W (aIF pre))/\ki j M M1) t.ahead none M (ej ei) trivial (ahh none h ki.refl) ?_ ?_)]
 ·rintro pre s post hx9 ρ M1 ⟨y,rfl,h1,f1⟩;rw[ao8];rw[aA5 afs (aqu s) (K.al x t hx s (by rw[agb hx9])) e2 (anR [t8,x9,ahS,ajH,none,none,none] uO) (fq .bb M1 (ο j) M1 (η s.1) M1 (M1.set j (ς ((aIF (agw s)).map bJ))) rfl e2 (by simp only[aD,aA,bA,zB,zA,ag,US]) ?_ (afR (ahh _ (h1.UG _) avw)))];rw[nC h1.wl (by rw[zK]; show s.1<aeA (aIF pre);rw[Ω xj afs]),Q8,List.map_set];rfl
 ·rintro ρ' M1 ⟨y,rfl,h1,f1⟩;refine ac4
  rw[acH er (Lk false amY (gB (sZ (Θ 1))) [t8,x9,ahS,y,none,none,none] M1=.ok (ς (t.steps.reverse.map aI)) M1) (by
   unfold Lk
   simp only[aD,aA,bA,nz,zB,zA,ag,YO];rw[akT ((sZ (Θ 1) [t8,x9,ahS,y,none,none,none] M1)=.ok (η (-1)) M1)]
   simp only[ag];rw[asN Yj afC jh];rw[List.map_reverse,ahY (by rw[ae0 List.length_reverse zK ayv])]) (aeV (bG aw3) M1 ?_)]
  ·rw[cc (xs:=t.steps.reverse) (w:=none) (M':=M1) aI ah9 (λ s=>awl) (ahW [y]) (ej er) trivial ah2 (akf s) (by rw[Ω List.length_reverse (adP sW)])]
   ·rw[awN,ahY (by rw[ae0 zK List.length_reverse ayv])];rw[asQ bG]
   ·rw[ahJ y rfl hρ (abS _ rfl acV (by simp[aI,flip,iS]))]
  rw[adk];rw[ZI e4 (anR [t8,x9,ahS,y,awn,none,none] fL) h2 (h1.B3 aCr)];rw[ahU f2 (aqM (M1.set 10 (.bB (ee eR aCr)))) avw (fq (dI (aj1 aw3 [])) M1 (ο 10) M1 (η x) M1 _ ?_ e4 rfl (aBu h1) ac4)]
  ·have hn9:∀ ρ,cE false [] ρ M1=.ok (ς []) M1:=λ ρ=>LP;rw[jR];simp only[ax,aM,aA,bA,zB,zA,ag,hn9];rw[acR (bM (by rw[azt]))]
  generalize M1.set 10 (.bB (ee eR aCr))=M2 at h2 f2;have e5:=ar7 [t8,x9,ahS,y,awn,none,none] mf
  rw[ahU el (av (jO false) [amy] [t8,x9,ahS,y,awn,none,none] M2=.ok (ς ((aht).map (ay2 r r))) M2) (by
   rw[aZ,ax,e5];rw[alM aM];rw[ani jO (eD h2.w9)];rw[JS,ahY (by rw[axO K.fl])]) (fS (ay2 r r) (λ pre ρ M3=>∃a b,ρ=[t8,x9,ahS,y,awn,a,b]/\ahQ M3 { W with locks:=aJx,trains:=aCr,falls:=nQ x pre W.falls }/\ki j M M3) aht none M2 (ej el) trivial (ad8 none none (by rw[Ω Nz h2]) f2) ?_ ?_)]
  ·rintro pre r post hx9 ρ M3 ⟨a,b,rfl,h3,f3⟩;rw[ao8]
   have Wg:=Fs Zy hx9;rw[auz u hu ((mem_keys _ _).mp (show r∈aht by rw[agb hx9]))]
   have hg:aJ (nQ x pre W.falls) r=aaZ:=by rw[Ei,hu]; simp[Wg]
   rw[aaA e6 (h3.ix (ρ:=[t8,x9,ahS,y,awn,aax,b]) (d:=b8) rfl mf) (aeV azS M3 ?_)]
   ·rw[aD,e6,ag,aA];rw[aiv];rw[Ω ag (axY h3.w9 k awu (by rw[eZ,hg]; rfl))]
   rw[adk];rw[aip e7 (h3.ix (ρ:=[t8,x9,ahS,y,awn,aax,f7 (eW r u)]) (d:=b8) rfl mf) hul (MA _ (iK hu)) (fq (eW r (tW x r u)) M3 (ο 9) M3 (η r) M3 (M3.set 9 (.bB (afh eW (nQ x (agw r) W.falls)))) ?_ e7 rfl ?_ (aEU _ _ (h3.UI _) (f3.trans anf)))]
   ·rw[d6 j0 (aK azS (η 0) M3=.ok (η u.u) M3) rfl j1 (aK azS (η 1) M3=.ok (gW u.ns) M3) rfl];rw[d6 j2 (aK azS (η 2) M3=.ok (.bl u.bd) M3) rfl ec (cg false asX (iL (t6 (ae 6) (dC (η 1)))) (gN 0) (ba (ay (dW true) b8 b9)) b8 [t8,x9,ahS,y,awn,aax,f7 (eW r u)] M3=.ok (gW (u.ns.filter (ajd z z x))) M3) (by
     rw[cc (xs:=u.ns) (w:=none) (M':=M3) (aiJ afA n) (ajd z z x) (aiJ afA n) (ahW [y,x9]) (ej (by simp only[aD,aA,bA,zB,zA,ag,j1])) trivial ah2 (akf z) (adP hul)]
     ·exact ahY (by rw[alb (aiH (List.length_filter_le _ _) (adP hul))])
     ·rw[aiK y hρ];refine⟨_,rfl,acV,?_,anm⟩;simp only[List.set_cons_zero,bI,aD,aA,zB,zA,ag,fu];by_cases e9:z=x<;>simp[e9])]
    rw[r6];simp only[ax,aM,ec,ag,aD,aA,bA,zB,zA,j0,j2];rfl
   ·rw[awZ h3.w9 r (by rw[pA]; show aeA (nQ x pre W.falls)<_;unfold nQ; rw[Ω zK (Nat.lt_of_le_of_lt K.fl d7)]),← Nx Zy hu Wg]
    congr 3
    exact pz eW r (tW x r u) _
  ·rintro ρ' M3 ⟨a,b,rfl,h3,f3⟩;refine acK (bx (c7 "ok") M3 rfl (aV (ama M3 j ?_ f3 (b5 rfl))));rw[t7 Ny h3 h3]
universe zE
universe Sb
universe zE
section
namespace Sb
open PySem L2
def HG aSv:∀aT1 aUf,Chain ps ss f j a w->agk w (ai5 s.1)
 | [],_,_,_,_,s,h=>al5
 | (a',j',o)::w,f,j,a,c,s,h=>by
  obtain⟨_,_,_,h1,_,h2⟩:=c;rcases asy with rfl | h
  ·exact h1
  ·exact HG w false o _ h2 s h
def Q9{p:Pc}{a:Nat}aWJ(hj:j∈p.js)(ho:Lv p j o)(hp:c8 (sr p)):Q4 p (a,j,o)=Fm p (a,j,o):=by
 cases p with
 | pl x y=>cases hp
 | pt t u b =>
  rw[akq h1 ho.ne h2 ho.mem h3 (ho.tip rfl)];simp only[Pc.js,List.nodup_cons,List.mem_cons,List.not_mem_nil,or_false,not_or,List.headD_cons] at hn hj h2 h3;simp only[Q4,Fm,List.mem_cons,List.not_mem_nil,or_false];rw[← decide_not];refine decide_eq_decide.mpr ?_;rw[akq n1 hn.1.1 n2 hn.1.2 n3 hn.2.1];constructor
  ·rintro(e | e) (e' | e')<;>rcases h3 with h3 | h3<;>omega
  ·intro hh;rcases h3 with h3 | h3
   ·rcases h2 with h2 | h2 | h2
    ·omega
    ·exact c6 h2.symm
    ·rw[akK (c6 h2.symm) hh]
   ·rcases hj with hj | hj | hj
    ·omega
    ·exact b5 hj.symm
    ·rw[akK (b5 hj.symm) hh]
def Ej aSv(hn:aCj):∀aT1 aUf,Chain ps ss f j a w->(∀b,b7 a b->j∈(aeo b).js)->agk w (c8 (bH ps s.1)->iu ps s=za ps s)
 | [],_,_,_,_,_,s,h,_=>al5
 | (a',j',o)::w,f,j,a,c,hj,s,h,hp=>by
  obtain⟨e1,e2,_,h1,h3,h2⟩:=c
  subst e2;rcases asy with rfl | h
  ·exact Q9 (hn _ (E8 h1)) (hj a' e1) h3 hp
  ·exact Ej hn w false o _ h2 (aqp (oB hb).2.2) s h hp
structure bE aPx:Prop where
 g:pj Y.ps Y.ss
 rs:Y.rs=dU Y.ps Y.ss
 wt:0≤Y.wait
def YQ{rs:afT}aPj(h:aFk r):(aQ rs r,aX rs r)∈rs:=aLL (xk h)
section
variable {Y:fE}
def bE.ok aSk:Lw Y.ps Y.ss (Es,aaC):=Qy G.g (by rw[abd G.rs (YQ hr)])
def bE.head aSk:(cw Y.ss Es).2∈aqy:=by
 rw[akq h (G.ok hr) h1 h.ne h2 h.chain];unfold dZ;dsimp only at h1 h2;cases e:aaC with
 | nil=>rw[afZ e h1]
 | cons s w =>
  rw[e] at h2;obtain⟨a',j',o⟩:=s;obtain⟨h3,_⟩:=h2;cases h3;simp
def bE.bz aPm:apV:=by
 rw[adv (amg (G.ok hr).nd) (acI r hr p hp) (aeB r hr r' hr' e)]
 ·rw[ahP s hs hp];exact HG _ _ _ _ (G.ok hr).chain s hs
 ·rw[aas (cw Y.ss Es).2 (G.head hr) (by rw[amX (G.head hr')])]
def bE.sg aSk:aFL:=(G.ok hr).lt
def bE.oh aSk:agk aaC (aqY s.1->aCX=za Y.ps s):=by
 refine Ej G.g.once _ _ _ _ (G.ok hr).chain ajj;cases hb;exact(aE9 (vI (G.sg hr))).2
def bE.len aPm:aIL:=by
 rw[G.rs];unfold dU;have:=ph (List.range Y.ss.length) λ k _=>uF Y.ps Y.ss k;rw[aev h2 G.g.zy List.length_range this];omega
def bE.wl aSk:aya:=by
 rw[al1 (G.ok hr).len G.g.qi];dsimp only at h1;omega
universe zE
structure Ra aPD aPV:Prop where
 lt:ai5 s.1
 i:s.2.1∈(aeo s.1).js
 o:Lv (aeo s.1) s.2.1 s.2.2
abbrev CS:ad9 z0
 | []=>True
 | [_]=>True
 | a::b::w=>a.2.1=b.2.2/\a.1≠b.1/\CS (b::w)
structure TJ aPD(t:Tr):Prop where
 ok:arc (Ra ps s)
 ZH:CS t.steps
def B5 aSv:∀aT1 aUf,Chain ps ss f j a w->(∀b,b7 a b->j∈(aeo b).js)->agk w (Ra ps s)
 | [],_,_,_,_,_,s,h=>al5
 | (a',j',o)::w,f,j,a,c,hj,s,h=>by
  obtain⟨e1,e2,_,h1,h3,h2⟩:=c
  subst e2;rcases asy with rfl | h
  ·rw[aas h1 (hj a' e1) h3]
  ·exact B5 w false o _ h2 (aqp (oB hb).2.2) s h
def B6 aSv{s s':dO}{r:z0}:∀aT1 aUf aPS,Chain ps ss f j a w->w.drop k=s::s'::r->b7 (beyond ps s.1 s.2.2) s'.1/\s'.2.1=s.2.2/\(s.2.2,s'.1)∉ss
 | [],_,_,_,k,_,h=>al5
 | (a',j',o)::w,f,j,a,0,c,h=>by
  obtain⟨e1,e2,_,h1,h3,h2⟩:=c;rw[ajR List.drop_zero];rw[aiK rfl (List.cons.inj h)];obtain⟨a2,j2,o2⟩:=s';obtain⟨h4,h5,h6,_⟩:=h2;rw[aas h4 h5 (h6 rfl)]
 | (a',j',o)::w,f,j,a,k+1,c,h=>by
  obtain⟨_,_,_,_,_,h2⟩:=c;exact B6 w false o _ k h2 h
def three aR2{a b c:Nat}aSp(ha:ai5 a)(hb:ai5 b)(hc:ai5 c)aVU(jc:j∈(aeo c).js)(h1:a≠b)(h2:a≠c)(h3:b≠c):False:=by
 rw[aeC h (hg.two j) m (∀{x:Nat},ai5 x->j∈(aeo x).js->x∈azz) (λ hx jx=>List.mem_filter.mpr ⟨List.mem_range.mpr hx,aam jx⟩)];rw[akq ma (m ha ja) mb (m hb jb) mc (m hc jc)];generalize azz=l at h ma mb mc
 match l,h with
 | [],_=>simp at ma
 | [x],_=>simp at ma mb;omega
 | [x,y],_=>simp at ma mb mc; omega
 | _::_::_::_,h=>rw[ao3]
def Rb aR2 aSK aSp(ha:ai5 a)(hb:ai5 b)aVU(h:b≠a):b7 (beyond ps a j) b:=by
 cases e:beyond ps a j with
 | none =>
  unfold beyond at e;rw[t7 List.find?_eq_none e (axZ (afr h jb) (e b (List.mem_range.mpr hb)))]
 | some c =>
  obtain⟨h1,h2,h3⟩:=oB e;by_cases hc:c=b
  ·rw[hc]
  ·exact(three hg ha hb h1 ja jb h3 h.symm h2.symm (Ne.symm hc)).elim
def B7 aPp{p:awf}:∀l:af1,l.Pairwise (λ a b=>¬(c8 (p a)/\c8 (p b)))->aKD=(aKi).toList
 | [],_=>rfl
 | a::l,h=>by
  rw[anC (List.pairwise_cons.mp h)];rw[ahN e (p a)]
  ·rw[List.filter_cons_of_pos e,List.find?_cons_of_pos e];rw[aFj (aKD=[]) (List.filter_eq_nil_iff.mpr (agT hb hp (h1 b hb ⟨e,hp⟩)))]
  ·rw[List.filter_cons_of_neg e,List.find?_cons_of_neg e,B7 l h2]
section
variable {Y:fE} {W:Wd} {B:Bx}
abbrev HH aPH:Prop:=∀x t,acJ=adt->TJ Y.ps t
def B8 aPm aUY aWU aQ0{a:z0}(h:t.ahead=s::a):b7 avz s.1/\s.2.1=anx/\(anx,s.1)∉Y.ss/\Ra Y.ps s:=by
 obtain⟨r,k,hr,e,_⟩:=T.ah (by rw[agb h]);rw[aev c (G.ok hr).chain h e];rw[ajq h1 h2 h3 (B6 _ _ _ _ k c e.symm) ⟨h1,h2,h3,B5 _ _ _ _ c ajj s (List.mem_of_mem_drop (i:=k) ?_)⟩]
 ·cases hb;exact(aE9 (vI (G.sg hr))).2
 ·show s∈(aaC).drop k;rw[← e];simp
def pZ aPm aQ0 aPg(hs:Ra Y.ps s)(hk:auA k):b7 (cG Y s) k↔s.2.2=(cw Y.ss k).1/\s.1≠(cw Y.ss k).2:=by
 have hg:=aE9 (vI hk);unfold cG;constructor
 ·intro h;split at h
  ·rename_i b hb;split at h
   ·rename_i hm;rw[aeC e aqX e2 (cw Y.ss k=(s.2.2,b)) (by
     rw[← e];rw[al1 aNr (xa h1)];rw[List.getElem?_eq_getElem h1,List.getElem_idxOf] at h2;exact(Option.some.inj h2).symm)]
    rw[e2]
    rw[aaX rfl (oB hb).2.1.symm]
   ·cases h
  ·cases h
 ·rintro⟨h1,h2⟩;have hb:b7 awP (cw Y.ss k).2:=Rb G.g hs.lt hg.1 hs.o.mem (by rw[Ω h1 hg.2]) (Ne.symm h2)
  rw[agV hb]
  have e:(s.2.2,(cw Y.ss k).2)=cw Y.ss k:=agB h1
  rw[e,agW (vI hk)];rw[aev h3 (xa hk) aLq h3];rw[← Option.some.inj h3,List.Nodup.idxOf_getElem G.g.nd k hk]
def Rc aPm aUY aPg aWU(J:TJ Y.ps t)(hk:auA k):agf (b7 (cG Y ajf) k)=vN Y k t:=by
 rw[ZI hs (J.ok _ (tX T.ne)) hi (pZ G hs hk)]
 unfold vN;rw[agN (b7 (cG Y ajf) k)]
 ·rw[d6 h1 avT (by
   cases e:t.ahead with
   | nil=>rfl
   | cons s a =>
    obtain⟨h1,_,h3,_⟩:=B8 G T e;rw[ak9 cG];rw[amt h1 h h];rw[if_neg h3] at h;cases h) h2 aKY (by
   cases e:t.out with
   | false=>rfl
   | true =>
    have:=(T.ot e).2;rw[aoh cG h this h];cases h)]
  have h3:=hi.mp h;simp[h,h1,h2,h3.1,h3.2]
 ·have h3:=mt hi.mpr h;rw[aMf];symm;by_cases h4:anx=(cw Y.ss k).1
  ·have:¬ajf.1≠(cw Y.ss k).2:=λ h5=>h3 ⟨h4,h5⟩;simp[this]
  ·simp[h4]
def UT aPm aQ2(J:HH Y W)aPg(hk:auA k):dy Y W.trains k=(kO Y B.trains k).toList:=by
 have hT:aDZ q (aAV q.1 q.2):=ai1 aCn
 have e1:aMk (λ q=>vN Y k q.2)=aMk (acN q (b7 (cG Y (bX q.2)) k)) :=
  List.filter_congr (ai1 (Rc G (apb (hT q hq)) (J _ _ (hT q hq)) hk).symm)
 unfold dy kO;rw[e1,B7]
 ·rw[S.trains];rw[acP jJ List.find?_map];show List.map _ (aMU (aIi q (b7 (cG Y (bX q.2.tr)) k))).toList=_;cases aIi q (b7 (cG Y (bX q.2.tr)) k)<;>rfl
 ·rw[acH hp (W.trains.Pairwise (λ a b=>a.1≠b.1)) (List.pairwise_map.mp I.vX) (List.Pairwise.imp_of_mem ?_ hp)];rintro a b ha hb dz ⟨h1,h2⟩;rw[ZI hTa (hT a ha) hTb (hT b hb)];rw[ZI oa ((J _ _ hTa).ok _ (tX (apb hTa).ne)) ob ((J _ _ hTb).ok _ (tX (apb hTb).ne))];rw[ZI ia ((pZ G oa hk).mp aN3) ib ((pZ G ob hk).mp aAa)];rw[ZI hg (aE9 (vI hk)) hd ((I.dj _ _ _ _ hTa hTb dz).1 _ (tX (apb hTa).ne) _ (tX (apb hTb).ne))];exact three G.g (j:=(cw Y.ss k).1) oa.lt ob.lt hg.1 (by rw[abd ia.1 oa.o.mem]) (by rw[abd ib.1 ob.o.mem]) hg.2 hd ia.2 ib.2
def JV(S:ai0)(p:Int):aob p=axa p:=by
 unfold qg sv;rw[S.trains];rw[acP jJ List.find?_map];show aMU (aMU (aIi q (p∈azO)))=_;cases aIi q (p∈azO)<;>rfl
def Wq aSG:aDr:=by
 have hn:=G.g.qi
 refine⟨ajU r (aiO h).1,asF (i9 I.C6 (abf h (I.glt h))) G.len,?_,acO r h,amg aFJ,I.vX,aiH I.Uw b6,agG x t ⟨?_,?_,(I.tr x t h).ne⟩,aeB x t h s hs⟩
 ·have:=i9 I.Jy (ajU x (I.own x (c6 h)).1);rw[t7 zK this (Nat.le_trans this G.len)]
 ·have hr:=(aiO h).1;rw[I.ln];have dz:=(G.ok hr).ne;dsimp only at dz;cases e:aaC with
  | nil=>rw[ayJ]
  | cons s w=>exact G.bz.lt r hr s.1 (by rw[acP dZ e];simp)
 ·rw[ae9 (I.JH h)]
 ·rw[ae9 (I.afb G.bz h)]
 ·obtain⟨r,hr⟩:=(I.tr x t h).al hs;rw[Ω I.ln (I.lt hr)]
universe zE
universe Sb
universe zE
section
namespace Sb
open PySem L2
inductive Wo where
 | set
 | cancel
 | throw
 | enter
 | tick
 | go
 | draw
 | turn
 deriving DecidableEq
abbrev Wo.s:Wo->Str
 | ag7 => "set"
 | agI => "cancel"
 | ahz => "throw"
 | agK => "enter"
 | agd => "tick"
 | .go => "go"
 | ahi => "draw"
 | ag6 => "turn"
abbrev FC aPH aPk:Bool:=alf 0 (!(dy Y W.trains Es).isEmpty || ahE)
abbrev fR aPH aQP:Kd:=match w with
 | ag7=>auW (aqS i) (asM (heldW W (aX Y.rs i.toNat)) held .ok) abc
 | agI=>auW (aqS i) (asM (i.toNat∈W.green) ok abc) abc
 | ahz=>auW (ak5 i) (asM (mh W i.toNat) held .ok) abc
 | agK=>mO Y W x i
 | agd=>.ok
 | .go=>Nu Y W x
 | ahi=>va W x
 | ag6=>vb W x
abbrev lI aPH aQP:Wd:=match w with
 | ag7=>JB Y.rs (bH Y.ps) (iu Y.ps) W i.toNat
 | agI=>if FC Y W i.toNat then BM W i.toNat ⟨avE,dy Y W.trains (aQ Y.rs i.toNat),cq Y (aQ Y.rs i.toNat)⟩ else sk W i.toNat
 | ahz=>qf W i.toNat
 | agK=>pD Y W x i
 | agd=>nP W
 | .go=>JN Y W x
 | ahi=>pE W x
 | ag6=>lq W x
abbrev qh aPH aQP:Wd:=match ajn with
 | .ok=>aqQ
 | _=>W
structure Wf aPH:Prop where
 I:ajm
 D:aws
 J:HH Y W
def CS.init:∀aQc,CS w->CS w.dropLast
 | [],_=>trivial
 | [_],_=>trivial
 | [_,_],_=>trivial
 | a::b::c::w,h=>⟨h.1,h.2.1,CS.init (w:=b::c::w) h.2.2⟩
def CS.snoc{b:dO}:∀aQc,CS w->(∀a∈w.getLast?,a.2.1=b.2.2/\a.1≠b.1)->CS (w++[b])
 | [],_,_=>trivial
 | [a],_,h=>by have:=h a Ξ;rw[aas this.1 this.2 trivial]
 | a::c::w,h1,h=>⟨h1.1,h1.2.1,CS.snoc (w:=c::w) h1.2.2 (λ z hz=>h z (by rw[Ω List.getLast?_cons_cons hz]))⟩
def CS.flip:∀aQc,CS w->CS (w.reverse.map flip)
 | [],_=>trivial
 | [_],_=>trivial
 | a::b::w,h=>by
  have ih:=CS.flip (w:=b::w) h.2.2;rw[List.reverse_cons,List.map_append];refine CS.snoc ih (acO z hz);rw[List.getLast?_map,List.getLast?_reverse] at hz
  have e:z=Sb.flip b:=aam hz.symm
  rw[e]
  rw[aaX h.1.symm h.2.1.symm]
def Ra.flip aQw aQ0(h:Ra ps s):Ra ps (flip s):=⟨h.lt,h.o.mem,⟨h.o.ne.symm,h.i,adm (h.o.tip e).symm⟩⟩
section
variable {Y:fE} {W:Wd}
def HI{d:aoJ}aQo(h:aaz (qg d p)):am2 d (agk auw (s.1≠p)):=by
 rw[ak9 qg];rw[Option.map_eq_none_iff,List.find?_eq_none] at h;intro q hq s hs e;refine h q hq ?_;simp only[decide_eq_true_eq];exact az3 s hs (agB e)
def FD aPj aSG aRs(h:aKk W):(afz aqy (acL W.locks p none))/\∀x t,acJ=adt->arc (s.1∉aqy):=by
 rw[aoh heldW h List.any_eq_false h];rw[aej (acO p hp) (aiA x t hx s hs hp)]
 ·have qj:=G.bz.lt r hr p hp
  rw[ahP z hz hp];have h1:=h z hz
  unfold mh at h1
  rw[Bool.or_eq_true,not_or] at h1;rw[aeC h2 h1.1 hl (aqu z) (by rw[Ω I.ln qj])]
  rw[List.getD_eq_getElem?_getD,apr] at h2;rw[apr];cases e:W.locks[z.1] with
  | none=>rfl
  | some _=>rw[aiq e h2 h2]
 ·rw[ana z hz e hp];have h1:=h z hz
  unfold mh at h1
  rw[Bool.or_eq_true,not_or] at h1
  rw[akc h2 (aaz (aob (akz z))) (by
   cases e:aob (akz z) with
   | none=>rfl
   | some _=>rw[aiq e h1 h1]) (HI h2 _ (iK hx) s hs e.symm)]
def HH.put(J:HH Y W)aSr aWO(hT:TJ Y.ps t):HH Y W':=λ y u hu=>by
 rw[ht,eB] at hu
 rw[aih y x]
 ·rw[apN e hu];cases hu;exact hT
 ·rw[t7 ak3 hu (J y u hu)]
def HH.same(J:HH Y W)aSr(ht:W'.trains=W.trains):HH Y W':=λ y u hu=>J y u (by rw[abd ht hu])
def B9 aSk:∃o w,aaC=((cw Y.ss Es).2,(cw Y.ss Es).1,o)::w:=by
 rw[al1 (G.ok hr).ne (G.ok hr).chain];dsimp only at h1 h2;cases e:aaC with
 | nil=>rw[afZ e h1]
 | cons s w =>
  rw[e] at h2;obtain⟨a',j',o⟩:=s;obtain⟨h3,h4,_⟩:=h2;cases h3;rw[aas o w (agB h4)]
def YR aSk:agk aaC (Ra Y.ps s):=B5 _ _ _ _ (G.ok hr).chain (aqp (by
 cases hb;exact(aE9 (vI (G.sg hr))).2))
def UU aWP:Es=s:=by
 have:=List.find?_some h;unfold vM at this;exact of_decide_eq_true (Bool.and_eq_true_iff.mp this).1
def LQ aPm aPj{old:z0}{a:z0}aQI aRs(h1:agk old (Ra Y.ps s))(h2:CS old)(h3:agk old.head? (cG Y s=f7 Es)):TJ Y.ps ⟨(aaC).take 1++old,a,b⟩:=by
 rw[aA6 o w (B9 G hr)];rw[aev h (YR G hr) e h];rw[e];rw[aej (acO s hs) ?_]
 ·rcases aOb with rfl | hs
  ·exact h _ Ξ
  ·exact h1 s hs
 ·cases old with
  | nil=>trivial
  | cons s old =>
   have:=(pZ G (h1 s Ξ) (G.sg hr)).mp (h3 s Ξ);rw[aas this.1.symm this.2.symm h2]
def ze{W:Wd}:(nP W).trains=W.trains:=by
 unfold nP
 have:∀aR3,(rs.foldl cP W).trains=W.trains:=λ rs=>by
  induction rs with
  | nil=>exact aw9 W
  | cons r rs ih =>
   intro W;rw[List.foldl_cons,ih];unfold cP;split<;>rfl
 exact this _ _
def UW aQE aPm(h:amd)(hk:ajn=.ok):Wf Y aqQ:=by
 rw[aeC R G.bz dz aHB (amg (G.ok hr).ne)];cases w with
 | set =>
  rw[ayO];split at hk
  ·rename_i hn;split at hk
   ·cases hk
   ·rename_i hh;rw[apT r hr hn];rw[Int.toNat_natCast] at hh;rw[ax2 hf ht (FD G h.I hr aGO) (set_inv R h.I hr (dz r hr) hf ht) h.D aJd]
  ·cases hk
 | cancel =>
  rw[ayO];split at hk
  ·split at hk
   ·rename_i hg;rw[ams lI];split
    ·rename_i hq;have hw:=(Bool.and_eq_true_iff.mp hq).1;rw[adv (QD h.I hg) (QI h.D ?_ (h.I.Nb _ hg)) aJd];rw[aLW hw];show W.now<avE;omega
    ·rw[aas (JC R h.I hg) h.D aJd]
   ·cases hk
  ·cases hk
 | throw=>rw[aas (Nf h.I) (Ni h.D) aJd]
 | tick=>rw[aas (QF R h.I) (QH h.I) (h.J.same ze)]
 | enter =>
  have hk:mO Y W x i=.ok:=hk
  unfold mO at hk;split at hk
  ·split at hk
   ·split at hk
    ·cases hk
    ·rename_i hx;split at hk
     ·rename_i r hp;show Wf Y (pD Y W x i)
      rw[acP pD hp];rw[ZI hl (uP hp) hr (h.I.own r hl).1]
      rw[avc hx aFX aGN (Hq R h.I hl (dz r hr) (λ t ht=>by rw[hx] at ht; cases ht) anm) (Hu h.D) (h.J.put rfl (LQ G hr Ξ trivial Ξ))]
     ·cases hk
   ·cases hk
  ·cases hk
 | go =>
  have hk:Nu Y W x=.ok:=hk;show Wf Y (JN Y W x);unfold Nu at hk;unfold JN;cases hx:acJ with
  | none=>rw[hx] at hk; cases hk
  | some t =>
   rw[hx] at hk
   dsimp only at hk ⊢;rw[ZI T (h.I.tr x t hx) J (h.J x t hx)];split at hk
   ·cases hk
   ·split at hk
    ·rename_i ha;rw[aj9 ha];rw[adv (QL R h.I hx ha) (uI h.D rfl (ai1 (ajs q hq))) (h.J.put rfl ?_)];cases e:t.ahead with
     | nil=>rw[afZ e ha]
     | cons s a =>
      obtain⟨h1,h2,_,h4⟩:=B8 G T e;rw[aej (acO z hz) ?_]
      ·rcases List.mem_cons.mp hz with rfl | hz
       ·exact h4
       ·exact J.ok z hz
      ·rw[ZI hl J.ZH hn T.ne];unfold bX at h1 h2;show CS (s::t.steps);cases e2:t.steps with
       | nil=>rw[afZ e2 hn]
       | cons b w =>
        rw[e2] at h1 h2 hl;rw[aas h2 (oB h1).2.1 hl]
    ·rename_i ha;rw[agL ha]
     have ha:avT:=aam ha
     split at hk
     ·rename_i hb;rw[aas (Uu h.I hx ha hb) (uI h.D rfl (ai1 (ajs q hq))) (h.J.put rfl ⟨J.ok,J.ZH⟩)]
     ·rename_i b hb;split at hk
      ·cases hk
      ·rename_i s hs;split at hk
       ·rename_i r hp
        rw[hs,Option.bind_some,hp,Option.getD_some];rw[ZI hl (uP hp) hr (h.I.own r hl).1];rw[adv (Hq R h.I hl (dz r hr) (λ u hu=>by rw[hx] at hu; cases hu; rfl) (λ hn=>by rw[hx] at hn; cases hn)) (Hu h.D) (h.J.put rfl (LQ G hr J.ok J.ZH (acO z hz)))]
        have:z=ajf:=by
         rw[aga bX List.headD_eq_head?_getD hz];rfl
        rw[this,hs,UU hp]
       ·cases hk
 | draw =>
  have hk:va W x=.ok:=hk;rw[aoC (Wf Y (pE W x)) pE];cases hx:acJ with
  | none=>exact h
  | some t =>
   dsimp only;have J:=h.J x t hx;split
   ·rw[adv (h.I.del x) (uI h.D rfl (ai1 (ajs q hq))) (IL y u hu)];rw[akv hu (aGy=aaZ) hu jz hu];split at hu
    ·cases hu
    ·exact h.J y u hu
   ·rename_i h1;rw[aas (QN h.I hx h1) (uI h.D rfl (ai1 (ajs q hq))) (h.J.put rfl ⟨amf (J.ok s (aNL _)),J.ZH.init⟩)]
 | turn =>
  have hk:vb W x=.ok:=hk;rw[aoC (Wf Y (lq W x)) lq];cases hx:acJ with
  | none=>exact h
  | some t =>
   have J:=h.J x t hx;rw[adv (QO h.I hx) (QQ h.D) (h.J.put rfl ⟨aoX,J.ZH.flip⟩)];rw[ahP z hz hs];exact(J.ok z aNQ).flip
def JW aQE aPm(h:amd):Wf Y am7:=by
 rw[ay6];split
 ·rw[au5 hk (UW G h hk)]
 ·exact h
universe zE
universe Sb
universe zE
end
mutual
section
namespace Sb
open PySem L2
abbrev CT aPx:afx:=[(dB "set",η Y.rs.length),(dB "cancel",η Y.rs.length),(dB "throw",η Y.ps.length)]
abbrev Wr aPx:afx:=CT Y++[(aKB,aBS)]
abbrev zf aPx(w:Wo):aeQ:=match w with
 | ag7=>aOy
 | agI=>aOy
 | ahz=>some Y.ps.length
 | agK=>some Y.ss.length
 | _=>none
abbrev lr aPH aQP:Bool:=match zf Y w with
 | aB8=>bT i n
 | none=>afJ w agd || aFW
section
variable {Y:fE} {M:aY} {W:Wd} {j:Nat} {ρ:eu}
def LR{w:Wo}:jF (Wr Y) (dB w.s)=(zf Y w).map (alI n n):=by cases w<;>with_unfolding_all rfl
def UX:nW (CT Y) aKB aBS=Wr Y:=aao
def JX{w:Wo}:kQ (c7 w.s)=f7 (dB w.s):=rfl
def Ws(w:Wo):ate (c7 w.s):=by
 have:aD3 (c7 w.s):=by cases w<;>decide +kernel
 rw[ap9]
def YS{w v:Wo}:(w.s=v.s)↔w=v:=by cases w<;>cases v<;>decide +kernel
def Rf{w v:Wo}aQf:dW neg (c7 w.s) (c7 v.s) M=.ok (.bl (aja (afJ w v) (afJ w v))) M:=se (Ws _) (Ws _) (by rw[Ω PV.str.injEq YS])
def FE{w:Wo}{u:Str}aU6 aUQ:ba (acW (ae k) (aaM u)) ρ M=.ok (afJ w v) M:=by
 subst hu;rw[bI,aD,aA,h];dsimp only;rw[ag,bA,ag,Rf];rfl
def aft aPn aSE:av bU [(t6 (ae k) (dC (c7 "routes")))] ρ M=.ok (η Y.rs.length) M:=by
 rw[aZ,ax,h.ix (anE hk) qW];simp[bU]
def abL aPn aSE:av bU [(t6 (ae k) (dC (c7 "pieces")))] ρ M=.ok (η Y.ps.length) M:=by
 rw[aZ,ax,h.ix (anE hk) pF];simp[bU]
def abM aPn aSE:av bU [(t6 (ae k) (dC (c7 "signals")))] ρ M=.ok aBS M:=by
 rw[aZ,ax,h.ix (anE hk) oJ];simp[bU]
def abN aPn aSE:C3 [("set",(agR (t6 (ae k) (dC (c7 "routes"))))),("cancel",(agR (t6 (ae k) (dC (c7 "routes"))))),("throw",(agR (t6 (ae k) (dC (c7 "pieces")))))] ρ M=.ok aes (M++[.bB (CT Y)]):=by
 unfold C3;simp only[zC,zD,ax,aM,aft h hk,abL h hk,ag];rfl
def ox aQE aPn:trunc tO [ο 7,c7 w.s,η i,η x] M=.ok (.bl asn) M:=by
 refine aEC rfl
 rw[ac2 tO (∃G,q=.ok (.bl asn) (M++G))];simp only[zC,zD,zE,zF,Nat.zero_add,Nat.reduceAdd,Nat.reduceSub,List.replicate,zG,zH,zI];rw[ag1 aes (M++[.bB (CT Y)]) (abN h rfl)]
 rw[adk];rw[aaA h1 (h.push (.bB (CT Y))) (aH (fq aBS (M++[.bB (CT Y)]) aes (M++[.bB (CT Y)]) (c7 "enter") (M++[.bB (CT Y)]) (M++[.bB (Wr Y)]) (abM h1 rfl) rfl rfl ?_ ac4))]
 ·rw[gL (kvs:=CT Y) Ξ (kk:=aKB) rfl (by rw[aBo 3]),UX];simp
 rw[aeC h2 (h.push (.bB (Wr Y))) hd (aAA (M++ant (Wr Y)) .bB (Wr Y)) Ξ]
 generalize hM2:M++ant (Wr Y)=M2 at h2 hd;rw[ahU fin (∀aQI,b=asn->∃G,(Res.ok (PV.bl b) M2)=.ok (.bl asn) (M++G)) (λ hb=>⟨ant (Wr Y),ag3 hM2 hb⟩) (eO (agl (zf Y w)) M2 ?_ (g8 hk) (g8 hk))]
 ·rw[bI];simp only[aD,aA,zB,zA,ag];rw[tY hd JX,LR];cases zf Y w<;>rfl
 ·rw[auz n hn hk]
  refine bx (.bl (bT i n)) M2 ?_ (cY (aV (fin ?_)))
  ·unfold ER;simp only[bA,aA,zB,zA,ag,Hx]
   unfold bT;by_cases h0:0≤i
   ·simp only[h0,decide_true,Bool.true_and];simp only[aD,aA,zB,zA,ag];rw[nK hd JX (by rw[LR,hn]; rfl),ag,QR]
   ·simp[h0]
  ·rw[acP lr hn]
 ·rw[aA5 hn (aaz (zf Y w)) (by cases e:zf Y w with
   | none=>rfl
   | some n=>rw[e] at hk; cases hk) e3 (ar7 [t8,aoB,akd,x9,adW] fL) (afX (acK (bx (.bl (afJ w agd || aFW)) M2 ?_ (aV (fin ?_)))))]
  ·have e4:(PV.str "tick")=c7 (Wo.tick).s:=rfl;rw[LG,aD,aA,e4];rw[aiv];rw[ag,bA,ag,Rf,ag];by_cases ht:w=agd
   ·simp[ht]
   ·simp only[ht,decide_false,Bool.false_eq_true,if_false,Bool.false_or];rw[aD,aA];rw[aiv];rw[ag,e3,ag,tY h2.zb (k:=aon) rfl,kh];cases acJ<;>rfl
  ·rw[acP lr hn]
abbrev kW aPx aPh aP4 aRU(res:afV)aQP:Prop:=B4 Y j M res ajn aqQ
def B4.get aRp{k:Kd}aSr(h:B4 Y j M res k W'):∃M',res=.ok (c7 (UR k)) M':=by
 cases k with
 | ok=>obtain⟨M',_,e,_⟩:=h; rw[aaX M' e]
 | none=>rw[aaX M h]
 | held=>rw[aaX M h]
 | red=>rw[aaX M h]
def Rg aQE(h:acS asn):ajn=abc:=by
 have go:∀{v:Wo},aaz (zf Y v)->v≠agd->acS (lr Y W v i x)->aFX:=λ{v} h1 h2 h3=>by
  rw[aoh lr h3 h1 h3];simpa[h2] using h3
 cases w with
 | set=>have h:at0:=h;unfold fR;simp[h]
 | cancel=>have h:at0:=h;unfold fR;simp[h]
 | throw=>have h:acS arT:=h; unfold fR kU; simp[h]
 | enter=>have h:acS atO:=h;rw[aoC (mO Y W x i=_) mO]; simp[h]
 | tick=>cases h
 | go=>have:=go rfl d7 h;show Nu Y W x=_;rw[acP Nu this]
 | draw=>have:=go rfl d7 h;show va W x=_;rw[acP va this]
 | turn=>have:=go rfl d7 h;show vb W x=_;rw[acP vb this]
def ft aSo(w:Wo){u:Str}{s1 rest:DS}aU6(hv:w≠v)aUQ(q:apW P (rest ρ M)):apW P (aG (bu (ba (acW (ae k) (aaM u))) s1 fo) rest ρ M) :=
 aH (pO M (ag3 (FE v hu h) (decide_eq_false hv)) (afX (az q)))
def Ca aSo(w:Wo){u:Str}aPo{rest:DS}(hu:w.s=u)aUQ(y:PV)aRx(e:aaQ=.ok y M')(q:P (.ok y M')):apW P (aG (bu (ba (acW (ae k) (aaM u))) (bK d) fo) rest ρ M) :=
 aH (G5 M (ag3 (FE w hu h) (decide_eq_true rfl)) (bx y M' e (cY (aV q))))
def qy aQE aWa(ht:gt [ο 7,c7 w.s,η i,η x] M=.ok (.bl asn) M)
  (h0:aKl i->akh (g0 [ο 7,η i] M) ag7)(h1:aKl i->akh (g1 [ο 7,η i] M) agI)(h2:c8 arT->akh (g2 [ο 7,η i] M) ahz)
  (h3:c8 atO->akh (g3 [ο 7,η x,η i] M) agK)(h4:akh (g4 [ο 7] M) agd)(h5:∀t,acJ=adt->akh (g5 [ο 7,η x] M) .go)
  (h6:∀t,acJ=adt->akh (g6 [ο 7,η x] M) ahi)(h7:∀t,acJ=adt->akh (g7 [ο 7,η x] M) ag6) :
  akh (rY gt g0 g1 g2 g3 g4 g5 g6 g7 [ο 7,c7 w.s,η i,η x] M) w:=by
 rw[ac2 rY (kW Y M W j q w i x)];simp only[zC,zD,zE,zF,Nat.zero_add,Nat.reduceAdd,Nat.reduceSub,List.replicate,zG,zH,zI];refine aH (atH asn)
 ·simp only[m4,eG,aZ,ax,aM,aA,zB,zA,ag,ht,vO]
 ·refine aJW M (cY (aV ?_));rw[avg kW (Rg ajD)]
 rw[acH hk (c8 asn) ajD arC]
 rw[d6 tr (∀{v:Wo},aaz (zf Y v)->v≠agd->c8 (lr Y W v i x)->∃t,acJ=adt) (λ{v} h1 h2 h3=>by
  unfold lr at h3;rw[t7 h1 h3 (Option.isSome_iff_exists.mp (aw4 h2 h3))]) ev (∀aQZ aQJ aPi{y:PV}aQS,fH ds [t8,aoB,akd,x9] M=.ok xs M->g xs M=.ok y M'->av g ds [t8,aoB,akd,x9] M=.ok y M') (λ e1 e2=>by
  rw[aZ,e1,ag,e2])]
 cases w with
 | set =>
  have L:=h0 hk;rw[aeO M' e L.get (Ca (P:=λ q=>kW Y M W j q ag7 i x) ag7 rfl rfl _ M' (ev rfl e) at3)]
 | cancel =>
  have L:=h1 hk;rw[aeO M' e L.get (ft (P:=λ q=>kW Y M W j q agI i x) agI ag7 rfl d7 rfl (Ca (P:=λ q=>kW Y M W j q agI i x) agI rfl rfl _ M' (ev rfl e) at3))]
 | throw =>
  have L:=h2 hk;rw[aeO M' e L.get (ft (P:=λ q=>kW Y M W j q ahz i x) ahz ag7 rfl d7 rfl (ft (P:=λ q=>kW Y M W j q ahz i x) ahz agI rfl d7 rfl (Ca (P:=λ q=>kW Y M W j q ahz i x) ahz rfl rfl _ M' (ev rfl e) at3)))]
 | enter =>
  have L:=h3 hk;rw[aeO M' e L.get (ft (P:=λ q=>kW Y M W j q agK i x) agK ag7 rfl d7 rfl (ft (P:=λ q=>kW Y M W j q agK i x) agK agI rfl d7 rfl (ft (P:=λ q=>kW Y M W j q agK i x) agK ahz rfl d7 rfl (Ca (P:=λ q=>kW Y M W j q agK i x) agK rfl rfl _ M' (ev rfl e) at3))))]
 | tick =>
  have L:=h4;rw[aeO M' e L.get (ft (P:=λ q=>kW Y M W j q agd i x) agd ag7 rfl d7 rfl (ft (P:=λ q=>kW Y M W j q agd i x) agd agI rfl d7 rfl (ft (P:=λ q=>kW Y M W j q agd i x) agd ahz rfl d7 rfl (ft (P:=λ q=>kW Y M W j q agd i x) agd agK rfl d7 rfl (Ca (P:=λ q=>kW Y M W j q agd i x) agd rfl rfl _ M' (ev rfl e) at3)))))]
 | go =>
  rw[aq4 t htr (tr rfl d7 hk) L (h5 t htr)];rw[aeO M' e L.get (ft (P:=λ q=>kW Y M W j q .go i x) .go ag7 rfl d7 rfl (ft (P:=λ q=>kW Y M W j q .go i x) .go agI rfl d7 rfl (ft (P:=λ q=>kW Y M W j q .go i x) .go ahz rfl d7 rfl (ft (P:=λ q=>kW Y M W j q .go i x) .go agK rfl d7 rfl (ft (P:=λ q=>kW Y M W j q .go i x) .go agd rfl d7 rfl (Ca (P:=λ q=>kW Y M W j q .go i x) .go rfl rfl _ M' (ev rfl e) at3))))))]
 | draw =>
  rw[aq4 t htr (tr rfl d7 hk) L (h6 t htr)];rw[aeO M' e L.get (ft (P:=λ q=>kW Y M W j q ahi i x) ahi ag7 rfl d7 rfl (ft (P:=λ q=>kW Y M W j q ahi i x) ahi agI rfl d7 rfl (ft (P:=λ q=>kW Y M W j q ahi i x) ahi ahz rfl d7 rfl (ft (P:=λ q=>kW Y M W j q ahi i x) ahi agK rfl d7 rfl (ft (P:=λ q=>kW Y M W j q ahi i x) ahi agd rfl d7 rfl (ft (P:=λ q=>kW Y M W j q ahi i x) ahi .go rfl d7 rfl (Ca (P:=λ q=>kW Y M W j q ahi i x) ahi rfl rfl _ M' (ev rfl e) at3)))))))]
 | turn =>
  rw[aq4 t htr (tr rfl d7 hk) L (h7 t htr)];rw[aeO M' e L.get (ft (P:=λ q=>kW Y M W j q ag6 i x) ag6 ag7 rfl d7 rfl (ft (P:=λ q=>kW Y M W j q ag6 i x) ag6 agI rfl d7 rfl (ft (P:=λ q=>kW Y M W j q ag6 i x) ag6 ahz rfl d7 rfl (ft (P:=λ q=>kW Y M W j q ag6 i x) ag6 agK rfl d7 rfl (ft (P:=λ q=>kW Y M W j q ag6 i x) ag6 agd rfl d7 rfl (ft (P:=λ q=>kW Y M W j q ag6 i x) ag6 .go rfl d7 rfl (ft (P:=λ q=>kW Y M W j q ag6 i x) ag6 ahi rfl d7 rfl (bx _ M' (ev rfl e) (aV at3)))))))))]
universe zE
universe Sb
universe zE
section
namespace Sb
open PySem L2
structure Dif(a b c d:Addr):Prop where
 ab:a≠b
 ac:a≠c
 ad:a≠d
 bc:b≠c
 bd:b≠d
 cd:c≠d
abbrev YT aUC aQP aPh:afV:=match w with
 | ag7=>g0 [ο 0,η i] M
 | agI=>g1 [ο 0,η i] M
 | ahz=>g2 [ο 0,η i] M
 | agK=>g3 [ο 0,η x,η i] M
 | agd=>g4 [ο 0] M
 | .go=>g5 [ο 0,η x] M
 | ahi=>g6 [ο 0,η x] M
 | ag6=>g7 [ο 0,η x] M
abbrev vP aQP(y:PV):eu:=[f9,aoB,akd,x9,aoG,none]
abbrev Rh aWk:DS :=
 (bu (aus aEV) (av1 ny) (bu (as9 apy) (av1 tQ) (bu (aus aJr) (av1 wN) (bu (as9 (aaM "enter")) (avZ wO [b8,aah,c9]) (bu (as9 (aaM "tick")) (avZ Br aiV) (bu (as9 (aaM "go")) (aBE Qh) (bu (aus aEK) (aBE Bs) (aBE Bt))))))))
section
variable {C:Cs} {Y:fE} {o:adu} {M:aY} {B:Bx} {W:Wd} {j:Nat} {ρ:eu}
def Cc{w:Wo}{u:Str}{s1 s2:DS}aU6{i x:Int}{y:PV}:bu (aus (aaM u)) s1 s2 (vP w i x y) M=alE w v (s1 (vP w i x y) M) (s2 (vP w i x y) M):=by
 rw[apH bu (FE (w:=w) v hu rfl)];by_cases h:w=v<;>simp[h]
def ub aQZ aQJ aPi(h:al9=.ok xs M):bO (av g ds) ρ M=alj (g xs M).out _ (.nx ρ M1):=by
 rw[aiY bO aZ h ag]
def HJ aTw aQE{y:PV}:Rh g0 g1 g2 g3 g4 g5 g6 g7 (vP w i x y) M=(YT g0 g1 g2 g3 g4 g5 g6 g7 w i x M).out (vP w i x y) λ _ M1=>.nx (vP w i x y) M1:=by
 rw[d6 h2 (fH (ahb c9) (vP w i x y) M=.ok [ο 0,η i] M) rfl h1 (fH aiV (vP w i x y) M=.ok [ο 0] M) rfl];rw[d6 h3 (fH (ahb aah) (vP w i x y) M=.ok [ο 0,η x] M) rfl h4 (fH [b8,aah,c9] (vP w i x y) M=.ok [ο 0,η x,η i] M) rfl];unfold Rh;rw[Cc (u := "set") ag7 rfl,Cc (u := "cancel") agI rfl,Cc (u := "throw") ahz rfl,Cc (u := "enter") agK rfl,Cc (u := "tick") agd rfl,Cc (u := "go") .go rfl,Cc (u := "draw") ahi rfl,ub h2,ub h2,ub h2,ub h4,ub h1,ub h3,ub h3,ub h3];cases w<;>rfl
abbrev Ri(C:Cs):Kd->Addr
 | .ok=>C.nt
 | abc=>C.nt
 | .held=>C.he
 | .red=>C.rd
def Oy.bad aRp{k:Kd}{P:aG0}(h:Oy C Y o M res k P)(hk:k≠.ok):res=L6 (Ri C k) M:=by
 cases k with
 | ok=>rw[ath hk]
 | none=>exact h
 | held=>exact h
 | red=>exact h
def UY aTw aQE{cB:Addr}{k:Kd}{P:aG0}(h:Oy C Y o M (YT g0 g1 g2 g3 g4 g5 g6 g7 w i x M) k P) :
  (k=.ok/\∃M' o' B',G2 [cB,C.nt,C.he,C.rd] 4 5 (Rh g0 g1 g2 g3 g4 g5 g6 g7) (vP w i x .bb) M=.nx (vP w i x .bb) M'/\cW C Y none o' M' B'/\gP o M o' M'/\P B') ∨
  (k≠.ok/\G2 [cB,C.nt,C.he,C.rd] 4 5 (Rh g0 g1 g2 g3 g4 g5 g6 g7) (vP w i x .bb) M=.nx (vP w i x aes) (M++[L6 (Ri C k)])):=by
 by_cases hk:k=.ok
 ·subst hk;obtain⟨M',o',B',e,h1,h2,h3⟩:=h;refine b5 ⟨rfl,M',o',B',?_,h1,h2,h3⟩;rw[aiY G2 HJ e Res.eV]
 ·refine c6 (aiS hk);unfold G2;rw[aj2 HJ (h.bad hk) Res.TH];rw[acR (agW (by cases k<;>simp[Ri]))]
abbrev Wt aPQ aQR aU8(v:Kd->PV)(P:aG0):Prop :=
 (k=.ok/\∃M' o' B',res=.ok (v k) M'/\cW C Y none o' M' B'/\gP o M o' M'/\P B')\/(k≠.ok/\∃c,res=.ok (v k) (M++[L6 c]))
universe zE
universe Sb
universe zE
section
namespace Sb
open PySem L2
abbrev jl(d:Wo×Int×Int):PV:=sT [c7 d.1.s,η d.2.1,η d.2.2]
abbrev Wu(d:Wo×Int×Int):Prop:=Sm d.2.1/\Sm d.2.2
def xn{N m:Int}(hm:0<m):∃k:Nat,N%m=k/\ao9<m:=by
 rw[al1 (aIc N b m) (Int.emod_lt_of_pos N hm)];rw[aas (aiF (N%m)) b6 b6]
section
variable {Y:fE} {M:aY} {W:Wd} {j:Nat} {ρ:eu}
def sA{N m:Int}(h:0<m):cC (η N) (η m) M=.ok (η (N%m)) M:=by
 unfold cC mB; simp[h]
def Cd{N m:Int}(h:0<m)(h2:aAQ m):eh (η N) (η m) M=.ok (η (N / m)) M:=by
 unfold eh mB; simp[h,h2]
def FG aPp aRN aSD{d dm:DE}{N c:Int}aPg aWV(hm:dm ρ M=.ok (η xs.length) M)(hN:aj7 k aqs)(dz:aAh 0)(h1:0<c:=by decide)(h2:aAQ c:=by decide) :
  ∃a∈xs,anN d (ay cC (ay eh (ae k) (Θ c)) dm) ρ=.ok aoO M:=by
 rw[apF m e1 e2 (xn (N:=N / c) (m:=xs.length) b6) qj (aAh m) b6]
 rw[adv xs[m] aOg ?_];rw[aD,hd,ag,aD,aD,aA,hN];dsimp only;rw[ag,bA,ag,Cd h1 h2,ag,hm,ag,sA b6,ag,e1];exact fK (by rw[zJ,List.getElem?_eq_getElem qj];rfl)
def UZ aPp aRN aSD aPo aWV:av bU [d] ρ M=.ok (η xs.length) M:=by
 rw[aZ,ax,hd];simp[bU]
def afu aQF aQ4:bU [ο n] M=.ok aF7 M:=by
 unfold bU;simp[sY,h]
def gy aRW{gb gn:D1}aPn(hs:al4)(hss:Y.ss.length≤16)aW1
  (hn:gn [ο 7,η s] M=.ok (gW (dy Y W.trains s)) M)(Ar:awQ)(Ow:aDV 90) :
  ∃ds:af5 Wo (Int×Int),aG7/\(∀d∈ds,Wu d)/\kJ gb gn [ο 7,η s] M=.ok (ς (ds.map jl)) M:=by
 rw[d6 hnn (anU (dy Y W.trains s) ahI) (ame (by
  rw[ahP q hq hx];exact Ar q aLN.1)) UO (agS (dy Y W.trains s) 90) (by
  rw[ahc dy zK (asF (List.length_filter_le _ _) Ow)])]
 have key:∃ds:af5 Wo (Int×Int),aG7/\(∀d∈ds,Wu d)/\((c8 ajl/\∃nm:Int,ds=[(agK,atY,nm)]/\anN (aem [(Θ 0),(Θ 101),(Θ 102),(Θ 103),(Θ 104)]) (av Jl [(Θ 4),(agR akR)]) [t8,aeD,aoA,aoL]=.ok (η nm) M)\/(acS ajl/\ds=ag8 (dy Y W.trains s).map x (.go,0,x))):=by
  rw[ahN hk ajl]
  ·obtain⟨m,hm5,hm⟩:∃m:Nat,m<5/\(if afW W.trains.length<4 then(afN W.trains.length:Int) else 4)=ar4:=by
    split
    ·rw[an0 W.trains.length b6]
    ·rw[an0 4 b6]
   rw[d6 hl (ahK ([0,101,102,103,104]:acm)=5) rfl qj (m<ahK ([0,101,102,103,104]:acm)) b6]
   rw[ah8 hsm (∀y∈([0,101,102,103,104]:acm),Sm y) (by
    intro y hy;rw[ajr hy];unfold Sm;omega) ⟨[(agK,atY,([0,101,102,103,104]:acm)[m])],Ξ,?_,b5 (amK hk _ ?_)⟩]
   ·intro d hd;rw[List.mem_singleton.mp hd];rw[aaX ⟨by show -1000≤atY;omega,by show atY≤_; omega⟩ (hsm _ aOg)]
   ·have e1:=alo [t8,aeD,aoA,aoL] fL;rw[aD,jR];simp only[ax,aM,bA,ag,aZ];rw[av8,ag,e1];rw[alM (afu h.zb)];rw[show Jl [η 4,η (afN (aeA ajb))] M=.ok (η (if afW (aeA ajb)<4 then(afN (aeA ajb):Int) else 4)) M from rfl,BR,hm,ag]
    exact fK (xs:=atr ([0,101,102,103,104]:acm).map) (by rw[zJ,List.getElem?_eq_getElem qj];rfl)
  ·rw[aup (ag8 (dy Y W.trains s).map x (.go,0,x)) (aam UO) ?_ (c6 (aiI ajD))];intro d hd;rw[ahP x hx hd];rw[aaX ⟨by show -1000≤atX;omega,by show atX≤_; omega⟩ (hnn x hx)]
 obtain⟨ds,YU,Nr,hc⟩:=key;rw[aup ds YU Nr ?_];rw[ac2 kJ (q=.ok (ς (ds.map jl)) M)];simp only[zC,zD,zE,zF,Nat.zero_add,Nat.reduceAdd,Nat.reduceSub,List.replicate,zG,zH,zI];rw[aaA e1 (h.ix (ρ:=[t8,aeD,none,none]) (d:=b8) rfl oJ) (aH (G6 av7 [t8,aeD,aoA,aoL] M ?_ UN ac4))]
 ·rw[aD,e1];simp[ay8]
 rw[aaA e2 (h.ix (ρ:=[t8,aeD,aoA,aoL]) (d:=b8) rfl pF) (aH (eO ajl M ?_ (g8 hk) (g8 hk)))]
 ·rw[bI,aD,aZ,ax,e2];simp only[ax,aM,aA,zB,zA,ag,bA,hb,Wn];rfl
 ·rcases hc with⟨_,nm,rfl,e⟩ | ⟨hc,_⟩
  ·rw[aiy (bx (ς [jl (agK,atY,nm)]) M ?_ (cY (aV rfl))) jR];simp only[ax,aM,r6,e,bA,aA,zB,zA,ag];rw[acR av8]
  ·rw[hk] at hc; cases hc
 ·rcases hc with⟨hc,_⟩ | ⟨_,rfl⟩
  ·rw[hk] at hc; cases hc
  ·rw[aiy (afX (acK (ah4 _ M ?_))) (cc (xs:=dy Y W.trains s) (w:=none) (M':=M) (aiJ afA n) ah9 (λ x=>jl (.go,0,x)) (ahW [y]) (ej (by simp only[aZ,ax,aM,aA,zB,zA,ag,hn])) trivial ah2 (akf z) (adP UO))]
   ·rw[List.filter_eq_self.mpr (λ _ _=>rfl),bM (by rw[aqg UO]),List.map_map];rfl
   ·rw[ahJ y rfl hρ (abS _ rfl acV (λ _=>by rw[acR r6]))]
universe zE
universe Sb
universe zE
section
namespace Sb
open PySem L2
abbrev JY:DS:=(ahC (acW (adU cC (Θ 32)) (Θ 1)) (alk 9 (t6 (aem [(sZ (Θ 1)),aHE,(aly (Θ 1000) (atG 32 (Θ 1000)))]) (ay cC (adU eh aBg) (Θ 3))) (bL 5 (t6 (aem [(sZ (Θ 5)),(Θ 3),aKF]) (ay cC (adU eh aBg) (Θ 3))))) (aFh [(ae 7),(ae 9),(KZ aHF aeJ (t6 (aem [(Θ 0),(Θ 100),(Θ 101),(sZ (Θ 3))]) (ay cC (adU eh (Θ 512)) (Θ 4))))]))
abbrev JZ:DS:=(aG (bu (mD (ata (ae 7) apy) (dP (aiN "green"))) (bL 9 (t6 (aiN "green") (ay cC (adU eh (Θ 64)) (agR (aiN "green"))))) fo) JY)
abbrev J0:DS:=(aG (bu (mD (dP aNc) (mD (dP ZJ) (ba (acW (adU cC (Θ 4)) (Θ 2))))) (aFh [(t6 (aem [(aaM "turn"),(aaM "go"),(aaM "turn"),(aaM "tick")]) (ay cC (adU eh (Θ 64)) (Θ 4))),(Θ 0),(t6 ZJ (ay cC (adU eh (Θ 256)) aFS))]) fo) JZ)
abbrev Rj(kg:D1):DS:=(aG (bu (mD (ba (acW (adU cC (Θ 4)) (Θ 0))) (dP (aiN "green"))) (aqK 10 (t6 (aiN "green") (ay cC (adU eh (Θ 64)) (agR (aiN "green")))) 11 (atE (av kg [c9,aGn]) (awS [apy,(ae 10),(Θ 0)]) aGr) (as5 (ae 11) (aeu (t6 (ae 11) (ay cC (adU eh (Θ 1024)) (agR (ae 11))))))) fo) J0)
abbrev U0:List Wo:=[ag7,ag7,.go,.go,.go,ahi,ahi,agK,agI,agd,ahz,ag6]
abbrev jm aQW(k N:Int)(names:acm)(nm:Int)(l:PV)(w:Wo)aPf(a:Int)(y z:ahL):eu:=[akx .pR,agO,t8,aqs,aAW,afY nm,some l,aoB,aqt,aCK,y,z]
abbrev Sx aPh(q:afV):Prop:=∃d,Wu d/\q=.ok (jl d) M
abbrev uc aPx(w:Wo):Nat:=match w with
 | ag7=>Y.rs.length
 | agI=>Y.rs.length
 | ahz=>Y.ps.length
 | _=>Y.ss.length
section
variable {Y:fE} {M:aY} {W:Wd} {j:Nat} {ns:acm} {k N:Int} {names:acm} {nm:Int} {l:PV} {w:Wo} {n:Nat} {a:Int} {y z:ahL} {ρ:eu}
def HK aPm:ang (uc Y w):=by
 rw[akq h1 G.len h2 G.g.qi h3 G.g.zy];cases w<;>(rw[ams uc]; omega)
def Ek aWp(h8:aj7 8 aqt)(h7:ρ[7]? = aGm)(h2:aAG 2):nF (ae 8) (ae 7) (agR (aiN "signals")) ρ M=.ok (η (uc Y w)) M:=by
 rw[asN nF aA h8];rw[asB ag (eD hd)];rw[asB aA h7];rw[ag,abM h h2,ag,eD hd,JX]
 dsimp only
 rw[auo ((jF (CT Y) (dB w.s)).getD aBS=η (uc Y w)) (by cases w<;>with_unfolding_all rfl)]
def tmod{c r:Int}(h3:aj7 3 aqs)(hc:0<c):ba (acW (adU cC (Θ c)) (Θ r)) ρ M=.ok (afJ (N%c) r) M:=by
 rw[bI,aD,aD,aA,h3];dsimp only;rw[ag,bA,ag,sA hc,ag,bA,ag,fu];rfl
def Rk aPn(h2:aAG 2):dP (aiN "green") ρ M=.ok aMl M:=by
 rw[eG,h.ix (anE h2) uN,ag];simp[jG]
def HL aPn(h2:aAG 2)(h3:aj7 3 aqs)(hg:aL1):∃r∈W.green,anN (aiN "green") (atG 64 (agR (aiN "green"))) ρ=.ok (η r) M:=by
 rw[aeC e (h.ix (ρ:=ρ) (d:=c9) (anE h2) uN) hp (0<W.green.length) (aHV hg)];exact FG (enc:=ay2 r r) e (UZ (enc:=ay2 r r) e) h3 hp
def lits{xs:acm}(hl:aBM)aQJ(h:al9=.ok aJI M):cE false ds ρ M=.ok (ς (xs.map PV.int)) M:=by
 rw[jR,h,ag,cN (aam hl)]
def YV aPu(h1 : -1000≤i:=by decide)(h2:aMj i:=by decide):aik:=⟨h1,h2⟩
def LS aPm aWp aTI:apW (Sx M) (JY (jm ns k N names nm l w n a y z) M):=by
 unfold JY
 rw[ahU last (∀(nm a:Int),ay9->Sm a->apW (Sx M) ((aFh [(ae 7),(ae 9),(KZ aHF aeJ (t6 (aem [(Θ 0),(Θ 100),(Θ 101),(sZ (Θ 3))]) (ay cC (adU eh (Θ 512)) (Θ 4))))]) (jm ns k N names nm l w n a y z) M)) (λ nm a Ar ha=>by
  have e1:ba (ay (dW true) (ae 7) (aaM "enter")) (jm ns k N names nm l w n a y z) M=.ok (!(afJ w agK)) M:=by
   have e4:(PV.str "enter")=c7 (Wo.enter).s:=rfl;rw[bI,aD,show ae 7 (jm ns k N names nm l w n a y z) M=.ok (c7 w.s) M from rfl,ag,bA,ag,e4,Rf]
   rfl
  obtain⟨b,hb,e2⟩:∃b∈([0,100,101,-3]:acm),anN (aem [(Θ 0),(Θ 100),(Θ 101),(sZ (Θ 3))]) (atG 512 (Θ 4)) (jm ns k N names nm l w n a y z)=.ok (η b) M :=
   FG (enc:=PV.int) (xs:=[0,100,101,-3]) (lits d7 rfl) rfl rfl d7
  have hbs:Sm b:=by
   rw[ajr hb];unfold Sm;omega
  obtain⟨c,hc,e3⟩:∃c,Sm c/\KZ aHF aeJ (t6 (aem [(Θ 0),(Θ 100),(Θ 101),(sZ (Θ 3))]) (ay cC (adU eh (Θ 512)) (Θ 4))) (jm ns k N names nm l w n a y z) M=.ok (η c) M:=by
   have eo:∃q,A6 (ba (ay (dW true) (ae 7) (aaM "enter"))) (ba (acW (adU cC (Θ 8)) (Θ 3))) (jm ns k N names nm l w n a y z) M=.ok q M:=by
    rw[vF,e1,ag,aGh];by_cases hw:w=agK<;>simp[hw]
   obtain⟨q,eo⟩:=eo;rw[By,eo,ag];cases q with
   | true=>rw[an0 nm Ar]
   | false=>rw[aas b hbs e2]
  refine bx (jl (w,a,c)) M ?_ (aV (amT ⟨ha,hc⟩));rw[r6,ax,show ae 7 (jm ns k N names nm l w n a y z) M=.ok (c7 w.s) M from rfl,ag,ax,ayS 9 (jm ns k N names nm l w n a y z) .ok a,ag,ax,e3]
  rfl) (eO (afJ (N%32) 1) M aGh (g8 hk) (λ hk=>afX (acK (last nm a Ar ha))))];have XM:=HK (w:=w) G
 obtain⟨q,eq1,eq2⟩:=xn (N:=N / 32) (m:=1000) d7
 obtain⟨b,hb,e2⟩:∃b∈([-1,acy (uc Y w),1000+N / 32%1000]:acm),anN (aem [(sZ (Θ 1)),aHE,(aly (Θ 1000) (atG 32 (Θ 1000)))]) (ay cC (adU eh aBg) (Θ 3)) (jm ns k N names nm l w n a y z)=.ok (η b) M:=by
  rw[anl (FG (enc:=PV.int) (xs:=[-1,acy (uc Y w),1000+N / 32%1000]) (lits (by show aiT 3;decide) ?_) rfl rfl (by show 0<3;decide)) e1 (sZ (Θ 1) (jm ns k N names nm l w n a y z) M=.ok (η (-1)) M) rfl e3 (ay (dX false) (Θ 1000) (atG 32 (Θ 1000)) (jm ns k N names nm l w n a y z) M=.ok (η (1000+N / 32%1000)) M) (by
   rw[aD,bA,ag,aD,aD,ayS 3 (jm ns k N names nm l w n a y z) .ok N,ag,bA,ag,Cd d7 d7,ag,bA,ag,sA d7,ag]
   rfl)]
  rw[ax,e1,ag,ax,Ek (w:=w) h hd rfl rfl rfl,ag,ax,e3];rfl
 rw[acH hbs (Sm b) (by
  rw[ajr hb];unfold Sm;omega) (aeV (η b) M e2)];show E5 (L2.Fin (Sx M)) _ (bL 5 _ (jm ns k N names nm l w n b y z) M)
 obtain⟨c,hc,e4⟩:∃c∈([-5,3,999999]:acm),anN (aem [(sZ (Θ 5)),(Θ 3),aKF]) (ay cC (adU eh aBg) (Θ 3)) (jm ns k N names nm l w n b y z)=.ok (η c) M :=
  FG (enc:=PV.int) (xs:=[-5,3,999999]) (lits d7 rfl) rfl rfl d7
 rw[acH hcs (Sm c) (by
  rw[ajr hc];unfold Sm;omega) (wR (η c) M e4 ac4)];exact last c b hcs hbs
def U1 aPm aPn aUr aTI:apW (Sx M) (JZ (jm ns k N names nm l w n a y z) M):=by
 rw[aqR JZ (aH (ayy (apD (w=agI) aMl) M (λ hk=>afX (acK (LS G h hd Ar ha)))))]
 ·rw[m3,FE (w:=w) (u := "cancel") agI rfl rfl,ag,Rk h rfl];by_cases hw:w=agI<;>simp[hw]
 ·have hg:aL1:=aMP aHX.2
  rw[aoa r hr e (HL (N:=N) (ρ:=jm ns k N names nm l w n a y z) h rfl rfl hg) (wR (η r) M e ac4)];rw[al1 (Fp r hr) G.len];exact LS (a:=azi) G h hd Ar aGj
def LU aPm aPn aUr(MA:anU names ahI)aTI:apW (Sx M) (J0 (jm ns k N names nm l w n a y z) M):=by
 unfold J0;rw[aaA ef (h.ix (ρ:=jm ns k N names nm l w n a y z) (d:=c9) rfl mf) (aH (ayy (aOA && (aMF && afJ (N%4) 2)) M (λ hk=>afX (acK (U1 G h Fp hd Ar ha)))))]
 ·rw[d6 e1 (dP aNc (jm ns k N names nm l w n a y z) M=.ok aOA M) (by
   rw[eG,ef,ag];rw[ani jG h.w9];rw[avg encD List.isEmpty_map]) e2 (dP ZJ (jm ns k N names nm l w n a y z) M=.ok aMF M) (by
   rw[eG,show ae 4 (jm ns k N names nm l w n a y z) M=.ok (gW names) M from rfl,ag]
   simp[jG])]
  rw[m3,e1,ag,m3,e2,ag,aGh];cases W.falls.isEmpty<;>cases names.isEmpty<;>simp
 ·rw[d6 hn (acS names.isEmpty) (by
   have:=(Bool.and_eq_true_iff.mp aHX.2).1;simpa using this) hp (0<names.length) (aHV hn)]
  obtain⟨v,hv,e1⟩:∃v∈([ag6,.go,ag6,agd]:List Wo),anN (aem [(aaM "turn"),(aaM "go"),(aaM "turn"),(aaM "tick")]) (atG 64 (Θ 4)) (jm ns k N names nm l w n a y z)=.ok (c7 v.s) M :=
   FG (enc:=fun(v:Wo)=>PV.str v.s) (xs:=[ag6,.go,ag6,agd]) (by rw[Ω jR (cN d7)]) rfl rfl d7
  have en:ae 4 (jm ns k N names nm l w n a y z) M=.ok (ς aOD) M:=rfl;rw[aoa x hx e2 (FG (c:=256) (N:=N) (k:=3) (enc:=PV.int) (xs:=names) en (UZ (enc:=PV.int) en) rfl hp) (bx (jl (v,0,x)) M ?_ (cY (aV (amT ⟨YV (i:=0),MA x hx⟩))))];rw[r6,ax,e1,ag,ax,bA,ag,ax,e2];rfl
def U2{gd:D1}aPm aPn aUr(MA:anU names ahI)aTI
  (hg:azU s al4 (∃ds:af5 Wo (Int×Int),aG7/\(∀d∈ds,Wu d)/\gd [ο 7,η s] M=.ok (ς (ds.map jl)) M)):apW (Sx M) (Rj gd (jm ns k N names nm l w n a none none) M):=by
 rw[aqR Rj (aH (ayy (apD (N%4=0) aMl) M (λ hk=>afX (acK (LU G h Fp hd MA Ar ha)))))]
 ·rw[m3,aGh,ag,Rk h rfl];by_cases hw:N%4=0<;>simp[hw]
 ·have hge:aL1:=aMP aHX.2
  rw[aA6 r hr (HL (N:=N) (ρ:=jm ns k N names nm l w n a none none) h rfl rfl hge)];rw[aaA LJ (Fp r hr) (aeV (η r) M e)]
  show E5 (L2.Fin (Sx M)) _ (aG (bL 11 _) _ (jm ns k N names nm l w n a aax none) M);obtain⟨ds,YU,Nr,eg⟩:=hg Es (G.sg LJ);have er:=h.ix (ρ:=jm ns k N names nm l w n a aax none) (d:=c9) rfl qW
  obtain⟨m,em,hm⟩:=xn (N:=N / 256) (m:=2) d7
  rw[d6 e1 (av gd [c9,aGn] (jm ns k N names nm l w n a aax none) M=.ok (ς (ds.map jl)) M) (by
   rw[aZ,ax,show ae 2 (jm ns k N names nm l w n a aax none) M=.ok (ο 7) M from rfl,ag,ax,aD,aD,er,ag,ayS 10 (jm ns k N names nm l w n a aax none) .ok r,ag,xl LJ,ag,bA,ag,wV]
   rw[alM aM];exact eg) e2 (ay (nq false) (awS [apy,(ae 10),(Θ 0)]) aGr (jm ns k N names nm l w n a aax none) M=.ok (ς ((aIB (Wo.cancel,azi,atX)).map jl)) M) (by
   have el:cE false [(iS [apy,(ae 10),(Θ 0)])] (jm ns k N names nm l w n a aax none) M=.ok (ς [jl (agI,r,0)]) M:=by
    rw[jR,ax,r6];exact av8
   rw[aD,el,ag,aD,aD,ayS 3 (jm ns k N names nm l w n a aax none) .ok N,ag,bA,ag,Cd d7 d7,ag,bA,ag,sA d7,ag,em]
   have:m=0\/m=1:=b6
   rcases this with rfl | rfl<;>with_unfolding_all rfl)]
  have e3:∃NA:af5 Wo (Int×Int),aiT NA.length/\(∀d∈NA,Wu d)/\(atE (av gd [c9,aGn]) (awS [apy,(ae 10),(Θ 0)]) aGr) (jm ns k N names nm l w n a aax none) M=.ok (ς axK) M:=by
   rw[aup (ds++aIB (Wo.cancel,azi,atX)) (by rw[List.length_append,List.length_replicate]; omega) (acO d hd) ?_]
   ·rcases List.mem_append.mp hd with hd | hd
    ·exact Nr d hd
    ·rw[List.eq_of_mem_replicate hd];have h2:=G.len;rw[aaX ⟨by show -1000≤azi;omega,by show azi≤_; omega⟩ (YV (i:=0))]
   ·rw[aD,e1,ag,e2,ag,qE,← List.map_append,cN (by rw[zK,List.length_append,List.length_replicate];omega)]
  obtain⟨NA,O8,KI,e3⟩:=e3;rw[ag1 (ς axK) M e3]
  show E5 (L2.Fin (Sx M)) _ (bu _ _ _ (jm ns k N names nm l w n a aax (ag4 axK)) M);refine eO (! NA.isEmpty) M ?_ (g8 jB) (λ _=>afX (acK (LU G h Fp hd MA Ar ha)))
  ·rw[eG,show ae 11 (jm ns k N names nm l w n a aax (ag4 axK)) M=.ok (ς axK) M from rfl,ag]
   simp[jG]
  ·rw[ajS hp (0<NA.length) (aHV aCc) en (ae 11 (jm ns k N names nm l w n a aax (ag4 axK)) M) (.ok (ς axK) M) rfl];rw[asK d Td e4 (FG (c:=1024) (N:=N) (k:=3) (enc:=jl) (xs:=NA) en (UZ (enc:=jl) en) rfl hp) (bx (jl d) M e4 (cY (aV (ajs d (KI d Td)))))]
def qz{gm gd:D1}(hm:aCH)aPm aPn(Fp:∀r∈W.green,adg)(MA:awQ)(Ow:aDV 90)
  (hg:∀aPh aP6,acX->al4->∃ds:af5 Wo (Int×Int),aG7/\(∀d∈ds,Wu d)/\gd [ο 7,η s] M=.ok (ς (ds.map jl)) M) :
  ∃d,Wu d/\trunc (pe gm gd) [.pR ns,η k,ο 7] M=.ok (jl d) M:=by
 have main:Sx (M++[.bB (CT Y)]) (pe gm gd [.pR ns,η k,ο 7] M):=by
  rw[aqR pe (cV (P:=Sx (M++[.bB (CT Y)])) ?_)];simp only[zC,zD,zE,zF,Nat.zero_add,Nat.reduceAdd,Nat.reduceSub,List.replicate,zG,zH,zI];rw[ag1 (η azg) M (f6 (hm ns k M))]
  rw[adk];generalize azg=N
  rw[ai3 UO (agS aDN 90) (by rw[alb Ow]) YW (anU aDN ahI) (ame (by
   rw[ahP q hq hx];exact MA q hq)) (aeV (gW aDN) M ?_)]
  ·have e:=h.ix (ρ:=[akx .pR,agO,t8,aqs,none,none,none,none,none,none,none,none]) (d:=c9) rfl fL;rw[aZ,ax,e];rw[alM aM];rw[ani jO (eD h.zb)];rw[FA,bM (by rw[axO Ow])];rw[asQ gW]
  rw[adk];generalize aDN=names at UO YW
  obtain⟨nm,Ar,e1⟩:∃nm,ay9/\(KZ (dP ZJ) (t6 ZJ (ay cC (adU eh (Θ 16)) aFS)) (Θ 7)) [akx .pR,agO,t8,aqs,aAW,none,none,none,none,none,none,none] M=.ok (η nm) M:=by
   rw[d6 en (ae 4 [akx .pR,agO,t8,aqs,aAW,none,none,none,none,none,none,none] M=.ok (ς aOD) M) rfl et (dP ZJ [akx .pR,agO,t8,aqs,aAW,none,none,none,none,none,none,none] M=.ok aMF M) (by
    rw[eG,en,ag];simp[jG])]
   rw[By,et,ag];cases he:names.isEmpty with
   | true=>rw[an0 7 YV]
   | false =>
    have hp:0<names.length:=aHV he;rw[ahd x hx e (FG (c:=16) (N:=N) (k:=3) (enc:=PV.int) (xs:=names) en (UZ (enc:=PV.int) en) rfl hp) x (YW x hx) e]
  rw[ag1 (η nm) M e1]
  rw[akp (ς (U0.map λ w=>PV.str w.s)) M ?_]
  ·rw[Ω jR (cN d7)]
  rw[adk]
  rw[aoa w hw e2 (FG (c:=4) (N:=N) (k:=3) (M:=M) (ρ:=[akx .pR,agO,t8,aqs,aAW,afY nm,ag4 (U0.map λ w=>PV.str w.s),none,none,none,none,none]) (enc:=λ w=>PV.str w.s) (xs:=U0) (d:=ae 6) (dm:=Θ 12) rfl rfl rfl d7) (aeV (c7 w.s) M e2)];rw[akp aes (M++[.bB (CT Y)]) (abN h rfl)]
  rw[adk];rw[aeC h1 (h.push (.bB (CT Y))) hd (aAA (M++ant (CT Y)) .bB (CT Y)) Ξ]
  rw[axB (M++ant (CT Y)) h1 hd];generalize M.length=n at hd;rw[aeC XM (HK (w:=w) G) hmx (0<(if acy (uc Y w) > 1 then(uc Y w:Int) else 1)) (by split<;>omega)]
  obtain⟨a,ea,ha⟩:=xn (N:=alB (k+1)) hmx
  rw[acH So (ang a) (by split at ha<;>omega) (aeV (η a) M1 ?_)]
  ·have e3:=Ek (w:=w) (n:=n) (ρ:=[akx .pR,agO,t8,aqs,aAW,afY nm,ag4 (U0.map λ w=>PV.str w.s),aoB,aqt,none,none,none]) h1 hd rfl rfl rfl;simp only[aD,aZ,ax,aM,aA,zB,zA,ag,bA,wx,hm ns _ M1] at e3 ⊢;rw[e3];simp only[ag];rw[show TC [η 1,η (uc Y w)] M1=.ok (η (if acy (uc Y w) > 1 then(uc Y w:Int) else 1)) M1 from rfl,ag,sA hmx,ea]
  rw[adk]
  exact U2 (a:=acy a) G h1 Fp hd YW Ar aGj (amf (hg M1 s h1 hs))
 rw[ahd d hd e main d hd (qe.trunc ⟨_,e⟩ rfl)]
universe zE
universe Sb
universe zE
end
mutual
section
namespace Sb
open PySem L2
section
variable {C:Cs} {Y:fE} {o:adu} {M:aY} {B:Bx} {W:Wd} {j:Nat} {w:Wo} {i x:Int}
def Rl{y:Int}(hy:y≠x):ayT aqQ=aCL:=by
 cases w with
 | set=>rfl
 | cancel=>rw[ams lI]; split<;>rfl
 | throw=>rfl
 | tick=>show ayT (nP W)=_; rw[ze]
 | enter =>
  show ay1=_;rw[eB,axH]
 | go =>
  rw[aoC (ayT (JN Y W x)=_) JN];split
  ·rfl
  ·split
   ·show ay1=_;rw[eB,axH]
   ·split
    ·show ay1=_;rw[eB,axH]
    ·show ay1=_;rw[eB,axH]
 | draw =>
  rw[aoC (ayT (pE W x)=_) pE];split
  ·rfl
  ·split
   ·show aGy=_;rw[jz,axH]
   ·show ay1=_;rw[eB,axH]
 | turn =>
  rw[aoC (ayT (lq W x)=_) lq];split
  ·rfl
  ·show ay1=_;rw[eB,axH]
def U3{y:Int}(hy:y≠x):ayT am7=aCL:=by
 rw[ay6];split
 ·exact Rl hy
 ·rfl
def Rm aPm(h:amd)(hn:awQ)aQC:am2 (am7).trains (Sm q.1):=ai1 (by
 rw[aih q.1 x]
 ·rw[amX hx]
 ·have h1:=cz (JW (w:=w) (i:=i) (x:=x) G h).I.vX hq;rw[t7 (U3 e) h1 (hn _ (iK h1))])
structure Sd aPQ aPh aPU aP4(o:adu)aRU:Prop where
 y:afk
 w:acX
 f:amd
 S:ai0
 sep:∀i,Wi j i->o i=.uT
 nm:awQ
abbrev St aPQ aPh aP4:Prop:=∃B o j,aki
abbrev U4 aPQ aQR aP4(res:afV)aQP:Prop:=Oy C Y o M res ajn λ B'=>lN Y aqQ B'
def Sd.push(s:aki)(v:MO):Sd C Y (M++[v]) B W (dt o M.length .uT) j:=by
 refine⟨s.y.push v .uT,s.w.push v,s.f,s.S,azv,s.nm⟩;unfold dt;split
 ·rfl
 ·exact s.sep i hi
def gQ.ad aPn aPt(hi:Wi j i):aow i:=by
 rcases hi with rfl | rfl | rfl | rfl | rfl
 ·exact df h.w6
 ·exact df h.w7
 ·exact df h.w9
 ·exact aFG
 ·exact df h.wl
def Wv aQS aPT(f:aHg)(sep:∀i,Wi j i->o i=.uT):cW C Y none o M' B :=
 h.keep f.len λ i hi dz=>f.out i (aBm (sep i (b5 e))) (aBm (sep i (c6 (b5 e)))) (aBm (sep i (c6 (c6 (b5 e))))) (aBm (sep i (c6 (c6 (c6 (b5 e)))))) (aBm (sep i (c6 (c6 (c6 (c6 e)))))) hi
abbrev HM aPQ(gd:D1):Prop:=∀M B W o j aQP,aki->akh (gd [ο 7,c7 w.s,η i,η x] M) w
abbrev Ce aPQ(ga:D1)(v:Kd->PV):Prop:=∀M B W o aQP,afk->amd->ai0->aik->ahI->Wt C Y o M (ga [ο 0,c7 w.s,η i,η x] M) ajn v λ B'=>lN Y aqQ B'
def step{gd ga:D1}{v:Kd->PV}aPm aWi(s:aki)aQB aQC :
  ∃M1 M2,gd [ο 7,c7 w.s,η i,η x] M=.ok (c7 (UR ajn)) M1/\ga [ο 0,c7 w.s,η i,η x] M1=.ok (v ajn) M2/\St C Y M2 am7:=by
 rw[akq L (hd M B W o j w i x s) hf (JW (w:=w) (i:=i) (x:=x) G s.f) hn (Rm (w:=w) (i:=i) (x:=x) G s.f s.nm hx)]
 by_cases hk:ajn=.ok
 ·have ea:am7=aqQ:=by rw[acP qh hk]
  rw[ea] at hf hn ⊢;unfold kW at L;rw[hk] at L ⊢;obtain⟨M1,j',e1,w1,f1,hj⟩:=L;rw[ZI y1 (Wv s.y f1 s.sep) A (ha M1 B W o w i x y1 s.f s.S hi hx)]
  rw[hk] at A;rcases A with⟨_,M2,o',B',e2,y2,f2,S2⟩ | ⟨hc,_⟩
  ·rw[ah8 Rn (∀i,Wi j' i->o i=.uT) (aqk (by
    rcases hj with rfl | hj
    ·exact s.sep i hi
    ·rcases hi with e | e | e | e | e
     ·exact s.sep i (b5 e)
     ·exact s.sep i (c6 (b5 e))
     ·exact s.sep i (c6 (c6 (b5 e)))
     ·exact s.sep i (c6 (c6 (c6 (b5 e))))
     ·exact s.y.hi i b6)) ⟨M1,M2,e1,e2,B',o',j',y2,w1.keep λ i hi hl=>f2.out i hl (Rn i hi),hf,S2,azv,hn⟩];rw[Ω (f2.tag i (w1.ad hi)) (Rn i hi)]
  ·rw[ath hc]
 ·have ea:am7=W:=by
   rw[ay6];split
   ·rename_i e;rw[afZ e hk]
   ·rfl
  rw[ea]
  rw[ajG e1 (gd [ο 7,c7 w.s,η i,η x] M=.ok (c7 (UR ajn)) M) (by
   unfold kW at L;cases e:ajn with
   | ok=>rw[afZ e hk]
   | none=>rw[azG]
   | held=>rw[azG]
   | red=>rw[azG]) A (ha M B W o w i x s.y s.f s.S hi hx)];rcases A with⟨hc,_⟩ | ⟨_,c,e2⟩
  ·rw[afZ hc hk]
  ·exact⟨M,_,e1,e2,B,_,j,s.push (L6 c)⟩
def U5 aPm aQ2 aRY:ua B azI aaC=aAy W:=by
 unfold ua heldW
 have:∀w:z0,(anU w (aDL x.1))->(w.any λ s=>aEZ s.1 s.1)=w.any λ s=>mh W s.1:=λ w hw=>by
  induction w with
  | nil=>rfl
  | cons x w ih =>
   rw[List.any_cons,List.any_cons,ih (ao1 y (hw y (f6 hy)))];unfold mh;rw[List.getD_eq_getElem?_getD,S.locks x.1 (hw x Ξ),JV S];rfl
 exact this _ (ame (G.bz.lt r hr x.1 (ahg x hx)))
def YX(S:ai0)aQo(hp:aln):(aEZ p p)=amc:=by
 unfold mh;rw[List.getD_eq_getElem?_getD,aJS p,JV S];rfl
def abQ aRp aPm aS7
    (h:(at0/\res=ai2)\/azV r (i=r) (adg ∧
      ((c8 (ua B azI aaC)/\res=L6 C.he M) ∨
       (acS (ua B azI aaC)/\∃M', res=.ok .bb M'/\cW C Y none o M' (setB Y.rs (za Y.ps) B r)/\ahG)))):U4 C Y o M W res ag7 i x:=by
  unfold U4 fR lI
  dsimp only;rcases h with⟨hn, e⟩ | ⟨r, rfl, hr, c⟩
  · rw[Ω hn e]
  rw[as4 hr, Int.toNat_natCast]
  rw[U5 G f.I S hr] at c;rcases c with⟨hh, e⟩ | ⟨hh, M', e, y1, f1⟩
  · rw[Ω hh e]
  · rw[ae2 hh ⟨M', o, _, e, y1, f1, Ut G.bz f.I S hr (FD G f.I hr hh).1 (G.oh hr)⟩]
def Ro aRp aPm aS7
    (h:(at0/\res=ai2)\/azV r (i=r) (adg ∧
      ((ar2/\res=ai2) ∨
       (akF/\((ae8 (alf 0 (agl (amL Y) || ahE))/\∃M', res=.ok .bb M'/\cW C Y none (dt o M.length (.fall r)) M' (Lx Y.rs B r (aAp arh (amL Y)))/\gP o M (dt o M.length (.fall r)) M')
          \/ ai6 (alf 0 (agl (amL Y) || ahE))/\∃M', res=.ok .bb M'/\cW C Y none o M' (xf Y.rs B r)/\ahG))))):U4 C Y o M W res agI i x:=by
  unfold U4 fR lI
  dsimp only;rcases h with⟨hn, e⟩ | ⟨r, rfl, hr, c⟩
  · rw[Ω hn e]
  rw[as4 hr, Int.toNat_natCast];rcases c with⟨hg, e⟩ | ⟨hg, c⟩
  · rw[auT hg e]
  rw[aj9 hg];rw[aeC dz (UT G f.I S f.J (G.sg hr)) hq ((alf 0 (agl (amL Y) || ahE))=FC Y W r) (by
    rw[acP FC dz];cases amL Y<;>rfl)]
  rw[hq] at c;rcases c with⟨hb, M', e, y1, f1⟩ | ⟨hb, M', e, y1, f1⟩
  · rw[hb, afC]
    refine⟨M', _, _, e, y1, f1, ?_⟩;have:=QE (u:=aAp arh (amL Y)) G.bz f.I S hg
    unfold Fa at this;rw[← dz, S.ticks] at this;rw[Ω S.ticks this]
  · rw[hb, ane]
    exact⟨M', _, _, e, y1, f1, JD G.bz f.I S hg⟩
def U6 aRp aPm aS7
    (h:(acS (ak5 i)/\res=ai2)\/azV p (i=p) (aln/\ao5 ∧
      ((ae8 (aEZ p p)/\res=L6 C.he M) ∨
       (ai6 (aEZ p p)/\∃M', res=.ok .bb M'/\cW C Y none o M' (BP B p)/\ahG)))):U4 C Y o M W res ahz i x:=by
  unfold U4 fR lI
  dsimp only;rcases h with⟨hn, e⟩ | ⟨p, rfl, hp, Jz, c⟩
  · rw[Ω hn e]
  have qk:c8 (ak5 (acy p)):=by rw[ahc kU (jk hp) Jz]
  rw[if_pos qk, Int.toNat_natCast]
  rw[YX S hp] at c;rcases c with⟨hh, e⟩ | ⟨hh, M', e, y1, f1⟩
  · rw[Ω hh e]
  · rw[ae2 hh ⟨M', o, _, e, y1, f1, Ng S hp Jz⟩]
def YY aRp aPm aS7(h:∃M',res=.ok .bb M'/\cW C Y none o M' (Hn Y.rs B)/\ahG):U4 C Y o M W res agd i x:=by
 rw[af7 M' e y1 f1 h ⟨M',o,_,e,y1,f1,QG G.bz f.I S⟩]
def YZ aRp aRY(h:(c8 (aAy W)/\res=.ok (c7 "held") M)\/(aKk W/\∃M',res=.ok (c7 "ok") M'/\ahQ M' (JB Y.rs (bH Y.ps) (iu Y.ps) W r)/\ki j M M')):kW Y M W j res ag7 r x:=by
 unfold kW fR lI
 dsimp only;rw[aEb (as4 hr)];rcases h with⟨hh,e⟩ | ⟨hh,M',e,w1,f1⟩
 ·rw[Ω hh e]
 ·rw[ae2 hh ⟨M',j,e,w1,f1,b5 rfl⟩]
def NB aRp aRY(h:(ar2/\res=.ok (c7 "none") M) ∨
  (akF/\((ae8 (alf 0 (!(dy Y W.trains Es).isEmpty || ahE))/\∃M',res=.ok (c7 "ok") M'/\ahQ M' (BM W r ⟨avE,dy Y W.trains Es,ahE⟩)/\ki j M M') ∨
   (ai6 (alf 0 (!(dy Y W.trains Es).isEmpty || ahE))/\∃M',res=.ok (c7 "ok") M'/\gQ Y M' (sk W r) M.length/\ki j M M')))):kW Y M W j res agI r x:=by
 unfold kW fR lI FC
 dsimp only;rw[aEb (as4 hr)];rcases h with⟨hg,e⟩ | ⟨hg,c⟩
 ·rw[auT hg e]
 rw[aj9 hg];rcases c with⟨hb,M',e,w1,f1⟩ | ⟨hb,M',e,w1,f1⟩
 ·rw[hb,afC]; exact⟨M',j,e,w1,f1,b5 rfl⟩
 ·rw[hb,ane]; exact⟨M',_,e,w1,f1,c6 acT⟩
def Rr aRp aQo(hp:aln)(h:(aKj p/\res=.ok (c7 "none") M) ∨
  (ao5/\((ae8 amc/\res=.ok (c7 "held") M)\/(ai6 amc/\∃M',res=.ok (c7 "ok") M'/\ahQ M' (qf W p)/\ki j M M')))):kW Y M W j res ahz p x:=by
 unfold kW fR lI kU
 dsimp only;rw[jk hp,Int.toNat_natCast,Bool.true_and];rcases h with⟨hg,e⟩ | ⟨hg,c⟩
 ·rw[Ω hg e]
 rw[hg,afC];rcases c with⟨hh,e⟩ | ⟨hh,M',e,w1,f1⟩
 ·rw[Ω hh e]
 ·rw[ae2 hh ⟨M',j,e,w1,f1,b5 rfl⟩]
universe zE
universe Sb
universe zE
section
namespace Sb
open PySem L2
abbrev Ru aRa aPd:Prop:=∀ps ss aUm aPh,amV->g [aes,agm,aiP,η wait] (M++[abT c []])=.ok .bb (M++og c M.length ps ss aiB wait)
abbrev FH aPD:apS:=ps.map λ p=>asC (sr p) (some true)
abbrev W0 aPx:Wd:=⟨alD none,FH Y.ps,[],[],0,[]⟩
abbrev B0 aPx:Bx:=⟨[],aMV,[],[],0,[]⟩
abbrev o0:adu:=λ i=>asM (i≤5) yard .uT
abbrev HN aPx:aY:=[ς ((FH Y.ps).map C8),.bB (wKs Y [] 0 8),ς ((alD (none:aeQ)).map bJ),.bB [],.bB []]
section
variable {C:Cs} {Y:fE} {M:aY}
def AI{lQ di dv:DE}aPX(y:PV)(M1:aY)aPO(M2:aY)(k:PV)(M3 M':aY)aVZ aVJ:eY lQ di dv ρ M=.nx ρ M':=by
 unfold eY;rw[hv,Res.eV,ho,Res.eV,hk,Res.eV,hp]
def HP:av2 n ((List.replicate n [PV.bb]).flatten=(List.replicate n (none:aeQ)).map bJ)
 | 0=>rfl
 | n+1=>by rw[List.replicate_succ,List.flatten_cons,HP n,List.replicate_succ]; rfl
def U7 aPa(h:n≤16):nq true (ς [.bb]) (η n) M=.ok aes (M++[ς ((List.replicate n (none:aeQ)).map bJ)]):=by
 rw[d6 hs (aAE afA) (kT b6 b6) e62 (acy 2 ^ 62=4611686018427387904) aKy]
 rw[ani nq jh];rw[e62,Int.toNat_natCast,if_pos ⟨hs,b6,b6,by simp[lim];omega⟩,HP,jZ (by simp[lim];omega)]
abbrev w6 aPx:afx:=[(aM7,ahf),(aMT,atf),(aKV,ayk),(aM6,ο 6),(aJO,ς []),(aFs,η 0)]
abbrev w7 aPx:afx:=w6 Y++[(aEB,aBt)]
abbrev w8 aPx:afx:=w7 Y++[(aAJ,ο 8)]
abbrev w9 aPx:afx:=w8 Y++[(aEI,ο 9)]
def pw7:nW (w6 Y) aEB aBt=w7 Y:=aao
def pw8:nW (w7 Y) aAJ (ο 8)=w8 Y:=aao
def pw9:nW (w8 Y) aEI (ο 9)=w9 Y:=aao
def afv:nW (w9 Y) aJp (ο 10)=wKs Y [] 0 8:=aao
def q8 aUX aPm(h6:M.length=6):uC gr [ahf,atf,ayk] M=.ok (ο 7) (M++HN Y):=by
 rw[ZI Gu G.g.qi hrs G.rs];rw[ac2 uC (q=.ok (ο 7) (M++HN Y))];simp only[zC,zD,zE,zF,Nat.zero_add,Nat.reduceAdd,Nat.reduceSub,List.replicate,zG,zH,zI];rw[ag1 (ο 6) (M++[ς ((FH Y.ps).map C8)]) ?_]
 ·rw[cc (xs:=Y.ps) (w:=none) (M':=M) Pc.enc ah9 (λ p=>C8 (asC (sr p) (some true))) (ahW [y]) (ej Ξ) trivial ah2 (akf p) (adP Gu)]
  ·rw[awN,jZ (by rw[aqg Gu]),h6];rw[asQ FH]
  ·rw[aiK y hρ];refine abS _ rfl acV (g8 _);cases p<;>simp[Pc.enc,sr,C8,jL]
 rw[adk]
 have l1:aqH M (akS ((FH Y.ps).map C8))=7:=f6 h6
 generalize Sq:M++akS ((FH Y.ps).map C8)=M1 at l1;rw[ag1 (ο 7) (M1++[.bB (w6 Y)]) ?_]
 ·unfold C3;simp only[zC,zD,ax,aM,aA,zB,zA,ag,bA,jR];rw[av8];rw[ako ag l1];rfl
 rw[adk]
 rw[avh U8 (∀(G:aY)(o o':MO),(M1++o::G).set 7 o'=M1++o'::G) (λ G o o'=>by rw[abd l1 Lr]) U9 (∀(G:aY)(o:MO),acL (M1++o::G) 7 o) (λ G o=>by rw[abd l1 Uj]) ?_];rw[AI aBt (M1++[.bB (w6 Y)]) (ο 7) (M1++[.bB (w6 Y)]) (c7 "routes") (M1++[.bB (w6 Y)]) (M1++[.bB (w7 Y)]) ?_ rfl rfl ?_];refine ac4
 rotate_left
 ·simp[hr Y.ps Y.ss _ G.g,hrs]
 ·rw[ayC (U9 [] _) aEB (by rw[aBo 6]),pw7,U8]
 rw[aiy (aH ?_) (AI (ο 8) (M1++[.bB (w7 Y),ς ((alD (none:aeQ)).map bJ)]) (ο 7) (M1++[.bB (w7 Y),ς ((alD (none:aeQ)).map bJ)]) (c7 "locks") (M1++[.bB (w7 Y),ς ((alD (none:aeQ)).map bJ)]) (M1++[.bB (w8 Y),ς ((alD (none:aeQ)).map bJ)]) ?_ rfl rfl ?_)]
 refine ac4
 rotate_left
 ·simp only[aD,jR,ax,aM,bA,ag,aZ,aA,zB,zA];rw[av8,ag,avq (bU [ahf] (M1++ant (w7 Y))) (.ok (η Y.ps.length) (M1++ant (w7 Y))) aCe,ag,U7 Gu]
  simp[l1]
 ·rw[ayC (U9 _ _) aAJ (by rw[aBo 7]),pw8,U8]
 rw[aiy (aH ?_) (AI (ο 9) (M1++[.bB (w8 Y),ς ((alD (none:aeQ)).map bJ),.bB []]) (ο 7) (M1++[.bB (w8 Y),ς ((alD (none:aeQ)).map bJ),.bB []]) (c7 "falls") (M1++[.bB (w8 Y),ς ((alD (none:aeQ)).map bJ),.bB []]) (M1++[.bB (w9 Y),ς ((alD (none:aeQ)).map bJ),.bB []]) ?_ rfl rfl ?_)]
 refine ac4
 rotate_left
 ·simp[oX,l1]
 ·rw[ayC (U9 _ _) aEI (by rw[aBo 8]),pw9,U8]
 rw[aiy (aH ?_) (AI (ο 10) (M1++[.bB (w9 Y),ς ((alD (none:aeQ)).map bJ),.bB [],.bB []]) (ο 7) (M1++[.bB (w9 Y),ς ((alD (none:aeQ)).map bJ),.bB [],.bB []]) (c7 "trains") (M1++[.bB (w9 Y),ς ((alD (none:aeQ)).map bJ),.bB [],.bB []]) (M1++[.bB (wKs Y [] 0 8),ς ((alD (none:aeQ)).map bJ),.bB [],.bB []]) ?_ rfl rfl ?_)]
 refine ac4
 rotate_left
 ·simp[oX,l1]
 ·rw[ayC (U9 _ _) aJp (by rw[aBo 9]),afv,U8]
 refine bx (ο 7) _ (by simp; rfl) (aV ?_)
 rw[← Sq];unfold HN;simp
def wf0:Wf Y (W0 Y):=by
 rw[adv ⟨ayr,acO r h,IL p r h,ayr,ayr,ayr,ayr,IL x t h,aeB x y t t' h⟩ (afr Due W0) (IL x t h)]
 ·rcases h with h | h<;>simp[W0] at h
 ·simp[W0,List.getElem?_replicate] at h
 ·simp[W0,l9] at h
 ·simp[W0,l9] at h
 ·simp[W0,l9] at h
def start aPm:Sd C Y (og C.yd 0 Y.ps Y.ss Y.rs Y.wait++HN Y) (B0 Y) (W0 Y) o0 8:=by
 refine⟨⟨rfl,rfl,?_,rfl,rfl,rfl,aqk (by rw[acP o0 (if_pos hi)]),azv,ays,ays⟩,ama rfl rfl d7 rfl rfl,wf0,⟨?_,ays,ays,ays,afr W0 FH,?_,?_,ays,rfl,rfl,rfl⟩,azv,ayr⟩
 ·show f7 (MO.lst (Y.ps.map λ _=>PV.str "straight"))=ag4 ((aMV).map jL);rw[List.map_map];rfl
 ·have:11≤i:=hi;rw[acP o0 aKz]
 ·intro p hp;simp[W0,B0,l9,List.getElem?_replicate,hp]
 ·intro p hp Jz
  have e:aiz (W0 Y).points p true:=by
   show(FH Y.ps)[p]? = _;rw[aga FH zJ (uD hp)];have:c8 (sr (Pc.at Y.ps p)):=Jz;simp[this]
  rw[e];show _=f7 aMV[p]?;rw[zJ,uD hp];rfl
 ·intro s r;simp[B0,W0,l9]
 ·rw[acP o0 (an7 (by rcases hi with rfl | rfl | rfl | rfl | rfl<;>omega))]
universe zE
universe Sb
universe zE
section
namespace Sb
open PySem L2
section
variable (C:Cs)
abbrev At0 aPx aPh aRV:Prop:=M[0]? = axy (tj Y t)
abbrev CkR aPd:Prop:=∀Y e o M B aP0,afI->aik->g [ο 0,η i] M=if aqS i then .ok .bb M else L6 C.nt M
abbrev CkP aPd:Prop:=∀Y e o M B aP0,afI->aik->g [ο 0,η i] M=aqF .ok .bb
abbrev CkS aPd:Prop:=∀Y e o M B aP0,afI->aik->g [ο 0,η i] M=if bT i Y.ss.length then .ok .bb M else L6 C.nt M
abbrev CkT aPd:Prop:=∀Y e o M B aP0,afI->aik->g [ο 0,η i] M=if ak5 i then .ok .bb M else L6 C.nt M
abbrev SgS aPd:Prop:=∀Y M t aPk,At0 C Y M t->adg->g [ο 0,η r] M=.ok (η Es) M
abbrev WyS aPd:Prop:=∀Y M t aPk,At0 C Y M t->adg->g [ο 0,η r] M=.ok ah3 M
abbrev BdS aPd:Prop:=∀Y M t aP6,At0 C Y M t->aBK->al4->g [ο 0,η s] M=.ok (.bl ajl) M
abbrev PtS aPd:Prop:=∀aQb M,g aBs M=.ok (.bl (sr p)) M
abbrev LfS aPd:Prop:=∀M p s,g [aK5,amn] M=.ok (jL (Fm p s)) M
abbrev Y0 aPd:Prop:=∀aPD aSj M,ap0->g [agm,η a,η x] M=.ok (.bl (beyond ps a x).isNone) M
abbrev PbS aPd:Prop:=∀aPD aSj M,ap0->g [agm,η a,η x] M=.ok (ail (beyond ps a x)) M
abbrev PuS aPd:Prop:=∀aQx M',aHo->aHn->ars->g [aij] M'=.ok (cO (t.tr.steps.map (·.1))) M'
abbrev TiS aPd:Prop:=∀Y o M B aP0,afk->aDy->aik->g [ο 0,η i] M=aqF .ok (fz (axa i))
abbrev NhS aPd:Prop:=∀Y o M B aQn,afk->aDy->aqf->aln->g [ο 0,η p] M=if aEZ p p then L6 C.he M else .ok .bb M
abbrev AhS aPd:Prop:=∀Y M tk aQx,At0 C Y M tk->aBK->azB->aDb->aHb->g [ο 0,aij] M=.ok aDm M
abbrev NrS aPd:Prop:=∀Y o M B aP6,afk->aBK->(∀q∈B.trains,agU q.2.tr.steps)->g [ο 0,η s] M=.ok (fz (kO Y B.trains s)) M
abbrev FaS aPd:Prop:=∀aPh(u:Int)(v:PV),g [aes,η u,v] (M++[abT C.fa []])=.ok .bb (M++[abT C.fa [azD,aB5 v]])
abbrev UnS aPd:Prop:=∀Y e o M B w,afI->atj->ay0->∃M',g [ο 0,an1] M=.ok .bb M'/\cW C Y e o M' (akm B (ank w))/\ahG/\alK/\∀i,i≠1->M'[i]? = M[i]?
abbrev CaS aPd:Prop:=∀Y,AH C Y g
abbrev TnS aPd:Prop:=∀M:aY,g [aes] (M++[anI []])=.ok .bb (M++aoP::[ς [],ς []])
abbrev TdS aPd:Prop:=∀s M,g [amn] M=.ok awl M
abbrev PaS aPd:Prop:=∀Y,aBK->Y.ss.length≤16->QZ C Y g
abbrev A1 aPd(w:Wo)(arg:aum d9):Prop:=∀Y M B W o aRq,aaD->afk->amd->ai0->aik->ahI->U4 C Y o M W (g (arg i x) M) w i x
variable {C}
variable {Y:fE} {o:adu} {M:aY} {B:Bx} {W:Wd} {ρ:eu}
def LV:SgS C (kR C.yd):=λ Y M t r h hr=>by
 rw[ac2 kR (q=.ok (η Es) M)];rw[alU e (Nl h (ρ:=[f9,aax]) (d:=b8) rfl uK) (ah4 (η Es) M (afr e (xl hr)))]
def LW:WyS C (o5 C.yd):=λ Y M t r h hr=>by
 rw[ac2 o5 (q=.ok ah3 M)];rw[alU e (Nl h (ρ:=[f9,aax]) (d:=b8) rfl uK) (ah4 ah3 M (afr e (xl hr)))]
def Y1{gb:D1}(hb:PbS gb):Y0 (mU gb):=λ ps a x M hl=>lz (Y:=⟨ps,[],[],0⟩) (λ a x=>hb ps a x M hl) a x
def abV{gb:D1}(hb:Y0 gb):BdS C (iI C.yd gb):=λ Y M t s h hl hs=>by
 rw[ac2 iI (q=.ok (.bl ajl) M)];rw[aip e1 (Nl h (ρ:=[f9,aeD,none]) (d:=b8) rfl uL) e2 (Nl h (ρ:=[f9,aeD,f7 av7]) (d:=b8) rfl pB) (aeV av7 M (afr e1 ay8))];rw[alU hb2 (fun(afN a) aCV=>hb Y.ps a x M hl) (ah4 (.bl ajl) M (by simp[e2,dw,hb2,cq] at e2 ⊢))]
def Ww:PtS mV:=λ p M=>lA p
def Wx:CkR C (nH C.nt C.yd cZ):=λ Y e o M B i h hi=>jq h hi
def abW:CkP C (nI C.nt C.yd cZ):=λ Y e o M B i h hi=>jr h hi
def Wy:CkS C (mH C.nt C.yd cZ):=λ Y e o M B i h hi=>iF h hi
def abX{gc gp:D1}(hc:CkP C gc)(hp:PtS gp):CkT C (kH C.nt C.yd gc gp):=λ Y e o M B i h hi=>iD h hi (hc Y e o M B i h hi) (λ p=>hp p M)
def abY:PuS C (kD C.tr):=λ t M h1 h2 h3=>gx h1 h2 h3
def Wz{gc gu:D1}aWD:TiS C (hU C.yd gc gu):=λ Y o M B i h hl hi=>JL h (hc Y _ o M B i h hi) hu hl
def vQ aPa(h:ang n):Sm afA:=aGj
def abZ{gt:D1}(ht:TiS C gt):NhS C (i7 C.he C.yd gt):=λ Y o M B p h hl IK hp=>by
 refine fX (ti:=azI) h azw hp (vQ b6);rw[aj3 (ht Y o M B q h hl (vQ b6)) (as4 hq)];rw[aas _ this (by dsimp only; cases axa q<;>rfl)]
def ab0{gp:D1}(hp:PtS gp):LfS (pU gp):=λ M p s=>om (λ p=>hp p M) p s
def ab1{gb:D1}(hb:PbS gb):AhS C (kF C.tr C.yd gb):=λ Y M tk t h0 hl h1 h2 dz=>iB h0 h1 h2 dz λ a j=>hb Y.ps a j M hl
def ab2{ga:D1}(ha:AhS C ga):NrS C (lX C.yd ga):=λ Y o M B s h hl dz=>kr h dz λ t M' h0 h1 h2 h3=>ha Y M' _ t h0 hl h1 h2 h3
def ab3:FaS C (mW C.fa):=λ M u v=>lB
def Rv:UnS C (ll C.yd):=λ Y e o M B w h hn hl=>qr h hn hl
def ab4:Fx C Y (ll C.yd):=λ o M B w a h hn hl ha h1=>Nq h hn hl ha h1
def ab5:CaS C (kG C.nt C.yd):=λ Y o M B x h hx=>iC h hx
def ab6:TnS C (lV C.tr):=λ M=>kq
def ab7:TdS rE:=λ s M=>qo s
def ab8{gb gs:D1}(hb:BdS C gb)aTR:PaS C (iJ C.fa C.rd C.yd gb gs):=λ Y hl hss e o M B x s h hx sW qj =>
 kt h hx (vQ b6) qj (λ M' r h0 hr=>hs Y M' _ r h0 hr) (λ M' h0=>hb Y M' _ s h0 hl sW)
def ab9{gu:D1}(hu:UnS C gu):Hz C Y (pV C.tr gu):=λ x o M B t s a h T ha hl sW =>
 oq h T ha hl sW λ M B h hl=>hu Y _ o M B [s] h Ξ (aam hl)
def aca{gs gw gc:D1}aTR aTS aVa:HB C Y (k6 C.tr C.yd gs gw gc):=λ x o M B t r s w h T hr ew Gs hl sW =>
 jt h T hr ew Gs hl sW (λ M' r h0 hr=>hs Y M' _ r h0 hr) (λ M' r h0 hr=>hw Y M' _ r h0 hr) hc
def acb aQ2{q:Int×TB}(hq:q∈B.trains):aAV q.1 q.2.tr:=by
 refine cz (q:=(q.1,q.2.tr)) I.vX ?_;rw[Ω S.trains (ahg q hq)]
def Va aPm aQ2:aDy:=ai1 (by
 have:=I.JH (acb I S hq);rw[ae9 G.g.qi])
def afF aQ2:∀q∈B.trains,agU q.2.tr.steps:=ai1 (apb (acb I S hq)).ne
def afG aQ2:aBO:=by
 have:=I.vX;rw[ap4 S.trains oG this this]
def acd aPm aQ2:anU aIn (auA x):=ame (by
 rw[auz r hr ((mem_keys _ _).mp hx)];rw[anC ((S.greens x r).mp hr)];rw[abd h2 (G.sg (I.glt h1))])
def bE.le aPm:aBK:=by rw[ae9 G.g.qi]
def ace{gc gw gn gl gs:D1}(hc:CkR C gc)aTS(hn:NhS C gn)(hl:LfS gl)aTR:A1 C (jv C.yd gc gw gn gl gs) ag7 (λ i _=>[ο 0,η i]):=λ Y M B W o i x G h f S hi hx =>
 abQ G f S (lC (ti:=azI) h G.bz G.g.qi G.g.zy (amg (G.sg hr)) S.QA S.QB S.Hh S.C6 (acd G f.I S) (hc Y _ o M B i h hi) (amg (hw Y M _ r h.y0 hr))
  (ahT (hn Y o M B p h (Va G f.I S) G.g.qi hp)) hl (λ M B r h hr=>hs Y M _ r h.y0 hr))
def Rx aWF(hc:CkR C gc)aTR(ht:NrS C gt)(hb:BdS C gb)(hf:FaS C gf)(hu:UnS C gu)aTS:A1 C (lj C.fa C.nt C.yd gc gs gt gb gf gu gw) agI (λ i _=>[ο 0,η i]):=λ Y M B W o i x G h f S hi hx =>
 Ro G f S (qp h hi G.bz f.I S G.len (amg (G.sg hr)) (hc Y _ o M B i h hi) (λ M B r h hr=>hs Y M _ r h.y0 hr) (λ M B' s h hB sW=>by rw[abd hB (ht Y o M B' s h G.le (by rw[Ω hB (afF f.I S)]))]) (λ M B s h sW=>hb Y M _ s h.y0 G.le sW) hf (λ M B w h=>hu Y _ o M B w h) (λ M B r h hr=>hw Y M _ r h.y0 hr))
def Vb{gc gn:D1}(hc:CkT C gc)(hn:NhS C gn):A1 C (oA C.yd gc gn) ahz (λ i _=>[ο 0,η i]):=λ Y M B W o i x G h f S hi hx =>
 U6 G f S (ur (ti:=azI) h S.Hh (hc Y _ o M B i h hi) (ahT (hn Y o M B p h (Va G f.I S) G.g.qi hp)))
def Y2{gu gw:D1}(hu:UnS C gu)aTS:A1 C (wJ C.fa C.yd gu gw) agd (abf _ [ο 0]):=λ Y M B W o i x G h f S hi hx =>
 YY G f S (xB h G.bz f.I S f.D G.len (λ M B w h=>hu Y _ o M B w h) (λ M B r h hr=>hw Y M _ r h.y0 hr))
def Vc{gk gb gr gi gp:D1}(hk:CkS C gk)(hb:BdS C gb)(hr:PaS C gr)(EN:TnS C gi)(hp:∀Y,HB C Y gp):A1 C (uA C.he C.nt C.tr C.yd gk gb gr gi gp) agK (λ i x=>[ο 0,η x,η i]):=λ Y M B W o i x G h f S hi hx =>
 uu h hx hi G.bz f.I S G.g.qi (amg (G.ok hr).ne) (hk Y _ o M B i h hi) (amf (hb Y M _ s h.y0 G.le hs)) (hr Y G.le G.g.zy) EN (hp Y)
def afH{gt gc gb gp gr ga:D1}aTT(hc:∀Y,Hz C Y gc)(hb:Y0 gb)(hp:∀Y,HB C Y gp)(hr:PaS C gr)(hr0:∀M aPv,ahI->gr [ο 0,η x,.bb] M=L6 C.rd M)(ha:AhS C ga):A1 C (E2 C.rd C.tr C.yd gt gc gb gp gr ga) .go (abf x [ο 0,η x]):=λ Y M B W o i x G h f S hi hx =>
 L7 h hx G.bz f.I S G.g.qi (amg (G.ok hr).ne) (ht Y) (hc Y) (λ a j=>hb Y.ps a j M G.le) (hp Y) (hr Y G.le G.g.zy) (hr0 M x hx) (λ t h1 h2 h3=>ha Y M _ t h.y0 G.le h1 h2 h3)
def Y3{gt:D1}aTT:A1 C (wK C.he C.tr C.yd gt) ahi (abf x [ο 0,η x]):=λ Y M B W o i x G h f S hi hx=>xC h hx f.I S (ht Y)
def Y4{gt gu gd:D1}aTT(hu:∀Y,Fx C Y gu)(hd:TdS gd):A1 C (wL C.fa C.rd C.tr C.yd gt gu gd) ag6 (abf x [ο 0,η x]):=λ Y M B W o i x G h f S hi hx=>vh h hx G.bz f.I S G.g.qi (ht Y) (hu Y) hd
structure A8(C:Cs)aUC:Prop where
 a0:A1 C g0 ag7 (λ i _=>[ο 0,η i])
 a1:A1 C g1 agI (λ i _=>[ο 0,η i])
 a2:A1 C g2 ahz (λ i _=>[ο 0,η i])
 a3:A1 C g3 agK (λ i x=>[ο 0,η x,η i])
 a4:A1 C g4 agd (abf _ [ο 0])
 a5:A1 C g5 .go (abf x [ο 0,η x])
 a6:A1 C g6 ahi (abf x [ο 0,η x])
 a7:A1 C g7 ag6 (abf x [ο 0,η x])
def A8.all aTw aV6 aQE aPm aPT aS7 aQB aQC:U4 C Y o M W (YT g0 g1 g2 g3 g4 g5 g6 g7 w i x M) w i x:=by
 cases w with
 | set=>exact A.a0 Y M B W o i x G h f S hi hx
 | cancel=>exact A.a1 Y M B W o i x G h f S hi hx
 | throw=>exact A.a2 Y M B W o i x G h f S hi hx
 | enter=>exact A.a3 Y M B W o i x G h f S hi hx
 | tick=>exact A.a4 Y M B W o i x G h f S hi hx
 | go=>exact A.a5 Y M B W o i x G h f S hi hx
 | draw=>exact A.a6 Y M B W o i x G h f S hi hx
 | turn=>exact A.a7 Y M B W o i x G h f S hi hx
universe zE
universe Sb
universe zE
end
mutual
section
namespace Sb
open PySem L2
structure TOk aSs:Prop where
 nd:atk
 ne:am2 d (agU auw)
 sl:am2 d (aiT q.2.steps.length)
 tl:aJA 90
abbrev LtS aPd:Prop:=∀Y M W j(p:Int),acX->aJe->g [ο 7,η p] M=.ok (fz (aob p)) M
abbrev HeS aPd:Prop:=∀Y M W j aQn,acX->aJe->aDM p->g [ο 7,η p] M=.ok (.bl amc) M
abbrev FrS aPd:Prop:=∀Y M W j aPk,acX->aOu->g [ο 7,η r] M=.ok .bb ((M++atA (aiW).map).set 7 (.bB (wKs Y W.green W.now M.length)))
abbrev LnS aPd:Prop:=∀Y M W j aP6,acX->aJe->al4->g [ο 7,η s] M=.ok (gW (dy Y W.trains s)) M
abbrev LpS aPd:Prop:=∀Y,aaD->JT Y g
section
variable {C:Cs} {Y:fE} {o:adu} {M:aY} {B:Bx} {W:Wd} {j:Nat}
def tok aSG:aJe:=by
 have IK:=G.g.qi
 refine⟨I.vX,ai1 (apb aCn).ne,azw,?_⟩
 ·rw[ae9 (I.JH aCn)]
 ·rw[ae9 I.Uw]
def acf:LtS lZ:=λ Y M W j p h T=>gZ h T.nd T.sl (adP T.tl)
def acg{gt:D1}(ht:LtS gt):HeS (rQ gt):=λ Y M W j p h T hp=>qu h hp (ht Y M W j p h T)
def ach:FrS rS:=λ Y M W j r h hl=>oN h hl
def WA:LnS (trunc rT):=λ Y M W j s h T hs=>qv h hs T.nd T.ne (adP T.tl)
def aci:LpS pb:=λ Y G M W j x s h Ou Fp IJ Fb=>oO h Ou (amg (G.ok hr).ne) (amg aFJ) Fp IJ Fb
structure L8 aPQ aUC:Prop where
 l0:∀M B W o j aRq,aki->aKl i->akh (g0 [ο 7,η i] M) ag7
 l1:∀M B W o j aRq,aki->aKl i->akh (g1 [ο 7,η i] M) agI
 l2:∀M B W o j aRq,aki->c8 arT->akh (g2 [ο 7,η i] M) ahz
 l3:∀M B W o j aRq,aki->c8 atO->akh (g3 [ο 7,η x,η i] M) agK
 l4:∀M B W o j aRq,aki->akh (g4 [ο 7] M) agd
 l5:∀M B W o j aRq t,aki->acJ=adt->akh (g5 [ο 7,η x] M) .go
 l6:∀M B W o j aRq t,aki->acJ=adt->akh (g6 [ο 7,η x] M) ahi
 l7:∀M B W o j aRq t,aki->acJ=adt->akh (g7 [ο 7,η x] M) ag6
def l8{gh gn gb gf gp:D1}aPm(hh:HeS gh)(hn:LnS gn)(hb:w5 gb)(hf:FrS gf)(hp:LpS gp) :
  L8 C Y (qN gh) (kI gn gb gf) (lF gh) (pW gb gp) (rV gf) (wM gb gp) rW rX:=by
 rw[aeC IK G.g.qi hb' (∀M aSj,apn [ahf,η a,η x]=.ok (ail (alG a x)) M) (λ M a x=>hb Y.ps a x M G.le)]
 refine⟨λ M B W o j i x s hn=>?_,λ M B W o j i x s hk=>?_,λ M B W o j i x s hk=>?_,λ M B W o j i x s hk=>?_,λ M B W o j i x s=>?_,λ M B W o j i x t s ht=>?_,λ M B W o j i x t s ht=>?_,λ M B W o j i x t s ht=>?_⟩
 ·rw[apT r hr hn];rw[alU K (Wq G s.f.I) (YZ hr (ra s.w G.bz G.g.qi G.len hr aFJ s.f.I.ln s.S.pn K.gl (ahT (hh Y M W j p s.w (tok G s.f.I) hp))))]
 ·rw[apT r hr hk];rw[alU K (Wq G s.f.I) (NB hr (k9 s.w hr (G.sg hr) K.gl K.fl (λ M W' k h hW hk=>by rw[abd hW (hn Y M W' j k h (by rw[Ω hW (tok G s.f.I)]) hk)]) hb' (λ M W h hl=>hf Y M W j r h b6) s.f.I.ln))]
 ·rw[apT p GG hk];rw[aiQ (Rr GG (ou s.w GG s.f.I.ln (g8 Jz) (hh Y M W j p s.w (tok G s.f.I) (by rw[Ω s.f.I.ln GG])))) hl (aEn p) (by rw[Ω s.S.Hh GG])]
  rw[aaX B.lying[p] (ag3 (s.S.lies p GG Jz) apr)]
 ·rw[apT r hr hk];exact ow s.w (Wq G s.f.I) hr hb' (hp Y G)
 ·exact qw s.w s.f.I.Jy (Wq G s.f.I).fl s.f.I.ln (λ M W j r h hl=>hf Y M W j r h b6)
 ·exact xD s.w (Wq G s.f.I) ht hb' (hp Y G)
 ·exact qx s.w (Wq G s.f.I) ht
 ·refine nj s.w (Wq G s.f.I) s.f.I.Jy azw ht;rw[s.S.falls] at hq;obtain⟨u,_,rfl⟩:=List.mem_map.mp hq;show aiT (aeA u.2.nr.toList);cases u.2.nr<;>simp
def Y5 aWa(ht:∀M W j aQP,acX->gt [ο 7,c7 w.s,η i,η x] M=.ok (.bl asn) M)(L:L8 C Y g0 g1 g2 g3 g4 g5 g6 g7):HM C Y (rY gt g0 g1 g2 g3 g4 g5 g6 g7):=λ M B W o j w i x s =>
 qy (ht M W j w i x s.w) (L.l0 M B W o j i x s) (L.l1 M B W o j i x s) (L.l2 M B W o j i x s) (L.l3 M B W o j i x s) (L.l4 M B W o j i x s) (λ t=>L.l5 M B W o j i x t s) (λ t=>L.l6 M B W o j i x t s) (λ t=>L.l7 M B W o j i x t s)
abbrev Ry aPQ aPd:Prop:=∀M B W o j ns k,aki->∃d,Wu d/\g [.pR ns,η k,ο 7] M=.ok (jl d) M
def Y6{gm gb gn:D1}aPm(hm:aCH)(hb:w5 gb)(hn:LnS gn):Ry C Y (ayi (pe gm (kJ gb gn))):=λ M B W o j ns k s =>
 qz hm G s.w (amg (s.f.I.glt hr)) s.nm (tok G s.f.I).tl λ M k h hk=>gy h hk G.g.zy (λ M a x=>hb Y.ps a x M G.le) (hn Y M W j k h (tok G s.f.I) hk) s.nm (tok G s.f.I).tl
def Vd(I:ajm)aP8 aQ0 aQ3(hs:aA4 s):aob s.1=aeU:=by
 unfold qg
 rw[aFj (b7 (W.trains.find? (aoM q (akz s) (q.2.steps.map λ s=>akz s))) (x,t)) (by
  rw[amJ (B1 (iK hx) (decide_eq_true (ahg s hs)) (IL q hq hp)) h1 aCn];rw[ana s' tH e (of_decide_eq_true hp)];by_cases dz:q.1=x
  ·rw[ap4 dz hx h1 (Prod.ext dz (auE).symm)]
  ·rw[afZ b6 ((I.dj _ _ _ _ h1 hx dz).1 s' tH s hs)])]
universe zE
universe Sb
universe zE
section
namespace Sb
open PySem L2
abbrev Ss aPx aPk:Nat:=((aaC).headD (0,0,0)).1
structure kP aPH:Prop where
 lk:∀p r,awG->agk aaC (s.1=p->ao5->axQ p s)
 tr:∀x t,acJ=adt->arc (aqY s.1->axQ s.1 s)
 hd:∀r,amA (Ss Y r) = akj r->ahV
def Rz aQw aQ0:iu ps (flip s)=iu ps s:=by
 unfold iu;show Q4 (aeo s.1) (flip s)=_;cases aeo s.1 with
 | pl a b=>rfl
 | pt a b c =>
  show ac5 b [s.2.2,s.2.1]=ac5 b [s.2.1,s.2.2];refine decide_eq_decide.mpr ?_;simp only[List.mem_cons,List.not_mem_nil,or_false];exact Or.comm
section
variable {Y:fE} {W:Wd}
def kP.less aRA aSr(hp:W'.points=W.points)(hl:∀p r:Nat,aiz W'.locks p r->awG)
  (ht:∀x t,aJ W'.trains x=adt->arc (aqY s.1->axQ s.1 s))(hv:∀r,aiz W'.locks (Ss Y r) r->ahV->jI W' r):kP Y W' :=
 ⟨λ p r h s hs e qk=>by rw[Ω hp (P.lk p r (hl p r h) s hs e qk)],λ x t hx s hs qk=>by rw[Ω hp (ht x t hx s hs qk)],λ r h=>hv r h (P.hd r (hl _ r h))⟩
def kP.put aRA{tr':aoJ}aP8(e:tr'=amI t)(ht:arc (aqY s.1->axQ s.1 s)):∀y u,aJ tr' y=aaZ->agk u.steps (aqY s.1->axQ s.1 s):=λ y u hu=>by
 rw[e,eB] at hu;split at hu
 ·cases hu; exact ht
 ·exact P.tr y u hu
def uQ{r p r':Nat}{l:aer}(h:aiz (hZ r l) p r'):aiz l p r'/\r'≠r:=by
 rw[ajR oI];cases e:l[p]? with
 | none=>rw[akN]; cases h
 | some v =>
  rw[akN];have h:=aqX;rw[apE];split at h
  ·cases h
  ·rename_i hv;subst h;rw[apX rfl e (hv (agB e))]
def Cf{a p r:Nat}{l:aer}(h:aiz (aAM a) p r):aiz l p r/\p≠a:=by
 rw[aih a p]
 ·subst e;rw[aiq List.getElem?_set h h]
 ·rw[aqV e h];rw[apX h e' (e e'.symm)]
def Ve aQc{l:aer}{p r:Nat}(h:aiz (Fc w l) p r):aiz l p r:=by
 rcases JG w l p with e | e
 ·rw[t7 e h h]
 ·rw[akN]; cases h
def El{r r':Nat}{f:alX}{l:aer}{n:Int}(h:atB)(dz:r'≠r)(hf:r'∈aht->r'∈aEu){tr:aoJ}{po:apS}:jI ⟨l,po,W.green.filter (ajd x x r),f,n,tr⟩ r':=by
 rcases h with h | h
 ·exact b5 (aD2 h dz)
 ·exact c6 (hf h)
def Vf aRA aPk:amk (cP W r):=by
 unfold cP;split
 ·refine P.less rfl (agG p r' (uQ h).1) P.tr (IL r' h hv);rcases hv with hv | hv
  ·exact b5 hv
  ·exact c6 ((pv _ _ _).mpr ⟨(uQ h).2,hv⟩)
 ·exact P
def LX:∀(rs:ae6){W:Wd},alv->amk (rs.foldl cP W)
 | [],_,P=>P
 | r::rs,_,P=>LX rs (Vf P r)
def RA aSG aRA aPj aT0(hl:ahV)(ho:agk old (aqY s.1->axQ s.1 s)):amk (BQ Y.rs W r x old):=by
 have hr:=(aiO hl).1;rw[aoa o w e (B9 G hr) (P.less rfl (agG p r' (Cf h).1) (P.put rfl (IL s hs qk)) (IL r' h hv))]
 ·rw[e] at hs;rcases aOb with rfl | hs
  ·exact P.lk _ r (I.lock hl (by rw[acP dZ e];simp)) _ (by rw[arW]) rfl qk
  ·exact ho s hs qk
 ·rw[akc dz (r'≠r) (adm ((Cf h).2 (by rw[acR e]))) (El hv dz λ h=>(pv _ _ _).mpr ⟨dz,h⟩)]
def pG aS3 aQn:∀aTh,p∉aeN->aDc[p]? = l[p]?
 | [],l,_=>rfl
 | s::w,l,h=>by
  rw[zC,List.mem_cons,not_or] at h;show(jK kn oh w (if kn s.1 then l.set s.1 aC0 else l))[p]? = _;rw[pG kn oh p w _ h.2];split
  ·rw[List.getElem?_set_ne λ e=>h.1 e.symm]
  ·rfl
def Em aS3:∀aTh,atj->agk w (c8 (kn s.1)->as8 s.1->apK aDc s.1 aC0)
 | [],l,_,s,h,_,_=>al5
 | z::w,l,hn,s,h,hp,hl=>by
  rw[zC,List.nodup_cons] at hn;show(jK kn oh w (if kn z.1 then l.set z.1 (f7 (oh z)) else l))[s.1]? = _;rcases asy with rfl | h
  ·rw[pG kn oh _ w _ hn.1,if_pos hp,aNA]
  ·refine Em kn oh w _ hn.2 s h hp ?_;split
   ·simpa using hl
   ·exact hl
def acj aSG aRA(V8:aIo)aRY(hf:afz aqy (acL W.locks p none))(ht:∀x t,acJ=adt->arc (s.1∉aqy)):amk (JB Y.rs (bH Y.ps) (iu Y.ps) W r):=by
 have key:∀p r',aiz (alJ r aaC) p r'->(p∈aqy/\r'=r)\/(p∉aqy/\amA p = akj r'):=agG p r' (by
  rw[akv hl (aDM p) (by
   rw[avl (List.getElem?_eq_some_iff.mp h).1 qS]) (uH r p _ _ hl) h];split at h
  ·rw[au5 hm (aoQ hm (Option.some.inj aqX).symm)]
  ·rw[au5 hm (alx hm h)])
 rw[adv (alm p r' h s hs e qk) (aiA x t hx s hs qk) (acO r' h)]
 ·show(jK (bH Y.ps) (iu Y.ps) aaC W.points)[p]? = _;rcases key p r' h with⟨h1,rfl⟩ | ⟨h1,h2⟩
  ·rw[aeq e (Em _ _ _ _ (G.bz.nd _ hr) s hs qk (by rw[Ω V8 (G.bz.lt _ hr _ h1)]))]
  ·rw[Ω (pG _ _ _ _ _ h1) (P.lk p r' h2 s hs e qk)]
 ·rw[ax0 ((jK (bH Y.ps) (iu Y.ps) aaC W.points)[s.1]? = _) (pG _ _ _ _ _ (ht x t hx s hs)) aDA]
 ·rcases key _ r' h with⟨_,rfl⟩ | ⟨_,h2⟩
  ·exact b5 (by show r'∈W.green++[r']; simp)
  ·rcases P.hd r' h2 with h | h
   ·exact b5 (aLT (b5 h))
   ·exact c6 h
def Y7{p r:Nat}(h:awG):aFO:=by
 rw[aga mh List.getD_eq_getElem?_getD h];rfl
def Vg aRA aQo(hh:acS amc):amk (qf W p):=by
 have ht:aaz (aKm p):=by
  unfold mh at hh;cases e:aKm p with
  | none=>rfl
  | some _=>rw[aiq e hh hh]
 rw[adv (alm q r h s hs e qk) (aiA x t hx s hs qk) P.hd]
 ·have dz:p≠q:=adm (by
   have:=Y7 (W:=W) (p:=q) h;rw[← e,hh] at this;cases this)
  show(aAm _)[q]? = _;rw[aLt dz (P.lk q r h s hs e qk)]
 ·show(aAm _)[s.1]? = _;rw[aLt (adm (HI ht _ (iK hx) s hs e.symm)) aDA]
def Y8 aQE aPm(f:amd)aRA(V8:aIo)(hk:ajn=.ok):amk aqQ:=by
 cases w with
 | set =>
  rw[ayO];split at hk
  ·rename_i hn;split at hk
   ·cases hk
   ·rename_i hh;rw[apT r hr hn];rw[Int.toNat_natCast] at hh;rw[aeO hf ht (FD G f.I hr aGO) (acj G f.I P V8 hr hf ht)]
  ·cases hk
 | cancel =>
  rw[ams lI];split
  ·refine P.less rfl (agG p r h) P.tr (IL r h hv);rcases hv with hv | hv
   ·rw[aih r i.toNat]
    ·exact c6 ((BG _ _ _ _).mpr (b5 e))
    ·exact b5 (aD2 hv e)
   ·exact c6 ((BG _ _ _ _).mpr (c6 hv))
  ·exact P.less rfl (agG p r (uQ h).1) P.tr λ r h hv=>El hv (uQ h).2 λ h=>h
 | throw =>
  rw[ayO];split at hk
  ·split at hk
   ·cases hk
   ·rw[au5 hh (Vg P aGO)]
  ·cases hk
 | tick =>
  rw[aoC (amk (nP W)) nP];exact LX _ (P.less rfl (agG p r h) P.tr λ r h hv=>hv)
 | enter =>
  have hk:mO Y W x i=.ok:=hk
  unfold mO at hk;split at hk
  ·split at hk
   ·split at hk
    ·cases hk
    ·split at hk
     ·rename_i r hp;show amk (pD Y W x i);rw[ahc pD hp (RA G f.I P (uP hp) Ξ)]
     ·cases hk
   ·cases hk
  ·cases hk
 | go =>
  have hk:Nu Y W x=.ok:=hk;show amk (JN Y W x);unfold Nu at hk;unfold JN;cases hx:acJ with
  | none=>rw[hx] at hk; cases hk
  | some t =>
   rw[hx] at hk
   dsimp only at hk ⊢;have T:=f.I.tr x t hx;split at hk
   ·cases hk
   ·split at hk
    ·rename_i ha
     rw[aj9 ha];refine P.less rfl (agG p r (Cf h).1) (P.put rfl (IL s hs qk)) λ r h hv=>hv;rcases aH8 with hs | hs
     ·obtain⟨r,k,hr,e,Fb⟩:=T.ah ha;rw[alU hm (List.mem_of_mem_take hs) (P.lk _ r (Fb s hm) s (List.mem_of_mem_drop (i:=k) (by rw[abd e (ahv hm)])) rfl qk)]
     ·exact aDA
    ·rename_i ha;rw[agL ha];split at hk
     ·exact P.less rfl (agG p r h) (P.put rfl λ s hs qk=>aDA) λ r h hv=>hv
     ·split at hk
      ·cases hk
      ·rename_i s hs;split at hk
       ·rename_i r hp;rw[hs,Option.bind_some,hp,Option.getD_some];exact RA G f.I P (uP hp) λ s hs qk=>aDA
       ·cases hk
 | draw =>
  rw[aoC (amk (pE W x)) pE];cases hx:acJ with
  | none=>exact P
  | some t =>
   dsimp only;split
   ·rw[aiQ (P.less rfl (agG p r h) (IL y u hu) λ r h hv=>hv) hu (aGy=aaZ) hu];rw[jz] at hu;split at hu
    ·cases hu
    ·exact P.tr y u hu
   ·exact P.less rfl (agG p r h) (P.put rfl λ s hs qk=>P.tr x t hx s (aNL _) qk) λ r h hv=>hv
 | turn =>
  rw[aoC (amk (lq W x)) lq];cases hx:acJ with
  | none=>exact P
  | some t =>
   refine P.less rfl (agG p r (Ve h)) (P.put rfl (IL s hs qk)) (IL r h hv)
   ·rw[ahP z hz hs];rw[Ω Rz (P.tr x t hx z aNQ qk)]
   ·rcases hv with hv | hv
    ·exact b5 hv
    ·exact c6 (by show aur r (aJR (tW x)).map;rw[Ω oG hv])
def ack aQE aPm(f:amd)aRA(V8:aIo):amk am7:=by
 rw[ay6];split
 ·rw[au5 hk (Y8 G f P V8 hk)]
 ·exact P
def HQ{W:Wd}:(nP W).points=W.points:=by
 unfold nP
 have:∀aR3,(rs.foldl cP W).points=W.points:=λ rs=>by
  induction rs with
  | nil=>exact aw9 W
  | cons r rs ih =>
   intro W;rw[List.foldl_cons,ih];unfold cP;split<;>rfl
 exact this _ _
def J2 aQE aQo(hh:aFO):(am7).points[p]? = axj p := by
 rw[ay6];split
 ·rename_i hk;cases w with
  | set =>
   rw[ayO];split at hk
   ·split at hk
    ·cases hk
    ·rename_i hf;refine pG _ _ _ _ _ (asl (hf ?_));rw[ahP s hs hm];exact List.any_eq_true.mpr ⟨s,hs,hh⟩
   ·cases hk
  | cancel=>rw[ams lI]; split<;>rfl
  | throw =>
   rw[ayO];split at hk
   ·split at hk
    ·cases hk
    ·rw[au5 hf (List.getElem?_set_ne λ e=>hf (by rw[amX hh]))]
   ·cases hk
  | tick=>show(nP W).points[p]? = _; rw[HQ]
  | enter=>rfl
  | go =>
   show(JN Y W x).points[p]? = _
   unfold JN;split
   ·rfl
   ·split
    ·rfl
    ·split<;>rfl
  | draw =>
   show(pE W x).points[p]? = _
   unfold pE;split
   ·rfl
   ·split<;>rfl
  | turn =>
   show(lq W x).points[p]? = _;unfold lq;split<;>rfl
 ·rfl
def NC aSG aRA aRY:akF↔(afz aqy awG)/\r∉aht:=by
 constructor
 ·exact λ h=>⟨ahT (asT (b5 h)),I.Nb r h⟩
 ·rintro⟨h1,h2⟩;rw[aA6 o w (B9 G hr)];have:amA (Ss Y r) = akj r:=h1 _ (by unfold Ss dZ; rw[arW]);rcases P.hd r this with h | h
  ·exact h
  ·rw[afZ h h2]
def p0:amk (W0 Y):=by
 rw[avc h (∀p r:Nat,¬(aiz (W0 Y).locks p r)) (agG p r (by
  have h:aiz (alD (none:aeQ)) p r:=h;rw[aLu h];split at h
  ·cases h
  ·cases h)) (λ p r e=>axZ e (h p r)) (λ x t hx=>(by cases hx)) (aAn r e e (h _ r))]
universe zE
universe Sb
universe zE
section
namespace Sb
open PySem L2
section
variable {C:Cs} {Y:fE} {o:adu} {M:aY} {B:Bx} {W:Wd} {j:Nat} {ρ:eu}
structure Yd aPQ aPh aPU aP4(o:adu):Prop where
 y:afk
 f:amd
 S:ai0
def Yd.keep(d:ajP)aQS aVC:Yd C Y M' B W o:=⟨d.y.keep hl h1,d.f,d.S⟩
def Yd.app(d:ajP)(G:aY):Yd C Y (M++G) B W o:=d.keep Ξ λ i hi _=>aDP
abbrev gnQ aPH aP6:Bool:=W.green.any (acN r (Es=s))
structure Oz aPQ(ud zg ue tm Cg:D1):Prop where
 lk:∀M B W o aQn,ajP->aln->ud [ο 0,η p] M=.ok (ail (apw p)) M
 wh:∀M B W o aPv t,ajP->ahI->acJ=adt->zg [ο 0,η x] M=.ok (cO aL8) M
 ti:∀M B W o aQn,ajP->aln->ue [ο 0,η p] M=.ok (fz (aob p)) M
 ly:∀M B W o aQn b,ajP->aln->ao5->axj p = akj b->tm [ο 0,η p] M=.ok (jL b) M
 gr:∀M B W o aP6,ajP->al4->Cg [ο 0,η s] M=.ok (.bl (gnQ Y W s)) M
def Yd.pt(d:ajP)aQo(hp:aln)(qk:ao5):∃b,axj p = akj b:=by
 rw[aeC h (d.S.lies p hp qk) hl (aEn p) (by rw[Ω d.S.Hh hp])]
 rw[apr] at h;rw[afi h]
def acn{gc gu gt gp gs:D1}aPm aWD aTT(hq:CkT C gp)(hs:CkS C gs):Oz C Y (kE C.yd gc) (lW gu gt) (hU C.yd gc gu) (mZ C.yd gp) (jQ C.yd gs):=by
 rw[ZI IK G.g.qi hss G.g.zy];refine⟨alm M B W o p s hp,λ M B W o x t s hx ht'=>?_,alm M B W o p s hp,λ M B W o p b s hp qk hb=>?_,alm M B W o k s hk⟩
 ·have:=Nk (i:=acy p) s.y (hc Y _ o M B p s.y (vQ b6));rw[as4 hp,Int.toNat_natCast] at this;rw[this,List.getD_eq_getElem?_getD,s.S.locks p hp];rfl
 ·rw[ZI e (Uz s.y (afG s.f.I s.S) (Va G s.f.I s.S) (ht Y o M B x s.y hx) hu) h1 s.S.trains]
  rw[akv h2 (acJ=(ajI).map (·.tr)) (by rw[h1,oH]; rfl) ht' h2];cases h3:ajI with
  | none=>rw[h3] at h2; cases h2
  | some q =>
   rw[h3] at h2;rw[h3] at e;cases h2;exact e
 ·have:=(Wz hc hu) Y o M B p s.y (Va G s.f.I s.S) (vQ b6);rw[as4 hp,← JV s.S] at this;rw[ap9]
 ·have hn:c8 (ak5 (acy p)):=by rw[aiY kU (jk hp) Int.toNat_natCast qk]; rfl
  have:=Yx (i:=acy p) (gc:=gp) s.y s.S.Hh (hq Y _ o M B p s.y (vQ b6))
  rw[if_pos hn,Int.toNat_natCast] at this
  rw[this];rw[aev h (s.S.lies p hp qk) hb h];rw[List.getD_eq_getElem?_getD,← aqX];rfl
 ·have:=JK (i:=ao9) s.y (hs Y _ o M B k s.y (vQ b6))
  rw[as4 hk,Int.toNat_natCast] at this
  rw[this]
  congr 2
  rw[aiY gnQ Bool.eq_iff_iff Option.isSome_iff_exists List.any_eq_true];constructor
  ·rintro⟨r,hr⟩;rw[ax2 h1 h2 ((s.S.greens k r).mp hr) r h1 (decide_eq_true h2)]
  ·rintro⟨r,h1,h2⟩;rw[aaX r ((s.S.greens k r).mpr ⟨h1,aAa⟩)]
def Y9{t:Int}:ayW (Str.ofString "ways"):=aao
def RB{t:Int}:ayW (Str.ofString "where"):=aao
universe zE
universe Sb
universe zE
end
mutual
section
namespace Sb
open PySem L2
section
variable {C:Cs} {Y:fE} {o:adu} {M:aY} {B:Bx} {W:Wd} {j:Nat} {ρ:eu}
def Za aPo aPa(h:aaQ=.ok (η afA) M)(hn:n≤100000):ZB [Θ 1,d] ρ M=.ok ((aEx (n-1)).map (aiJ (afN m) (1+m)),none) M:=by
 have e:fH [Θ 1,d] ρ M=.ok [η 1,η afA] M:=by rw[ax,bA,ag,ax,h]; rfl
 rw[asN ZB e ag]
 have h62:acy 2 ^ 62=4611686018427387904:=aKy
 rw[h62,if_pos ⟨b6,b6,b6,b6⟩,show aiF (afA-1)=n-1 by omega];rfl
def RC aPa(h:0<n)(h2:aiT n):zv (η n) (η 1) M=.ok (η (afW (n-1))) M:=by
 rw[aFj (afW (n-1)=afA-1) b6]
abbrev zL(p q:Pc):acm:=p.js.filter (aoM x x q.js)
def J3{d1 d2:DE}{p q:Pc}{e1 e2 e3:ahL}(hρ:wC [none,ahM,arA,avG] ρ=[none,e1,e2,e3])(h1:d1 ρ M=.ok p.enc M)(h2:∀y,d2 [y,e1,e2,e3] M=.ok q.enc M) :
  cg false [none,ahM,arA,avG] (iT (ajg d1)) (gN 0) (aKs (ajg d2)) b8 ρ M=.ok (ς (atr (zL p q).map)) M:=by
 have hl:p.js.length≤3:=by cases p<;>simp[Pc.js]
 rw[cc (xs:=p.js) (w:=none) (M':=M) PV.int (aoM x x q.js) PV.int (ahW [y,e1,e2,e3]) (Jv (by rw[ae0 r9 h1 (Yg p M)])) trivial ⟨none,hρ⟩ (akf x) (adP hl)]
 ·exact cN (by rw[alb (aiH (List.length_filter_le _ _) b6)])
 ·rw[aiK y hρ]
  refine⟨_,rfl,acV,?_,anm⟩;rw[bI,aD,ayS 0 ([y,e1,e2,e3].set 0 x9) .ok x,ag,r9,akT (([y,e1,e2,e3]:eu).set 0 x9=[x9,e1,e2,e3]),h2,ag]
  show(aic (GV false q.enc ahM none M).bind y (ju false (η x) y M2)).bind _=_;rw[Yg,ag,wQ,ag];rfl
def HR aQw{pl:ae6}aPo aSK aPu{k p:Nat}(ha:aj7 a ajE)(hb:aj7 b (ahx pl))(hi:aaQ=.ok (η i) M)(hk:i=ao9)(hp:acL pl k p)(hl:ai5 p):anN (ae a) (ay aK (ae b) d) ρ=.ok (aeo p).enc M:=by
 subst hk;have e:agF (cO pl) ao9=.ok (η (acy p)) M:=fK (by rw[zJ,hp]; rfl);rw[aj2 aD aA ha];rw[ag,aD,aA,hb];dsimp only;rw[ag,hi,ag,e,ag,sM hl]
def CS.get:∀aQc,CS w->∀aPg{a b:dO},acL w k a->acL w (k+1) b->a.2.1=b.2.2
 | [],_,k,a,b,h,_=>al5
 | [_],_,k,a,b,_,h=>al5
 | s::z::w,h,0,a,b,h1,h2=>by
  simp only[zA,Option.some.injEq,Nat.zero_add,zB] at h1 h2;subst h1 h2;exact h.1
 | s::z::w,h,k+1,a,b,h1,h2=>CS.get (w:=z::w) h.2.2 (k:=k) aCb aGM
abbrev uf aPx(pl:ae6)(y3 y4 y5 y6 y7 y8:ahL):eu:=[f9,arn,ahx pl,y3,y4,y5,y6,y7,y8]
def Vh{t u v i k:Int}{L1 L2:acm}(hi:i∈[t,u,v])(hk:k∈[t,u,v])(dz:k≠i)(Zb:t=i\/t=k)(h1:k∈L1)(h2:i∈L2)(hn:t≠u/\t≠v/\u≠v) :
  ae8 ((ac5 t L1 && ac5 (aAt (ac5 u [i,k]) v) L2) || (ac5 t L2 && ac5 (aAt (ac5 u [i,k]) v) L1)):=by
 simp only[List.mem_cons,List.not_mem_nil,or_false] at hi hk ⊢;obtain⟨n1,n2,n3⟩:=hn;rcases Zb with rfl | rfl
 ·rw[d6 hk' (k=u\/k=v) (by rcases hk with h | h | h; rw[afZ h dz];exact b5 h;exact c6 h) e ((ahy (agf (u=t\/u=k)) u v)=k) (by
   rcases hk' with rfl | rfl
   ·simp
   ·rw[agb if_neg]; rw[aaX (adm (n1 e.symm)) n3])]
  rw[e];simp[h1,h2]
 ·rw[d6 hi' (i=u\/i=v) (by rcases hi with h | h | h; rw[afZ h.symm dz];exact b5 h;exact c6 h) e ((ahy (agf (u=i\/u=t)) u v)=i) (by
   rcases hi' with rfl | rfl
   ·simp
   ·rw[agb if_neg]; rw[apX n3 e (n1 e.symm)])]
  rw[e];simp[h1,h2]
def AJ{da db:DE}aVX(h2:c8 a->db ρ M=.ok (.bl b) M):sH da db ρ M=.ok (.bl (a && b)) M:=by
 rw[aga sH h1 ag];cases a with
 | true=>exact h2 rfl
 | false=>rfl
def J9{da db:DE}aVX(h2:acS a->db ρ M=.ok (.bl b) M):xO da db ρ M=.ok (.bl (a || b)) M:=by
 rw[aga xO h1 ag];cases a with
 | false=>exact h2 rfl
 | true=>rfl
def aco aQI:dW false (jL b) atn M=.ok (.bl (! b)) M:=by cases b<;>with_unfolding_all rfl
def RD{p:Pc}:(aK p.enc (η 0) M).bind (λ y M2=>dW false y ap1 M2)=.ok (.bl (sr p)) M:=by cases p<;>with_unfolding_all rfl
def iZ{tm:D1}aQc aPT(IK:aqf)(xA:afz Y.ps p.js.Nodup)(dz:agU w)(hlen:aEw)(cQ:agk w (Ra Y.ps s))(hl:CS w)
  (Yt:agk w (aqY s.1->tm [ο 0,η s.1] M=.ok (jL aCX) M)):n0 C.yd tm [ο 0,ahf,ayo] M=.ok af4 M:=by
 have ME:0<w.length:=List.length_pos_iff.mpr dz;rw[ac2 n0 (q=.ok af4 M)];simp only[zC,zD,zE,zF,Nat.zero_add,Nat.reduceAdd,Nat.reduceSub,List.replicate,zG,zH,zI]
 rw[d6 acp (∀y3 y4 y5 y6 y7 y8,ay zv (aiM c9) (Θ 1) (uf Y aeN y3 y4 y5 y6 y7 y8) M=.ok (η (afW awz)) M) (λ y3 y4 y5 y6 y7 y8=>by
  have e1:bU [ayo] M=.ok (η (acy w.length)) M:=aCe
  rw[aD,aZ,show fH [c9] (uf Y aeN y3 y4 y5 y6 y7 y8) M=.ok [ayo] M from rfl,ag,e1,ag,bA,ag,RC ME hlen]) RE (∀aPg,k<w.length->∃s,acL w k s/\s∈w/\acL aeN k s.1/\aDL s.1) (λ{k} hk=>by
  have e:=aLq;exact⟨w[k],e,aOf,by rw[zJ,e]; rfl,(cQ _ aOf).lt⟩)]
 have hi1:xQ [ayN] (uf Y aeN none none none none none none) M=awT .ok (aEx awz).map M:=atw (acp _ _ _ _ _ _)
 rw[aqW (xQ [ayN]) di1 hi1 (aH (fS (ρ:=uf Y aeN none none none none none none) (aiJ (afN k) k) (ak6 ((∃y3,ρ=uf Y aeN y3 none none none none none)/\M'=M)) (aEx awz) none M hi1 trivial (aiI ah2) ?_ ?_))]
 ·rintro pre k post hx ρ M' ⟨⟨y3,rfl⟩,rfl⟩;refine ad5 (uf Y aeN agO none none none none none) ?_;have hk:k<awz:=List.mem_range.mp (by rw[ajc]);obtain⟨a,a1,a2,a3,a4⟩:=RE (k:=k) b6;obtain⟨b,b1,b2,b3,b4⟩:=RE (k:=k+1) b6;rw[aaA Fb (hl.get a1 b1) (pO M' ?_ (afX (afR (aiI acV))))];rw[m4,eG,J3 (p:=Pc.at Y.ps a.1) (q:=Pc.at Y.ps b.1) (e1:=arn) (e2:=ahx aeN) (e3:=agO) rfl (HR rfl rfl rfl rfl a3 a4) (λ y=>HR rfl rfl (i:=ao9+1) (k:=k+1) (by simp only[aD,aA,bA,zB,zA,ag,wx]) b6 b3 b4)];have:agU (zL (Pc.at Y.ps a.1) (Pc.at Y.ps b.1)):=List.ne_nil_of_mem (a:=a.2.1) (aD2 (cQ a a2).i (by rw[ae2 Fb (cQ b b2).o.mem]));generalize zL (Pc.at Y.ps a.1) (Pc.at Y.ps b.1)=L at this;cases L with
  | nil=>rw[ath this]
  | cons z L=>rfl
 ·rintro ρ' M' ⟨⟨y3,rfl⟩,rfl⟩;have Ps:ZB [(Θ 1),ayN] (uf Y aeN y3 none none none none none) M'=.ok ((aEx (awz-1)).map (aiJ (afN m) (1+m)),none) M':=Za (acp _ _ _ _ _ _) b6;rw[aqW (ZB [(Θ 1),ayN]) di2 Ps (aqn (fS (ρ:=uf Y aeN y3 none none none none none) (aiJ (afN m) (1+m)) (λ pre ρ M=>(∃y3 y4 y5 y6 y7 y8,ρ=uf Y aeN y3 y4 y5 y6 y7 y8)/\M=M') (aEx (awz-1)) none M' Ps trivial (aiI ⟨_,_,_,_,_,_,rfl⟩) ?_ ?_))]
  ·rintro pre m post hx ρ M ⟨⟨y3,y4,y5,y6,y7,y8,rfl⟩,rfl⟩;refine ad5 (uf Y aeN (alA (1+m)) y4 y5 y6 y7 y8) ?_
   have hm:m<awz-1:=List.mem_range.mp (by rw[ajc]);obtain⟨a,a1,a2,a3,a4⟩:=RE (k:=m) b6;obtain⟨s,s1,s2,s3,s4⟩:=RE (k:=m+1) b6;obtain⟨b,b1,b2,b3,b4⟩:=RE (k:=m+1+1) b6;rw[aip hl1 (hl.get a1 s1) O8 (hl.get s1 b1) (aw6 (aje).enc M (HR rfl rfl rfl b6 s3 s4))];show axJ _ _ (aG _ _ (uf Y aeN (alA (1+m)) (some (aje).enc) y5 y6 y7 y8) M);rw[ag1 (ς (atr (aCw).map)) M (J3 (e1:=arn) (e2:=ahx aeN) (e3:=alA (1+m)) rfl rfl (λ y=>HR rfl rfl (i:=1+ar4-1) (k:=m) (by rw[acR aD]) b6 a3 a4))]
   show axJ _ _ (aG _ _ (uf Y aeN (alA (1+m)) (some (aje).enc) (ag4 (atr (aCw).map)) y6 y7 y8) M);rw[ag1 (ς (atr (aHy).map)) M (J3 (e1:=arn) (e2:=ahx aeN) (e3:=alA (1+m)) rfl rfl (λ y=>HR rfl rfl (i:=1+ar4+1) (k:=m+1+1) (by simp only[aD,aA,bA,zB,zA,ag,wx]) b6 b3 b4))]
   show axJ _ _ (bu _ _ _ (uf Y aeN (alA (1+m)) (some (aje).enc) (ag4 (atr (aCw).map)) (ag4 (atr (aHy).map)) y7 y8) M);rw[d6 hA (s.2.2∈aCw) (aD2 (cQ s s2).o.mem (by rw[aFi hl1 (cQ a a2).i])) hB (s.2.1∈aHy) (aD2 (cQ s s2).i (by rw[ae2 O8 (cQ b b2).o.mem]))];rw[akq hs (cQ s s2) hpm (E8 s4) hy (Yt s s2)];generalize aCw=L1 at hA ⊢;rw[aqW aHy L2 hB (ayy (sr aje) M (λ hk=>afX (afR (aiI ⟨_,_,_,_,_,_,rfl⟩))))]
   ·rw[bI,aD];show((aK (aje).enc (η 0) M).bind (λ y M2=>dW false y ap1 M2)).bind _=_;rw[RD,ag]
   ·have hy:=hy hk;unfold iu at hy;rw[akq hs3 hs.o Mi hs.i hn (xA _ hpm)];cases ep:aje with
    | pl t u=>rw[ep] at hk; cases hk
    | pt t u v =>
     rw[ep] at hy hs3 Mi hn;have Zb:=hs3.tip rfl;simp only[Pc.js,List.nodup_cons,List.mem_cons,List.not_mem_nil,or_false,not_or] at hn;rw[aeC RF (Vh (L1:=L1) (L2:=L2) (t:=t) (u:=u) (v:=v) Mi hs3.mem hs3.ne Zb hA hB ⟨hn.1.1,hn.1.2,hn.2.1⟩) hlw (Q4 (.pt t u v) s=ac5 u [s.2.1,s.2.2]) rfl]
     rw[hlw] at hy;generalize ac5 u [s.2.1,s.2.2]=oh at hy RF
     rw[acH e1 (iG C.yd "lies" tm b8 [aBR] (uf Y aeN (alA (1+m)) aHH aFY aFZ y7 y8) M=.ok (jL oh) M) (by
      rw[h.met (d:=b8) (ds:=[aBR]) (xs:=[η s.1]) rfl Fh ?_]
      ·exact hy
      ·rw[ax,aD]
       have:agF ayo (1+ar4)=.ok (η (akz s)) M:=by
        rw[Ω (show 1+ar4=afW (m+1) by omega) (fK (by rw[zJ,s3]; rfl))]
       show((agF ayo (1+ar4)).bind _)=_;rw[acR this]) (aeV (η (aAt oh v)) M ?_)]
     ·rw[aD,show ae 4 (uf Y aeN (alA (1+m)) aHH aFY aFZ y7 y8) M=.ok (Pc.pt t u v).enc M from rfl,ag,aD,bA,ag,aZ,ax,aD,e1,ag,bA,ag,aco]
      cases oh<;>rfl
     show axJ _ _ (aG _ _ (uf Y aeN (alA (1+m)) aHH aFY aFZ (alA (aAt oh v)) y8) M);rw[acH e4 (anN ZJ (Θ 1) (uf Y aeN (alA (1+m)) aHH aFY aFZ (alA (aAt oh v)) y8)=.ok (η t) M) rfl (aT af4 M ?_ (pO M rfl (afX (afR (aiI ⟨_,_,_,_,_,_,rfl⟩)))))];generalize (aAt oh v)=sd at RF e4 ⊢
     have e5:∀aPv(L:acm)aPS aPJ(ρ:eu),aaQ=.ok (η x) M->aj7 k (ag4 (L.map PV.int))->ay (ju false) d (ae k) ρ M=.ok (.bl (ac5 x L)) M:=λ x L k d ρ h1 h2=>by
      rw[aD,h1,ag,aA,h2];dsimp only;rw[ag,qO];rfl
     rw[J9 (AJ (e5 t L1 5 _ _ e4 rfl) λ _=>e5 sd L2 6 (ae 7) _ rfl rfl) λ _=>AJ (e5 t L2 6 _ _ e4 rfl) λ _=>e5 sd L1 5 (ae 7) _ rfl rfl,RF]
  ·rintro ρ' M ⟨⟨y3,y4,y5,y6,y7,y8,rfl⟩,rfl⟩;exact acK (bx (.bl true) M rfl (aV rfl))
universe zE
universe Sb
universe zE
section
namespace Sb
open PySem L2
section
variable {C:Cs} {Y:fE} {o:adu} {M:aY} {B:Bx} {W:Wd} {j:Nat} {ρ:eu}
def uR aPp{my:aer}aS9 aPo aQS{w:DV}aRN aR1(f:awf)(R:aCg)
  aWb aUV(h:∀x∈xs,∀ ρ,R ρ->aDG (atN M'=.ok (.bl (f x)) M'))(hl:aBw) :
  cg false my di g sI d ρ M=.ok (ς ((xs.map f).map PV.bl)) M':=by
 rw[cc enc ah9 (λ x=>PV.bl (f x)) R hi hc hR (aoj x hx) hl]
 ·rw[List.filter_eq_self.mpr (λ _ _=>rfl),bM (by rw[alb hl]),List.map_map];rfl
 ·rw[af7 ρ1 h1 h2 h3 (h x hx ρ hρ) (abS ρ1 h1 h2 (λ _=>h3))]
def HS aPo aSc aWq:av vw [d] ρ M=.ok (.bl aKT) M':=by
 rw[aZ,ax,h];rw[alM aM];unfold vw;simp only[jh,Option.bind_some,Sb.qK]
def acq aPo aSc aWq:av EY [d] ρ M=.ok (.bl aKU) M':=by
 rw[aZ,ax,h];rw[alM aM];unfold EY;simp only[jh,Option.bind_some,Sb.qK]
def FI aQf aQo{l:ae6}:ju neg (η p) (cO l) M=.ok (.bl (aja (ac5 p l) (ac5 p l))) M:=by
 rw[show cO l=ς (atr (l.map fun(afN n)=>afA).map) by rw[asQ cO],qO]
 rw[auo (ac5 (acy p) (l.map fun(afN n)=>afA)=ac5 p l) (aLz (λ h=>by
  rw[ana q hq e h]
  have:q=p:=b6
  rw[abd this hq]) (λ h=>ahg p h))]
abbrev RG aPQ aPd:Prop:=∀M B W o w,ajP->agU w->aEw->(agk w (Ra Y.ps s))->CS w->(agk w (aqY s.1->axQ s.1 s))->g [ο 0,ahf,ayo] M=.ok af4 M
def Zc aRZ aRI:RG C Y (n0 C.yd tm):=λ M B W o w d h1 h2 h3 h4 h5 =>
 iZ d.y G.g.qi G.g.once h1 h2 h3 h4 λ s hs qk=>Q.ly M B W o s.1 _ d (h3 s hs).lt qk (h5 s hs qk)
abbrev sC aPH(y4 y5 y6 y7 y8 y9 sN sD mP:ahL):eu:=[f9,arn,ag4 (aIs q q.1),ahx aht,y4,y5,y6,y7,y8,y9,sN,sD,mP]
abbrev fU aSs:ae6:=d.flatMap λ q=>ae4 q.2.steps.map
noncomputable abbrev sfA aRa(zg gj ud ue:D1):DS:=(alk 6 (iG c "where" zg b8 [aeJ]) (apI (avj (nv (dP (ae 6))) (A6 (nv (dP (av gj [b8,b9,(ae 6)]))) (dP (av EY [(cg false (akb 4) (iL (ae 6)) (gN 0) sI (agZ b8 b9))]))) (aeu (aoe .bl))) 4 (akt ZJ (ae 6)) (awm (av vw [(cg false (ahp ai9 (some 5)) (iL (ae 6)) (gN 0) sI (sH (acW (asG c ue b9 aiV) c9) (ay (rn false) (iG c "lock_of" ud b9 aiV) (dC .bb))))]) .bl)))
def HU(I:ajm)(IK:aqf):∀d:aoJ,(am2 d (aAV q.1 q.2))->agS (fU d) (16*d.length)
 | [],_=>f6 fU
 | q::d,h=>by
  have:=HU I IK d λ u hu=>h u (ahv hu);have h1:=I.JH (h q Ξ);unfold fU at this ⊢;rw[List.flatMap_cons,List.length_append,zK,zE];omega
def Zd{P:aiu}{ud zg ue tm Cg gj:D1}aRI(hj:RG C Y gj)(d:ajP)(hp:alv)(Ar:awQ)
  (q:∀y5 y6,P (.nx (sC Y W arx y5 y6 none none none none none none) M)):P (hG (iL c9) (gN 5) (sfA C.yd zg gj ud ue) (sC Y W (ahx []) none none none none none none none none) M):=by
 rw[axr IK G.g.qi I d.f.I Ow I.Uw (fS (λ q:Int×Tr=>PV.int q.1) (ak6 ((∃y5 y6,ρ=sC Y W (ahx aoH) y5 y6 none none none none none none)/\M'=M)) W.trains none M rfl trivial (aER _) ?_ ?_)]
 ·rintro pre t post hx ρ M' ⟨⟨y5,y6,rfl⟩,rfl⟩;refine ad5 (sC Y W (ahx aoH) ao6 y6 none none none none none none) ?_
  have hm:t∈W.trains:=by rw[ajc]
  rw[ZI ha (cz I.vX hm) T (apb ha)];rw[ZI J (d.f.J _ _ ha) sW (I.JH ha)];rw[d6 acr (∀u∈pre,aAV u.1 u.2) (λ u hu=>cz I.vX (by rw[hx]; simp[hu])) sV (pre.length≤16) (by
   have:=az9 hx;rw[axS];omega)]
  rw[aaA IJ (HU I IK pre acr) (aeV (cO (ae4 t.2.steps.map)) M' ?_)]
  ·rw[Ω (d.y.met (d:=b8) (ds:=[aeJ]) (xs:=[η t.1]) rfl RB rfl) (Q.wh M' B W o t.1 t.2 d (Ar t hm) ha)]
  show axJ _ _ (aG _ _ (sC Y W (ahx aoH) ao6 (ahx (ae4 t.2.steps.map)) none none none none none none) M')
  have afK:av EY [(cg false (akb 4) (iL (ae 6)) (gN 0) sI (agZ b8 b9))] (sC Y W (ahx aoH) ao6 (ahx (ae4 t.2.steps.map)) none none none none none none) M'=.ok (aiU .bl) M':=by
   rw[acq (bs:=(ae4 t.2.steps.map).map (aoM p p aoH))]
   ·congr 2
    rw[aMe];intro b hb;rw[ahP p hp hb]
    rw[ahP s hs hp];intro he;rw[an6 he he];unfold fU at he;rw[aLr u hu Ox he];rw[ana z hz e Ox]
    have dz:u.1≠t.1:=λ e=>by
     have hn:=I.vX;rw[hx,List.map_append,zC,List.nodup_append] at hn;exact hn.2.2 u.1 (ahg u hu) t.1 Ξ e
    exact(I.dj _ _ _ _ (acr u hu) ha dz).1 z hz s hs e
   ·refine uR alC (aoM p p aoH) (ahW [y,ahx aoH]) aGK trivial ah2 (akf p) (by rw[aqg (Nat.le_trans sW IK)]);rw[aiK y hρ];refine ahh _ acV ?_;show ju false (η p) (cO aoH) M'=_;rw[acR FI]
  rw[aaA hjn (hj M' B W o t.2.steps d T.ne b6 J.ok J.ZH (hp.tr _ _ ha)) (aH (pO M' ?_ arC))]
  ·rw[d6 e1 (dP (ae 6) (sC Y W (ahx aoH) ao6 (ahx (ae4 t.2.steps.map)) none none none none none none) M'=.ok true M') (by
    have dz:=T.ne;show asZ (some !((ae4 t.2.steps.map).map alC).isEmpty) M'=_;cases e:t.2.steps with
    | nil=>rw[ayJ]
    | cons s w=>rfl) e2 (dP (av gj [b8,b9,(ae 6)]) (sC Y W (ahx aoH) ao6 (ahx (ae4 t.2.steps.map)) none none none none none none) M'=.ok true M') (by
    show(gj [ο 0,ahf,cO (ae4 t.2.steps.map)] M').bind _=_;rw[acR hjn])]
   rw[vF,m4,e1];simp only[ag,Bool.not_true,Bool.false_eq_true,if_false];rw[vF,m4,e2];simp only[ag,Bool.not_true,Bool.false_eq_true,if_false];rw[eG,afK];rfl
  rw[acH acs (fU (agw t)=aoH++ae4 t.2.steps.map) (by rw[acP fU List.flatMap_append];simp) (aeV (cO (fU (agw t))) M' ?_)]
  ·show tJ false (((aoH).map alC)++((ae4 t.2.steps.map).map alC)) M'=_;rw[ahY (Nat.le_trans (m:=1000) (by rw[List.length_append,zK,zK,zK]; omega) d7),acs];rw[acP cO List.map_append]
  show axJ _ _ (bu _ _ _ (sC Y W (ahx (fU (agw t))) ao6 (ahx (ae4 t.2.steps.map)) none none none none none none) M')
  refine pO M' ?_ (afX (afR (aER _)));rw[m4,eG,HS (bs:=(t.2.steps).map ah9)]
  ·rw[ag,vO,ag]
   congr 1
   simp
  ·refine uR (xs:=t.2.steps) (alI s (akz s)) ah9 (ahW [y,f9,ao6]) (ej (by show Res.ok (PV.lst ((ae4 t.2.steps.map).map alC)) M'=_;rw[List.map_map];rfl)) trivial ah2 (aoj s hs) (adP (Nat.le_trans sW IK))
   rw[aiK y hρ]
   refine ahh _ acV ?_;have qj:=(J.ok s hs).lt;rw[akT (([y,f9,ao6]:eu).set 0 (auK s)=[auK s,f9,ao6])]
   rw[d6 g1 (iG C.yd "train_in" ue b9 aiV [auK s,f9,ao6] M'=.ok (η t.1) M') (by
    rw[d.y.met (d:=b9) (ds:=[b8]) (xs:=[η s.1]) rfl sq rfl,Q.ti M' B W o s.1 d qj,Vd I ha hs];rfl) g2 (iG C.yd "lock_of" ud b9 aiV [auK s,f9,ao6] M'=.ok .bb M') (by
    rw[d.y.met (d:=b9) (ds:=[b8]) (xs:=[η s.1]) rfl yq rfl,Q.lk M' B W o s.1 d qj,List.getD_eq_getElem?_getD,T.st s hs];rfl)]
   rw[AJ (a:=true) (b:=true)]
   ·rfl
   ·rw[aD,g1,ag];show dW false (η t.1) (η t.1) M'=_;rw[agb fu]
   ·intro _;rw[aD,g2];rfl
 ·rintro ρ' M' ⟨⟨y5,y6,rfl⟩,rfl⟩;exact q y5 y6
def Ze aRZ{y5 y6:ahL}aRI(d:ajP) :
  nv (dP (av vw [(cg false (ahp (some 4) ai9) ayU (gN 0) sI (xO (agZ b8 b9) (ay (rn false) (asG C.yd ue c9 aiV) (dC .bb))))])) (sC Y W arx y5 y6 none none none none none none) M=.ok false M:=by
 have IK:=G.g.qi;rw[m4,eG,HS (bs:=(aHN).map ah9)]
 ·rw[ag,vO,ag]
  congr 1
  simp
 ·refine uR (xs:=aHN) (ay2 p p) ah9 (ahW [y,arx,f9]) (atw (by show bU [ahf] M=_; simp[bU])) trivial ah2 (aoj p hp) (uE b6);rw[aiK y hρ];have hp:=aN6
  refine ahh _ acV ?_;rw[akT (([y,arx,f9]:eu).set 0 aia=[aia,arx,f9])]
  rw[J9 (a:=ac5 p aLj) (b:=true)]
  ·rw[Bool.or_true]
  ·show ju false (η p) (cO aLj) M=_;rw[acR FI]
  ·intro hn;rw[axc hn hn];rw[aD,d.y.met (d:=c9) (ds:=[b8]) (xs:=[η p]) rfl sq rfl,Q.ti M B W o p d hp];cases e:aKm p with
   | none=>rfl
   | some x =>
    exfalso;unfold qg at e;obtain⟨u,hu,_⟩:=Option.map_eq_some_iff.mp e;rw[ZI h1 (List.mem_of_find?_eq_some hu) h2 (List.find?_some hu)];rw[an6 h2 h2]
    rw[ana s hs e2 h2]
    have:s.1=p:=b6
    exact hn (List.mem_flatMap.mpr ⟨u,h1,az3 s hs this⟩)
universe zE
universe Sb
universe zE
end
mutual
section
namespace L2
open PySem
def Ch aPp{g:DG}aUb aR1(f:avS)(o:α->MO)(R:aCg) :
  ∀aRM aR7(acc:d9),R ρ->(∀x∈xs,∀ ρ M,R ρ->aDG (ayn M=.ok true M/\atN M=.ok (f M.length x) (M++[o x])))->aqq (aEO xs.length) →
   oW none g tc d au4 ρ M acc=.ok (acc++ag8 (xs.zipIdx M.length).map q (f q.2 q.1)) (M++xs.map o)
 | [],ρ,M,acc,_,_,_=>f6 oW
 | x::xs,ρ,M,acc,hR,h,hl=>by
  obtain⟨ρ1,h1,h2,h3,h4⟩:=h x Ξ ρ M hR;simp only[zE] at hl;rw[aj2 zC oW h1];rw[h3,Res.wB,afC,h4,Res.wB,if_pos ⟨trivial,b6⟩,Ch enc f o R xs ρ1 _ _ h2 aDv (by rw[afo])];simp
def Ka aPp aRm{my:aer}aS9 aUb aR0 aRN aR1(f:avS)(o:α->MO)(R:aCg)
  (hi:apd=.ok (au4,none) M')aUV(h:∀x∈xs,∀ ρ M,R ρ->aDG (ayn M=.ok true M/\atN M=.ok (f M.length x) (M++[o x])))(hl:aBw) :
  cg live my di g tc d ρ M=tJ live (ag8 (xs.zipIdx M'.length).map q (f q.2 q.1)) (M'++xs.map o):=by
 unfold cg;rw[hi,ag,agW (show vq none M' from trivial),Ch enc f o R xs _ _ _ hR h (aam hl)]
 simp
universe L2
namespace Sb
open PySem L2
abbrev sO(L:Nat)aSd:d9:=ag8 (rs.zipIdx L).map q (sT [η q.1.1,ο q.2])
abbrev sP aSd:aY:=rs.map λ r=>ς (r.2.map aI)
def jV aP9 aPc aPa aSQ{rs:afT}(hn:M[n]? = ac1 abT c fs)(hf:fs.lookup aN2=f7 (hV rs))(hl:ang rs.length)(hw:∀r∈rs,aiT (ahK r.2)) :
  mY c [ο n] M=.ok (ο aMM) (M++sP rs++[ς (sO M.length rs)]):=by
 rw[ake mY (r=.ok (ο aMM) (M++sP rs++[ς (sO M.length rs)]))];rw[aiy (ah4 (ο aMM) (M++sP rs++[ς (sO M.length rs)]) ?_) (Ka (xs:=rs) (M':=M) BB (λ L r=>sT [η r.1,ο L]) (λ r=>ς (r.2.map aI)) (λ ρ=>∃y z,ρ=[y,z]) (ej (by
  unfold bY
  simp[Ov,hn,hf])) (ajs none none) (aeB r hr ρ M hρ) (adP hl))]
 ·rw[jZ (by rw[axO hl])];simp[sP,sO]
 ·rw[ajq y z rfl hρ (abS _ gT2 (amT _) ?_)];simp[lE];rw[acR (jZ (by rw[axO (hw r hr)]))]
section
variable {C:Cs} {Y:fE} {o:adu} {M:aY} {B:Bx} {W:Wd} {j:Nat} {ρ:eu}
abbrev WB(C:Cs)aPd:Prop:=∀Y M t,At0 C Y M t->aaD->g [ο 0] M=.ok (ο (ajY Y.rs.length)) (M++aBv++[ς (sO M.length Y.rs)])
def Zf:WB C (mY C.yd):=λ Y M t h G=>by
 refine jV h uK G.len (acO r hr);obtain⟨k,hk,e⟩:=List.getElem_of_mem hr;have:=G.wl hk;have e2:=xk hk;rw[aLq,e] at e2;rw[Ω aIp this]
def ND(L:Nat)aSd:sJ (sO L rs)=(List.range rs.length).map (aul r (sT [η r,sT [η (aQ rs r),ο (L+r)]])):=by
 refine aDY i;unfold sJ sO;rw[zJ,List.getElem?_zipIdx,zJ,List.getElem?_zipIdx,zJ];rw[agN (aFk i)]
 ·rw[xk h,aIa];simp
 ·rw[ax5,an4 (by rw[afo])];rfl
def LY{di:DI}aPo{M1:aY}aQF aPi aPw aV9(hd:aaQ=.ok x (aoU .jd)):tM di d ρ M=.ok x M:=by
 unfold tM V5;rw[agV hi];rw[agV h];rw[hd];rw[ams Qd];rw[agW aKX,nD h]
abbrev Vi:aoK Bool PV:=abf b (.bl b)
abbrev GS aPH(pre:ae6)(d:amH):Prop:=∀s,aJ d s=asC (pre.any (acN r (Es=s))) (f7 (pre.any (aoF r (Es=s) arV)))
def GS.step{pre:ae6}{d:amH}(h:GS Y W pre d)aPk:GS Y W (agw r) (cv d Es (aiU (aBU).getD || arV)):=λ s=>by
 rw[eB,List.any_append,List.any_append];rw[aih s Es]
 ·subst e;rw[afC,h];rw[ahN h1 (pre.any (acN r' (aQ Y.rs r'=Es)))]
  ·rw[alN h1 h1];simp
  ·rw[agL h1]
   have h2:ai6 (pre.any (aoF r' (aQ Y.rs r'=Es) (agf (r'∈W.green)))):=by
    rw[aMe];intro x hx hh;exact h1 (List.any_eq_true.mpr ⟨x,hx,(Bool.and_eq_true_iff.mp hh).1⟩)
   rw[agb h2]
 ·rw[ak3,h];have e1:acS (afJ Es s):=aLV h (e h.symm);simp[e1]
structure LZ aPx aPh(d:amH)aRx:Prop where
 len:M.length<M'.length
 old:∀i<M.length,M'[i]? = M[i]?
 gd:aAA M' .bB ayz
 wy:∀r<Y.rs.length,M'[ahB+r]? = ag4 ((aaC).map aI)
 ls:M'[ahB+Y.rs.length]? = ag4 (sO ahB Y.rs)
def LZ.put aSH(c:awR)(d':amH):LZ Y M d' (aEi (.bB (encD Vi d'))) :=
 ⟨by rw[axf c.len],aqk (ax7 (c.old i hi)),get_set c.gd,amg (ax7 (c.wy r hr)),ax7 c.ls⟩
def LZ.new:LZ Y M [] (M++arF++aBv++akS (sO ahB Y.rs)):=by
 rw[ah8 hl (aeA aBv=Y.rs.length) (by rw[acP sP zK]) ⟨Ξ,azv,?_,acO r hr,?_⟩]
 ·rw[List.append_assoc,List.append_assoc,aDP]
 ·rw[List.append_assoc,List.append_assoc,aDQ acT];simp[encD]
 ·rw[aw7 (by simp[hl];omega),List.getElem?_append_right Ξ];simp only[List.length_append,List.length_singleton,Nat.add_sub_cancel_left];rw[aga sP zJ (xk hr)];rfl
 ·rw[aDQ (by simp[hl];omega)]
  have e:ahB+Y.rs.length-aqH (M++arF) aBv=0:=by simp[hl];omega
  rw[acR e]
def LZ.yd aSH(c:awR)(y:ajP):Yd C Y M' B W o:=y.keep aL6 λ i hi _=>c.old i hi
def acu{l:aeQ}aPj:dW false (bJ l) (η r) M=.ok (.bl (agf (anK l))) M:=by
 cases l with
 | none=>rw[avr none .bb,azZ]; rfl
 | some r' =>
  rw[avr aBG (η r'),fu]
  rw[aFj (afJ (acy r') azi=agf (anK aBG)) (aLz (λ h=>by congr 1; omega) (λ h=>agB aqX))]
def acv aQI:dW false (.bl b) (.bl b) M=.ok af4 M:=by cases b<;>with_unfolding_all rfl
def WC aQI:dW false (jL b) (jL b) M=.ok af4 M:=by cases b<;>with_unfolding_all rfl
abbrev WD aPx(n r:Nat):PV:=sT [η Es,ο (n+1+r)]
def afL{n r:Nat}:agF (WD Y n r) 0=.ok (η Es) M:=wV
def acw{n r:Nat}:agF (WD Y n r) 1=.ok (ο (n+1+r)) M:=vm (i:=1) rfl
noncomputable abbrev tp aPH(y4 y5 y6:ahL)(n r:Nat)(sN sD mP:ahL):eu:=sC Y W y4 y5 y6 aqt aax (f7 (WD Y n r)) sN sD mP
noncomputable abbrev sfG aRa(ud:D1):DE:=(sH (av vw [(cg false (ahp ai9 (some 8)) (iL aGA) (gN 0) sI (acW (iG c "lock_of" ud b9 [akC]) c9))]) (ay (ju true) (ae 8) aah))
noncomputable abbrev sfI aRa(tm:D1):DS:=(alk 12 (t6 b9 ayD) (bu (mD (ata (aov 12) aq6) (dP (ae 10))) (bL 10 (acW (iG c "lies" tm b8 [ayD]) (amb (aem [aq7,(dC af9)]) (av qI [(agZ (t6 (ae 12) (dC (η 2))) (ajg (ae 11)))])))) fo))
noncomputable abbrev sfP:DS:=(eY (ae 7) (aov 9) (xO (nF (ae 7) (aov 9) (aoe .bl)) (ae 10)))
def Zg aRZ aSH aPj{y4 y5 y6 sN sD mP:ahL}aRI aU9(c:awR)aRs :
  sfG C.yd ud (tp Y W y4 y5 y6 M.length r sN sD mP) M'=.ok (.bl arV) M':=by
 rw[aeC y' (c.yd y) e9 (amP (ae 9) (Θ 1) (tp Y W y4 y5 y6 M.length r sN sD mP) M'=.ok (ο (ahB+r)) M') (by rw[aqj (aK (aED Y r) (η 1) M'=_) acw])]
 rw[acP sfG (AJ (a:=((aaC).map (acN s (anK (apw s.1)))).all id) (b:=!(ac5 r aht)))]
 ·have hg:=NC G y.f.I hp hr
  congr 2
  rw[Bool.eq_iff_iff,Bool.and_eq_true,decide_eq_true_iff,hg,Bool.not_eq_true',decide_eq_false_iff_not,List.all_eq_true];refine and_congr ⟨IL h p hp,IL h b hb⟩ Iff.rfl
  ·rw[ahP s hs hp];rw[aLW (h _ (ahg s hs))]
   have hl:aqu s:=by rw[Ω y.f.I.ln (G.bz.lt r hr _ hp)]
   rw[List.getD_eq_getElem?_getD,apr] at this;rw[apr,← this];rfl
  ·rw[ahP s hs hb];refine decide_eq_true ?_;rw[List.getD_eq_getElem?_getD,h _ (ahg s hs)];rfl
 ·refine HS (uR aI (acN s (anK (apw s.1))) (λ ρ=>∃z,ρ=[z,f9,aax]) (yg e9 (c.wy r hr)) (c.wy r hr) ah2 (aoj s hs) (adP aFJ))
  rw[aiK z hρ]
  refine ahh _ acV ?_
  rw[akT (([z,f9,aax]:eu).set 0 ajH=[ajH,f9,aax]),aD,
   y'.y.met (d:=b9) (ds:=[akC]) (xs:=[η s.1]) rfl yq rfl,Q.lk M' B W o s.1 y' (G.bz.lt r hr _ (ahg s hs)),ag]
  show dW false _ (η r) M'=_;rw[acu]
 ·intro _;show ju true (η r) aGJ M'=_;rw[acR FI]
def Zh{P:aiu}aRZ aSH aWQ aRI aU9(c:awR)aRs
  (q:∀sD mP,P (.nx (tp Y W y4 y5 y6 M.length r (aqx .bl) sD mP) M')):P (hG (iL aGA) (gN 11) (sfI C.yd tm) (tp Y W y4 y5 y6 M.length r (aqx .bl) sD mP) M'):=by
 rw[apL y' (c.yd y) e9 (amP (ae 9) (Θ 1) (tp Y W y4 y5 y6 M.length r (aqx .bl) sD mP) M'=.ok (ο (ahB+r)) M') (by rw[aqj (aK (aED Y r) (η 1) M'=_) acw]) (fS aI (λ pre ρ M2=>(∃sD mP,ρ=tp Y W y4 y5 y6 M.length r (aqx .bl) sD mP)/\M2=M') aaC _ M' (yg e9 (c.wy r hr)) (c.wy r hr) (aER _) ?_ ?_)]
 ·rintro pre s post hx ρ M2 ⟨⟨sD,mP,rfl⟩,rfl⟩;refine ad5 (tp Y W y4 y5 y6 M.length r (aqx .bl) ajH mP) ?_
  rw[d6 hs (s∈aaC) (by rw[ajc]) hm (s.1∈aqy) (ahg s hs)];rw[aaA qj (G.bz.lt r hr _ hm) (aw6 (aje).enc M2 ?_)]
  ·rw[aD];show((aK amn (η 0) M2).bind λ y M3=>aK ahf y M3)=_;rw[US,ag,sM qj]
  show awq _ _ _ (bu _ _ _ (tp Y W y4 y5 y6 M.length r (aqx .bl) ajH (some (aje).enc)) M2)
  refine ayy (auF s.1 && arV) M2 (λ hk=>afX (bC (c.wy r hr) (aER _)))
  ·have e1:ba (acW (aov 12) aq6) (tp Y W y4 y5 y6 M.length r (aqx .bl) ajH (some (aje).enc)) M2=.ok (auF s.1) M2:=by
    rw[bI,aD];show((aK (aje).enc (η 0) M2).bind (λ y M2=>dW false y ap1 M2)).bind _=_;rw[RD,ag];rfl
   rw[m3,e1,ag];cases auF s.1<;>rfl
  ·rw[anC aHX];rw[ZI hg aAa qk (hp.lk s.1 r (y.f.I.lock (b5 hg) hm) s hs rfl h1)]
   rw[ai3 e2 (iG C.yd "lies" tm b8 [ayD] (tp Y W y4 y5 y6 M.length r (aqx .bl) ajH (some (aje).enc)) M2=.ok (jL aCX) M2) (by
    rw[Ω (y'.y.met (d:=b8) (ds:=[ayD]) (xs:=[η s.1]) rfl Fh rfl) (Q.ly M2 B W o s.1 _ y' qj h1 qk)]) e3 (amP (aem [aq7,(dC af9)]) (av qI [(agZ (t6 (ae 12) (dC (η 2))) (ajg (ae 11)))]) (tp Y W y4 y5 y6 M.length r (aqx .bl) ajH (some (aje).enc)) M2=.ok (jL aCX) M2) (by
    unfold bH at h1;unfold iu;cases hp:aje with
    | pl a b=>rw[hp] at h1; cases h1
    | pt t u b =>
     rw[acH e (ju false (η u) (sT ([s.2.1,s.2.2].map η)) M2=_) wQ (Wj ?_)];unfold tp sC;rw[aD,aD];simp only[aA,bA,r9,nz,lp,zB,zA,ag,Pc.enc,D8];rw[Fo,ag,e];rfl) (wR af4 M2 ?_ ?_)]
   ·rw[aD,e2,ag,e3,ag,WC]
   ·rw[Ω h2 (bC (c.wy r hr) (aER _))]
 ·rintro ρ' M2 ⟨⟨sD,mP,rfl⟩,rfl⟩;exact q sD mP
def Zi{P:aiu}aSH aWQ{k:Bool}(c:awR)(hl:ang d.length)
  (q:P (.nx (tp Y W y4 y5 y6 M.length r (abq .bl k) sD mP) (aEi (.bB (afh Vi (cv d Es (aiU (aBU).getD || k))))))):P (sfP (tp Y W y4 y5 y6 M.length r (abq .bl k) sD mP) M'):=by
 rw[acH e9 (amP (ae 9) (Θ 0) (tp Y W y4 y5 y6 M.length r (abq .bl k) sD mP) M'=.ok (η Es) M') (by rw[aqj (aK (aED Y r) (η 0) M'=_) afL]) (fq (.bl (aiU (aBU).getD || k)) M' aes M' (η Es) M' _ ?_ rfl e9 ?_ q)]
 ·refine J9 ?_ anm
  unfold nF
  rw[aj2 (show ae 7 (tp Y W y4 y5 y6 M.length r (abq .bl k) sD mP) M'=.ok aes M' from rfl) ag (eD c.gd)];rw[e9,ag,bA,ag,eD c.gd,show kQ (η Es)=f7 (aj0 Es) from rfl]
  dsimp only
  rw[eZ];cases aBU<;>rfl
 ·rw[awZ c.gd Es (by rw[Ω pA (Nat.lt_of_le_of_lt hl d7)])]
  congr 3
  exact pz Vi _ _ _
universe zE
universe Sb
universe zE
section
namespace Sb
open PySem L2
section
variable {C:Cs} {Y:fE} {o:adu} {M:aY} {B:Bx} {W:Wd} {j:Nat} {ρ:eu}
def HV aPp(d:awc)aPS(v:α):agS (cv d k v) (d.length+1):=by
 unfold cv;split
 ·rw[akB zK]
 ·simp
def Vj(d:amH):((ayz).map azN)=d.map (alI q (akz q)):=by
 rw[aFw]
def Zj aRZ aSH{y4 y5 y6 y8 y9 sN sD mP:ahL}aRI(y:ajP)(c:awR)(hd:GS Y W (List.range Y.rs.length) d)(hl:ang d.length) :
  av vw [(tM (oY (ae 7)) (cg false (ahp ai9 (some 7)) (oY (ae 7)) (gN 0) sI (acW (iG C.yd "is_green" Cg b9 aiV) aF2)))] (sC Y W y4 y5 y6 adW y8 y9 sN sD mP) M'=.ok af4 M':=by
 rw[aev hi (keys_eq (ρ:=sC Y W y4 y5 y6 adW y8 y9 sN sD mP) (d:=ae 7) c.gd rfl) Vj hi];rw[HS (bs:=d.map ah9) (M':=M')]
 ·congr 2
  simp
 rw[anl (LY c.gd hi ?_) hz (aAA (aEi (.jd ayz)) .jd ayz) (get_set c.gd) y2 (Yd C Y (aEi (.jd ayz)) B W o) (y.keep (by rw[axf aL6]) λ i hi _=>ax7 (c.old i hi))];generalize aEi (.jd ayz)=M2 at hi hz y2 ⊢;refine uR (λ q:Nat×Bool=>PV.int (akz q)) ah9 (λ ρ=>∃z,ρ=[z,f9,adW]) hi hz ah2 (aoj q hq) (adP hl)
 rw[aiK z hρ]
 refine ahh _ acV ?_;have hk:aKt q.1:=(aEJ q.1).mp (ahg q hq);rw[aeC h1 (hd q.1) ha (c8 ((List.range Y.rs.length).any (acN r (Es=q.1)))) (by
  cases e:(List.range Y.rs.length).any (acN r (Es=q.1)) with
  | true=>rfl
  | false=>rw[e] at h1; rw[aiq h1 hk hk])]
 rw[ha,afC] at h1
 rw[d6 qj (auA q.1) (by
  rw[aA6 r hr (List.any_eq_true.mp ha)];rw[abd aOd (G.sg (List.mem_range.mp hr))]) e2 (((List.range Y.rs.length).any (aoF r (Es=q.1) arV))=gnQ Y W q.1) (by
  rw[aiY gnQ Bool.eq_iff_iff List.any_eq_true List.any_eq_true];constructor
  ·rintro⟨r,_,h⟩;rw[ax2 h2 h3 (Bool.and_eq_true_iff.mp h) r (of_decide_eq_true h3) h2]
  ·rintro⟨r,h2,h3⟩;rw[aas r (List.mem_range.mpr (y.f.I.glt h2)) (Bool.and_eq_true_iff.mpr ⟨h3,decide_eq_true h2⟩)])]
 rw[e2] at h1
 rw[akT (([z,f9,adW]:eu).set 0 al6=[al6,f9,adW]),aD,
  y2.y.met (d:=b9) (ds:=[b8]) (xs:=[η q.1]) rfl JJ rfl,Q.gr M2 B W o q.1 y2 qj,ag]
 have e3:amP c9 b8 [al6,f9,adW] M2=.ok (.bl (gnQ Y W q.1)) M2:=by
  rw[aqj (aK aes (η q.1) M2=_) (Fz hz (k:=aj0 q.1) rfl (by rw[eZ,h1]; rfl))]
 rw[e3,ag,acv]
def jY{ud zg ue tm Cg gj gwy:D1}aRI(hj:RG C Y gj)(hw:WB C gwy)aU9(Ar:awQ) :
  ∃M',vC C.yd zg gj ud ue gwy tm Cg [ο 0,ahf,ς (aIs q q.1),aGJ] M=.ok af4 M'/\auR/\∀i<M.length,M'[i]? = M[i]? := by
 rw[ac2 vC (∃M',q=.ok af4 M'/\auR/\∀i<M.length,M'[i]? = M[i]?)];simp only[zC,zD,zE,zF,Nat.zero_add,Nat.reduceAdd,Nat.reduceSub,List.replicate,zG,zH,zI];rw[ag1 (cO []) M LP]
 show apW _ (aG _ _ (sC Y W (ahx []) none none none none none none none none) M);refine aH ?_;show E5 _ _ (hG (iL c9) (gN 5) (sfA C.yd zg gj ud ue) (sC Y W (ahx []) none none none none none none none none) M)
 rw[afQ (Zd G Q hj y hp Ar (acO y5 y6)) ac4];have eb:=Ze (y5:=y5) (y6:=y6) G Q y;generalize nv (dP (av vw [(cg false (ahp (some 4) ai9) ayU (gN 0) sI (xO (agZ b8 b9) (ay (rn false) (asG C.yd ue c9 aiV) (dC .bb))))]))=tb at eb ⊢;rw[ave (pO M eb arC) (aeV aes (M++[.bB []]) rfl)];show apW _ (aG _ _ (sC Y W arx y5 y6 adW none none none none none) (M++arF));rw[ZI y1 (y.app arF) ew (hw Y (M++arF) B.ticks y1.y.y0 G)];rw[akv c0 (LZ Y M [] (M++arF++aBv++akS (sO ahB Y.rs))) LZ.new (show aqH M arF=ahB by simp) ew];generalize M++arF++aBv++akS (sO ahB Y.rs)=M2 at ew c0
 have hi:iE (iG C.yd "ways" gwy b8 []) (sC Y W arx y5 y6 adW none none none none none) (M++arF)=.ok ((List.range Y.rs.length).map (aul r (PV.tup [η r,aED Y r])),aiR (ahB+Y.rs.length) (ς (sO ahB Y.rs))) M2:=by
  unfold iE;rw[aj2 (y1.y.met (d:=b8) (ds:=[]) (xs:=[]) rfl Y9 rfl) ew ag];rw[agV c0.ls];rw[acR ND]
 rw[aqW (iE (iG C.yd "ways" gwy b8 [])) di hi (aH (fS (aul r (PV.tup [η r,aED Y r])) (azT d (∃y8 y9 sN sD mP,ρ=sC Y W arx y5 y6 adW y8 y9 sN sD mP) (awR/\GS Y W pre d/\aO8)) (List.range Y.rs.length) _ M2 hi c0.ls ⟨[],⟨_,_,_,_,_,rfl⟩,c0,aw9 s,acT⟩ ?_ ?_))]
 ·rintro pre r post hx ρ M' ⟨d,⟨y8,y9,sN,sD,mP,rfl⟩,c,hgs,YU⟩;refine ad5 (tp Y W arx y5 y6 M.length r sN sD mP) ?_
  rw[d6 hr adg (List.mem_range.mp (by rw[ajc])) sV (pre.length<Y.rs.length) (by
   have:=az9 hx;rw[List.length_range,List.length_append,zE] at this;omega)]
  rw[aaA LJ G.len (aeV (.bl arV) M' (Zg G Q y hp c hr))]
  show awq _ _ _ (aG _ _ (tp Y W arx y5 y6 M.length r (aqx .bl) sD mP) M');refine aH (Zh G Q y hp c hr λ sD mP=>acK (Zi c b6 (bC (ax7 c.ls) ⟨_,⟨_,_,_,_,_,rfl⟩,c.put _,hgs.step r,?_⟩)));have:=HV d Es (aiU (aBU).getD || arV)
  rw[aIb]
  omega
 ·rintro ρ' M' ⟨d,⟨y8,y9,sN,sD,mP,rfl⟩,c,hgs,YU⟩;refine acK (bx af4 M' (Zj G Q y c hgs ?_) (aV (ahh M' aL6 c.old)));have:=G.len;rw[List.length_range] at YU;omega
universe zE
universe Sb
universe zE
section
namespace Sb
open PySem L2
section
variable {C:Cs} {Y:fE} {o:adu} {M:aY} {B:Bx} {W:Wd} {j:Nat} {ρ:eu}
abbrev okb:amF Kd
 | .ok=>true
 | _=>false
def oy aTw{cB:Addr}aPm aV6 :
  Ce C Y (tP cB C.he C.nt C.rd g0 g1 g2 g3 g4 g5 g6 g7) λ k=>.bl (okb k):=λ M B W o w i x h f S hi hx=>by
 have T:=UY (cB:=cB) (A.all (w:=w) G h f S hi hx);rw[ac2 tP (Wt C Y o M q ajn (λ k=>.bl (okb k)) λ B'=>lN Y aqQ B')];simp only[zC,zD,zE,zF,Nat.zero_add,Nat.reduceAdd,Nat.reduceSub,List.replicate,zG,zH,zI];refine aw6 .bb M rfl;rw[ajW (aH ?_)];show E5 _ _ (G2 [cB,C.nt,C.he,C.rd] 4 5 (Rh g0 g1 g2 g3 g4 g5 g6 g7) (vP w i x .bb) M);rcases T with⟨hk,M',o',B',e,h1,h2,h3⟩ | ⟨hk,e⟩
 ·rw[e];rw[aiy (acK (bx (.bl true) M' rfl (aV (b5 ⟨hk,M',o',B',?_,h1,h2,h3⟩)))) hk];rfl
 ·rw[e];refine acK (bx (.bl false) (M++[MO.exc (Ri C ajn)]) rfl (aV (c6 (aoN hk (Ri C ajn)))));cases ek:ajn with
  | ok=>rw[afZ ek hk]
  | none=>rfl
  | held=>rfl
  | red=>rfl
def Sd.yd(s:aki):ajP:=⟨s.y,s.f,s.S⟩
def Sd.keep(s:aki)aQS(hl:auR)(h1:∀i<M.length,M'[i]? = M[i]?):Sd C Y M' B W o j :=
 ⟨s.y.keep hl λ i hi _=>h1 i hi,s.w.keep λ i _ hi=>h1 i hi,s.f,s.S,s.sep,s.nm⟩
def Zk{gd ga:D1}{v:Kd->PV}aQE aPm aWi(s:aki)aQB aQC aPa(hn:aow n)(hon:o n=.uT)(Zl:¬Wi j n) :
  ∃M1 M2 u1 u2 B' o' j',gd [ο 7,c7 w.s,η i,η x] M=.ok u1 M1/\ga [ο 0,c7 w.s,η i,η x] M1=.ok u2 M2/\Sd C Y M2 B' am7 o' j'/\M2[n]? = M[n]? /\ o' n=.uT/\n<M2.length:=by
 rw[akq L (hd M B W o j w i x s) hf (JW (w:=w) (i:=i) (x:=x) G s.f) Ar (Rm (w:=w) (i:=i) (x:=x) G s.f s.nm hx)]
 by_cases hk:ajn=.ok
 ·have ea:am7=aqQ:=by rw[acP qh hk]
  rw[ea] at hf Ar ⊢;rw[aoh kW L hk L];obtain⟨M1,j',e1,w1,f1,hj⟩:=L;rw[ZI y1 (Wv s.y f1 s.sep) A (ha M1 B W o w i x y1 s.f s.S hi hx)]
  rw[hk] at A;have h1n:M1[n]? = M[n]? := f1.out n (aFf (b5 e)) (aFf (c6 (b5 e))) (aFf (c6 (c6 (b5 e)))) (aFf (c6 (c6 (c6 (b5 e))))) (aFf (c6 (c6 (c6 (c6 e))))) hn;have hn1:n<M1.length:=Nat.lt_of_lt_of_le hn f1.len;rcases A with⟨_,M2,o',B',e2,y2,f2,S2⟩ | ⟨hc,_⟩
  ·rw[ah8 Rn (∀i,Wi j' i->o i=.uT) (aqk (by
    rcases hj with rfl | hj
    ·exact s.sep i hi
    ·rcases hi with e | e | e | e | e
     ·exact s.sep i (b5 e)
     ·exact s.sep i (c6 (b5 e))
     ·exact s.sep i (c6 (c6 (b5 e)))
     ·exact s.sep i (c6 (c6 (c6 (b5 e))))
     ·exact s.y.hi i b6)) ⟨M1,M2,_,_,B',o',j',e1,e2,⟨y2,w1.keep λ i hi hl=>f2.out i hl (Rn i hi),hf,S2,azv,Ar⟩,x6 (f2.out n hn1 hon) h1n,x6 (f2.tag n hn1) hon,Nat.lt_of_lt_of_le hn1 f2.len⟩];rw[Ω (f2.tag i (w1.ad hi)) (Rn i hi)]
  ·rw[ath hc]
 ·have ea:am7=W:=by
   rw[ay6];split
   ·rename_i e;rw[afZ e hk]
   ·rfl
  rw[ea]
  rw[ajG e1 (gd [ο 7,c7 w.s,η i,η x] M=.ok (c7 (UR ajn)) M) (by
   unfold kW at L;cases e:ajn with
   | ok=>rw[afZ e hk]
   | none=>rw[azG]
   | held=>rw[azG]
   | red=>rw[azG]) A (ha M B W o w i x s.y s.f s.S hi hx)];rcases A with⟨hc,_⟩ | ⟨_,c,e2⟩
  ·rw[afZ hc hk]
  ·refine⟨M,_,_,_,B,_,j,e1,e2,s.push (L6 c),aNu,?_,by rw[aEL]⟩;rw[ahc dt aKz hon]
abbrev AK:aoK Bool PV:=abf b (jL b)
structure BS aPH(d:amH):Prop where
 at':∀p b,b7 (aJ d p) b->aln/\ao5/\aFO/\axj p = akj b
def Vk(d:amH):((aix).map azN)=d.map (alI q (akz q)):=by
 rw[aFw]
abbrev pP aPx aQW(pt:ae6)(y7 y8 y9 sN sD mP:ahL):eu:=[akx .pR,arn,f7 atf,aKE,f9,t8,ahx pt,y7,y8,y9,sN,sD,mP]
noncomputable abbrev kB aRa(ud ue tm:D1):DS:=(avj (ajM (rn true) (iG c "lock_of" ud ZJ aqr) (dC .bb)) (ajM (rn true) (asG c ue ZJ aqr) (dC .bb)) (eY (ae 11) (ae 12) (iG c "lies" tm ZJ aqr)))
def BA{G:MO}{G':MO}:(M++[G]).set M.length G'=M++[G']:=by
 rw[List.set_append_right _ _ acT,Nat.sub_self];rfl
def RH{P:aiu}aRZ aRO{y7 y8 y9 sN mP:ahL}aRI(y:ajP)
  (q:∀d mP,BS Y W d->aJA 16->P (.nx (pP Y ns akD y7 y8 y9 sN adW mP) (M++[.bB aix]))) :
  P (hG (iL (ae 6)) (gN 12) (kB C.yd ud ue tm) (pP Y ns akD y7 y8 y9 sN adW mP) (M++[.bB []])):=by
 rw[aeC IK G.g.qi IJ (agS akD 16) (aiH (List.length_filter_le _ _) (by rw[aLQ IK]))];generalize qk:akD=pt at IJ q ⊢;refine fS (ay2 p p) (azT d (∃mP,ρ=pP Y ns pt y7 y8 y9 sN adW mP) (M'=M++[.bB aix]/\BS Y W d/\aO8)) pt none _ rfl trivial (ad8 [] acV ⟨agG p b (by cases h)⟩ acT) ?_ ?_
 ·rintro pre p post hx ρ M' ⟨d,⟨mP,rfl⟩,rfl,hd,hl⟩;refine ad5 (pP Y ns pt y7 y8 y9 sN adW aia) ?_
  have hm:p∈akD:=by rw[qk,hx];simp
  rw[aq4 TU GG aH6 TU (List.mem_range.mp TU)]
  rw[ajG sV (pre.length<16) (by
   have:=az9 hx;rw[List.length_append,zE] at this;omega) y' (y.app [.bB aix])]
  rw[ai3 g1 (iG C.yd "lock_of" ud ZJ aqr (pP Y ns pt y7 y8 y9 sN adW aia) (M++[.bB aix])=.ok (ail (apw p)) (M++[.bB aix])) (by
   rw[y'.y.met (d:=ZJ) (ds:=[ae 12]) (xs:=[η p]) rfl yq rfl,Q.lk _ B W o p y' TU]) g2 (iG C.yd "train_in" ue ZJ aqr (pP Y ns pt y7 y8 y9 sN adW aia) (M++[.bB aix])=.ok (fz (aob p)) (M++[.bB aix])) (by
   rw[y'.y.met (d:=ZJ) (ds:=[ae 12]) (xs:=[η p]) rfl sq rfl,Q.ti _ B W o p y' TU]) (ayy amc (M++[.bB aix]) (λ hk=>afX (aEU d acV hd (by rw[aEL]))))]
  ·rw[vF,bI,aD,g1];unfold mh;cases apw p with
   | some r=>rfl
   | none =>
    show((iG C.yd "train_in" ue ZJ aqr (pP Y ns pt y7 y8 y9 sN adW aia) (M++[.bB aix])).bind _).bind _=_;rw[g2];cases aKm p<;>rfl
  ·obtain⟨b,hb⟩:=y.pt TU GG
   rw[ai3 g3 (iG C.yd "lies" tm ZJ aqr (pP Y ns pt y7 y8 y9 sN adW aia) (M++[.bB aix])=.ok (jL b) (M++[.bB aix])) (by
    rw[y'.y.met (d:=ZJ) (ds:=[ae 12]) (xs:=[η p]) rfl Fh rfl,Q.ly _ B W o p b y' TU GG hb]) hz (aAA (M++ant aix) .bB aix) Ξ (fq (jL b) _ aes _ (η p) _ (M++[.bB (afh AK (cv d p b))]) g3 rfl rfl ?_ (aEU (cv d p b) acV ⟨IL p' b' h⟩ ?_))]
   ·rw[awZ hz p (by rw[Ω pA (Nat.lt_of_le_of_lt hl (aNM sV))]),BA]
    congr 4
    exact pz AK p b d
   ·rw[ajR eB];split at h
    ·rename_i e;cases h;rw[ae2 e ⟨TU,GG,hk,hb⟩]
    ·exact hd.at' p' b' h
   ·have:=HV d p b;rw[aIb];omega
 ·rintro ρ' M' ⟨d,⟨mP,rfl⟩,rfl,hd,hl⟩;exact q d mP hd (Nat.le_trans hl IJ)
def Vl aRZ aPa{d:amH}aSr(Q:aqG)(y:Yd C Y M B W' o)(hn:af2 M n .bB aix)(hon:o n=.uT)(hd:BS Y W d)(hl:aJA 16)(acz:∀p,aFO->W'.points[p]? = axj p)(h4:aj7 4 f9)(h11:aj7 11 aqt) :
  nv (dP (av vw [(tM (oY (ae 11)) (cg false (ahp (some 4) (some 11)) (oY (ae 11)) (gN 0) sI (acW (iG C.yd "lies" tm b9 aiV) aF2)))])) ρ M=.ok false M:=by
 rw[aev hi (keys_eq (ρ:=ρ) (d:=ae 11) hn (anE h11)) Vk hi];rw[m4,eG,HS (bs:=d.map ah9) (M':=M)]
 ·rw[ag,vO,ag]
  congr 1
  simp
 rw[anl (LY hn hi ?_) hz (af2 (adw n .jd aix) n .jd aix) (get_set hn) y2 (Yd C Y (adw n .jd aix) B W' o) (y.keep (by rw[axf acT]) λ i hi dz=>ar (aBm (by rw[abd e hon])))];generalize adw n .jd aix=M2 at hi hz y2 ⊢;refine uR (λ q:Nat×Bool=>PV.int (akz q)) ah9 (λ ρ=>∃z,ρ=[z,f9,aqt]) hi hz (aiS none) (aoj q hq) (adP hl)
 ·simp[wC,h4,h11]
 rw[aiK z hρ]
 refine ahh _ acV ?_;have hk:aKt q.1:=(aEJ q.1).mp (ahg q hq);rw[auz b hb hk];obtain⟨h1,h2,h3,h5⟩:=hd.at' q.1 b hb
 rw[akT (([z,f9,aqt]:eu).set 0 al6=[al6,f9,aqt]),aD,
  y2.y.met (d:=b9) (ds:=[b8]) (xs:=[η q.1]) rfl Fh rfl,Q.ly M2 B W' o q.1 b y2 h1 h2 (by rw[Ω (acz _ h3) h5]),ag]
 have e3:amP c9 b8 [al6,f9,aqt] M2=.ok (jL b) M2:=by
  rw[aqj (aK (ο n) (η q.1) M2=_) (Fz hz (k:=aj0 q.1) rfl (by rw[eZ,hb]; rfl))]
 rw[e3,ag,WC]
universe zE
universe Sb
universe zE
end
mutual
section
namespace Sb
open PySem L2
section
variable {C:Cs} {Y:fE} {o:adu} {M:aY} {B:Bx} {W:Wd} {j:Nat} {ρ:eu}
def afO aPg:nq false (η 2) (η k) M=.ok (η (2*k)) M:=Py (by rw[acR (kT d7 d7)])
def afP{a b c:Nat}{x y z:PV}:gT 3 (dA (gN a) (dA (gN b) (aqo c))) (sT [x,y,z]) ρ=ac1 ((ρ.set a aeU).set b aoG).set c (some z):=rfl
def Vm aPn(hl:aDV 90)aSE:av (jO false) [(aJh (ae k))] ρ M=.ok (ς (aIs q q.1)) M:=by
 have e:=h.ix (ρ:=ρ) (d:=ae k) (anE hk) fL;rw[aZ,ax,e];rw[alM aM];rw[ani jO (eD h.zb)];rw[FA,bM (by rw[aqg hl])]
def Vn aPn(hl:aAd)aSE:av (jO false) [(t6 (ae k) (dC (c7 "falls")))] ρ M=.ok aGJ M:=by
 have e:=h.ix (ρ:=ρ) (d:=ae k) (anE hk) mf;rw[aZ,ax,e];rw[alM aM];rw[ani jO (eD h.w9)];rw[JS,bM (by rw[ae0 zK zK (adP hl)])]
abbrev acA aPd:Prop:=∀Y M,aaD->M.length=6->g [ahf,atf,ayk] M=.ok (ο 7) (M++HN Y)
def acB aUX:acA (uC gr):=λ Y M G h6=>q8 hr G h6
abbrev acC aPQ aPd:Prop:=∀M B W o,ajP->alv->awQ->∃M',g [ο 0,ahf,ς (aIs q q.1),aGJ] M=.ok af4 M'/\auR/\∀i<M.length,M'[i]? = M[i]?
abbrev acD aPQ aPh:Prop:=∃B W o j,aki/\alv
def Zm(IK:aqf)(h1:aj7 1 arn):cg false asX ayU (gN 0) (ata (ak8 (ay aK b9 b8)) aq6) b8 ρ M=.ok (cO akD) M:=by
 rw[cc (xs:=aHN) (w:=none) (M':=M) (aiJ (afN k) k) (bH Y.ps) (aiJ (afN k) k) (ahW [y,arn]) (atw (by rw[aZ,ax,aA,h1]; show bU [ahf] M=_; simp[bU])) trivial ⟨none,afr wC h1⟩ (aoj p hp) (uE b6)]
 ·rw[cN (by rw[alb (aiH (List.length_filter_le _ _) (by rw[akB List.length_range]))])]
 ·rw[aiK y hρ];refine⟨_,rfl,acV,?_,anm⟩;rw[bI,aD,aD,aD];show(anL (anL (agF ahf p).bind (aK x (η 0) M1)).bind (dW false x ap1 M1)).bind _=_;rw[sM aN6,ag,RD,ag];rfl
def fY{gp gs gm gin gnw gde ue ud tm gd ga gsf zg Cg:D1}{v:Kd->PV}aQW(hp:Ls gp)(hs:Lu gs)(hm:aCH)(EN:Ru C.yd gin)(hnw:acA gnw)(hde:∀Y,aaD->Ry C Y gde)(hQ:∀Y,aaD->aqG)
  (hd:∀Y,aaD->HM C Y gd)(ha:∀Y,aaD->Ce C Y ga v)(hsf:∀Y,aaD->acC C Y gsf):∃M',tT C.yd gp gs gm gin gnw gde ue ud tm gd ga gsf [.pR ns] []=.ok af4 M':=by
 obtain⟨ps,hgp,ep⟩:=hp ns 0 [];obtain⟨ss,hg,es⟩:=hs ns 40 ps [] hgp;rw[ZI Gu hg.qi hss hg.zy];rw[d6 hw0 (0≤arE%4) (Int.emod_nonneg _ d7) G (bE ⟨ps,ss,aiB,arE%4⟩) (ad5 hg hw0)];rw[ZI ei (EN ps ss (arE%4) [] hg) en (hnw ⟨ps,ss,aiB,arE%4⟩ (og C.yd 0 ps ss aiB (arE%4)) G rfl)]
 have S0:acD C ⟨ps,ss,aiB,arE%4⟩ (og C.yd 0 ps ss aiB (arE%4)++HN ⟨ps,ss,aiB,arE%4⟩):=⟨_,_,_,_,start (C:=C) G,p0⟩;rw[ake tT (∃M',r=.ok af4 M')];simp only[zC,zD,zE,zF,Nat.zero_add,Nat.reduceAdd,Nat.reduceSub,List.replicate,zG,zH];rw[ag1 agm [] (f6 ep)];rw[akp aiP [] (f6 es)]
 rw[akp (η (arE%4)) [] (afr (hm ns 39 []) sA)]
 rw[adk];generalize arE%4=wait at ei en G S0 ⊢;rw[ag1 (ο 0) (og C.yd 0 ps ss aiB wait) ?_]
 ·unfold u0;simp only[ax,aM,aZ,aA,zB,zA,ag];rw[avq (lE false [agm] ([]:aY)) (.ok agm []) (by simp[lE];exact cN (by rw[afo])),ag,avq (lE false [aiP] ([]:aY)) (.ok aiP []) (by simp[lE];exact cN (by rw[afo]))]
  simp only[ag];rw[ei,ag];rfl
 rw[akp (ο 7) (og C.yd 0 ps ss aiB wait++HN ⟨ps,ss,aiB,wait⟩) ?_]
 ·simp only[ax,aM,aZ,aA,zB,zA,ag];exact en
 clear ei en;generalize og C.yd 0 ps ss aiB wait++HN ⟨ps,ss,aiB,wait⟩=M0 at S0 ⊢;obtain⟨Y,hY⟩:∃Y:fE,Y=⟨ps,ss,aiB,wait⟩:=acV;rw[← hY] at G S0
 rw[ajS eps (ps=Y.ps) (agB hY) ess ss Y.ss (agB hY)]
 have ewt:wait=Y.wait:=agB hY
 subst eps ess ewt;have IK:aqf:=Gu;rw[akp (cO akD) M0 (Zm IK rfl)];show apW _ (aG _ _ (pP Y ns akD none none none none none none) M0);have Q:=hQ Y G;rw[apF n hn1 OR (xn (N:=kL ns 38) (m:=31) d7) hi (xQ [(ay cC (av gm (ahb (Θ 38))) (Θ 31))] (pP Y ns akD none none none none none none) M0=awT .ok (aod).map M0) (atw (by unfold pP; simp[hm ns 38 M0,sA,hn1]))];rw[aqW (xQ [(ay cC (av gm (ahb (Θ 38))) (Θ 31))]) di hi (aH (fS (aiJ (afN k) k) (ak6 ((∃y7 y8 y9 sN sD mP,ρ=pP Y ns akD y7 y8 y9 sN sD mP)/\acD C Y M')) aod none M0 hi trivial ⟨⟨_,_,_,_,_,_,rfl⟩,S0⟩ ?_ ?_))]
 ·rintro pre k post hx ρ M ⟨⟨y7,y8,y9,sN,sD,mP,rfl⟩,B,W,o,j,s,hP⟩;refine ad5 (pP Y ns akD agO y8 y9 sN sD mP) ?_;obtain⟨d,hd1,ed⟩:=hde Y G M B W o j ns (60+2*ao9) s;obtain⟨w,i,x⟩:=d;rw[avh Ps aik hd1.1 Sr ahI hd1.2 (G6 (jl (w,i,x)) (pP Y ns akD agO aoB akd x9 sD mP) M ?_ afP ac4)]
  ·unfold pP;simp only[aZ,ax,aM,aD,aA,bA,zB,zA,ag,afO,wx,ed]
  rw[ag1 aes (M++[.bB []]) rfl]
  show axJ _ _ (aG _ _ (pP Y ns akD agO aoB akd x9 adW mP) (M++arF));rw[ave ?_ (RH G Q s.yd (acI d mP hbs YU))];rw[anl ac4 s1 (Sd C Y (M++[.bB aix]) B W o j) (s.keep (by rw[aEL]) (aqk aDP)) Zl (¬Wi j M.length) (λ h=>by rw[ae9 (s.w.ad h)])]
  obtain⟨M1,M2,u1,u2,B',o',j',e1,e2,s2,OR,KI,O8⟩:=Zk (w:=w) (i:=i) (x:=x) G (hd Y G) (ha Y G) s1 Ps Sr (n:=M.length) Ξ (s.y.hi _ acT) Zl
  have xA:aAA M2 .bB aix:=by rw[agb OR]
  rw[aqW (M++ant aix) Ma e1 (aH (api u1 M1 (aqn (anA u2 M2 ?_))))]
  ·unfold pP;simp only[aZ,ax,aM,aA,zB,zA,ag,e1]
  ·unfold pP;simp only[aZ,ax,aM,aA,zB,zA,ag,e2]
  rw[ahU hP2 (amk am7) (ack G s.f hP s.S.pn) (pO M2 (Vl (W:=W) Q s2.yd xA KI hbs YU (ahT (J2 hp)) rfl rfl) arC)];generalize am7=W2 at s2 hP2;obtain⟨M3,e3,hl3,ho3⟩:=hsf Y G M2 B' W2 o' s2.yd hP2 s2.nm;rw[axr K2 (Wq G s2.f.I) et (Vm (ρ:=pP Y ns akD agO aoB akd x9 adW mP) (k:=5) s2.w (tok G s2.f.I).tl rfl) ef (Vn (ρ:=pP Y ns akD agO aoB akd x9 adW mP) (k:=5) s2.w K2.fl rfl) (pO M3 ?_ (afX (afR ⟨⟨_,_,_,_,_,_,rfl⟩,B',W2,o',j',s2.keep hl3 ho3,hP2⟩)))];generalize av (jO false) [(aJh aeJ)]=d1 at et ⊢;generalize av (jO false) [(t6 aeJ (dC (c7 "falls")))]=d2 at ef ⊢;rw[m4,eG,aZ,ax,show ae 4 (pP Y ns akD agO aoB akd x9 adW mP) M2=.ok (ο 0) M2 from rfl,ag,ax,show ae 1 (pP Y ns akD agO aoB akd x9 adW mP) M2=.ok ahf M2 from rfl,ag,ax,et,ag,ax,ef,ag,aM]
  rw[ako ag e3]
  rfl
 ·rintro ρ' M' ⟨⟨y7,y8,y9,sN,sD,mP,rfl⟩,_⟩;exact acK (bx (.bl true) M' rfl (aV acV))
universe zE
universe Sb
universe zE
section
namespace Rw
open PySem L2 Sb PySem.W
structure Top aTf(cK yy lY bQ rK iW bW aF:Addr):Prop where
 kM:auf "BadYard" cK
 FJ:auf "Held" lY
 lu:auf "NotThere" bQ
 L3:auf "Red" rK
 yz:Catch K mg "BoxError" yy [cK,bQ,lY,rK]
 dif:Dif cK bQ lY rK
 p5:mx K iW "near"
 xp:mx K iW "until"
 jC:mx K bW "ahead"
 kj:mx K bW "is_out"
 eQ:mx K bW "steps"
 ic:aqE "falls"
 mi:aqE "found"
 fV:aqE "greens"
 mj:aqE "locks"
 ml:aqE "lying"
 iq:aqE "pieces"
 kl:aqE "signals"
 mm:aqE "ticks"
 fW:aqE "trains"
 ug:aqE "wait"
 HW:ap3 "all"
 WE:ap3 "any"
 uh:ap3 "enumerate"
 L4:ap3 "int"
 fj:ap3 "len"
 lx:ap3 "list"
 acE:ap3 "max"
 WG:ap3 "min"
 m5:ap3 "range"
 Kb:ap3 "reversed"
 Vo:ap3 "tuple"
 xq:∃t:Tok,mg "LAST_JOINT" = ac1 η 999 t
 vc:∃t:Tok,mg "MOST_PIECES" = ac1 η 16 t
 ui:∃t:Tok,mg "MOST_SIGNALS" = ac1 η 16 t
 HX:acQ "joints_of" jT au8
 HY:acQ "pieces_at" iU aJw
 Ci:acQ "piece_beyond" gv aE2
 HZ:acQ "is_border" lz aE2
 FK:acQ "joints_out" iX aJG
 Ia:acQ "is_points" lA au8
 NF:acQ "lie_for" om aKH
 FL:acQ "check_yard" ko axl
 Cj:acQ "check_pieces" iz ["pieces"]
 Ck:acQ "check_joints" iA (aEa "joints")
 zM:acQ "check_signals" gX axl
 RI:acQ "routes" ql axl
 Eo:acQ "ways_on" qm ["pieces","signals","way","joint","piece"]
 FN:D0 K mg "Train" bW "Train.__init__" kq axU
 Cm:acQ "pieces_under" gx aKb
 RJ:acQ "turned" qo as2
 Ib:D0 K mg "Yard" aF "Yard.__init__" jU aFq
 Ic:wF K aF "ways" "Yard.ways" jV axU
 Cn:wF K aF "lock_of" "Yard.lock_of" lR ava
 zN:wF K aF "train_in" "Yard.train_in" kX ava
 Ie:wF K aF "lies" "Yard.lies" pQ ava
 zO:wF K aF "is_green" "Yard.is_green" kY aMY
 FO:wF K aF "where" "Yard.where" nR aKG
 Ig:D0 K mg "Fall" iW "Fall.__init__" lB aLf
 Ih:aEE "set_route" lC
 RK:aEE "cancel" qp
 Zo:acQ "tick" xB ["yard"]
 Vp:aJv "throw" ur
 RL:asD "unlock" qr "steps"
 Ii:aEE "signal_of" ni
 RM:aEE "way_of" tu
 Co:asD "is_at_border" jW "signal"
 Cp:asD "signal_ahead" iB "train"
 FP:asD "train_near" kr "signal"
 Cq:aJU "train_called" iC
 C9:aEE "check_route" jq
 Dc:aJv "check_piece" jr
 Cr:aJv "check_points" iD
 Ct:asD "check_signal" iF "signal"
 Cu:acQ "is_number_of" lS aK1
 yA:aJv "check_not_held" fX
 Vq:acQ "enter" uu aJY
 afS:aJU "go" L7
 Zp:aJU "draw" xC
 Zq:aJU "turn" vh
 FQ:acQ "route_past" kt aJY
 Dd:acQ "pass_signal" jt aNf
 NG:asD "come_on" oq "train"
 RN:acQ "_law_cell" qt aEv
 Vr:acQ "_law_mix" uv aEv
 Kc:acQ "_law_beyond" jX ["_law_pieces_here","_law_at","_law_joint"]
 Ke:acQ "_law_pieces" iY aON
 Ij:acQ "_law_signals" lD aOS
 RO:acQ "_law_outs" oM aI3
 Ik:acQ "_law_ways" tw ["_law_pieces_here","_law_signals_here","_law_way","_law_at","_law_joint"]
 Kf:acQ "_law_routes" k8 aN8
 Vs:acQ "_law_new" q8 aOQ
 FR:acQ "_law_train_in" gZ auP
 RP:acQ "_law_held" qu auP
 RQ:acQ "_law_free" oN asA
 Vt:acQ "_law_set" ra asA
 RS:acQ "_law_near" qv aIx
 Kg:acQ "_law_cancel" k9 asA
 RT:acQ "_law_tick" qw ["_law_world"]
 NH:acQ "_law_throw" ou auP
 RU:acQ "_law_pass" oO aOU
 NI:acQ "_law_enter" ow aOx
 Zr:acQ "_law_go" xD aAl
 RV:acQ "_law_draw" qx aAl
 RW:acQ "_law_turn" nj aAl
 NJ:acQ "_law_there" ox aEe
 RX:acQ "_law_done" qy aEe
 NK:acQ "_law_asked" oy aOO
 Cv:acQ "_law_near_deeds" gy aIx
 RY:acQ "_law_deed" qz aOH
 Kh:acQ "_law_joined" iZ aOV
 RZ:acQ "_law_safe" jY aOX
section
variable {z:Zn} {cK yy lY bQ rK iW bW aF:Addr} (T:Top z.K z.mg cK yy lY bQ rK iW bW aF)
include T
omit T in theorem FT:abU au8 au8 jT:=je
def xr:aee (k+1) "joints_of" 1 (dN):=hJ.go T.HX FT λ _ _ _ _ _ _ _ hr G=>(agu (ayg (abr (alg (aa 0)))))
omit T in theorem FU:abU aJw aJw iU:=je
omit T in theorem km:afM ["number","piece","joint"]:=adz
def xt aTy:aet "pieces_at" (ig dD):=hJ.go T.HY FU λ _ _ _ _ _ _ _ hr G=>(agu (atq (agQ iU aJw ["number","piece","joint"] (ahp none ahM)) (EX (aa 0) T.uh) (agD (mE (aaN km).calm (cI (aN 0 (aaN km).nd) (cI (aN 1 (aaN km).nd) ky)))) (agD (gC (aO (eL (aaN km).hu) (aa 2) (aE fM hr (aaN km).gg (ac3 1)))))))
omit T in theorem zP:abU ["pieces","number","joint","other"] aE2 gv:=je
def sQ aWW:aee (k+1) "piece_beyond" 3 (iH ka):=hJ.go T.Ci zP λ _ _ _ _ _ _ _ hr G=>(aj8 (ajO (akX lJ 2) (ads 3) (abe (agE (oT G.hu) (aa 3) (aa 1) (ahA (aa 3))))) cR)
omit T in theorem FV:abU aE2 aE2 lz:=je
def FW aUy:aIN (k+1) (mU dE):=hJ.go T.HZ FV λ _ _ _ _ _ _ _ hr G=>(agu (eN mC (ati fN (ac3 2)) cR))
omit T in theorem De:abU aJG aJG iX:=je
omit T in theorem sR:afM ["other","joint"]:=adz
def Df aTy:aet "joints_out" (kb dD):=hJ.go T.FK De λ _ _ _ _ _ _ _ hr G=>(alh (avo (aei 0) (agu (atq (aBz iX aJG ["other","joint"]) (bS (aAU fM 0)) (af3 (aaN sR).nd) (aCE (aaN sR).hu)))) (bf (aO (bN G.hu) (aa 1) (aei 0)) (agu (ajN (af (aei 0) (ak0 0)))) aP) (ajN (ak0 0)))
omit T in theorem FX:abU au8 au8 lA:=je
def FY:aIJ (k+1) 1 (mV):=hJ.go T.Ia FX λ _ _ _ _ _ _ _ hr G=>(agu (eN (bN G.hu) (aei 0) aB))
omit T in theorem Ki:abU aKH aKH om:=je
def Kj(lK:aIJ k 1 kd):aet "lie_for" (pU kd):=hJ.go T.NF Ki λ _ _ _ _ _ _ _ hr G=>(avO (ay4 (ag9 (aAU lK 0)) (jM (aO (eL G.hu) (aei 0) (alg (aa 1)))) (ahA aB)))
omit T in theorem Dg:abU axl axl ko:=je
def Dh(pH:aL9 k 1 oZ)(nL:abH "check_signals" nG):aet "check_yard" (lU oZ nG):=hJ.go T.FL Dg λ _ _ _ _ _ _ _ hr G=>(ajC (bq (aAU pH 0)) (bq (ag5 nL)))
omit T in theorem zQ:abU (aEa "piece") ["pieces"] iz:=je
def zR(pI:abH "check_joints" o4)aTy:aL9 (k+1) 1 (kA cK o4 dD):=hJ.go T.Cj zQ λ _ _ _ _ _ _ _ hr G=>(ap8 (bf (aO (bN G.hu) (aku 0) aq) (abe (PU T.kM hr (af aB aj))) aP) (agE tL (aku 0) aOi (abe (cJ T.kM hr (cD (fw aOi (cD gD)))))) (ajO (aa 0) (ads 1) (ahH (aoo pI (aAU fM 1)))))
omit T in theorem zS:abU ["pieces","joints","joint"] (aEa "joints") iA:=je
def zT aWW:aet "check_joints" (kC cK ka):=hJ.go T.Ck zS λ _ _ _ _ _ _ _ hr G=>(abe (ajO (aa 1) (ads 2) (ap8 (bf (VW.vt (qG (aO xN (aa 2) aq) (nE (aO tL (aa 2) aOj)))) (abe (cJ T.kM hr (cD (fw (aa 2) (cD (fw aOj gD)))))) aP) (agE tL (oU PySem.F.slot_list_count PySem.F.type_list_count (DX G.hu) (aa 1) (ac3 2)) aq (abe (cJ T.kM hr (cD (fw (aa 2) (cD gD)))))) (agE tL (bo br T.fj cj (abr (akX lJ 2))) aq (abe (cJ T.kM hr (cD (fw (aa 2) gD))))))))
omit T in theorem yB:abU ["pieces","signals","joint","number"] axl gX:=je
def yC aTy:aet "check_signals" (jP cK dD):=hJ.go T.zM yB λ _ _ _ _ _ _ _ hr G=>(ajC (agE tL (aku 1) aOk (abe (cJ T.kM hr (cD (fw aOk (cD gD)))))) (ajO (aa 1) (mE G.calm (cI (ads 2) (cI (ads 3) ky))) (ap8 (agE tL (oU PySem.F.slot_list_count PySem.F.type_list_count (DX G.hu) (aa 1) (abr (gz (aky (aa 2) 3)))) aq (abe (cJ T.kM hr (cD (fw (aa 2) (cD (fw (aa 3) gD))))))) (bf (VW.vt (qG (aO xN (aa 3) aq) (nE (aO PC (aa 3) (aku 0))))) (abe (cJ T.kM hr (cD (fw (aa 3) (cD gD))))) aP) (agE aFK (aa 2) (aE fM hr G.gg (abr (ax6 0))) (abe (cJ T.kM hr (cD (fw (aa 3) (cD (fw (aa 2) gD))))))))))
omit T in theorem NL:abU ["pieces","signals","told","number","signal","way"] axl ql:=je
def NM(sE:abH "check_yard" rF)(yD:aIZ k 5 mG):aet "routes" (vy rF mG):=hJ.go T.RI NL λ _ _ _ _ _ _ _ hr G=>(apJ (bq (ag5 sE)) 2 arH (aj8 (apY (EX (aa 1) T.uh) (mE G.calm (cI (ads 3) (aDE 4))) (abe (ajO (ati yD (al2 aqe (aei 4) (ak0 4))) (ads 5) (ahH (oU PySem.F.slot_list_append PySem.F.type_list_append j8 (aa 2) (abr (gz (aky (aa 3) 5)))))))) (xP (aa 2))))
omit T in theorem Cw:abU ["pieces","signals","way","joint","piece","found","out","longer","beyond"] ["pieces","signals","way","joint","piece"] qm:=je
omit T in theorem xu:afM as2:=adz
def Kk(FZ:abH "joints_out" rG)aUy(yD:aIZ k 5 mG):aIZ (k+1) 5 (yV rG dE mG):=hJ.go T.Eo Cw λ _ _ _ _ _ _ _ hr G=>(apJ (agE (eL G.hu) (aa 4) (dS false (agQ qm ["pieces","signals","way","joint","piece","found","out","longer","beyond"] as2 aiw) G.calm (bS (aa 2)) (af3 (aaN xu).nd) (λ _ _ _ _=>eX) (aKq (aaN xu).hu)) (agu aqe)) 5 arH (aj8 (ajO (ayf FZ (abI 0 (aa 4)) 3) (ads 6) (ajw 7 (aho (aa 2) (ajN (abr (gz (as6 (aa 4) (aa 3) 6))))) 8 (aq8 fN (aa 4) (ac3 6)) (abe (bf (aBj (aO mC (aa 8) cR) (nE (aO (eL G.hu) (gz (aky (aa 6) 8)) (aa 1)))) (ahH (oU PySem.F.slot_list_append PySem.F.type_list_append j8 (aa 5) (ac3 7))) (ahH (oU PySem.F.slot_list_extend PySem.F.type_list_extend Jm (aa 5) (abr (ati yD (as6 (aa 7) (aa 6) 8))))))))) (xP (aa 5))))
omit T in theorem Di:abU axU axU kq:=je
def Dk:In z (k+1) "Train" bW 1 (lV bW):=G0.go T.FN Di λ _ _ _ _ _ _ _ hr G=>(ap8 (ala T.eQ arH) (ala T.jC arH) (ala T.kj mw))
omit T in theorem zU:abU aKb aKb gx:=je
omit T in theorem p6:afM as2:=adz
def zV:aIu (k+1) 1 (kD bW):=hJ.go T.Cm zU λ _ _ _ _ _ _ _ hr G=>(agu (dS false (agQ gx aKb as2 aiw) G.calm (bS (af0 T.eQ)) (af3 (aaN p6).nd) (λ _ _ _ _=>eX) (aKq (aaN p6).hu)))
omit T in theorem NN:abU as2 as2 qo:=je
def NO:aee (k+1) "turned" 1 (rE):=hJ.go T.RJ NN λ _ _ _ _ _ _ _ hr G=>(agu (gz (al2 (aei 0) (aei 0) (ak0 0))))
omit T in theorem F0:abU aFq aFq jU:=je
omit T in theorem Cy:afM au8:=adz
def F5(Cz:abH "routes" Bk):In z (k+1) "Yard" aF 4 (qd aF Bk):=G0.go T.Ib F0 λ _ _ _ _ _ _ _ hr G=>(agA (ala T.mi (ayf Cz (aa 1) 2)) (ala T.iq (ayg (ac3 1))) (agA (ala T.kl (ayg (ac3 2))) (ala T.ug (aa 3)) (agA (ala T.mm aq) (ala T.mj pS) (agA (ala T.ml (dS true (agQ jU aFq au8 aiw) G.calm (bS (aa 1)) (af3 (aaN Cy).nd) (λ _ _ _ _=>eX) (λ _ _ _ _=>aB))) (ala T.fV pS) (ajC (ala T.ic pS) (ala T.fW pS))))))
omit T in theorem F6:abU axU axU jV:=je
omit T in theorem pJ:afM ["signal","way"]:=adz
def F7:Me z (k+1) aF "ways" 1 (mY aF):=DZ.go T.Ic F6 λ _ _ _ _ _ _ _ hr G=>(agu (dS true (agQ jV axU ["signal","way"] (aox none)) G.calm (bS (af0 T.mi)) (agD (mE (aaN pJ).calm (cI (aN 0 (aaN pJ).nd) (cI (aN 1 (aaN pJ).nd) ky)))) (λ _ _ _ _=>eX) (agD (gz (af (aa 0) (abr (du (j7 true) T.lx gE (ac3 1))))))))
omit T in theorem zW:abU ava ava lR:=je
def zX aUE:Me z (k+1) aF "lock_of" 2 (kE aF dY):=DZ.go T.Cn zW λ _ _ _ _ _ _ _ hr G=>(aj8 (bq (ag5 fF)) (G1 G.hu aFv (aa 1)))
omit T in theorem yE:abU ["self","piece","name","train"] ava kX:=je
def yF aUE(iO:aIu k 1 gF):Me z (k+1) aF "train_in" 2 (hU aF dY gF):=DZ.go T.zN yE λ _ _ _ _ _ _ _ hr G=>(alh (bq (ag5 fF)) (uz (apY (Bi (af0 T.fW)) (mE G.calm (cI (ads 2) (cI (ads 3) ky))) (abe (agE (eL G.hu) (aa 1) (aAU iO 3) (ahA (aa 2)))))) cR)
omit T in theorem F8:abU ava ava pQ:=je
def F9 aWv:Me z (k+1) aF "lies" 2 (mZ aF gI):=DZ.go T.Ie F8 λ _ _ _ _ _ _ _ hr G=>(aj8 (bq (ag5 iP)) (avx T.ml))
omit T in theorem yG:abU aMY aMY kY:=je
def yH(iQ:abH "check_signal" gK):Me z (k+1) aF "is_green" 2 (jQ aF gK):=DZ.go T.zO yG λ _ _ _ _ _ _ _ hr G=>(aj8 (bq (ag5 iQ)) (avI (aa 1) (af0 T.fV)))
omit T in theorem Dl:abU aKG aKG nR:=je
def Dm(iO:aIu k 1 gF)(cX:aG5):Me z (k+1) aF "where" 2 (lW gF ck):=DZ.go T.FO Dl λ _ _ _ _ _ _ _ hr G=>(agu (aE iO hr G.gg (abr aG6)))
omit T in theorem Ga:abU aLf aLf lB:=je
def Gb:In z (k+1) "Fall" iW 3 (mW iW):=G0.go T.Ig Ga λ _ _ _ _ _ _ _ hr G=>(ajC (ala T.xp (aa 1)) (ala T.p5 (aa 2)))
omit T in theorem Gd:ak1 ["yard","route","way","step"] "route" (au lC):=je
def Ge(jD:abH "check_route" ij)aUO aWl(yI:abH "lie_for" xY)aUH:aet "set_route" (jv aF ij gG fx xY dF):=hJ.go T.Ih Gd λ _ _ _ _ _ _ _ hr G=>(apJ (bq (ag5 jD)) 2 (ag5 jn) (ap8 (ajO (aa 2) (ads 3) (ahH (aE fZ hr G.gg (af (aa 0) (ak0 3))))) (ajO (aa 2) (ads 3) (ajC (akn aFv (aei 3) (aa 1)) (akn (af0 T.ml) (aei 3) (ayf yI (aw G.hu (af0 T.iq) (aei 3)) 3)))) (akn (af0 T.fV) (ag5 fk) (aa 1))))
omit T in theorem NP:ak1 ["yard","route","signal","near"] "route" (au qp):=je
def NQ(jD:aol (k+1) "check_route" ij)(fk:aol (k+1) "signal_of" dF)(sF:aol (k+1) "train_near" rH)aV7(Il:In z k "Fall" iW 3 tN)(jo:aol (k+1) "unlock" gH)(jn:aol (k+1) "way_of" gG):aol (k+2) "cancel" (lj iW bQ aF ij dF rH dG tN gH gG):=hJ.go T.RK NP λ _ _ _ _ _ _ _ hr G=>(apJ (bq (ag5 jD)) 2 (ag5 fk) (agA (agE (oT G.hu) (G1 G.hu (af0 T.fV) (aa 2)) (aa 1) (abe (cJ T.lu hr (cD (fw (aa 1) gD))))) (bq (qM G.hu (af0 T.fV) (aa 2))) (agJ 3 (akX sF 2) (abe (bf (aFd (aO tL (af0 T.ug) aq) (jM (aBj (aO rq (aa 3) cR) (nE (ag9 (akX fc 2)))))) (abe (akn (af0 T.ic) (aa 1) (Lc Il hr G.gg (aky (aho aK9 (af0 T.ug)) 3)))) (ahH (aoo jo (ag5 jn))))))))
omit T in theorem Vu:abU ["yard","route"] ["yard"] xB:=je
def Vv aUP aUO:aee (k+1) "tick" 1 (wJ iW aF gH gG):=hJ.go T.Zo Vu λ _ _ _ _ _ _ _ hr G=>(ajC (ala T.mm (adn (bV false) aK9)) (ajO (du (lh false G.calm) T.lx gE (abr (af0 T.ic))) (ads 1) (abe (bf (aO (bN G.hu) (bw T.xp (avx T.ic)) aK9) (ajC (bq (qM G.hu (af0 T.ic) (aa 1))) (bq (aoo jo (ag5 jn)))) aP))))
omit T in theorem R0:aJz (au ur):=je
def R1 aWv aWl:aet "throw" (oA aF gI fx):=hJ.go T.Vp R0 λ _ _ _ _ _ _ _ hr G=>(ap8 (bq (ag5 iP)) (bq (ag5 fZ)) (akn (af0 T.ml) (aa 1) (yS (alW (avx T.ml) aB) aB aB)))
omit T in theorem NR:ak1 (aBn "steps" "step") "steps" (au qr):=je
def NS:aet "unlock" (ll aF):=hJ.go T.RL NR λ _ _ _ _ _ _ _ hr G=>(abe (ajO (aa 1) (ads 2) (ahH (qM G.hu aFv ajh))))
omit T in theorem Gf:ak1 ["yard","route"] "route" (au ni):=je
def Gg:aet "signal_of" (kR aF):=hJ.go T.Ii Gf λ _ _ _ _ _ _ _ hr G=>(agu (alS (avx T.mi)))
omit T in theorem NT:ak1 ["yard","route"] "route" (au tu):=je
def NU:aet "way_of" (o5 aF):=hJ.go T.RM NT λ _ _ _ _ _ _ _ hr G=>(agu (alS (avx T.mi)))
omit T in theorem zY:ak1 (aBn "signal" "place") "signal" (au jW):=je
def zZ(lL:aIN k ke):aet "is_at_border" (iI aF ke):=hJ.go T.Co zY λ _ _ _ _ _ _ _ hr G=>(agJ 2 (avx T.kl) (agu (aE lL hr G.gg (af aFu (af ajh (ak0 2))))))
omit T in theorem Aa:ak1 ["yard","train","head","place"] "train" (au iB):=je
def Ab aUy:aet "signal_ahead" (kF bW aF dE):=hJ.go T.Cp Aa λ _ _ _ _ _ _ _ hr G=>(ajw 2 (alS (bw T.eQ (aa 1))) 3 (gz (af ajh (abr (aE fN hr G.gg (af aFu (af ajh (ak0 2))))))) (aj8 (agE (eL G.hu) (aa 3) aK8 (agu (oU PySem.F.slot_list_index PySem.F.type_list_index (DY G.hu) aK8 (ac3 3)))) cR))
omit T in theorem Dn:ak1 ["yard","signal","name","train"] "signal" (au kr):=je
def Dp aWw:aet "train_near" (lX aF gJ):=hJ.go T.FP Dn λ _ _ _ _ _ _ _ hr G=>(aj8 (uz (apY (Bi (af0 T.fW)) (mE G.calm (cI (ads 2) (cI (ads 3) ky))) (abe (bf (aO (bN G.hu) (akX iR 3) (aa 1)) (ahA (aa 2)) aP)))) cR)
omit T in theorem Ac:ak1 ["yard","name"] "name" (au iC):=je
def Ad:aet "train_called" (kG bQ aF):=hJ.go T.Cq Ac λ _ _ _ _ _ _ _ hr G=>(aj8 (agE aFK (aa 1) (af0 T.fW) (abe (cJ T.lu hr (cD (fw (aa 1) (cD gD)))))) (avx T.fW))
omit T in theorem CA:ak1 ["yard","route"] "route" (au jq):=je
def CB aUD:aet "check_route" (nH bQ aF dH):=hJ.go T.C9 CA λ _ _ _ _ _ _ _ hr G=>(abe (aou (ag9 (ayf fe (af0 T.mi) 1)) aGb))
omit T in theorem CC:aJz (au jr):=je
def CD aUD:aet "check_piece" (nI bQ aF dH):=hJ.go T.Dc CC λ _ _ _ _ _ _ _ hr G=>(abe (aou (ag9 (ayf fe aFu 1)) aGb))
omit T in theorem Ae:aJz (au iD):=je
def Af aUE(lK:aIJ k 1 kd):aet "check_points" (kH bQ aF dY kd):=hJ.go T.Cr Ae λ _ _ _ _ _ _ _ hr G=>(ajC (bq (ag5 fF)) (aou (ag9 (aE lK hr G.gg (abr (avx T.iq)))) aGb))
omit T in theorem Ag:ak1 ["yard","signal"] "signal" (au iF):=je
def Ah aUD:aet "check_signal" (mH bQ aF dH):=hJ.go T.Ct Ag λ _ _ _ _ _ _ _ hr G=>(abe (aou (ag9 (ayf fe aK8 1)) aGb))
omit T in theorem Ai:abU aK1 aK1 lS:=je
def Aj:aet "is_number_of" cZ:=hJ.go T.Cu Ai λ _ _ _ _ _ _ _ hr G=>(agu (A7 (eN PC (aa 1) aq) (qc (eN xN (aa 1) (aku 0)))))
omit T in theorem xw:aJz (au fX):=je
def xx aWf:aet "check_not_held" (i7 lY aF cH):=hJ.go T.yA xw λ _ _ _ _ _ _ _ hr G=>(ajC (agE (eL G.hu) (aa 1) aFv (abe (cJ T.FJ hr (cD (fw (aa 1) (cD gD)))))) (agE rq (mF gY hr G.gg (aa 0) (ac3 1)) cR (abe (cJ T.FJ hr (cD (fw (aa 1) (cD gD)))))))
omit T in theorem R3:abU ["yard","name","signal","route","train"] aJY uu:=je
def R4(iQ:aol (k+1) "check_signal" gK)aV7(kN:aIC (k+1) i8)(Gh:In z k "Train" bW 1 rJ)(jE:aIy (k+1) ik):aoq (k+2) "enter" (uA lY bQ bW aF gK dG i8 rJ ik):=hJ.go T.Vq R3 λ _ _ _ _ _ _ _ hr G=>(agA (bq (akX iQ 2)) (aou (ag9 (akX fc 2)) (abe (cJ T.lu hr (cD (fw (aa 2) (cD gD)))))) (ai (agE (eL G.hu) (aa 1) (af0 T.fW) (abe (cJ T.FJ hr (cD (fw (aa 1) (cD gD)))))) (ajw 3 (ati kN (ac3 2)) 4 (PX Gh hr G.gg) (ajC (bq (aq8 jE (aa 4) (ac3 3))) (akn (af0 T.fW) (aa 1) (aa 4))))))
omit T in theorem acF:ak1 ["yard","name","train","head"] "name" (au L7):=je
def acG(cX:aG5)(oK:abH "come_on" mI)(lL:aIN k ke)(jE:aIy k ik)(kN:aIC k i8)aWw:aet "go" (E2 rK bW aF ck mI ke ik i8 gJ):=hJ.go T.afS acF λ _ _ _ _ _ _ _ hr G=>(ajw 2 aG6 3 (alS aFe) (ajC (avk aLc (abe (cJ T.L3 hr (cD (fw (aa 1) (cD gD)))))) (bf (ag9 (bw T.jC (aa 2))) (ahH (akX oK 2)) (abe (bf (ag9 (aE lL hr G.gg (af aFu (af (aei 3) (ak0 3))))) (abe (fC T.kj (aa 2) mw)) (ahH (aq8 jE (aa 2) (abr (ati kN (abr (akX iR 2)))))))))))
omit T in theorem Vw:ak1 (aBn "name" "train") "name" (au xC):=je
def Vx(cX:aG5):aet "draw" (wK lY bW aF ck):=hJ.go T.Zp Vw λ _ _ _ _ _ _ _ hr G=>(agJ 2 aG6 (ap8 (ay4 (alW (bo br T.fj cj (abr aFe)) aq) (jM (j5 (ag9 aLc))) (abe (cJ T.FJ hr (cD (fw (aa 1) (cD gD)))))) (bq (X2 PySem.F.slot_list_pop PySem.F.type_list_pop TF aFe)) (bf (aO (bN G.hu) (bo br T.fj cj (abr aFe)) aq) (ahH (qM G.hu (af0 T.fW) (aa 1))) aP)))
omit T in theorem Vy:ak1 ["yard","name","train","fall"] "name" (au vh):=je
omit T in theorem Ep:afM as2:=adz
def Vz(cX:aG5)aUP(CF:aee k "turned" 1 Bl):aet "turn" (wL iW rK bW aF ck gH Bl):=hJ.go T.Zq Vy λ _ _ _ _ _ _ _ hr G=>(agJ 2 aG6 (agA (avk aLc (abe (cJ T.L3 hr (cD (fw (aa 1) (cD gD)))))) (bq (aoo jo (bw T.jC (aa 2)))) (ap8 (fC T.jC (aa 2) arH) (fC T.eQ (aa 2) (dS true (agQ vh ["yard","name","train","fall"] as2 aiw) G.calm (Yi aFe T.Kb) (af3 (aaN Ep).nd) (λ _ _ _ _=>eX) (agD (aE CF hr (aaN Ep).gg (ac3 0))))) (uz (apY (T8 (af0 T.ic)) (ads 3) (abe (bf (aO (bN G.hu) (bw T.p5 (aa 3)) (aa 1)) (abe (fC T.p5 (aa 3) cR)) aP)))))))
omit T in theorem Dq:abU ["yard","name","signal","route","fall"] aJY kt:=je
def Dr(fc:abH "is_at_border" dG)aUH:aIC (k+1) (iJ iW rK aF dG dF):=hJ.go T.FQ Dq λ _ _ _ _ _ _ _ hr G=>(agA (agE mC (aa 2) cR (abe (cJ T.L3 hr (cD (fw (aa 1) gD))))) (agE (eL G.hu) (aa 2) (af0 T.fV) (agu (aw G.hu (af0 T.fV) (aa 2)))) (ajC (uz (apY (Bi (af0 T.ic)) (mE G.calm (cI (ads 3) (aDE 4))) (aAX (j4 (alW (akX fk 3) (aa 2)) (jM (aBj (alW (bw T.p5 (aa 4)) (aa 1)) (nE (ag9 (akX fc 2)))))) (ahA (aa 3))))) (cJ T.L3 hr (cD (fw (aa 1) (cD (fw (aa 2) gD)))))))
omit T in theorem CG:abU aNf aNf jt:=je
def CH aUH aUO(oK:abH "come_on" mI):aIy (k+1) (k6 bW aF dF gG mI):=hJ.go T.Dd CG λ _ _ _ _ _ _ _ hr G=>(agA (bq (Be G.hu (af0 T.fV) (akX fk 2) cR)) (bq (Be G.hu (af0 T.ic) (aa 2) cR)) (ajC (fC T.jC (aa 1) (du (j7 true) T.lx gE (abr (akX jn 2)))) (bq (ag5 oK))))
omit T in theorem Kl:ak1 (aBn "train" "step") "train" (au oq):=je
def Km aUP:aet "come_on" (pV bW gH):=hJ.go T.NG Kl λ _ _ _ _ _ _ _ hr G=>(agJ 2 (oU PySem.F.slot_list_pop PySem.F.type_list_pop MX (bw T.jC (aa 1)) (af aq aj)) (ajC (bq (aoo jo (ajN (ac3 2)))) (bq (oU PySem.F.slot_list_insert PySem.F.type_list_insert Jt (bw T.eQ (aa 1)) (aky aq 2)))))
omit T in theorem NV:abU aEv aEv qt:=je
def NW:aet "_law_cell" rL:=hJ.go T.RN NV λ _ _ _ _ _ _ _ hr G=>(aj8 (avk (aa 0) (agu (abI 0 (bh cS (aa 1) (aku 0))))) aq)
omit T in theorem R5:abU ["_law_script","_law_k","_law_number"] aEv uv:=je
def R6(CI:abH "_law_cell" Bm):aet "_law_mix" (uB Bm):=hJ.go T.Vr R5 λ _ _ _ _ _ _ _ hr G=>(ajw 2 (adn cS (aho (ag5 CI) (bh (nU false) aq aBB))) 2 (adn cS (adn (nU false) (aa 2))) (agu (adn cS (bh (bV false) (adn (nU false) (adn hE (aa 2))) (aa 2)))))
omit T in theorem Im:abU ["_law_pieces_here","_law_at","_law_joint","_law_found"] ["_law_pieces_here","_law_at","_law_joint"] jX:=je
omit T in theorem m8:afM ["_law_k","_law_at","_law_joint","_law_pieces_here"]:=adz
def zh:aHS (k+1) 3 (nY):=hJ.go T.Kc Im λ _ _ _ _ _ _ _ hr G=>(aj8 (j9 false 3 (agQ jX ["_law_pieces_here","_law_at","_law_joint","_law_found"] ["_law_k","_law_at","_law_joint","_law_pieces_here"] [none,ahM,arA,ai9]) G.calm G.nd (kz T.m5 (aES 0)) (af3 (aGQ).nd) (agD (gC (aFd (aO (oT (aGQ).hu) (aa 0) (aa 1)) (jM (aO (eL (aGQ).hu) (aa 2) (alg (aw (aGQ).hu (aa 3) (aa 0)))))))) (λ _ _ _ _=>(aa 0)) aao) (yS (bt (aa 3)) (aei 3) cR))
omit T in theorem Io:abU ["_law_script","_law_base","_law_pieces_here","_law_loose","_law_many","_law_k","_law_number","_law_ends","_law_j","_law_pick","_law_others"] aON iY:=je
omit T in theorem vd:afM aIP:=adz
omit T in theorem ve:afM aOF:=adz
omit T in theorem vf:afM aIP:=adz
def Ip aUK:aet "_law_pieces" (nZ fD):=hJ.go T.Ke Io λ _ _ _ _ _ _ _ hr G=>(ajw 2 arH 3 aqe (alh (aU 4 G.nd aq) (aAZ (abr (aho aq (adn cS (ag5 gR)))) (ads 5) (ajw 6 (aoo gR (aho aBB (aa 5))) 7 arH (apJ (aAZ (abr (aho aq (du rA T.L4 Ax (abr (eN xN (adn cS (aa 6)) aq))))) (ads 8) (agJ 9 (aoo gR (aho (aho aBB (bh (nU false) aq (aa 5))) (aa 8))) (ajC (j9 false 10 (agQ iY ["_law_script","_law_base","_law_pieces_here","_law_loose","_law_many","_law_k","_law_number","_law_ends","_law_j","_law_pick","_law_others"] aIP (akb 7)) G.calm G.nd (bS (aa 3)) (af3 (aaN vd).nd) (agD (gC (aO (rm (aaN vd).hu) (aa 0) (aa 1)))) (λ _ _ _ _=>(aa 0)) aao) (bf (aFd (ag9 (aa 10)) (jM (aO xN (adn cS (aa 9)) (aw G.hu (cb false (aro aq aq aq)) (aa 8))))) (ahH (oU PySem.F.slot_list_append PySem.F.type_list_append j8 (aa 7) (abr (abI 10 (bh cS (adn hE (aa 9)) (bo (DU G.calm) T.WG La (af aq (abr (aku 10))))))))) (ajC (bq (oU PySem.F.slot_list_append PySem.F.type_list_append j8 (aa 7) (abr (adn cS (aho (aoo gR aBB) (bh (nU false) aq (aa 4))))))) (aU 4 G.nd (adn (bV false) (aa 4)))))))) 3 (aho (atq (agQ iY ["_law_script","_law_base","_law_pieces_here","_law_loose","_law_many","_law_k","_law_number","_law_ends","_law_j","_law_pick","_law_others"] aOF (akb 3)) (bS (aa 7)) (af3 (aaN ve).nd) (agD (gC (aO (rm (aaN ve).hu) (aa 0) (aa 1))))) (atq (agQ iY ["_law_script","_law_base","_law_pieces_here","_law_loose","_law_many","_law_k","_law_number","_law_ends","_law_j","_law_pick","_law_others"] aIP (akb 7)) (bS (aa 3)) (af3 (aaN vf).nd) (agD (gC (aO (rm (aaN vf).hu) (aa 0) (aa 1)))))) (ahH (oU PySem.F.slot_list_append PySem.F.type_list_append j8 (aa 2) (abr (aho (gz (abr (aw G.hu (cb false (af aB (af aB aj))) (adn As (aku 7))))) (du GW T.Vo MQ (ac3 7))))))))) (xP (aa 2))))
omit T in theorem Gi:abU ["_law_script","_law_base","_law_pieces_here","_law_found","_law_at","_law_joint","_law_number","_law_border","_law_shift"] aOS lD:=je
def Gj aUK aSS:aMb (k+1) (mX fD cm):=hJ.go T.Ij Gi λ _ _ _ _ _ _ _ hr G=>(agJ 3 arH (apJ (aAZ (aES 2) (ads 4) (abe (apY (Bb (alg (abI 2 (aa 4)))) (ads 5) (ajw 6 (aoo gR (aho (aho (aa 1) (bh (nU false) aq (aa 4))) (aku 3))) 7 (eN mC (aE dM hr G.gg (af (aa 2) (aky (aa 4) 5))) cR) (aAX (qG (alW (adn cS (aa 6)) aq) (nE (aFd (bt (aa 7)) (jM (alW (adn cS (aa 6)) aq))))) (ahH (oU PySem.F.slot_list_append PySem.F.type_list_append j8 (aa 3) (abr (gz (aky (aa 5) 4)))))))))) 8 (bh cS (aoo gR aBB) (aho aq (aku 3))) (agu (j6 false (aho (j6 false (aa 3) (eC (aa 8)) eU) (j6 false (aa 3) eU (eC (aa 8)))) eU (eC aq)))))
omit T in theorem NX:abU aI3 aI3 oM:=je
omit T in theorem zi:afM aOE:=adz
def NY:aet "_law_outs" rN:=hJ.go T.RO NX λ _ _ _ _ _ _ _ hr G=>(aj8 (avo (aei 0) (agu (atq (aBz oM aI3 aOE) (Bb (alg (aa 0))) (af3 (aaN zi).nd) (aCE (aaN zi).hu)))) (yS (alW (aa 1) (aei 0)) (ajN (af (aei 0) (ak0 0))) (ajN (ak0 0))))
omit T in theorem Er:abU ["_law_pieces_here","_law_signals_here","_law_way","_law_at","_law_joint","_law_found","_law_out","_law_here","_law_behind"] ["_law_pieces_here","_law_signals_here","_law_way","_law_at","_law_joint"] tw:=je
omit T in theorem zj:afM aAr:=adz
def NZ(R7:abH "_law_outs" Bn)aSS(CJ:aIK k 5 o6):aIK (k+1) 5 (vz Bn cm o6):=hJ.go T.Ik Er λ _ _ _ _ _ _ _ hr G=>(agJ 5 arH (alh (agE (eL G.hu) (aa 3) (dS false (agQ tw ["_law_pieces_here","_law_signals_here","_law_way","_law_at","_law_joint","_law_found","_law_out","_law_here","_law_behind"] aAr aiw) G.calm (bS (aa 2)) (af3 (aaN zj).nd) (λ _ _ _ _=>eX) (aKq (aaN zj).hu)) (agu (xP (aa 5)))) (ajO (ayf R7 (ax6 0) 4) (ads 6) (ajw 7 (aho (aa 2) (ajN (abr (gz (as6 (aa 3) (aa 4) 6))))) 8 (aq8 dM (aa 3) (ac3 6)) (abe (bf (aBj (aO mC (aa 8) cR) (nE (aO (eL G.hu) (gz (aky (aa 6) 8)) (aa 1)))) (ahH (oU PySem.F.slot_list_append PySem.F.type_list_append j8 (aa 5) (ac3 7))) (aAY 5 (bh (bV true) (aa 5) (ati CJ (as6 (aa 7) (aa 8) 6)))))))) (xP (aa 5))))
omit T in theorem Iq:abU ["_law_pieces_here","_law_signals_here","_law_found","_law_k"] aN8 k8:=je
omit T in theorem Dt:afM ["_law_way","_law_k"]:=adz
def Ir(CJ:aIK k 5 o6):aet "_law_routes" (rO o6):=hJ.go T.Kf Iq λ _ _ _ _ _ _ _ hr G=>(agJ 2 aqe (aj8 (aAZ (aES 1) (ads 3) (aAY 2 (aho (aa 2) (dS false (agQ k8 ["_law_pieces_here","_law_signals_here","_law_found","_law_k"] ["_law_way","_law_k"] (akb 3)) G.calm (bS (ati CJ (axP aqe (alS (ax6 1)) (alS (ax6 1))))) (af3 (aaN Dt).nd) (λ _ _ _ _=>eX) (agD (gz (aky (aa 1) 0))))))) (aa 2)))
omit T in theorem R8:abU aOW aOQ q8:=je
omit T in theorem vR:afM ["_law_piece"]:=adz
def R9(vS:abH "_law_routes" vA):aMG (k+1) (uC vA):=hJ.go T.Vs R8 λ _ _ _ _ _ _ _ hr G=>(apJ (j9 true 3 (agQ q8 aOW ["_law_piece"] aiw) G.calm G.nd (bS (aa 0)) (af3 (aaN vR).nd) (λ _ _ _ _=>eX) (agD (yS (aO (bN (aaN vR).hu) (ax1 (aaN vR).hu) aB) aB cR)) aao) 4 (E1 (jN (aa 0) (jN (aa 1) (jN (aa 2) (jN (aa 3) (jN aqe (jN aq E0))))))) (agA (aBX (ag5 vS)) (aBX (bh (nU true) (ajN (af cR aj)) (aku 0))) (alh (aBX pS) (aBX pS) (aa 4))))
omit T in theorem Du:abU (aEf "_law_at" "_law_found") auP gZ:=je
omit T in theorem fm:afM aM1:=adz
omit T in theorem sS:afM aAr:=adz
def Dv:aet "_law_train_in" lZ:=hJ.go T.FR Du λ _ _ _ _ _ _ _ hr G=>(aj8 (uz (j9 false 2 (agQ gZ (aEf "_law_at" "_law_found") aM1 (ahp ahM ai9)) G.calm G.nd (Az (abI 0 aB)) (af3 (aaN fm).nd) (agD (gC (aO (eL (aaN fm).hu) (aa 1) (dS false (cx.of (sc:=(Jp _ (au gZ))) aM1 aAr aiw rfl (MP anm rfl) adz) (aaN fm).calm (bS (aw (aaN fm).hu (aw (aaN fm).hu (ayp (aaN fm).hu aB) (aa 0)) aq)) (af3 (aC (aaN fm).gg sS).nd) (λ _ _ _ _=>eX) (aKq (aC (aaN fm).gg sS).hu))))) (λ _ _ _ _=>(aa 0)) aao)) (yS (bt (aa 2)) ajh cR))
omit T in theorem N0:abU auP auP qu:=je
def N1(sG:abH "_law_train_in" rR):aet "_law_held" (rQ rR):=hJ.go T.RP N0 λ _ _ _ _ _ _ _ hr G=>(agu (GU (eN rq awD cR) (qc (eN rq (ag5 sG) cR))))
omit T in theorem N2:abU asA asA oN:=je
omit T in theorem zk:afM aNj:=adz
def N3:aet "_law_free" rS:=hJ.go T.RQ N2 λ _ _ _ _ _ _ _ hr G=>(abe (aBW (dS true (aBz oN asA aNj) G.calm (bS (abI 0 aB)) (af3 (aaN zk).nd) (λ _ _ _ _=>eX) (agD (yS (aO (bN (aaN zk).hu) (aa 0) (aa 1)) cR (aa 0))))))
omit T in theorem Sa:abU aO9 asA ra:=je
omit T in theorem vT:afM aNi:=adz
def Se aWX:aet "_law_set" (qN o7):=hJ.go T.Vt Sa λ _ _ _ _ _ _ _ hr G=>(agJ 2 aC6 (agA (avk (bo (D5 G.calm) T.WE Lb (aET (agQ ra aO9 aNi (aox ai9)) (bS (aa 2)) (af3 (aaN vT).nd) (agD (aE qX hr (aaN vT).gg (af (aa 1) (abr (ax1 (aaN vT).hu))))))) (ahA aB)) (ajO (aa 2) (ads 3) (apJ (akn (abI 0 aB) (aei 3) (aa 1)) 4 (an9 0 (aei 3)) (abe (avo (aei 4) (abe (akn (abI 0 aB) (aei 3) (aw G.hu (cb false (af aB (af aB aj))) (du rA T.L4 Ax (abr (avI (aei 4) (alg (aa 3)))))))))))) (avO (aBW (aho (abI 0 aB) (ajN (ac3 1)))))))
omit T in theorem N4:abU ["_law_world","_law_signal","_law_joint","_law_at","_law_found","_law_name","_law_train","_law_head"] aIx qv:=je
def N5:aet "_law_near" rT:=hJ.go T.RS N4 λ _ _ _ _ _ _ _ hr G=>(apJ (A9 awD (mE G.calm (cI (ads 2) (cI (ads 3) ky)))) 4 arH (aj8 (uz (apY (Az (abI 0 aB)) (ads 5) (ajw 6 (an9 0 (aa 5)) 7 (alS aCM) (aAX (j4 (alW aCM aqe) (j4 (j5 (ag9 aCM)) (j4 (alW (aei 7) (aa 2)) (jM (aO (oT G.hu) (aei 7) (aa 3)))))) (ahH (oU PySem.F.slot_list_append PySem.F.type_list_append j8 (aa 4) (ac3 5))))))) (xP (aa 4))))
omit T in theorem Iu:abU ["_law_world","_law_route","_law_joint","_law_at","_law_names","_law_border"] asA k9:=je
omit T in theorem vg:afM aID:=adz
def Iv aWY aSS aWZ:aet "_law_cancel" (kI o8 cm o9):=hJ.go T.Kg Iu λ _ _ _ _ _ _ _ hr G=>(agA (agE aFK (aa 1) (abI 0 aB) (ahA aB)) (aBW (atq (aBz k9 ["_law_world","_law_route","_law_joint","_law_at","_law_names","_law_border"] aID) (bS (abI 0 aB)) (af3 (aaN vg).nd) (aCE (aaN vg).hu))) (ai (A9 (an9 0 aC6) (mE G.calm (cI (ads 2) (cI (ads 3) ky)))) (ajw 4 (aoo qY aC6) 5 (eN mC (aE dM hr G.gg (af (abI 0 aB) (aky (aa 3) 2))) cR) (avO (bf (aFd (aO tL (abI 0 aB) aq) (jM (aBj (bt (aa 4)) (nE (bt (aa 5)))))) (abe (avy (gz (as6 (bh (bV false) (abI 0 aB) (abI 0 aB)) (aa 4) 5)))) (ahH (ag5 qZ)))))))
omit T in theorem N6:abU asA ["_law_world"] qw:=je
def N7 aWZ:aMy (k+1) 1 (rV o9):=hJ.go T.RT N6 λ _ _ _ _ _ _ _ hr G=>(alh (aBW (adn (bV false) (abI 0 aB))) (ajO (az2 0) (ads 1) (abe (agE PB aC6 (abI 0 aB) (ajC (bq (qM G.hu (abI 0 aB) (aa 1))) (bq (ag5 qZ)))))) aB)
omit T in theorem Kn:abU auP auP ou:=je
def Ko aWX:aet "_law_throw" (lF o7):=hJ.go T.NH Kn λ _ _ _ _ _ _ _ hr G=>(agA (avo aC6 (ahA aB)) (avk (ag5 qX) (ahA aB)) (avO (avy (aw G.hu (E1 (jN aB (jN aB E0))) awD))))
omit T in theorem N8:abU aOY aOU oO:=je
omit T in theorem zm:afM aID:=adz
def N9:aIO (k+1) (pb):=hJ.go T.RU N8 λ _ _ _ _ _ _ _ hr G=>(aj8 (ajO (aho (abI 0 aB) (az2 0)) (ads 3) (abe (bf (aO (bN G.hu) (alS (an9 0 (aa 3))) (aa 1)) (agJ 4 (wG G.hu (abI 0 aB) (aa 3) (gz (aro aq (ajN (ac3 2)) mw))) (aAX (qG (bt (aei 4)) (nE (aO (eL G.hu) (aa 2) (aei 4)))) (agA (aBW (atq (agQ oO aOY aID (akb 3)) (bS (abI 0 aB)) (af3 (aaN zm).nd) (aCE (aaN zm).hu))) (bq (Be G.hu (abI 0 aB) (aa 3) cR)) (agJ 5 (ayg (abr (alS (an9 0 (aa 3))))) (aj8 (akn (abI 0 aB) (alS (aei 5)) cR) (aa 5)))))) aP))) cR)
omit T in theorem Kp:abU ["_law_world","_law_name","_law_signal","_law_joint","_law_at","_law_way"] aOx ow:=je
def Kq aSS(q0:aIO k pd):aMq (k+1) (pW cm pd):=hJ.go T.NI Kp λ _ _ _ _ _ _ _ hr G=>(agA (A9 (an9 0 (aa 2)) (mE G.calm (cI (ads 3) (aDE 4)))) (agE rq (aE dM hr G.gg (af (abI 0 aB) (aky (aa 4) 3))) cR (ahA aB)) (apJ (agE (eL G.hu) (aa 1) (abI 0 aB) (ahA aB)) 5 (aq8 q0 (aa 2) (ac3 1)) (alh (agE mC (aa 5) cR (ahA aB)) (avy (ajN (aro (j6 false (aa 5) eU (eC aq)) (alg (aa 5)) mw))) aB)))
omit T in theorem VB:abU ["_law_world","_law_name","_law_train","_law_head","_law_at","_law_way"] aAl xD:=je
def VC aSS(q0:aIO k pd):aet "_law_go" (wM cm pd):=hJ.go T.Zr VB λ _ _ _ _ _ _ _ hr G=>(ajw 2 awD 3 (alS ajh) (agA (avk ajh (ahA aB)) (agE (oT G.hu) ajh aqe (alh (akn (abI 0 aB) (alS (alS ajh)) cR) (avy (ajN (aro (aho (j6 false ajh eU (eC aq)) ajh) (alg ajh) mw))) aB)) (agJ 4 (aE dM hr G.gg (af (abI 0 aB) (af (aei 3) (ak0 3)))) (agA (agE mC (aa 4) cR (avO (avy (ajN (aro ajh aqe mw))))) (aU 5 G.nd cR) (agA (agE (eL G.hu) (gz (aky (aei 3) 4)) (abI 0 aB) (aAY 5 (aq8 q0 (oU PySem.F.slot_list_index PySem.F.type_list_index (DY G.hu) (abI 0 aB) (abr (gz (aky (aei 3) 4)))) (ac3 1)))) (agE mC (aa 5) cR (ahA aB)) (avO (avy (ajN (aro (aho (j6 false (aa 5) eU (eC aq)) ajh) (alg (aa 5)) mw)))))))))
omit T in theorem Oa:abU (aEf "_law_name" "_law_train") aAl qx:=je
def Ob:aet "_law_draw" rW:=hJ.go T.RV Oa λ _ _ _ _ _ _ _ hr G=>(agJ 2 awD (agA (ay4 (alW (bo br T.fj cj (ak0 2)) aq) (jM (j5 (bt ajh))) (ahA aB)) (avy (ajN (al2 (j6 false ajh eU (eC aCJ)) ajh (ak0 2)))) (avO (bf (aO (bN G.hu) (bo br T.fj cj (ak0 2)) aq) (ahH (qM G.hu (abI 0 aB) (aa 1))) aP))))
omit T in theorem Oc:abU aKI aAl nj:=je
omit T in theorem p7:afM aAr:=adz
omit T in theorem zo:afM aOP:=adz
def Od:aet "_law_turn" rX:=hJ.go T.RW Oc λ _ _ _ _ _ _ _ hr G=>(agJ 2 awD (agA (avk ajh (ahA aB)) (ajO ajh (ads 3) (abe (akn (abI 0 aB) (aei 3) cR))) (agA (j9 false 4 (agQ nj aKI aAr aiw) G.calm G.nd (bS (Ua false ajh (eC aCJ))) (af3 (aGR).nd) (λ _ _ _ _=>eX) (agD (gz (axP (ax1 (aGR).hu) (ax1 (aGR).hu) (ax1 (aGR).hu)))) aao) (avy (ajN (aro (aa 4) aqe mw))) (avO (ajO (az2 0) (ads 5) (agJ 6 (an9 0 (aa 5)) (abe (akn (abI 0 aB) (aa 5) (gz (al2 aCM (atq (aBz nj aKI aOP) (bS aCM) (af3 (aaN zo).nd) (aCE (aaN zo).hu)) (ak0 6)))))))))))
omit T in theorem Kr:abU ["_law_world","_law_word","_law_number","_law_name","_law_many"] aEe ox:=je
def Ks:aMn (k+1) 4 (tO):=hJ.go T.NJ Kr λ _ _ _ _ _ _ _ hr G=>(agJ 4 (E1 (jN aCT (jN aCT (jN aCT E0)))) (alh (aBX aCT) (agE (eL G.hu) (aa 1) (aa 4) (agu (PH PB xN aq (aa 2) (abI 4 (aa 1))))) (GU (eN (bN G.hu) (aa 1) aB) (qc (avI (aa 3) (abI 0 aB))))))
omit T in theorem Oe:abU aEe aEe qy:=je
def Of(yJ:aMn k 4 xZ)(Gk:abH "_law_set" E3)(vU:abH "_law_cancel" vB)(yK:abH "_law_throw" ya)(yL:aMq k yb)(CK:aMy k 1 Bo)(Kt:abH "_law_go" Ju)(CL:abH "_law_draw" Bp)(CM:abH "_law_turn" Bq):aMz (k+1) 4 (rY xZ E3 vB ya yb Bo Ju Bp Bq):=hJ.go T.RX Oe λ _ _ _ _ _ _ _ hr G=>(agA (aou (ag9 (ati yJ (aky (aa 2) 3))) (ahA aB)) (aDD Gk 2) (agA (aDD vU 2) (aDD yK 2) (agA (avo (aa 1) (agu (aq8 yL (aa 3) (ac3 2)))) (avo (aa 1) (agu (aAU CK 0))) (alh (aDD Kt 3) (aDD CL 3) (akX CM 3)))))
omit T in theorem Ku:abU ["_law_yard","_law_word","_law_number","_law_name","_law_kept","e"] aOO oy:=je
def Kv(uj:abH "set_route" ny)(CN:abH "cancel" tQ)(Gm:abH "throw" wN)(Gn:aoq k "enter" wO)(Kw:aee k "tick" 1 Br)(Zs:abH "go" Qh)(Kx:abH "draw" Bs)(Ky:abH "turn" Bt):aMo (k+1) 4 (tP cK lY bQ rK ny tQ wN wO Br Qh Bs Bt):=hJ.go T.NK Ku λ _ _ _ _ _ _ _ hr G=>(alh (aU 4 G.nd cR) (Ye 4 5 G.gg T.yz (λ pn Et Ex Gt=>(abe (bf (aO (bN Gt.hu) (aa 1) aB) (ahH (aE uj hr Gt (af (aa 0) (ac3 2)))) (abe (bf (aO (bN Gt.hu) (aa 1) aB) (ahH (aE CN hr Gt (af (aa 0) (ac3 2)))) (abe (bf (aO (bN Gt.hu) (aa 1) aB) (ahH (aE Gm hr Gt (af (aa 0) (ac3 2)))) (abe (bf (aO (bN Gt.hu) (aa 1) aB) (ahH (aE Gn hr Gt (af (aa 0) (aky (aa 3) 2)))) (abe (bf (aO (bN Gt.hu) (aa 1) aB) (ahH (aE Kw hr Gt (ac3 0))) (abe (bf (aO (bN Gt.hu) (aa 1) aB) (ahH (aE Zs hr Gt (af (aa 0) (ac3 3)))) (abe (bf (aO (bN Gt.hu) (aa 1) aB) (ahH (aE Kx hr Gt (af (aa 0) (ac3 3)))) (ahH (aE Ky hr Gt (af (aa 0) (ac3 3)))))))))))))))))))) (eN mC (aa 4) cR))
omit T in theorem Ak:abU ["_law_world","_law_signal","_law_joint","_law_at"] aIx gy:=je
omit T in theorem xy:afM ["_law_name"]:=adz
def Al aSS aWY:aet "_law_near_deeds" (kJ cm o8):=hJ.go T.Cv Ak λ _ _ _ _ _ _ _ hr G=>(alh (A9 awD (mE G.calm (cI (ads 2) (cI (ads 3) ky)))) (agE mC (aE dM hr G.gg (af (abI 0 aB) (aky (aa 3) 2))) cR (agu (ajN (abr (gz (axP aB (aa 1) (aw G.hu (cb false (al2 aq aq (aro aq aq aq))) (bo (DU G.calm) T.WG La (af aq (abr aCT)))))))))) (dS false (agQ gy ["_law_world","_law_signal","_law_joint","_law_at"] ["_law_name"] aiw) G.calm (bS (ag5 qY)) (af3 (aaN xy).nd) (λ _ _ _ _=>eX) (agD (gz (as6 aB aq 0)))))
omit T in theorem Og:abU ["_law_script","_law_k","_law_world","_law_number","_law_names","_law_name","_law_some","_law_word","_law_many","_law_at","_law_route","_law_good"] aOH qz:=je
def Oh aUK(pK:abH "_law_near_deeds" kg):aMB (k+1) (pe fD kg):=hJ.go T.RY Og λ _ _ _ _ _ _ _ hr G=>(ajw 3 (ag5 gR) 4 (az2 2) (ajw 5 (yS (bt (aa 4)) (abI 4 (bh cS (adn hE (aa 3)) (aku 4))) aq) 6 (ajN (al2 aB aB (al2 aB aB (al2 aB aB (al2 aB aB (al2 aB aB (af aB (af aB aj)))))))) (ajw 7 (abI 6 (adn cS (adn hE (aa 3)))) 8 (E1 (jN (bo br T.fj cj (abr (abI 2 aB))) (jN (bo br T.fj cj (abr (abI 2 aB))) (jN (bo br T.fj cj (abr (abI 2 aB))) E0)))) (agJ 9 (bh cS (aoo gR aBB) (bo (MH G.calm) T.acE TV (af aq (abr (wG G.hu (aa 8) (aa 7) (bo br T.fj cj (abr (abI 2 aB)))))))) (agA (ay4 (alW (adn cS (aa 3)) aq) (jM (ag9 (abI 2 aB))) (ajw 10 (an9 2 (bh cS (adn hE (aa 3)) (bo br T.fj cj (abr (abI 2 aB))))) 11 (aho (aE pK hr G.gg (af (aa 2) (abr (alS (an9 2 (aa 10)))))) (bh (nU false) (ajN (abr (gz (aro aB (aa 10) aq)))) (adn cS (adn hE (aa 3))))) (abe (avk (aa 11) (agu (abI 11 (bh cS (adn hE (aa 3)) (aku 11)))))))) (ay4 (ag9 (abI 2 aB)) (j4 (bt (aa 4)) (jM (alW (adn cS (aa 3)) aq))) (agu (gz (axP (aw G.hu (cb false (al2 aB aB (af aB (af aB aj)))) (adn cS (adn hE (aa 3)))) aq (abI 4 (bh cS (adn hE (aa 3)) (aku 4))))))) (alh (ay4 (alW (aa 7) aB) (jM (ag9 (abI 2 aB))) (aAY 9 (an9 2 (bh cS (adn hE (aa 3)) (bo br T.fj cj (abr (abI 2 aB))))))) (bf (aO (bN G.hu) (adn cS (aa 3)) aq) (agJ 9 (aw G.hu (cb false (axP aCJ (wG G.hu (aa 8) (aa 7) (bo br T.fj cj (abr (abI 2 aB)))) (aho aq (adn cS (adn hE (aa 3)))))) (adn cS (adn hE (aa 3)))) (aAY 5 (aw G.hu (cb false (aro aCJ aq aq)) (adn cS (adn hE (aa 3)))))) aP) (gz (axP (aa 7) (aa 9) (yS (aBj (aO (oT G.hu) (aa 7) aB) (nE (alW (adn cS (aa 3)) aq))) (aa 5) (aw G.hu (cb false (al2 aq aq (af aq (abr aCJ)))) (adn cS (adn hE (aa 3)))))))))))))
omit T in theorem Iw:abU ["_law_yard","_law_pieces_here","_law_places","_law_k","_law_piece","_law_ahead","_law_behind","_law_side","_law_good"] aOV iZ:=je
omit T in theorem m9:afM ["_law_joint","_law_pieces_here","_law_places","_law_k"]:=adz
omit T in theorem nc:afM ["_law_joint","_law_pieces_here","_law_places","_law_k"]:=adz
omit T in theorem ng:afM ["_law_joint","_law_pieces_here","_law_places","_law_k"]:=adz
def Iy aWx:aMi (k+1) (n0 aF fi):=hJ.go T.Kh Iw λ _ _ _ _ _ _ _ hr G=>(alh (aAZ (abr (adn As (aku 2))) (ads 3) (abe (aou (ag9 (atq (agQ iZ ["_law_yard","_law_pieces_here","_law_places","_law_k","_law_piece","_law_ahead","_law_behind","_law_side","_law_good"] ["_law_joint","_law_pieces_here","_law_places","_law_k"] [none,ahM,arA,avG]) (Bb (alg (abI 1 (ax6 2)))) (af3 (aGS).nd) (agD (gC (aO (eL (aGS).hu) (aa 0) (alg (aw (aGS).hu (aa 1) (ayp (aGS).hu (adn (bV false) (aa 3)))))))))) (ahA mw)))) (apY (MI T.m5 (af aq (abr (adn As (aku 2))))) (ads 3) (agJ 4 (abI 1 (ax6 2)) (ap8 (j9 false 5 (agQ iZ ["_law_yard","_law_pieces_here","_law_places","_law_k","_law_piece","_law_ahead","_law_behind","_law_side","_law_good"] ["_law_joint","_law_pieces_here","_law_places","_law_k"] [none,ahM,arA,avG]) G.calm G.nd (Bb (alg (aa 4))) (af3 (aGT).nd) (agD (gC (aO (eL (aGT).hu) (aa 0) (alg (aw (aGT).hu (aa 1) (ayp (aGT).hu (adn As (aa 3)))))))) (λ _ _ _ _=>(aa 0)) aao) (j9 false 6 (agQ iZ ["_law_yard","_law_pieces_here","_law_places","_law_k","_law_piece","_law_ahead","_law_behind","_law_side","_law_good"] ["_law_joint","_law_pieces_here","_law_places","_law_k"] [none,ahM,arA,avG]) G.calm G.nd (Bb (alg (aa 4))) (af3 (aGU).nd) (agD (gC (aO (eL (aGU).hu) (aa 0) (alg (aw (aGU).hu (aa 1) (ayp (aGU).hu (adn (bV false) (aa 3)))))))) (λ _ _ _ _=>(aa 0)) aao) (avo (aei 4) (ajw 7 (abI 4 (aho aq (du rA T.L4 Ax (abr (eN (bN G.hu) (mF lM hr G.gg (aa 0) (abr (ax6 2))) aB))))) 8 (GU (A7 (avI (aei 4) (aa 5)) (qc (avI (aa 7) (aa 6)))) (qc (A7 (avI (aei 4) (aa 6)) (qc (avI (aa 7) (aa 5)))))) (abe (aou (bt (aa 8)) (ahA mw)))))))) mw)
omit T in theorem Oi:abU ["_law_yard","_law_pieces_here","_law_names","_law_begun","_law_full","_law_name","_law_places","_law_green","_law_number","_law_route","_law_good","_law_step","_law_piece"] aOX jY:=je
omit T in theorem zp:afM ["_law_at","_law_full"]:=adz
omit T in theorem p8:afM aOR:=adz
omit T in theorem uk:afM ["_law_at","_law_full","_law_yard"]:=adz
omit T in theorem p9:afM aOT:=adz
omit T in theorem qa:afM aOG:=adz
def Oj(Go:Me z k aF "where" 2 rZ)(vV:aMi k vD)(mn:Me z k aF "lock_of" 2 fI)aWf(Iz:Me z k aF "ways" 1 tR)aWx(Am:Me z k aF "is_green" 2 nJ):aMA (k+1) 4 (vC aF rZ vD fI cH tR fi nJ):=hJ.go T.RZ Oi λ _ _ _ _ _ _ _ hr G=>(agJ 4 aqe (agA (ajO (aa 2) (ads 5) (agJ 6 (mF Go hr G.gg (aa 0) (ac3 5)) (apJ (bf (VW.vt (qG (j5 (ag9 (aa 6))) (qG (j5 (ag9 (ati vV (ac3 6)))) (nE (ag9 (bo (D5 G.calm) T.WE Lb (aET (agQ jY ["_law_yard","_law_pieces_here","_law_names","_law_begun","_law_full","_law_name","_law_places","_law_green","_law_number","_law_route","_law_good","_law_step","_law_piece"] ["_law_at","_law_full"] (akb 4)) (bS (aa 6)) (af3 (aaN zp).nd) (agD (eN (eL (aaN zp).hu) (aa 0) (aa 1)))))))))) (ahA mw) aP) 4 (aho (aa 4) (aa 6)) (abe (aou (ag9 (bo (qL G.calm) T.HW wD (aET (agQ jY ["_law_yard","_law_pieces_here","_law_names","_law_begun","_law_full","_law_name","_law_places","_law_green","_law_number","_law_route","_law_good","_law_step","_law_piece"] aOR (ahp ai9 (some 5))) (bS (aa 6)) (af3 (aGV).nd) (agD (A7 (eN (bN (aGV).hu) (mF gY hr (aGV).gg (aa 1) (ac3 0)) (aa 2)) (qc (eN mC (mF mn hr (aGV).gg (aa 1) (ac3 0)) cR))))))) (ahA mw)))))) (aou (ag9 (bo (qL G.calm) T.HW wD (aET (agQ jY ["_law_yard","_law_pieces_here","_law_names","_law_begun","_law_full","_law_name","_law_places","_law_green","_law_number","_law_route","_law_good","_law_step","_law_piece"] ["_law_at","_law_full","_law_yard"] (ahp (some 4) ai9)) (kz T.m5 (aES 1)) (af3 (aaN uk).nd) (agD (GU (eN (eL (aaN uk).hu) (aa 0) (aa 1)) (qc (eN mC (mF gY hr (aaN uk).gg (aa 2) (ac3 0)) cR))))))) (ahA mw)) (alh (aU 7 G.nd pS) (apY (EX (TX Iz hr G.gg (aa 0)) T.uh) (mE G.calm (cI (ads 8) (aDE 9))) (agJ 10 (A7 (bo (qL G.calm) T.HW wD (aET (agQ jY ["_law_yard","_law_pieces_here","_law_names","_law_begun","_law_full","_law_name","_law_places","_law_green","_law_number","_law_route","_law_good","_law_step","_law_piece"] aOT (ahp ai9 (some 8))) (bS (aei 9)) (af3 (aGW).nd) (agD (eN (bN (aGW).hu) (mF mn hr (aGW).gg (aa 1) (abr (ax1 (aGW).hu))) (aa 2))))) (qc (eN aFK (aa 8) (aa 3)))) (ajC (ajO (aei 9) (ads 11) (agJ 12 (abI 1 (aei 11)) (aAX (j4 (alW (aei 12) aB) (jM (ag9 (aa 10)))) (aAY 10 (eN (bN G.hu) (mF lM hr G.gg (aa 0) (ak0 11)) (aw G.hu (cb false (af aB (af aB aj))) (du rA T.L4 Ax (abr (avI (aei 12) (alg (aa 11))))))))))) (akn (aa 7) (aei 9) (GU (wG G.hu (aa 7) (aei 9) mw) (qc (aa 10))))))) (bo (qL G.calm) T.HW wD (abr (Lh (dS false (agQ jY ["_law_yard","_law_pieces_here","_law_names","_law_begun","_law_full","_law_name","_law_places","_law_green","_law_number","_law_route","_law_good","_law_step","_law_piece"] aOG (ahp ai9 (some 7))) G.calm (Az (aa 7)) (af3 (aGX).nd) (λ _ _ _ _=>eX) (agD (eN (bN (aGX).hu) (mF Am hr (aGX).gg (aa 1) (ac3 0)) (ayp (aGX).hu (aa 0)))))))))))
omit T in theorem Kz:abU ["_law_script","_law_pieces_here","_law_signals_here","_law_wait","_law_yard","_law_world","_law_points","_law_k","_law_word","_law_number","_law_name","_law_before","_law_at"] aIH fY:=je
omit T in theorem oi:afM ["_law_at","_law_pieces_here"]:=adz
omit T in theorem oj:afM aOw:=adz
def KA{f fd}(D:Pe z.K "law" "law" fY f fd)(vW:aol (k+1) "_law_pieces" vE)(um:aMb (k+1) tU)(gR:aol (k+1) "_law_mix" fD)(IA:In z k "Yard" aF 4 tV)(Gp:aMG (k+1) E4)(CO:aMB (k+1) Bu)(gY:Me z (k+1) aF "train_in" 2 cH)(mn:Me z (k+1) aF "lock_of" 2 fI)(lM:Me z (k+1) aF "lies" 2 fi)(CP:aMz (k+1) 4 Bv)(yM:aMo (k+1) 4 yc)(CQ:aMA (k+1) 4 Bw):pN z.P z.w z.K z.mg z.base (tq z.P z.w) (k+2) f fd aIH (Oq z.K 1 (tT aF vE tU fD tV E4 Bu cH fI fi Bv yc Bw)):=aa6 D Kz λ _ _ _ _ _ _ hr G=>(ajw 1 (aE vW hr G.gg (af (aa 0) (af aq aj))) 2 (aq8 um aq (ac3 1)) (ajw 3 (adn cS (aE gR hr G.gg (af (aa 0) (af aq aj)))) 4 (Lc IA hr G.gg (as6 (ayg (ac3 1)) (ayg (ac3 2)) 3)) (agJ 5 (aE Gp hr G.gg (af (aa 1) (aky (aa 2) 3))) (alh (j9 false 6 (aBz fY ["_law_script","_law_pieces_here","_law_signals_here","_law_wait","_law_yard","_law_world","_law_points","_law_k","_law_word","_law_number","_law_name","_law_before","_law_at"] ["_law_at","_law_pieces_here"]) G.calm G.nd (kz T.m5 (aES 1)) (af3 (aGY).nd) (agD (gC (aO (bN (aGY).hu) (aw (aGY).hu (aw (aGY).hu (aa 1) (aa 0)) aq) aB))) (λ _ _ _ _=>(aa 0)) aao) (aAZ (abr (adn cS (aE gR hr G.gg (af (aa 0) (af aq aj))))) (ads 7) (agA (A9 (aq8 CO (aho aq (bh (nU false) aq (aa 7))) (ac3 5)) (mE G.calm (cI (ads 8) (cI (ads 9) (aDE 10))))) (aU 11 G.nd pS) (agA (ajO (aa 6) (ads 12) (aAX (qG (aO rq (mF mn hr G.gg (aa 4) (ac3 12)) cR) (nE (aO rq (mF gY hr G.gg (aa 4) (ac3 12)) cR))) (abe (akn (aa 11) (aa 12) (mF lM hr G.gg (aa 4) (ac3 12)))))) (bq (aE CP hr G.gg (af (aa 5) (as6 (aa 8) (aa 9) 10)))) (ap8 (bq (aE yM hr G.gg (af (aa 4) (as6 (aa 8) (aa 9) 10)))) (aou (ag9 (bo (qL G.calm) T.HW wD (abr (Lh (dS false (agQ fY ["_law_script","_law_pieces_here","_law_signals_here","_law_wait","_law_yard","_law_world","_law_points","_law_k","_law_word","_law_number","_law_name","_law_before","_law_at"] aOw (ahp (some 4) (some 11))) G.calm (Az (aa 11)) (af3 (aGZ).nd) (λ _ _ _ _=>eX) (agD (eN (bN (aGZ).hu) (mF lM hr (aGZ).gg (aa 1) (ac3 0)) (ayp (aGZ).hu (aa 0))))))))) (ahA mw)) (aou (ag9 (aE CQ hr G.gg (af (aa 4) (axP (aa 1) (az2 5) (az2 5))))) (ahA mw)))))) mw))))
def L5:∀n,∃g,aIZ (3+n) 5 g/\Lp n g
 | 0=>⟨_,hJ.bad T.Eo Cw,λ ps ss way j a M ok hn _=>by rw[ae9 ok.len]⟩
 | n+1=>by
  obtain⟨g,F,S⟩:=L5 n;rw[axM F1 (aee 1 "joints_of" 1 _) (xr T) F2 2 "pieces_at" (xt T F1)];rw[axM F3 (aee 3 "piece_beyond" 3 _) (sQ T F2) F4 2 "joints_out" (Df T F1)];rw[aas _ (Kk T (F4.mono b6) (F3.mono b6) F).trunc (Ym S)]
def IB:∀n,∃g,aIK (3+n) 5 g/\Lq n g
 | 0=>⟨_,hJ.bad T.Ik Er,λ ps ss way j a M ok hn _=>by rw[ae9 ok.len]⟩
 | n+1=>by
  obtain⟨g,F,S⟩:=IB n;rw[ajy F1 1 "_law_outs" (NY T) F2 (aHS 1 3 _) (zh T)];rw[aas _ (NZ T (F1.mono b6) (F2.mono b6) F).trunc (Yn (λ p j M=>Sb.oM p j M) (λ ps n j M h=>Sb.jX ps n j M h) S)]
def Zt aTr(F:Pe z.K "law" "law" fY f fd):pN z.P z.w z.K z.mg z.base (tq z.P z.w) 40 f fd aIH (G8 z.K):=by
 obtain⟨gw,Fw,Sw⟩:=L5 T fuel;obtain⟨gl,Fl,Sl⟩:=IB T fuel;rw[ayV CI "_law_cell" (NW T) gR 2 "_law_mix" (R6 T CI.up)];rw[ajy vW 3 "_law_pieces" (Ip T gR.up).trunc dM (aHS 1 3 _) (zh T)];rw[d6 um (aMb 3 _) (Gj T gR.up dM.up).trunc fM (aee 1 "joints_of" 1 _) (xr T)];rw[ajy lJ 2 "pieces_at" (xt T fM.up) pI (aee 3 "check_joints" 2 _) (zT T lJ.up)];rw[axM pH (aL9 4 1 _) (zR T pI.up fM.up) nL 2 "check_signals" (yC T fM.up)];rw[ajy sE 5 "check_yard" (Dh T pH.up nL.up) Cz (aee 21 "routes" 2 _) (NM T sE.up Fw.up).trunc];rw[axM IC (In z 22 "Yard" aF 4 _) (F5 T Cz.up) vS 21 "_law_routes" (Ir T Fl.up)];rw[axM Gp (aMG 22 _) (R9 T vS.up) qY 1 "_law_near" (N5 T ).trunc];rw[ajy pK 2 "_law_near_deeds" (Al T dM.up qY.up) CO (aMB 3 _) (Oh T gR.up pK.up).trunc];rw[ayV fe "is_number_of" (Aj T) fF 2 "check_piece" (CD T fe.up)];rw[d6 iO (aIu 1 1 _) (zV T) nM (Me z 3 aF "train_in" 2 _) (yF T fF.up iO.up)];rw[d6 uo (Me z 3 aF "lock_of" 2 _) (zX T fF.up) lK (aIJ 1 1 _) (FY T)];rw[ajy iP 3 "check_points" (Af T fF.up lK.up) uq (Me z 4 aF "lies" 2 _) (F9 T iP.up)];rw[axM yJ (aMn 1 4 _) (Ks T ).trunc sG 1 "_law_train_in" (Dv T)];rw[ajy qX 2 "_law_held" (N1 T sG.up) Gk (aee 3 "_law_set" 2 _) (Se T qX.up)];rw[ayV qZ "_law_free" (N3 T) vU 2 "_law_cancel" (Iv T qY.up dM.up qZ.up)];rw[ajy yK 3 "_law_throw" (Ko T qX.up) q0 (aIO 1 _) (N9 T)];rw[d6 yL (aMq 2 _) (Kq T dM.up q0.up) CK (aMy 2 1 _) (N7 T qZ.up)];rw[ajy Kt 2 "_law_go" (VC T dM.up q0.up) CL (aee 1 "_law_draw" 2 _) (Ob T)];rw[ajy CM 1 "_law_turn" (Od T) CP (aMz 4 4 _) (Of T yJ.up Gk.up vU.up yK.up yL.up CK.up Kt.up CL.up CM.up)];rw[ajy jD 2 "check_route" (CB T fe.up) jn (aee 1 "way_of" 2 _) (NU T)];rw[ajy fZ 4 "check_not_held" (xx T nM.up) yI (aee 2 "lie_for" 2 _) (Kj T lK.up)];rw[ayV fk "signal_of" (Gg T) uj 5 "set_route" (Ge T jD.up jn.up fZ.up yI.up fk.up)];rw[axM fN (aee 3 "piece_beyond" 3 _) (sQ T lJ.up) iR 4 "signal_ahead" (Ab T fN.up)];rw[ajy sF 5 "train_near" (Dp T iR.up) lL (aIN 4 _) (FW T fN.up)];rw[ajy fc 5 "is_at_border" (zZ T lL.up) ID (In z 1 "Fall" iW 3 _) (Gb T)];rw[ayV jo "unlock" (NS T) CN 6 "cancel" (NQ T jD.up fk.up sF.up fc.up ID.up jo.up jn.up)];rw[ajy Gm 5 "throw" (R1 T iP.up fZ.up) iQ (aee 2 "check_signal" 2 _) (Ah T fe.up)];rw[d6 kN (aIC 6 _) (Dr T fc.up fk.up) Gq (In z 1 "Train" bW 1 _) (Dk T)];rw[ajy oK 2 "come_on" (Km T jo.up) jE (aIy 3 _) (CH T fk.up jn.up oK.up)];rw[d6 Gn (aoq 7 "enter" _) (R4 T iQ.up fc.up kN.up Gq.up jE.up) Kw (aee 2 "tick" 1 _) (Vv T jo.up jn.up)];rw[ayV cX "train_called" (Ad T) Zs 7 "go" (acG T cX.up oK.up lL.up jE.up kN.up iR.up)];rw[ajy Kx 2 "draw" (Vx T cX.up) CF (aee 1 "turned" 1 _) (NO T)];rw[ajy Ky 2 "turn" (Vz T cX.up jo.up CF.up) yM (aMo 8 4 _) (Kv T uj.up CN.up Gm.up Gn.up Kw.up Zs.up Kx.up Ky.up)];rw[d6 Gr (Me z 2 aF "where" 2 _) (Dm T iO.up cX.up) vV (aMi 5 _) (Iy T uq.up)];rw[d6 IE (Me z 1 aF "ways" 1 _) (F7 T) An (Me z 3 aF "is_green" 2 _) (yH T iQ.up)];rw[ajG CQ (aMA 6 4 _) (Oj T Gr.up vV.up uo.up nM.up IE.up uq.up An.up) LL (KA (k:=38) T F vW.up um.up gR.up IC.up Gp.up CO.up nM.up uo.up uq.up CP.up yM.up CQ.up)];rw[d6 hj (E9 dN) (λ p M=>Sb.jT p M) hc (∀ps ss,amV->si (lU (kA cK (kC cK (ig dN)) dN) (jP cK dN)) [agm,aiP]) (λ ps ss hg =>
  Sb.ko (Sb.iz hg (ahT (Sb.iA (λ ps j M h=>Sb.iU ps j M h) (by rw[ae9 hg.qi]) hg.two (hg.Gx p hp) (hg.once p hp))) hj) (Sb.gX hg hj))]
 have S9:=Sb.ql hc Sw;rw[d6 hm (sj (uB rL)) (Sb.uv Sb.qt) hb (w5 nY) (λ ps n j M h=>Sb.jX ps n j M h)];have Nh:PbS (iH (ig dN)):=λ ps a x M h=>Sb.gv ps a x M h
 let C:Cs:=⟨aF,iW,bQ,lY,bW,rK⟩
 rw[ZI pu (abY (C:=C)) ckP (abW (C:=C))];rw[ZI ca (ab5 (C:=C)) ti (Wz (C:=C) ckP pu)];rw[ZI nh (abZ (C:=C) ti) ckT (abX (C:=C) ckP Ww)];rw[ZI bor (Y1 Nh) bd (abV (C:=C) bor)];rw[ZI ah (ab1 (C:=C) Nh) pa (ab8 (C:=C) bd LV)];rw[ZI co (λ Y=>ab9 (C:=C) (Y:=Y) Rv) ps (λ Y=>aca (C:=C) (Y:=Y) LV LW (co Y))];rw[ajG A (A8 C _ _ _ _ _ _ _ _) ⟨ace Wx LW nh (ab0 Ww) LV,Rx Wx LV (ab2 ah) bd ab3 Rv LW,Vb ckT nh,Vc Wy bd pa ab6 ps,Y2 Rv LW,afH ca co bor ps pa (λ M x hx=>Sb.Fu (C:=C) hx) ah,Y3 ca,Y4 ca (λ Y=>ab4) ab7⟩ he (acg acf)];rw[d6 Nr (∀Y,aaD->HM C Y _) (λ Y G=>Y5 (C:=C) (λ M W j w i x h=>Sb.ox h) (l8 G he WA hb ach aci)) has (∀Y,aaD->Ce C Y _ λ k=>.bl (okb k)) (λ Y G=>Sb.oy (C:=C) (cB:=cK) G A)];rw[d6 hde (∀Y,aaD->Ry C Y _) (λ Y G=>Y6 (C:=C) G hm hb WA) hQ (∀Y,aaD->Oz C Y _ _ _ _ _) (λ Y G=>acn (C:=C) G ckP pu ca ckT Wy)];exact(LL.imp λ _ _ _ _ h=>MY (λ ns=>Sb.fY (C:=C) ns (Sb.iY hm) (Sb.lD hm hb) hm (λ ps ss wait M hg=>Sb.jU S9 hg wait M) (acB (Sb.k8 Sl)) hde hQ Nr has (λ Y G M B W o y hp hn=>Sb.jY (C:=C) G (hQ Y G) (Zc G (hQ Y G)) Zf y hp hn)) h).mono d7
universe zE
open Hd
def all_mk aQQ aQk{mg:adp}{fa:Addr}(X:K.In h)(G:h.Ns mainGlobals mg)(hfa:mg "law" = aG3)(H:All facts K) :
  ∃fd:FuncData,(∀aPF aQ7,BindsTo s fd (amR [u]) [("_law_script",u)])/\∀base:Heap,aKa->aG4->pN P w K mg base (tq P w) 40 fa fd aIH (G8 K):=by
 have T:Top K mg 44 31 68 56 80 283 184 262:=⟨aBF (aBJ 0).a (arp 5),aBF (aBJ 2).a (arp 6),aBF (aBJ 3).a (arp 7),aBF (aBJ 4).a (arp 8),aBF (aBJ 1).a (aeZ (H.o 9 rfl) (H.o 10 rfl) (H.o 11 rfl) (H.o 12 rfl)),⟨d7,d7,d7,d7,d7,d7⟩,(H.c 13 rfl).fd (ajv 22),(H.c 13 rfl).fd (ajv 23),(aG1).fd (ajv 24),(aG1).fd (ajv 25),(aG1).fd (ajv 26),(H.c 19 rfl).fd (ajv 27),(H.c 19 rfl).fd (ajv 28),(H.c 19 rfl).fd (ajv 29),(H.c 19 rfl).fd (ajv 30),(H.c 19 rfl).fd (ajv 31),(H.c 19 rfl).fd (ajv 32),(H.c 19 rfl).fd (ajv 33),(H.c 19 rfl).fd (ajv 34),(H.c 19 rfl).fd (ajv 35),(H.c 19 rfl).fd (ajv 36),apj 37,apj 38,apj 39,apj 40,apj 41,apj 42,apj 43,apj 44,apj 45,apj 46,apj 47,⟨284,mg_of X G (ajv 48)⟩,⟨280,mg_of X G (ajv 49)⟩,⟨282,mg_of X G (ajv 50)⟩,aaI 51 "joints_of" "joints_of" "joints_of" jT,aaI 52 "pieces_at" "pieces_at" "pieces_at" iU,aaI 53 "piece_beyond" "piece_beyond" "piece_beyond" gv,aaI 54 "is_border" "is_border" "is_border" lz,aaI 55 "joints_out" "joints_out" "joints_out" iX,aaI 56 "is_points" "is_points" "is_points" lA,aaI 57 "lie_for" "lie_for" "lie_for" om,aaI 58 "check_yard" "check_yard" "check_yard" ko,aaI 59 "check_pieces" "check_pieces" "check_pieces" iz,aaI 60 "check_joints" "check_joints" "check_joints" iA,aaI 61 "check_signals" "check_signals" "check_signals" gX,aaI 62 "routes" "routes" "routes" ql,aaI 63 "ways_on" "ways_on" "ways_on" qm,(H.f 64 rfl:FnAt K (findIn K (Δ 184) "__init__") "__init__" "Train.__init__" kq).ini (arp 17) (arp 18) (mg_of X G (aG1).a),aaI 65 "pieces_under" "pieces_under" "pieces_under" gx,aaI 66 "turned" "turned" "turned" qo,(H.f 67 rfl:FnAt K (findIn K (Δ 262) "__init__") "__init__" "Yard.__init__" jU).ini (arp 20) (arp 21) (mg_of X G (H.c 19 rfl).a),(H.f 68 rfl:FnAt K (findIn K (Δ 262) "ways") "ways" "Yard.ways" jV).me (H.c 19 rfl).cl,(H.f 69 rfl:FnAt K (findIn K (Δ 262) "lock_of") "lock_of" "Yard.lock_of" lR).me (H.c 19 rfl).cl,(H.f 70 rfl:FnAt K (findIn K (Δ 262) "train_in") "train_in" "Yard.train_in" kX).me (H.c 19 rfl).cl,(H.f 71 rfl:FnAt K (findIn K (Δ 262) "lies") "lies" "Yard.lies" pQ).me (H.c 19 rfl).cl,(H.f 72 rfl:FnAt K (findIn K (Δ 262) "is_green") "is_green" "Yard.is_green" kY).me (H.c 19 rfl).cl,(H.f 73 rfl:FnAt K (findIn K (Δ 262) "where") "where" "Yard.where" nR).me (H.c 19 rfl).cl,(H.f 74 rfl:FnAt K (findIn K (Δ 283) "__init__") "__init__" "Fall.__init__" lB).ini (arp 14) (arp 15) (mg_of X G (H.c 13 rfl).a),aaI 75 "set_route" "set_route" "set_route" lC,aaI 76 "cancel" "cancel" "cancel" qp,aaI 77 "tick" "tick" "tick" xB,aaI 78 "throw" "throw" "throw" ur,aaI 79 "unlock" "unlock" "unlock" qr,aaI 80 "signal_of" "signal_of" "signal_of" ni,aaI 81 "way_of" "way_of" "way_of" tu,aaI 82 "is_at_border" "is_at_border" "is_at_border" jW,aaI 83 "signal_ahead" "signal_ahead" "signal_ahead" iB,aaI 84 "train_near" "train_near" "train_near" kr,aaI 85 "train_called" "train_called" "train_called" iC,aaI 86 "check_route" "check_route" "check_route" jq,aaI 87 "check_piece" "check_piece" "check_piece" jr,aaI 88 "check_points" "check_points" "check_points" iD,aaI 89 "check_signal" "check_signal" "check_signal" iF,aaI 90 "is_number_of" "is_number_of" "is_number_of" lS,aaI 91 "check_not_held" "check_not_held" "check_not_held" fX,aaI 92 "enter" "enter" "enter" uu,aaI 93 "go" "go" "go" L7,aaI 94 "draw" "draw" "draw" xC,aaI 95 "turn" "turn" "turn" vh,aaI 96 "route_past" "route_past" "route_past" kt,aaI 97 "pass_signal" "pass_signal" "pass_signal" jt,aaI 98 "come_on" "come_on" "come_on" oq,aaI 99 "_law_cell" "_law_cell" "_law_cell" qt,aaI 100 "_law_mix" "_law_mix" "_law_mix" uv,aaI 101 "_law_beyond" "_law_beyond" "_law_beyond" jX,aaI 102 "_law_pieces" "_law_pieces" "_law_pieces" iY,aaI 103 "_law_signals" "_law_signals" "_law_signals" lD,aaI 104 "_law_outs" "_law_outs" "_law_outs" oM,aaI 105 "_law_ways" "_law_ways" "_law_ways" tw,aaI 106 "_law_routes" "_law_routes" "_law_routes" k8,aaI 107 "_law_new" "_law_new" "_law_new" q8,aaI 108 "_law_train_in" "_law_train_in" "_law_train_in" gZ,aaI 109 "_law_held" "_law_held" "_law_held" qu,aaI 110 "_law_free" "_law_free" "_law_free" oN,aaI 111 "_law_set" "_law_set" "_law_set" ra,aaI 112 "_law_near" "_law_near" "_law_near" qv,aaI 113 "_law_cancel" "_law_cancel" "_law_cancel" k9,aaI 114 "_law_tick" "_law_tick" "_law_tick" qw,aaI 115 "_law_throw" "_law_throw" "_law_throw" ou,aaI 116 "_law_pass" "_law_pass" "_law_pass" oO,aaI 117 "_law_enter" "_law_enter" "_law_enter" ow,aaI 118 "_law_go" "_law_go" "_law_go" xD,aaI 119 "_law_draw" "_law_draw" "_law_draw" qx,aaI 120 "_law_turn" "_law_turn" "_law_turn" nj,aaI 121 "_law_there" "_law_there" "_law_there" ox,aaI 122 "_law_done" "_law_done" "_law_done" qy,aaI 123 "_law_asked" "_law_asked" "_law_asked" oy,aaI 124 "_law_near_deeds" "_law_near_deeds" "_law_near_deeds" gy,aaI 125 "_law_deed" "_law_deed" "_law_deed" qz,aaI 126 "_law_joined" "_law_joined" "_law_joined" iZ,aaI 127 "_law_safe" "_law_safe" "_law_safe" jY⟩;obtain⟨_,_,_,_,_,_,F⟩:=(H.f 128 rfl:FnAt K (nsIn K mainGlobals "law") "law" "law" fY).law X G hfa;rw[aas _ (λ s u=>.of_eq rfl) (λ base _ _=>Zt (z:=⟨P,w,K,mg,base⟩) T F)]
universe Rw
universe zE
end
open PySem PySem.W PyProof.Rows
set_option maxRecDepth 100000 in
set_option maxHeartbeats 0 in
theorem PySem.Challenge.cw_signalbox_k20_whole_never_two_holds : PySem.Challenge.rw_signalbox_k20_whole_never_two.Holds := by
 refine PySem.W.holds_law Rw.wsd λafU=>?_
 refine PySem.W.holds_open (q:=Rw.Q) (loose:=Rw.ks) (Xt:=λs=>xlAt Rw.Q [] s && recOk [] s) (XP:=XL Rw.Q []) (Yf:=Hook.obs Rw.hk) (Ya:=Hook.val Rw.hk) (YP:=Hook.says Rw.hk) (N:=8342) (d:=⟨"law",L2.mQ Rw.fY,L2.gM Rw.fY,L2.au Rw.fY,Rw.psn⟩) (kwd:=[])
  (Hd.Sy (boot_open Rw.opn rfl Rw.fen) Rw.siz Rw.tri Rw.run Rw.ruB rfl) (Hook.of Rw.hk) (Hook.keeps Rw.hk) (λs e=>xl_of s (Bool.and_eq_true_iff.mp e).1) XL.keeps (by kernel_rfl) (by kernel_rfl) (by kernel_rfl) (λs e=>recFacts_of (Bool.and_eq_true_iff.mp e).2) (by kernel_rfl) afU (by kernel_rfl) ⟨rfl,rfl,rfl,rfl,rfl,by kernel_rfl⟩ ?hw ?hc
 case hw=>w_witness2
 refine Hd.Yk (l:=PySem.Challenge.rw_signalbox_k20_whole_never_two) (n:=63) (k:=40) (x := "_law_script") (CX:=λw=>L2.tq PySem.Challenge.rw_signalbox_k20_whole_never_two.prog w) (sp:=L2.G8) rfl (by decide) (by kernel_rfl) ⟨rfl,by decide,by decide⟩ (λw mg fa h K KX H G XM=>Rw.all_mk KX G XM H) (λK H a ns _ _ hS=>⟨a,ns,rfl,hS,λ_=>rfl⟩) (λw H s e s' z=>by obtain⟨_,_,_,_,_,q⟩:=z; exact q)
