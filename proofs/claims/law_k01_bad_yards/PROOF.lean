import PyProof.Rows.All
import Wide.All
import Wide.FinOn
import Open.Boot
import Open.Tree
import Open.Line
import KE.KTryMore
import KE.KIsAll
import KE.KFromBytes
import KE.KDictList
import KE.KDictOf
import KE.KItem
import Lean
import PyProof.EqAt
import PyProof.EqKinds
import PyProof.TupleCall
import PyProof.Rows.SetFrom
import PyProof.DictWalks
import KE.KRevIter
import KE.KRevSl
import PyProof.TupleKey
import PyProof.SetKind
import PyProof.IsRules
import PyProof.WalksMore
import PyProof.FactsAll.subtypes_4
import PySem.Challenge.RW_signalbox_k01_bad_yards
set_option Elab.async false
set_option linter.all false
set_option maxRecDepth 100000
set_option maxHeartbeats 4000000
noncomputable abbrev Fg:=PySem.W.Frag
theorem zA {α:Type _} {a:α} {l:List α}:(a::l)[0]? = some a:=rfl
theorem zB {α:Type _} {a:α} {i:Nat} {l:List α}:(a::l)[i+1]? = l[i]? := rfl
theorem zC {α β:Type _} {f:α->β} {a:α} {l:List α}:(a::l).map f=f a::l.map f:=rfl
theorem zD {α β:Type _} {f:α->β}:([]:List α).map f=[]:=rfl
theorem zE {α:Type _} {a:α} {l:List α}:(a::l).length=l.length+1:=rfl
theorem zF {α:Type _}:([]:List α).length=0:=rfl
theorem zG {α:Type _} {a:α} {l m:List α}:(a::l)++m=a::(l++m):=rfl
theorem zH {α:Type _} {l:List α}:[]++l=l:=rfl
theorem zI {α:Type _} {l:List α}:l++[]=l:=by simp
theorem zJ {α β:Type _} {f:α->β} {l:List α} {i:Nat}:(l.map f)[i]? = l[i]?.map f:=by simp
theorem zK {α β:Type _} {f:α->β} {l:List α}:(l.map f).length=l.length:=by simp
section
namespace L2
open PySem PySem.Spec PyProof.Rows
noncomputable def inClass (s:Stmt) (j:Nat):Stmt:=match s with
 | .ClassDef _ _ _ body _ _ _ _ _ _ _=>body.getD j (.Pass ⟨0,0,0,0⟩)
 | _=>.Pass ⟨0,0,0,0⟩
noncomputable def dS (s:Stmt):Arguments:=match s with
 | .FunctionDef _ a _ _ _ _ _ _ _ _=>a
 | _=>{ posonlyargs:=[],args:=[],vararg:=none,kwonlyargs:=[],kw_defaults:=[],kwarg:=none,defaults:=[] }
noncomputable def bN (s:Stmt):List Stmt:=match s with
 | .FunctionDef _ _ b _ _ _ _ _ _ _=>b
 | _=>[]
noncomputable def ak (s:Stmt):Scope:=match s with
 | .FunctionDef _ _ _ _ _ _ sc _ _ _=>sc
 | _=>{ kind:=.function,names:=[],isGenerator:=false,isCoroutine:=false }
end L2
namespace Hd
open PySem PySem.W PySem.Calls PyProof.Rows
noncomputable def qw (st:SharedT->Thread->Option (SharedT×Thread)) (m:Nat) (ann:Option Value):Nat->SharedT->Thread->Option SharedT
 | 0,_,_=>none
 | n+1,s,t=>match through t with
  | true=>some s
  | false=>match stepOk m ann t with
   | false=>none
   | true=>match st s t with
    | some x=>qw st m ann n x.1 x.2
    | none=>none
theorem rS {tb:String->Option Builtin} {p:Program} {w:World} {m:Nat} {ann:Option Value}:∀{n:Nat} {s s':SharedT} {t:Thread},
  qw (stepT (denote tb) p w) m ann n s t=some s'->topRun tb p w m ann n s.abs t=some s'.abs
 | 0,_,_,_,h=>by cases h
 | n+1,s,s',t,h=>by
  unfold qw at h
  unfold topRun
  cases ht:through t with
  | true=>rw[ht] at h; cases h; rfl
  | false =>
   rw[ht] at h
   cases hk:stepOk m ann t with
   | false=>rw[hk] at h; cases h
   | true =>
    rw[hk] at h
    cases hs:stepT (denote tb) p w s t with
    | none=>rw[hs] at h; cases h
    | some x =>
     rw[hs] at h
     rw[stepT_spec hs]
     exact rS h
noncomputable def vq (p q:Program) (loose:List Str) (Xt:Shared->Bool) (g0:Bool) (H₀:Heap) (s:Shared) :=
 ((staticsOk (importedModules p.main.body) H₀ s.heap && namesBound p s.heap && gensDone s && laidKept H₀ s.heap),openSeen q loose (importedModules p.main.body) Xt g0 s)
theorem ya {p q:Program} {loose:List Str} {Xt:Shared->Bool} {α:Type} {Yf:Shared->α} {Ya:World->α} {N:Nat} {g0:Bool} {H₀:Params->Heap} {De:Array GenState} {d₀:Drawn} {k₀:Nat} {m₀:Nat} {ann:Option Value} {M:Nat}
  {T₀:Params->BT} {n₀:Nat} {l₀:Life}
  (Df:∀w:World,(fencedOpening treeTable p w N).map (fun s=>(s.heap,s.gens,s.drawn,s.toks))=some (H₀ w.params,De,d₀,k₀))
  (size:∀w:World,((H₀ w.params).isNs mainGlobals && De.size == 0,(H₀ w.params).objs.size,(H₀ w.params).nsMap mainGlobals "__annotations__")=(true,m₀,ann))
  (tree:∀P:Params,absHeap (T₀ P) n₀ l₀=H₀ P)
  (run:∀(w:World) (os:OsState),(qw (stepT (denote treeTable) p w) m₀ ann M ⟨T₀ w.params,n₀,l₀,De,d₀,k₀,os⟩ (topStub p)).map (fun s=>vq p q loose Xt g0 (H₀ w.params) s.abs)=some (true,openGood q loose))
  (Gs:∀(w:World) (os:OsState),(qw (stepT (denote treeTable) p w) m₀ ann M ⟨T₀ w.params,n₀,l₀,De,d₀,k₀,os⟩ (topStub p)).map (fun s=>Yf s.abs)=some (Ya w))
  (le:Nat.ble M N=true):LeftO p q loose Xt Yf Ya N g0:=fun w=>by
 obtain⟨⟨h,gs,d,k,os⟩,e,e'⟩:=Option.map_eq_some_iff.mp (Df w)
 obtain⟨rfl,rfl,rfl,rfl⟩:h=H₀ w.params/\gs=De/\d=d₀/\k=k₀:=by simpa using e'
 obtain⟨z1,z2,z3⟩:_/\_/\_:=by simpa only[Prod.mk.injEq] using size w
 obtain⟨sT,r0,l0⟩:=Option.map_eq_some_iff.mp (run w os)
 unfold vq at l0
 obtain⟨l1,l2⟩:_/\_:=by simpa only[Prod.mk.injEq] using l0
 have l3:Yf sT.abs=Ya w:=by
  have:=Gs w os
  rw[r0] at this
  exact Option.some.inj this
 have r1:=rS r0
 have r:=topRun_mono (N-M) _ _ _ _ r1
 rw[show M+(N-M)=N by have:=Nat.le_of_ble_eq_true le; omega] at r
 have a0:SharedT.abs ⟨T₀ w.params,n₀,l₀,gs,d,k,os⟩=⟨H₀ w.params,gs,d,k,os⟩:=by
  show(⟨absHeap (T₀ w.params) n₀ l₀,gs,d,k,os⟩:Shared)=_
  rw[tree]
 rw[a0] at r
 have t:topFrom treeTable p w N ⟨H₀ w.params,gs,d,k,os⟩=some sT.abs:=by
  unfold topFrom
  dsimp only
  rw[z1,z2,z3,r]
  show(match staticsOk (importedModules p.main.body) (H₀ w.params) sT.abs.heap && namesBound p sT.abs.heap && gensDone sT.abs && laidKept (H₀ w.params) sT.abs.heap with | true=>_ | false=>_)=_
  rw[l1]
 unfold openEnds
 rw[e]
 show(topFrom treeTable p w N _).map _=_
 rw[t]
 exact congrArg some (Prod.ext l2 l3)
noncomputable def treeOf (l:List Obj):BT:=l.zipIdx.foldl (fun t x=>t.ins x.2 x.1) .nil
open L2
inductive vv where
 | v (x:Option (Option Value))
 | b (x:Option Bool)
 | f (x:Option (FuncData×Bool))
noncomputable abbrev En:=(Fg->vv)×vv
noncomputable def Sat (K:Fg) (l:List En):Prop:=∀e∈l,e.1 K=e.2
noncomputable def eb (f:Fg->Bool):En:=(fun K=>.b (some (f K)),.b (some true))
noncomputable def eo (f:Fg->Option Bool) (v:Option Bool):En:=(fun K=>.b (f K),.b v)
noncomputable def ev (f:Fg->Option (Option Value)) (v:Option (Option Value)):En:=(fun K=>.v (f K),.v v)
noncomputable def vw (K:Fg) (v:Option (Option Value)) (q:Str):Option (FuncData×Bool):=match v with
 | some (some (.ref f))=>match K.lookup f with
  | some ⟨_,_,.func fd,_⟩=>some ({ fd with kwdefaults:=.none,doc:=.none,pyModule:=.none,annotations:=none,code:=.none,closureTuple:=.none },codeIn K fd.code q && keepIn K (.ref f) && isFn K (.ref f))
  | _=>none
 | _=>none
noncomputable def ef (g:Fg->Option (Option Value)) (x q:Str) (st:Stmt):En:=(fun K=>.f (vw K (g K) q),.f (some (PySem.W.fnOf x q (dS st) (bN st) (ak st) .none .none .none .none none .none .none,true)))
noncomputable def AS (x:Str) (C:Addr):List En :=
  [ev (fun K=>nsIn K mainGlobals x) (some (some (.ref C))), ev (fun K=>findIn K (.ref C) "__getattribute__") (some (some (.builtin "BaseException.__getattribute__"))), ev (fun K=>findIn K (.ref C) "__getattr__") (some none),
   ev (fun K=>findIn K (.ref C) "__class__") (some (some (.builtin "object.__class__"))), eo (fun K=>mroIn K C (.type "object")) (some true), eo (fun K=>mroIn K C (.type "BaseException")) (some true), eb (fun K=>isClsIn K C),
   ev (fun K=>specialIn K (.builtin "object.__class__") "__get__") (some (some (.builtin "getset_descriptor.__get__"))), eo (fun K=>takesIn K (.builtin "object.__class__")) (some true)]
noncomputable def Gu (x:Str) (C:Addr):List En :=
 [ev (fun K=>nsIn K mainGlobals x) (some (some (.ref C))),eb (fun K=>plainGet K C Str.empty),eb (fun K=>hasDictIn K C),eb (fun K=>plainOver K C),ev (fun K=>findIn K (.ref C) "__setattr__") (some (some (.builtin "object.__setattr__")))]
noncomputable def All (l:List (List En)) (K:Fg):Prop:=∀g∈l,Sat K g
noncomputable def nD (as:List Addr) (h:Heap):Fg:=as.filterMap fun a=>match h.get? a with
 | some o=>some (a,o)
 | none=>none
theorem tP (as:List Addr) (h:Heap):(nD as h).In h:=by
 induction as with
 | nil=>intro a o e; cases e
 | cons b as ih =>
  intro a o e
  unfold nD at e
  rw[List.filterMap_cons] at e
  cases hb:h.get? b with
  | none=>rw[hb] at e; exact ih a o e
  | some x =>
   rw[hb] at e
   simp only[List.lookup_cons] at e
   split at e
   ·rename_i q; cases e; rw[beq_iff_eq.mp q]; exact hb
   ·exact ih a o e
noncomputable def hook (as:List Addr) (L:List (List En)):Hook where
 α:=List (List vv)
 obs s:=L.map fun g=>g.map fun e=>e.1 (nD as s.heap)
 val _:=L.map fun g=>g.map (·.2)
 says _ h:=∃K:Fg,K.In h/\All L K
 of w s e:=⟨nD as s.heap,tP as s.heap,fun g hg x hx=>List.map_inj_left.mp (List.map_inj_left.mp e g hg) x hx⟩
 keeps w h h' x k:=by obtain⟨K,a,b⟩:=x; exact⟨K,a.keeps k,b⟩
end Hd
end
section
namespace Rw
open PySem L2 PySem.W PyProof.Rows PySem.Calls Hd
noncomputable def top (i:Nat):Stmt:=PySem.Challenge.pw_signalbox_k01_bad_yards.main.body.getD i (.Pass ⟨0,0,0,0⟩)
noncomputable abbrev cx:Stmt:=top 11
noncomputable abbrev bW:Stmt:=top 12
noncomputable abbrev bO:Stmt:=top 13
noncomputable abbrev bY:Stmt:=top 14
noncomputable abbrev dt:Stmt:=top 15
noncomputable abbrev cy:Stmt:=top 16
noncomputable abbrev cz:Stmt:=top 17
noncomputable abbrev cf:Stmt:=top 18
noncomputable abbrev fS:Stmt:=top 20
noncomputable abbrev fT:Stmt:=top 21
noncomputable abbrev cA:Stmt:=inClass (top 23) 0
noncomputable abbrev fU:Stmt:=top 25
noncomputable abbrev ip:Stmt:=top 26
noncomputable abbrev fb:Stmt:=top 27
noncomputable abbrev dZ:Stmt:=top 28
noncomputable abbrev bP:Stmt:=top 29
noncomputable def facts:List (List En):=[AS "BadYard" 44,
 AS "BoxError" 31,
 AS "Held" 68,
 AS "NotThere" 56,
 AS "Red" 80,
 [eb fun K=>excIn K 44 [.type "ValueError",.type "Exception",.type "BaseException",.type "object"] "ValueError.__new__"],
 [eo (fun K=>exmOne K (.ref 44) (.ref 31)) (some true)],
 [eo (fun K=>exmOne K (.ref 56) (.ref 31)) (some true)],
 [eo (fun K=>exmOne K (.ref 68) (.ref 31)) (some true)],
 [eo (fun K=>exmOne K (.ref 80) (.ref 31)) (some true)],
 [eo (fun K=>kitOne K (.ref 44) (.ref 44)) (some true)],
 [eo (fun K=>kitOne K (.ref 56) (.ref 44)) (some false)],
 [eo (fun K=>kitOne K (.ref 68) (.ref 44)) (some false)],
 [eo (fun K=>kitOne K (.ref 80) (.ref 44)) (some false)],
 [eo (fun K=>kitOne K (.ref 44) (.type "ValueError")) (some true)],
 [eo (fun K=>kitOne K (.ref 56) (.type "ValueError")) (some true)],
 [eo (fun K=>kitOne K (.ref 68) (.type "ValueError")) (some true)],
 [eo (fun K=>kitOne K (.ref 80) (.type "ValueError")) (some true)],
 [eo (fun K=>kitAny K (.ref 44) [.ref 56,.ref 68,.ref 80]) (some false)],
 [eo (fun K=>kitAny K (.ref 56) [.ref 56,.ref 68,.ref 80]) (some true)],
 [eo (fun K=>kitAny K (.ref 68) [.ref 56,.ref 68,.ref 80]) (some true)],
 [eo (fun K=>kitAny K (.ref 80) [.ref 56,.ref 68,.ref 80]) (some true)],
 Gu "Yard" 210,
 [eb fun K=>makesIn K 210],
 [eb fun K=>keepIn K (.ref 210)],
 [ev (fun K=>findIn K (.ref 210) "falls") (some none)],
 [ev (fun K=>findIn K (.ref 210) "found") (some none)],
 [ev (fun K=>findIn K (.ref 210) "greens") (some none)],
 [ev (fun K=>findIn K (.ref 210) "locks") (some none)],
 [ev (fun K=>findIn K (.ref 210) "lying") (some none)],
 [ev (fun K=>findIn K (.ref 210) "pieces") (some none)],
 [ev (fun K=>findIn K (.ref 210) "signals") (some none)],
 [ev (fun K=>findIn K (.ref 210) "ticks") (some none)],
 [ev (fun K=>findIn K (.ref 210) "trains") (some none)],
 [ev (fun K=>findIn K (.ref 210) "wait") (some none)],
 [ev (fun K=>nsIn K mainGlobals "ValueError") (some none)],
 [ev (fun K=>nsIn K mainGlobals "all") (some none)],
 [ev (fun K=>nsIn K mainGlobals "enumerate") (some none)],
 [ev (fun K=>nsIn K mainGlobals "int") (some none)],
 [ev (fun K=>nsIn K mainGlobals "isinstance") (some none)],
 [ev (fun K=>nsIn K mainGlobals "len") (some none)],
 [ev (fun K=>nsIn K mainGlobals "list") (some none)],
 [ev (fun K=>nsIn K mainGlobals "max") (some none)],
 [ev (fun K=>nsIn K mainGlobals "range") (some none)],
 [ev (fun K=>nsIn K mainGlobals "set") (some none)],
 [ev (fun K=>nsIn K mainGlobals "tuple") (some none)],
 [ev (fun K=>nsIn K mainGlobals "LAST_JOINT") (some (some (.int 999 284)))],
 [ev (fun K=>nsIn K mainGlobals "MOST_PIECES") (some (some (.int 16 280)))],
 [ev (fun K=>nsIn K mainGlobals "MOST_SIGNALS") (some (some (.int 16 282)))],
 [ef (fun K=>nsIn K mainGlobals "joints_of") "joints_of" "joints_of" cx],
 [ef (fun K=>nsIn K mainGlobals "pieces_at") "pieces_at" "pieces_at" bW],
 [ef (fun K=>nsIn K mainGlobals "piece_beyond") "piece_beyond" "piece_beyond" bO],
 [ef (fun K=>nsIn K mainGlobals "joints_out") "joints_out" "joints_out" bY],
 [ef (fun K=>nsIn K mainGlobals "check_yard") "check_yard" "check_yard" dt],
 [ef (fun K=>nsIn K mainGlobals "check_pieces") "check_pieces" "check_pieces" cy],
 [ef (fun K=>nsIn K mainGlobals "check_joints") "check_joints" "check_joints" cz],
 [ef (fun K=>nsIn K mainGlobals "check_signals") "check_signals" "check_signals" cf],
 [ef (fun K=>nsIn K mainGlobals "routes") "routes" "routes" fS],
 [ef (fun K=>nsIn K mainGlobals "ways_on") "ways_on" "ways_on" fT],
 [ef (fun K=>findIn K (.ref 210) "__init__") "__init__" "Yard.__init__" cA],
 [ef (fun K=>nsIn K mainGlobals "_law_cell") "_law_cell" "_law_cell" fU],
 [ef (fun K=>nsIn K mainGlobals "_law_mix") "_law_mix" "_law_mix" ip],
 [ef (fun K=>nsIn K mainGlobals "_law_asked") "_law_asked" "_law_asked" fb],
 [ef (fun K=>nsIn K mainGlobals "_law_good") "_law_good" "_law_good" dZ],
 [ef (fun K=>nsIn K mainGlobals "law") "law" "law" bP]]
noncomputable abbrev PW:=PySem.Challenge.pw_signalbox_k01_bad_yards
noncomputable def Q:Program:=PySem.W.view PW [29]
noncomputable def ks:List Str:=(["_wall","BoxError","BadYard","NotThere","Held","Red","MOST_PIECES","MOST_SIGNALS","LAST_JOINT","joints_of","pieces_at","piece_beyond","joints_out","check_yard","check_pieces","check_joints","check_signals","routes","ways_on","Yard","_law_cell","_law_mix","_law_asked","_law_good"]:List String).map Str.ofString
noncomputable def JQ:Pos:=match bP with
 | .FunctionDef _ _ _ _ _ _ _ _ _ p=>p
 | _=>⟨0,0,0,0⟩
noncomputable def hk:Hook:=hook [3,2,31,30,44,43,56,55,68,67,80,79,210,209,21,20,89,88,94,93,101,100,106,105,113,112,120,119,127,126,134,133,141,140,146,145,158,157,165,164,172,171,179,178,186,185,193,192,200,199,207,206,221,220,228,227,235,234,240,239,247,246] facts
noncomputable def tr (P:Params):BT:=treeOf (boot_heap P).objs.toList
theorem JR:opening PW=plainProg PW.main.scope.names:=by kernel_rfl
theorem JS (s:Shared):fenceModules? PW s=some s:=by kernel_rfl
theorem JT:PySem.Challenge.rw_signalbox_k01_bad_yards.wellSaid=true:=by kernel_rfl
theorem JU (w:World):((boot_heap w.params).isNs mainGlobals && (Array.mk ([]:List GenState)).size == 0,(boot_heap w.params).objs.size,(boot_heap w.params).nsMap mainGlobals "__annotations__")=(true,11,(some (.ref 6))):=by kernel_rfl
theorem JV (P:Params):absHeap (tr P) 11 {}=boot_heap P:=by kernel_rfl
theorem run (w:World) (os:OsState):(qw (stepT (denote treeTable) PW w) 11 (some (.ref 6)) 4212 ⟨tr w.params,11,{},Array.mk [],boot_drawn,boot_toks,os⟩ (topStub PW)).map (fun s=>vq PW Q ks (fun s=>xlAt Q [] s && recOk [] s) true (boot_heap w.params) s.abs)=some (true,openGood Q ks):=by kernel_rfl
theorem Gs (w:World) (os:OsState):(qw (stepT (denote treeTable) PW w) 11 (some (.ref 6)) 4212 ⟨tr w.params,11,{},Array.mk [],boot_drawn,boot_toks,os⟩ (topStub PW)).map (fun s=>hk.obs s.abs)=some (hk.val w):=by kernel_rfl
end Rw
end
section
namespace L2
open PySem PySem.Spec PyProof.Rows
noncomputable abbrev Key:=Sum Int Str
noncomputable def mR:Key->Value->Bool
 | .inl k,v=>Value.isInt k v
 | .inr x,v=>Value.isStrOf x v
noncomputable def Gv (w:World):Key->Int
 | .inl k=>hashInt k
 | .inr x=>hashStr w x
theorem bF:∀{k:Key} {v:Value},mR k v=true->(∃i t,k=Sum.inl i/\v=Value.int i t)\/(∃x t,k=Sum.inr x/\v=Value.str x t)
 | .inl i,v,h=>by
  obtain⟨t,e⟩:=Value.isInt_shape (k:=i) (v:=v) h
  exact .inl ⟨i,t,rfl,e⟩
 | .inr x,v,h=>by
  obtain⟨t,e⟩:=Value.isStrOf_shape (x:=x) (v:=v) h
  exact .inr ⟨x,t,rfl,e⟩
theorem tQ (i:Int) (t:Tok):mR (.inl i) (.int i t)=true:=by simp[mR,Value.isInt]
theorem tR (x:Str) (t:Tok):mR (.inr x) (.str x t)=true:=by simp[mR,Value.isStrOf]
theorem AU (a b:Int):decide ((Sum.inl a:Key)=Sum.inl b)=(a == b):=by
 by_cases e:a=b
 ·subst e; simp
 ·have h:¬(Sum.inl a:Key)=Sum.inl b:=fun q=>e (Sum.inl.inj q)
  rw[decide_eq_false h]
  exact(beq_eq_false_iff_ne.mpr e).symm
theorem AV (a b:Str):decide ((Sum.inr a:Key)=Sum.inr b)=decide (a=b):=by
 by_cases e:a=b
 ·subst e; simp
 ·have h:¬(Sum.inr a:Key)=Sum.inr b:=fun q=>e (Sum.inr.inj q)
  rw[decide_eq_false h,decide_eq_false e]
theorem AW (a:Int) (b:Str):decide ((Sum.inl a:Key)=Sum.inr b)=false:=decide_eq_false (fun q=>nomatch q)
theorem AX (a:Str) (b:Int):decide ((Sum.inr a:Key)=Sum.inl b)=false:=decide_eq_false (fun q=>nomatch q)
noncomputable def cq (prog:Program) (w:World):PySem.KeyKind prog w Key where
 is:=mR
 hash:=Gv w
 inj:=fun v a b ha hb=>by
  rcases bF ha with⟨i,t,rfl,rfl⟩ | ⟨x,t,rfl,rfl⟩
  ·rcases bF hb with⟨j,u,rfl,e⟩ | ⟨y,u,rfl,e⟩
   ·injection e with e1 _; rw[e1]
   ·exact nomatch e
  ·rcases bF hb with⟨j,u,rfl,e⟩ | ⟨y,u,rfl,e⟩
   ·exact nomatch e
   ·injection e with e1 _; rw[e1]
 byValue:=fun k v h=>by
  rcases bF h with⟨i,t,rfl,rfl⟩ | ⟨x,t,rfl,rfl⟩<;>rfl
 pyHash:=fun hv h=>by
  rcases bF hv with⟨i,t,rfl,rfl⟩ | ⟨x,t,rfl,rfl⟩
  ·exact wpAny_pyHash_int h
  ·exact wpAny_pyHash_str h
 eqBool:=fun hu hv h=>by
  rcases bF hu with⟨i,t,rfl,rfl⟩ | ⟨x,t,rfl,rfl⟩
  ·rcases bF hv with⟨j,u,rfl,rfl⟩ | ⟨y,u,rfl,rfl⟩
   ·rw[AU] at h; exact wpAny_eqBool_int h
   ·rw[AW] at h; exact SeqAt.EqAt.int_str i t y u _ _ _ _ h
  ·rcases bF hv with⟨j,u,rfl,rfl⟩ | ⟨y,u,rfl,rfl⟩
   ·rw[AX] at h; exact SeqAt.EqAt.str_int x t j u _ _ _ _ h
   ·rw[AV] at h; exact wpAny_eqBool_str h
 «strs»:=fun k x t v h=>by
  rcases bF h with⟨i,u,rfl,e⟩ | ⟨y,u,rfl,e⟩
  ·exact nomatch e
  ·injection e with e1 _
   subst e1
   cases v<;>rfl
theorem oX (prog:Program) (w:World) (i:Int) (t:Tok):(cq prog w).is (.inl i) (.int i t)=true:=tQ i t
theorem oY (prog:Program) (w:World) (x:Str) (t:Tok):(cq prog w).is (.inr x) (.str x t)=true:=tR x t
end L2
namespace L2
open PySem PySem.Spec PyProof.Rows
inductive V where
 | bb | bl (b:Bool) | int (i:Int) | str (x:Str) | Dg (b:Array UInt8) | Dh (b:UInt64) | ref (a:Addr) | ty (n:String)
 deriving DecidableEq
noncomputable def RelV:V->Value->Prop
 | .bb,u=>u=Value.none
 | .bl b,u=>u=Value.bool b
 | .int i,u=>∃t,u=Value.int i t
 | .str x,u=>∃t,u=Value.str x t
 | .Dg b,u=>∃t,u=Value.bytes b t
 | .Dh b,u=>∃t,u=Value.float b t
 | .ref a,u=>u=Value.ref a
 | .ty n,u=>u=Value.type n
noncomputable abbrev Vals:List V->List Value->Prop:=Paired RelV
theorem Vals.length {xs:List V} {us:List Value} (r:Vals xs us):xs.length=us.length:=Paired.length r
theorem Vals.get:∀{xs:List V} {us:List Value} {i:Nat} {x:V},Vals xs us->xs[i]? = some x->∃u,us[i]? = some u/\RelV x u
 | _,_,_,_,.nil,e=>by simp at e
 | _,_,0,_,.cons r _,e=>by simp at e; subst e; exact⟨_,rfl,r⟩
 | _,_,i+1,x,.cons _ t,e=>by
  obtain⟨u,h1,h2⟩:=Vals.get (i:=i) (x:=x) t (by simpa using e)
  exact⟨u,by simpa using h1,h2⟩
theorem Vals.set {x:V} {u:Value} (r:RelV x u):∀{xs:List V} {us:List Value} (i:Nat),Vals xs us->Vals (xs.set i x) (us.set i u)
 | _,_,_,.nil=>.nil
 | _,_,0,.cons _ t=>.cons r t
 | _,_,i+1,.cons q t=>.cons q (Vals.set r i t)
theorem Vals.append:∀{xs ys:List V} {us ws:List Value},Vals xs us->Vals ys ws->Vals (xs++ys) (us++ws)
 | _,_,_,_,.nil,s=>s
 | _,_,_,_,.cons r t,s=>.cons r (Vals.append t s)
theorem Vals.take:∀{xs:List V} {us:List Value} (n:Nat),Vals xs us->Vals (xs.take n) (us.take n)
 | _,_,0,_=>.nil
 | _,_,_+1,.nil=>.nil
 | _,_,n+1,.cons r t=>.cons r (Vals.take n t)
theorem Vals.drop:∀{xs:List V} {us:List Value} (n:Nat),Vals xs us->Vals (xs.drop n) (us.drop n)
 | _,_,0,r=>r
 | _,_,_+1,.nil=>.nil
 | _,_,n+1,.cons _ t=>Vals.drop n t
noncomputable def kI:Option V->Option Value->Prop
 | some v,some u=>RelV v u
 | none,none=>True
 | _,_=>False
noncomputable def KV {κ:Type}:List (κ×V)->List (κ×Value)->Prop:=Paired fun(p:κ×V) (q:κ×Value)=>p.1=q.1/\RelV p.2 q.2
noncomputable def kV:Key->V
 | .inl i=>.int i
 | .inr x=>.str x
inductive HO where
 | lst (xs:List V)
 | tup (xs:List V)
 | dK (aw:List (Key×V)) | dT (aw:List (List Key×V))
 | set (S:Int->Bool) (n:Nat)
 | ins (C dx:Addr) (fs:List (Str×V))
 | own (x:Addr)
 | xd (fs:List (Str×V))
 | met (f x:Addr)
 | oZ (lo hi:Int)
 | oS (o:Obj) (u:HO)
 | iR (ps:Array Value)
 | ext (φ:Heap->Prop)
noncomputable abbrev Hp:=Addr->Option HO
noncomputable def upd (H:Hp) (a:Addr) (o:HO):Hp:=fun b=>if b=a then some o else H b
theorem aF {H:Hp} {a:Addr} {o:HO}:upd H a o a=some o:=by unfold upd; rw[if_pos rfl]
theorem av {H:Hp} {a b:Addr} {o:HO} (h:b≠a):upd H a o b=H b:=by unfold upd; rw[if_neg h]
theorem Di {H:Hp} {a b:Addr} {o u:HO} (h:H a=some o) (h':H b=some u) (d:o≠u):a≠b:=by
 intro e; subst e; rw[h] at h'; exact d (Option.some.inj h')
theorem aE {H:Hp} {a b:Addr} {o:HO} (h:H a=some o) (h':H b=none):a≠b:=by
 intro e; subst e; rw[h] at h'; cases h'
section
variable (P:Program) (w:World)
noncomputable def bG (H:Hp) (h:Heap) (a:Addr):HO->Prop
 | .lst xs=>xs.length≤sizeLine/\∃(aD:List Value) (n:Nat),Vals xs aD/\h.get? a=some { cls:=.type "list",data:=.seq aD.toArray n }
 | .tup xs=>xs.length≤sizeLine/\∃aD:List Value,Vals xs aD/\IsTup h a aD.toArray
 | .dK aw=>aw.length≤sizeLine/\(a == sysModules)=false/\∃vs,KV aw vs/\h.DictOf (cq P w) a vs
 | .dT aw=>aw.length≤sizeLine/\(a == sysModules)=false/\∃xs:List (List Key×Addr×Value),
   Paired (fun(p:List Key×V) (q:List Key×Addr×Value)=>p.1=q.1/\H q.2.1=some (.tup (p.1.map kV))/\RelV p.2 q.2.2) aw xs ∧
   ∃o es ep,h.get? a=some o/\o.ExactDict/\o.data=.dict es ep/\es.toList=xs.map (entryOfKey (tupleKind (cq P w)))/\(xs.map (·.1)).Nodup
 | .set S n=>h.SetOf (intKind P w) a S n
 | .ins C dx fs=>H dx=some (.own a)/\fs.length≤1000/\dx≠a/\h.get? a=some (PySem.W.instObj C dx) ∧
   ∃mA,h.Ns1 dx mA/\(∀f,kI (fs.lookup f) (mA f))/\PySem.Within mA (fs.map (·.1))
 | .own _=>∃o,h.get? a=some o
 | .xd fs=>∃mA,h.Ns1 a mA/\∀f,kI (fs.lookup f) (mA f)
 | .oZ lo hi=>∃t u v,h.get? a=some { cls:=.type "range",data:=.fields #[.int lo t,.int hi u,.int 1 v] }
 | .oS o u=>h.get? a=some o/\bG H h a u
 | .iR ps=>h.get? a=some { cls:=.none,data:=.fields ps }
 | .met f x=>h.get? a=some (PySem.W.methodObj (.ref f) (.ref x))
 | .ext φ=>φ h/\(∃o,h.get? a=some o)/\∀h1 h2:Heap,φ h1->(∀o,h1.get? a=some o->h2.get? a=some o)->φ h2
noncomputable def gK (H:Hp) (h:Heap):Prop:=∀a o,H a=some o->bG P w H h a o
end
section
variable {P:Program} {w:World} {H H':Hp} {h h':Heap} {a:Addr} {o:HO}
theorem bG.lt (x:bG P w H h a o):a<h.objs.size:=by
 cases o with
 | lst xs=>obtain⟨_,_,_,_,e⟩:=x; exact Heap.lt_size e
 | tup xs=>obtain⟨_,_,_,p⟩:=x; exact p.lt
 | dK aw=>obtain⟨_,_,_,_,o,_,_,e,_⟩:=x; exact Heap.lt_size e
 | dT aw=>obtain⟨_,_,_,_,o,_,_,e,_⟩:=x; exact Heap.lt_size e
 | set S n=>obtain⟨o,_,_,_,e,_⟩:=x; exact Heap.lt_size e
 | ins C dx fs=>obtain⟨_,_,_,e,_⟩:=x; exact Heap.lt_size e
 | own y=>obtain⟨_,e⟩:=x; exact Heap.lt_size e
 | xd fs=>obtain⟨_,⟨_,_,_,e,_⟩,_⟩:=x; exact Heap.lt_size e
 | oZ lo hi=>obtain⟨_,_,_,e⟩:=x; exact Heap.lt_size e
 | oS ob u=>obtain⟨e,_⟩:=x; exact Heap.lt_size e
 | iR ps=>exact Heap.lt_size (show h.get? a=some _ from x)
 | met f y=>exact Heap.lt_size (show h.get? a=some _ from x)
 | ext φ=>obtain⟨_,⟨_,e⟩,_⟩:=x; exact Heap.lt_size e
theorem Paired.yb {α β:Type} {F G:α->β->Prop}:∀{l₁:List α} {l₂:List β},Paired F l₁ l₂->(∀a b,F a b->G a b)->Paired G l₁ l₂
 | _,_,.nil,_=>.nil
 | _,_,.cons r t,f=>.cons (f _ _ r) (Paired.yb t f)
theorem bG.my (x:bG P w H h a o) (k:∀b u,(b=a\/H b=some (.own a))->h.get? b=some u->h'.get? b=some u)
  (ho:∀b,H b=some (.own a)->H' b=some (.own a)) (ht:∀b xs,H b=some (.tup xs)->H' b=some (.tup xs)):bG P w H' h' a o:=by
 induction o with
 | lst xs=>obtain⟨z,aD,n,r,e⟩:=x; exact⟨z,aD,n,r,k _ _ (.inl rfl) e⟩
 | tup xs=>obtain⟨z,aD,r,ob,e,c⟩:=x; exact⟨z,aD,r,ob,k _ _ (.inl rfl) e,c⟩
 | dK aw=>obtain⟨z,y,vs,r,ob,es,ep,e,c⟩:=x; exact⟨z,y,vs,r,ob,es,ep,k _ _ (.inl rfl) e,c⟩
 | dT aw =>
  obtain⟨z,y,xs,r,ob,es,ep,e,c⟩:=x
  exact⟨z,y,xs,Paired.yb r fun p q z=>⟨z.1,ht _ _ z.2.1,z.2.2⟩,ob,es,ep,k _ _ (.inl rfl) e,c⟩
 | set S n=>obtain⟨ob,es,ep,t,e,c⟩:=x; exact⟨ob,es,ep,t,k _ _ (.inl rfl) e,c⟩
 | ins C dx fs =>
  obtain⟨d,z,ne,e,mA,⟨od,es,ep,e2,c⟩,r⟩:=x
  exact⟨ho _ d,z,ne,k _ _ (.inl rfl) e,mA,⟨od,es,ep,k _ _ (.inr d) e2,c⟩,r⟩
 | own y=>obtain⟨ob,e⟩:=x; exact⟨ob,k _ _ (.inl rfl) e⟩
 | xd fs=>obtain⟨mA,⟨od,es,ep,e,c⟩,r⟩:=x; exact⟨mA,⟨od,es,ep,k _ _ (.inl rfl) e,c⟩,r⟩
 | oZ lo hi=>obtain⟨t,u,v,e⟩:=x; exact⟨t,u,v,k _ _ (.inl rfl) e⟩
 | oS ob u ih=>obtain⟨e,q⟩:=x; exact⟨k _ _ (.inl rfl) e,ih q⟩
 | iR ps =>
  have e:h.get? a=some { cls:=.none,data:=.fields ps }:=x
  show h'.get? a=some { cls:=.none,data:=.fields ps }
  exact k a _ (.inl rfl) e
 | met f y =>
  have e:h.get? a=some (PySem.W.methodObj (.ref f) (.ref y)):=x
  show h'.get? a=some (PySem.W.methodObj (.ref f) (.ref y))
  exact k a _ (.inl rfl) e
 | ext φ=>obtain⟨p,⟨o,e⟩,st⟩:=x; exact⟨st _ _ p fun o q=>k _ _ (.inl rfl) q,⟨o,k _ _ (.inl rfl) e⟩,st⟩
theorem gK.lt (x:gK P w H h) (e:H a=some o):a<h.objs.size:=(x a o e).lt
theorem gK.fresh (x:gK P w H h) (e:h.objs.size≤a):H a=none:=by
 cases q:H a with
 | none=>rfl
 | some u=>exact absurd (Nat.lt_of_lt_of_le (x.lt q) e) (Nat.lt_irrefl _)
theorem gK.kept (x:gK P w H h) (k:∀b u,h.get? b=some u->h'.get? b=some u):gK P w H h':=fun a o e =>
 (x a o e).my (fun b u _ q=>k b u q) (fun _ q=>q) fun _ _ q=>q
theorem gK.laid (x:gK P w H h) (k:∀b u,h.get? b=some u->h'.get? b=some u) (hp:h.objs.size≤a) (new:bG P w (upd H a o) h' a o):gK P w (upd H a o) h':=fun b u e=>by
 have hn:=x.fresh hp
 by_cases hb:b=a
 ·subst hb; rw[aF] at e; cases e; exact new
 ·rw[av hb] at e
  exact(x b u e).my (fun c v _ q=>k c v q) (fun c q=>by rw[av (aE q hn)]; exact q) fun c xs q=>by rw[av (aE q hn)]; exact q
end
noncomputable def Rd (H:Hp) (a:Addr) (u:HO):Prop:=H a=some u\/∃o,H a=some (.oS o u)
theorem Rd.ok {P:Program} {w:World} {H:Hp} {h:Heap} {a:Addr} {u:HO} (r:Rd H a u) (x:gK P w H h):bG P w H h a u:=by
 rcases r with r | ⟨o,r⟩
 ·exact x a u r
 ·obtain⟨_,q⟩:=x a _ r
  exact q
noncomputable def Dj:Option HO->Prop
 | some (.lst _)=>True
 | some (.dK _)=>True
 | some (.dT _)=>True
 | some (.set _ _)=>True
 | some (.ins _ _ _)=>True
 | some (.ext _)=>True
 | _=>False
section
variable {P:Program} {w:World} {H:Hp} {h h':Heap} {x e:Addr} {o':HO}
theorem gK.write (ok:gK P w H h) (mu:Dj (H x)) (he:e=x\/H e=some (.own x)) (k:∀b u,b≠e->h.get? b=some u->h'.get? b=some u) (C0:∃u,h'.get? e=some u)
  (new:bG P w (upd H x o') h' x o'):gK P w (upd H x o') h':=fun b u q=>by
 have Dk:∀c y,H c=some (.own y)->c≠x:=fun c y r z=>by subst z; rw[r] at mu; exact mu
 have Gw:∀c xs,H c=some (.tup xs)->c≠x:=fun c xs r z=>by subst z; rw[r] at mu; exact mu
 by_cases hb:b=x
 ·subst hb; rw[aF] at q; cases q; exact new
 ·rw[av hb] at q
  by_cases AY:b=e
  ·have q':H b=some (.own x):=by
    rcases he with z | z
    ·exact absurd (AY.trans z) hb
    ·rw[AY]; exact z
   rw[q] at q'; cases q'
   obtain⟨v,hv⟩:=C0
   exact⟨v,by rw[AY]; exact hv⟩
  ·refine(ok b u q).my (fun c v hc r=>k c v ?_ r) (fun c r=>by rw[av (Dk c b r)]; exact r) fun c xs r=>by rw[av (Gw c xs r)]; exact r
   rcases hc with rfl | hc
   ·exact AY
   ·rintro rfl
    rcases he with z | z
    ·exact Dk c b hc z
    ·rw[hc] at z; cases z; exact hb rfl
end
structure Un (fs ex:List Addr) (H H':Hp) (h h':Heap):Prop where
 keep:∀b o,h.get? b=some o->H b=none->b∉fs->b∉ex->h'.get? b=some o
 slot:∀b o,h.get? b=some o->H b=none->b∈fs->b∉ex->∃sl,h'.get? b=some { o with slots:=sl }
 free:∀b o,h.get? b=some o->H b=none->b∉ex->H' b=none
 there:∀b o,h.get? b=some o->b∉ex->∃o',h'.get? b=some o'
 fV:∀b xs,H b=some (.tup xs)->H' b=some (.tup xs)
 fL:∀b o u,H b=some (.oS o u)->H' b=some (.oS o u)
 fW:∀b ps,H b=some (.iR ps)->∃more,H' b=some (.iR (ps++more))
section
variable {fs Ai ex LU:List Addr} {H H1 H2:Hp} {h h1 h2 h':Heap} {a x e:Addr} {o:HO}
theorem Un.any (u:Un fs ex H H1 h h1) {b:Addr} {ob:Obj} (q:h.get? b=some ob) (n:H b=none) (hx:b∉ex):∃sl,h1.get? b=some { ob with slots:=sl }:=by
 by_cases hb:b∈fs
 ·exact u.slot b ob q n hb hx
 ·exact⟨ob.slots,u.keep b ob q n hb hx⟩
theorem Un.trans (a:Un fs ex H H1 h h1) (b:Un fs ex H1 H2 h1 h2):Un fs ex H H2 h h2 where
 keep:=fun c ob q n hc hx=>b.keep c ob (a.keep c ob q n hc hx) (a.free c ob q n hx) hc hx
 slot:=fun c ob q n hc hx=>by
  obtain⟨sl,e1⟩:=a.slot c ob q n hc hx
  obtain⟨xR,e2⟩:=b.slot c _ e1 (a.free c ob q n hx) hc hx
  exact⟨xR,e2⟩
 free:=fun c ob q n hx=>by
  obtain⟨o',e1⟩:=a.there c ob q hx
  exact b.free c o' e1 (a.free c ob q n hx) hx
 there:=fun c ob q hx=>by
  obtain⟨o',e1⟩:=a.there c ob q hx
  exact b.there c o' e1 hx
 fV:=fun c xs q=>b.fV c xs (a.fV c xs q)
 fL:=fun c ob xs q=>b.fL c ob xs (a.fL c ob xs q)
 fW:=fun c ps q=>by
  obtain⟨m1,e1⟩:=a.fW c ps q
  obtain⟨m2,e2⟩:=b.fW c _ e1
  exact⟨m1++m2,by rw[e2,Array.append_assoc]⟩
theorem Un.kept (k:∀b u,h.get? b=some u->h'.get? b=some u):Un fs ex H H h h' :=
 ⟨fun b ob q _ _ _=>k b ob q,fun b ob q _ _ _=>⟨ob.slots,k b ob q⟩,fun _ _ _ n _=>n,fun b ob q _=>⟨ob,k b ob q⟩,fun _ _ q=>q,fun _ _ _ q=>q,fun _ ps q=>⟨#[],by rw[q]; simp⟩⟩
theorem Un.refl:Un fs ex H H h h:=Un.kept fun _ _ q=>q
theorem Un.laid (k:∀b u,h.get? b=some u->h'.get? b=some u) (hp:h.objs.size≤a) (hn:H a=none):Un fs ex H (upd H a o) h h' where
 keep:=fun b u q _ _ _=>k b u q
 slot:=fun b u q _ _ _=>⟨u.slots,k b u q⟩
 free:=fun b u q n _=>by rw[av (Nat.ne_of_lt (Nat.lt_of_lt_of_le (Heap.lt_size q) hp))]; exact n
 there:=fun b u q _=>⟨u,k b u q⟩
 fV:=fun b xs q=>by rw[av (aE q hn)]; exact q
 fL:=fun b u xs q=>by rw[av (aE q hn)]; exact q
 fW:=fun b ps q=>⟨#[],by rw[av (aE q hn),q]; simp⟩
theorem Un.write (mu:Dj (H x)) (he:e=x\/H e=some (.own x)) (k:∀b u,b≠e->h.get? b=some u->h'.get? b=some u) (C0:∃u,h'.get? e=some u):Un fs ex H (upd H x o) h h':=by
 have hx:∀b,H b=none->b≠x:=fun b n z=>by subst z; rw[n] at mu; exact mu
 have hb:∀b,H b=none->b≠e:=fun b n z=>by
  subst z
  rcases he with r | r
  ·exact hx b n r
  ·rw[n] at r; cases r
 have hm:∀b u,H b=some u->¬Dj (some u)->b≠x:=fun b u q nm z=>by subst z; rw[q] at mu; exact nm mu
 refine⟨fun b u q n _ _=>k b u (hb b n) q,fun b u q n _ _=>⟨u.slots,k b u (hb b n) q⟩,fun b u q n _=>by rw[av (hx b n)]; exact n,fun b u q _=>?_,
  fun b xs q=>by rw[av (hm b _ q fun z=>z)]; exact q,fun b u xs q=>by rw[av (hm b _ q fun z=>z)]; exact q,fun b ps q=>⟨#[],by rw[av (hm b _ q fun z=>z),q]; simp⟩⟩
 by_cases AY:b=e
 ·subst AY; exact C0
 ·exact⟨u,k b u AY q⟩
end
noncomputable def Aj (h:Heap) (H:Hp):List Addr:=(List.range h.objs.size).filter fun a=>(H a).isSome
noncomputable def nE (h:Heap) (H:Hp):Heap:=PySem.W.hideAll h (Aj h H)
theorem tT (h:Heap) (H:Hp):(nE h H).objs.size=h.objs.size:=PySem.W.hideAll_size _ _
theorem vx {h:Heap} {H:Hp} {b:Addr} {o:Obj} (e:h.get? b=some o) (n:H b=none):(nE h H).get? b=some o :=
 PySem.W.hideAll_get _ e fun hm=>by
  have q:(H b).isSome=true:=(List.mem_filter.mp hm).2
  rw[n] at q; simp at q
theorem yc {h:Heap} {H:Hp} {b:Addr} {o:Obj} (e:(nE h H).get? b=some o):h.get? b=some o/\H b=none:=by
 have e':h.get? b=some o:=PySem.W.of_hideAll (Aj h H) e
 refine⟨e',?_⟩
 cases q:H b with
 | none=>rfl
 | some x =>
  have hm:b∈Aj h H:=List.mem_filter.mpr ⟨List.mem_range.mpr (Heap.lt_size e'),by simp[q]⟩
  have z:(nE h H).get? b=none:=PySem.W.hideAll_none (Aj h H) hm
  rw[z] at e; cases e
noncomputable def yd (g h:Heap) (L:Addr):List (Addr×Obj):=(List.range h.objs.size).filterMap fun a=>if a=L\/(g.get? a).isSome=true then none else(h.get? a).map fun o=>(a,o)
noncomputable def rest (g h:Heap) (L d:Addr):List (Addr×Obj):=(yd g h L).filter fun p=>decide (p.1≠d)
end L2
namespace L2
open PySem PySem.Spec PyProof.Rows
structure Mod (K:Fg) (mg:Str->Option Value) (base:Heap):Prop where
 Dl:K.In base
 glob:base.Ns mainGlobals mg
 blt:∃mb,base.Ns builtinsNs mb/\∀x:Str,x ≠ "__name__" -> mb x=bootBuiltins x
 nolimit:base.NoLimit
structure Cx where
 prog:Program
 w:World
 K:Fg
 mg:Str->Option Value
 base:Heap
 A:Around
 N:List Str
 s₀:Shared
 H₀:Hp
 env:Env
 outer:List Env
 stack:List Env
 ex:List Addr
 fn:Str->Bool
 calm:Bool
 pn:List (Addr×Obj)
 xe:Value->Shared->Prop
noncomputable def gU (l:List Env):List Addr:=l.filterMap (·.frame)
noncomputable abbrev Cx.fs (X:Cx):List Addr:=gU X.outer
noncomputable def Gx (sc:Scope) (x:Str):Prop:=sc.names.lookup x=some .local \/ sc.names.lookup x=some .cell\/sc.names.lookup x=some .free
noncomputable def Loc (sc:Scope) (x:Str):Prop:=sc.names.lookup x=some .local \/ sc.names.lookup x=some .cell
noncomputable def Look (env:Env) (h:Heap) (m:Str->Option Value) (x:Str) (u:Value):Prop :=
 (env.kindOf x=some .local /\ m x=some u)\/((env.kindOf x=some .cell\/env.kindOf x=some .free)/\∃c,env.cells.lookup x=some c/\h.IsCell c (some u))
structure Cx.Ok (X:Cx):Prop where
 mod:Mod X.K X.mg X.base
 kind:X.env.scope.kind=.function
 glob:X.env.globals=mainGlobals
 blt:X.env.builtins=builtinsNs
 above:X.s₀.heap.objs.size≤X.env.locals
 inj:∀x y c,X.env.cells.lookup x=some c->X.env.cells.lookup y=some c->x=y
 has:∀x,(X.env.kindOf x=some .cell\/X.env.kindOf x=some .free)->∃c,X.env.cells.lookup x=some c
 Dm:∀x c,X.fn x=true->X.env.cells.lookup x=some c->X.s₀.heap.objs.size≤c
 hd:X.calm=true->X.A.handled=none
 frames:X.A.frames=some X.stack
 Fz:X.stack=X.outer\/(X.stack=X.env::X.outer/\X.env.frame=some X.env.locals)
 IH:∀b∈X.ex,b≠X.env.locals/\∀x c,X.env.cells.lookup x=some c->c≠b
 bs:∀b o,X.base.get? b=some o->X.s₀.heap.get? b=some o/\X.H₀ b=none
 xS:X.base.objs.size≤X.s₀.heap.objs.size
 vy:∀b o,X.base.get? b=some o->b∉X.ex
 ye:∀b∈X.ex,b∉X.fs
 kJ:X.s₀.heap.FunFrames X.base X.outer
 AZ:∀b∈X.fs,X.H₀ b=none
structure Inv (X:Cx) (pins:List (Addr×Obj)) (σ:List (Option V)) (H:Hp) (s:Shared):Prop where
 ok:X.Ok
 os:s.os=X.s₀.os
 bare:AllBare s.gens
 base:Un X.fs X.ex X.H₀ H X.s₀.heap s.heap
 loc:∃m,s.heap.Ns X.env.locals m/\∀(i:Nat) (x:Str) (v:V),X.N[i]? = some x->σ[i]? = some (some v)->Gx X.env.scope x->∃u,RelV v u/\Look X.env s.heap m x u
 cell:∀x c,X.env.cells.lookup x=some c->∃v,s.heap.IsCell c v
 free:H X.env.locals=none
 gL:∀x c,X.env.cells.lookup x=some c->H c=none
 pin:∀p∈X.pn++pins,s.heap.get? p.1=some p.2/\H p.1=none/\p.1≠X.env.locals/\p.1∉X.fs/\∀v,p.2.data≠.cell v
 aX:gK X.prog X.w H s.heap
 len:σ.length=X.N.length
section
variable {X:Cx} {pins:List (Addr×Obj)} {σ:List (Option V)} {H H':Hp} {s:Shared} {h':Heap}
theorem Cx.Ok.Gy (ok:X.Ok) {b:Addr} {o:Obj} (e:X.base.get? b=some o):b∉X.fs:=fun hb=>by
 have:=(ok.kJ.mem hb).1
 rw[e] at this; cases this
theorem Inv.bs (I:Inv X pins σ H s):∀b o,X.base.get? b=some o->s.heap.get? b=some o/\H b=none:=fun b o e =>
 ⟨I.base.keep b o (I.ok.bs b o e).1 (I.ok.bs b o e).2 (I.ok.Gy e) (I.ok.vy b o e),I.base.free b o (I.ok.bs b o e).1 (I.ok.bs b o e).2 (I.ok.vy b o e)⟩
theorem Inv.bk (I:Inv X pins σ H s):∀b o,X.base.get? b=some o->s.heap.get? b=some o:=fun b o e=>(I.bs b o e).1
theorem Inv.mod (I:Inv X pins σ H s):Mod X.K X.mg X.base:=I.ok.mod
theorem Inv.rT (I:Inv X pins σ H s):X.K.In s.heap:=I.ok.mod.Dl.keeps I.bk
theorem Inv.fr (I:Inv X pins σ H s):∃m,Fr X.base X.env.locals s.heap m :=
 let⟨m,hn,_⟩:=I.loc
 ⟨m,hn,I.bk,Nat.le_trans I.ok.xS I.ok.above⟩
theorem Inv.lt (I:Inv X pins σ H s):X.env.locals<s.heap.objs.size:=let⟨_,hn,_⟩:=I.loc; hn.lt
theorem Inv.sz (I:Inv X pins σ H s):X.s₀.heap.objs.size≤s.heap.objs.size:=Nat.le_trans I.ok.above (Nat.le_of_lt I.lt)
theorem Inv.Gz (I:Inv X pins σ H s) {a:Addr} (h:s.heap.objs.size≤a):a∉X.fs:=fun hb=>by
 obtain⟨_,o,ho,_⟩:=I.ok.kJ.mem hb
 exact absurd (Nat.lt_of_lt_of_le (Heap.lt_size ho) (Nat.le_trans I.sz h)) (Nat.lt_irrefl _)
theorem Inv.yf (I:Inv X pins σ H s):∀x c,X.env.cells.lookup x=some c->c≠X.env.locals:=fun x c e z=>by
 obtain⟨v,o,ho,hd⟩:=I.cell x c e
 obtain⟨m,⟨o',es,ep,mS,A0,_⟩,_⟩:=I.loc
 rw[z,mS] at ho; cases ho; rw[A0] at hd; cases hd
theorem Inv.kJ (I:Inv X pins σ H s):s.heap.FunFrames X.base X.outer:=by
 have all:∀(l:List Env),(∀b∈gU l,b∈X.fs)->X.s₀.heap.FunFrames X.base l->s.heap.FunFrames X.base l:=by
  intro l
  induction l with
  | nil=>intro _ _; trivial
  | cons env r ih =>
   intro hs hl
   obtain⟨hk,⟨L,o,hf,hn,ho,hd⟩,hr⟩:=hl
   have hL:L∈X.fs:=hs L (by unfold gU; rw[List.filterMap_cons,hf]; exact List.mem_cons_self)
   obtain⟨sl,e⟩:=I.base.slot L o ho (I.ok.AZ L hL) hL fun z=>I.ok.ye L z hL
   exact⟨hk,⟨L,_,hf,hn,e,hd⟩,ih (fun b hb=>hs b (by unfold gU; rw[List.filterMap_cons,hf]; exact List.mem_cons_of_mem _ hb)) hr⟩
 exact all X.outer (fun _ hb=>hb) I.ok.kJ
theorem Inv.stack (I:Inv X pins σ H s):s.heap.FunFrames X.base X.stack:=by
 rcases I.ok.Fz with e | ⟨e,hf⟩
 ·rw[e]; exact I.kJ
 ·rw[e]
  obtain⟨m,hn,_⟩:=I.loc
  refine .cons (by rw[I.ok.kind]; decide) hf hn ?_ I.kJ
  exact Heap.get?_none_of_le (Nat.le_trans I.ok.xS I.ok.above)
theorem Inv.nF (I:Inv X pins σ H s):∀b∈gU X.stack,b∈X.env.locals::X.fs:=fun b hb=>by
 rcases I.ok.Fz with e | ⟨e,hf⟩
 ·rw[e] at hb; exact List.mem_cons_of_mem _ hb
 ·rw[e] at hb
  unfold gU at hb
  rw[List.filterMap_cons,hf] at hb
  exact hb
theorem Inv.nG (I:Inv X pins σ H s):∀b∈gU X.stack,H b=none:=fun b hb=>by
 rcases List.mem_cons.mp (I.nF b hb) with e | hb
 ·rw[e]; exact I.free
 ·obtain⟨_,o,ho,_⟩:=I.ok.kJ.mem hb
  exact I.base.free b o ho (I.ok.AZ b hb) fun z=>I.ok.ye b z hb
theorem Inv.step {g':Array GenState} {t':Nat} {d':Drawn} {ch:List Addr} (I:Inv X pins σ H s)
  (xT:∀b∈ch,(b∈X.ex\/X.s₀.heap.objs.size≤b)/\b≠X.env.locals/\(∀x c,X.env.cells.lookup x=some c->c≠b)/\∀p∈X.pn++pins,p.1≠b)
  (keep:∀b o,b≠X.env.locals->b∉X.fs->b∉ch->s.heap.get? b=some o->H b=none->h'.get? b=some o)
  (slot:∀b o,b≠X.env.locals->b∈X.fs->b∉ch->s.heap.get? b=some o->H b=none->∃sl,h'.get? b=some { o with slots:=sl }) (free:∀b o,b∉ch->s.heap.get? b=some o->H b=none->H' b=none)
  (there:∀b o,b∉ch->s.heap.get? b=some o->∃o',h'.get? b=some o')
  (fV:∀b xs,H b=some (.tup xs)->H' b=some (.tup xs)) (fL:∀b o u,H b=some (.oS o u)->H' b=some (.oS o u)) (fW:∀b ps,H b=some (.iR ps)->∃more,H' b=some (.iR (ps++more)))
  (ns:∀m,s.heap.Ns X.env.locals m->h'.Ns X.env.locals m) (aX:gK X.prog X.w H' h') (hg:AllBare g') :
  Inv X pins σ H' { s with heap:=h',gens:=g',drawn:=d',toks:=t' }:=by
 have II:∀b o,X.s₀.heap.get? b=some o->b≠X.env.locals:=fun b o e=>Nat.ne_of_lt (Nat.lt_of_lt_of_le (Heap.lt_size e) I.ok.above)
 have FA:∀b o,X.s₀.heap.get? b=some o->b∉X.ex->b∉ch:=fun b o e hx hb=>by
  rcases(xT b hb).1 with z | z
  ·exact hx z
  ·exact absurd (Nat.lt_of_lt_of_le (Heap.lt_size e) z) (Nat.lt_irrefl _)
 have cellK:∀x c,X.env.cells.lookup x=some c->∀v,s.heap.IsCell c v->h'.IsCell c v:=fun x c e v ⟨o,ho,hd⟩=>by
  have Dn:c∉ch:=fun z=>(xT c z).2.2.1 x c e rfl
  by_cases hc:c∈X.fs
  ·obtain⟨sl,q⟩:=slot c o (I.yf x c e) hc Dn ho (I.gL x c e)
   exact⟨_,q,hd⟩
  ·exact⟨o,keep c o (I.yf x c e) hc Dn ho (I.gL x c e),hd⟩
 refine⟨I.ok,I.os,hg,⟨fun b o e n hb hx=>?_,fun b o e n hb hx=>?_,fun b o e n hx=>?_,fun b o e hx=>?_,fun b xs e=>fV b xs (I.base.fV b xs e),fun b o xs e=>fL b o xs (I.base.fL b o xs e),fun b ps e=>?_⟩,?_,fun x c e=>?_,?_,fun x c e=>?_,fun p hp=>?_,aX,I.len⟩
 ·exact keep b o (II b o e) hb (FA b o e hx) (I.base.keep b o e n hb hx) (I.base.free b o e n hx)
 ·obtain⟨sl,e1⟩:=I.base.slot b o e n hb hx
  obtain⟨xR,e2⟩:=slot b _ (II b o e) hb (FA b o e hx) e1 (I.base.free b o e n hx)
  exact⟨xR,e2⟩
 ·obtain⟨o',e1⟩:=I.base.there b o e hx
  exact free b o' (FA b o e hx) e1 (I.base.free b o e n hx)
 ·obtain⟨o',e1⟩:=I.base.there b o e hx
  exact there b o' (FA b o e hx) e1
 ·obtain⟨m1,e1⟩:=I.base.fW b ps e
  obtain⟨m2,e2⟩:=fW b _ e1
  exact⟨m1++m2,by rw[e2,Array.append_assoc]⟩
 ·obtain⟨m,hn,hl⟩:=I.loc
  refine⟨m,ns m hn,fun i x v e1 e2 e3=>?_⟩
  obtain⟨u,r,l⟩:=hl i x v e1 e2 e3
  refine⟨u,r,?_⟩
  rcases l with l | ⟨k,c,e,z⟩
  ·exact .inl l
  ·exact .inr ⟨k,c,e,cellK x c e _ z⟩
 ·obtain⟨v,z⟩:=I.cell x c e
  exact⟨v,cellK x c e v z⟩
 ·obtain⟨m,⟨o,_,_,ho,_⟩,_⟩:=I.loc
  exact free _ o (fun z=>(xT _ z).2.1 rfl) ho I.free
 ·obtain⟨v,o,ho,hd⟩:=I.cell x c e
  exact free c o (fun z=>(xT c z).2.2.1 x c e rfl) ho (I.gL x c e)
 ·obtain⟨e,n,ne,nf,d⟩:=I.pin p hp
  have Dn:p.1∉ch:=fun z=>(xT p.1 z).2.2.2 p hp rfl
  exact⟨keep p.1 p.2 ne nf Dn e n,free p.1 p.2 Dn e n,ne,nf,d⟩
theorem Inv.un {t':Nat} (I:Inv X pins σ H s) (u:Un X.fs [] H H' s.heap h') (aX:gK X.prog X.w H' h'):Inv X pins σ H' { s with heap:=h',toks:=t' }:=by
 obtain⟨m,⟨o,es,ep,ho,r⟩,_⟩:=id I.loc
 obtain⟨sl,hL⟩:=u.any ho I.free (by simp)
 exact I.step (g':=s.gens) (d':=s.drawn) (ch:=[]) (fun _ z=>nomatch z) (fun b o _ hb _ e n=>u.keep b o e n hb (by simp)) (fun b o _ hb _ e n=>u.slot b o e n hb (by simp)) (fun b o _ e n=>u.free b o e n (by simp)) (fun b o _ e=>u.there b o e (by simp)) u.fV u.fL u.fW (fun m' hm=>by
  obtain⟨o',qr,Dp,mS,r'⟩:=hm
  rw[ho] at mS; cases mS
  exact⟨_,qr,Dp,hL,r'⟩) aX I.bare
theorem Inv.call {g':Array GenState} {t':Nat} {d':Drawn} {ch:List Addr} (I:Inv X pins σ H s) (u:Un (gU X.stack) ch H H' s.heap h') (aX:gK X.prog X.w H' h') (hg:AllBare g')
  (xT:∀b∈ch,(b∈X.ex\/X.s₀.heap.objs.size≤b)/\b≠X.env.locals/\(∀x c,X.env.cells.lookup x=some c->c≠b)/\∀p∈X.pn++pins,p.1≠b) :
  Inv X pins σ H' { s with heap:=h',gens:=g',drawn:=d',toks:=t' }:=by
 obtain⟨m,⟨o,es,ep,ho,r⟩,_⟩:=id I.loc
 obtain⟨sl,hL⟩:=u.any ho I.free fun z=>(xT _ z).2.1 rfl
 exact I.step (ch:=ch) xT (fun b o hL hb hc e n=>u.keep b o e n (fun z=>(List.mem_cons.mp (I.nF b z)).elim hL hb) hc) (fun b o _ _ hc e n=>u.any e n hc) (fun b o hc e n=>u.free b o e n hc) (fun b o hc e=>u.there b o e hc) u.fV u.fL u.fW (fun m' hm=>by
  obtain⟨o',qr,Dp,mS,r'⟩:=hm
  rw[ho] at mS; cases mS
  exact⟨_,qr,Dp,hL,r'⟩) aX hg
theorem Inv.turned {t':Nat} {it:Addr} (I:Inv X pins σ H s) (k:∀b o,b≠it->s.heap.get? b=some o->h'.get? b=some o) (hn:H it=none) (hL:it≠X.env.locals)
  (h1:it∈X.ex\/X.s₀.heap.objs.size≤it) (h2:∀x c,X.env.cells.lookup x=some c->c≠it) (h3:∀p∈X.pn++pins,p.1≠it):Inv X pins σ H { s with heap:=h',toks:=t' }:=by
 have Ak:∀b u,H b=some u->b≠it:=fun b u e z=>by rw[z,hn] at e; cases e
 refine I.step (g':=s.gens) (d':=s.drawn) (ch:=[it]) (fun b hb=>?_) (fun b o _ _ hc e _=>k b o (fun z=>hc (by simp[z])) e) (fun b o _ _ hc e _=>⟨o.slots,k b o (fun z=>hc (by simp[z])) e⟩) (fun _ _ _ _ n=>n)
  (fun b o hc e=>⟨o,k b o (fun z=>hc (by simp[z])) e⟩) (fun _ _ e=>e) (fun _ _ _ e=>e) (fun b ps e=>⟨#[],by rw[e]; simp⟩) (fun m hm=>?_) (fun b u e=>?_) I.bare
 ·have e:b=it:=by simpa using hb
  subst e
  exact⟨h1,hL,h2,h3⟩
 ·obtain⟨o,es,ep,ho,r⟩:=hm
  exact⟨o,es,ep,k _ o (Ne.symm hL) ho,r⟩
 ·refine(I.aX b u e).my (fun c v hc q=>k c v ?_ q) (fun _ q=>q) fun _ _ q=>q
  rcases hc with z | z
  ·rw[z]; exact Ak b u e
  ·exact Ak c _ z
theorem Inv.tok (I:Inv X pins σ H s) (t:Nat):Inv X pins σ H { s with toks:=t }:=I.un (h':=s.heap) (t':=t) Un.refl I.aX
theorem Inv.kept {t':Nat} (I:Inv X pins σ H s) (k:∀b u,s.heap.get? b=some u->h'.get? b=some u):Inv X pins σ H { s with heap:=h',toks:=t' }:=I.un (Un.kept k) (I.aX.kept k)
theorem Inv.laid {a:Addr} {o:HO} {t':Nat} (I:Inv X pins σ H s) (k:∀b u,s.heap.get? b=some u->h'.get? b=some u) (hp:s.heap.objs.size≤a) (new:bG X.prog X.w (upd H a o) h' a o) :
  Inv X pins σ (upd H a o) { s with heap:=h',toks:=t' }:=I.un (Un.laid k hp (I.aX.fresh hp)) (I.aX.laid k hp new)
theorem Inv.write {x e:Addr} {o:HO} {t':Nat} (I:Inv X pins σ H s) (mu:Dj (H x)) (he:e=x\/H e=some (.own x)) (k:∀b u,b≠e->s.heap.get? b=some u->h'.get? b=some u) (C0:∃u,h'.get? e=some u)
  (new:bG X.prog X.w (upd H x o) h' x o):Inv X pins σ (upd H x o) { s with heap:=h',toks:=t' }:=I.un (Un.write mu he k C0) (I.aX.write mu he k C0 new)
theorem Inv.weak {σ':List (Option V)} (I:Inv X pins σ H s) (hl:σ'.length=σ.length) (w:∀(i:Nat) v,σ'[i]? = some (some v)->σ[i]? = some (some v)):Inv X pins σ' H s :=
 ⟨I.ok,I.os,I.bare,I.base,let⟨m,hn,FC⟩:=I.loc; ⟨m,hn,fun i x v e1 e2 e3=>FC i x v e1 (w i v e2) e3⟩,I.cell,I.free,I.gL,I.pin,I.aX,hl.trans I.len⟩
theorem Inv.rV {mT:List (Addr×Obj)} (I:Inv X pins σ H s) (h:∀p∈mT,s.heap.get? p.1=some p.2/\H p.1=none/\p.1≠X.env.locals/\p.1∉X.fs/\∀v,p.2.data≠.cell v):Inv X mT σ H s :=
 ⟨I.ok,I.os,I.bare,I.base,I.loc,I.cell,I.free,I.gL,fun p hp=>(List.mem_append.mp hp).elim (fun z=>I.pin p (List.mem_append_left _ z)) (h p),I.aX,I.len⟩
theorem lj {N:List Str} (hN:N.Nodup) {i j:Nat} {x:Str} (a:N[i]? = some x) (b:N[j]? = some x):i=j:=by
 obtain⟨h1,e1⟩:=List.getElem?_eq_some_iff.mp a
 obtain⟨h2,e2⟩:=List.getElem?_eq_some_iff.mp b
 exact(List.getElem_inj hN).mp (e1.trans e2.symm)
theorem tU {M:Model} {A:Around} {E:Value->Shared->Prop} {i:Nat} {x:Str} {v:V} {u:Value} {Q:Unit->Shared->Prop} (I:Inv X pins σ H s) (hN:X.N.Nodup) (hi:X.N[i]? = some x) (hx:Loc X.env.scope x) (r:RelV v u)
  (h:∀s',Inv X pins (σ.set i (some v)) H s'->(∃a,Heap.SameBut a s.heap s'.heap/\(a=X.env.locals\/X.env.cells.lookup x=some a))->Q () s') (hf:X.fn x=true\/X.env.scope.names.lookup x=some .local := by first | exact .inl rfl | exact .inr rfl | assumption):wpAny M A (storeName X.env x u) Q E s:=by
 obtain⟨m,hn,hl⟩:=id I.loc
 have GA:(X.env.scope.kind == .class || (X.env.scope.kind == .module && X.env.locals != X.env.globals))=false:=by rw[I.ok.kind]; rfl
 have hiσ:i < σ.length:=by rw[I.len]; exact(List.getElem?_eq_some_iff.mp hi).1
 have yf:=I.yf
 have tracked:∀{a:Addr} {h':Heap},(∃o,s.heap.get? a=some o/\H a=none)->Heap.SameBut a s.heap h'->gK X.prog X.w H h':=fun {a h'} ha hs b ob e=>by
  obtain⟨_,_,Al⟩:=ha
  refine(I.aX b ob e).my (fun c w' hc q=>(hs.2 c ?_).trans q) (fun _ q=>q) fun _ _ q=>q
  rintro rfl
  rcases hc with rfl | hc
  ·rw[Al] at e; cases e
  ·rw[Al] at hc; cases hc
 rcases hx with hk | hk
 ·refine wpAny_storeName_local hk hn (fun h' FD hs=>?_) GA
  obtain⟨oL,_,_,JW,_⟩:=id hn
  refine h _ ⟨I.ok,I.os,I.bare,⟨fun b o e n hb hx=>?_,fun b o e n hb hx=>?_,I.base.free,fun b o e hx=>?_,I.base.fV,I.base.fL,I.base.fW⟩,⟨_,FD,fun j y v' e1 e2 e3=>?_⟩,fun y c e=>?_,I.free,I.gL,fun p hp=>?_,tracked ⟨oL,JW,I.free⟩ hs,by simpa using I.len⟩ ⟨_,hs,.inl rfl⟩
  ·exact(hs.2 b (Nat.ne_of_lt (Nat.lt_of_lt_of_le (Heap.lt_size e) I.ok.above))).trans (I.base.keep b o e n hb hx)
  ·obtain⟨sl,e1⟩:=I.base.slot b o e n hb hx
   exact⟨sl,(hs.2 b (Nat.ne_of_lt (Nat.lt_of_lt_of_le (Heap.lt_size e) I.ok.above))).trans e1⟩
  ·obtain⟨o',e1⟩:=I.base.there b o e hx
   exact⟨o',(hs.2 b (Nat.ne_of_lt (Nat.lt_of_lt_of_le (Heap.lt_size e) I.ok.above))).trans e1⟩
  ·by_cases hj:j=i
   ·subst hj
    rw[hi] at e1; cases e1
    rw[List.getElem?_set_self hiσ] at e2
    cases e2
    exact⟨u,r,.inl ⟨hk,by simp⟩⟩
   ·rw[List.getElem?_set_ne (Ne.symm hj)] at e2
    obtain⟨u',r',q⟩:=hl j y v' e1 e2 e3
    refine⟨u',r',?_⟩
    rcases q with⟨k,e⟩ | ⟨k,c,e,z⟩
    ·refine .inl ⟨k,?_⟩
     have:y≠x:=fun e=>hj (lj hN e1 (e ▸ hi))
     simp[this,e]
    ·exact .inr ⟨k,c,e,z.sameBut hs (yf y c e)⟩
  ·obtain⟨w',z⟩:=I.cell y c e
   exact⟨w',z.sameBut hs (yf y c e)⟩
  ·obtain⟨e,n,ne,nf,d⟩:=I.pin p hp
   exact⟨(hs.2 p.1 ne).trans e,n,ne,nf,d⟩
 ·have GB:X.fn x=true:=by
   rcases hf with z | z
   ·exact z
   ·rw[z] at hk; cases hk
  obtain⟨c,hc⟩:=I.ok.has x (.inl hk)
  obtain⟨w',z⟩:=I.cell x c hc
  refine wpAny_storeName_cell I.ok.kind hk hc z (fun h' mB hs=>?_)
  obtain⟨oc,IJ,GC⟩:=id z
  refine h { s with heap:=h' } ⟨I.ok,I.os,I.bare,⟨fun b o e n hb hx=>?_,fun b o e n hb hx=>?_,I.base.free,fun b o e hx=>?_,I.base.fV,I.base.fL,I.base.fW⟩,⟨m,hn.sameBut hs (Ne.symm (yf x c hc)),fun j y v' e1 e2 e3=>?_⟩,fun y c' e=>?_,I.free,I.gL,fun p hp=>?_,tracked ⟨oc,IJ,I.gL x c hc⟩ hs,by simpa using I.len⟩ ⟨c,hs,.inr hc⟩
  ·exact(hs.2 b (Nat.ne_of_lt (Nat.lt_of_lt_of_le (Heap.lt_size e) (I.ok.Dm x c GB hc)))).trans (I.base.keep b o e n hb hx)
  ·obtain⟨sl,e1⟩:=I.base.slot b o e n hb hx
   exact⟨sl,(hs.2 b (Nat.ne_of_lt (Nat.lt_of_lt_of_le (Heap.lt_size e) (I.ok.Dm x c GB hc)))).trans e1⟩
  ·obtain⟨o',e1⟩:=I.base.there b o e hx
   exact⟨o',(hs.2 b (Nat.ne_of_lt (Nat.lt_of_lt_of_le (Heap.lt_size e) (I.ok.Dm x c GB hc)))).trans e1⟩
  ·by_cases hj:j=i
   ·subst hj
    rw[hi] at e1; cases e1
    rw[List.getElem?_set_self hiσ] at e2
    cases e2
    exact⟨u,r,.inr ⟨.inl hk,c,hc,mB⟩⟩
   ·rw[List.getElem?_set_ne (Ne.symm hj)] at e2
    obtain⟨u',r',q⟩:=hl j y v' e1 e2 e3
    refine⟨u',r',?_⟩
    rcases q with q | ⟨k,c',e,z'⟩
    ·exact .inl q
    ·refine .inr ⟨k,c',e,z'.sameBut hs ?_⟩
     rintro rfl
     exact hj (lj hN e1 (I.ok.inj _ _ _ e hc ▸ hi))
  ·by_cases xU:c'=c
   ·subst xU; exact⟨_,mB⟩
   ·obtain⟨w2,z2⟩:=I.cell y c' e
    exact⟨w2,z2.sameBut hs xU⟩
  ·obtain⟨e,n,ne,nf,d⟩:=I.pin p hp
   refine⟨(hs.2 p.1 ?_).trans e,n,ne,nf,d⟩
   intro q
   rw[q,IJ] at e
   have q':oc=p.2:=Option.some.inj e
   exact d w' (by rw[← q']; exact GC)
theorem i6 {M:Model} {A:Around} {E:Value->Shared->Prop} {i:Nat} {x:Str} {v:V} {u:Value} {Q:Unit->Shared->Prop} (I:Inv X pins σ H s) (hN:X.N.Nodup) (hi:X.N[i]? = some x) (hx:Loc X.env.scope x) (r:RelV v u)
  (h:∀s',Inv X pins (σ.set i (some v)) H s'->Q () s') (hf:X.fn x=true\/X.env.scope.names.lookup x=some .local := by first | exact .inl rfl | exact .inr rfl | assumption):wpAny M A (storeName X.env x u) Q E s :=
 tU I hN hi hx r (fun s' I' _=>h s' I') hf
theorem Inv.Am {s':Shared} {ch:List Addr} (I:Inv X pins σ H s) (ho:s'.os=s.os) (u:Un (gU X.stack) ch H H' s.heap s'.heap) (aX:gK X.prog X.w H' s'.heap) (hg:AllBare s'.gens)
  (xT:∀b∈ch,(b∈X.ex\/X.s₀.heap.objs.size≤b)/\b≠X.env.locals/\(∀x c,X.env.cells.lookup x=some c->c≠b)/\∀p∈X.pn++pins,p.1≠b):Inv X pins σ H' s':=by
 obtain⟨h',g',d',t',o'⟩:=s'
 have e:o'=s.os:=ho
 subst e
 exact I.call (g':=g') (t':=t') (d':=d') u aX hg xT
end
noncomputable abbrev XK:=Value->Option Addr->Hp->Prop
noncomputable abbrev St:=List (Option V)
noncomputable abbrev VK:=V->Hp->Prop
noncomputable abbrev TE:=St->Hp->VK->Prop
noncomputable abbrev TT:=St->Hp->(Bool->Hp->Prop)->Prop
noncomputable abbrev TA:=St->Hp->(List V->Hp->Prop)->Prop
structure Ends where
 nx:St->Hp->Prop
 rt:VK
 bk:St->Hp->Prop:=fun _ _=>False
 ct:St->Hp->Prop:=fun _ _=>False
noncomputable abbrev TS:=Ends->St->Hp->Prop
noncomputable def EP (X:Cx) (pins:List (Addr×Obj)) (σ:St) (Q:VK) (u:Value) (s':Shared):Prop:=∃v H',Inv X pins σ H' s'/\RelV v u/\Q v H'
noncomputable def TP (X:Cx) (pins:List (Addr×Obj)) (σ:St) (Q:Bool->Hp->Prop) (b:Bool) (s':Shared):Prop:=∃H',Inv X pins σ H' s'/\Q b H'
noncomputable def AP (X:Cx) (pins:List (Addr×Obj)) (σ:St) (Q:List V->Hp->Prop) (us:List Value) (s':Shared):Prop:=∃vs H',Inv X pins σ H' s'/\Vals vs us/\Q vs H'
noncomputable def SP (X:Cx) (pins:List (Addr×Obj)) (D:Ends) (f:Flow) (s':Shared):Prop :=
 match f with
 | .next=>∃ σ' H',Inv X pins σ' H' s'/\D.nx σ' H'
 | .brk=>∃ σ' H',Inv X pins σ' H' s'/\D.bk σ' H'
 | .cont=>∃ σ' H',Inv X pins σ' H' s'/\D.ct σ' H'
 | .ret u=>∃v σ' H',Inv X pins σ' H' s'/\RelV v u/\D.rt v H'
noncomputable def PE (X:Cx) (e:Expr) (t:TE):Prop :=
 ∀(pins:List (Addr×Obj)) (s:Shared) (σ:St) (H:Hp) (Q:VK),Inv X pins σ H s->t σ H Q->wpAny (model X.prog X.w) X.A (eval e X.env) (EP X pins σ Q) X.xe s
noncomputable def PT (X:Cx) (e:Expr) (t:TT):Prop :=
 ∀(pins:List (Addr×Obj)) (s:Shared) (σ:St) (H:Hp) (Q:Bool->Hp->Prop),Inv X pins σ H s->t σ H Q->wpAny (model X.prog X.w) X.A (isTrue e X.env (eval e X.env)) (TP X pins σ Q) X.xe s
noncomputable def PW (X:Cx) (e:Expr) (t:TT):Prop :=
 ∀(whole:Sem Value) (pins:List (Addr×Obj)) (s:Shared) (σ:St) (H:Hp) (Q:Bool->Hp->Prop),Inv X pins σ H s->t σ H Q->wpAny (model X.prog X.w) X.A (isTrue e X.env whole) (TP X pins σ Q) X.xe s
theorem PW.pt {X:Cx} {e:Expr} {t:TT} (h:PW X e t):PT X e t:=h _
noncomputable def PA (X:Cx) (es:List Expr) (t:TA):Prop :=
 ∀(pos:Pos) (pins:List (Addr×Obj)) (s:Shared) (σ:St) (H:Hp) (Q:List V->Hp->Prop),Inv X pins σ H s->t σ H Q->wpAny (model X.prog X.w) X.A (spliced (backTo pos (starEach es X.env))) (AP X pins σ Q) X.xe s
noncomputable def PS (X:Cx) (st:Stmt) (t:TS):Prop :=
 ∀(pins:List (Addr×Obj)) (s:Shared) (σ:St) (H:Hp) (D:Ends),Inv X pins σ H s->t D σ H->wpAny (model X.prog X.w) X.A (exec st X.env) (SP X pins D) X.xe s
noncomputable def qx (X:Cx) (st:List Stmt) (t:TS):Prop :=
 ∀(pins:List (Addr×Obj)) (s:Shared) (σ:St) (H:Hp) (D:Ends),Inv X pins σ H s->t D σ H->wpAny (model X.prog X.w) X.A (execs st X.env) (SP X pins D) X.xe s
theorem cu {α:Type} {t:Sem α} {Q Q':α->Shared->Prop} {M:Model} {A:Around} {E:Value->Shared->Prop} {s:Shared} (h:wpAny M A t Q E s) (hQ:∀a s,Q a s->Q' a s):wpAny M A t Q' E s:=wpAny_mono h hQ fun _ _ x=>x
end L2
namespace L2
open PySem PySem.Spec PyProof.Rows
section
variable {X:Cx}
theorem bin {a b:Expr} {ta tb:TE} (ha:PE X a ta) (hb:PE X b tb) {pins:List (Addr×Obj)} {s:Shared} {σ:St} {H:Hp} {R:V->V->Hp->Prop} (I:Inv X pins σ H s) (h:ta σ H fun x H1=>tb σ H1 fun y H2=>R x y H2)
  {α:Type} {Q:α->Shared->Prop} {f:Value->Value->Sem α}
  (hf:∀v u s2 x y H2,Inv X pins σ H2 s2->RelV x v->RelV y u->R x y H2->wpAny (model X.prog X.w) X.A (f v u) Q X.xe s2) :
  wpAny (model X.prog X.w) X.A (eval a X.env) (fun v s₁=>wpAny (model X.prog X.w) X.A (eval b X.env) (fun u s₂=>wpAny (model X.prog X.w) X.A (f v u) Q X.xe s₂) X.xe s₁) X.xe s:=by
 refine cu (ha pins s σ H _ I h) fun v s1 ⟨x,H1,I1,r1,q1⟩=>?_
 refine cu (hb pins s1 σ H1 _ I1 q1) fun u s2 ⟨y,H2,I2,r2,q2⟩=>?_
 exact hf v u s2 x y H2 I2 r1 r2 q2
noncomputable def GD (i:Nat):TE:=fun σ H Q=>∃v,σ[i]? = some (some v)/\Q v H
noncomputable def tC (v:V):TE:=fun _ H Q=>Q v H
theorem A3 {i:Nat} {x:Str} {pos:Pos} (hN:X.N[i]? = some x) (hv:Gx X.env.scope x) (hd:(x == ("__debug__" : Str))=false:=by decide) (vz:(x == ("__classdict__" : Str))=false:=by decide):PE X (.Name x pos) (GD i):=by
 intro pins s σ H Q I h
 obtain⟨v,e,h⟩:=h
 obtain⟨m,hn,hl⟩:=I.loc
 obtain⟨u,r,l⟩:=hl i x v hN e hv
 have fin:EP X pins σ Q u s:=⟨v,H,I,r,h⟩
 rcases l with⟨hk,hm⟩ | ⟨hk,c,hc,kl⟩
 ·exact wpAny_Name (wpAny_loadName_local I.ok.kind hk hn hm fin) hd
 ·rcases hk with hk | hk
  ·exact wpAny_Name (wpAny_loadName_cell I.ok.kind hk hc kl fin) hd
  ·exact wpAny_Name (wpAny_loadName_free I.ok.kind hk hc kl fin vz) hd
theorem A4 {i j pos}:PE X (.Constant (.int i) j pos) (tC (.int i)):=fun _ _ _ H _ I h=>wpAny_Constant_int ⟨.int i,H,I.tok _,⟨_,rfl⟩,h⟩
theorem Dq {b j pos}:PE X (.Constant (.bool b) j pos) (tC (.bl b)):=fun _ _ _ H _ I h=>Constant_bool ⟨.bl b,H,I,rfl,h⟩
theorem A5 {j pos}:PE X (.Constant .none j pos) (tC .bb):=fun _ _ _ H _ I h=>Constant_none ⟨.bb,H,I,rfl,h⟩
theorem A6 {x j pos}:PE X (.Constant (.str x) j pos) (tC (.str x)):=fun _ _ _ H _ I h=>Calls.Constant_str ⟨.str x,H,I.tok _,⟨_,rfl⟩,h⟩
noncomputable def Gl (X:Cx) (x:Str):Prop:=X.env.kindOf x=some .globalImplicit
theorem k4 {E:Value->Shared->Prop} {pins:List (Addr×Obj)} {s:Shared} {σ:St} {H:Hp} {x:Str} {u:Value} {pos:Pos} {Q:Value->Shared->Prop} (I:Inv X pins σ H s) (hg:Gl X x) (hm:X.mg x=some u) (h:Q u s)
  (hd:(x == ("__debug__" : Str))=false:=by decide):wpAny (model X.prog X.w) X.A (eval (.Name x pos) X.env) Q E s :=
 Calls.Name_function_global I.ok.kind hg (Calls.loadGlobal_global (by rw[I.ok.glob]; exact I.mod.glob.keeps I.bk) hm h) hd
theorem lp {E:Value->Shared->Prop} {pins:List (Addr×Obj)} {s:Shared} {σ:St} {H:Hp} {x:Str} {u:Value} {pos:Pos} {Q:Value->Shared->Prop} (I:Inv X pins σ H s) (hg:Gl X x) (hm:X.mg x=none) (hv:bootBuiltins x=some u) (h:Q u s)
  (hn:x ≠ "__name__" := by decide) (hd:(x == ("__debug__" : Str))=false:=by decide):wpAny (model X.prog X.w) X.A (eval (.Name x pos) X.env) Q E s:=by
 obtain⟨mb,h1,h2⟩:=I.mod.blt
 exact Calls.Name_function_global I.ok.kind hg (Calls.loadGlobal_builtin (by rw[I.ok.glob]; exact I.mod.glob.keeps I.bk) hm (by rw[I.ok.blt]; exact h1.keeps I.bk) ((h2 x hn).trans hv) h) hd
theorem nH {x:Str} {v:V} {u:Value} {pos:Pos} (hg:Gl X x) (hm:X.mg x=some u) (r:RelV v u) (hd:(x == ("__debug__" : Str))=false:=by decide):PE X (.Name x pos) (tC v) :=
 fun _ _ _ H _ I h=>k4 I hg hm ⟨v,H,I,r,h⟩ hd
theorem yg {x:Str} {v:V} {u:Value} {pos:Pos} (hg:Gl X x) (hm:X.mg x=none) (hv:bootBuiltins x=some u) (r:RelV v u) (hn:x ≠ "__name__" := by decide) (hd:(x == ("__debug__" : Str))=false:=by decide):PE X (.Name x pos) (tC v) :=
 fun _ _ _ H _ I h=>lp I hg hm hv ⟨v,H,I,r,h⟩ hn hd
variable {a b:Expr} {ta tb:TE} {pos:Pos}
variable {tA FE:TT} {rest:List Expr}
noncomputable def GF (t u:TT):TT:=fun σ H Q=>t σ H fun c H1=>if c=true then u σ H1 Q else Q false H1
noncomputable def JX (t u:TT):TT:=fun σ H Q=>t σ H fun c H1=>if c=true then Q true H1 else u σ H1 Q
noncomputable def GG (t:TT):TT:=fun σ H Q=>t σ H fun c H1=>Q (!c) H1
theorem yh (ha:PT X a tA):PW X (.BoolOp .And [a] pos) tA:=by
 intro wh pins s σ H Q I h
 refine isTrue_and (cu (ha pins s σ H Q I h) fun c s1 e=>?_)
 cases c with
 | true=>exact isTrue_and_nil e
 | false=>exact e
theorem A7 (ha:PT X a tA):PW X (.BoolOp .Or [a] pos) tA:=by
 intro wh pins s σ H Q I h
 refine isTrue_or (cu (ha pins s σ H Q I h) fun c s1 e=>?_)
 cases c with
 | false=>exact isTrue_or_nil e
 | true=>exact e
theorem A8 (ha:PT X a tA) (hb:PW X (.BoolOp .And (b::rest) pos) FE):PW X (.BoolOp .And (a::b::rest) pos) (GF tA FE):=by
 intro wh pins s σ H Q I h
 refine isTrue_and (cu (ha pins s σ H _ I h) fun c s1 ⟨H1,I1,q1⟩=>?_)
 cases c with
 | true=>exact hb wh pins s1 σ H1 Q I1 q1
 | false=>exact⟨H1,I1,q1⟩
theorem Dr (ha:PT X a tA) (hb:PW X (.BoolOp .Or (b::rest) pos) FE):PW X (.BoolOp .Or (a::b::rest) pos) (JX tA FE):=by
 intro wh pins s σ H Q I h
 refine isTrue_or (cu (ha pins s σ H _ I h) fun c s1 ⟨H1,I1,q1⟩=>?_)
 cases c with
 | true=>exact⟨H1,I1,q1⟩
 | false=>exact hb wh pins s1 σ H1 Q I1 q1
theorem A9 (ha:PT X a tA):PT X (.UnaryOp .Not a pos) (GG tA):=by
 intro pins s σ H Q I h
 exact isTrue_not (ha pins s σ H (fun c H1=>Q (!c) H1) I h)
noncomputable def Dt (ta tb:TE):TE:=fun σ H Q=>ta σ H fun x H1=>∃c,x=.bl c/\if c=true then tb σ H1 Q else Q (.bl false) H1
noncomputable def Du (ta:TE):TE:=fun σ H Q=>ta σ H fun x H1=>∃c,x=.bl c/\Q (.bl (!c)) H1
theorem Ba {op} {t:TE} (h:PE X a t):PE X (.BoolOp op [a] pos) t:=fun pins s σ H Q I hw=>BoolOp_one (h pins s σ H Q I hw)
theorem Bb (ha:PE X a ta) (hb:PE X (.BoolOp .And (b::rest) pos) tb):PE X (.BoolOp .And (a::b::rest) pos) (Dt ta tb):=by
 intro pins s σ H Q I h
 refine BoolOp_and (cu (ha pins s σ H _ I h) fun v s1 ⟨x,H1,I1,r1,q1⟩=>?_)
 obtain⟨c,rfl,q1⟩:=q1
 cases r1
 refine wpAny_truthy_bool ?_
 cases c with
 | true=>exact hb pins s1 σ H1 Q I1 q1
 | false=>exact⟨.bl false,H1,I1,rfl,q1⟩
theorem Bc (ha:PE X a ta):PE X (.UnaryOp .Not a pos) (Du ta):=by
 intro pins s σ H Q I h
 refine UnaryOp_ (cu (ha pins s σ H _ I h) fun v s1 ⟨x,H1,I1,r1,q1⟩=>?_)
 obtain⟨c,rfl,q1⟩:=q1
 cases r1
 exact not_of (wpAny_truthy_bool ⟨.bl (!c),H1,I1,rfl,q1⟩)
noncomputable def JY (t:TT) (ta tb:TE):TE:=fun σ H Q=>t σ H fun c H1=>if c=true then ta σ H1 Q else tb σ H1 Q
theorem vA {c:Expr} (hc:PT X c tA) (ha:PE X a ta) (hb:PE X b tb):PE X (.IfExp c a b pos) (JY tA ta tb):=by
 intro pins s σ H Q I h
 refine wpAny_IfExp (cu (hc pins s σ H _ I h) fun d s1 ⟨H1,I1,q1⟩=>?_)
 cases d with
 | true=>exact ha pins s1 σ H1 Q I1 q1
 | false=>exact hb pins s1 σ H1 Q I1 q1
end
end L2
namespace L2
open PySem PySem.Spec PyProof.Rows
noncomputable def iq (K:Fg) (H:Hp) (a:Addr) (xs:List V):Prop :=
 Rd H a (.lst xs) ∨
  ∃(o:Obj) (aD:Array Value) (n:Nat),K.lookup a=some o/\o.cls=.type "list" /\ o.dict=none/\o.data=.seq aD n/\aD.size≤sizeLine/\Vals xs aD.toList
noncomputable def rW (K:Fg) (H:Hp) (a:Addr) (xs:List V):Prop :=
 Rd H a (.tup xs) ∨
  ∃(o:Obj) (aD:Array Value) (n:Nat),K.lookup a=some o/\o.cls=.type "tuple" /\ o.data=.seq aD n/\aD.size≤sizeLine/\Vals xs aD.toList
noncomputable def GH:Value->Option V
 | .none=>some .bb
 | .bool b=>some (.bl b)
 | .int i _=>some (.int i)
 | .str x _=>some (.str x)
 | .bytes b _=>some (.Dg b)
 | .float b _=>some (.Dh b)
 | .ref a=>some (.ref a)
 | .type n=>some (.ty n)
 | _=>none
theorem RelV.abs {x:V} {u:Value} (r:RelV x u):GH u=some x:=by
 cases x with
 | bb=>cases r; rfl
 | bl _=>cases r; rfl
 | int _=>obtain⟨t,rfl⟩:=r; rfl
 | str _=>obtain⟨t,rfl⟩:=r; rfl
 | Dg _=>obtain⟨t,rfl⟩:=r; rfl
 | Dh _=>obtain⟨t,rfl⟩:=r; rfl
 | ref _=>cases r; rfl
 | ty _=>cases r; rfl
theorem RelV.inj {x y:V} {u:Value} (r:RelV x u) (q:RelV y u):x=y:=Option.some.inj (r.abs.symm.trans q.abs)
theorem Vals.inj:∀{xs ys:List V} {us:List Value},Vals xs us->Vals ys us->xs=ys
 | _,_,_,.nil,.nil=>rfl
 | _,_,_,.cons r t,.cons r' t'=>by rw[r.inj r',Vals.inj t t']
section
variable {X:Cx} {pins:List (Addr×Obj)} {σ:St} {H:Hp} {s:Shared} {a:Addr} {xs ys:List V}
theorem iq.of {K:Fg} (h:H a=some (.lst xs)):iq K H a xs:=.inl (.inl h)
theorem rW.of {K:Fg} (h:H a=some (.tup xs)):rW K H a xs:=.inl (.inl h)
theorem Inv.list (I:Inv X pins σ H s) (h:iq X.K H a xs):∃aD:List Value,Vals xs aD/\PlainL s.heap a aD.toArray/\xs.length≤sizeLine:=by
 rcases h with h | ⟨o,aD,n,hk,hc,hd,hs,hz,r⟩
 ·obtain⟨z,aD,n,r,e⟩:=h.ok I.aX
  exact⟨aD,r,⟨_,n,e,rfl,rfl,rfl⟩,z⟩
 ·refine⟨aD.toList,r,⟨o,n,I.rT a o hk,hc,hd,by simpa using hs⟩,?_⟩
  have e:=r.length
  simp only[Array.length_toList] at e
  omega
theorem Inv.tuple (I:Inv X pins σ H s) (h:rW X.K H a xs):∃aD:List Value,Vals xs aD/\IsTup s.heap a aD.toArray/\xs.length≤sizeLine:=by
 rcases h with h | ⟨o,aD,n,hk,hc,hs,hz,r⟩
 ·obtain⟨z,aD,r,p⟩:=h.ok I.aX
  exact⟨aD,r,p,z⟩
 ·refine⟨aD.toList,r,⟨o,I.rT a o hk,hc,n,by simpa using hs⟩,?_⟩
  have e:=r.length
  simp only[Array.length_toList] at e
  omega
theorem Inv.o4 (I:Inv X pins σ H s) (h:iq X.K H a xs) (h':iq X.K H a ys):xs=ys:=by
 obtain⟨aD,r,⟨o,n,e,_,_,d⟩,_⟩:=I.list h
 obtain⟨its',r',⟨o',n',e',_,_,d'⟩,_⟩:=I.list h'
 rw[e] at e'; cases e'
 rw[d] at d'
 injection d' with d1 _
 have:aD=its':=by simpa using congrArg Array.toList d1
 subst this
 exact r.inj r'
end
section
variable {X:Cx} {pins:List (Addr×Obj)} {σ:St} {H:Hp} {s:Shared} {E:Value->Shared->Prop}
end
section
variable {X:Cx} {st:Stmt} {rest:List Stmt} {t u:TS} {e:Expr} {te:TE} {pos:Pos}
noncomputable def Dv:TS:=fun D σ H=>D.nx σ H
noncomputable def Dw (t u:TS):TS:=fun D σ H=>t { D with nx:=u D } σ H
theorem yi:qx X [] Dv:=fun _ _ σ H _ I h=>wpAny_execs_nil ⟨σ,H,I,h⟩
theorem vB (h1:PS X st t) (h2:qx X rest u):qx X (st::rest) (Dw t u):=by
 intro pins s σ H D I h
 refine wpAny_execs_cons (cu (h1 pins s σ H { D with nx:=u D } I h) fun f s1 q=>?_)
 cases f with
 | next =>
  obtain⟨σ',H',I',q⟩:=q
  exact h2 pins s1 σ' H' D I' q
 | ret v=>exact q
 | brk=>exact q
 | cont=>exact q
theorem yj (h1:PS X st t):qx X [st] t:=by
 intro pins s σ H D I h
 refine wpAny_execs_cons (cu (h1 pins s σ H D I h) fun f s1 q=>?_)
 cases f with
 | next=>exact wpAny_execs_nil q
 | ret v=>exact q
 | brk=>exact q
 | cont=>exact q
theorem Inv.quiet {pins:List (Addr×Obj)} {σ:St} {H:Hp} {s:Shared} (I:Inv X pins σ H s):interactive X.env=false:=by simp[interactive,I.ok.kind]
noncomputable def Dx (te:TE):TS:=fun D σ H=>te σ H fun _ H1=>D.nx σ H1
theorem yk (he:PE X e te) (hs:swapsWith e none pos.line X.env=pure false:=by rfl):PS X (.Expr e pos) (Dx te):=by
 intro pins s σ H D I h
 exact wpAny_Expr_any (cu (he pins s σ H _ I h) fun v s1 ⟨x,H1,I1,r1,q1⟩=>⟨σ,H1,I1,q1⟩) I.quiet hs
noncomputable def GI (te:TE):TS:=fun D σ H=>te σ H D.rt
theorem Bd (he:PE X e te):PS X (.Return (some e) pos) (GI te):=by
 intro pins s σ H D I h
 exact wpAny_Return_some (cu (he pins s σ H _ I h) fun v s1 ⟨x,H1,I1,r1,q1⟩=>⟨x,σ,H1,I1,r1,q1⟩)
noncomputable def GJ (c:TT) (t u:TS):TS:=fun D σ H=>c σ H fun b H1=>if b=true then t D σ H1 else u D σ H1
theorem Dy {c:Expr} {a b:List Stmt} {tc:TT} (hc:PT X c tc) (ha:qx X a t) (hb:qx X b u):PS X (.If c a b pos) (GJ tc t u):=by
 intro pins s σ H D I h
 refine wpAny_If (cu (hc pins s σ H _ I h) fun d s1 ⟨H1,I1,q1⟩=>?_)
 cases d with
 | true=>exact ha pins s1 σ H1 D I1 q1
 | false=>exact hb pins s1 σ H1 D I1 q1
end
noncomputable abbrev TG:=V->St->Hp->(St->Hp->Prop)->Prop
noncomputable abbrev ym:=List V->St->Hp->(St->Hp->Prop)->Prop
noncomputable def PG (X:Cx) (target:Expr) (t:TG):Prop :=
 ∀(pins:List (Addr×Obj)) (s:Shared) (σ:St) (H:Hp) (v:V) (u:Value) (Q:St->Hp->Prop),Inv X pins σ H s->RelV v u->t v σ H Q →
  wpAny (model X.prog X.w) X.A (assign target X.env u) (fun _ s'=>∃ σ' H',Inv X pins σ' H' s'/\Q σ' H') X.xe s
noncomputable def xV (X:Cx) (ts:List Expr) (t:ym):Prop :=
 ∀(pins:List (Addr×Obj)) (s:Shared) (σ:St) (H:Hp) (vs:List V) (us:List Value) (Q:St->Hp->Prop),Inv X pins σ H s->Vals vs us->t vs σ H Q →
  wpAny (model X.prog X.w) X.A (assignInOrder ((assignEach ts X.env).map (·.2)) us) (fun _ s'=>∃ σ' H',Inv X pins σ' H' s'/\Q σ' H') X.xe s
noncomputable abbrev yn:=V->V->V->Hp->(Hp->Prop)->Prop
noncomputable def qy (X:Cx) (t:yn):Prop :=
 ∀(pins:List (Addr×Obj)) (s:Shared) (σ:St) (H:Hp) (o i v:V) (ov iv u:Value) (Q:Hp->Prop),Inv X pins σ H s->RelV o ov->RelV i iv->RelV v u->t o i v H Q →
  wpAny (model X.prog X.w) X.A (setItem ov iv u) (fun _ s'=>∃H',Inv X pins σ H' s'/\Q H') X.xe s
section
variable {X:Cx} {pos:Pos}
noncomputable def An (i:Nat):TG:=fun v σ H Q=>Q (σ.set i (some v)) H
theorem yo {i:Nat} {x:Str} (hN:X.N.Nodup) (hi:X.N[i]? = some x) (hx:Loc X.env.scope x) (hf:X.fn x=true\/X.env.scope.names.lookup x=some .local := by first | exact .inl rfl | exact .inr rfl | assumption):PG X (.Name x pos) (An i):=by
 intro pins s σ H v u Q I r h
 exact wpAny_assign_Name (i6 I hN hi hx r (fun s' I'=>⟨_,H,I',h⟩) hf)
noncomputable def GK:ym:=fun vs σ H Q=>vs=[]/\Q σ H
noncomputable def Dz (t:TG) (u:ym):ym:=fun vs σ H Q=>∃v r,vs=v::r/\t v σ H fun σ' H'=>u r σ' H' Q
theorem yp:xV X [] GK:=by
 intro pins s σ H vs us Q I r h
 obtain⟨e,h⟩:=h
 subst e
 cases r
 exact assignInOrder_nil ⟨σ,H,I,h⟩
theorem vC {e:Expr} {es:List Expr} {t:TG} {u:ym} (h1:PG X e t) (h2:xV X es u)
  (hs:(assignEach (e::es) X.env).map (·.2)=assign e X.env::(assignEach es X.env).map (·.2):=by rfl):xV X (e::es) (Dz t u):=by
 intro pins s σ H vs us Q I r h
 obtain⟨v,vr,e1,h⟩:=h
 subst e1
 cases r with
 | cons r rr =>
  rw[hs]
  refine assignInOrder_cons (cu (h1 pins s σ H _ _ _ I r h) fun _ s1 ⟨σ1,H1,I1,q1⟩=>?_)
  exact h2 pins s1 σ1 H1 _ _ Q I1 rr q1
noncomputable def GL (K:Fg) (n:Nat) (t:ym):TG:=fun v σ H Q=>∃a xs,v=.ref a/\rW K H a xs/\xs.length=n/\t xs σ H Q
theorem Be {es:List Expr} {k:Nat} {t:ym} {n:Nat} (hc:X.calm=true) (h:xV X es t)
  (hn:(assignEach es X.env).length=n:=by rfl) (qz:(assignEach es X.env).findIdx? (·.1)=none:=by rfl):PG X (.Tuple es k pos) (GL X.K n t):=by
 intro pins s σ H v u Q I r hw
 obtain⟨a,xs,e1,hq,hl,hw⟩:=hw
 subst e1
 cases r
 obtain⟨aD,rv,ht,hz⟩:=I.tuple hq
 refine assign_Tuple_tuple (I.ok.hd hc) ht (by simp[hn,← hl,rv.length]) qz fun h' hx=>?_
 have I1:Inv X pins σ H { s with heap:=h' }:=I.kept (t':=s.toks) fun b o e=>hx b o (Nat.ne_of_lt (Heap.lt_size e)) e
 exact h pins _ σ H xs _ Q I1 (by simpa using rv) hw
noncomputable def GN (to ti:TE) (t:yn):TG:=fun v σ H Q=>to σ H fun o H1=>ti σ H1 fun i H2=>t o i v H2 fun H3=>Q σ H3
theorem Bf {o i:Expr} {to ti:TE} {t:yn} (ho:PE X o to) (hi:PE X i ti) (hs:qy X t)
  (ha:∀v,assign (.Subscript o i pos) X.env v=(do
   let ov ← holding [v] (eval o X.env)
   let iv ← holding [v,ov] (eval i X.env)
   standAt pos
   holding [v,ov,iv] (setItem ov iv v)
   release [v,ov,iv] []):=by intro _; rfl):PG X (.Subscript o i pos) (GN to ti t):=by
 intro pins s σ H v u Q I r h
 rw[ha]
 refine wpAny_bind (wpAny_holding (cu (ho pins s σ H _ I h) fun ov s1 ⟨x,H1,I1,r1,q1⟩=>?_))
 refine wpAny_bind (wpAny_holding (cu (hi pins s1 σ H1 _ I1 q1) fun iv s2 ⟨y,H2,I2,r2,q2⟩=>?_))
 refine wpAny_bind (wpAny_standAt (wpAny_bind (wpAny_holding (cu (hs pins s2 σ H2 x y v ov iv u _ I2 r1 r2 r q2) fun _ s3 ⟨H3,I3,q3⟩=>?_))))
 exact wpAny_release ⟨σ,H3,I3,q3⟩
noncomputable def DB (te:TE) (g:TG):TS:=fun D σ H=>te σ H fun x H1=>g x σ H1 D.nx
theorem Bg {tg e:Expr} {te:TE} {g:TG} (he:PE X e te) (hg:PG X tg g) (hs:swapsWithSole [tg] e pos.line X.env=pure false:=by rfl) (hw:swappedStores [tg] e X.env=pure none:=by rfl)
  (h1:(assignEach [tg] X.env).map (·.2)=[assign tg X.env]:=by rfl):PS X (.Assign [tg] e pos) (DB te g):=by
 intro pins s σ H D I h
 refine wpAny_Assign_stores (cu (he pins s σ H _ I h) fun v s1 ⟨x,H1,I1,r1,q1⟩=>?_) hs hw
 rw[h1]
 exact cu (hg pins s1 σ H1 x v _ I1 r1 q1) fun _ s2 q=>q
theorem Bh {i:Nat} {x:Str} {e:Expr} {te:TE} {pos':Pos} (hN:X.N.Nodup) (hi:X.N[i]? = some x) (hx:Loc X.env.scope x) (he:PE X e te) (hs:swapsWith e (some (.Name x pos')) pos.line X.env=pure false:=by rfl) (hf:X.fn x=true\/X.env.scope.names.lookup x=some .local := by first | exact .inl rfl | exact .inr rfl | assumption) :
  PS X (.Assign [.Name x pos'] e pos) (DB te (An i)):=by
 intro pins s σ H D I h
 refine wpAny_Assign_Name (cu (he pins s σ H _ I h) fun v s1 ⟨y,H1,I1,r1,q1⟩=>?_) hs
 exact i6 I1 hN hi hx r1 (fun s2 I2=>⟨_,H1,I2,q1⟩) hf
end
section
variable {X:Cx} {pos:Pos}
end
structure It where
 go:Nat->Hp->Prop
 FG:Nat->Hp->V->Hp->Prop
 stop:Nat->Hp->Prop
noncomputable def kK (X:Cx) (pins:List (Addr×Obj)) (H:Hp) (b:Addr):Prop :=
 H b=none/\b≠X.env.locals/\b∉X.fs/\(b∈X.ex\/X.s₀.heap.objs.size≤b)/\(∀x c,X.env.cells.lookup x=some c->c≠b)/\∀p∈X.pn++pins,p.1≠b
theorem Inv.yq {X:Cx} {pins:List (Addr×Obj)} {σ:St} {H H':Hp} {s:Shared} {b:Addr} (I:Inv X pins σ H s) (hb:s.heap.objs.size≤b) (hn:H' b=none):kK X pins H' b:=by
 refine⟨hn,Nat.ne_of_gt (Nat.lt_of_lt_of_le I.lt hb),I.Gz hb,.inr (Nat.le_trans I.sz hb),fun x c e z=>?_,fun p hp z=>?_⟩
 ·obtain⟨v,q⟩:=I.cell x c e
  exact absurd (Nat.lt_of_lt_of_le q.lt (by rw[z]; exact hb)) (Nat.lt_irrefl _)
 ·exact absurd (Nat.lt_of_lt_of_le (Heap.lt_size (I.pin p hp).1) (by rw[z]; exact hb)) (Nat.lt_irrefl _)
structure Turn (P:Program) (w:World) (K:Fg) (tg:Expr) (J:It) (fp:List Addr) (it:Addr) (tn:Nat->Heap->Prop):Prop where
 mem:it∈fp
 obj:∀i h,tn i h->∀b∈fp,∃o,h.get? b=some o/\∀v,o.data≠.cell v
 keep:∀i h h',tn i h->(∀b∈fp,∀o,h.get? b=some o->h'.get? b=some o)->tn i h'
 item:∀(X:Cx),X.prog=P->X.w=w->X.K=K->X.calm=true->∀(i:Nat) (pins:List (Addr×Obj)) (s:Shared) (σ:St) (H:Hp) (E:Value->Shared->Prop),Inv X pins σ H s->(∀b∈fp,kK X pins H b)->tn i s.heap->J.go i H →
  wpAny (model P w) X.A (pyNext (.ref it)) (fun r s1=>∃u,r=some u ∧
   wpAny (model P w) X.A (letOwnedTupleGo tg (.ref it) u) (fun _ s2=>∃x H',Inv X pins σ H' s2/\RelV x u/\J.FG i H x H'/\tn (i+1) s2.heap/\∀b∈fp,H' b=none) E s1) E s
 done:∀(X:Cx),X.prog=P->X.w=w->X.K=K->X.calm=true->∀(i:Nat) (pins:List (Addr×Obj)) (s:Shared) (σ:St) (H:Hp) (E:Value->Shared->Prop),Inv X pins σ H s->(∀b∈fp,kK X pins H b)->tn i s.heap->J.stop i H →
  wpAny (model P w) X.A (pyNext (.ref it)) (fun r s1=>r=none/\Inv X pins σ H s1) E s
 self:∀(A:Around) (i:Nat) (s:Shared) (Q:Value->Shared->Prop) (E:Value->Shared->Prop),tn i s.heap->Q (.ref it) s->wpAny (model P w) A (pyIter (.ref it)) Q E s
noncomputable abbrev TI:=St->Hp->(It->Hp->Prop)->Prop
noncomputable def IK (X:Cx) (pins:List (Addr×Obj)) (σ:St) (tg:Expr) (R:It->Hp->Prop) (GO:Value) (s2:Shared):Prop :=
 ∃(it:Addr) (fp:List Addr) (tn:Nat->Heap->Prop) (J:It) (H':Hp),GO=.ref it/\Inv X pins σ H' s2/\Turn X.prog X.w X.K tg J fp it tn/\tn 0 s2.heap/\(∀b∈fp,kK X pins H' b)/\R J H'
noncomputable def PI (X:Cx) (tg iter:Expr) (wi:TI):Prop :=
 ∀(pins:List (Addr×Obj)) (s:Shared) (σ:St) (H:Hp) (R:It->Hp->Prop),Inv X pins σ H s->wi σ H R →
  wpAny (model X.prog X.w) X.A (eval iter X.env) (fun v s1=>wpAny (model X.prog X.w) X.A (pyIter v) (IK X pins σ tg R) X.xe s1) X.xe s
theorem Ao {M:Model} {A:Around} {E:Value->Shared->Prop} {s:Shared} {tg:Expr} {it:Addr} {u:Value} {o:Obj} {n:String} {vs:Array Value} {Q:Unit->Shared->Prop} (ho:s.heap.get? it=some o) (hc:o.cls=.type n) (hd:o.data=.fields vs)
    (hn:["enumerate", "zip", "dict_itemiterator", "dict_reverseitemiterator", "odict_iterator", "itertools.zip_longest", "itertools.pairwise"].contains n=false) (hQ:Q () s):wpAny M A (letOwnedTupleGo tg (.ref it) u) Q E s:=by
  unfold letOwnedTupleGo
  cases tg<;>first
    | exact wpAny_pure hQ
    | (cases u<;>first
        | exact wpAny_pure hQ
        | (refine wpAny_bind (wpAny_load ho ?_)
           rw[hc, hd]
           show wpAny M A (if (["enumerate", "zip", "dict_itemiterator", "dict_reverseitemiterator", "odict_iterator", "itertools.zip_longest", "itertools.pairwise"].contains n && vs[0]? == some (rawInt _))=true then _ else _) Q E s
           rw[if_neg (by intro h; rw[hn, Bool.false_and] at h; cases h)]
           exact wpAny_pure hQ))
noncomputable def GP (K:Fg) (a:Addr):It :=
 ⟨fun i H=>∃xs x,iq K H a xs/\xs[i]? = some x,fun i H x H'=>H'=H/\∀xs,iq K H a xs->xs[i]? = some x,fun i H=>∃xs,iq K H a xs/\xs.length≤i⟩
noncomputable def FH (lo:Int) (n:Nat):It:=⟨fun i _=>i<n,fun i H x H'=>H'=H/\x=.int (lo+i),fun i _=>n≤i⟩
theorem tV {P:Program} {w:World} {K:Fg} {tg:Expr} (a it:Addr):Turn P w K tg (GP K a) [it] it (fun i h=>h.IsListIter it a i) where
 mem:=by simp
 obj:=fun i h st b hb=>by
  have e:b=it:=by simpa using hb
  subst e
  obtain⟨o,e,c,d⟩:=st
  exact⟨o,e,fun v z=>by rw[d] at z; cases z⟩
 keep:=fun i h h' st k=>st.at fun o e=>k it (by simp) o e
 item:=by
  intro X hP hw hK hc i pins s σ H E I hf st hg
  subst hP hw hK
  obtain⟨xs,x,hq,hx⟩:=hg
  obtain⟨aD,rv,p,hz⟩:=I.list hq
  obtain⟨u,hu,ru⟩:=rv.get hx
  obtain⟨f0,f1,f2,f3,f4,f5⟩:=hf it (by simp)
  refine wpAny_pyNext_list_item st p.isList (x:=u) (by simpa using hu) fun h' DC sb=>?_
  have I1:Inv X pins σ H { s with heap:=h' }:=I.turned (t':=s.toks) (fun b o hb e=>(sb.2 b hb).trans e) f0 f1 f3 f4 f5
  obtain⟨o,e,c,d⟩:=id DC
  exact⟨u,rfl,Ao (s:={ s with heap:=h' }) e c d (by decide) ⟨x,H,I1,ru,⟨rfl,fun ys hy=>by rw[I.o4 hy hq]; exact hx⟩,DC,fun b hb=>(hf b hb).1⟩⟩
 done:=by
  intro X hP hw hK hc i pins s σ H E I hf st hg
  subst hP hw hK
  obtain⟨xs,hq,hx⟩:=hg
  obtain⟨aD,rv,p,hz⟩:=I.list hq
  obtain⟨f0,f1,f2,f3,f4,f5⟩:=hf it (by simp)
  have hl:=rv.length
  exact wpAny_pyNext_list_end (I.ok.hd hc) st p.isList (by simp; omega) fun h' eb=>⟨rfl,I.turned (t':=s.toks) (fun b o hb e=>eb b o hb e) f0 f1 f3 f4 f5⟩
 self:=fun _ _ _ _ _ st h=>wpAny_pyIter_listiter st h
theorem qA {P:Program} {w:World} {K:Fg} {tg:Expr} (it:Addr) (lo:Int) (n:Nat):Turn P w K tg (FH lo n) [it] it (fun i h=>IsRangeIter h it (lo+(i:Nat)*1) ((n:Int)-(i:Nat)) 1) where
 mem:=by simp
 obj:=fun i h st b hb=>by
  have e:b=it:=by simpa using hb
  subst e
  exact⟨_,st,fun v z=>by
   have z':Data.fields _=Data.cell v:=z
   cases z'⟩
 keep:=fun i h h' st k=>k it (by simp) _ st
 item:=by
  intro X hP hw hK hc i pins s σ H E I hf st hg
  subst hP hw hK
  obtain⟨f0,f1,f2,f3,f4,f5⟩:=hf it (by simp)
  have W:=Walks.range (prog:=X.prog) (w:=X.w) (I.ok.hd hc) it lo 1 n
  refine W.item i s _ _ hg st fun v h' tk hv DC kk=>?_
  obtain⟨t,rfl⟩:=hv
  have I1:Inv X pins σ H { s with heap:=h',toks:=tk }:=I.turned (fun b o hb e=>kk b o (by simpa using hb) e) f0 f1 f3 f4 f5
  refine⟨_,rfl,Ao (s:={ s with heap:=h',toks:=tk }) (n := "range_iterator") DC rfl rfl (by decide) ⟨.int (lo+i),H,I1,⟨t,?_⟩,⟨rfl,rfl⟩,DC,fun b hb=>(hf b hb).1⟩⟩
  rw[Int.mul_one]
 done:=by
  intro X hP hw hK hc i pins s σ H E I hf st hg
  subst hP hw hK
  obtain⟨f0,f1,f2,f3,f4,f5⟩:=hf it (by simp)
  exact wpAny_pyNext_range_end (I.ok.hd hc) st (by have:n≤i:=hg; omega) fun h' eb=>⟨rfl,I.turned (t':=s.toks) (fun b o hb e=>eb b o hb e) f0 f1 f3 f4 f5⟩
 self:=fun _ _ _ _ _ st h=>wpAny_pyIter_rangeiter st h
end L2
namespace L2
open PySem PySem.Spec PyProof.Rows
section
variable {X:Cx} {tg:Expr}
noncomputable def DD (K:Fg) (tl:TE):TI:=fun σ H R=>tl σ H fun x H1=>∃a,x=.ref a/\(∃xs,iq K H1 a xs)/\R (GP K a) H1
theorem yr {l:Expr} {tl:TE} (hl:PE X l tl):PI X tg l (DD X.K tl):=by
 intro pins s σ H R I h
 refine cu (hl pins s σ H _ I h) fun v s1 ⟨x,H1,I1,r1,q1⟩=>?_
 obtain⟨a,e,⟨xs,hq⟩,q⟩:=q1
 subst e
 cases r1
 obtain⟨aD,rv,p,hz⟩:=I1.list hq
 refine wpAny_pyIter_list p.isList ?_
 refine⟨s1.heap.objs.size,[s1.heap.objs.size],_,_,H1,rfl,I1.kept (t':=s1.toks) fun b o e=>Heap.get?_push_of_some _ e,tV a _,⟨_,Heap.get?_push_size _ rfl,rfl,rfl⟩,fun b hb=>?_,q⟩
 have e:b=s1.heap.objs.size:=by simpa using hb
 subst e
 exact I1.yq (Nat.le_refl _) (I1.aX.fresh (Nat.le_refl _))
theorem vD {pins:List (Addr×Obj)} {σ:St} {H:Hp} {s:Shared} {R:It->Hp->Prop} {E:Value->Shared->Prop} {lo hi:Int} {t u v:Tok} {tk:Nat} (I:Inv X pins σ H s) (h1 : -(2 ^ 62)≤lo) (h2:lo<2 ^ 62) (h3 : -(2 ^ 62)≤hi) (h4:hi<2 ^ 62)
  (q:R (FH lo (hi-lo).toNat) H):wpAny (model X.prog X.w) X.A (pyIter (.ref s.heap.objs.size)) (IK X pins σ tg R) E { s with heap:=s.heap.push { cls:=.type "range",data:=.fields #[.int lo t,.int hi u,.int 1 v] },toks:=tk }:=by
 refine wpAny_pyIter_range (IsRange.new ..) (small_one h1 h2 h3 h4) ?_
 have I1:Inv X pins σ H { s with heap:=s.heap.push { cls:=.type "range",data:=.fields #[.int lo t,.int hi u,.int 1 v] },toks:=tk }:=I.kept fun b o e=>Heap.get?_push_of_some _ e
 refine⟨(s.heap.push { cls:=.type "range",data:=.fields #[.int lo t,.int hi u,.int 1 v] }).objs.size,[(s.heap.push { cls:=.type "range",data:=.fields #[.int lo t,.int hi u,.int 1 v] }).objs.size],_,_,H,rfl,
  I1.kept (t':=tk) fun b o e=>Heap.get?_push_of_some _ e,qA _ lo (hi-lo).toNat,?_,fun b hb=>?_,q⟩
 ·have e1:lo+((0:Nat):Int)*1=lo:=by simp
  have e2:(((hi-lo).toNat:Nat):Int)-((0:Nat):Int)=Builtin.Range.rangeSize lo hi 1:=by rw[rangeSize_one]; split<;>omega
  show IsRangeIter _ _ (lo+((0:Nat):Int)*1) ((((hi-lo).toNat:Nat):Int)-((0:Nat):Int)) 1
  rw[e1,e2]
  exact Heap.get?_push_size _ rfl
 ·have e:b=(s.heap.push { cls:=.type "range",data:=.fields #[.int lo t,.int hi u,.int 1 v] }).objs.size:=by simpa using hb
  subst e
  exact I1.yq (Nat.le_refl _) (I1.aX.fresh (Nat.le_refl _))
noncomputable def DF (ta:TA):TI:=fun σ H R=>ta σ H fun vs H1=>∃j:Int,vs=[.int j] /\ -(2 ^ 62)≤j/\j<2 ^ 62/\R (FH 0 j.toNat) H1
theorem tW {a:Expr} {ta:TA} {p pos:Pos} (hg:Gl X "range") (hm:X.mg "range" = none) (ha:PA X [a] ta) (hs:starEach [a] X.env=[(false,eval a X.env)]:=by rfl):PI X tg (.Call (.Name "range" p) [a] [] pos) (DF ta):=by
 intro pins s σ H R I h
 refine Call_ (lp I hg hm boot_range (PyProof.Rows.callWith_type1 (cu (ha pos pins s σ H _ I h) fun us s1 ⟨vs,H1,I1,r1,q1⟩=>?_) hs rfl))
 obtain⟨j,e,q1,q2,q⟩:=q1
 subst e
 cases r1 with
 | cons r rr =>
  cases rr
  obtain⟨t,rfl⟩:=r
  exact call_range_1 (vD I1 (by omega) (by omega) q1 q2 (by simpa using q))
noncomputable def GQ (wi:TI) (g:TG) (tb:TS):TS:=fun D σ H=>wi σ H fun J H1=>∃W:Nat->Nat->St->Hp->Prop,(∃m,W 0 m σ H1)/\∀i m σ H,W i m σ H →
 (J.stop i H/\D.nx σ H)\/(J.go i H/\∃N:St->Hp->Prop,(∀ σ' H',N σ' H'->∃m',m'<m/\W (i+1) m' σ' H')/\∀x H',J.FG i H x H'->g x σ H' fun σ2 H2=>tb { D with nx:=N,ct:=N,bk:=D.nx } σ2 H2)
noncomputable def lq (fp:List Addr) (h:Heap):List (Addr×Obj):=fp.filterMap fun b=>(h.get? b).map fun o=>(b,o)
theorem gv {fp:List Addr} {h:Heap} {b:Addr} {o:Obj} (hb:b∈fp) (e:h.get? b=some o):(b,o)∈lq fp h:=List.mem_filterMap.mpr ⟨b,hb,by rw[e]; rfl⟩
theorem tX {fp:List Addr} {h:Heap} {p:Addr×Obj} (hp:p∈lq fp h):p.1∈fp/\h.get? p.1=some p.2:=by
 obtain⟨b,hb,e⟩:=List.mem_filterMap.mp hp
 cases q:h.get? b with
 | none=>rw[q] at e; cases e
 | some o =>
  rw[q] at e
  have e':(b,o)=p:=Option.some.inj e
  subst e'
  exact⟨hb,q⟩
theorem Inv.pinned {pins:List (Addr×Obj)} {σ:St} {H:Hp} {s:Shared} {fp:List Addr} (I:Inv X pins σ H s) (hf:∀b∈fp,kK X pins H b) (ho:∀b∈fp,∃o,s.heap.get? b=some o/\∀v,o.data≠.cell v):Inv X (pins++lq fp s.heap) σ H s :=
 I.rV fun p hp=>(List.mem_append.mp hp).elim (fun z=>I.pin p (List.mem_append_right _ z)) fun z=>by
  obtain⟨hb,e⟩:=tX z
  obtain⟨f0,f1,f2,_⟩:=hf p.1 hb
  obtain⟨o,e',d⟩:=ho p.1 hb
  rw[e] at e'; cases e'
  exact⟨e,f0,f1,f2,d⟩
theorem Inv.i7 {pins pl:List (Addr×Obj)} {σ:St} {H:Hp} {s:Shared} (I:Inv X (pins++pl) σ H s):Inv X pins σ H s:=I.rV fun p hp=>I.pin p (List.mem_append_right _ (List.mem_append_left _ hp))
theorem Bi {iter:Expr} {body:List Stmt} {wi:TI} {g:TG} {tb:TS} {pos:Pos} (hp:PassesOwn (model X.prog X.w) X.A X.env X.xe) (hc:X.calm=true) (hi:PI X tg iter wi) (hg:PG X tg g) (hb:qx X body tb)
  (hs:∀x,foldedSetIterable iter X.env x=pure x:=by intro _; rfl):PS X (.For tg iter body [] pos) (GQ wi g tb):=by
 intro pins s σ H D I h
 refine wpAny_For (cu (hi pins s σ H _ I h) fun v s1 h1=>cu h1 fun GO s2 h2=>?_) hs
 obtain⟨it,fp,tn,J,H2,e,I2,T,GR,f2,W,⟨m0,w0⟩,turn⟩:=h2
 subst e
 have qB:∀{H':Hp},(∀b∈fp,H' b=none)->∀b∈fp,kK X pins H' b:=fun hn b hb=>⟨hn b hb,(f2 b hb).2⟩
 refine codeAny_forLoop_any (fun n s'=>∃i σ' H',Inv X pins σ' H' s'/\tn i s'.heap/\(∀b∈fp,H' b=none)/\W i n σ' H') ?_ m0 ⟨0,σ,H2,I2,GR,fun b hb=>(f2 b hb).1,w0⟩
 rintro n s3 ⟨i,σ3,H3,I3,DH,DJ,w3⟩
 rcases turn i n σ3 H3 w3 with⟨stop,qn⟩ | ⟨go,N,hN,step⟩
 ·refine wpAny_passesOwn hp (cu (T.done X rfl rfl rfl hc i pins s3 σ3 H3 X.xe I3 (qB DJ) DH stop) fun r s4 ⟨hr,I4⟩=>?_)
  subst hr
  exact wpAny_execs_nil ⟨σ3,H3,I4,qn⟩
 ·refine wpAny_passesOwn hp (cu (T.item X rfl rfl rfl hc i pins s3 σ3 H3 X.xe I3 (qB DJ) DH go) fun r s4 ⟨u,hr,h4⟩=>?_)
  subst hr
  refine wpAny_passesOwn hp (cu h4 fun _ s5 ⟨x,H5,I5,r5,y5,Bj,GS⟩=>?_)
  have GU:=I5.pinned (qB GS) (T.obj _ _ Bj)
  refine wpAny_passesOwn hp (cu (hg _ s5 σ3 H5 x u _ GU r5 (step x H5 y5)) fun _ s6 ⟨σ6,H6,I6,q6⟩=>?_)
  refine wpAny_passesOwn hp (cu (hb _ s6 σ6 H6 _ I6 q6) fun f s7 q7=>?_)
  have again:∀{σ7:St} {H7:Hp},Inv X (pins++lq fp s5.heap) σ7 H7 s7->N σ7 H7->∃m,m<n/\∃i σ' H',Inv X pins σ' H' s7/\tn i s7.heap/\(∀b∈fp,H' b=none)/\W i m σ' H':=fun {σ7 H7} I7 n7=>by
   obtain⟨m',hm,w7⟩:=hN σ7 H7 n7
   refine⟨m',hm,i+1,σ7,H7,I7.i7,T.keep _ _ _ Bj fun b hb o e=>(I7.pin (b,o) (List.mem_append_right _ (List.mem_append_right _ (gv hb e)))).1,fun b hb=>?_,w7⟩
   obtain⟨o,e,d⟩:=T.obj _ _ Bj b hb
   exact(I7.pin (b,o) (List.mem_append_right _ (List.mem_append_right _ (gv hb e)))).2.1
  cases f with
  | next=>obtain⟨σ7,H7,I7,n7⟩:=q7; exact again I7 n7
  | cont=>obtain⟨σ7,H7,I7,n7⟩:=q7; exact again I7 n7
  | brk=>obtain⟨σ7,H7,I7,q7⟩:=q7; exact⟨σ7,H7,I7.i7,q7⟩
  | ret v=>obtain⟨x7,σ7,H7,I7,r7,q7⟩:=q7; exact⟨x7,σ7,H7,I7.i7,r7,q7⟩
end
end L2
namespace L2
open PySem PySem.Spec PyProof.Rows
noncomputable abbrev R2:=V->V->Hp->VK->Prop
noncomputable def eJ (X:Cx) (f:Value->Value->Sem Value) (r:R2):Prop :=
 ∀(pins:List (Addr×Obj)) (s:Shared) (σ:St) (H:Hp) (x y:V) (v u:Value) (Q:VK),Inv X pins σ H s->RelV x v->RelV y u->r x y H Q →
  wpAny (model X.prog X.w) X.A (f v u) (EP X pins σ Q) X.xe s
noncomputable def GV (X:Cx) (f:Value->Sem Value) (r:V->Hp->VK->Prop):Prop :=
 ∀(pins:List (Addr×Obj)) (s:Shared) (σ:St) (H:Hp) (x:V) (v:Value) (Q:VK),Inv X pins σ H s->RelV x v->r x H Q →
  wpAny (model X.prog X.w) X.A (f v) (EP X pins σ Q) X.xe s
noncomputable def bH (X:Cx) (f:Value) (r:List V->Hp->VK->Prop):Prop :=
 ∀(pins:List (Addr×Obj)) (s:Shared) (σ:St) (H:Hp) (xs:List V) (us:List Value) (Q:VK),Inv X pins σ H s->Vals xs us->r xs H Q →
  wpAny (model X.prog X.w) X.A (call f us) (EP X pins σ Q) X.xe s
noncomputable def GW (X:Cx) (r:V->Hp->(Bool->Hp->Prop)->Prop):Prop :=
 ∀(pins:List (Addr×Obj)) (s:Shared) (σ:St) (H:Hp) (x:V) (v:Value) (Q:Bool->Hp->Prop),Inv X pins σ H s->RelV x v->r x H Q →
  wpAny (model X.prog X.w) X.A (truthy v) (TP X pins σ Q) X.xe s
noncomputable def DK (r:R2) (ta tb:TE):TE:=fun σ H Q=>ta σ H fun x H1=>tb σ H1 fun y H2=>r x y H2 Q
noncomputable def JZ (r:V->Hp->VK->Prop) (ta:TE):TE:=fun σ H Q=>ta σ H fun x H1=>r x H1 Q
noncomputable def rI (C:Int->Int->Prop) (g:Int->Int->V):R2:=fun x y H Q=>∃i j,x=.int i/\y=.int j/\C i j/\Q (g i j) H
noncomputable def Ap (g:Int->Int->V):R2:=fun x y H Q=>∃i j,x=.int i/\y=.int j/\Q (g i j) H
noncomputable def rU (g:Int->V):V->Hp->VK->Prop:=fun x H Q=>∃i,x=.int i/\Q (g i) H
section
variable {X:Cx} {a b c:Expr} {ta tb tc:TE} {pos:Pos}
theorem Bk (ha:PE X a ta) (hb:PE X b tb) {pins:List (Addr×Obj)} {s:Shared} {σ:St} {H:Hp} {R:V->V->Hp->Prop} (I:Inv X pins σ H s)
  (h:ta σ H fun x H1=>tb σ H1 fun y H2=>R x y H2) {Q:Value->Shared->Prop} {f:Value->Value->Sem Value}
  (hf:∀v u s2 x y H2,Inv X pins σ H2 s2->RelV x v->RelV y u->R x y H2->wpAny (model X.prog X.w) X.A (f v u) Q X.xe s2) :
  wpAny (model X.prog X.w) X.A (eval a X.env) (fun v s₁=>wpAny (model X.prog X.w) X.A (eval b X.env) (fun u s₂=>wpAny (model X.prog X.w) X.A (f v u) Q X.xe s₂) X.xe s₁) X.xe s:=by
 refine cu (ha pins s σ H _ I h) fun v s1 ⟨x,H1,I1,r1,q1⟩=>?_
 refine cu (hb pins s1 σ H1 _ I1 q1) fun u s2 ⟨y,H2,I2,r2,q2⟩=>?_
 exact hf v u s2 x y H2 I2 r1 r2 q2
theorem DL {op:Operator} {r:R2} (ho:eJ X (binaryOp op) r) (ha:PE X a ta) (hb:PE X b tb):PE X (.BinOp a op b pos) (DK r ta tb):=by
 intro pins s σ H Q I h
 exact wpAny_BinOp (Bk ha hb I h fun v u s2 x y H2 I2 rx ry q=>ho pins s2 σ H2 x y v u Q I2 rx ry q)
theorem DN {op:UnaryOp} {r:V->Hp->VK->Prop} (ho:GV X (unaryOp op) r) (ha:PE X a ta):PE X (.UnaryOp op a pos) (JZ r ta):=by
 intro pins s σ H Q I h
 exact UnaryOp_ (cu (ha pins s σ H _ I h) fun v s1 ⟨x,H1,I1,r1,q1⟩=>ho pins s1 σ H1 x v Q I1 r1 q1)
theorem GX {f:Value->Value->Sem Value} {C:Int->Int->Prop} {g:Int->Int->Int}
  (rule:∀(i j:Int) (t u:Tok) (s:Shared) (Q:Value->Shared->Prop) (E:Value->Shared->Prop),C i j->Q (.int (g i j) s.toks) { s with toks:=s.toks+1 }->wpAny (model X.prog X.w) X.A (f (.int i t) (.int j u)) Q E s) :
  eJ X f (rI C fun i j=>.int (g i j)):=by
 intro pins s σ H x y v u Q I rx ry h
 obtain⟨i,j,rfl,rfl,hc,q⟩:=h
 obtain⟨t,rfl⟩:=rx
 obtain⟨t',rfl⟩:=ry
 exact rule i j t t' s _ _ hc ⟨.int (g i j),H,I.tok _,⟨_,rfl⟩,q⟩
theorem DP {f:Value->Value->Sem Value} {g:Int->Int->Int}
  (rule:∀(i j:Int) (t u:Tok) (s:Shared) (Q:Value->Shared->Prop) (E:Value->Shared->Prop),Q (.int (g i j) s.toks) { s with toks:=s.toks+1 }->wpAny (model X.prog X.w) X.A (f (.int i t) (.int j u)) Q E s) :
  eJ X f (Ap fun i j=>.int (g i j)):=by
 intro pins s σ H x y v u Q I rx ry h
 obtain⟨i,j,rfl,rfl,q⟩:=h
 obtain⟨t,rfl⟩:=rx
 obtain⟨t',rfl⟩:=ry
 exact rule i j t t' s _ _ ⟨.int (g i j),H,I.tok _,⟨_,rfl⟩,q⟩
theorem yt {f:Value->Value->Sem Value} {g:Int->Int->Bool}
  (rule:∀(i j:Int) (t u:Tok) (s:Shared) (Q:Value->Shared->Prop) (E:Value->Shared->Prop),Q (.bool (g i j)) s->wpAny (model X.prog X.w) X.A (f (.int i t) (.int j u)) Q E s) :
  eJ X f (Ap fun i j=>.bl (g i j)):=by
 intro pins s σ H x y v u Q I rx ry h
 obtain⟨i,j,rfl,rfl,q⟩:=h
 obtain⟨t,rfl⟩:=rx
 obtain⟨t',rfl⟩:=ry
 exact rule i j t t' s _ _ ⟨.bl (g i j),H,I,rfl,q⟩
noncomputable def GY (i j:Int):Prop:=0<j/\j<1073741824
noncomputable def Bl (i j:Int):Prop:=(-(2 ^ 64)<i/\i<2 ^ 64)\/(-(2 ^ 64)<j/\j<2 ^ 64)
theorem Bl.ok {i j:Int} (h:Bl i j):IntMulOk i j:=by
 rcases h with⟨h1,h2⟩ | ⟨h1,h2⟩
 ·exact .of_left (intBits_le_64 h1 h2)
 ·exact .of_right (intBits_le_64 h1 h2)
theorem Bm:eJ X (binaryOp .Add) (Ap fun i j=>.int (i+j)):=DP fun _ _ _ _ _ _ _ q=>add_int q
theorem Bn:eJ X (binaryOp .Sub) (Ap fun i j=>.int (i-j)):=DP fun _ _ _ _ _ _ _ q=>sub_int q
theorem Bo:eJ X (binaryOp .Mult) (rI Bl fun i j=>.int (i*j)):=GX fun _ _ _ _ _ _ _ hc q=>mul_int q hc.ok
theorem yu:eJ X (binaryOp .FloorDiv) (rI GY fun i j=>.int (i / j)):=GX fun i j _ _ _ _ _ hc q=>by
 have h1:(0:Int)<j:=hc.1
 have h2:j<1073741824:=hc.2
 exact floordiv_int (by omega) (by rw[Int.fdiv_eq_ediv_of_nonneg i (by omega)]; exact q) (.inl (PyProof.noPylong_small (by omega)))
theorem Bp:eJ X (binaryOp .Mod) (rI (fun _ j=>0<j) fun i j=>.int (i%j)):=GX fun i j _ _ _ _ _ hc q=>by
 have h1:(0:Int)<j:=hc
 exact mod_int' (by omega) (by rw[Int.fmod_eq_emod_of_nonneg i (by omega)]; exact q)
theorem J0 {f:Value->Sem Value} {g:Int->Int}
  (rule:∀(i:Int) (t:Tok) (s:Shared) (Q:Value->Shared->Prop) (E:Value->Shared->Prop),Q (.int (g i) s.toks) { s with toks:=s.toks+1 }->wpAny (model X.prog X.w) X.A (f (.int i t)) Q E s) :
  GV X f (rU fun i=>.int (g i)):=by
 intro pins s σ H x v Q I rx h
 obtain⟨i,rfl,q⟩:=h
 obtain⟨t,rfl⟩:=rx
 exact rule i t s _ _ ⟨.int (g i),H,I.tok _,⟨_,rfl⟩,q⟩
theorem Bq:GV X (unaryOp .USub) (rU fun i=>.int (-i)):=J0 fun _ _ _ _ _ q=>neg_int q
end
section
variable {X:Cx} {a b c:Expr} {ta tb tc:TE} {pos:Pos}
theorem Br {pins:List (Addr×Obj)} {σ:St} {H:Hp} {s:Shared} {Q:VK} {k k':Bool} (I:Inv X pins σ H s) (q:Q (.bl k) H) (e:k=k'):EP X pins σ Q (.bool k') s:=by
 subst e
 exact⟨.bl k,H,I,rfl,q⟩
theorem DQ:eJ X (compareOp .Lt) (Ap fun i j=>.bl (decide (i<j))):=yt fun _ _ _ _ _ _ _ q=>lt_int q
theorem DR:eJ X (compareOp .LtE) (Ap fun i j=>.bl (decide (i≤j))):=yt fun _ _ _ _ _ _ _ q=>le_int q
theorem DU:eJ X (compareOp .Gt) (Ap fun i j=>.bl (decide (j<i))):=yt fun _ _ _ _ _ _ _ q=>gt_int q
theorem DV:eJ X (compareOp .GtE) (Ap fun i j=>.bl (decide (j≤i))):=yt fun _ _ _ _ _ _ _ q=>ge_int q
theorem Bs:eJ X (compareOp .Is) (fun x y H Q=>y=.bb/\Q (.bl (decide (x=.bb))) H):=by
 intro pins s σ H x y v u Q I rx ry h
 obtain⟨rfl,q⟩:=h
 cases ry
 refine is_none_gen (Br I q ?_)
 cases x<;>first
  | (cases rx; rfl)
  | (obtain⟨t,rfl⟩:=rx; rfl)
theorem eJ.or {f:Value->Value->Sem Value} {r r':R2} (h:eJ X f r) (h':eJ X f r'):eJ X f (fun x y H Q=>r x y H Q\/r' x y H Q):=by
 intro pins s σ H x y v u Q I rx ry q
 rcases q with q | q
 ·exact h pins s σ H x y v u Q I rx ry q
 ·exact h' pins s σ H x y v u Q I rx ry q
theorem GZ (b:Expr) {op:CmpOp} (h:op≠.In:=by decide) (h2:op≠.NotIn:=by decide):behindInMarks op b=false:=by
 have e1:(op == CmpOp.In)=false:=by cases op<;>first | rfl | exact absurd rfl h
 have e2:(op == CmpOp.NotIn)=false:=by cases op<;>first | rfl | exact absurd rfl h2
 cases b<;>simp[behindInMarks,e1,e2]
theorem yw {op:CmpOp} {r:R2} (ho:eJ X (compareOp op) r) (ha:PE X a ta) (hb:PE X b tb) (hm:behindInMarks op b=false):PE X (.Compare a [op] [b] pos) (DK r ta tb):=by
 intro pins s σ H Q I h
 exact wpAny_Compare1 (Bk ha hb I h fun v u s2 x y H2 I2 rx ry q=>ho pins s2 σ H2 x y v u Q I2 rx ry q) hm
noncomputable def vE (t:TE):TT:=fun σ H Q=>t σ H fun x H'=>∃k,x=.bl k/\Q k H'
theorem yx {op:CmpOp} {r:R2} (ho:eJ X (compareOp op) r) (ha:PE X a ta) (hb:PE X b tb) (hm:behindInMarks op b=false):PT X (.Compare a [op] [b] pos) (vE (DK r ta tb)):=by
 intro pins s σ H Q I h
 refine wpAny_isTrue_Compare1 (cu (ha pins s σ H _ I h) fun v s1 ⟨x,H1,I1,r1,q1⟩=>cu (hb pins s1 σ H1 _ I1 q1) fun u s2 ⟨y,H2,I2,r2,q2⟩ =>
  cu (ho pins s2 σ H2 x y v u _ I2 r1 r2 q2) fun c s3 ⟨z,H3,I3,r3,k,e,q3⟩=>?_) hm
 subst e
 cases r3
 exact wpAny_truthy_bool ⟨H3,I3,q3⟩
noncomputable def qC (r r':R2) (ta tb tc:TE):TE:=fun σ H Q=>ta σ H fun x H1=>tb σ H1 fun y H2=>r x y H2 fun z H3=>∃k,z=.bl k ∧
 (if k=true then tc σ H3 fun w' H4=>r' y w' H4 Q else Q (.bl false) H3)
theorem vF {op qD:CmpOp} {r r':R2} (ho:eJ X (compareOp op) r) (mS:eJ X (compareOp qD) r') (ha:PE X a ta) (hb:PE X b tb) (hc:PE X c tc)
  (hm:lastMarks [op,qD] [b,c]=false:=by with_unfolding_all rfl):PE X (.Compare a [op,qD] [b,c] pos) (qC r r' ta tb tc):=by
 intro pins s σ H Q I h
 refine Compare_chain (cu (ha pins s σ H _ I h) fun v s1 ⟨x,H1,I1,r1,q1⟩=>chain_link (cu (hb pins s1 σ H1 _ I1 q1) fun u s2 ⟨y,H2,I2,r2,q2⟩ =>
  cu (ho pins s2 σ H2 x y v u _ I2 r1 r2 q2) fun d s3 ⟨z,H3,I3,r3,k,e,q3⟩=>?_)) hm
 subst e
 cases r3
 refine wpAny_truthy_bool ?_
 cases k with
 | false=>exact ite_ff ⟨.bl false,H3,I3,rfl,q3⟩
 | true=>exact ite_tt (chain_last (cu (hc pins s3 σ H3 _ I3 q3) fun w' s4 ⟨z',H4,I4,r4,q4⟩=>mS pins s4 σ H4 y z' u w' Q I4 r2 r4 q4))
theorem vG {op qD:CmpOp} {r r':R2} (ho:eJ X (compareOp op) r) (mS:eJ X (compareOp qD) r') (ha:PE X a ta) (hb:PE X b tb) (hc:PE X c tc)
  (hm:lastMarks [op,qD] [b,c]=false:=by with_unfolding_all rfl):PT X (.Compare a [op,qD] [b,c] pos) (vE (qC r r' ta tb tc)):=by
 intro pins s σ H Q I h
 refine isTrue_chain (cu (ha pins s σ H _ I h) fun v s1 ⟨x,H1,I1,r1,q1⟩=>test_link (cu (hb pins s1 σ H1 _ I1 q1) fun u s2 ⟨y,H2,I2,r2,q2⟩ =>
  cu (ho pins s2 σ H2 x y v u _ I2 r1 r2 q2) fun d s3 ⟨z,H3,I3,r3,k,e,q3⟩=>?_)) hm
 subst e
 cases r3
 refine wpAny_truthy_bool ?_
 cases k with
 | false =>
  obtain⟨k',e',q'⟩:=q3
  cases e'
  exact ite_ff ⟨H3,I3,q'⟩
 | true =>
  refine ite_tt (test_last (cu (hc pins s3 σ H3 _ I3 q3) fun w' s4 ⟨z',H4,I4,r4,q4⟩=>cu (mS pins s4 σ H4 y z' u w' _ I4 r2 r4 q4) fun d' s5 ⟨z2,H5,I5,r5,k2,e2,q5⟩=>?_))
  subst e2
  cases r5
  exact wpAny_truthy_bool ⟨H5,I5,q5⟩
noncomputable def Bt (K:Fg) (x:V) (H:Hp) (k:Bool):Prop :=
 match x with
 | .bb=>k=false
 | .bl b=>k=b
 | .int i=>k=(i != 0)
 | .str y=>y.length≤sizeLine/\k=((y.length:Int) != 0)
 | .Dg y=>y.size≤sizeLine/\k=((y.size:Int) != 0)
 | .ref p=>(∃xs,iq K H p xs/\k=!xs.isEmpty)\/(∃xs,rW K H p xs/\k=!xs.isEmpty)\/∃aw,H p=some (.dK aw)/\k=!aw.isEmpty
 | _=>False
theorem qE {κ:Type} {aw:List (κ×V)} {vs:List (κ×Value)} (r:KV aw vs):(!vs.isEmpty)=!aw.isEmpty:=by
 cases r<;>rfl
theorem lr {xs:List V} {aD:List Value} (r:Vals xs aD):(!aD.toArray.isEmpty)=!xs.isEmpty:=by
 cases r<;>simp
theorem lu:(sizeLine:Nat)<2 ^ 63:=by rw[sizeLine_eq]; decide
theorem Bu:GW X (fun x H Q=>∃k,Bt X.K x H k/\Q k H):=by
 intro pins s σ H x v Q I rx h
 obtain⟨k,e,q⟩:=h
 have hl:=lu
 have hs:sizeLine=16777216:=sizeLine_eq
 cases x with
 | bb =>
  cases rx
  have e':k=false:=e
  subst e'
  exact truthy_none ⟨H,I,q⟩
 | bl b =>
  cases rx
  have e':k=b:=e
  subst e'
  exact wpAny_truthy_bool ⟨H,I,q⟩
 | int i =>
  obtain⟨t,rfl⟩:=rx
  have e':k=(i != 0):=e
  subst e'
  exact PySem.P.truthy_int ⟨H,I,q⟩
 | str y =>
  obtain⟨t,rfl⟩:=rx
  obtain⟨hy,e'⟩:y.length≤sizeLine/\k=((y.length:Int) != 0):=e
  subst e'
  exact PySem.P.truthy_str (by omega) ⟨H,I.tok _,q⟩
 | Dg y =>
  obtain⟨t,rfl⟩:=rx
  obtain⟨hy,e'⟩:y.size≤sizeLine/\k=((y.size:Int) != 0):=e
  subst e'
  exact PySem.W.truthy_bytes (by omega) ⟨H,I.tok _,q⟩
 | ref p =>
  cases rx
  have e':(∃xs,iq X.K H p xs/\k=!xs.isEmpty)\/(∃xs,rW X.K H p xs/\k=!xs.isEmpty)\/∃aw,H p=some (.dK aw)/\k=!aw.isEmpty:=e
  rcases e' with⟨xs,hx,e'⟩ | ⟨xs,hx,e'⟩ | ⟨aw,hx,e'⟩
  ·subst e'
   obtain⟨aD,r,pl,hz⟩:=I.list hx
   have hlen:=r.length
   exact wpAny_truthy_list pl.isList (by simp only[List.size_toArray]; omega) ⟨H,I.tok _,by rw[lr r]; exact q⟩
  ·subst e'
   obtain⟨aD,r,pl,hz⟩:=I.tuple hx
   have hlen:=r.length
   exact truthy_tuple pl (by simp only[List.size_toArray]; omega) ⟨H,I.tok _,by rw[lr r]; exact q⟩
  ·subst e'
   obtain⟨hz,hS,vs,r,m⟩:aw.length≤sizeLine/\(p == sysModules)=false/\∃vs,KV aw vs/\s.heap.DictOf (cq X.prog X.w) p vs:=I.aX p _ hx
   have hlen:aw.length=vs.length:=Paired.length r
   exact wpAny_truthy_dict hS m (by omega) ⟨H,I.tok _,by rw[qE r]; exact q⟩
 | _=>exact(show False from e).elim
theorem vH (ha:PE X a ta) (he:∀whole,isTrue a X.env whole=(do let v ← whole; standAt a.pos; holding [v] (truthy v))) :
  PT X a (fun σ H Q=>ta σ H fun x H'=>∃k,Bt X.K x H' k/\Q k H'):=by
 intro pins s σ H Q I h
 exact isTrue_plain (cu (ha pins s σ H _ I h) fun v s1 ⟨x,H1,I1,r1,q1⟩=>Bu pins s1 σ H1 x v Q I1 r1 q1) (he _)
theorem vals1 {x:V} {us:List Value} (r:Vals [x] us):∃u,us=[u]/\RelV x u:=by
 cases r with
 | cons r1 r2=>cases r2; exact⟨_,rfl,r1⟩
theorem vals2 {x y:V} {us:List Value} (r:Vals [x,y] us):∃u w',us=[u,w']/\RelV x u/\RelV y w':=by
 cases r with
 | cons r1 r2 =>
  cases r2 with
  | cons r3 r4=>cases r4; exact⟨_,_,rfl,r1,r3⟩
theorem tY (hc:X.calm=true):bH X (.builtin "max") (fun xs H Q=>∃i j,xs=[.int i,.int j]/\Q (.int (if j > i then j else i)) H):=by
 intro pins s σ H xs us Q I r h
 obtain⟨i,j,rfl,q⟩:=h
 obtain⟨u,w',rfl,⟨t,rfl⟩,⟨t',rfl⟩⟩:=vals2 r
 refine max_two_ints (I.ok.hd hc) fun h' tk k=>⟨_,H,I.kept k,?_,q⟩
 by_cases hj:j > i
 ·rw[if_pos hj,if_pos hj]; exact⟨_,rfl⟩
 ·rw[if_neg hj,if_neg hj]; exact⟨_,rfl⟩
theorem tZ:bH X (.type "int") (fun xs H Q=>(∃i,xs=[.int i]/\Q (.int i) H)\/∃k,xs=[.bl k]/\Q (.int (if k then 1 else 0)) H):=by
 intro pins s σ H xs us Q I r h
 rcases h with⟨i,rfl,q⟩ | ⟨k,rfl,q⟩
 ·obtain⟨u,rfl,t,rfl⟩:=vals1 r
  exact call_int_int ⟨.int i,H,I,⟨_,rfl⟩,q⟩
 ·obtain⟨u,rfl,r1⟩:=vals1 r
  cases r1
  exact call_int_bool ⟨.int (if k then 1 else 0),H,I.tok _,⟨_,rfl⟩,q⟩
end
end L2
namespace L2
open PySem PySem.Spec PyProof.Rows
structure vI (h:Heap) (x dx C:Addr) (mA:Str->Option Value):Prop where
 obj:h.get? x=some (PySem.W.instObj C dx)
 ns:h.Ns1 dx mA
 ne:dx≠x
theorem ua {h:Heap} {dx:Addr} {mA:Str->Option Value} (n:h.Ns1 dx mA):∃od,h.get? dx=some od/\∀name,PySem.W.lookIn name od=some (mA name):=by
 obtain⟨o,es,ep,ho,hd,hk,_,hm⟩:=n
 refine⟨o,ho,fun name=>?_⟩
 have e:=hm name
 unfold nsFind findBy at e
 rw[← Array.find?_toList] at e
 unfold PySem.W.lookIn
 rw[hd]
 dsimp only
 split
 ·rename_i y q
  rw[q] at e
  exact congrArg some e
 ·rename_i q
  rw[q] at e
  have a:es.toList.any (·.refKey)=false:=by
   rw[List.any_eq_false]
   intro y hy
   obtain⟨z,t,G0⟩:=hk y (Array.mem_toList_iff.mp hy)
   simp[DictEntry.refKey,G0]
  have a':¬es.toList.any (·.refKey)=true:=by rw[a]; exact Bool.false_ne_true
  rw[if_neg a']
  exact congrArg some e
theorem vI.look {h:Heap} {x dx C:Addr} {mA:Str->Option Value} (I:vI h x dx C mA):∃od,PySem.W.InstAt h x (PySem.W.instObj C dx) C (some od)/\∀name,PySem.W.lookIn name od=some (mA name) :=
 let⟨od,ho,hl⟩:=ua I.ns
 ⟨od,⟨I.obj,rfl,rfl,ho⟩,hl⟩
section
variable {prog:Program} {w:World} {A:Around} {E:Value->Shared->Prop} {s:Shared} {K:Fg} {x dx C f:Addr} {mA:Str->Option Value} {name:Str} {v:Value}
theorem yy {ns:List Str} {Q:Unit->Shared->Prop} (X:K.In s.heap) (I:vI s.heap x dx C mA)
  (hs:PySem.W.findIn K (.ref C) "__setattr__" = some (some (.builtin "object.__setattr__"))) (hp:PySem.W.plainOver K C=true) (ht:PySem.W.takerIn K C name=some none) (hh:PySem.W.hasDictIn K C=true)
  (hw:PySem.Within mA ns) (hsz:ns.length≤sizeLine)
  (h:∀h',vI h' x dx C (fun y=>if y=name then some v else mA y)->Heap.SameBut dx s.heap h'->Q () { s with heap:=h',toks:=s.toks+2 }) :
  wpAny (model prog w) A (setAttr (.ref x) name v) Q E s:=by
 obtain⟨od,J,hl⟩:=I.look
 refine PySem.W.set_plain X J hs (PySem.W.osa_open (s:={ s with toks:=s.toks+1 }) (r:=none) X J hp ht fun b=>?_)
 obtain⟨cd,hc,A0⟩:=PySem.W.any_some hh
 have hx:s.heap.get? x=some ⟨.ref C,some dx,.plain,#[]⟩:=I.obj
 refine wpAny_bind (wpAny_pure (wpAny_bind (wpAny_bind (wpAny_loadPart hx (wpAny_bind (PySem.W.Looks.here (s:={ s with toks:=s.toks+1 }) (PySem.W.looks_clsIn X hc) ?_))))))
 rw[A0]
 refine wpAny_pure (a:=some dx) (wpAny_bind (wpAny_pure (wpAny_bind ?_)))
 refine wpAny_nsSet1 (s:={ s with toks:=s.toks+1 }) I.ns fun h' C1 IL=>?_
 obtain⟨oD,LV,LW,J2,J3,J9⟩:=C1.count (PySem.Within.cons name v hw)
 refine wpAny_bind (wpAny_lookBehind J2 (by rw[J3]; exact pastItsLine_dict (Nat.le_trans J9 (by rw[zE]; omega))) ?_)
 exact wpAny_pure (h _ ⟨(IL.2 _ (Ne.symm I.ne)).trans I.obj,C1,I.ne⟩ IL)
theorem vJ {R:Result->Shared->Prop} {vs:List Value} {kw:List (Str×Value)} (X:K.In s.heap) (hm:PySem.W.makesIn K C=true)
  (hi:PySem.W.findIn K (.ref C) "__init__" = some (some (.ref f))) (hf:PySem.W.typeIn K (.ref f)=some (.type "function"))
  (h:codeAny (model prog w) (A.under (.builtin "type.__call__" ⟨.ref C::vs,kw⟩)) (.call (.ref f) ⟨.ref (s.heap.objs.size+1)::vs,kw⟩) (PySem.W.InitBack (s.heap.objs.size+1) R)
   { s with heap:=(s.heap.push PySem.W.emptyDict).push (PySem.W.instObj C s.heap.objs.size) }) :
  codeAny (model prog w) A (.call (.ref C) ⟨vs,kw⟩) R s:=by
 obtain⟨hh,g,d,t,os⟩:=s
 exact PySem.W.make_core (PySem.W.makes_of X hm) (PySem.W.looks_findIn X hi) (fun self=>PySem.W.bind_fn X self hf) (.inl rfl) h
end
noncomputable def fM (f:Str) (v:V):List (Str×V)->List (Str×V)
 | []=>[(f,v)]
 | (g,x)::r=>if g=f then(g,v)::r else(g,x)::fM f v r
theorem km (f g:Str) (v:V):∀fs:List (Str×V),(fM f v fs).lookup g=if g=f then some v else fs.lookup g
 | []=>by
  show List.lookup g [(f,v)]=_
  by_cases h:g=f
  ·have hb:(g == f)=true:=beq_iff_eq.mpr h
   simp only[List.lookup,hb,if_pos h]
  ·have hb:(g == f)=false:=beq_eq_false_iff_ne.mpr h
   simp only[List.lookup,hb,if_neg h]
 | (k,x)::r=>by
  have ih:=km f g v r
  rw[show fM f v ((k,x)::r)=(if k=f then(k,v)::r else(k,x)::fM f v r) from rfl]
  by_cases hk:k=f
  ·rw[if_pos hk]
   by_cases h:g=k
   ·have hb:(g == k)=true:=beq_iff_eq.mpr h
    simp only[List.lookup,hb,if_pos (h.trans hk)]
   ·have hb:(g == k)=false:=beq_eq_false_iff_ne.mpr h
    simp only[List.lookup,hb,if_neg (fun e:g=f=>h (e.trans hk.symm))]
  ·rw[if_neg hk]
   by_cases h:g=k
   ·have hb:(g == k)=true:=beq_iff_eq.mpr h
    simp only[List.lookup,hb,if_neg (fun e:g=f=>hk (h.symm.trans e))]
   ·have hb:(g == k)=false:=beq_eq_false_iff_ne.mpr h
    simp only[List.lookup,hb]
    exact ih
theorem jK (f:Str) (v:V):∀fs:List (Str×V),f∈(fM f v fs).map (·.1)/\∀g,g∈fs.map (·.1)->g∈(fM f v fs).map (·.1)
 | []=>⟨by simp[fM],fun g h=>by simp at h⟩
 | (k,x)::r=>by
  obtain⟨i1,i2⟩:=jK f v r
  rw[show fM f v ((k,x)::r)=(if k=f then(k,v)::r else(k,x)::fM f v r) from rfl]
  by_cases hk:k=f
  ·rw[if_pos hk]
   subst hk
   exact⟨by simp,fun g h=>by simpa using h⟩
  ·rw[if_neg hk]
   refine⟨?_,fun g h=>?_⟩
   ·rw[zC]
    exact List.mem_cons_of_mem _ i1
   ·rw[zC] at h ⊢
    rcases List.mem_cons.mp h with e | e
    ·exact List.mem_cons.mpr (.inl e)
    ·exact List.mem_cons_of_mem _ (i2 g e)
theorem kn (f:Str) (v:V):∀fs:List (Str×V),(fM f v fs).length≤fs.length+1
 | []=>by simp[fM]
 | (k,x)::r=>by
  have ih:=kn f v r
  rw[show fM f v ((k,x)::r)=(if k=f then(k,v)::r else(k,x)::fM f v r) from rfl]
  by_cases hk:k=f
  ·rw[if_pos hk,zE,zE]; omega
  ·rw[if_neg hk,zE,zE]; omega
theorem kI.rX {v:V} {o:Option Value} (r:kI (some v) o):∃u,o=some u/\RelV v u:=by
 cases o with
 | none=>exact(show False from r).elim
 | some u=>exact⟨u,rfl,r⟩
section
variable {P:Program} {w:World} {H H':Hp} {h h':Heap} {a C dx:Addr} {fs Ai:List (Str×V)}
theorem ir (aX:gK P w H h) (e:H a=some (.ins C dx fs)):∃mA,vI h a dx C mA/\(∀f,kI (fs.lookup f) (mA f))/\PySem.Within mA (fs.map (·.1))/\fs.length≤1000/\H dx=some (.own a):=by
 obtain⟨d,z,ne,ob,mA,n,r,q⟩:=(show bG P w H h a (.ins C dx fs) from aX a _ e)
 exact⟨mA,⟨ob,n,ne⟩,r,q,z,d⟩
end
structure Bv (K:Fg) (C:Addr):Prop where
 pg:PySem.W.plainGet K C Str.empty=true
 hd:PySem.W.hasDictIn K C=true
 po:PySem.W.plainOver K C=true
 sa:PySem.W.findIn K (.ref C) "__setattr__" = some (some (.builtin "object.__setattr__"))
noncomputable def lx (K:Fg) (C:Addr) (f:Str):Prop:=PySem.W.findIn K (.ref C) f=some none
theorem lx.taker {K:Fg} {C:Addr} {f:Str} (n:lx K C f):PySem.W.takerIn K C f=some none:=by
 unfold PySem.W.takerIn
 rw[show PySem.W.findIn K (.ref C) f=some none from n]
 rfl
structure LX (K:Fg) (C:Addr) (f:Str) (v:V) (u:Value):Prop where
 at_:PySem.W.findIn K (.ref C) f=some (some u)
 rel:RelV v u
 get:PySem.W.specialIn K u "__get__" = some none
 cp:PySem.W.copiedNames.contains f=false
structure Meth (K:Fg) (C:Addr) (m:Str) (f:Addr):Prop where
 at_:PySem.W.findIn K (.ref C) m=some (some (.ref f))
 fn:PySem.W.isFn K (.ref f)=true
 kp:PySem.W.keepIn K (.ref f)=true
section
variable {X:Cx} {pins:List (Addr×Obj)} {σ:St} {H:Hp} {s:Shared} {a C dx:Addr} {fs:List (Str×V)} {f:Str} {v:V} {A:Around} {E:Value->Shared->Prop}
theorem qF {y:V} {u:Value} {Q:Unit->Shared->Prop} (I:Inv X pins σ H s) (e:H a=some (.ins C dx fs)) (c:Bv X.K C) (n:lx X.K C f) (hl:fs.length<1000) (ry:RelV y u)
  (h:∀s',Inv X pins σ (upd H a (.ins C dx (fM f y fs))) s'->Q () s'):wpAny (model X.prog X.w) A (setAttr (.ref a) f u) Q E s:=by
 obtain⟨mA,O,r,wi,_,ho⟩:=ir I.aX e
 have hz:(fs.map (·.1)).length≤sizeLine:=by rw[zK,sizeLine_eq]; omega
 refine yy I.rT O c.sa c.po n.taker c.hd wi hz fun h' O' sb=>h _ ?_
 have hd:∃o,h'.get? dx=some o:=let⟨o,_,_,e',_⟩:=O'.ns; ⟨o,e'⟩
 refine I.write (x:=a) (e:=dx) (by rw[e]; exact True.intro) (.inr ho) (fun b q hb z=>(sb.2 b hb).trans z) hd ?_
 refine⟨by rw[av O.ne]; exact ho,?_,O.ne,O'.obj,_,O'.ns,fun g=>?_,fun g hg=>?_⟩
 ·have:=kn f y fs; omega
 ·show kI ((fM f y fs).lookup g) (if g=f then some u else mA g)
  rw[km]
  by_cases q:g=f
  ·rw[if_pos q,if_pos q]; exact ry
  ·rw[if_neg q,if_neg q]; exact r g
 ·by_cases q:g=f
  ·rw[q]; exact(jK f y fs).1
  ·refine(jK f y fs).2 g (wi g fun z=>hg ?_)
   show(if g=f then some u else mA g)=none
   rw[if_neg q]; exact z
theorem Inv.made (I:Inv X pins σ H s):Inv X pins σ (upd (upd H s.heap.objs.size (.own (s.heap.objs.size+1))) (s.heap.objs.size+1) (.ins C s.heap.objs.size []))
  { s with heap:=(s.heap.push PySem.W.emptyDict).push (PySem.W.instObj C s.heap.objs.size) }:=by
 have e1:(s.heap.push PySem.W.emptyDict).get? s.heap.objs.size=some PySem.W.emptyDict:=Heap.get?_push_size s.heap rfl
 have e2:((s.heap.push PySem.W.emptyDict).push (PySem.W.instObj C s.heap.objs.size)).get? (s.heap.objs.size+1)=some (PySem.W.instObj C s.heap.objs.size):=by
  have:=Heap.get?_push_size (s.heap.push PySem.W.emptyDict) (o:=PySem.W.instObj C s.heap.objs.size) rfl
  rwa[Heap.size_push] at this
 have e3:(s.heap.push PySem.W.emptyDict).Ns s.heap.objs.size (fun _=>none):=⟨PySem.W.emptyDict,#[],_,e1,rfl,(fun e he=>absurd he (by simp)),fun _=>rfl⟩
 have I1:=I.laid (a:=s.heap.objs.size) (o:=.own (s.heap.objs.size+1)) (h':=s.heap.push PySem.W.emptyDict) (t':=s.toks) (fun b u q=>Heap.get?_push_of_some _ q) (Nat.le_refl _) ⟨_,e1⟩
 refine I1.laid (a:=s.heap.objs.size+1) (o:=.ins C s.heap.objs.size []) (t':=s.toks) (fun b u q=>Heap.get?_push_of_some _ q) (Nat.le_of_eq (Heap.size_push _ _)) ?_
 have ne:s.heap.objs.size≠s.heap.objs.size+1:=Nat.ne_of_lt (Nat.lt_succ_self _)
 refine⟨by rw[av ne,aF],Nat.zero_le _,ne,e2,fun _=>none,(Heap.Ns1.of_empty e3).at fun o q=>Heap.get?_push_of_some _ q,fun _=>True.intro,fun y hy=>absurd rfl hy⟩
end
noncomputable def G3 (K:Fg) (ta tv:TE) (f:Str):TS:=fun D σ H=>tv σ H fun y H1=>ta σ H1 fun x H2=>∃a C dx fs,x=.ref a/\H2 a=some (.ins C dx fs)/\Bv K C/\lx K C f/\fs.length<1000 ∧
 D.nx σ (upd H2 a (.ins C dx (fM f y fs)))
section
variable {X:Cx} {o e value:Expr} {f:Str} {pos pos' ub:Pos} {ta tv:TE}
theorem Bw (ha:PE X o ta) (hv:PE X value tv) (hs:swapsWith value (some (.Attribute o f pos')) pos.line X.env=pure false):PS X (.Assign [.Attribute o f pos'] value pos) (G3 X.K ta tv f):=by
 intro pins s σ H D I h
 refine plainObj_wpAny_Assign_Attribute (cu (hv pins s σ H _ I h) fun u s1 ⟨y,H1,I1,ry,q⟩=>cu (ha pins s1 σ H1 _ I1 q) fun ov s2 ⟨x,H2,I2,rx,a,C,dx,fs,ex,ea,c,n,l,q2⟩=>?_) hs
 subst ex
 obtain rfl:ov=Value.ref a:=rx
 exact qF I2 ea c n l ry fun s3 I3=>⟨σ,_,I3,q2⟩
end
section
variable {X:Cx} {pins:List (Addr×Obj)} {σ:St} {H:Hp} {s:Shared} {A:Around} {E:Value->Shared->Prop} {Q:Value->Shared->Prop} {c:Value} {b:Bool}
inductive lz (K:Fg) (H:Hp):V->Value->Prop where
 | bb:lz K H .bb (.type "NoneType")
 | bl (x:Bool):lz K H (.bl x) (.type "bool")
 | int (i:Int):lz K H (.int i) (.type "int")
 | str (x:Str):lz K H (.str x) (.type "str")
 | Dh (x:UInt64):lz K H (.Dh x) (.type "float")
 | lst {a:Addr} {xs:List V} (e:H a=some (.lst xs)):lz K H (.ref a) (.type "list")
 | oS {a:Addr} {o:Obj} {xs:List V} (e:H a=some (.oS o (.lst xs))):lz K H (.ref a) (.type "list")
 | tup {a:Addr} {xs:List V} (e:H a=some (.tup xs)):lz K H (.ref a) (.type "tuple")
 | dK {a:Addr} {aw:List (Key×V)} (e:H a=some (.dK aw)):lz K H (.ref a) (.type "dict")
 | dT {a:Addr} {aw:List (List Key×V)} (e:H a=some (.dT aw)):lz K H (.ref a) (.type "dict")
 | ins {a C dx:Addr} {fs:List (Str×V)} (e:H a=some (.ins C dx fs)) (cl:Bv K C) (ha:PySem.W.findIn K (.ref C) "__class__" = some (some (.builtin "object.__class__")))
   (hn:PySem.W.specialIn K (.builtin "object.__class__") "__get__" = some (some (.builtin "getset_descriptor.__get__"))) (G4:PySem.W.takesIn K (.builtin "object.__class__")=some true)
   (hm:PySem.W.mroIn K C (.type "object")=some true):lz K H (.ref a) (.ref C)
end
end L2
namespace L2
open PySem PySem.Spec PyProof.Rows
structure df (k:Nat) (A:Around):Prop where
 hd:A.handled=none
 dp:A.depth+3*k+5<recursionLimit
 un:A.units+16*k+200<cLine
theorem df.mono {j k:Nat} {A:Around} (r:df k A) (h:j≤k):df j A:=⟨r.hd,by have:=r.dp; omega,by have:=r.un; omega⟩
theorem df.deeper {k:Nat} {A:Around} (r:df (k+1) A) (env:Env):df k (A.deeper env) :=
 ⟨r.hd,by have:=r.dp; show A.depth+1+3*k+5<_; omega,by have:=r.un; show A.units+3+16*k+200<_; omega⟩
theorem qG {A:Around} {C:Addr} {us:List Value} {kw:List (Str×Value)}:(A.under (.builtin "type.__call__" ⟨.ref C::us,kw⟩)).depth=A.depth+1:=by
 first | rfl | simp[Around.under,Code.weight,Code.isCreation,Code.isGuard,Code.isCaller,Code.frames,Code.isFrame,guardIds]
theorem qH {A:Around} {C:Addr} {us:List Value} {kw:List (Str×Value)}:(A.under (.builtin "type.__call__" ⟨.ref C::us,kw⟩)).units=A.units+1:=by
 first | rfl | simp[Around.under,Code.cUnits,Code.frames,Code.isFrame]
theorem df.make {k:Nat} {A:Around} (r:df (k+1) A) (C:Addr) (us:List Value) (kw:List (Str×Value)):df k (A.under (.builtin "type.__call__" ⟨.ref C::us,kw⟩)) :=
 ⟨r.hd,by have:=r.dp; rw[qG]; omega,by have:=r.un; rw[qH]; omega⟩
theorem df.depth {k:Nat} {A:Around} (r:df k A):A.depth<recursionLimit:=by have:=r.dp; omega
theorem df.units {k:Nat} {A:Around} (r:df k A):A.units+64<cLine:=by have:=r.un; omega
noncomputable def uc:TA:=fun _ H Q=>Q [] H
noncomputable def ko (ta:TE) (tr:TA):TA:=fun σ H Q=>ta σ H fun x H1=>tr σ H1 fun xs H2=>Q (x::xs) H2
section
variable {X:Cx} {e:Expr} {es:List Expr} {te:TE} {t:TA} {pos:Pos}
theorem fN:PA X [] uc:=fun _ _ _ _ H Q I h=>Calls.spliced_nil ⟨[],H,I,.nil,h⟩
theorem cW (ha:PE X e te) (hr:PA X es t) (hs:starEach (e::es) X.env=(false,eval e X.env)::starEach es X.env:=by rfl):PA X (e::es) (ko te t):=by
 intro pos pins s σ H Q I h
 rw[hs]
 show wpAny _ _ (spliced ((false,eval e X.env)::backTo pos (starEach es X.env))) _ _ s
 refine Calls.spliced_cons (cu (ha pins s σ H _ I h) fun u s1 ⟨x,H1,I1,r1,q1⟩=>?_)
 exact cu (hr pos pins s1 σ H1 _ I1 q1) fun us s2 ⟨xs,H2,I2,r2,q2⟩=>⟨x::xs,H2,I2,.cons r1 r2,q2⟩
noncomputable def DW (t:TA):TE:=fun σ H Q=>t σ H fun xs H1=>xs.length≤sizeLine/\∀p,H1 p=none->Q (.ref p) (upd H1 p (.tup xs))
noncomputable def G5 (t:TA):TE:=fun σ H Q=>t σ H fun xs H1=>xs.length≤sizeLine/\∀p,H1 p=none->Q (.ref p) (upd H1 p (.lst xs))
theorem vK {x1} (h:PA X es t):PE X (.Tuple es x1 pos) (DW t):=by
 intro pins s σ H Q I hq
 refine wpAny_Tuple_spliced (cu (h pos pins s σ H _ I hq) fun us s1 ⟨xs,H1,I1,r,z,q⟩=>⟨by rw[← r.length]; exact z,?_⟩)
 have hf:H1 s1.heap.objs.size=none:=I1.aX.fresh (Nat.le_refl _)
 refine⟨.ref s1.heap.objs.size,upd H1 s1.heap.objs.size (.tup xs),I1.laid (t':=s1.toks) (fun b u e=>Heap.get?_push_of_some _ e) (Nat.le_refl _) ?_,rfl,q _ hf⟩
 exact⟨z,us,r,⟨_,Heap.get?_push_size _ rfl,rfl,_,rfl⟩⟩
theorem Bx (h:PA X es t):PE X (.List es pos) (G5 t):=by
 intro pins s σ H Q I hq
 refine wpAny_List_spliced (cu (h pos pins s σ H _ I hq) fun us s1 ⟨xs,H1,I1,r,z,q⟩=>⟨by rw[← r.length]; exact z,?_⟩)
 have hf:H1 s1.heap.objs.size=none:=I1.aX.fresh (Nat.le_refl _)
 refine⟨.ref s1.heap.objs.size,upd H1 s1.heap.objs.size (.lst xs),I1.laid (t':=s1.toks) (fun b u e=>Heap.get?_push_of_some _ e) (Nat.le_refl _) ?_,rfl,q _ hf⟩
 exact⟨z,us,0,r,Heap.get?_push_size _ rfl⟩
end
noncomputable abbrev Sp:=List V->Hp->VK->XK->Prop
noncomputable abbrev qt:=List Env->Hp->Shared->XK->Value->Shared->Prop
structure qI (P:Program) (w:World) (K:Fg) (mg:Str->Option Value) (base:Heap) (A:Around) (outer:List Env) (s:Shared) (H:Hp):Prop where
 frames:A.frames=some outer
 mod:Mod K mg base
 bs:∀b o,base.get? b=some o->s.heap.get? b=some o/\H b=none
 xS:base.objs.size≤s.heap.objs.size
 kJ:s.heap.FunFrames base outer
 AZ:∀b∈gU outer,H b=none
 aX:gK P w H s.heap
 bare:AllBare s.gens
noncomputable def CE (outer:List Env) (P:Program) (w:World) (H:Hp) (s:Shared) (Q:VK) (u:Value) (s':Shared):Prop :=
 ∃v H',s'.os=s.os/\AllBare s'.gens/\Un (gU outer) [] H H' s.heap s'.heap/\gK P w H' s'.heap/\RelV v u/\Q v H'
noncomputable def CR (CX:qt) (outer:List Env) (P:Program) (w:World) (H:Hp) (s:Shared) (Q:VK) (E:XK) (r:Result) (s':Shared):Prop :=
 match r with
 | .ok (.ret u)=>CE outer P w H s Q u s'
 | .ok _=>False
 | .error e=>CX outer H s E e s'
structure fX (P:Program) (w:World) (K:Fg) (mg:Str->Option Value) (base:Heap) (CX:qt) (k:Nat) (f:Addr) (fd:FuncData) (ps:List Str) (sp:Sp):Prop where
 len:∀vs H Q E,sp vs H Q E->vs.length=ps.length
 run:∀(A:Around) (outer:List Env) (s:Shared) (H:Hp) (args:Args) (us:List Value) (vs:List V) (Q:VK) (E:XK),df k A->qI P w K mg base A outer s H->BindsTo s fd args (ps.zip us)->Vals vs us->sp vs H Q E →
  codeAny (model P w) A (.call (.ref f) args) (CR CX outer P w H s Q E) s
theorem fX.mono {P:Program} {w:World} {K:Fg} {mg:Str->Option Value} {base:Heap} {CX:qt} {j k:Nat} {f:Addr} {fd:FuncData} {ps:List Str} {sp:Sp} (F:fX P w K mg base CX j f fd ps sp) (h:j≤k) :
  fX P w K mg base CX k f fd ps sp:=⟨F.len,fun A outer s H args us vs Q E hr=>F.run A outer s H args us vs Q E (hr.mono h)⟩
theorem fX.imp {P:Program} {w:World} {K:Fg} {mg:Str->Option Value} {base:Heap} {CX:qt} {k:Nat} {f:Addr} {fd:FuncData} {ps:List Str} {sp IM:Sp} (F:fX P w K mg base CX k f fd ps sp)
  (h:∀vs H Q E,IM vs H Q E->sp vs H Q E):fX P w K mg base CX k f fd ps IM :=
 ⟨fun vs H Q E q=>F.len vs H Q E (h _ _ _ _ q),fun A outer s H args us vs Q E hr he hb hv hs=>F.run A outer s H args us vs Q E hr he hb hv (h _ _ _ _ hs)⟩
theorem qI.make {P:Program} {w:World} {K:Fg} {mg:Str->Option Value} {base:Heap} {A:Around} {outer:List Env} {s:Shared} {H:Hp} (e:qI P w K mg base A outer s H) (C:Addr) (us:List Value) (kw:List (Str×Value)) :
  qI P w K mg base (A.under (.builtin "type.__call__" ⟨.ref C::us,kw⟩)) outer s H:=⟨by first | exact e.frames | (simpa[Around.under,Code.envs,Code.isFrame,pushEnvs] using e.frames),e.mod,e.bs,e.xS,e.kJ,e.AZ,e.aX,e.bare⟩
section
variable {X:Cx} {pins:List (Addr×Obj)} {σ:St} {H:Hp} {s s':Shared}
theorem Inv.DX (I:Inv X pins σ H s):qI X.prog X.w X.K X.mg X.base X.A X.stack s H :=
 ⟨I.ok.frames,I.ok.mod,I.bs,Nat.le_trans I.ok.xS I.sz,I.stack,I.nG,I.aX,I.bare⟩
theorem Inv.after {Q:VK} {u:Value} (I:Inv X pins σ H s) (h:CE X.stack X.prog X.w H s Q u s'):EP X pins σ Q u s':=by
 obtain⟨v,H',os,bare,un,aX,r,q⟩:=h
 obtain⟨hh,g,d,t,DY⟩:=s'
 obtain rfl:DY=s.os:=os
 exact⟨v,H',I.call (h':=hh) (g':=g) (d':=d) (t':=t) (ch:=[]) un aX bare (fun b z=>absurd z (by simp)),r,q⟩
end
noncomputable def Binds (K:Fg) (fd:FuncData) (ps:List Str) (ds:List Value):Prop :=
 ∀(s:Shared) (us:List Value),K.In s.heap->(us++ds).length=ps.length->BindsTo s fd ⟨us,[]⟩ (ps.zip (us++ds))
theorem Binds.all {K:Fg} {fd:FuncData} {ps:List Str} (h:∀us:List Value,us.length=ps.length->bindArgs fd ⟨us,[]⟩=pure (ps.zip us)):Binds K fd ps []:=fun s us _ hl=>by
 rw[zI] at hl ⊢
 exact .of_eq (h us hl)
noncomputable def Passes (CX:qt) (X:Cx) (E:XK):Prop:=∀(pins:List (Addr×Obj)) (σ:St) (H:Hp) (s:Shared) (e:Value) (s':Shared),Inv X pins σ H s->CX X.stack H s E e s'->X.xe e s'
section
variable {X:Cx} {CX:qt} {k:Nat} {f C:Addr} {fd:FuncData} {ps:List Str} {sp:Sp} {yz:List V} {ds:List Value} {E:XK} {x m:Str} {p pos apos:Pos} {e o:Expr} {es:List Expr} {ta:TE} {t:TA}
structure Mk (K:Fg) (C f:Addr):Prop where
 makes:PySem.W.makesIn K C=true
 init:PySem.W.findIn K (.ref C) "__init__" = some (some (.ref f))
 fn:PySem.W.isFn K (.ref f)=true
 kp:PySem.W.keepIn K (.ref C)=true
end
section
variable {X:Cx} {CX:qt} {k:Nat} {f C:Addr} {fd:FuncData} {ps ks:List Str} {sp:Sp} {E:XK} {x m:Str} {p pos apos Ka:Pos} {e o:Expr} {es:List Expr} {kws:List Keyword} {te ta:TE} {t tk:TA} {nm:Option Str}
structure G6 (K:Fg) (fd:FuncData) (ps ks:List Str) (g:List Value->List Value->List Value) (gV:List V->List V->List V):Prop where
 to:∀(s:Shared) (us ws:List Value),K.In s.heap->(g us ws).length=ps.length->BindsTo s fd ⟨us,ks.zip ws⟩ (ps.zip (g us ws))
 rel:∀{vs:List V} {us:List Value} {zs:List V} {ws:List Value},Vals vs us->Vals zs ws->Vals (gV vs zs) (g us ws)
variable {g:List Value->List Value->List Value} {gV:List V->List V->List V}
end
structure aL (N P:List Str) (sc:Scope):Prop where
 kind:sc.kind=.function
 co:sc.isCoroutine=false
 gen:sc.isGenerator=false
 nd:N.Nodup
 pre:N.take P.length=P
 par:∀x∈P,sc.names.lookup x=some .local \/ sc.names.lookup x=some .cell
 By:∀y∈sc.names,y.2≠.free
theorem mU {kindOf:Str->Option NameKind} {x:Str}:∀{binds:List (Str×Value)} {m:Str->Option Value},(∀v,(x,v)∉binds)->bindL kindOf binds m x=m x
 | [],_,_=>rfl
 | (n,v)::r,m,h=>by
  unfold bindL
  rw[mU fun w hw=>h w (List.mem_cons_of_mem _ hw)]
  split
  ·have:x≠n:=by rintro rfl; exact h v List.mem_cons_self
   simp[this]
  ·rfl
theorem mV {kindOf:Str->Option NameKind} {x:Str}:∀{binds:List (Str×Value)} {m:Str->Option Value},(∀v,(x,v)∉binds)->bindC kindOf binds m x=m x
 | [],_,_=>rfl
 | (n,v)::r,m,h=>by
  unfold bindC
  rw[mV fun w hw=>h w (List.mem_cons_of_mem _ hw)]
  split
  ·rfl
  ·have:x≠n:=by rintro rfl; exact h v List.mem_cons_self
   simp[this]
theorem mW {kindOf:Str->Option NameKind} {x:Str} {v:Value}:∀{P:List Str} {vs:List Value} {i:Nat} {m:Str->Option Value},P.Nodup->P[i]? = some x->vs[i]? = some v->kindOf x=some .local →
  bindL kindOf (P.zip vs) m x=some v
 | [],_,_,_,_,h,_,_=>by simp at h
 | _::_,[],_,_,_,_,h,_=>by simp at h
 | p::P,w::vs,0,m,nd,h1,h2,hk=>by
  simp at h1 h2; subst h1; subst h2
  show bindL kindOf ((p,w)::P.zip vs) m p=_
  unfold bindL
  rw[mU fun v hv=>(List.nodup_cons.mp nd).1 (List.of_mem_zip hv).1,if_pos hk]
  simp
 | p::P,w::vs,i+1,m,nd,h1,h2,hk=>by
  show bindL kindOf ((p,w)::P.zip vs) m x=_
  unfold bindL
  exact mW (i:=i) (List.nodup_cons.mp nd).2 (by simpa using h1) (by simpa using h2) hk
theorem mX {kindOf:Str->Option NameKind} {x:Str} {v:Value}:∀{P:List Str} {vs:List Value} {i:Nat} {m:Str->Option Value},P.Nodup->P[i]? = some x->vs[i]? = some v->kindOf x≠some .local →
  bindC kindOf (P.zip vs) m x=some v
 | [],_,_,_,_,h,_,_=>by simp at h
 | _::_,[],_,_,_,_,h,_=>by simp at h
 | p::P,w::vs,0,m,nd,h1,h2,hk=>by
  simp at h1 h2; subst h1; subst h2
  show bindC kindOf ((p,w)::P.zip vs) m p=_
  unfold bindC
  rw[mV fun v hv=>(List.nodup_cons.mp nd).1 (List.of_mem_zip hv).1,if_neg hk]
  simp
 | p::P,w::vs,i+1,m,nd,h1,h2,hk=>by
  show bindC kindOf ((p,w)::P.zip vs) m x=_
  unfold bindC
  exact mX (i:=i) (List.nodup_cons.mp nd).2 (by simpa using h1) (by simpa using h2) hk
noncomputable def start (N:List Str) (vs:List V):St:=vs.map some++List.replicate (N.length-vs.length) none
noncomputable def ee (CX:qt) (P:Program) (w:World) (K:Fg) (mg:Str->Option Value) (base:Heap) (N:List Str) (qual:Str) (scope:Scope) (f:Addr) (cd:Value) (A:Around) (outer:List Env) (s:Shared) (H:Hp) (E:XK):Cx where
 prog:=P
 w:=w
 K:=K
 mg:=mg
 base:=base
 A:=A.deeper (envOfC qual scope s.heap.objs.size f cd)
 N:=N
 s₀:=s
 H₀:=H
 env:=envOfC qual scope s.heap.objs.size f cd
 outer:=outer
 stack:=envOfC qual scope s.heap.objs.size f cd::outer
 ex:=[]
 calm:=true
 fn:=fun _=>true
 pn:=[]
 xe:=fun e s'=>wpAny (model P w) (A.deeper (envOfC qual scope s.heap.objs.size f cd)) (leaving (envOfC qual scope s.heap.objs.size f cd) e) (fun _ G7=>CX outer H s E e G7) (fun e' G7=>CX outer H s E e' G7) s'
theorem o5 {sc:Scope} {n:Nat} {x:Str} (h:sc.names.lookup x=some .cell):∃c,(cellsFrom n sc.names []).lookup x=some c:=by
 have q:=PySem.W.cellsFrom_some sc.names n [] (.inl h)
 exact Option.isSome_iff_exists.mp q
theorem ud {CX:qt} {P:Program} {w:World} {K:Fg} {mg:Str->Option Value} {base:Heap} {N ps:List Str} {qual:Str} {scope:Scope} {f:Addr} {cd:Value} {A:Around} {outer:List Env} {s s1:Shared} {H:Hp} {E:XK} {us:List Value} {vs:List V}
  (S:aL N ps scope) (hd:A.handled=none) (e0:qI P w K mg base A outer s H) (hl:vs.length=ps.length) (r:Vals vs us)
  (x:InCallC s s.heap.objs.size (bindL (envOfC qual scope s.heap.objs.size f cd).kindOf (ps.zip us) fun _=>none) (cellsFrom (s.heap.objs.size+1) scope.names []) (bindC (envOfC qual scope s.heap.objs.size f cd).kindOf (ps.zip us) fun _=>none) s1) :
  Inv (ee CX P w K mg base N qual scope f cd A outer s H E) [] (start N vs) H s1:=by
 have gX:ps.length≤N.length:=by have:=congrArg List.length S.pre; rw[List.length_take] at this; omega
 obtain⟨h1,tk,rfl,hk⟩:=x.done
 have DZ:∀b:Addr,b∉(ee CX P w K mg base N qual scope f cd A outer s H E).ex:=fun b z=>absurd (show b∈([]:List Addr) from z) (by simp)
 refine⟨⟨e0.mod,S.kind,rfl,rfl,Nat.le_refl _,fun y z c h1 h2=>?_,fun y hy=>?_,fun y c _ h=>?_,fun _=>hd,Around.frames_deeper e0.frames,.inr ⟨rfl,rfl⟩,fun b z=>absurd z (DZ b),e0.bs,e0.xS,fun b _ _=>DZ b,fun b z=>absurd z (DZ b),e0.kJ,e0.AZ⟩,
  rfl,e0.bare,Un.kept hk,⟨_,x.toInCall.ns,fun i y v h1 h2 h3=>?_⟩,fun y c h=>⟨_,x.cell y c h⟩,e0.aX.fresh (Nat.le_refl _),fun y c h=>?_,fun p hp=>absurd (show p∈([]:List (Addr×Obj)) from hp) (by simp),e0.aX.kept hk,?_⟩
 ·exact name_of_addr x.apart (PySem.mem_of_lookup h1) (PySem.mem_of_lookup h2)
 ·have hy:scope.names.lookup y=some .cell\/scope.names.lookup y=some .free:=hy
  rcases hy with hy | hy
  ·exact o5 hy
  ·exact absurd rfl (S.By _ (PySem.mem_of_lookup hy))
 ·exact Nat.le_of_lt (x.above y c (PySem.mem_of_lookup h))
 ·have hi:i<vs.length:=by
   unfold start at h2
   by_cases hi:i<vs.length
   ·exact hi
   ·rw[List.getElem?_append_right (by simpa using hi)] at h2
    rw[List.getElem?_replicate] at h2
    split at h2<;>cases h2
  have ha:vs[i]? = some v:=by
   unfold start at h2
   rw[List.getElem?_append_left (by simpa using hi),zJ] at h2
   cases e:vs[i]? with
   | none=>rw[e] at h2; cases h2
   | some a=>rw[e] at h2; cases h2; rfl
  obtain⟨u,hu,rv⟩:=r.get ha
  have hp:ps[i]? = some y:=by
   rw[← S.pre,List.getElem?_take_of_lt (by omega)]; exact h1
  have IP:ps.Nodup:=by rw[← S.pre]; exact S.nd.sublist (List.take_sublist _ _)
  refine⟨u,rv,?_⟩
  rcases S.par y (List.mem_of_getElem? hp) with k | k
  ·exact .inl ⟨k,mW IP hp hu k⟩
  ·obtain⟨c,e⟩:=o5 (n:=s.heap.objs.size+1) k
   refine .inr ⟨.inl k,c,e,?_⟩
   have q:=x.cell y c e
   rw[mX IP hp hu (by show scope.names.lookup y≠_; rw[k]; decide)] at q
   exact q
 ·exact e0.aX.fresh (Nat.le_of_lt (x.above y c (PySem.mem_of_lookup h)))
 ·unfold start
  show _=N.length
  rw[List.length_append,zK,List.length_replicate]
  omega
theorem D0 {CX:qt} {P:Program} {w:World} {K:Fg} {mg:Str->Option Value} {base:Heap} {k:Nat} {f:Addr} {name qual:Str} {params:Arguments} {body:List Stmt} {scope:Scope} {dV kV doc pm eO ct oc:Value} {an od:Option Addr}
  {yA:Array (Option Value)} {N ps:List Str} {sp:Sp} (lk:K.lookup f=some ⟨oc,od,.func (PySem.W.fnOf name qual params body scope dV kV doc pm an eO ct),yA⟩) (vz:PySem.W.codeIn K eO qual=true) (S:aL N ps scope)
  (len:∀vs H Q E,sp vs H Q E->vs.length=ps.length)
  (D3:∀(A:Around) (outer:List Env) (s:Shared) (H:Hp) (vs:List V) (Q:VK) (E:XK),df k (A.deeper (envOfC qual scope s.heap.objs.size f eO))->sp vs H Q E →
   ∃t,qx (ee CX P w K mg base N qual scope f eO A outer s H E) body t/\t { nx:=fun _ H'=>Q .bb H',rt:=Q } (start N vs) H) :
  fX P w K mg base CX (k+1) f (PySem.W.fnOf name qual params body scope dV kV doc pm an eO ct) ps sp:=by
 refine⟨len,fun A outer s H args us vs Q E hr e0 hb r Aq=>?_⟩
 have hl:=len _ _ _ _ Aq
 have KX:K.In s.heap:=e0.mod.Dl.keeps fun b o e=>(e0.bs b o e).1
 have lim:s.heap.NoLimit:=e0.mod.nolimit.keeps fun b o e=>(e0.bs b o e).1
 have rY:∀y∈ps.zip us,scope.names.lookup y.1=some .local \/ (scope.names.lookup y.1=some .cell/\((cellsFrom (s.heap.objs.size+1) scope.names []).lookup y.1).isSome=true):=fun⟨n,v⟩ hy=>by
  rcases S.par n (List.of_mem_zip hy).1 with q | q
  ·exact .inl q
  ·exact .inr ⟨q,PySem.W.cellsFrom_some _ _ _ (.inl q)⟩
 refine codeAny_call_function hr.depth (KX _ _ lk) rfl S.co S.gen rfl (PySem.W.codeRec_of KX vz) (hb _ _ _ _ ?_)
 refine wpAny_newFunctionEnv_cells S.kind rY fun env he s1 x=>?_
 subst he
 refine⟨lim.keeps x.toInCall.keep,codeAny_func ?_⟩
 obtain⟨t,ht,hq⟩:=D3 A outer s H vs Q E (hr.deeper _) Aq
 have I:Inv (ee CX P w K mg base N qual scope f eO A outer s H E) [] (start N vs) H s1:=ud S hr.hd e0 hl r x
 refine wpAny_mono (ht [] s1 (start N vs) H _ I hq) (fun fl s' hs=>?_) fun e s' hs=>hs
 have fin:∀{σ':St} {H':Hp} {v:V} {u:Value},Inv (ee CX P w K mg base N qual scope f eO A outer s H E) [] σ' H' s'->RelV v u->Q v H'->CE outer P w H s Q u s' :=
  fun {σ' H' v u} J rv q=>⟨v,H',J.os,J.bare,J.base,J.aX,rv,q⟩
 cases fl with
 | ret u =>
  obtain⟨v,σ',H',J,rv,q⟩:=hs
  exact fin J rv q
 | next =>
  obtain⟨σ',H',J,q⟩:=hs
  exact fin (v:=V.bb) (u:=Value.none) J rfl q
 | brk =>
  obtain⟨_,_,_,q⟩:=hs
  exact False.elim q
 | cont =>
  obtain⟨_,_,_,q⟩:=hs
  exact False.elim q
end L2
namespace L2
open PySem PySem.Spec PyProof.Rows
section
variable {X:Cx} {x:Str} {p pos:Pos} {e:Expr} {es:List Expr} {t:TA} {id T:String} {r:List V->Hp->VK->Prop}
noncomputable def G8 (r:List V->Hp->VK->Prop) (t:TA):TE:=fun σ H Q=>t σ H fun vs H1=>r vs H1 Q
theorem gY (hc:bH X (.builtin id) r) (hg:Gl X x) (hm:X.mg x=none) (hv:bootBuiltins x=some (.builtin id)) (ha:PA X (e::es) t) (hn:x ≠ "__name__" := by decide) (ue:(x == ("__debug__" : Str))=false:=by decide)
  (he:starEach (e::es) X.env=(false,eval e X.env)::starEach es X.env:=by rfl) (gX:(backTo pos (starEach es X.env)).any (·.1)=false:=by rfl):PE X (.Call (.Name x p) (e::es) [] pos) (G8 r t):=by
 intro pins s σ H Q I h
 refine wpAny_Call_Name_kw (lp I hg hm hv ?_ hn ue)
 exact PyProof.Rows.callWith_builtin1 (cu (ha pos pins s σ H _ I h) fun us s1 ⟨vs,H1,I1,r1,q1⟩=>hc pins s1 σ H1 vs us Q I1 r1 q1) he gX
theorem jL (hc:bH X (.type T) r) (hg:Gl X x) (hm:X.mg x=none) (hv:bootBuiltins x=some (.type T)) (ha:PA X (e::es) t) (hn:x ≠ "__name__" := by decide) (ue:(x == ("__debug__" : Str))=false:=by decide)
  (he:starEach (e::es) X.env=(false,eval e X.env)::starEach es X.env:=by rfl) (gX:(backTo pos (starEach es X.env)).any (·.1)=false:=by rfl):PE X (.Call (.Name x p) (e::es) [] pos) (G8 r t):=by
 intro pins s σ H Q I h
 refine wpAny_Call_Name_kw (lp I hg hm hv ?_ hn ue)
 exact PyProof.Rows.callWith_type1 (cu (ha pos pins s σ H _ I h) fun us s1 ⟨vs,H1,I1,r1,q1⟩=>hc pins s1 σ H1 vs us Q I1 r1 q1) he gX
end
end L2
namespace L2
open PySem PySem.Spec PyProof.Rows
section
variable {κ:Type} [DecidableEq κ]
noncomputable def gZ (aw:List (κ×V)) (k:κ):Option V:=(aw.find? fun kv=>decide (kv.1=k)).map (·.2)
noncomputable def putK (aw:List (κ×V)) (k:κ) (v:V):List (κ×V) :=
 if (aw.any fun kv=>decide (kv.1=k))=true then aw.map (fun kv=>if kv.1=k then(kv.1,v) else kv) else aw++[(k,v)]
theorem i8 {p:κ×V} {r:List (κ×V)} {k:κ} (e:p.1=k):gZ (p::r) k=some p.2:=by simp[gZ,List.find?_cons,e]
theorem i9 {p:κ×V} {r:List (κ×V)} {k:κ} (e:¬p.1=k):gZ (p::r) k=gZ r k:=by simp[gZ,List.find?_cons,e]
theorem o6 (k:κ):∀aw:List (κ×V),(aw.any fun kv=>decide (kv.1=k))=(gZ aw k).isSome
 | []=>rfl
 | p::r=>by
  rw[List.any_cons]
  by_cases e:p.1=k
  ·simp only[i8 e,decide_eq_true e,Bool.true_or,Option.isSome_some]
  ·rw[i9 e,decide_eq_false e,Bool.false_or]; exact o6 k r
theorem kq (aw:List (κ×V)) (k:κ) (v:V):(putK aw k v).length≤aw.length+1:=by
 unfold putK
 split
 ·rw[zK]; omega
 ·rw[List.length_append,zE,zF]; omega
theorem kI.fY {o:Option V} {u:Option Value} (r:kI o u):o.isSome=u.isSome:=by
 cases o with
 | none=>cases u with
  | none=>rfl
  | some _=>exact(show False from r).elim
 | some _=>cases u with
  | none=>exact(show False from r).elim
  | some _=>rfl
theorem KV.val {aw:List (κ×V)} {vs:List (κ×Value)} (r:KV aw vs) (k:κ):kI (gZ aw k) (valueAt vs k):=by
 unfold KV at r
 induction r with
 | nil=>exact True.intro
 | @cons p q ps qs h t ih =>
  obtain⟨h1,h2⟩:=h
  by_cases e:p.1=k
  ·have e':q.1=k:=h1.symm.trans e
   have b:valueAt (q::qs) k=some q.2:=by simp[valueAt,List.find?_cons,e']
   rw[i8 e,b]; exact h2
  ·have e':¬q.1=k:=fun z=>e (h1.trans z)
   have b:valueAt (q::qs) k=valueAt qs k:=by simp[valueAt,List.find?_cons,e']
   rw[i9 e,b]; exact ih
theorem KV.any {aw:List (κ×V)} {vs:List (κ×Value)} (r:KV aw vs) (k:κ):(aw.any fun kv=>decide (kv.1=k))=vs.any fun kv=>decide (kv.1=k):=by
 unfold KV at r
 induction r with
 | nil=>rfl
 | cons h t ih=>rw[List.any_cons,List.any_cons,ih,h.1]
theorem KV.Bz {aw:List (κ×V)} {vs:List (κ×Value)} (r:KV aw vs) (k:κ) {y:V} {u:Value} (ry:RelV y u) :
  KV (aw.map fun kv=>if kv.1=k then(kv.1,y) else kv) (vs.map fun kv=>if kv.1=k then(kv.1,u) else kv):=by
 unfold KV at r ⊢
 induction r with
 | nil=>exact .nil
 | @cons p q ps qs h t ih =>
  rw[zC,zC]
  refine .cons ?_ ih
  obtain⟨h1,h2⟩:=h
  by_cases e:p.1=k
  ·rw[if_pos e,if_pos (h1.symm.trans e)]; exact⟨h1,ry⟩
  ·rw[if_neg e,if_neg (fun z=>e (h1.trans z))]; exact⟨h1,h2⟩
theorem KV.put {aw:List (κ×V)} {vs:List (κ×Value)} (r:KV aw vs) (k:κ) {y:V} {u:Value} (ry:RelV y u):KV (putK aw k y) (stored vs k u):=by
 unfold putK stored
 rw[r.any k]
 by_cases e:(vs.any fun kv=>decide (kv.1=k))=true
 ·rw[if_pos e,if_pos e]; exact r.Bz k ry
 ·rw[if_neg e,if_neg e]; exact Paired.snoc r ⟨rfl,ry⟩
theorem KV.length {aw:List (κ×V)} {vs:List (κ×Value)} (r:KV aw vs):aw.length=vs.length:=Paired.length r
end
theorem o7 {P:Program} {w:World} {k:Key} {u:Value} (r:RelV (kV k) u):(cq P w).is k u=true:=by
 cases k with
 | inl i=>obtain⟨t,e⟩:=(show ∃t,u=Value.int i t from r); subst e; exact oX P w i t
 | inr x=>obtain⟨t,e⟩:=(show ∃t,u=Value.str x t from r); subst e; exact oY P w x t
theorem mY {P:Program} {w:World}:∀{ks:List Key} {us:List Value},Vals (ks.map kV) us->ItemsAre (cq P w) ks us
 | [],_,r=>by rw[zD] at r; cases r; exact .nil
 | k::ks,_,r=>by
  rw[zC] at r
  cases r with
  | cons h t=>exact .cons (o7 h) (mY t)
noncomputable abbrev KT (H:Hp):List (List Key×V)->List (List Key×Addr×Value)->Prop:=Paired fun p q=>p.1=q.1/\H q.2.1=some (.tup (p.1.map kV))/\RelV p.2 q.2.2
theorem KT.val {H:Hp} {aw:List (List Key×V)} {xs:List (List Key×Addr×Value)} (r:KT H aw xs) (k:List Key):kI (gZ aw k) ((atKey xs k).map (·.2)):=by
 induction r with
 | nil=>exact True.intro
 | @cons p q ps qs h t ih =>
  obtain⟨h1,_,h2⟩:=h
  by_cases e:p.1=k
  ·have e':q.1=k:=h1.symm.trans e
   have b:atKey (q::qs) k=some q.2:=by simp[atKey,List.find?_cons,e']
   rw[i8 e,b]; exact h2
  ·have e':¬q.1=k:=fun z=>e (h1.trans z)
   have b:atKey (q::qs) k=atKey qs k:=by simp[atKey,List.find?_cons,e']
   rw[i9 e,b]; exact ih
theorem KT.Bz {H:Hp} {aw:List (List Key×V)} {xs:List (List Key×Addr×Value)} (r:KT H aw xs) (k:List Key) {y:V} {u:Value} (ry:RelV y u) :
  KT H (aw.map fun kv=>if kv.1=k then(kv.1,y) else kv) (xs.map (putAt k u)):=by
 induction r with
 | nil=>exact .nil
 | @cons p q ps qs h t ih =>
  rw[zC,zC]
  refine .cons ?_ ih
  obtain⟨h1,h2,h3⟩:=h
  unfold putAt
  by_cases e:p.1=k
  ·rw[if_pos e,if_pos (h1.symm.trans e)]; exact⟨h1,h2,ry⟩
  ·rw[if_neg e,if_neg (fun z=>e (h1.trans z))]; exact⟨h1,h2,h3⟩
theorem KT.put {H:Hp} {aw:List (List Key×V)} {xs:List (List Key×Addr×Value)} (r:KT H aw xs) (k:List Key) {b:Addr} {y:V} {u:Value} (hb:H b=some (.tup (k.map kV))) (ry:RelV y u) :
  KT H (putK aw k y) (storedH xs k b u):=by
 have e:(aw.any fun kv=>decide (kv.1=k))=(atKey xs k).isSome:=by
  rw[o6,(r.val k).fY,Option.isSome_map]
 unfold putK storedH
 rw[e]
 by_cases q:(atKey xs k).isSome=true
 ·rw[if_pos q,if_pos q]; exact r.Bz k ry
 ·rw[if_neg q,if_neg q]; exact Paired.snoc r ⟨rfl,hb,ry⟩
theorem KT.keeps {H H':Hp} {aw:List (List Key×V)} {xs:List (List Key×Addr×Value)} (r:KT H aw xs) (ht:∀b ys,H b=some (.tup ys)->H' b=some (.tup ys)):KT H' aw xs :=
 Paired.yb r fun _ _ z=>⟨z.1,ht _ _ z.2.1,z.2.2⟩
section
variable {P:Program} {w:World} {H:Hp} {h:Heap} {a:Addr}
theorem Ar {u:HO} (ok:gK P w H h) (e:Rd H a u):bG P w H h a u:=e.ok ok
theorem mZ {aw:List (Key×V)} (ok:gK P w H h) (e:Rd H a (.dK aw)):aw.length≤sizeLine/\(a == sysModules)=false/\∃vs,KV aw vs/\h.DictOf (cq P w) a vs :=
 show bG P w H h a (.dK aw) from Ar ok e
theorem D4 {aw:List (Key×V)} (ok:gK P w H h) (e:H a=some (.dK aw)):aw.length≤sizeLine/\(a == sysModules)=false/\∃vs,KV aw vs/\h.DictOf (cq P w) a vs:=mZ ok (.inl e)
theorem lA {ks:List Key} (ok:gK P w H h) (e:H a=some (.tup (ks.map kV))):(tupleKind (cq P w)).is h ks a:=by
 obtain⟨_,aD,r,o,h1,h2,n,h3⟩:=(show bG P w H h a (.tup (ks.map kV)) from ok a _ e)
 exact⟨o,aD.toArray,n,h1,h2,h3,by simpa using mY r⟩
theorem o8 {aw:List (List Key×V)} (ok:gK P w H h) (e:Rd H a (.dT aw)):aw.length≤sizeLine/\(a == sysModules)=false ∧
  ∃xs,KT H aw xs/\h.DictOfH (tupleKind (cq P w)) a xs:=by
 obtain⟨z,y,xs,r,o,es,ep,h1,h2,h3,h4,h5⟩:=(show bG P w H h a (.dT aw) from Ar ok e)
 refine⟨z,y,xs,r,o,es,ep,h1,h2,h3,h4,fun x hx=>?_,h5⟩
 have all:∀{l:List (List Key×V)} {m:List (List Key×Addr×Value)},KT H l m->∀x∈m,(tupleKind (cq P w)).is h x.1 x.2.1:=by
  intro l m q
  induction q with
  | nil=>intro x hx; exact nomatch hx
  | @cons p q ps qs hq t ih =>
   intro x hx
   rcases List.mem_cons.mp hx with e | hx
   ·subst e
    exact lA ok (by rw[← hq.1]; exact hq.2.1)
   ·exact ih x hx
 exact all r x hx
theorem D5 {aw:List (List Key×V)} (ok:gK P w H h) (e:H a=some (.dT aw)):aw.length≤sizeLine/\(a == sysModules)=false ∧
  ∃xs,KT H aw xs/\h.DictOfH (tupleKind (cq P w)) a xs:=o8 ok (.inl e)
end
noncomputable def jM (H:Hp) (a:Addr) (y:V) (r:Option V):Prop :=
 (∃aw k,Rd H a (.dK aw)/\y=kV k/\r=gZ aw k)\/∃aw k b,Rd H a (.dT aw)/\y=.ref b/\H b=some (.tup (k.map kV))/\r=gZ aw k
noncomputable def nI (H:Hp) (a:Addr) (y v:V) (H':Hp):Prop :=
 (∃aw k,H a=some (.dK aw)/\y=kV k/\aw.length<sizeLine/\H'=upd H a (.dK (putK aw k v))) ∨
 ∃aw k b,H a=some (.dT aw)/\y=.ref b/\H b=some (.tup (k.map kV))/\aw.length<sizeLine/\H'=upd H a (.dT (putK aw k v))
theorem jM.k {H:Hp} {a:Addr} {aw:List (Key×V)} {k:Key} (e:H a=some (.dK aw)):jM H a (kV k) (gZ aw k):=.inl ⟨aw,k,.inl e,rfl,rfl⟩
theorem jM.t {H:Hp} {a b:Addr} {aw:List (List Key×V)} {k:List Key} (e:H a=some (.dT aw)) (eb:H b=some (.tup (k.map kV))):jM H a (.ref b) (gZ aw k):=.inr ⟨aw,k,b,.inl e,rfl,eb,rfl⟩
theorem nI.k {H:Hp} {a:Addr} {aw:List (Key×V)} {k:Key} {v:V} (e:H a=some (.dK aw)) (hl:aw.length<sizeLine):nI H a (kV k) v (upd H a (.dK (putK aw k v))):=.inl ⟨aw,k,e,rfl,hl,rfl⟩
theorem nI.t {H:Hp} {a b:Addr} {aw:List (List Key×V)} {k:List Key} {v:V} (e:H a=some (.dT aw)) (eb:H b=some (.tup (k.map kV))) (hl:aw.length<sizeLine) :
  nI H a (.ref b) v (upd H a (.dT (putK aw k v))):=.inr ⟨aw,k,b,e,rfl,eb,hl,rfl⟩
section
variable {X:Cx} {pins:List (Addr×Obj)} {σ:St} {H:Hp} {s:Shared} {a:Addr} {y v:V} {u r:Value} {o:Option V} {A:Around} {E:Value->Shared->Prop}
theorem Inv.big (I:Inv X pins σ H s):sysModules<s.heap.objs.size:=by
 have h:mainGlobals<s.heap.objs.size:=(I.mod.glob.keeps I.bk).lt
 exact Nat.lt_trans (by decide) h
theorem uf {Q:Value->Shared->Prop} (hu:A.units+1<cLine) (I:Inv X pins σ H s) (g:jM H a y (some v)) (ry:RelV y u) (h:∀w' s',Inv X pins σ H s'->RelV v w'->Q w' s') :
  wpAny (model X.prog X.w) A (getItem (.ref a) u) Q E s:=by
 rcases g with⟨aw,k,e,ey,l⟩ | ⟨aw,k,b,e,ey,eb,l⟩
 ·subst ey
  obtain⟨z,hd,vs,rel,dd⟩:=mZ I.aX e
  obtain⟨w',hw,yB⟩:=kI.rX (v:=v) (o:=valueAt vs k) (by rw[l]; exact rel.val k)
  exact wpAny_getItem_of (o7 ry) dd.mapOf hw (h w' _ (I.tok _) yB)
 ·subst ey
  cases (show u=Value.ref b from ry)
  obtain⟨z,hd,xs,rel,dd⟩:=o8 I.aX e
  obtain⟨w',hw,yB⟩:=kI.rX (v:=v) (o:=(atKey xs k).map (·.2)) (by rw[l]; exact rel.val k)
  obtain⟨p,hp,yC⟩:=Option.map_eq_some_iff.mp hw
  refine wpAny_getItem_heap (tupleKind_room_in1 hu) (lA I.aX eb) dd hp ?_
  rw[yC]
  exact h w' _ (I.tok _) yB
theorem G9 {Q:Value->Shared->Prop} (hu:A.units+1<cLine) (I:Inv X pins σ H s) (g:jM H a y o) (ry:RelV y u) (h:∀s',Inv X pins σ H s'->Q (.bool o.isSome) s') :
  wpAny (model X.prog X.w) A (compareOp .In u (.ref a)) Q E s:=by
 rcases g with⟨aw,k,e,ey,l⟩ | ⟨aw,k,b,e,ey,eb,l⟩
 ·subst ey
  obtain⟨z,hd,vs,rel,dd⟩:=mZ I.aX e
  refine wpAny_in_of (o7 ry) hd dd.mapOf ?_
  rw[← (rel.val k).fY,← l]
  exact h _ (I.tok _)
 ·subst ey
  cases (show u=Value.ref b from ry)
  obtain⟨z,hd,xs,rel,dd⟩:=o8 I.aX e
  refine wpAny_in_heap (tupleKind_room_in1 hu) (lA I.aX eb) hd dd ?_
  have q:=(rel.val k).fY
  rw[Option.isSome_map] at q
  rw[← q,← l]
  exact h _ (I.tok _)
theorem yD {Q:Value->Shared->Prop} (hu:A.units+1<cLine) (I:Inv X pins σ H s) (g:jM H a y o) (ry:RelV y u) (h:∀s',Inv X pins σ H s'->Q (.bool (!o.isSome)) s') :
  wpAny (model X.prog X.w) A (compareOp .NotIn u (.ref a)) Q E s:=by
 rcases g with⟨aw,k,e,ey,l⟩ | ⟨aw,k,b,e,ey,eb,l⟩
 ·subst ey
  obtain⟨z,hd,vs,rel,dd⟩:=mZ I.aX e
  refine wpAny_notIn_of (o7 ry) hd dd.mapOf ?_
  rw[← (rel.val k).fY,← l]
  exact h _ (I.tok _)
 ·subst ey
  cases (show u=Value.ref b from ry)
  obtain⟨z,hd,xs,rel,dd⟩:=o8 I.aX e
  refine wpAny_notIn_heap (tupleKind_room_in1 hu) (lA I.aX eb) hd dd ?_
  have q:=(rel.val k).fY
  rw[Option.isSome_map] at q
  rw[← q,← l]
  exact h _ (I.tok _)
theorem rZ {h':Heap} {t':Nat} {ob:HO} (I:Inv X pins σ H s) (mu:Dj (H a)) (hs:Heap.SameBut a s.heap h') (he:∃q,h'.get? a=some q) (new:bG X.prog X.w (upd H a ob) h' a ob) :
  Inv X pins σ (upd H a ob) { s with heap:=h',toks:=t' } :=
 I.write (x:=a) (e:=a) mu (.inl rfl) (fun b q hb z=>(hs.2 b hb).trans z) he new
theorem BA {P:Program} {w:World} {H':Hp} {h':Heap} {aw:List (Key×V)} {vs:List (Key×Value)} (z:aw.length≤sizeLine) (hd:(a == sysModules)=false) (rel:KV aw vs) (dd:h'.DictOf (cq P w) a vs) :
  bG P w H' h' a (.dK aw):=⟨z,hd,vs,rel,dd⟩
theorem ug {H':Hp} {Q:Unit->Shared->Prop} (hu:A.units+1<cLine) (I:Inv X pins σ H s) (g:nI H a y v H') (ry:RelV y u) (rv:RelV v r) (h:∀s',Inv X pins σ H' s'->Q () s') :
  wpAny (model X.prog X.w) A (setItem (.ref a) u r) Q E s:=by
 rcases g with⟨aw,k,e,ey,l,eH⟩ | ⟨aw,k,b,e,ey,eb,l,eH⟩
 ·subst ey eH
  obtain⟨z,hd,vs,rel,dd⟩:=D4 I.aX e
  have hz:vs.length≤sizeLine:=by rw[← rel.length]; exact z
  have hl:(putK aw k v).length≤sizeLine:=by have:=kq aw k v; omega
  refine wpAny_setItem_pairs (hsz:=hz) (o7 ry) dd fun h' FI hs=>h _ ?_
  have he:∃q,h'.get? a=some q:=let⟨q,_,_,hq,_⟩:=FI; ⟨q,hq⟩
  exact rZ I (by rw[e]; exact True.intro) hs he (BA hl hd (rel.put k rv) FI)
 ·subst ey eH
  cases (show u=Value.ref b from ry)
  obtain⟨z,hd,xs,rel,dd⟩:=D5 I.aX e
  have hz:xs.length≤sizeLine:=by rw[← Paired.length rel]; exact z
  have hl:(putK aw k v).length≤sizeLine:=by have:=kq aw k v; omega
  refine wpAny_setItem_heap (hsz:=hz) (tupleKind_room_in1 hu) (lA I.aX eb) dd fun h' FI hs=>h _ ?_
  obtain⟨q,es,ep,hq,h2,h3,h4,_,h5⟩:=FI
  refine rZ I (by rw[e]; exact True.intro) hs ⟨q,hq⟩ ⟨hl,hd,_,(rel.put k eb rv).keeps fun c ys ec=>?_,q,es,ep,hq,h2,h3,h4,h5⟩
  rw[av (Di ec e (fun z=>nomatch z))]
  exact ec
end
section
variable {X:Cx} {pins:List (Addr×Obj)} {σ:St} {H:Hp} {s:Shared} {a:Addr} {aw:List (Key×V)} {k:Key} {u:Value} {A:Around} {E:Value->Shared->Prop}
theorem D6 {Q:Value->Shared->Prop} (I:Inv X pins σ H s) (e:Rd H a (.dK aw)) (h:∀t s',Inv X pins σ H s'->Q (.int aw.length t) s'):wpAny (model X.prog X.w) A (call (.builtin "len") [.ref a]) Q E s:=by
 obtain⟨z,hd,vs,rel,dd⟩:=mZ I.aX e
 refine call_len_dict hd dd (by rw[← rel.length]; rw[sizeLine_eq] at z; omega) ?_
 rw[← rel.length]
 exact h _ _ (I.tok _)
end
theorem o9 {X:Cx} {pins:List (Addr×Obj)} {σ:St} {H:Hp} {s:Shared} {a:Addr} {y:V} {o:Option V} (I:Inv X pins σ H s) (g:jM H a y o):s.TypeIs (.ref a) "dict" := by
 rcases g with⟨aw,k,e,_,_⟩ | ⟨aw,k,b,e,_,_,_⟩
 ·obtain⟨_,_,vs,_,dd⟩:=mZ I.aX e
  exact dd.typeIs
 ·obtain⟨_,_,xs,_,dd⟩:=o8 I.aX e
  exact dd.typeIs
section
variable {X:Cx} {o i e value:Expr} {pos pos' ub:Pos} {td ty tv:TE}
end
theorem vL {P:Program} {w:World} {H:Hp} (h:Heap) (hb:sysModules<h.objs.size):bG P w H (h.push { cls:=.type "dict",data:=.dict #[] }) h.objs.size (.dK []) :=
 ⟨Nat.zero_le _,beq_eq_false_iff_ne.mpr (Ne.symm (Nat.ne_of_lt hb)),[],.nil,Heap.DictOf.new h⟩
noncomputable def BB:TE:=fun _ H Q=>∀p,H p=none->Q (.ref p) (upd H p (.dK []))
section
variable {X:Cx} {pos:Pos}
theorem vM:PE X (.Dict [] [] pos) BB:=fun pins s σ H Q I h =>
 wpAny_Dict_empty ⟨.ref s.heap.objs.size,_,I.laid (a:=s.heap.objs.size) (o:=.dK []) (t':=s.toks) (fun _ _ q=>Heap.get?_push_of_some _ q) (Nat.le_refl _) (vL s.heap I.big),rfl,h _ (I.aX.fresh (Nat.le_refl _))⟩
end
noncomputable def vN:List (TE×TE)->St->Hp->(List (V×V)->Hp->Prop)->Prop
 | [],_,H,Q=>Q [] H
 | (tk,tv)::r,σ,H,Q=>tk σ H fun x H1=>tv σ H1 fun y H2=>vN r σ H2 fun ps H3=>Q ((x,y)::ps) H3
noncomputable abbrev VV:List (V×V)->List (Value×Value)->Prop:=Paired fun p q=>RelV p.1 q.1/\RelV p.2 q.2
noncomputable def Kb (X:Cx) (pos:Pos) (keys:List (Option Expr)) (values:List Expr) (Kc:List (TE×TE)):Prop :=
 ∀(pins:List (Addr×Obj)) (s:Shared) (σ:St) (H:Hp) (Q:List (V×V)->Hp->Prop),Inv X pins σ H s->vN Kc σ H Q →
  wpAny (model X.prog X.w) X.A (evalPairs (pairTrees keys values X.env pos)) (fun vs s'=>∃ps H',Inv X pins σ H' s'/\VV ps vs/\Q ps H') X.xe s
structure M1 (X:Cx) (o:Expr) (m:Str) (apos:Pos) (e:Expr) (bC:Pos):Prop where
 base:attributeBase o m X.env (eval o X.env)=eval o X.env
 sd:((backTo bC (starEach [e] X.env)).all (fun x=>!x.1) && (backToKw bC (keywordEach [] X.env)).all (fun x=>x.1.isSome)
  && decide (([e]:List Expr).length+([]:List Keyword).length+(if ([]:List Keyword).isEmpty then 0 else 1)<30))=true
 line:(apos.endLine == bC.line)=true
 trees:backTo bC (starEach [e] X.env)=[(false,eval e X.env)]
structure M2 (X:Cx) (o:Expr) (m:Str) (apos:Pos) (e f:Expr) (bC:Pos):Prop where
 base:attributeBase o m X.env (eval o X.env)=eval o X.env
 sd:((backTo bC (starEach [e,f] X.env)).all (fun x=>!x.1) && (backToKw bC (keywordEach [] X.env)).all (fun x=>x.1.isSome)
  && decide (([e,f]:List Expr).length+([]:List Keyword).length+(if ([]:List Keyword).isEmpty then 0 else 1)<30))=true
 line:(apos.endLine == bC.line)=true
 trees:backTo bC (starEach [e,f] X.env)=[(false,eval e X.env),(false,eval f X.env)]
noncomputable def Kd (H:Hp) (a:Addr):Prop:=(∃aw,Rd H a (.dK aw))\/∃aw,Rd H a (.dT aw)
section
variable {X:Cx} {pins:List (Addr×Obj)} {σ:St} {H:Hp} {s:Shared} {a:Addr} {y d:V} {u r:Value} {o:Option V} {A:Around} {E:Value->Shared->Prop}
end
section
variable {X:Cx} {o e f:Expr} {apos bC:Pos} {td ty tx:TE}
end
section
variable {X:Cx} {pins:List (Addr×Obj)} {σ:St} {H:Hp} {s:Shared} {a:Addr} {aw:List (Key×V)} {A:Around} {E:Value->Shared->Prop}
end
section
variable {X:Cx} {pins:List (Addr×Obj)} {σ:St} {H:Hp} {s:Shared} {a:Addr} {y:V} {u:Value} {A:Around} {E:Value->Shared->Prop}
end
end L2
namespace HT
open PySem PyProof.Rows
section
open PySem.SeqAt
open PySem.AutoSeq1 (wpAny_loadPart')
open PySem.MeetsSeq PySem.MeetsSeq2 PySem.MeetsSeq3
end
section
variable {prog:Program} {w:World} {A:Around} {E:Value->Shared->Prop} {s:Shared}
theorem yE {t b:Addr} {vs ws:List Value} {Q:Value->Shared->Prop} (ht:IsTup s.heap t vs.toArray) (hb:IsTup s.heap b ws.toArray) (hv:vs≠[])
  (h1:ws=[]->Q (.ref t) s) (h2:ws≠[]->Q (.ref s.heap.objs.size) { s with heap:=s.heap.push { cls:=.type "tuple",data:=.seq (vs++ws).toArray } })
  (hsz:vs.length+ws.length≤sizeLine):wpAny (model prog w) A (binaryOp .Add (.ref t) (.ref b)) Q E s:=by
 obtain⟨⟨cls,dd,data,sl⟩,ho,hc,n,hd⟩:=id ht
 obtain⟨⟨Ke,IQ,data2,Ha⟩,BC,IS,n2,BD⟩:=id hb
 simp only at hc hd IS BD
 subst hc hd IS BD
 have e:vs.toArray++ws.toArray=(vs++ws).toArray:=by simp
 by_cases hw:ws=[]
 ·exact concat_meets ⟨_,ho,rfl⟩ ⟨_,BC,rfl⟩ noFill_tuple_add seq_tuple_add PySem.F.slot_tuple_add PySem.F.entry_tuple_add (PySem.F.args_tuple_add_2 _ _)
   (tuple_addW1 t b vs.toArray ws.toArray n n2 dd IQ sl Ha (by simpa using hv) (by simp[hw])) ⟨ho,BC,h1 hw⟩
 ·refine concat_meets ⟨_,ho,rfl⟩ ⟨_,BC,rfl⟩ noFill_tuple_add seq_tuple_add PySem.F.slot_tuple_add PySem.F.entry_tuple_add (PySem.F.args_tuple_add_2 _ _)
   (tuple_addW2 t b vs.toArray ws.toArray n n2 dd IQ sl Ha (by simpa using hv) (by simpa using hw) (by rw[List.size_toArray,List.size_toArray]; exact hsz)) ⟨ho,BC,?_⟩
  rw[e]
  exact h2 hw
noncomputable def dH (n d:Nat):Option Int->Nat
 | none=>d
 | some v=>if v<0 then(v+(n:Int)).toNat else min v.toNat n
theorem vO (n d:Nat):dH n d none=d:=rfl
theorem yF (n d k:Nat):dH n d (some (k:Int))=min k n:=by
 show(if (k:Int)<0 then((k:Int)+(n:Int)).toNat else min (k:Int).toNat n)=min k n
 rw[if_neg (by omega),Int.toNat_natCast]
theorem BE (n d:Nat) (hd:d≤n) (o:Option Int):dH n d o≤n:=by
 cases o with
 | none=>exact hd
 | some v =>
  show(if v<0 then(v+(n:Int)).toNat else min v.toNat n)≤n
  by_cases hv:v<0
  ·rw[if_pos hv]; omega
  ·rw[if_neg hv]; exact Nat.min_le_right _ _
theorem se (v:Int) (n d:Nat):(if v<0 then max (v+(n:Int)) 0 else min v (n:Int))=((dH n d (some v):Nat):Int):=by
 show(if v<0 then max (v+(n:Int)) 0 else min v (n:Int))=(((if v<0 then(v+(n:Int)).toNat else min v.toNat n):Nat):Int)
 by_cases hv:v<0
 ·simp only[if_pos hv]; omega
 ·simp only[if_neg hv]; omega
theorem qJ (lo hi:Option Int) (n:Nat):Builtin.Slice.sliceAdjust lo hi 1 (n:Int)=(((dH n 0 lo:Nat):Int),((dH n n hi:Nat):Int)):=by
 have h1:¬((1:Int)<0):=by omega
 unfold Builtin.Slice.sliceAdjust
 simp only[h1,if_false]
 refine Prod.ext ?_ ?_
 ·cases lo with
  | none=>rfl
  | some v=>exact se v n 0
 ·cases hi with
  | none=>rfl
  | some v=>exact se v n n
theorem qK (i j:Nat):Builtin.Slice.slicePlaces (i:Int) (j:Int) 1=j-i:=by
 unfold Builtin.Slice.slicePlaces
 have h1:(1:Int) > 0:=by omega
 simp only[h1,if_true,Int.ediv_one]
 split<;>omega
theorem lB {v:Value} {o:Option Int} {Q:Option Int->Shared->Prop} (p:IsPart v o) (h:Q o s):wpAny (model prog w) A (Builtin.Slice.slicePartIndex v) Q E s:=by
 cases p with
 | none=>exact slicePart_none h
 | int i t=>exact slicePart_int h
theorem jN {sl:Addr} {vl vu:Value} {lo hi:Option Int} {n:Nat} {Q:Int×Int×Nat->Shared->Prop} (hs:s.heap.IsSliceOf sl vl vu .none) (pl:IsPart vl lo) (pu:IsPart vu hi)
  (h:Q (((dH n 0 lo:Nat):Int),1,dH n n hi-dH n 0 lo) s):wpAny (model prog w) A (Builtin.Slice.sliceApplied (.ref sl) (pure (n:Int))) Q E s:=by
 obtain⟨os,D7,IT,FJ⟩:=id hs
 unfold Builtin.Slice.sliceApplied Builtin.Slice.sliceFields
 refine wpAny_bind (wpAny_bind (wpAny_field D7 FJ (x:=vl) rfl (wpAny_bind (wpAny_field D7 FJ (x:=vu) rfl (wpAny_bind (wpAny_field D7 FJ (x:=.none) rfl (wpAny_pure ?_)))))))
 refine wpAny_bind (slicePart_none ?_)
 show wpAny _ _ (if ((1:Int) == 0)=true then _ else _) _ _ s
 rw[if_neg (by decide)]
 refine wpAny_bind (lB pl (wpAny_bind (lB pu (wpAny_bind (wpAny_pure ?_)))))
 show wpAny _ _ (match Builtin.Slice.sliceAdjust lo hi 1 (n:Int) with | (lo,hi)=>pure (lo,(1:Int),Builtin.Slice.slicePlaces lo hi 1)) _ _ s
 rw[qJ lo hi n]
 show wpAny _ _ (pure (((dH n 0 lo:Nat):Int),(1:Int),Builtin.Slice.slicePlaces ((dH n 0 lo:Nat):Int) ((dH n n hi:Nat):Int) 1)) _ _ s
 rw[qK]
 exact wpAny_pure h
theorem vP (xs:Array Value) (i k:Nat):((List.range k).filterMap fun(m:Nat)=>xs[((i:Int)+(m:Int)*1).toNat]?).toArray=((xs.toList.drop i).take k).toArray:=by
 have e:(fun(m:Nat)=>xs[((i:Int)+(m:Int)*1).toNat]?)=fun m=>xs[i+m]? := by
  funext m
  have:((i:Int)+(m:Int)*1).toNat=i+m:=by omega
  rw[this]
 rw[e]
 have:=pick_run xs i k
 rw[List.filterMap_map] at this
 have e2:((fun x=>xs[x]?) ∘ fun x=>i+x)=fun m=>xs[i+m]? := rfl
 rw[e2] at this
 rw[this]
theorem ja {t sl:Addr} {items:Array Value} {vl vu:Value} {lo hi:Option Int} {Q:Value->Shared->Prop} (ht:IsTup s.heap t items) (hs:s.heap.IsSliceOf sl vl vu .none) (pl:IsPart vl lo) (pu:IsPart vu hi)
  (hw:¬(dH items.size 0 lo=0/\dH items.size items.size hi=items.size))
  (h:Q (.ref s.heap.objs.size) { s with heap:=s.heap.push { cls:=.type "tuple",data:=.seq ((items.toList.drop (dH items.size 0 lo)).take (dH items.size items.size hi-dH items.size 0 lo)).toArray } })
  (hsz:items.size≤sizeLine):wpAny (model prog w) A (getItem (.ref t) (.ref sl)) Q E s:=by
 have sf:sizeOk (.seq ((items.toList.drop (dH items.size 0 lo)).take (dH items.size items.size hi-dH items.size 0 lo)).toArray):=by
  show((items.toList.drop (dH items.size 0 lo)).take (dH items.size items.size hi-dH items.size 0 lo)).toArray.size≤sizeLine
  rw[List.size_toArray,List.length_take,List.length_drop,Array.length_toList]
  omega
 have hj:dH items.size items.size hi≤items.size:=BE _ _ (Nat.le_refl _) hi
 obtain⟨os,D7,IT,FJ⟩:=id hs
 have Kf:s.TypeIs (.ref sl) "slice" := ⟨os,D7,IT⟩
 unfold getItem
 try with_reducible refine wpAny_holding ?_
 first | refine wpAny_bind (wpAny_pure ?_) | skip
 refine wpAny_bind (wpAny_sequenceKey ht.typeIs (by decide) ?_)
 refine wpAny_bind (wpAny_callSpecial?_slot (name:=Str.ofString "__getitem__") ht.typeIs PyProof.Rows.slot_tuple_getitem
  (wpAny_call_entry PyProof.Rows.slot_tuple_getitem ht.typeIs entry_tuple_getitem ?_ (args_tuple_getitem _ _)))
 show wpAny _ _ (Builtin.Tuple.tupleItemsOf (.ref t) >>= _) _ _ s
 refine wpAny_bind (tupleItemsOf_ ht ?_)
 refine wpAny_bind (wpAny_typeOf Kf ?_)
 rw[if_pos (by decide)]
 refine wpAny_bind (jN hs pl pu ?_)
 have D8:¬((((dH items.size 0 lo:Nat):Int) == 0 && (1:Int) == 1 && (dH items.size items.size hi-dH items.size 0 lo) == items.size)=true):=by
  intro q
  rw[Bool.and_eq_true,Bool.and_eq_true] at q
  have q1:((dH items.size 0 lo:Nat):Int)=0:=eq_of_beq q.1.1
  have q2:dH items.size items.size hi-dH items.size 0 lo=items.size:=eq_of_beq q.2
  exact hw ⟨by omega,by omega⟩
 show wpAny _ _ (if (((dH items.size 0 lo:Nat):Int) == 0 && (1:Int) == 1 && (dH items.size items.size hi-dH items.size 0 lo) == items.size)=true then _ else _) _ _ s
 rw[if_neg D8,vP]
 first
  | exact wpAny_bind (m:=Builtin.Tuple.tupleExact _) (wpAny_newObj_type (wpAny_pure ⟨_,rfl,wpAny_pure h⟩) sf)
  | exact wpAny_bind (m:=Builtin.Tuple.tupleExact _) (wpAny_newObj_type (wpAny_bind (wpAny_pure (wpAny_pure ⟨_,rfl,wpAny_pure h⟩))) sf)
  | exact wpAny_bind (wpAny_bind (m:=Builtin.Tuple.tupleExact _) (wpAny_newObj_type (wpAny_pure (wpAny_pure ⟨_,rfl,wpAny_pure h⟩)) sf))
  | exact wpAny_bind (wpAny_bind (m:=Builtin.Tuple.tupleExact _) (wpAny_newObj_type (wpAny_pure ⟨_,rfl,wpAny_pure h⟩) sf))
end
end HT
namespace L2
open PySem PySem.Spec PyProof.Rows
noncomputable abbrev TO:=St->Hp->(Option Int->Hp->Prop)->Prop
noncomputable def PO (X:Cx) (e:Option Expr) (t:TO):Prop :=
 ∀(pins:List (Addr×Obj)) (s:Shared) (σ:St) (H:Hp) (Q:Option Int->Hp->Prop),Inv X pins σ H s->t σ H Q →
  wpAny (model X.prog X.w) X.A (evalPart e X.env) (fun u s'=>∃o H',Inv X pins σ H' s'/\IsPart u o/\Q o H') X.xe s
noncomputable def yG:TO:=fun _ H Q=>Q none H
noncomputable def D9 (t:TE):TO:=fun σ H Q=>t σ H fun x H1=>∃i,x=.int i/\Q (some i) H1
section
variable {X:Cx} {e:Expr} {te:TE} {lo hi:Option Expr} {tl th:TO} {pos p2:Pos}
theorem yH:PO X none yG:=by
 intro pins s σ H Q I h
 rw[evalPart_none]
 exact wpAny_pure ⟨none,H,I,.none,h⟩
theorem yI (h:PE X e te):PO X (some e) (D9 te):=by
 intro pins s σ H Q I hw
 rw[evalPart_some]
 refine cu (h pins s σ H _ I hw) fun u s1 ⟨x,H1,I1,r1,q1⟩=>?_
 obtain⟨i,rfl,q⟩:=q1
 obtain⟨t,rfl⟩:=r1
 exact⟨some i,H1,I1,.int i t,q⟩
noncomputable def vQ (X:Cx) (r:V->Option Int->Option Int->Hp->VK->Prop):Prop :=
 ∀(pins:List (Addr×Obj)) (s:Shared) (σ:St) (H:Hp) (x:V) (v vl vu:Value) (lo hi:Option Int) (sl:Addr) (Q:VK),Inv X pins σ H s->RelV x v->s.heap.IsSliceOf sl vl vu .none->IsPart vl lo->IsPart vu hi->r x lo hi H Q →
  ∃T id,typeLookup (.type T) "__getitem__" = pure (some (.builtin id))/\s.TypeIs v T/\wpAny (model X.prog X.w) X.A (getItem v (.ref sl)) (EP X pins σ Q) X.xe s
theorem vQ.or {r r':V->Option Int->Option Int->Hp->VK->Prop} (h:vQ X r) (h':vQ X r'):vQ X (fun x lo hi H Q=>r x lo hi H Q\/r' x lo hi H Q):=by
 intro pins s σ H x v vl vu lo hi sl Q I rx hs pl pu q
 rcases q with q | q
 ·exact h pins s σ H x v vl vu lo hi sl Q I rx hs pl pu q
 ·exact h' pins s σ H x v vl vu lo hi sl Q I rx hs pl pu q
noncomputable def Kg (r:V->Option Int->Option Int->Hp->VK->Prop) (te:TE) (tl th:TO):TE:=fun σ H Q=>te σ H fun x H1=>tl σ H1 fun l H2=>th σ H2 fun u H3=>r x l u H3 Q
theorem vR {r:V->Option Int->Option Int->Hp->VK->Prop} (hr:vQ X r) (he:PE X e te) (hl:PO X lo tl) (hu:PO X hi th):PE X (.Subscript e (.Slice lo hi none p2) pos) (Kg r te tl th):=by
 intro pins s σ H Q I h
 refine Subscript_ (cu (he pins s σ H _ I h) fun v s1 ⟨x,H1,I1,r1,q1⟩=>?_)
 refine wpAny_Slice (cu (hl pins s1 σ H1 _ I1 q1) fun vl s2 ⟨l,H2,I2,pl,q2⟩=>cu (hu pins s2 σ H2 _ I2 q2) fun vu s3 ⟨u,H3,I3,pu,q3⟩=>?_)
 rw[evalPart_none]
 refine wpAny_pure ?_
 have I4:Inv X pins σ H3 { s3 with heap:=s3.heap.push { cls:=.type "slice",data:=.fields #[vl,vu,.none] } }:=I3.kept (t':=s3.toks) fun b ob q=>Heap.get?_push_of_some _ q
 obtain⟨T,id,hT,ht,hg⟩:=hr pins { s3 with heap:=s3.heap.push { cls:=.type "slice",data:=.fields #[vl,vu,.none] } } σ H3 x v vl vu l u s3.heap.objs.size Q I4 r1 (Heap.IsSliceOf.new ..) pl pu q3
 show wpAny (model X.prog X.w) X.A (subscriptTail e (.Slice lo hi none p2) v (.ref s3.heap.objs.size)) (EP X pins σ Q) X.xe { s3 with heap:=s3.heap.push { cls:=.type "slice",data:=.fields #[vl,vu,.none] } }
 exact tail_any (ops:=[.ref s3.heap.objs.size,v]) ht hT hg (by with_unfolding_all rfl)
noncomputable def nJ (xs:List V) (lo hi:Option Int):List V:=(xs.drop (HT.dH xs.length 0 lo)).take (HT.dH xs.length xs.length hi-HT.dH xs.length 0 lo)
theorem kr (xs:List V) (lo hi:Option Int):(nJ xs lo hi).length≤xs.length:=by
 unfold nJ
 rw[List.length_take,List.length_drop]
 omega
noncomputable def Hb (K:Fg):V->Option Int->Option Int->Hp->VK->Prop:=fun x lo hi H Q=>∃a xs,x=.ref a/\rW K H a xs ∧
 ¬(HT.dH xs.length 0 lo=0/\HT.dH xs.length xs.length hi=xs.length)/\∀p,H p=none->Q (.ref p) (upd H p (.tup (nJ xs lo hi)))
theorem BF:vQ X (Hb X.K):=by
 intro pins s σ H x v vl vu lo hi sl Q I rx hs pl pu h
 obtain⟨a,xs,rfl,hx,hw,q⟩:=h
 cases rx
 obtain⟨aD,r,ht,hz⟩:=I.tuple hx
 have hlen:aD.toArray.size=xs.length:=by rw[List.size_toArray]; exact r.length.symm
 refine⟨"tuple",_,PyProof.Rows.slot_tuple_getitem.lookup,ht.typeIs,?_⟩
 refine HT.ja ht hs pl pu (by rw[hlen]; exact hw) ?_ (by rw[hlen]; exact hz)
 rw[hlen]
 refine⟨.ref s.heap.objs.size,_,I.laid (t':=s.toks) (o:=.tup (nJ xs lo hi)) (fun b ob q=>Heap.get?_push_of_some _ q) (Nat.le_refl _) ?_,rfl,q _ (I.aX.fresh (Nat.le_refl _))⟩
 exact⟨Nat.le_trans (kr xs lo hi) hz,_,(r.drop (HT.dH xs.length 0 lo)).take (HT.dH xs.length xs.length hi-HT.dH xs.length 0 lo),IsTup.new _ _⟩
noncomputable def As (K:Fg):R2:=fun x y H Q=>∃a b xs ys,x=.ref a/\y=.ref b/\rW K H a xs/\rW K H b ys/\xs≠[]/\xs.length+ys.length≤sizeLine ∧
 (ys=[]->Q (.ref a) H)/\(ys≠[]->∀p,H p=none->Q (.ref p) (upd H p (.tup (xs++ys))))
theorem Vals.nK {xs:List V} {us:List Value} (r:Vals xs us):us=[]↔xs=[]:=by
 cases r with
 | nil=>simp
 | cons _ _=>simp
theorem yJ:eJ X (binaryOp .Add) (As X.K):=by
 intro pins s σ H x y v u Q I rx ry h
 obtain⟨a,b,xs,ys,rfl,rfl,ha,hb,hx,hz,q1,q2⟩:=h
 cases rx
 cases ry
 obtain⟨aD,r1,p1,_⟩:=I.tuple ha
 obtain⟨pb,r2,p2,_⟩:=I.tuple hb
 refine HT.yE p1 p2 (fun z=>hx (r1.nK.mp z)) (fun z=>⟨.ref a,H,I,rfl,q1 (r2.nK.mp z)⟩) (fun z=>?_) (by rw[← r1.length,← r2.length]; exact hz)
 refine⟨.ref s.heap.objs.size,_,I.laid (t':=s.toks) (o:=.tup (xs++ys)) (fun b ob q=>Heap.get?_push_of_some _ q) (Nat.le_refl _) ?_,rfl,q2 (fun w=>z (r2.nK.mpr w)) _ (I.aX.fresh (Nat.le_refl _))⟩
 exact⟨by rw[List.length_append]; exact hz,_,r1.append r2,IsTup.new _ _⟩
end
end L2
namespace L2
open PySem PySem.Spec PyProof.Rows
noncomputable def sh (n:Nat) (i:Int):Option Nat:=if 0≤i then(if i<n then some i.toNat else none) else if -(n:Int)≤i then some (i+n).toNat else none
noncomputable def vf {α:Type} (xs:List α) (i:Int):Option α:=(sh xs.length i).bind fun j=>xs[j]?
theorem si {n:Nat} {i:Int} {j:Nat} (h:sh n i=some j):seqIndex? i n=some j/\j<n /\ -(n:Int)≤i/\i<n:=by
 unfold sh at h
 by_cases h0:0≤i
 ·rw[if_pos h0] at h
  by_cases h1:i<n
  ·rw[if_pos h1] at h
   have e:i.toNat=j:=Option.some.inj h
   exact⟨by rw[seqIndex_of h0 h1,e],by omega,by omega,h1⟩
  ·rw[if_neg h1] at h; cases h
 ·rw[if_neg h0] at h
  by_cases h1 : -(n:Int)≤i
  ·rw[if_pos h1] at h
   have e:(i+n).toNat=j:=Option.some.inj h
   exact⟨by rw[seqIndex_neg (by omega) h1,e],by omega,h1,by omega⟩
  ·rw[if_neg h1] at h; cases h
theorem sj {α:Type} {xs:List α} {i:Int} {v:α} (h:vf xs i=some v):∃j,seqIndex? i xs.length=some j/\xs[j]? = some v/\j<xs.length /\ -(xs.length:Int)≤i/\i<xs.length:=by
 unfold vf at h
 cases e:sh xs.length i with
 | none=>rw[e] at h; cases h
 | some j =>
  rw[e] at h
  obtain⟨h1,h2,h3,h4⟩:=si e
  exact⟨j,h1,h,h2,h3,h4⟩
noncomputable def sk (b:Expr):Prop:=∀o i,subscripted b false o i=operate [o,i] (getItem o i)
noncomputable def yK (X:Cx) (r:R2):Prop :=
 ∀(value slice:Expr) (pins:List (Addr×Obj)) (s:Shared) (σ:St) (H:Hp) (x y:V) (v u:Value) (Q:VK),Inv X pins σ H s->RelV x v->RelV y u->r x y H Q →
  subscripted slice false v u=operate [v,u] (getItem v u)->wpAny (model X.prog X.w) X.A (subscriptTail value slice v u) (EP X pins σ Q) X.xe s
noncomputable def xW (X:Cx) (id:String) (r:V->List V->Hp->VK->Prop):Prop :=
 ∀(pins:List (Addr×Obj)) (s:Shared) (σ:St) (H:Hp) (x:V) (xs:List V) (v:Value) (us:List Value) (Q:VK),Inv X pins σ H s->RelV x v->Vals xs us->r x xs H Q →
  wpAny (model X.prog X.w) X.A (call (.builtin id) (v::us)) (EP X pins σ Q) X.xe s
section
variable {X:Cx} {a b:Expr} {ta tb:TE} {pos:Pos}
theorem yK.or {r r':R2} (h:yK X r) (h':yK X r'):yK X (fun x y H Q=>r x y H Q\/r' x y H Q):=by
 intro value slice pins s σ H x y v u Q I rx ry q hs
 rcases q with q | q
 ·exact h value slice pins s σ H x y v u Q I rx ry q hs
 ·exact h' value slice pins s σ H x y v u Q I rx ry q hs
theorem Ea {r:R2} (hr:yK X r) (ha:PE X a ta) (hb:PE X b tb) (hs:sk b):PE X (.Subscript a b pos) (DK r ta tb):=by
 intro pins s σ H Q I h
 exact Subscript_ (Bk ha hb I h fun v u s2 x y H2 I2 rx ry q=>hr a b pins s2 σ H2 x y v u Q I2 rx ry q (hs _ _))
noncomputable def Hc (K:Fg):R2:=fun x y H Q=>∃p xs i v,x=.ref p/\y=.int i/\iq K H p xs/\vf xs i=some v/\Q v H
noncomputable def He (K:Fg):R2:=fun x y H Q=>∃p xs i v,x=.ref p/\y=.int i/\rW K H p xs/\vf xs i=some v/\Q v H
theorem yL:yK X (Hc X.K):=by
 intro value slice pins s σ H x y v u Q I rx ry h hs
 obtain⟨p,xs,i,z,rfl,rfl,hq,he,q⟩:=h
 cases rx
 obtain⟨t,rfl⟩:=ry
 obtain⟨aD,r,pl,hz⟩:=I.list hq
 obtain⟨j,h1,h2,h3,h4,h5⟩:=sj he
 obtain⟨w,ew,yB⟩:=r.get h2
 have hl:=r.length
 have hn:=lu
 have fin:EP X pins σ Q w s:=⟨z,H,I,yB,q⟩
 by_cases h0:0≤i
 ·have hj:i.toNat=j:=by
   rw[seqIndex_of h0 h5] at h1
   exact Option.some.inj h1
  exact item_listR pl.isList h0 (by omega) (by rw[hj]; simpa using ew) fin hs
 ·have hj:(i+(aD.toArray.size:Int)).toNat=j:=by
   rw[seqIndex_neg (by omega) h4] at h1
   rw[List.size_toArray,← hl]
   exact Option.some.inj h1
  exact subscriptTail_builtinR (x:=w) pl.isList.typeIs slot_list_getitem.lookup
   (wpAny_getItem_list_neg (Q:=fun r s'=>r=w/\EP X pins σ Q r s') pl.isList (by omega) (by rw[List.size_toArray]<;>omega) (by omega) (by rw[hj]; simpa using ew) ⟨rfl,fin⟩) hs
theorem fO:yK X (He X.K):=by
 intro value slice pins s σ H x y v u Q I rx ry h hs
 obtain⟨p,xs,i,z,rfl,rfl,hq,he,q⟩:=h
 cases rx
 obtain⟨t,rfl⟩:=ry
 obtain⟨aD,r,pl,hz⟩:=I.tuple hq
 obtain⟨j,h1,h2,h3,h4,h5⟩:=sj he
 obtain⟨w,ew,yB⟩:=r.get h2
 have hl:=r.length
 have hn:=lu
 have fin:EP X pins σ Q w s:=⟨z,H,I,yB,q⟩
 exact subscriptTail_builtinR (x:=w) pl.typeIs slot_tuple_getitem.lookup
  (getItem_tuple (j:=j) (Q:=fun r s'=>r=w/\EP X pins σ Q r s') pl (by omega) (by omega) (by rw[List.size_toArray,← hl]; exact h1) (by simpa using ew) ⟨rfl,fin⟩) hs
theorem qL (aD:List Value) (n j:Nat) (u:Value):Obj.mapSeq (·.setIfInBounds j u) { cls:=.type "list",data:=.seq aD.toArray n }={ cls:=.type "list",data:=.seq (aD.set j u).toArray n }:=by
 simp[Obj.mapSeq]
theorem Inv.lst {pins:List (Addr×Obj)} {σ:St} {H:Hp} {s:Shared} {p:Addr} {xs:List V} (I:Inv X pins σ H s) (h:H p=some (.lst xs)) :
  ∃(aD:List Value) (n:Nat),Vals xs aD/\s.heap.get? p=some { cls:=.type "list",data:=.seq aD.toArray n }/\xs.length≤sizeLine:=by
 obtain⟨z,aD,n,r,e⟩:=I.aX p _ h
 exact⟨aD,n,r,e,z⟩
theorem Inv.BG {pins:List (Addr×Obj)} {σ:St} {H:Hp} {s:Shared} {p:Addr} {xs ys:List V} {aD its':List Value} {n n':Nat} {f:Obj->Obj} (I:Inv X pins σ H s) (h:H p=some (.lst xs))
  (ho:s.heap.get? p=some { cls:=.type "list",data:=.seq aD.toArray n }) (hf:f { cls:=.type "list",data:=.seq aD.toArray n }={ cls:=.type "list",data:=.seq its'.toArray n' }) (r:Vals ys its') (hz:ys.length≤sizeLine) (t:Nat) :
  Inv X pins σ (upd H p (.lst ys)) { s with heap:=s.heap.update p f,toks:=t }:=by
 have e:(s.heap.update p f).get? p=some { cls:=.type "list",data:=.seq its'.toArray n' }:=by
  rw[Heap.get?_update_self f ho (by rw[hf]<;>rfl),hf]
 refine I.write (x:=p) (e:=p) (by rw[h]; trivial) (.inl rfl) (fun b u hb q=>(Heap.get?_update_other _ _ (Ne.symm hb)).trans q) ⟨_,e⟩ ?_
 exact⟨hz,its',n',r,e⟩
noncomputable def Au:V->V->V->Hp->(Hp->Prop)->Prop:=fun o i v H Q=>∃p xs k j,o=.ref p/\i=.int k/\H p=some (.lst xs)/\sh xs.length k=some j/\Q (upd H p (.lst (xs.set j v)))
theorem set_list:qy X Au:=by
 intro pins s σ H o i v ov iv u Q I ro ri rv h
 obtain⟨p,xs,k,j,rfl,rfl,hp,hj,q⟩:=h
 cases ro
 obtain⟨t,rfl⟩:=ri
 obtain⟨aD,n,r,ho,hz⟩:=I.lst hp
 obtain⟨h1,h2,h3,h4⟩:=si hj
 have hl:=r.length
 have hn:=lu
 have I':Inv X pins σ (upd H p (.lst (xs.set j v))) { s with heap:=s.heap.update p (Obj.mapSeq (·.setIfInBounds j u)) } :=
  I.BG hp ho (qL aD n j u) (r.set rv j) (by rw[List.length_set]; exact hz) s.toks
 by_cases h0:0≤k
 ·have hk:k.toNat=j:=by
   rw[seqIndex_of h0 h4] at h1
   exact Option.some.inj h1
  exact PySem.W.ki_setAt ho h0 (by omega) (by rw[List.size_toArray,← hl]; exact h4) (by rw[hk]; exact⟨_,I',q⟩)
 ·have hk:(k+(aD.toArray.size:Int)).toNat=j:=by
   rw[seqIndex_neg (by omega) h3] at h1
   rw[List.size_toArray,← hl]
   exact Option.some.inj h1
  exact PySem.W.ki_setBack ho (by omega) (by rw[List.size_toArray,← hl]; exact h3) (by omega) (by rw[hk]; exact⟨_,I',q⟩)
theorem nL (lo hi:Option Int) (n:Nat):(sliceBounds lo hi none n).1=((HT.dH n 0 lo:Nat):Int)/\(sliceBounds lo hi none n).2.1=((HT.dH n n hi:Nat):Int)/\(sliceBounds lo hi none n).2.2=1:=by
 refine⟨?_,?_,rfl⟩
 ·cases lo with
  | none=>simp[sliceBounds,HT.dH]
  | some i =>
   simp only[sliceBounds,HT.dH,Option.getD_none,show(1:Int) > 0 by decide,if_true]
   by_cases h:i<0
   ·simp only[h,if_true]<;>omega
   ·simp only[h,if_false]<;>omega
 ·cases hi with
  | none=>simp[sliceBounds,HT.dH]
  | some i =>
   simp only[sliceBounds,HT.dH,Option.getD_none,show(1:Int) > 0 by decide,if_true]
   by_cases h:i<0
   ·simp only[h,if_true]<;>omega
   ·simp only[h,if_false]<;>omega
theorem mC (aD:List Value) (lo hi:Option Int):slicePick aD.toArray lo hi none=((aD.drop (HT.dH aD.length 0 lo)).take (HT.dH aD.length aD.length hi-HT.dH aD.length 0 lo)).toArray:=by
 obtain⟨h1,h2,h3⟩:=nL lo hi aD.toArray.size
 unfold slicePick
 rw[h1,h2,h3]
 simp only[sliceRange_one,pick_run,List.size_toArray]<;>rfl
noncomputable def BH (K:Fg):V->Option Int->Option Int->Hp->VK->Prop:=fun x lo hi H Q=>∃a xs,x=.ref a/\iq K H a xs/\∀p,H p=none->Q (.ref p) (upd H p (.lst (nJ xs lo hi)))
theorem yM:vQ X (BH X.K):=by
 intro pins s σ H x v vl vu lo hi sl Q I rx hs pl pu h
 obtain⟨a,xs,rfl,hx,q⟩:=h
 cases rx
 obtain⟨aD,r,ht,hz⟩:=I.list hx
 have hlen:=r.length
 refine⟨"list",_,slot_list_getitem.lookup,ht.isList.typeIs,?_⟩
 refine wpAny_getItem_list_slice ht.isList hs pl pu .none (by simp) ?_ (by rw[List.size_toArray]<;>omega)
 rw[mC,← hlen]
 refine⟨.ref s.heap.objs.size,_,I.laid (t':=s.toks) (o:=.lst (nJ xs lo hi)) (fun b ob q=>Heap.get?_push_of_some _ q) (Nat.le_refl _) ?_,rfl,q _ (I.aX.fresh (Nat.le_refl _))⟩
 exact⟨Nat.le_trans (kr xs lo hi) hz,_,0,(r.drop (HT.dH xs.length 0 lo)).take (HT.dH xs.length xs.length hi-HT.dH xs.length 0 lo),Heap.get?_push_size _ rfl⟩
theorem nM:bH X (.builtin "len") (fun xs H Q=>∃p ys,xs=[.ref p]/\(iq X.K H p ys\/rW X.K H p ys)/\Q (.int ys.length) H):=by
 intro pins s σ H xs us Q I r h
 obtain⟨p,ys,rfl,hq,q⟩:=h
 obtain⟨u,rfl,rx⟩:=vals1 r
 cases rx
 have hn:=lu
 rcases hq with hq | hq
 ·obtain⟨aD,r',pl,hz⟩:=I.list hq
  have hlen:=r'.length
  exact Calls.call_len_list pl.isList (by simp only[List.size_toArray]<;>omega) ⟨.int ys.length,H,I.tok _,⟨s.toks+1,by rw[List.size_toArray,hlen]⟩,q⟩
 ·obtain⟨aD,r',pl,hz⟩:=I.tuple hq
  have hlen:=r'.length
  exact len_tuple pl (by simp only[List.size_toArray]<;>omega) ⟨.int ys.length,H,I.tok _,⟨s.toks+1,by rw[List.size_toArray,hlen]⟩,q⟩
theorem bH.or {f:Value} {r r':List V->Hp->VK->Prop} (h:bH X f r) (h':bH X f r'):bH X f (fun xs H Q=>r xs H Q\/r' xs H Q):=by
 intro pins s σ H xs us Q I rs q
 rcases q with q | q
 ·exact h pins s σ H xs us Q I rs q
 ·exact h' pins s σ H xs us Q I rs q
theorem nN:bH X (.type "list") (fun xs H Q=>∃p ys,xs=[.ref p]/\(iq X.K H p ys\/rW X.K H p ys)/\∀l,H l=none->Q (.ref l) (upd H l (.lst ys))):=by
 intro pins s σ H xs us Q I r h
 obtain⟨p,ys,rfl,hq,q⟩:=h
 obtain⟨u,rfl,rx⟩:=vals1 r
 cases rx
 have fin:∀(aD:List Value),Vals ys aD->ys.length≤sizeLine->∀(h':Heap) (c':Nat),(∀b o',s.heap.get? b=some o'->h'.get? b=some o') →
   h'.get? s.heap.objs.size=some { cls:=.type "list",dict:=none,data:=.seq aD.toArray c',slots:=#[] }->EP X pins σ Q (.ref s.heap.objs.size) { s with heap:=h' }:=fun aD r' hz h' c' kp e =>
  ⟨.ref s.heap.objs.size,_,I.laid (t':=s.toks) kp (Nat.le_refl _) (show bG X.prog X.w _ h' _ (.lst ys) from⟨hz,aD,c',r',e⟩),rfl,q _ (I.aX.fresh (Nat.le_refl _))⟩
 rcases hq with hq | hq
 ·obtain⟨aD,r',pl,hz⟩:=I.list hq
  have hlen:=r'.length
  obtain⟨o,ho,hc,n,hd⟩:=pl.isList
  exact call_list_seq p (.inl rfl) ho hc hd (fun h' c' kp e=>fin aD r' hz h' c' kp e) (by simp only[List.size_toArray]<;>omega)
 ·obtain⟨aD,r',pl,hz⟩:=I.tuple hq
  have hlen:=r'.length
  obtain⟨o,ho,hc,n,hd⟩:=pl
  exact call_list_seq p (.inr rfl) ho hc hd (fun h' c' kp e=>fin aD r' hz h' c' kp e) (by simp only[List.size_toArray]<;>omega)
theorem mD:bH X (.type "tuple") (fun xs H Q=>∃p ys,xs=[.ref p]/\((iq X.K H p ys/\∀l,H l=none->Q (.ref l) (upd H l (.tup ys)))\/(rW X.K H p ys/\Q (.ref p) H))):=by
 intro pins s σ H xs us Q I r h
 obtain⟨p,ys,rfl,h⟩:=h
 obtain⟨u,rfl,rx⟩:=vals1 r
 cases rx
 rcases h with⟨hq,q⟩ | ⟨hq,q⟩
 ·obtain⟨aD,r',pl,hz⟩:=I.list hq
  have hlen:=r'.length
  refine call_tuple_list pl.isList (fun h' kp=>?_) (by simp only[List.size_toArray]<;>omega)
  have I1:Inv X pins σ H { s with heap:=h' }:=I.kept (t':=s.toks) kp
  have I2:Inv X pins σ (upd H h'.objs.size (.tup ys)) { s with heap:=h'.push { cls:=.type "tuple",data:=.seq aD.toArray } } :=
   I1.laid (t':=s.toks) (fun b o e=>Heap.get?_push_of_some _ e) (Nat.le_refl _) (show bG X.prog X.w _ _ _ (.tup ys) from⟨hz,aD,r',IsTup.new _ _⟩)
  exact⟨.ref h'.objs.size,_,I2,rfl,q _ (I1.aX.fresh (Nat.le_refl _))⟩
 ·obtain⟨aD,r',pl,hz⟩:=I.tuple hq
  exact call_tuple_same pl ⟨.ref p,H,I,rfl,q⟩
noncomputable def IU (K:Fg) (T:String) (x:V) (H:Hp):Prop:=match x with
 | .str _=>T = "str"
 | .int _=>T = "int"
 | .ref p=>(T = "list" /\ ∃xs,iq K H p xs)\/(T = "tuple" /\ ∃o,K.lookup p=some o/\o.cls=.type "tuple" /\ o.dict=none) ∨
   (T = "dict" /\ ((∃aw,H p=some (.dK aw))\/∃aw,H p=some (.dT aw)))\/(T = "set" /\ ∃S n,H p=some (.set S n))
 | _=>False
theorem BI {pins:List (Addr×Obj)} {σ:St} {H:Hp} {s:Shared} {T:String} {x:V} {v:Value} (I:Inv X pins σ H s) (r:RelV x v) (ty:IU X.K T x H) :
  s.TypeIs v T/\∀a,v=.ref a->∃ob,s.heap.get? a=some ob/\ob.dict=none:=by
 cases x with
 | str z =>
  obtain⟨t,rfl⟩:=r
  cases (show T = "str" from ty)
  exact⟨typeIs_str s z t,fun _ e=>nomatch e⟩
 | int i =>
  obtain⟨t,rfl⟩:=r
  cases (show T = "int" from ty)
  exact⟨typeIs_int s i t,fun _ e=>nomatch e⟩
 | ref p =>
  cases r
  rcases ty with⟨rfl,xs,hq⟩ | ⟨rfl,o,hk,hc,hd⟩ | ⟨rfl,hk⟩ | ⟨rfl,S,n,hk⟩
  ·obtain⟨aD,_,pl,_⟩:=I.list hq
   refine⟨pl.isList.typeIs,fun a e=>?_⟩
   cases e
   obtain⟨o,n,e,c,hd,_⟩:=pl
   exact⟨o,e,hd⟩
  ·refine⟨⟨o,I.rT p o hk,hc⟩,fun a e=>?_⟩
   cases e
   exact⟨o,I.rT _ o hk,hd⟩
  ·have z:∃o,s.heap.get? p=some o/\o.ExactDict:=by
    rcases hk with⟨aw,hk⟩ | ⟨aw,hk⟩
    ·obtain⟨_,_,_,_,o,_,_,e,ex,_⟩:=I.aX p _ hk
     exact⟨o,e,ex⟩
    ·obtain⟨_,_,_,_,o,_,_,e,ex,_⟩:=I.aX p _ hk
     exact⟨o,e,ex⟩
   obtain⟨o,e,ex⟩:=z
   refine⟨⟨o,e,ex.1⟩,fun a e2=>?_⟩
   cases e2
   exact⟨o,e,ex.2.1⟩
  ·obtain⟨o,_,_,_,e,ex,_⟩:=I.aX p _ hk
   refine⟨⟨o,e,ex.1⟩,fun a e2=>?_⟩
   cases e2
   exact⟨o,e,ex.2.1⟩
 | _=>exact False.elim ty
noncomputable def Kh (K:Fg) (T:String) (r:V->List V->Hp->VK->Prop) (to:TE) (t:TA):TE:=fun σ H Q=>to σ H fun x H1=>IU K T x H1/\t σ H1 fun xs H2=>r x xs H2 Q
variable {o e:Expr} {es:List Expr} {to:TE} {t:TA} {name:Str} {apos bC:Pos} {T id:String} {r:V->List V->Hp->VK->Prop}
theorem Eb (pa:PlainAttrs T) (slot:Slot T name id) (Hf:typeOf (.builtin id)=pure (.type "method_descriptor")) (hm:xW X id r) (ho:PE X o to) (ha:PA X (e::es) t)
  (vS:attributeBase o name X.env (eval o X.env)=eval o X.env:=by rfl)
  (BJ:((backTo bC (starEach (e::es) X.env)).all (fun x=>!x.1) && (backToKw bC (keywordEach [] X.env)).all (fun x=>x.1.isSome)
   && decide ((e::es).length+([]:List Keyword).length+(if ([]:List Keyword).isEmpty then 0 else 1)<30))=true:=by rfl)
  (vT:(apos.endLine == bC.line)=true:=by rfl) (hs:starEach (e::es) X.env=(false,eval e X.env)::starEach es X.env:=by rfl) (lC:(backTo bC (starEach es X.env)).any (·.1)=false:=by rfl) :
  PE X (.Call (.Attribute o name apos) (e::es) [] bC) (Kh X.K T r to t):=by
 intro pins s σ H Q I h
 refine wpAny_Call_method_late vS BJ vT rfl (cu (ho pins s σ H _ I h) fun v s1 ⟨x,H1,I1,r1,ty,q1⟩=>?_)
 obtain⟨h1,h2⟩:=BI I1 r1 ty
 refine⟨T,id,pa,slot,Hf,h1,h2,?_⟩
 have hA:=ha bC pins s1 σ H1 _ I1 q1
 rw[hs] at hA ⊢
 refine Calls.callWith_builtin (by show(false || (backTo bC (starEach es X.env)).any (·.1))=false; rw[lC]<;>rfl) (Calls.evalArgs_plain ?_)
 exact cu hA fun us s2 ⟨vs,H2,I2,r2,q2⟩=>hm pins s2 σ H2 x vs v us Q I2 r1 r2 q2
end
end L2
namespace L2
open PySem PySem.Spec PyProof.Rows
noncomputable def IV (X:Cx) (id:String) (r:V->List V->Hp->VK->Prop):Prop :=
 ∀(pins:List (Addr×Obj)) (s:Shared) (σ:St) (H:Hp) (x:V) (xs:List V) (v:Value) (us:List Value) (Q:VK),Inv X pins σ H s->RelV x v->Vals xs us->r x xs H Q →
  wpAny (model X.prog X.w) X.A (call (.builtin id) (v::us)) (EP X pins σ Q) X.xe s
theorem Vals.one:∀{x:V} {us:List Value},Vals [x] us->∃u,us=[u]/\RelV x u
 | _,_,.cons r .nil=>⟨_,rfl,r⟩
theorem Vals.rep {xs:List V} {us:List Value} (h:Vals xs us):∀k:Nat,Vals (List.replicate k xs).flatten (List.replicate k us).flatten
 | 0=>.nil
 | k+1=>by
  rw[List.replicate_succ,List.replicate_succ,List.flatten_cons,List.flatten_cons]
  exact Vals.append h (Vals.rep h k)
theorem foldl_rep (aD:List Value):∀(k:Nat) (acc:List Value),
  List.foldl (fun x1 x2=>x1++x2) acc.toArray (List.replicate k aD.toArray)=(acc++(List.replicate k aD).flatten).toArray
 | 0,acc=>by simp
 | k+1,acc=>by
  have e:acc.toArray++aD.toArray=(acc++aD).toArray:=by simp
  have e2:(acc++aD)++(List.replicate k aD).flatten=acc++(List.replicate (k+1) aD).flatten:=by
   rw[List.replicate_succ,List.flatten_cons,List.append_assoc]
  rw[← e2,← foldl_rep aD k (acc++aD),← e,List.replicate_succ,List.foldl_cons]
section
variable {X:Cx} {pins:List (Addr×Obj)} {σ:St} {H:Hp} {s:Shared} {l b:Addr} {xs ys zs:List V}
theorem Inv.Ec {aD its':List Value} {n:Nat} {f:Array Value->Array Value} {t':Nat} (I:Inv X pins σ H s) (hH:H l=some (.lst xs))
  (e:s.heap.get? l=some { cls:=.type "list",data:=.seq aD.toArray n }) (hf:f aD.toArray=its'.toArray) (hv:Vals ys its') (hz:ys.length≤sizeLine) :
  Inv X pins σ (upd H l (.lst ys)) { s with heap:=s.heap.update l (Obj.mapSeq f),toks:=t' }:=by
 have q:=PySem.IsL.update e f
 rw[hf] at q
 refine I.write (x:=l) (e:=l) (by rw[hH]; exact trivial) (.inl rfl) (fun b' u hb hu=>(Heap.get?_update_other s.heap (Obj.mapSeq f) (Ne.symm hb)).trans hu) ⟨_,q⟩ ?_
 exact⟨hz,its',_,hv,q⟩
theorem Inv.BK {aD:List Value} {t':Nat} (I:Inv X pins σ H s) (hv:Vals ys aD) (hz:ys.length≤sizeLine) :
  Inv X pins σ (upd H s.heap.objs.size (.lst ys)) { s with heap:=s.heap.push { cls:=.type "list",data:=.seq aD.toArray },toks:=t' } :=
 I.laid (fun _ _ q=>Heap.get?_push_of_some _ q) (Nat.le_refl _) ⟨hz,aD,0,hv,Heap.get?_push_size _ rfl⟩
theorem Inv.fresh (I:Inv X pins σ H s):H s.heap.objs.size=none:=I.aX.fresh (Nat.le_refl _)
theorem Inv.uh (I:Inv X pins σ H s) (hH:H l=some (.lst xs)):xs.length≤sizeLine/\∃(aD:List Value) (n:Nat),Vals xs aD/\xs.length=aD.length/\s.heap.get? l=some { cls:=.type "list",data:=.seq aD.toArray n }:=by
 obtain⟨z,aD,n,r,e⟩:=I.aX l _ hH
 exact⟨z,aD,n,r,r.length,e⟩
theorem pd {n:Nat} (h:n≤sizeLine):Builtin.List.listTooLong n=false:=by
 unfold Builtin.List.listTooLong
 exact decide_eq_false (by omega)
end
section
variable {X:Cx}
noncomputable def so:V->List V->Hp->VK->Prop:=fun x vs H Q=>∃l xs y,x=.ref l/\vs=[y]/\H l=some (.lst xs)/\xs.length<sizeLine/\Q .bb (upd H l (.lst (xs++[y])))
theorem m4:IV X "list.append" so:=by
 intro pins s σ H x vs v us Q I rx rv h
 obtain⟨l,xs,y,rfl,rfl,hH,hz,q⟩:=h
 cases rx
 obtain⟨u,rfl,ru⟩:=rv.one
 obtain⟨z,aD,n,r,hl,e⟩:=I.uh hH
 refine call_meets F.slot_list_append ⟨_,e,rfl⟩ F.entry_list_append (F.args_list_append_2 _ _) (PySem.list_append l aD.toArray n u (by rw[List.size_toArray]; omega)) ⟨e,?_⟩
 refine⟨.bb,_,I.Ec (its':=aD++[u]) hH e (by simp) (r.append (.cons ru .nil)) ?_,rfl,q⟩
 rw[List.length_append,List.length_singleton]
 omega
noncomputable def sq:V->List V->Hp->VK->Prop:=fun x vs H Q=>∃l b xs zs,x=.ref l/\vs=[.ref b]/\H l=some (.lst xs)/\H b=some (.lst zs)/\xs.length+zs.length≤sizeLine/\Q .bb (upd H l (.lst (xs++zs)))
theorem ui:IV X "list.extend" sq:=by
 intro pins s σ H x vs v us Q I rx rv h
 obtain⟨l,b,xs,zs,rfl,rfl,hH,hB,hz,q⟩:=h
 cases rx
 obtain⟨u,rfl,ru⟩:=rv.one
 cases ru
 obtain⟨z,aD,n,r,hl,e⟩:=I.uh hH
 obtain⟨z2,pb,n2,r2,vU,e2⟩:=I.uh hB
 have hsz:aD.toArray.size+pb.toArray.size≤sizeLine:=by rw[List.size_toArray,List.size_toArray]; omega
 have vV:¬(!aD.toArray.isEmpty && Builtin.List.listTooLong (aD.toArray.size+pb.toArray.size))=true:=by
  rw[pd hsz,Bool.and_false]
  exact Bool.false_ne_true
 refine call_meets F.slot_list_extend ⟨_,e,rfl⟩ F.entry_list_extend (F.args_list_extend_2 _ _)
  (AutoSeq1.list_extend_list_list_0 l aD.toArray n b pb.toArray n2 vV (by rw[List.size_toArray]; omega) (by omega)) ⟨e,e2,?_⟩
 refine⟨.bb,_,I.Ec (its':=aD++pb) hH e (by simp) (r.append r2) ?_,rfl,q⟩
 rw[List.length_append]
 omega
noncomputable def yN:R2:=fun x y H Q=>∃l b xs zs,x=.ref l/\y=.ref b/\H l=some (.lst xs)/\H b=some (.lst zs)/\xs.length+zs.length≤sizeLine/\∀p,H p=none->Q (.ref p) (upd H p (.lst (xs++zs)))
theorem BL:eJ X (binaryOp .Add) yN:=by
 intro pins s σ H x y v u Q I rx ry h
 obtain⟨l,b,xs,zs,rfl,rfl,hH,hB,hz,q⟩:=h
 cases rx
 cases ry
 obtain⟨z,aD,n,r,hl,e⟩:=I.uh hH
 obtain⟨z2,pb,n2,r2,vU,e2⟩:=I.uh hB
 refine PySem.P.add_list e e2 ?_ (by rw[List.size_toArray,List.size_toArray]; omega)
 have ea:aD.toArray++pb.toArray=(aD++pb).toArray:=by simp
 rw[ea]
 exact⟨.ref _,_,I.BK (t':=s.toks) (r.append r2) (by rw[List.length_append]; omega),rfl,q _ I.fresh⟩
noncomputable def Ed:R2:=fun x y H Q=>∃l k xs,x=.ref l/\y=.int k/\H l=some (.lst xs) /\ -(2 ^ 63)≤k/\k<2 ^ 63/\xs.length*k.toNat≤sizeLine ∧
 ∀p,H p=none->Q (.ref p) (upd H p (.lst (List.replicate k.toNat xs).flatten))
theorem yO {α:Type} (xs:List α) (k:Nat):(List.replicate k xs).flatten.length=k*xs.length:=by
 induction k with
 | zero=>simp
 | succ k ih=>rw[List.replicate_succ,List.flatten_cons,List.length_append,ih,Nat.succ_mul,Nat.add_comm]
theorem BM:eJ X (binaryOp .Mult) Ed:=by
 intro pins s σ H x y v u Q I rx ry h
 obtain⟨l,k,xs,rfl,rfl,hH,h1,h2,hz,q⟩:=h
 cases rx
 obtain⟨t,rfl⟩:=ry
 obtain⟨z,aD,n,r,hl,e⟩:=I.uh hH
 have hlen:aD.toArray.size*k.toNat≤sizeLine:=by rw[List.size_toArray,← hl]; exact hz
 have Hg:¬aD.toArray.size*k.toNat > (2 ^ 63-1) / 8:=by
  have:(sizeLine:Nat)≤(2 ^ 63-1) / 8:=by decide
  omega
 have Hh:¬(!Builtin.List.listFitsIndex k)=true:=by
  rw[fitsIndex_both h1 h2]
  exact Bool.false_ne_true
 have vV:¬Builtin.List.listTooLong (aD.toArray.size*k.toNat)=true:=by
  rw[pd hlen]
  exact Bool.false_ne_true
 have Hi:List.foldl (fun x1 x2=>x1++x2) #[] (List.replicate (if aD.toArray.isEmpty=true then 0 else k.toNat) aD.toArray)=(List.replicate k.toNat aD).flatten.toArray:=by
  have f0:∀m:Nat,List.foldl (fun x1 x2=>x1++x2) #[] (List.replicate m aD.toArray)=(List.replicate m aD).flatten.toArray:=fun m=>by
   have:=foldl_rep aD m []
   rw[zH] at this
   exact this
  rw[f0]
  cases aD with
  | nil=>simp
  | cons a r'=>rw[if_neg (by simp)]
 refine wpAny_binaryOp_repeat_ref (T := "list") (U := "int") (by decide) ⟨_,e,rfl⟩ (fun s'=>typeIs_int s' k t) noFill_list_mul F.fills_int_mul F.slot_int_rmul repeat_list F.slot_int_index.lookup
  (call_meets F.slot_int_rmul (typeIs_int s k t) F.entry_int_rmul (F.args_int_rmul_2 _ _) (int___rmul___int_list k t l aD.toArray n)
   ⟨e,rfl,⟨_,e,rfl⟩,call_meets F.slot_list_mul ⟨_,e,rfl⟩ F.entry_list_mul (F.args_list_mul_2 _ _) (AutoListH.list___mul___list_int_3 l aD.toArray n k t Hh Hg vV) ⟨e,?_⟩⟩)
 rw[Hi]
 exact⟨.ref _,_,I.BK (t':=s.toks) (r.rep k.toNat) (by rw[yO,Nat.mul_comm]; exact hz),rfl,q _ I.fresh⟩
end
section
variable {prog:Program} {w:World} {A:Around} {E:Value->Shared->Prop} {s:Shared}
end
section
variable {X:Cx}
end
end L2
namespace Att
open PySem PySem.W PySem.Calls PyProof.Rows
theorem kL {P:Params} {h:Heap}:∀(ns:List Int) (vs:List Value),WellAll P h vs (ns.map WData.int)->IntsAre vs ns:=by
 intro ns
 induction ns with
 | nil =>
  intro vs w
  rw[zD] at w
  cases w
  exact .nil
 | cons n ns ih =>
  intro vs w
  rw[zC] at w
  cases w with
  | cons a b =>
   cases a
   exact .cons _ _ (ih _ b)
theorem uj {l:OpenLaw} {n:Nat} (hn:l.most=some n) {P:Params} {h:Heap} {args:List WData} {vals:List Value}
  (jc:l.row.toRowW.claim.pre args=true) (Hj:WellAll P h vals args) :
  ∃a vs ns,vals=[Value.ref a]/\args=[WData.list (ns.map WData.int)]/\h.get? a=some { cls:=.type "list",data:=.seq vs.toArray }/\IntsAre vs ns/\ns.length≤n:=by
 have fE:WShape.hasAll [] args [.list .int]=true:=(pre_splitW jc).1
 have hc:l.pre.holds [] { args:=args }=true:=(pre_splitW jc).2
 obtain⟨d,r,rfl,h1,h2⟩:=hasAllW_cons fE
 obtain rfl:=hasAllW_nil h2
 obtain⟨xs,rfl,h3⟩:=hasW_list h1
 obtain⟨ns,rfl⟩:=items_int h3
 have hlen:ns.length≤n:=by
  unfold OpenLaw.pre at hc
  have h4:(WTm.not (.lt (.lit (.int (n:Int))) (.len (.arg 0)))).holds [] { args:=[.list (ns.map .int)] }=true:=by
   have h4:=(holds_andW hc).1
   rw[hn] at h4
   exact h4
  have h5:=condW_of h4 (w_not (w_lt w_lit (w_len_list (w_arg rfl))))
  rw[zK] at h5
  refine Nat.le_of_not_lt fun q=>?_
  have q':(n:Int)<((ns.length:Nat):Int):=by omega
  first
   | (rw[decide_eq_true q'] at h5; exact absurd h5 (by decide))
   | (simp at h5; omega)
 cases Hj with
 | cons w1 w2 =>
  cases w2
  cases w1 with
  | list ho mE=>exact⟨_,_,ns,rfl,rfl,ho,kL ns _ mE,hlen⟩
theorem uk (l:OpenLaw) (args:List WData):l.row.toRowW.claim.post args (.bool true) args=true :=
 postW_of (r:=l.row.toRowW) (X:=(true == true))
  (show WShape.has [] (.bool true) .bool=true by first | rfl | decide | simp[WShape.has,WShape.arms,WShape.armsAll])
  (show(WTm.eq .res (.lit (.bool true))).value [] { args:=args,res:=some (.bool true),after:=args }=some (.bool (true == true)) from w_eq_bool (w_res rfl) w_lit) rfl
theorem pe {l:OpenLaw} {n:Nat} {q:Program} {loose:List Str} {XP:(Str->Option Value)->Heap->Prop} {YP:World->Heap->Prop} {d:DefRec}
  (hn:l.most=some n) (Hk:d.params.defaults=[])
  (call:∀(w:World) (s₀ s₁:Shared) (mg mb:Str->Option Value) (fa:Addr) (o:Obj) (pm cd doc:Value) (a:Addr) (vs:List Value) (ns:List Int),
   Ground q loose [] XP w s₀ mg mb s₁.heap->YP w s₁.heap →
   s₁.heap.get? fa=some o->o.data=.func (docDef d.name d.params d.body d.scope pm cd doc)->s₁.heap.CodeRec cd d.name->mg d.name=some (.ref fa) →
   s₁.heap.get? a=some { cls:=.type "list",data:=.seq vs.toArray }->IntsAre vs ns->ns.length≤n->s₁.gens=#[] →
   codeAny (model l.prog w) callerA (.call (.ref fa) ⟨[.ref a],[]⟩) (fun r s'=>r=.ok (.ret (.bool true))/\OldK s₁.heap s'.heap/\s'.os=s₁.os/\AllBare s'.gens) s₁) :
  WalkO q loose XP YP l.row.toRowW d [] (fun f vs=>PySem.call f vs):=by
 intro w s₀ s₁ mg mb G Y fa o pm cd doc dV kV ho hd vz hD Ee hg args vals as jc Ki LY Hj LZ
 obtain rfl:dV=.none:=Dflts.none hD Hk
 obtain rfl:kV=.none:=Dflts.noKw hD
 obtain⟨a,vs,ns,rfl,rfl,BN,hints,hlen⟩:=uj hn jc Hj
 refine enter_call (codeAny_mono (call w s₀ s₁ mg mb fa o pm cd doc a vs ns G Y ho (fd_plain hd) vz Ee BN hints hlen hg) fun r s' hq=>?_)
 obtain⟨rfl,h2,h3,h4⟩:=hq
 exact⟨.inl ⟨.bool true,.bool true,[],rfl,fun _=>rfl,.bool true,uk l _,fun _=>⟨List.Pairwise.nil,fun _ hm=>(nomatch hm)⟩⟩,h2,h3,h4⟩
section
variable {prog:Program} {w:World} {A:Around} {E:Value->Shared->Prop} {s:Shared} {K:Frag}
noncomputable def Hl (h:Heap) (L d:Addr):List (Addr×Obj):=(List.range h.objs.size).filterMap fun a=>if a=L\/a=d then none else(h.get? a).map fun o=>(a,o)
end
end Att
namespace L2
open PySem PySem.Spec PyProof.Rows
theorem m5:∀{vs:List Value} {ns:List Int},IntsAre vs ns->Vals (ns.map V.int) vs
 | _,_,.nil=>.nil
 | _,_,.cons n t h=>.cons ⟨t,rfl⟩ (m5 h)
noncomputable def BP (H:Hp):Prop:=∀b,H b=none\/∃o xs,H b=some (.oS o (.lst xs))
theorem vW {P:Program} {w:World} {K:Fg} {mg mb:Str->Option Value} {CX:qt} {k:Nat} {fa a:Addr} {fd:FuncData} {x:Str} {sp:Sp} {s₁:Shared} {vs:List Value} {ns:List Int}
  (KX:K.In s₁.heap) (FK:s₁.heap.Ns mainGlobals mg) (hb:s₁.heap.Ns builtinsNs mb) (FL:∀x:Str,x ≠ "__name__" -> mb x=bootBuiltins x) (Hm:s₁.heap.NoLimit) (hg:s₁.gens=#[])
  (ha:s₁.heap.get? a=some { cls:=.type "list",data:=.seq vs.toArray }) (hi:IntsAre vs ns) (hl:ns.length≤sizeLine) (hr:df k callerA)
  (F:∀base:Heap,K.In base->base.Ns mainGlobals mg->fX P w K mg base CX k fa fd [x] sp) (Ef:∀(s:Shared) (u:Value),BindsTo s fd ⟨[u],[]⟩ [(x,u)])
  (Aq:∀H:Hp,BP H->iq K H a (ns.map V.int)->sp [.ref a] H (fun v _=>v=.bl true) fun _ _ _=>False)
  (Hn:∀H e s',CX [] H s₁ (fun _ _ _=>False) e s'->False) :
  codeAny (model P w) callerA (.call (.ref fa) ⟨[.ref a],[]⟩) (fun r s'=>r=.ok (.ret (.bool true))/\OldK s₁.heap s'.heap/\s'.os=s₁.os/\AllBare s'.gens) s₁:=by
 have rv:=m5 hi
 have Ho:=hi.length
 have core:∀H:Hp,BP H->iq K H a (ns.map V.int)->gK P w H s₁.heap->(∀b,H b≠none->b=a)->(H a≠none->K.lookup a=none) →
   codeAny (model P w) callerA (.call (.ref fa) ⟨[.ref a],[]⟩) (fun r s'=>r=.ok (.ret (.bool true))/\OldK s₁.heap s'.heap/\s'.os=s₁.os/\AllBare s'.gens) s₁:=by
  intro H hO hS aX hA hK
  have sr:∀{b:Addr} {o:Obj},s₁.heap.get? b=some o->H b=none->(nE s₁.heap H).get? b=some o:=fun e n=>vx e n
  have DZ:∀{b:Addr} {o:Obj} {es:Array DictEntry} {ep:Nat},s₁.heap.get? b=some o->o.data=.dict es ep->H b=none:=fun {b o es ep} e d=>by
   cases q:H b with
   | none=>rfl
   | some u =>
    have e':b=a:=hA b (by rw[q]; simp)
    subst e'
    rw[ha] at e; cases e
    have d':Data.seq vs.toArray _=Data.dict es ep:=d
    cases d'
  have FN:∀{b:Addr} {m:Str->Option Value},s₁.heap.Ns b m->(nE s₁.heap H).Ns b m:=fun {b m} ⟨o,es,ep,e,d,r⟩=>⟨o,es,ep,sr e (DZ e d),d,r⟩
  have IW:K.In (nE s₁.heap H):=fun b o e=>sr (KX b o e) (by
   cases q:H b with
   | none=>rfl
   | some u =>
    have e':b=a:=hA b (by rw[q]; simp)
    subst e'
    rw[hK (by rw[q]; simp)] at e; cases e)
  have hM:Mod K mg (nE s₁.heap H):=⟨IW,FN FK,⟨mb,FN hb,FL⟩,let⟨mc,h1,h2⟩:=Hm; ⟨mc,FN h1,h2⟩⟩
  have e0:qI P w K mg (nE s₁.heap H) callerA [] s₁ H:=⟨rfl,hM,fun b o e=>yc e,Nat.le_of_eq (tT _ _),trivial,fun b hb=>absurd (show b∈([]:List Addr) from hb) (by simp),aX,.of_eq hg⟩
  refine codeAny_mono ((F _ IW (FN FK)).run callerA [] s₁ H ⟨[.ref a],[]⟩ [.ref a] [.ref a] _ _ hr e0 (Ef s₁ (.ref a)) (.cons rfl .nil) (Aq H hO hS)) fun r s' h=>?_
  cases r with
  | error e=>exact(Hn H e s' h).elim
  | ok fl =>
   cases fl with
   | next=>exact False.elim h
   | brk=>exact False.elim h
   | cont=>exact False.elim h
   | ret u =>
    obtain⟨v,H',os,bare,un,BQ,r',q⟩:=h
    have q':v=.bl true:=q
    subst q'
    obtain rfl:u=Value.bool true:=r'
    refine⟨rfl,OldK.of_keep fun b o e=>?_,os,bare⟩
    cases q:H b with
    | none=>exact un.keep b o e q (by intro z; exact absurd (show b∈([]:List Addr) from z) (by simp)) (by simp)
    | some u =>
     rcases hO b with z | ⟨ob,xs,z⟩
     ·rw[q] at z; cases z
     ·have z2:=un.fL b ob _ z
      obtain⟨e1,_⟩:=aX b _ z
      obtain⟨e2,_⟩:=BQ b _ z2
      rw[e] at e1; cases e1
      exact e2
 cases hk:K.lookup a with
 | some o =>
  have e:=KX a o hk
  rw[ha] at e
  cases e
  refine core (fun _=>none) (fun _=>.inl rfl) (.inr ⟨_,vs.toArray,_,hk,rfl,rfl,rfl,by rw[List.size_toArray,Ho]; exact hl,by simpa using rv⟩) (fun b u z=>by have z':(none:Option HO)=some u:=z; cases z') (fun b z=>absurd rfl z) fun z=>absurd rfl z
 | none =>
  refine core (fun b=>if b=a then some (.oS { cls:=.type "list",data:=.seq vs.toArray } (.lst (ns.map V.int))) else none) (fun b=>?_) (.inl (.inr ⟨{ cls:=.type "list",data:=.seq vs.toArray },if_pos rfl⟩)) (fun b u z=>?_) (fun b z=>?_) fun _=>hk
  ·by_cases hb:b=a
   ·exact .inr ⟨_,_,if_pos hb⟩
   ·exact .inl (if_neg hb)
  ·by_cases hb:b=a
   ·have z':=(if_pos hb).symm.trans z
    cases z'
    subst hb
    exact⟨ha,by rw[zK]; exact hl,vs,_,rv,ha⟩
   ·have z':=(if_neg hb).symm.trans z
    cases z'
  ·by_cases hb:b=a
   ·exact hb
   ·exact absurd (if_neg hb) z
end L2
namespace L2
open PySem PySem.Spec PyProof.Rows
end L2
namespace L2
open PySem PySem.Spec PyProof.Rows
structure vX (K:Fg) (x qual:Str) (st:Stmt) (f:Addr) (fd:FuncData):Prop where
 ex:∃(oc:Value) (od:Option Addr) (kV doc pm:Value) (an:Option Addr) (eO ct:Value) (yA:Array (Option Value)),
  fd=PySem.W.fnOf x qual (dS st) (bN st) (ak st) .none kV doc pm an eO ct/\K.lookup f=some ⟨oc,od,.func fd,yA⟩/\PySem.W.codeIn K eO qual=true
 kp:PySem.W.keepIn K (.ref f)=true
section
variable {P:Program} {w:World} {K:Fg} {mg:Str->Option Value} {base:Heap}
theorem vX.binds {x qual:Str} {st:Stmt} {f:Addr} {fd:FuncData} {ps:List Str} (F:vX K x qual st f fd)
  (h:∀(kV doc pm:Value) (an:Option Addr) (eO ct:Value) (us:List Value),us.length=ps.length->bindArgs (PySem.W.fnOf x qual (dS st) (bN st) (ak st) .none kV doc pm an eO ct) ⟨us,[]⟩=pure (ps.zip us)):Binds K fd ps []:=by
 obtain⟨oc,od,kV,doc,pm,an,eO,ct,yA,rfl,lk,vz⟩:=F.ex
 exact .all (h kV doc pm an eO ct)
theorem lD {x qual:Str} {st:Stmt} {f:Addr} {oc:Value} {od an:Option Addr} {yA:Array (Option Value)} {kV doc pm eO ct:Value} (l:K.lookup f=some ⟨oc,od,.func (PySem.W.fnOf x qual (dS st) (bN st) (ak st) .none kV doc pm an eO ct),yA⟩)
  (c:PySem.W.codeIn K eO qual=true) (k:PySem.W.keepIn K (.ref f)=true):vX K x qual st f (PySem.W.fnOf x qual (dS st) (bN st) (ak st) .none kV doc pm an eO ct):=⟨⟨oc,od,kV,doc,pm,an,eO,ct,yA,rfl,l,c⟩,k⟩
end
theorem m8 {n:Nat} (h:n≤1000):n<sizeLine:=Nat.lt_of_le_of_lt h (by decide)
section
variable {X:Cx}
end
theorem qM {A B:Prop} (h:B):if false=true then A else B:=by
 rw[if_neg Bool.false_ne_true]
 exact h
theorem qN {A B:Prop} (h:A):if true=true then A else B:=by
 rw[if_pos rfl]
 exact h
noncomputable def eh (H H':Hp):Prop:=∀b o,H b=some o->H' b=some o
theorem eh.refl (H:Hp):eh H H:=fun _ _ h=>h
theorem eh.trans {H H1 H2:Hp} (a:eh H H1) (b:eh H1 H2):eh H H2:=fun c o h=>b c o (a c o h)
theorem eh.free {H H':Hp} (e:eh H H') {l:Addr} (h:H' l=Option.none):H l=Option.none:=by
 cases q:H l with
 | none=>rfl
 | some o =>
  rw[e l o q] at h
  cases h
end L2
namespace L2
open PySem PySem.Spec PyProof.Rows
section
variable {X:Cx}
theorem um:bH X (.builtin "len") (fun xs H Q=>∃a aw,xs=[V.ref a]/\H a=some (.dK aw)/\Q (.int aw.length) H):=by
 intro pins s σ H xs us Q I r h
 obtain⟨a,aw,rfl,ha,q⟩:=h
 obtain⟨u,rfl,ru⟩:=vals1 r
 cases ru
 exact D6 I (.inl ha) fun t s' I'=>⟨.int aw.length,H,I',⟨t,rfl⟩,q⟩
end
section
variable {κ:Type} [DecidableEq κ]
end
end L2
end
section
namespace L2
open PySem PySem.Spec PyProof.Rows
noncomputable def jO (env:Env):List (Str×NameKind)->List (Str×Addr)->List (Str×Addr)
 | [],acc=>acc
 | (n,k)::r,acc=>jO env r (if (k == NameKind.free)=true then(n,(env.cells.lookup n).getD 0)::acc else acc)
theorem iS {env:Env}:∀(l:List (Str×NameKind)) (acc:List (Str×Addr)),(∀p∈l,p.2=.free->∃c,env.cells.lookup p.1=some c) →
  (forIn l acc fun(x:Str×NameKind) (cs:List (Str×Addr))=>(if (x.2 == NameKind.free)=true then do let a ← cellOf env x.1; pure (ForInStep.yield ((x.1,a)::cs)) else pure (ForInStep.yield cs):Sem (ForInStep (List (Str×Addr)))))=pure (jO env l acc)
 | [],acc,_=>rfl
 | (n,k)::r,acc,h=>by
  rw[List.forIn_cons]
  by_cases hk:(k == NameKind.free)=true
  ·obtain⟨c,hc⟩:=h (n,k) List.mem_cons_self (by simpa using hk)
   have mB:env.cells.lookup n=some c:=hc
   have e1:cellOf env n=pure c:=by unfold cellOf; rw[mB]
   simp only[hk,if_true,e1]
   show(forIn r ((n,c)::acc) _:Sem _)=_
   have ih:=iS (env:=env) r ((n,c)::acc) fun p hp=>h p (List.mem_cons_of_mem _ hp)
   refine ih.trans ?_
   show _=pure (jO env r (if (k == NameKind.free)=true then(n,(env.cells.lookup n).getD 0)::acc else acc))
   rw[if_pos hk,mB]
   rfl
  ·have k6:(k == NameKind.free)=false:=by simpa using hk
   simp only[k6,Bool.false_eq_true,if_false]
   show(forIn r acc _:Sem _)=_
   have ih:=iS (env:=env) r acc fun p hp=>h p (List.mem_cons_of_mem _ hp)
   refine ih.trans ?_
   show _=pure (jO env r (if (k == NameKind.free)=true then(n,(env.cells.lookup n).getD 0)::acc else acc))
   rw[if_neg hk]
theorem qO {env:Env} {scope:Scope} (h:∀p∈scope.names,p.2=.free->∃c,env.cells.lookup p.1=some c):closureFor scope env=pure (jO env scope.names []):=by
 unfold closureFor
 have:=iS (env:=env) scope.names [] h
 show((forIn scope.names ([]:List (Str×Addr)) (fun(x:Str×NameKind) (cs:List (Str×Addr))=>(if (x.2 == NameKind.free)=true then do let a ← cellOf env x.1; pure (ForInStep.yield ((x.1,a)::cs)) else pure (ForInStep.yield cs):Sem (ForInStep (List (Str×Addr))))):Sem (List (Str×Addr))) >>= fun r=>pure r)=_
 rw[this]
 rfl
theorem jP {env:Env} {x:Str} {c:Addr}:∀{l:List (Str×NameKind)} {acc:List (Str×Addr)},(∀p∈l,p.2=.free->∃c,env.cells.lookup p.1=some c)->(∀c,acc.lookup x=some c->env.cells.lookup x=some c) →
  (jO env l acc).lookup x=some c->env.cells.lookup x=some c
 | [],acc,_,ha,h=>ha c h
 | (n,k)::r,acc,hl,ha,h=>by
  refine jP (l:=r) (fun p hp=>hl p (List.mem_cons_of_mem _ hp)) ?_ h
  intro c' mB
  by_cases hk:(k == NameKind.free)=true
  ·rw[if_pos hk] at mB
   obtain⟨c0,FO⟩:=hl (n,k) List.mem_cons_self (by simpa using hk)
   have FO:env.cells.lookup n=some c0:=FO
   rw[List.lookup_cons] at mB
   cases hx:x == n with
   | true =>
    rw[hx] at mB
    rw[FO] at mB
    have e:x=n:=by simpa using hx
    rw[e,FO]
    exact mB
   | false =>
    rw[hx] at mB
    exact ha c' mB
  ·rw[if_neg hk] at mB
   exact ha c' mB
theorem lE {env:Env} {x:Str}:∀{l:List (Str×NameKind)} {acc:List (Str×Addr)},((x,NameKind.free)∈l\/∃c,acc.lookup x=some c)->∃c,(jO env l acc).lookup x=some c
 | [],acc,h=>by
  rcases h with h | h
  ·exact nomatch h
  ·exact h
 | (n,k)::r,acc,h=>by
  show ∃c,(jO env r (if (k == NameKind.free)=true then(n,(env.cells.lookup n).getD 0)::acc else acc)).lookup x=some c
  refine lE (l:=r) ?_
  rcases h with h | ⟨c,h⟩
  ·rcases List.mem_cons.mp h with e | h
   ·injection e with e1 e2
    subst e1 e2
    right
    rw[if_pos (by rfl),List.lookup_cons]
    simp
   ·exact .inl h
  ·right
   by_cases hk:(k == NameKind.free)=true
   ·rw[if_pos hk,List.lookup_cons]
    cases hx:x == n with
    | true=>exact⟨_,rfl⟩
    | false=>exact⟨c,h⟩
   ·rw[if_neg hk]
    exact⟨c,h⟩
noncomputable def du (X:Cx) (scope:Scope) (N:List Str) (C:Addr) (fp:List Addr) (s:Shared) (H:Hp):Cx :=
 { X with N:=N,s₀:=s,H₀:=H,env:=compEnvC scope (jO X.env scope.names []) C X.env,outer:=X.stack,stack:=X.stack,ex:=fp,fn:=fun _=>false,pn:=[],xe:=fun _ _=>False }
noncomputable def iK (cap:List (Option Nat)) (σ:St):St:=cap.map fun o=>match o with
 | some i=>(σ[i]?).join
 | none=>none
structure dw (X:Cx) (scope:Scope) (N:List Str) (cap:List (Option Nat)):Prop where
 kind:scope.kind=.function
 vY:∀y∈scope.names,y.2≠.cell
 names:∀y∈scope.names,y.2=.local -> scope.names.lookup y.1=some .local
 free:∀y∈scope.names,y.2=.free->(X.env.kindOf y.1=some .cell\/X.env.kindOf y.1=some .free)
 len:cap.length=N.length
 cap:∀(j:Nat) (x:Str) (i:Nat),N[j]? = some x->cap[j]? = some (some i)->X.N[i]? = some x/\(x,NameKind.free)∈scope.names/\scope.names.lookup x=some .free
theorem jd {env:Env}:∀{names:List (Str×NameKind)} {x:Str} {k:NameKind},names.lookup x=some k →
  (names.map fun(n,k)=>if (k == NameKind.free && env.scope.kind == .function && env.kindOf n == some .cell) then(n,NameKind.cell) else(n,k)).lookup x=some k\/(k=.free ∧
   (names.map fun(n,k)=>if (k == NameKind.free && env.scope.kind == .function && env.kindOf n == some .cell) then(n,NameKind.cell) else(n,k)).lookup x=some .cell)
 | [],_,_,h=>by simp at h
 | (n,k')::r,x,k,h=>by
  have ih:=@jd env r x k
  show List.lookup x ((if (k' == NameKind.free && env.scope.kind == .function && env.kindOf n == some .cell)=true then(n,NameKind.cell) else(n,k'))::_)=_\/_/\List.lookup x ((if (k' == NameKind.free && env.scope.kind == .function && env.kindOf n == some .cell)=true then(n,NameKind.cell) else(n,k'))::_)=_
  cases hx:x == n with
  | true =>
   simp only[List.lookup_cons,hx] at h
   cases h
   by_cases hc:(k' == NameKind.free && env.scope.kind == .function && env.kindOf n == some .cell)=true
   ·right
    rw[if_pos hc]
    simp only[Bool.and_eq_true] at hc
    exact⟨by simpa using hc.1.1,by simp only[List.lookup_cons,hx]⟩
   ·left
    rw[if_neg hc]
    simp only[List.lookup_cons,hx]
  | false =>
   simp only[List.lookup_cons,hx] at h
   by_cases hc:(k' == NameKind.free && env.scope.kind == .function && env.kindOf n == some .cell)=true
   ·rw[if_pos hc]; simp only[List.lookup_cons,hx]; exact ih h
   ·rw[if_neg hc]; simp only[List.lookup_cons,hx]; exact ih h
theorem gK.but {P:Program} {w:World} {H:Hp} {h h':Heap} {C:Addr} (ok:gK P w H h) (hn:H C=none) (hs:Heap.SameBut C h h'):gK P w H h':=fun b u e=>by
 refine(ok b u e).my (fun c v hc q=>(hs.2 c ?_).trans q) (fun _ q=>q) fun _ _ q=>q
 rintro rfl
 rcases hc with rfl | hc
 ·rw[hn] at e; cases e
 ·rw[hn] at hc; cases hc
noncomputable def mF (X:Cx) (ifs:List Expr) (t:TT):Prop :=
 ∀(pins:List (Addr×Obj)) (s:Shared) (σ:St) (H:Hp) (Q:Bool->Hp->Prop),Inv X pins σ H s->t σ H Q →
  wpAny (model X.prog X.w) X.A (forIn ifs true fun c r=>if r=true then do let ok ← isTrue c X.env (eval c X.env); pure (ForInStep.yield ok) else pure (ForInStep.yield r)) (TP X pins σ Q) X.xe s
noncomputable def Eg:TT:=fun _ H Q=>Q true H
theorem vZ {X:Cx}:mF X [] Eg:=fun pins s σ H Q I h=>wpAny_tests_nil ⟨H,I,h⟩
theorem v3 {X:Cx} {c:Expr} {t:TT} (h:PT X c t):mF X [c] t:=fun pins s σ H Q I hw=>wpAny_tests_one (h pins s σ H Q I hw)
noncomputable def m9 (J:It) (g:TG) (tt:TT) (te:TE) (acc:Addr) (Q:Hp->Prop) (σ:St) (H:Hp):Prop :=
 ∃W:Nat->Nat->List V->St->Hp->Prop,(∃m,W 0 m [] σ H)/\∀i m ys σ' H',W i m ys σ' H' →
  (J.stop i H'/\Q H') ∨
  (J.go i H'/\∀x H2,J.FG i H' x H2->g x σ' H2 fun σ3 H3=>tt σ3 H3 fun b H4 =>
   if b=true then te σ3 H4 fun y H5=>H5 acc=some (.lst ys)/\ys.length<sizeLine/\∃m',m'<m/\W (i+1) m' (ys++[y]) σ3 (upd H5 acc (.lst (ys++[y])))
   else ∃m',m'<m/\W (i+1) m' ys σ3 H4)
noncomputable def Av (cap:List (Option Nat)) (wi:TI) (g:TG) (tt:TT) (te:TE):TE:=fun σ H Q =>
 wi σ H fun J H1=>∀acc,H1 acc=none->m9 J g tt te acc (Q (.ref acc)) (iK cap σ) (upd H1 acc (.lst []))
theorem hE {prog:Program} {w:World} {A:Around} {R:Result->Shared->Prop} {s:Shared} {elt target iter:Expr} {ifs:List Expr} {scope:Scope} {pos:Pos} {it acc:Value} {env:Env} (I:Nat->Shared->Prop)
  (turn:∀n s,I n s->wpAny (model prog w) A (pyNext it) (fun r s₁=>match r with
   | none=>R (.ok .next) s₁
   | some v=>wpAny (model prog w) A (letOwnedTupleGo target it v) (fun _ IX=>wpAny (model prog w) A (assign target env v) (fun _ s₂ =>
     wpAny (model prog w) A (forIn ifs true fun c r=>if r=true then do let ok ← isTrue c env (eval c env); pure (ForInStep.yield ok) else pure (ForInStep.yield r)) (fun ok s₃ =>
      if ok=true then wpAny (model prog w) A (eval elt env) (fun x s₄ =>
       wpAny (model prog w) A (call (.builtin "list.append") [acc,x]) (fun _ s₅=>∃m,m<n/\I m s₅) (fun _ _=>False) s₄) (fun _ _=>False) s₃
      else ∃m,m<n/\I m s₃) (fun _ _=>False) s₂) (fun _ _=>False) IX) (fun _ _=>False) s₁) (fun _ _=>False) s)
  (n:Nat) (h:I n s) :
  codeAny (model prog w) A (.compLoop (.ListComp elt [⟨target,iter,ifs,0⟩] scope pos) 0 it acc env) R s:=by
 refine codeAny_loop rfl I (fun n s hI=>?_) n h
 show wpAny _ A ((compTurn (.ListComp elt [⟨target,iter,ifs,0⟩] scope pos) 0 it acc env).onRaise (fun x=>do noteFrame x env; theTreesLotGoes x)) _ _ s
 refine wpAny_noted ?_
 rw[compTurn_list]
 refine wpAny_bind (wpAny_standAt (wpAny_bind (wpAny_mono (turn n s hI) (fun r s₁ h₁=>?_) fun _ _ h'=>h'.elim)))
 cases r with
 | none=>exact wpAny_pure h₁
 | some v =>
  refine wpAny_bind (wpAny_mono h₁ (fun _ IX Kj=>?_) fun _ _ h'=>h'.elim)
  refine wpAny_bind (wpAny_mono Kj (fun _ s₂ h₂=>wpAny_bind (wpAny_mono h₂ (fun ok s₃ h₃=>?_) fun _ _ h'=>h'.elim)) fun _ _ h'=>h'.elim)
  cases ok with
  | false=>exact wpAny_pure ⟨rfl,h₃⟩
  | true =>
   exact wpAny_bind (wpAny_bind (wpAny_mono h₃ (fun x s₄ h₄=>wpAny_bind (wpAny_mono h₄ (fun _ s₅ h₅=>wpAny_pure (wpAny_pure ⟨rfl,h₅⟩)) fun _ _ h'=>h'.elim)) fun _ _ h'=>h'.elim))
section
variable {X:Cx} {scope:Scope} {N:List Str} {cap:List (Option Nat)}
theorem dw.cells (ok:dw X scope N cap) (xo:X.Ok):∀p∈scope.names,p.2=.free->∃c,X.env.cells.lookup p.1=some c:=fun p hp e=>xo.has p.1 (ok.free p hp e)
theorem qP {pins:List (Addr×Obj)} {σ:St} {H:Hp} {s:Shared} {fp:List Addr} {h1:Heap} {tk:Nat} (co:dw X scope N cap) (I:Inv X pins σ H s) (hf:∀b∈fp,kK X pins H b) (vg:∀b∈fp,b<s.heap.objs.size)
  (FK:h1.Ns (s.heap.objs.size+1) (fun _=>none)) (hk:∀b o,(s.heap.push { cls:=.type "list",data:=.seq ([]:List Value).toArray }).get? b=some o->h1.get? b=some o) :
  Inv (du X scope N (s.heap.objs.size+1) fp { s with heap:=s.heap.push { cls:=.type "list",data:=.seq ([]:List Value).toArray } } (upd H s.heap.objs.size (.lst []))) [] (iK cap σ) (upd H s.heap.objs.size (.lst []))
   { s with heap:=h1,toks:=tk }:=by
 have cells:=co.cells I.ok
 have look:∀x c,(jO X.env scope.names []).lookup x=some c->X.env.cells.lookup x=some c:=fun x c e=>jP cells (fun c h=>by simp at h) e
 have I1:Inv X pins σ (upd H s.heap.objs.size (.lst [])) { s with heap:=s.heap.push { cls:=.type "list",data:=.seq ([]:List Value).toArray },toks:=s.toks }:=I.BK (t':=s.toks) .nil (Nat.zero_le _)
 have Kk:∀b o,s.heap.get? b=some o->b≠s.heap.objs.size:=fun b o e=>Nat.ne_of_lt (Heap.lt_size e)
 have Kl:∀b∈gU X.stack,b∈X.env.locals::X.fs:=I.nF
 have lF:(s.heap.push { cls:=.type "list",data:=.seq ([]:List Value).toArray }).objs.size=s.heap.objs.size+1:=Heap.size_push ..
 refine⟨⟨I.ok.mod,co.kind,I.ok.glob,I.ok.blt,?_,?_,?_,fun x c h=>(nomatch h),I.ok.hd,I.ok.frames,.inl rfl,?_,?_,?_,?_,?_,?_,?_⟩,rfl,I.bare,Un.kept hk,?_,?_,?_,?_,?_,?_,?_⟩
 ·show(s.heap.push { cls:=.type "list",data:=.seq ([]:List Value).toArray }).objs.size≤s.heap.objs.size+1
  rw[lF]; exact Nat.le_refl _
 ·intro x y c e1 e2
  exact I.ok.inj x y c (look x c e1) (look y c e2)
 ·intro x hx
  refine lE (.inl ?_)
  have hx:(relabel scope X.env).names.lookup x=some .cell\/(relabel scope X.env).names.lookup x=some .free:=hx
  have key:∀(l:List (Str×NameKind)),(∀y∈l,y.2≠.cell)->((l.map fun(n,k)=>if (k == NameKind.free && X.env.scope.kind == .function && X.env.kindOf n == some .cell) then(n,NameKind.cell) else(n,k)).lookup x=some .cell ∨
    (l.map fun(n,k)=>if (k == NameKind.free && X.env.scope.kind == .function && X.env.kindOf n == some .cell) then(n,NameKind.cell) else(n,k)).lookup x=some .free)->(x,NameKind.free)∈l:=by
   intro l
   induction l with
   | nil=>intro _ h; simp at h
   | cons p r ih =>
    obtain⟨n,k⟩:=p
    intro hn h
    have FD:∀y∈r,y.2≠.cell:=fun y hy=>hn y (List.mem_cons_of_mem _ hy)
    have Km:k≠.cell:=hn (n,k) List.mem_cons_self
    rw[zC] at h
    by_cases hc:(k == NameKind.free && X.env.scope.kind == .function && X.env.kindOf n == some .cell)=true
    ·dsimp only at h
     rw[if_pos hc] at h
     rw[List.lookup_cons] at h
     cases hx:x == n with
     | true =>
      have e:x=n:=by simpa using hx
      simp only[Bool.and_eq_true] at hc
      have ek:k=.free:=by simpa using hc.1.1
      rw[e,ek]
      exact List.mem_cons_self
     | false =>
      rw[hx] at h
      exact List.mem_cons_of_mem _ (ih FD h)
    ·dsimp only at h
     rw[if_neg hc] at h
     rw[List.lookup_cons] at h
     cases hx:x == n with
     | true =>
      rw[hx] at h
      have e:x=n:=by simpa using hx
      rcases h with h | h
      ·exact absurd (Option.some.inj h) Km
      ·have ek:k=.free:=Option.some.inj h
       rw[e,ek]
       exact List.mem_cons_self
     | false =>
      rw[hx] at h
      exact List.mem_cons_of_mem _ (ih FD h)
  exact key scope.names co.vY hx
 ·intro b hb
  obtain⟨f0,f1,f2,f3,f4,f5⟩:=hf b hb
  exact⟨Nat.ne_of_lt (Nat.lt_succ_of_lt (vg b hb)),fun x c e=>f4 x c (look x c e)⟩
 ·intro b o e
  exact I1.bs b o e
 ·show X.base.objs.size≤(s.heap.push { cls:=.type "list",data:=.seq ([]:List Value).toArray }).objs.size
  rw[lF]
  exact Nat.le_succ_of_le (Nat.le_trans I.ok.xS I.sz)
 ·intro b o e hb
  obtain⟨f0,f1,f2,f3,f4,f5⟩:=hf b hb
  rcases f3 with z | z
  ·exact I.ok.vy b o e z
  ·exact absurd (Nat.lt_of_lt_of_le (Heap.lt_size e) (Nat.le_trans I.ok.xS z)) (Nat.lt_irrefl _)
 ·intro b hb hm
  obtain⟨f0,f1,f2,f3,f4,f5⟩:=hf b hb
  rcases List.mem_cons.mp (Kl b hm) with z | z
  ·exact f1 z
  ·exact f2 z
 ·exact I1.stack
 ·exact I1.nG
 ·refine⟨fun _=>none,FK,fun j x v e1 e2 e3=>?_⟩
  unfold iK at e2
  rw[zJ] at e2
  cases ec:cap[j]? with
  | none=>rw[ec] at e2; cases e2
  | some o =>
   rw[ec] at e2
   cases o with
   | none=>cases (Option.some.inj e2)
   | some i =>
    have FP:(σ[i]?).join=some v:=Option.some.inj e2
    have Hq:σ[i]? = some (some v):=by
     cases q:σ[i]? with
     | none=>rw[q] at FP; cases FP
     | some z=>rw[q] at FP; rw[show z=some v from FP]
    obtain⟨c1,c2,c3⟩:=co.cap j x i e1 ec
    obtain⟨m,hn,hl⟩:=I.loc
    have kx:X.env.kindOf x=some .cell\/X.env.kindOf x=some .free:=co.free (x,.free) c2 rfl
    obtain⟨u,ru,lk⟩:=hl i x v c1 Hq (.inr kx)
    refine⟨u,ru,?_⟩
    rcases lk with⟨k1,_⟩ | ⟨k1,c,hc,kl⟩
    ·rcases kx with z | z<;>(rw[k1] at z; cases z)
    ·refine .inr ⟨?_,c,?_,?_⟩
     ·rcases jd (env:=X.env) c3 with z | ⟨_,z⟩
      ·exact .inr z
      ·exact .inl z
     ·obtain⟨c',mB⟩:=lE (env:=X.env) (x:=x) (l:=scope.names) (acc:=[]) (.inl c2)
      have:=look x c' mB
      rw[hc] at this
      cases this
      exact mB
     ·obtain⟨oc,ho,hd⟩:=kl
      exact⟨oc,hk _ _ (Heap.get?_push_of_some _ ho),hd⟩
 ·intro x c e
  obtain⟨v,oc,ho,hd⟩:=I.cell x c (look x c e)
  exact⟨v,oc,hk _ _ (Heap.get?_push_of_some _ ho),hd⟩
 ·show upd H s.heap.objs.size (.lst []) (s.heap.objs.size+1)=none
  rw[av (Nat.succ_ne_self _)]
  exact I.aX.fresh (Nat.le_succ _)
 ·intro x c e
  exact I1.gL x c (look x c e)
 ·intro p hp
  exact absurd (show p∈([]:List (Addr×Obj)) from hp) (by simp)
 ·exact I1.aX.kept hk
 ·show(iK cap σ).length=N.length
  unfold iK
  rw[zK]
  exact co.len
theorem comp_back {pins:List (Addr×Obj)} {σ σ':St} {H H':Hp} {s s':Shared} {fp:List Addr} {h2:Heap} (I:Inv X pins σ H s) (hf:∀b∈fp,kK X pins H b)
  (J:Inv (du X scope N (s.heap.objs.size+1) fp { s with heap:=s.heap.push { cls:=.type "list",data:=.seq ([]:List Value).toArray } } (upd H s.heap.objs.size (.lst []))) [] σ' H' s')
  (hs:Heap.SameBut (s.heap.objs.size+1) s'.heap h2):Inv X pins σ H' { s' with heap:=h2 }:=by
 have u1:Un (gU X.stack) fp H (upd H s.heap.objs.size (.lst [])) s.heap (s.heap.push { cls:=.type "list",data:=.seq ([]:List Value).toArray }) :=
  Un.laid (fun b u e=>Heap.get?_push_of_some _ e) (Nat.le_refl _) I.fresh
 have u2:Un (gU X.stack) fp (upd H s.heap.objs.size (.lst [])) H' (s.heap.push { cls:=.type "list",data:=.seq ([]:List Value).toArray }) s'.heap:=J.base
 have u3:=u1.trans u2
 have hn:H' (s.heap.objs.size+1)=none:=J.free
 have old:∀b o,s.heap.get? b=some o->h2.get? b=s'.heap.get? b:=fun b o e=>hs.2 b (Nat.ne_of_lt (Nat.lt_succ_of_lt (Heap.lt_size e)))
 refine I.Am (s':={ s' with heap:=h2 }) (ch:=fp) J.os ⟨fun b o e n h1 Eh=>?_,fun b o e n h1 Eh=>?_,u3.free,fun b o e h1=>?_,u3.fV,u3.fL,u3.fW⟩ (J.aX.but hn hs) J.bare fun b hb=>?_
 ·rw[show({ s' with heap:=h2 }:Shared).heap.get? b=h2.get? b from rfl,old b o e]
  exact u3.keep b o e n h1 Eh
 ·obtain⟨sl,q⟩:=u3.slot b o e n h1 Eh
  exact⟨sl,by rw[show({ s' with heap:=h2 }:Shared).heap.get? b=h2.get? b from rfl,old b o e]; exact q⟩
 ·obtain⟨o',q⟩:=u3.there b o e h1
  exact⟨o',by rw[show({ s' with heap:=h2 }:Shared).heap.get? b=h2.get? b from rfl,old b o e]; exact q⟩
 ·obtain⟨f0,f1,f2,f3,f4,f5⟩:=hf b hb
  exact⟨f3,f1,f4,f5⟩
variable {elt iter tg:Expr} {ifs:List Expr} {wi:TI} {g:TG} {tt:TT} {te:TE} {pos:Pos}
theorem v5 {pins:List (Addr×Obj)} {σ:St} {H:Hp} {s:Shared} {it:Addr} {fp:List Addr} {tn:Nat->Heap->Prop} {J:It} {Q:V->Hp->Prop} {RR:Value->Addr->Result->Shared->Prop}
  (co:dw X scope N cap) (nc:X.calm=true) (I:Inv X pins σ H s) (T:Turn X.prog X.w X.K tg J fp it tn) (st:tn 0 s.heap) (hf:∀b∈fp,kK X pins H b)
  (hg:∀C s0 H0,PG (du X scope N C fp s0 H0) tg g) (hi:∀C s0 H0,mF (du X scope N C fp s0 H0) ifs tt) (he:∀C s0 H0,PE (du X scope N C fp s0 H0) elt te)
  (hw:∀acc,H acc=none->m9 J g tt te acc (Q (.ref acc)) (iK cap σ) (upd H acc (.lst [])))
  (hR:∀(H':Hp) (s':Shared) (σ':St),Inv (du X scope N (s.heap.objs.size+1) fp { s with heap:=s.heap.push { cls:=.type "list",data:=.seq ([]:List Value).toArray } } (upd H s.heap.objs.size (.lst []))) [] σ' H' s' →
   Q (.ref s.heap.objs.size) H'->RR (.ref s.heap.objs.size) (s.heap.objs.size+1) (.ok .next) s') :
  wpAny (model X.prog X.w) X.A (newList []) (fun acc s₃=>wpAny (model X.prog X.w) X.A (newFunctionEnv scope X.env.globals (jO X.env scope.names []) [] X.env.qual none .none (some X.env)) (fun Ei s₄ =>
   codeAny (model X.prog X.w) X.A (.compStart (.ListComp elt [⟨tg,iter,ifs,0⟩] scope pos) 0 (.ref it) acc { Ei with scope:=relabel scope X.env }) (RR acc Ei.locals) s₄) X.xe s₃) X.xe s:=by
 have vg:∀b∈fp,b<s.heap.objs.size:=fun b hb=>by
  obtain⟨o,e,_⟩:=T.obj _ _ st b hb
  exact Heap.lt_size e
 refine wpAny_newObj_type (wpAny_newFunctionEnv co.vY (by intro y hy; simp at hy) (fun h₁ BR BS=>?_) co.kind)
 dsimp only at BR BS ⊢
 have lF:(s.heap.push { cls:=.type "list",data:=.seq ([]:List Value).toArray }).objs.size=s.heap.objs.size+1:=Heap.size_push ..
 rw[lF] at BR BS ⊢
 have hk:∀b o,(s.heap.push { cls:=.type "list",data:=.seq ([]:List Value).toArray }).get? b=some o->h₁.get? b=some o:=fun b o e =>
  BS.extBut b o (by have:=Heap.lt_size e; rw[lF] at this; exact Nat.ne_of_lt this) (Heap.get?_push_of_some _ e)
 have IY:∀b o,s.heap.get? b=some o->h₁.get? b=some o:=fun b o e=>hk b o (Heap.get?_push_of_some _ e)
 have FQ:tn 0 h₁:=T.keep _ _ _ st fun b _ o e=>IY b o e
 have J1:=qP (tk:=s.toks+([]:List (Str×Value)).length) co I hf vg (h1:=h₁) (by simpa using BR) hk
 generalize uo:du X scope N (s.heap.objs.size+1) fp { s with heap:=s.heap.push { cls:=.type "list",data:=.seq ([]:List Value).toArray } } (upd H s.heap.objs.size (.lst []))=Xc at J1 hR
 have eP:Xc.prog=X.prog:=by rw[← uo]; rfl
 have eW:Xc.w=X.w:=by rw[← uo]; rfl
 have eK:Xc.K=X.K:=by rw[← uo]; rfl
 have eA:Xc.A=X.A:=by rw[← uo]; rfl
 have ec:Xc.calm=true:=by rw[← uo]; exact nc
 have eE:Xc.env=compEnvC scope (jO X.env scope.names []) (s.heap.objs.size+1) X.env:=by rw[← uo]; rfl
 have ex:Xc.xe=fun _ _=>False:=by rw[← uo]; rfl
 have Kn:PG Xc tg g:=by rw[← uo]; exact hg _ _ _
 have yP:mF Xc ifs tt:=by rw[← uo]; exact hi _ _ _
 have Ko:PE Xc elt te:=by rw[← uo]; exact he _ _ _
 have qB:∀{H':Hp},(∀b∈fp,H' b=none)->∀b∈fp,kK Xc [] H' b:=fun {H'} hn b hb=>by
  obtain⟨f0,f1,f2,f3,f4,f5⟩:=hf b hb
  refine⟨hn b hb,?_,?_,.inl ?_,?_,?_⟩
  ·rw[eE]; exact Nat.ne_of_lt (Nat.lt_succ_of_lt (vg b hb))
  ·rw[← uo]
   show b∉gU X.stack
   intro hm
   rcases List.mem_cons.mp (I.nF b hm) with z | z
   ·exact f1 z
   ·exact f2 z
  ·rw[← uo]; exact hb
  ·intro x c e
   rw[eE] at e
   exact f4 x c (jP (co.cells I.ok) (fun c h=>by simp at h) e)
  ·intro p hp
   rw[← uo] at hp
   exact absurd (show p∈([]:List (Addr×Obj)) from hp) (by simp)
 obtain⟨W,⟨m0,w0⟩,turn⟩:=hw s.heap.objs.size I.fresh
 have Kp:∀b∈fp,upd H s.heap.objs.size (.lst []) b=none:=fun b hb=>by
  rw[av (Nat.ne_of_lt (vg b hb))]
  exact(hf b hb).1
 have loop:∀sx:Shared,sx={ s with heap:=h₁,toks:=s.toks+([]:List (Str×Value)).length } →
   codeAny (model X.prog X.w) X.A (.compLoop (.ListComp elt [⟨tg,iter,ifs,0⟩] scope pos) 0 (.ref it) (.ref s.heap.objs.size) (compEnvC scope (jO X.env scope.names []) (s.heap.objs.size+1) X.env)) (RR (.ref s.heap.objs.size) (s.heap.objs.size+1)) sx:=by
  rintro sx rfl
  refine hE (fun n s'=>∃i ys σ' H',Inv Xc [] σ' H' s'/\tn i s'.heap/\(∀b∈fp,H' b=none)/\W i n ys σ' H') ?_ m0 ⟨0,[],iK cap σ,_,J1,FQ,Kp,w0⟩
  rintro n s3 ⟨i,ys,σ3,H3,I3,DH,DJ,w3⟩
  rcases turn i n ys σ3 H3 w3 with⟨stop,qn⟩ | ⟨go,step⟩
  ·have:=T.done Xc eP eW eK ec i [] s3 σ3 H3 (fun _ _=>False) I3 (qB DJ) DH stop
   rw[eA] at this
   refine cu this fun r s4 ⟨hr,I4⟩=>?_
   subst hr
   exact hR H3 s4 σ3 I4 qn
  ·have:=T.item Xc eP eW eK ec i [] s3 σ3 H3 (fun _ _=>False) I3 (qB DJ) DH go
   rw[eA] at this
   refine cu this fun r s4 ⟨u,hr,h4⟩=>?_
   subst hr
   refine cu h4 fun _ s5 ⟨x,H5,I5,r5,y5,Bj,GS⟩=>?_
   have GU:=I5.pinned (qB GS) (T.obj _ _ Bj)
   have a1:=Kn _ s5 σ3 H5 x u _ GU r5 (step x H5 y5)
   rw[eP,eW,eA,eE,ex] at a1
   refine cu a1 fun _ s6 ⟨σ6,H6,I6,q6⟩=>?_
   have a2:=yP _ s6 σ6 H6 _ I6 q6
   rw[eP,eW,eA,eE,ex] at a2
   refine cu a2 fun b s7 ⟨H7,I7,q7⟩=>?_
   have again:∀{σ8:St} {H8:Hp} {s8:Shared} {zs:List V},Inv Xc ([]++lq fp s5.heap) σ8 H8 s8->(∃m',m'<n/\W (i+1) m' zs σ8 H8)->∃m,m<n/\∃i ys σ' H',Inv Xc [] σ' H' s8/\tn i s8.heap/\(∀b∈fp,H' b=none)/\W i m ys σ' H':=fun {σ8 H8 s8 zs} I8 ⟨m',hm,w8⟩=>by
    refine⟨m',hm,i+1,zs,σ8,H8,I8.i7,T.keep _ _ _ Bj fun b hb o e=>(I8.pin (b,o) (List.mem_append_right _ (List.mem_append_right _ (gv hb e)))).1,fun b hb=>?_,w8⟩
    obtain⟨o,e,d⟩:=T.obj _ _ Bj b hb
    exact(I8.pin (b,o) (List.mem_append_right _ (List.mem_append_right _ (gv hb e)))).2.1
   cases b with
   | false =>
    rw[if_neg Bool.false_ne_true] at q7 ⊢
    exact again I7 q7
   | true =>
    rw[if_pos rfl] at q7 ⊢
    have a3:=Ko _ s7 σ6 H7 _ I7 q7
    rw[eP,eW,eA,eE,ex] at a3
    refine cu a3 fun v s8 ⟨y,H8,I8,r8,q1,q2,q3⟩=>?_
    have a4:=m4 (X:=Xc) _ s8 σ6 H8 (.ref s.heap.objs.size) [y] (.ref s.heap.objs.size) [v] (fun _ H'=>∃m',m'<n/\W (i+1) m' (ys++[y]) σ6 H') I8 rfl (.cons r8 .nil) ⟨_,ys,y,rfl,rfl,q1,q2,q3⟩
    rw[eP,eW,eA,ex] at a4
    exact cu a4 fun _ s9 ⟨_,H9,I9,_,q9⟩=>again I9 q9
 exact codeAny_compStart_list (loop _ rfl) (T.self X.A 0 _ _ _ FQ (loop _ rfl))
theorem yQ (co:dw X scope N cap) (nc:X.calm=true) (qQ:PI X tg iter wi)
  (hg:∀C fp s0 H0,PG (du X scope N C fp s0 H0) tg g) (hi:∀C fp s0 H0,mF (du X scope N C fp s0 H0) ifs tt) (he:∀C fp s0 H0,PE (du X scope N C fp s0 H0) elt te)
  (hs:∀x,foldedSetIterable iter X.env x=pure x:=by intro _; rfl):PE X (.ListComp elt [⟨tg,iter,ifs,0⟩] scope pos) (Av cap wi g tt te):=by
 intro pins s σ H Q I h
 rw[eval_ListComp]
 refine wpAny_comprehension_free (use:=none) rfl hs (qO (co.cells I.ok)) co.kind co.names ?_
 refine cu (qQ pins s σ H _ I h) fun v s1 h1=>cu h1 fun GO s2 h2=>?_
 obtain⟨it,fp,tn,J,H2,e,I2,T,GR,f2,w⟩:=h2
 subst e
 refine v5 (RR:=fun acc C=>compPost (model X.prog X.w) X.A X.xe none (EP X pins σ Q) acc C) co nc I2 T GR f2 (fun C=>hg C fp) (fun C=>hi C fp) (fun C=>he C fp) w fun H' s' σ' J' q=>?_
 obtain⟨m,hn,_⟩:=J'.loc
 exact⟨m,hn,fun h' Ej=>⟨.ref _,H',comp_back I2 f2 J' Ej,rfl,q⟩⟩
end
end L2
end
section
namespace L2
open PySem PySem.Spec PyProof.Rows
structure XS (P:Program) (w:World) (outer:List Env) (H:Hp) (s:Shared) (e:Addr) (cls:Value) (H':Hp) (s':Shared):Prop where
 os:s'.os=s.os
 bare:AllBare s'.gens
 Ek:∃(B:Heap) (a0:Value),Heap.FlyingW B outer e cls a0 s'.heap/\gK P w H' B/\(∀b o,s.heap.get? b=some o->H b=none->b∉gU outer->B.get? b=some o) ∧
  ∀b o,s.heap.get? b=some o->b∉gU outer->∃o',B.get? b=some o'
 slot:∀b o,s.heap.get? b=some o->H b=none->b∈gU outer->∃sl,s'.heap.get? b=some { o with slots:=sl }
 free:∀b o,s.heap.get? b=some o->H b=none->H' b=none
 fV:∀b xs,H b=some (.tup xs)->H' b=some (.tup xs)
 fL:∀b o u,H b=some (.oS o u)->H' b=some (.oS o u)
 fW:∀b ps,H b=some (.iR ps)->∃more,H' b=some (.iR (ps++more))
noncomputable def iF (P:Program) (w:World):qt:=fun outer H s E ev s'=>∃(e:Addr) (cls:Value) (H':Hp),ev=.ref e/\XS P w outer H s e cls H' s'/\E cls none H'
theorem XS.un {P:Program} {w:World} {outer:List Env} {H H':Hp} {s s':Shared} {e:Addr} {cls:Value} (x:XS P w outer H s e cls H' s'):Un (gU outer) [] H H' s.heap s'.heap:=by
 obtain⟨B,a0,f,aX,k1,k2⟩:=x.Ek
 refine⟨fun b o q n hb _=>f.1 b o (k1 b o q n hb),fun b o q n hb _=>x.slot b o q n hb,fun b o q n _=>x.free b o q n,fun b o q _=>?_,x.fV,x.fL,x.fW⟩
 by_cases hb:b∈gU outer
 ·obtain⟨_,o',ho,_⟩:=f.2.2.1.mem hb
  exact⟨o',ho⟩
 ·obtain⟨o',ho⟩:=k2 b o q hb
  exact⟨o',f.1 b o' ho⟩
theorem XS.aX {P:Program} {w:World} {outer:List Env} {H H':Hp} {s s':Shared} {e:Addr} {cls:Value} (x:XS P w outer H s e cls H' s'):gK P w H' s'.heap:=by
 obtain⟨B,a0,f,aX,k1,k2⟩:=x.Ek
 exact aX.kept fun b o q=>f.1 b o q
theorem yR {P:Program} {w:World} {K:Fg} {mg:Str->Option Value} {base:Heap} {N:List Str} {qual:Str} {scope:Scope} {f:Addr} {cd:Value} {A:Around} {outer:List Env} {s:Shared} {H:Hp} {E:XK} :
  Passes (iF P w) (ee (iF P w) P w K mg base N qual scope f cd A outer s H E) E:=by
 intro pins σ H1 s1 ev s2 I h
 obtain⟨e,cls,H2,rfl,x,q⟩:=h
 obtain⟨B,a0,fl,aX,k1,k2⟩:=x.Ek
 have mw:(A.deeper (envOfC qual scope s.heap.objs.size f cd)).frames=some (envOfC qual scope s.heap.objs.size f cd::outer):=I.ok.frames
 show wpAny (model P w) (A.deeper (envOfC qual scope s.heap.objs.size f cd)) (leaving (envOfC qual scope s.heap.objs.size f cd) (.ref e)) _ _ s2
 refine wpAny_leaves_onW mw rfl fl fun h' Kq up=>?_
 have hL:∀b o,s.heap.get? b=some o->b≠s.heap.objs.size:=fun b o q=>Nat.ne_of_lt (Heap.lt_size q)
 have nf:∀b o,s.heap.get? b=some o->b∉gU outer->b∉gU (envOfC qual scope s.heap.objs.size f cd::outer):=fun b o q hb hm=>by
  unfold gU at hm
  rw[List.filterMap_cons] at hm
  rcases List.mem_cons.mp hm with z | z
  ·exact hL b o q z
  ·exact hb z
 have nx:∀b:Addr,b∉([]:List Addr):=fun b z=>by simp at z
 refine⟨e,cls,H2,rfl,⟨x.os.trans I.os,x.bare,⟨B,a0,Kq,aX,fun b o q n hb=>?_,fun b o q hb=>?_⟩,fun b o q n hb=>?_,fun b o q n=>?_,fun b xs q=>x.fV b xs (I.base.fV b xs q),fun b o u q=>x.fL b o u (I.base.fL b o u q),fun b ps q=>?_⟩,q⟩
 ·exact k1 b o (I.base.keep b o q n hb (nx b)) (I.base.free b o q n (nx b)) (nf b o q hb)
 ·obtain⟨o1,q1⟩:=I.base.there b o q (nx b)
  exact k2 b o1 q1 (nf b o q hb)
 ·obtain⟨sl,q1⟩:=I.base.slot b o q n hb (nx b)
  have hm:b∈gU (envOfC qual scope s.heap.objs.size f cd::outer):=by
   unfold gU
   rw[List.filterMap_cons]
   exact List.mem_cons_of_mem _ hb
  obtain⟨Ha,q2⟩:=x.slot b _ q1 (I.base.free b o q n (nx b)) hm
  obtain⟨_,o3,q3,BU⟩:=fl.2.2.1.mem hm
  rw[q2] at q3
  cases q3
  obtain⟨vh,q4⟩:=up b _ q2 BU
  exact⟨vh,q4⟩
 ·obtain⟨o1,q1⟩:=I.base.there b o q (nx b)
  exact x.free b o1 q1 (I.base.free b o q n (nx b))
 ·obtain⟨m1,e1⟩:=I.base.fW b ps q
  obtain⟨m2,e2⟩:=x.fW b _ e1
  exact⟨m1++m2,by rw[e2,Array.append_assoc]⟩
structure C2 (K:Fg) (mg:Str->Option Value) (x:Str) (C:Addr):Prop where
 name:mg x=some (.ref C)
 exc:PySem.W.excIn K C [.type "ValueError",.type "Exception",.type "BaseException",.type "object"] "ValueError.__new__" = true
theorem C2.own {K:Fg} {mg:Str->Option Value} {x:Str} {C:Addr} {h:Heap} (X:C2 K mg x C) (KX:K.In h):OwnCls x C [.type "ValueError",.type "Exception",.type "BaseException",.type "object"] "ValueError.__new__" mg h:=by
 have q:=X.exc
 refine⟨X.name,?_⟩
 unfold PySem.W.excIn at q
 split at q
 ·rename_i dd cd sl ho
  split at q
  ·rename_i C' bm k0 k1 k2 k3 n k5 hm hs
   simp only[Bool.and_eq_true,beq_iff_eq,Bool.not_eq_true'] at q
   obtain⟨⟨⟨⟨⟨rfl,rfl⟩,El⟩,ht⟩,aX⟩,FR⟩:=q
   obtain⟨nm,bs,mro,ns,qn,hd,sn,sub,ab,col,del⟩:=cd
   dsimp only at hm El aX FR
   subst hm El
   have Kr:sl=#[k0,k1,k2,k3,some (.builtin "ValueError.__new__"),k5]:=by
    obtain⟨l⟩:=sl
    simp only at hs
    rw[hs]
   subst Kr
   exact⟨bm,ns,nm,qn,bs,hd,sn,sub,ab,col,dd,k0,k1,k2,k3,k5,_,KX _ _ ho,.of_isNs (PySem.W.isNs_of_in KX aX),PySem.W.nsMap_none_of_in KX aX FR,PySem.W.tail_of_in KX ht⟩
  ·cases q
 ·cases q
noncomputable def BV (C:Addr) (E:XK) (ta:TA):TS:=fun D σ H=>ta σ H fun vs H1=>vs.length≤sizeLine/\E (.ref C) none H1
theorem pf {P:Program} {w:World} {K:Fg} {mg:Str->Option Value} {base:Heap} {N:List Str} {qual:Str} {scope:Scope} {f:Addr} {cd:Value} {A:Around} {outer:List Env} {s:Shared} {H:Hp} {E:XK}
  {x:Str} {C:Addr} {np bC pos:Pos} {e₀:Expr} {rest:List Expr} {ta:TA} (M:C2 K mg x C) (hh:(A.deeper (envOfC qual scope s.heap.objs.size f cd)).handled=none)
  (hg:Gl (ee (iF P w) P w K mg base N qual scope f cd A outer s H E) x) (ha:PA (ee (iF P w) P w K mg base N qual scope f cd A outer s H E) (e₀::rest) ta)
  (hd:(x == ("__debug__" : Str))=false:=by decide)
  (he:starEach (e₀::rest) (envOfC qual scope s.heap.objs.size f cd)=(false,eval e₀ (envOfC qual scope s.heap.objs.size f cd))::starEach rest (envOfC qual scope s.heap.objs.size f cd):=by rfl)
  (gX:(backTo bC (starEach rest (envOfC qual scope s.heap.objs.size f cd))).any (·.1)=false:=by rfl) :
  PS (ee (iF P w) P w K mg base N qual scope f cd A outer s H E) (.Raise (some (.Call (.Name x np) (e₀::rest) [] bC)) none pos) (BV C E ta):=by
 intro pins s1 σ H1 D I h
 have O:=M.own I.rT
 obtain⟨tl,Nn,nm,q,bs,hdct,sn,sub,ab,col,dd,k0,k1,k2,k3,k5,mN,hC,hN,FR,T⟩:=(M.own (I.ok.mod.Dl)).obj
 have FB:=PySem.F.excBase_ValueError
 have lC:(backTo bC (starEach (e₀::rest) (envOfC qual scope s.heap.objs.size f cd))).any (·.1)=false:=by
  rw[he]; show(false || (backTo bC (starEach rest (envOfC qual scope s.heap.objs.size f cd))).any (·.1))=false; rw[gX]; rfl
 refine wpAny_Raise_call_subT (C:=C) (nm:=nm) (q:=q) (N:=Nn) (bs:=bs) (bm:=tl) (hdct:=hdct) (sn:=sn) (sub:=sub) (ab:=ab) (col:=col) (dd:=dd) (k0:=k0) (k1:=k1) (k2:=k2) (k3:=k3) (k5:=k5)
  FB (mN:=mN) (T.hasType FB.hasBase) hh lC FR (k4 I hg M.name ⟨rfl,?_⟩ hd)
 have hA:=ha bC pins s1 σ H1 _ I h
 have L4:=hA
 show wpAny (model P w) (A.deeper (envOfC qual scope s.heap.objs.size f cd)) (evalArgs (.ref C) true (backTo bC (starEach (e₀::rest) (envOfC qual scope s.heap.objs.size f cd))) []) _ _ s1
 have Em:wpAny (model P w) (A.deeper (envOfC qual scope s.heap.objs.size f cd)) (spliced (backTo bC (starEach (e₀::rest) (envOfC qual scope s.heap.objs.size f cd)))) (AP (ee (iF P w) P w K mg base N qual scope f cd A outer s H E) pins σ _) _ s1:=hA
 rw[he] at Em ⊢
 refine Calls.evalArgs_plain (wpAny_mono Em (fun us s2 ⟨vs,H2,I2,r2,hlen,q2⟩=>?_) fun _ _ y=>y)
 refine⟨rfl,by rw[← r2.length]; exact hlen,I2.bk _ _ hC,hN.keeps I2.bk,T.keeps I2.bk,fun h' e mk=>?_⟩
 have L0:s.heap.objs.size<s2.heap.objs.size:=I2.lt
 have mw:(A.deeper (envOfC qual scope s.heap.objs.size f cd)).frames=some (envOfC qual scope s.heap.objs.size f cd::outer):=I2.ok.frames
 have FF:s2.heap.FunFrames base (envOfC qual scope s.heap.objs.size f cd::outer):=I2.stack
 have vg:∀env∈(envOfC qual scope s.heap.objs.size f cd::outer),∀b,env.frame=some b->b∈gU (envOfC qual scope s.heap.objs.size f cd::outer):=fun env he b hb=>List.mem_filterMap.mpr ⟨env,he,hb⟩
 show wpAny (model P w) (A.deeper (envOfC qual scope s.heap.objs.size f cd)) (leaving (envOfC qual scope s.heap.objs.size f cd) (.ref e)) _ _ { s2 with heap:=h' }
 refine wpAny_leaves_madeW (base:=PySem.W.hideAll s2.heap (gU (envOfC qual scope s.heap.objs.size f cd::outer))) mw rfl (fun b o q=>PySem.W.of_hideAll _ q) (PySem.W.funFrames_hide FF vg) mk fun h2 t x1 x2 x3 x4=>?_
 have nx:∀b:Addr,b∉([]:List Addr):=fun b z=>by simp at z
 have hL:∀b o,s.heap.get? b=some o->b≠s.heap.objs.size:=fun b o q=>Nat.ne_of_lt (Heap.lt_size q)
 have nf:∀b o,s.heap.get? b=some o->b∉gU outer->b∉gU (envOfC qual scope s.heap.objs.size f cd::outer):=fun b o q hb hm=>by
  unfold gU at hm
  rw[List.filterMap_cons] at hm
  rcases List.mem_cons.mp hm with z | z
  ·exact hL b o q z
  ·exact hb z
 have BW:∀b o,H2 b=some o->b∉gU (envOfC qual scope s.heap.objs.size f cd::outer):=fun b o q hm=>by
  have:=I2.nG b hm
  rw[q] at this
  cases this
 have Ks:∀b y,H2 b=some (.own y)->b∉gU (envOfC qual scope s.heap.objs.size f cd::outer):=fun b y q=>BW b _ q
 refine⟨e,.ref C,H2,rfl,⟨I2.os,I2.bare,⟨_,.ref t,x1,fun b o q=>?_,fun b o q n hb=>?_,fun b o q hb=>?_⟩,fun b o q n hb=>?_,fun b o q n=>I2.base.free b o q n (nx b),I2.base.fV,I2.base.fL,I2.base.fW⟩,q2⟩
 ·refine(I2.aX b o q).my (fun c v hc z=>PySem.W.hideAll_get _ z ?_) (fun _ z=>z) fun _ _ z=>z
  rcases hc with rfl | hc
  ·exact BW _ _ q
  ·exact BW _ _ hc
 ·exact PySem.W.hideAll_get _ (I2.base.keep b o q n hb (nx b)) (nf b o q hb)
 ·obtain⟨o',q'⟩:=I2.base.there b o q (nx b)
  exact⟨o',PySem.W.hideAll_get _ q' (nf b o q hb)⟩
 ·obtain⟨sl,q1⟩:=I2.base.slot b o q n hb (nx b)
  have hm:b∈gU (envOfC qual scope s.heap.objs.size f cd::outer):=by
   unfold gU
   rw[List.filterMap_cons]
   exact List.mem_cons_of_mem _ hb
  obtain⟨_,o3,q3,BU⟩:=FF.mem hm
  rw[q1] at q3
  cases q3
  obtain⟨vh,q4⟩:=x4 b _ (mk.keeps _ _ q1) BU
  exact⟨vh,q4⟩
end L2
end
section
namespace L2
open PySem PySem.Spec PyProof.Rows
noncomputable def nO (e C:Addr):HO:=.ext fun h=>∃ob vs,h.get? e=some ob/\ob.cls=.ref C/\ob.data=.fields vs
noncomputable abbrev Cx.tr (X:Cx) (pn:List (Addr×Obj)) (E:Value->Shared->Prop):Cx:={ X with pn:=pn,xe:=E }
noncomputable def k7 (CX:qt) (X:Cx) (Ex:St->XK):Prop:=∀(pins:List (Addr×Obj)) (σ:St) (H:Hp) (s:Shared) (e:Value) (s':Shared),Inv X pins σ H s->CX X.stack H s (Ex σ) e s'->X.xe e s'
noncomputable def BX (sp:Sp) (yz:List V) (Ex:St->XK) (t:TA):TE:=fun σ H Q=>t σ H fun vs H1=>sp (vs++yz) H1 Q (Ex σ)
section
variable {X:Cx} {CX:qt} {k:Nat} {f C:Addr} {fd:FuncData} {ps:List Str} {sp:Sp} {yz:List V} {ds:List Value} {Ex:St->XK} {x m:Str} {p pos apos:Pos} {e o:Expr} {es:List Expr} {ta:TE} {t:TA}
theorem yS {pins:List (Addr×Obj)} {σ:St} {H:Hp} {s:Shared} {Q:VK} {us:List Value} {vs:List V} (F:fX X.prog X.w X.K X.mg X.base CX k f fd ps sp) (hr:df k X.A) (hb:Binds X.K fd ps ds) (hd:Vals yz ds) (hx:k7 CX X Ex)
  (I:Inv X pins σ H s) (r:Vals vs us) (h:sp (vs++yz) H Q (Ex σ)):wpAny (model X.prog X.w) X.A (call (.ref f) us) (EP X pins σ Q) X.xe s:=by
 have r2:Vals (vs++yz) (us++ds):=r.append hd
 have hl:(us++ds).length=ps.length:=by rw[← r2.length]; exact F.len _ _ _ _ h
 refine wpAny_call (codeAny_mono (F.run X.A X.stack s H ⟨us,[]⟩ (us++ds) (vs++yz) Q (Ex σ) hr I.DX (hb s us I.rT hl) r2 h) fun r s' hq=>?_)
 cases r with
 | error e=>exact hx pins σ H s e s' I hq
 | ok fl =>
  cases fl with
  | ret u=>exact I.after hq
  | next=>exact False.elim hq
  | brk=>exact False.elim hq
  | cont=>exact False.elim hq
theorem v7 (F:fX X.prog X.w X.K X.mg X.base CX k f fd ps sp) (hr:df k X.A) (hg:Gl X x) (hm:X.mg x=some (.ref f)) (hk:PySem.W.keepIn X.K (.ref f)=true) (hb:Binds X.K fd ps ds) (hd:Vals yz ds) (hx:k7 CX X Ex)
  (ha:PA X (e::es) t) (ue:(x == ("__debug__" : Str))=false:=by decide) (he:starEach (e::es) X.env=(false,eval e X.env)::starEach es X.env:=by rfl) (gX:(backTo pos (starEach es X.env)).any (·.1)=false:=by rfl) :
  PE X (.Call (.Name x p) (e::es) [] pos) (BX sp yz Ex t):=by
 intro pins s σ H Q I h
 refine wpAny_Call_Name_kw (k4 I hg hm ?_ ue)
 refine PySem.W.callWith_K (h₀:=X.base) I.ok.mod.Dl hk (cu (ha pos pins s σ H _ I h) fun us s1 ⟨vs,H1,I1,r,q⟩=>⟨I1.rT,?_⟩) he gX
 exact yS F hr hb hd hx I1 r q
end
theorem XS.next {P:Program} {w:World} {outer:List Env} {H H':Hp} {s s':Shared} {e:Addr} {cls a0:Value} {B h':Heap} (x:XS P w outer H s e cls H' s')
  (f:Heap.FlyingW B outer e cls a0 s'.heap) (aX:gK P w H' B) (k1:∀b o,s.heap.get? b=some o->H b=none->b∉gU outer->B.get? b=some o) (k2:∀b o,s.heap.get? b=some o->b∉gU outer->∃o',B.get? b=some o')
  (f':Heap.FlyingW B outer e cls a0 h') (up:s'.heap.UpToSlots h'):XS P w outer H s e cls H' { s' with heap:=h' }:=by
 refine⟨x.os,x.bare,⟨B,a0,f',aX,k1,k2⟩,fun b o q n hb=>?_,x.free,x.fV,x.fL,x.fW⟩
 obtain⟨sl,q1⟩:=x.slot b o q n hb
 obtain⟨_,o3,q3,BU⟩:=f.2.2.1.mem hb
 rw[q1] at q3
 cases q3
 obtain⟨vh,q4⟩:=up b _ q1 BU
 exact⟨vh,q4⟩
theorem XS.v9 {X:Cx} {pins:List (Addr×Obj)} {σ:St} {H H':Hp} {s s':Shared} {e C:Addr} (I:Inv X pins σ H s) (x:XS X.prog X.w X.stack H s e (.ref C) H' s') (qz:X.stack=X.env::X.outer) (hdct:∃ob vs,s'.heap.get? e=some ob/\ob.cls=.ref C/\ob.data=.fields vs) :
  H' e=none/\Inv X pins σ (upd H' e (nO e C)) s':=by
 obtain⟨B,a0,f,aX,k1,k2⟩:=id x.Ek
 have IZ:B.get? e=none:=f.2.1
 have Eo:H' e=none:=by
  cases q:H' e with
  | none=>rfl
  | some u =>
   have h1:=aX.lt q
   have:∃o,B.get? e=some o:=by
    have z:=aX e u q
    cases u with
    | lst xs=>obtain⟨_,_,_,_,z⟩:=z; exact⟨_,z⟩
    | tup xs=>obtain⟨_,_,_,o,z,_⟩:=z; exact⟨_,z⟩
    | dK aw=>obtain⟨_,_,_,_,o,_,_,z,_⟩:=z; exact⟨_,z⟩
    | dT aw=>obtain⟨_,_,_,_,o,_,_,z,_⟩:=z; exact⟨_,z⟩
    | set S n=>obtain⟨o,_,_,_,z,_⟩:=z; exact⟨_,z⟩
    | ins C dx fs=>obtain⟨_,_,_,z,_⟩:=z; exact⟨_,z⟩
    | own y=>obtain⟨_,z⟩:=z; exact⟨_,z⟩
    | xd fs=>obtain⟨_,⟨_,_,_,z,_⟩,_⟩:=z; exact⟨_,z⟩
    | oZ lo hi=>obtain⟨_,_,_,z⟩:=z; exact⟨_,z⟩
    | oS ob u=>obtain⟨z,_⟩:=z; exact⟨_,z⟩
    | iR ps=>exact⟨_,(show B.get? e=some _ from z)⟩
    | met f y=>exact⟨_,(show B.get? e=some _ from z)⟩
    | ext φ=>obtain⟨_,⟨_,z⟩,_⟩:=z; exact⟨_,z⟩
   obtain⟨o,z⟩:=this
   rw[IZ] at z
   cases z
 obtain⟨ob,vs,he,hc,hd⟩:=hdct
 have Kt:e∉gU X.stack:=fun hm=>by
  obtain⟨_,o3,q3,BU⟩:=f.2.2.1.mem hm
  rw[he] at q3
  cases q3
  exact BU vs hd
 have new:∀b o,s.heap.get? b=some o->b≠e:=fun b o q z=>by
  subst z
  obtain⟨o',q'⟩:=k2 b o q Kt
  rw[IZ] at q'
  cases q'
 have Aj:∀b o,H b=some o->b≠e:=fun b o q=>by
  have eL:∃o',s.heap.get? b=some o':=by
   have z:=I.aX b o q
   cases o with
   | lst xs=>obtain⟨_,_,_,_,z⟩:=z; exact⟨_,z⟩
   | tup xs=>obtain⟨_,_,_,o,z,_⟩:=z; exact⟨_,z⟩
   | dK aw=>obtain⟨_,_,_,_,o,_,_,z,_⟩:=z; exact⟨_,z⟩
   | dT aw=>obtain⟨_,_,_,_,o,_,_,z,_⟩:=z; exact⟨_,z⟩
   | set S n=>obtain⟨o,_,_,_,z,_⟩:=z; exact⟨_,z⟩
   | ins C dx fs=>obtain⟨_,_,_,z,_⟩:=z; exact⟨_,z⟩
   | own y=>obtain⟨_,z⟩:=z; exact⟨_,z⟩
   | xd fs=>obtain⟨_,⟨_,_,_,z,_⟩,_⟩:=z; exact⟨_,z⟩
   | oZ lo hi=>obtain⟨_,_,_,z⟩:=z; exact⟨_,z⟩
   | oS ob u=>obtain⟨z,_⟩:=z; exact⟨_,z⟩
   | iR ps=>exact⟨_,(show s.heap.get? b=some _ from z)⟩
   | met f y=>exact⟨_,(show s.heap.get? b=some _ from z)⟩
   | ext φ=>obtain⟨_,⟨_,z⟩,_⟩:=z; exact⟨_,z⟩
  obtain⟨o',z⟩:=eL
  exact new b o' z
 have u:=x.un
 refine⟨Eo,I.Am (ch:=[]) x.os ⟨u.keep,u.slot,fun b o q n z=>?_,u.there,fun b xs q=>?_,fun b o v q=>?_,fun b ps q=>?_⟩ (fun b o q=>?_) x.bare (fun b z=>absurd z (by simp))⟩
 ·rw[av (new b o q)]; exact u.free b o q n z
 ·rw[av (Aj b _ q)]; exact u.fV b xs q
 ·rw[av (Aj b _ q)]; exact u.fL b o v q
 ·obtain⟨m,q'⟩:=u.fW b ps q
  exact⟨m,by rw[av (Aj b _ q)]; exact q'⟩
 ·have BQ:=x.aX
  by_cases hb:b=e
  ·subst hb
   rw[aF] at q
   cases q
   refine⟨⟨ob,vs,he,hc,hd⟩,⟨ob,he⟩,fun h1 h2 p k=>?_⟩
   obtain⟨Ku,Ja,z1,z2,z3⟩:=p
   exact⟨Ku,Ja,k _ z1,z2,z3⟩
  ·rw[av hb] at q
   refine(BQ b o q).my (fun _ _ _ z=>z) (fun c z=>?_) fun c xs z=>?_
   ·rw[av (fun zz=>by rw[zz,Eo] at z; cases z)]; exact z
   ·rw[av (fun zz=>by rw[zz,Eo] at z; cases z)]; exact z
noncomputable def Aw (K:Fg) (Cb:Addr) (iy iN:Nat) (nx:St->Hp->Prop):St->XK:=fun σ cls _ H'=>∃C,cls=.ref C/\PySem.W.exmOne K (.ref C) (.ref Cb)=some true ∧
 ∀e,H' e=none->nx ((σ.set iy (some (.ref e))).set iN none) (upd H' e (nO e C))
section
variable {X:Cx}
theorem BY {x n y:Str} {Cb:Addr} {iy iN:Nat} {body:List Stmt} {np py C3 apos uq pos:Pos} {tb:(St->XK)->TS} {P:Program} {w:World} (eP:X.prog=P) (eW:X.w=w)
  (qz:X.stack=X.env::X.outer) (mw:X.env.frame=some X.env.locals) (nc:X.calm=true) (hN:X.N.Nodup)
  (hx:Gl X x) (hm:X.mg x=some (.ref Cb)) (hy:X.N[iy]? = some y) (ly:X.env.scope.names.lookup y=some .local) (hn:X.N[iN]? = some n) (ln:X.env.scope.names.lookup n=some .local)
  (hb:∀(pn:List (Addr×Obj)) (Et:Value->Shared->Prop) (Ex:St->XK),k7 (iF P w) (X.tr pn Et) Ex->qx (X.tr pn Et) body (tb Ex))
  (wa:swapsWith (.Name n C3) (some (.Name y py)) apos.line X.env=pure false:=by rfl) (Ep:(x == ("__debug__" : Str))=false:=by decide) (Hr:(n == ("__debug__" : Str))=false:=by decide) :
  PS X (.Try body [.ExceptHandler (some (.Name x np)) (some n) [.Assign [.Name y py] (.Name n C3) apos] uq] [] [] pos) (fun D σ H=>tb (Aw X.K Cb iy iN D.nx) D σ H):=by
 subst eP eW
 intro pins s σ H D I h
 refine wpAny_Try_except ?_
 have rY:=I.ok.kind
 have I0:Inv (X.tr (X.pn++pins) (fun e s₁=>wpAny (model X.prog X.w) X.A (noteFrame e X.env) (fun _ s₂=>wpAny (model X.prog X.w) X.A (setFlight e none) (fun _ s₃=>wpAny (model X.prog X.w) X.A (handleBy e X.env [.ExceptHandler (some (.Name x np)) (some n) [.Assign [.Name y py] (.Name n C3) apos] uq]) (SP X pins D) X.xe s₃) X.xe s₂) X.xe s₁)) [] σ H s :=
  ⟨⟨I.ok.mod,I.ok.kind,I.ok.glob,I.ok.blt,I.ok.above,I.ok.inj,I.ok.has,I.ok.Dm,I.ok.hd,I.ok.frames,I.ok.Fz,I.ok.IH,I.ok.bs,I.ok.xS,I.ok.vy,I.ok.ye,I.ok.kJ,I.ok.AZ⟩,I.os,I.bare,I.base,I.loc,I.cell,I.free,I.gL,fun p hp=>I.pin p (by simpa using hp),I.aX,I.len⟩
 have back:∀{mT:List (Addr×Obj)} {σ':St} {H':Hp} {s':Shared} {Et:Value->Shared->Prop},Inv (X.tr (X.pn++pins) Et) mT σ' H' s'->Inv X pins σ' H' s':=fun {mT σ' H' s' Et} J =>
  ⟨⟨J.ok.mod,J.ok.kind,J.ok.glob,J.ok.blt,J.ok.above,J.ok.inj,J.ok.has,J.ok.Dm,J.ok.hd,J.ok.frames,J.ok.Fz,J.ok.IH,J.ok.bs,J.ok.xS,J.ok.vy,J.ok.ye,J.ok.kJ,J.ok.AZ⟩,J.os,J.bare,J.base,J.loc,J.cell,J.free,J.gL,fun p hp=>J.pin p (List.mem_append_left _ hp),J.aX,J.len⟩
 refine wpAny_mono (hb (X.pn++pins) _ (Aw X.K Cb iy iN D.nx) ?_ [] s σ H D I0 h) (fun f s1 q=>?_) fun _ _ z=>z
 ·
  intro mT σ1 H1 s1 ev s2 J1 q
  obtain⟨e,cls,H2,rfl,x2,C,rfl,hex,qn⟩:=q
  have J1:=back J1
  obtain⟨B,a0,fl,aX,k1,k2⟩:=id x2.Ek
  have Jc:X.A.frames=some (X.env::X.outer):=by rw[J1.ok.frames,qz]
  rw[show(X.tr (X.pn++pins) _).stack=X.env::X.outer from qz] at fl k1 k2 x2
  show wpAny (model X.prog X.w) X.A (noteFrame (.ref e) X.env) _ _ s2
  refine wpAny_looks_onW Jc mw fl fun h3 held Kv=>?_
  refine wpAny_landsW held fun h4 FT Kw=>?_
  have x4:=x2.next fl aX k1 k2 FT (Kv.trans Kw)
  have Kx:XS X.prog X.w X.stack H1 s1 e (.ref C) H2 { s2 with heap:=h4 }:=by rw[qz]; exact x4
  obtain⟨oe,vs,he,hc,hd,_⟩:=FT.first
  obtain⟨_,J4⟩:=XS.v9 J1 Kx qz ⟨oe,vs,he,hc,hd⟩
  refine wpAny_handleBy_cons (codeAny_handlers_test (Calls.Name_function_global J4.ok.kind hx (Calls.loadGlobal_global (by rw[J4.ok.glob]; exact J4.mod.glob.keeps J4.bk) hm ?_) Ep)) (by intro q; cases q)
  have LT:PySem.W.Looks (model X.prog X.w) h4 (typeOf (.ref e)) (.ref C):=by
   rw[← hc]
   exact(PySem.W.Looks.ld he).andThen .now
  refine PySem.W.Looks.here (PySem.W.exm_one J4.rT LT hex) ?_
  rw[if_pos rfl]
  refine codeAny_handlers_suite_as ?_
  refine lands_againW FT fun h5 Jd Ky=>?_
  have x5:=x4.next FT aX k1 k2 Jd Ky
  have Kz:XS X.prog X.w X.stack H1 s1 e (.ref C) H2 { s2 with heap:=h5 }:=by rw[qz]; exact x5
  obtain⟨KA,KB,KC,FU,KD,_⟩:=Jd.first
  obtain⟨Eo,J5⟩:=XS.v9 J1 Kz qz ⟨KA,KB,KC,FU,KD⟩
  refine i6 J5 hN hn (.inl ln) (v:=.ref e) rfl (fun s6 J6=>?_) (.inr ln)
  refine wpAny_execs_cons (wpAny_Assign_Name ?_ wa)
  obtain⟨m6,KG,KH⟩:=J6.loc
  have hlen:iN < σ1.length:=by rw[J1.len]; exact(List.getElem?_eq_some_iff.mp hn).1
  obtain⟨u6,KI,KJ⟩:=KH iN n (.ref e) hn (by rw[List.getElem?_set_self hlen]) (.inl ln)
  cases KI
  have KL:m6 n=some (.ref e):=by
   rcases KJ with⟨_,z⟩ | ⟨k,_⟩
   ·exact z
   ·have KM:X.env.kindOf n=some .local := ln
    rcases k with k | k<;>(rw[KM] at k; cases k)
  refine wpAny_Name (wpAny_loadName_local rY ln KG KL ?_) Hr
  refine i6 J6 hN hy (.inl ly) (v:=.ref e) rfl (fun s7 J7=>?_) (.inr ly)
  refine wpAny_execs_nil ?_
  obtain⟨m7,Je,L5⟩:=id J7.loc
  refine wpAny_nameGoes_keeps ln Je (by rw[rY]; rfl) fun h8 v8 KN BZ=>?_
  have J8:Inv X pins ((σ1.set iy (some (.ref e))).set iN none) (upd H2 e (nO e C)) { s7 with heap:=h8,toks:=s7.toks+1 }:=by
   have K7:=J7.weak (σ':=(σ1.set iy (some (.ref e))).set iN none) (by simp) (fun i v hv=>by
    by_cases hi:i=iN
    ·subst hi
     rw[List.getElem?_set_self (by simpa using hlen)] at hv
     cases hv
    ·rw[List.getElem?_set_ne (Ne.symm hi)] at hv
     by_cases wb:i=iy
     ·subst wb
      have l2:i < σ1.length:=by rw[J1.len]; exact(List.getElem?_eq_some_iff.mp hy).1
      rw[List.getElem?_set_self l2] at hv
      rw[List.getElem?_set_self (by simpa using l2)]
      exact hv
     ·rw[List.getElem?_set_ne (Ne.symm wb)] at hv
      rw[List.getElem?_set_ne (Ne.symm wb),List.getElem?_set_ne (Ne.symm hi)]
      exact hv)
   obtain⟨m,KO,KP⟩:=id K7.loc
   have em:m=m7:=by
    obtain⟨o1,vi,L6,KQ,Jf,_,f1⟩:=id KO
    obtain⟨o2,L7,L8,BC,BD,_,f2⟩:=id Je
    rw[KQ] at BC
    cases BC
    rw[Jf] at BD
    injection BD with BD _
    subst BD
    funext z
    rw[← f1 z,← f2 z]
   subst em
   have tracked:gK X.prog X.w (upd H2 e (nO e C)) h8:=K7.aX.but K7.free BZ
   refine⟨K7.ok,K7.os,K7.bare,⟨fun b o q n hb hx=>?_,fun b o q n hb hx=>?_,K7.base.free,fun b o q hx=>?_,K7.base.fV,K7.base.fL,K7.base.fW⟩,⟨_,KN,fun j z v e1 e2 e3=>?_⟩,fun z c q=>?_,K7.free,K7.gL,fun p hp=>?_,tracked,K7.len⟩
   ·exact(BZ.2 b (Nat.ne_of_lt (Nat.lt_of_lt_of_le (Heap.lt_size q) K7.ok.above))).trans (K7.base.keep b o q n hb hx)
   ·obtain⟨sl,q1⟩:=K7.base.slot b o q n hb hx
    exact⟨sl,(BZ.2 b (Nat.ne_of_lt (Nat.lt_of_lt_of_le (Heap.lt_size q) K7.ok.above))).trans q1⟩
   ·obtain⟨o',q1⟩:=K7.base.there b o q hx
    exact⟨o',(BZ.2 b (Nat.ne_of_lt (Nat.lt_of_lt_of_le (Heap.lt_size q) K7.ok.above))).trans q1⟩
   ·obtain⟨u,ru,lk⟩:=KP j z v e1 e2 e3
    refine⟨u,ru,?_⟩
    rcases lk with⟨kk,mz⟩ | ⟨kk,c,mB,kl⟩
    ·refine .inl ⟨kk,?_⟩
     have hz:z≠n:=fun ez=>by
      subst ez
      have:=lj hN e1 hn
      subst this
      rw[List.getElem?_set_self (by simpa using hlen)] at e2
      cases e2
     show(if z=n then v8 else m z)=some u
     rw[if_neg hz]
     exact mz
    ·exact .inr ⟨kk,c,mB,kl.sameBut BZ (K7.yf z c mB)⟩
   ·obtain⟨v,kl⟩:=K7.cell z c q
    exact⟨v,kl.sameBut BZ (K7.yf z c q)⟩
   ·obtain⟨q1,q2,q3,q4,q5⟩:=K7.pin p hp
    exact⟨(BZ.2 p.1 q3).trans q1,q2,q3,q4,q5⟩
  exact⟨_,_,J8,qn e Eo⟩
 ·cases f with
  | next =>
   obtain⟨σ',H',J,qq⟩:=q
   exact wpAny_execs_nil ⟨σ',H',back J,qq⟩
  | brk=>obtain⟨σ',H',J,qq⟩:=q; exact⟨σ',H',back J,qq⟩
  | cont=>obtain⟨σ',H',J,qq⟩:=q; exact⟨σ',H',back J,qq⟩
  | ret v=>obtain⟨v',σ',H',J,r,qq⟩:=q; exact⟨v',σ',H',back J,r,qq⟩
end
end L2
end
section
namespace L2
open PySem PySem.Spec PyProof.Rows
inductive PV where
 | bb | bl (b:Bool) | int (i:Int) | str (x:Str) | lst (xs:List PV) | tup (xs:List PV) | obj (n:Nat)
 | dU (ns:List Int)
mutual
noncomputable def PV.er (n:Nat):PV->Bool
 | .lst xs=>PV.iG n xs
 | .tup xs=>PV.iG n xs
 | .obj m=>decide (m<n)
 | .bb=>true
 | .bl _=>true
 | .int _=>true
 | .str _=>true
 | .dU _=>true
noncomputable def PV.iG (n:Nat):List PV->Bool
 | []=>true
 | x::xs=>PV.er n x && PV.iG n xs
end
inductive MO where
 | gone
 | lst (xs:List PV)
 | iH (aw:List (Key×PV))
 | vj (aw:List (List Key×PV))
 | Ax (aw:List (Key×PV))
 | ins (C:Addr) (fs:List (Str×PV))
 | exc (C:Addr)
noncomputable abbrev aC:=List MO
noncomputable abbrev cI:=List (Option PV)
noncomputable abbrev lim:Nat:=16000000
theorem hG {n:Nat} (h:n≤lim):n≤sizeLine:=by rw[sizeLine_eq]; exact Nat.le_trans h (by decide)
theorem nP {n:Nat} (h:n<lim):n<sizeLine:=by rw[sizeLine_eq]; exact Nat.lt_of_lt_of_le h (by decide)
section
variable (K:Fg) (ι:List Addr) (S:Hp)
mutual
noncomputable def ar:PV->V->Prop
 | .bb,v=>v=.bb
 | .bl b,v=>v=.bl b
 | .int i,v=>v=.int i
 | .str x,v=>v=.str x
 | .lst xs,v=>∃a vs,v=.ref a/\S a=some (.lst vs)/\au xs vs
 | .tup xs,v=>∃a vs,v=.ref a/\S a=some (.tup vs)/\au xs vs
 | .obj n,v=>∃a,v=.ref a/\ι[n]? = some a
 | .dU ns,v=>∃a,v=.ref a/\iq K S a (ns.map V.int)
noncomputable def au:List PV->List V->Prop
 | [],vs=>vs=[]
 | x::xs,vs=>∃v r,vs=v::r/\ar x v/\au xs r
end
noncomputable def bX {κ:Type} (aw:List (κ×PV)) (eN:List (κ×V)):Prop:=Paired (fun(p:κ×PV) (q:κ×V)=>p.1=q.1/\ar K ι S p.2 q.2) aw eN
end
structure Up (ι:List Addr) (S:Hp) (ι':List Addr) (S':Hp):Prop where
 ix:∀(n:Nat) (a:Addr),ι[n]? = some a->ι'[n]? = some a
 sm:eh S S'
structure Ext (ι:List Addr) (S H:Hp) (ι':List Addr) (S' H':Hp):Prop extends Up ι S ι' S' where
 pre:ι'.take ι.length=ι
 fr:∀b u,H b=some u->b∉ι->S b=none->H' b=some u/\b∉ι'/\S' b=none
theorem Ext.refl {ι:List Addr} {S H:Hp}:Ext ι S H ι S H:=⟨⟨fun _ _ h=>h,eh.refl S⟩,List.take_length,fun _ _ h1 h2 h3=>⟨h1,h2,h3⟩⟩
theorem Ext.trans {ι ι1 ι2:List Addr} {S S1 S2 H H1 H2:Hp} (a:Ext ι S H ι1 S1 H1) (b:Ext ι1 S1 H1 ι2 S2 H2):Ext ι S H ι2 S2 H2 :=
 ⟨⟨fun n x h=>b.ix n x (a.ix n x h),a.sm.trans b.sm⟩,by
  have h1:=a.pre
  have h2:=b.pre
  have hl:ι.length≤ι1.length:=by rw[← h1]; simp; omega
  rw[← h2,List.take_take,Nat.min_eq_left hl] at h1
  exact h1,fun c u h1 h2 h3=>by
  obtain⟨k1,k2,k3⟩:=a.fr c u h1 h2 h3
  exact b.fr c u k1 k2 k3⟩
theorem Up.push {ι:List Addr} {S:Hp} (a:Addr):Up ι S (ι++[a]) S:=by
 refine⟨fun n x h=>?_,eh.refl S⟩
 have hl:n < ι.length:=(List.getElem?_eq_some_iff.mp h).1
 rw[List.getElem?_append_left hl]; exact h
theorem Rd.mono {S S':Hp} (h:eh S S') {a:Addr} {u:HO} (r:Rd S a u):Rd S' a u:=by
 rcases r with r | ⟨o,r⟩
 ·exact .inl (h _ _ r)
 ·exact .inr ⟨o,h _ _ r⟩
theorem iq.mono {K:Fg} {S S':Hp} (h:eh S S') {a:Addr} {vs:List V} (q:iq K S a vs):iq K S' a vs:=by
 rcases q with q | q
 ·exact .inl (q.mono h)
 ·exact .inr q
section
variable {K:Fg}
mutual
theorem ar.je {ι ι':List Addr} {S S':Hp} (hi:∀(n:Nat) (a:Addr),ι[n]? = some a->ι'[n]? = some a) (hs:eh S S'):∀(x:PV) (v:V),ar K ι S x v->ar K ι' S' x v
 | .bb,v,h=>by simpa[ar] using h
 | .bl b,v,h=>by simpa[ar] using h
 | .int i,v,h=>by simpa[ar] using h
 | .str x,v,h=>by simpa[ar] using h
 | .lst xs,v,h=>by
  rw[ar] at h ⊢
  obtain⟨a,vs,e,q,r⟩:=h
  exact⟨a,vs,e,hs _ _ q,au.je hi hs xs vs r⟩
 | .tup xs,v,h=>by
  rw[ar] at h ⊢
  obtain⟨a,vs,e,q,r⟩:=h
  exact⟨a,vs,e,hs _ _ q,au.je hi hs xs vs r⟩
 | .obj n,v,h=>by
  rw[ar] at h ⊢
  obtain⟨a,e,q⟩:=h
  exact⟨a,e,hi _ _ q⟩
 | .dU ns,v,h=>by
  rw[ar] at h ⊢
  obtain⟨a,e,q⟩:=h
  exact⟨a,e,q.mono hs⟩
theorem au.je {ι ι':List Addr} {S S':Hp} (hi:∀(n:Nat) (a:Addr),ι[n]? = some a->ι'[n]? = some a) (hs:eh S S'):∀(xs:List PV) (vs:List V),au K ι S xs vs->au K ι' S' xs vs
 | [],vs,h=>by simpa[au] using h
 | x::xs,vs,h=>by
  rw[au] at h ⊢
  obtain⟨v,r,e,h1,h2⟩:=h
  exact⟨v,r,e,ar.je hi hs x v h1,au.je hi hs xs r h2⟩
end
theorem ar.up {ι ι':List Addr} {S S':Hp} (e:Up ι S ι' S') {x:PV} {v:V} (h:ar K ι S x v):ar K ι' S' x v:=ar.je e.ix e.sm x v h
theorem ar.mono {ι ι':List Addr} {S S' H H':Hp} (e:Ext ι S H ι' S' H') {x:PV} {v:V} (h:ar K ι S x v):ar K ι' S' x v:=ar.je e.ix e.sm x v h
theorem au.up {ι ι':List Addr} {S S':Hp} (e:Up ι S ι' S') {xs:List PV} {vs:List V} (h:au K ι S xs vs):au K ι' S' xs vs:=au.je e.ix e.sm xs vs h
theorem au.mono {ι ι':List Addr} {S S' H H':Hp} (e:Ext ι S H ι' S' H') {xs:List PV} {vs:List V} (h:au K ι S xs vs):au K ι' S' xs vs:=au.je e.ix e.sm xs vs h
theorem bX.up {κ:Type} {ι ι':List Addr} {S S':Hp} (e:Up ι S ι' S') {aw:List (κ×PV)} {eN:List (κ×V)} (h:bX K ι S aw eN):bX K ι' S' aw eN :=
 Paired.yb h fun _ _ z=>⟨z.1,z.2.up e⟩
mutual
theorem ar.er {ι:List Addr} {S:Hp}:∀(x:PV) (v:V),ar K ι S x v->PV.er ι.length x=true
 | .bb,v,h=>rfl
 | .bl b,v,h=>rfl
 | .int i,v,h=>rfl
 | .str x,v,h=>rfl
 | .lst xs,v,h=>by
  rw[ar] at h
  obtain⟨a,vs,e,q,r⟩:=h
  rw[PV.er]; exact au.iG xs vs r
 | .tup xs,v,h=>by
  rw[ar] at h
  obtain⟨a,vs,e,q,r⟩:=h
  rw[PV.er]; exact au.iG xs vs r
 | .obj n,v,h=>by
  rw[ar] at h
  obtain⟨a,e,q⟩:=h
  rw[PV.er]
  exact decide_eq_true (List.getElem?_eq_some_iff.mp q).1
 | .dU ns,v,h=>rfl
theorem au.iG {ι:List Addr} {S:Hp}:∀(xs:List PV) (vs:List V),au K ι S xs vs->PV.iG ι.length xs=true
 | [],vs,h=>rfl
 | x::xs,vs,h=>by
  rw[au] at h
  obtain⟨v,r,e,h1,h2⟩:=h
  rw[PV.iG,ar.er x v h1,au.iG xs r h2]; rfl
end
mutual
theorem ar.cut {ι:List Addr} {S:Hp} {n:Nat}:∀(x:PV) (v:V),PV.er n x=true->ar K ι S x v->ar K (ι.take n) S x v
 | .bb,v,b,h=>by simpa[ar] using h
 | .bl _,v,b,h=>by simpa[ar] using h
 | .int i,v,b,h=>by simpa[ar] using h
 | .str x,v,b,h=>by simpa[ar] using h
 | .lst xs,v,b,h=>by
  rw[ar] at h ⊢
  rw[PV.er] at b
  obtain⟨a,vs,e,q,r⟩:=h
  exact⟨a,vs,e,q,au.cut xs vs b r⟩
 | .tup xs,v,b,h=>by
  rw[ar] at h ⊢
  rw[PV.er] at b
  obtain⟨a,vs,e,q,r⟩:=h
  exact⟨a,vs,e,q,au.cut xs vs b r⟩
 | .obj m,v,b,h=>by
  rw[ar] at h ⊢
  rw[PV.er] at b
  obtain⟨a,e,q⟩:=h
  exact⟨a,e,by rw[List.getElem?_take_of_lt (of_decide_eq_true b)]; exact q⟩
 | .dU ns,v,b,h=>by
  rw[ar] at h ⊢
  exact h
theorem au.cut {ι:List Addr} {S:Hp} {n:Nat}:∀(xs:List PV) (vs:List V),PV.iG n xs=true->au K ι S xs vs->au K (ι.take n) S xs vs
 | [],vs,b,h=>by simpa[au] using h
 | x::xs,vs,b,h=>by
  rw[au] at h ⊢
  rw[PV.iG,Bool.and_eq_true] at b
  obtain⟨v,r,e,h1,h2⟩:=h
  exact⟨v,r,e,ar.cut x v b.1 h1,au.cut xs r b.2 h2⟩
end
variable {ι:List Addr} {S:Hp}
theorem au.nil:au K ι S [] []:=by rw[au]
theorem au.cons {x:PV} {xs:List PV} {v:V} {vs:List V} (h:ar K ι S x v) (t:au K ι S xs vs):au K ι S (x::xs) (v::vs):=by
 rw[au]; exact⟨v,vs,rfl,h,t⟩
theorem au.dM {x:PV} {xs:List PV} {vs:List V} (h:au K ι S (x::xs) vs):∃v r,vs=v::r/\ar K ι S x v/\au K ι S xs r:=by
 rw[au] at h; exact h
theorem au.length:∀{xs:List PV} {vs:List V},au K ι S xs vs->xs.length=vs.length
 | [],vs,h=>by rw[au] at h; subst h; rfl
 | x::xs,vs,h=>by
  obtain⟨v,r,rfl,_,h2⟩:=h.dM
  simp[au.length h2]
theorem au.get:∀{xs:List PV} {vs:List V} {i:Nat} {x:PV},au K ι S xs vs->xs[i]? = some x->∃v,vs[i]? = some v/\ar K ι S x v
 | [],vs,i,x,h,e=>by simp at e
 | y::xs,vs,i,x,h,e=>by
  obtain⟨v,r,rfl,h1,h2⟩:=h.dM
  cases i with
  | zero=>simp at e; subst e; exact⟨v,rfl,h1⟩
  | succ i =>
   obtain⟨w,q1,q2⟩:=au.get (i:=i) h2 (by simpa using e)
   exact⟨w,by simpa using q1,q2⟩
theorem au.append:∀{xs ys:List PV} {vs ws:List V},au K ι S xs vs->au K ι S ys ws->au K ι S (xs++ys) (vs++ws)
 | [],ys,vs,ws,h,t=>by rw[au] at h; subst h; exact t
 | x::xs,ys,vs,ws,h,t=>by
  obtain⟨v,r,rfl,h1,h2⟩:=h.dM
  exact .cons h1 (au.append h2 t)
theorem au.one {x:PV} {v:V} (h:ar K ι S x v):au K ι S [x] [v]:=.cons h .nil
theorem au.set:∀{xs:List PV} {vs:List V} {x:PV} {v:V} (i:Nat),ar K ι S x v->au K ι S xs vs->au K ι S (xs.set i x) (vs.set i v)
 | [],vs,x,v,i,h,t=>by rw[au] at t; subst t; exact .nil
 | y::xs,vs,x,v,i,h,t=>by
  obtain⟨w,r,rfl,h1,h2⟩:=t.dM
  cases i with
  | zero=>exact .cons h h2
  | succ i=>exact .cons h1 (au.set i h h2)
theorem au.drop:∀{xs:List PV} {vs:List V} (n:Nat),au K ι S xs vs->au K ι S (xs.drop n) (vs.drop n)
 | xs,vs,0,h=>h
 | [],vs,n+1,h=>by rw[au] at h; subst h; exact .nil
 | x::xs,vs,n+1,h=>by
  obtain⟨v,r,rfl,h1,h2⟩:=h.dM
  exact au.drop n h2
theorem au.take:∀{xs:List PV} {vs:List V} (n:Nat),au K ι S xs vs->au K ι S (xs.take n) (vs.take n)
 | xs,vs,0,h=>by simp; exact .nil
 | [],vs,n+1,h=>by rw[au] at h; subst h; exact .nil
 | x::xs,vs,n+1,h=>by
  obtain⟨v,r,rfl,h1,h2⟩:=h.dM
  exact .cons h1 (au.take n h2)
theorem au.rep {xs:List PV} {vs:List V} (h:au K ι S xs vs):∀k:Nat,au K ι S (List.replicate k xs).flatten (List.replicate k vs).flatten
 | 0=>.nil
 | k+1=>by
  rw[List.replicate_succ,List.replicate_succ,List.flatten_cons,List.flatten_cons]
  exact h.append (au.rep h k)
theorem bX.length {κ:Type} {aw:List (κ×PV)} {eN:List (κ×V)} (h:bX K ι S aw eN):aw.length=eN.length:=Paired.length h
theorem ar.eY {v:V}:ar K ι S .bb v↔v=.bb:=by rw[ar]
theorem ar.bf {b:Bool} {v:V}:ar K ι S (.bl b) v↔v=.bl b:=by rw[ar]
theorem ar.az {i:Int} {v:V}:ar K ι S (.int i) v↔v=.int i:=by rw[ar]
theorem ar.jf {x:Str} {v:V}:ar K ι S (.str x) v↔v=.str x:=by rw[ar]
theorem ar.eZ {xs:List PV} {v:V}:ar K ι S (.lst xs) v↔∃a vs,v=.ref a/\S a=some (.lst vs)/\au K ι S xs vs:=by rw[ar]
theorem ar.bA {xs:List PV} {v:V}:ar K ι S (.tup xs) v↔∃a vs,v=.ref a/\S a=some (.tup vs)/\au K ι S xs vs:=by rw[ar]
theorem ar.jg {ns:List Int} {v:V}:ar K ι S (.dU ns) v↔∃a,v=.ref a/\iq K S a (ns.map V.int):=by rw[ar]
theorem ar.bh {n:Nat} {v:V}:ar K ι S (.obj n) v↔∃a,v=.ref a/\ι[n]? = some a:=by rw[ar]
end
theorem ng {α:Type}:∀{l:List α},l.Nodup->∀{n m:Nat} (h1:n<l.length) (h2:m<l.length),l[n]=l[m]->n=m
 | [],_,n,m,h1,h2,e=>by simp at h1
 | x::l,nd,n,m,h1,h2,e=>by
  rw[List.nodup_cons] at nd
  cases n with
  | zero =>
   cases m with
   | zero=>rfl
   | succ m =>
    simp only[List.getElem_cons_zero,List.getElem_cons_succ] at e
    exact absurd (e ▸ List.getElem_mem _) nd.1
  | succ n =>
   cases m with
   | zero =>
    simp only[List.getElem_cons_zero,List.getElem_cons_succ] at e
    exact absurd (e ▸ List.getElem_mem _) nd.1
   | succ m =>
    simp only[List.getElem_cons_succ] at e
    rw[ng nd.2 (by simpa using h1) (by simpa using h2) e]
noncomputable def iT (K:Fg) (ι:List Addr) (S H:Hp) (a:Addr):MO->Prop
 | .gone=>∃o,H a=some o
 | .lst xs=>S a=none/\∃vs,H a=some (.lst vs)/\au K ι S xs vs
 | .iH aw=>S a=none/\∃eN,H a=some (.dK eN)/\bX K ι S aw eN
 | .vj aw=>S a=none/\∃eN,H a=some (.dT eN)/\bX K ι S aw eN
 | .Ax aw=>∃ob eN,S a=some (.oS ob (.dK eN))/\H a=some (.oS ob (.dK eN))/\bX K ι S aw eN
 | .ins C fs=>S a=none/\∃dx qu,H a=some (.ins C dx qu)/\bX K ι S fs qu
 | .exc C=>S a=none/\H a=some (nO a C)
structure aI (K:Fg) (ι:List Addr) (S:Hp) (M:aC) (H:Hp):Prop where
 sub:eh S H
 len:ι.length=M.length
 nd:ι.Nodup
 ob:∀(n:Nat) (a:Addr) (o:MO),ι[n]? = some a->M[n]? = some o->iT K ι S H a o
noncomputable def Slots (K:Fg) (ι:List Addr) (S:Hp) (ρ:cI) (σ:St):Prop :=
 ρ.length=σ.length/\∀(i:Nat) (x:PV),ρ[i]? = some (some x)->∃v,σ[i]? = some (some v)/\ar K ι S x v
section
variable {K:Fg} {ι ι':List Addr} {S S' H H':Hp} {M M':aC} {ρ:cI} {σ:St}
theorem iT.there {a:Addr} {o:MO} (h:iT K ι S H a o):∃u,H a=some u:=by
 cases o with
 | gone=>exact h
 | lst xs=>obtain⟨_,vs,e,_⟩:=h; exact⟨_,e⟩
 | iH xs=>obtain⟨_,vs,e,_⟩:=h; exact⟨_,e⟩
 | vj xs=>obtain⟨_,vs,e,_⟩:=h; exact⟨_,e⟩
 | Ax xs=>obtain⟨_,_,_,e,_⟩:=h; exact⟨_,e⟩
 | ins C fs=>obtain⟨_,dx,vs,e,_⟩:=h; exact⟨_,e⟩
 | exc C=>obtain⟨_,e⟩:=h; exact⟨_,e⟩
theorem iT.up {a:Addr} {o:MO} (h:iT K ι S H a o) (e:Up ι S ι' S') (hs:S a=none->S' a=none) (hh:H' a=H a):iT K ι' S' H' a o:=by
 cases o with
 | gone=>obtain⟨u,q⟩:=h; exact⟨u,hh.trans q⟩
 | lst xs=>obtain⟨z,vs,q,r⟩:=h; exact⟨hs z,vs,hh.trans q,r.up e⟩
 | iH xs=>obtain⟨z,vs,q,r⟩:=h; exact⟨hs z,vs,hh.trans q,r.up e⟩
 | vj xs=>obtain⟨z,vs,q,r⟩:=h; exact⟨hs z,vs,hh.trans q,r.up e⟩
 | Ax xs=>obtain⟨ob,vs,z,q,r⟩:=h; exact⟨ob,vs,e.sm _ _ z,hh.trans q,r.up e⟩
 | ins C fs=>obtain⟨z,dx,vs,q,r⟩:=h; exact⟨hs z,dx,vs,hh.trans q,r.up e⟩
 | exc C=>obtain⟨z,q⟩:=h; exact⟨hs z,hh.trans q⟩
theorem Slots.mono (s:Slots K ι S ρ σ) (e:Ext ι S H ι' S' H'):Slots K ι' S' ρ σ:=⟨s.1,fun i x h=>by
 obtain⟨v,h1,h2⟩:=s.2 i x h
 exact⟨v,h1,h2.mono e⟩⟩
theorem Slots.set (s:Slots K ι S ρ σ) {x:PV} {v:V} (h:ar K ι S x v) (i:Nat):Slots K ι S (ρ.set i (some x)) (σ.set i (some v)):=by
 refine⟨by simp[s.1],fun j y hj=>?_⟩
 by_cases Er:i=j
 ·subst Er
  have hl:i<(ρ.set i (some x)).length:=(List.getElem?_eq_some_iff.mp hj).1
  rw[List.length_set] at hl
  rw[List.getElem?_set_self hl] at hj
  cases hj
  exact⟨v,by rw[List.getElem?_set_self (by rw[← s.1]; exact hl)],h⟩
 ·rw[List.getElem?_set_ne Er] at hj
  obtain⟨w,h1,h2⟩:=s.2 j y hj
  exact⟨w,by rw[List.getElem?_set_ne Er]; exact h1,h2⟩
theorem aI.addr (s:aI K ι S M H) {n:Nat} {a:Addr} (h:ι[n]? = some a):∃o,M[n]? = some o/\iT K ι S H a o:=by
 have hl:n<M.length:=by rw[← s.len]; exact(List.getElem?_eq_some_iff.mp h).1
 exact⟨M[n],List.getElem?_eq_getElem hl,s.ob n a _ h (List.getElem?_eq_getElem hl)⟩
theorem aI.fresh (s:aI K ι S M H) {p:Addr} (h:H p=none):p∉ι:=fun hm=>by
 obtain⟨n,hn,e⟩:=List.getElem_of_mem hm
 obtain⟨o,_,q⟩:=s.addr (List.getElem?_eq_some_iff.mpr ⟨hn,e⟩)
 obtain⟨u,z⟩:=q.there
 rw[h] at z; cases z
theorem aI.jQ (s:aI K ι S M H) {p:Addr} (h:H p=none):S p=none:=s.sub.free h
theorem aI.tree (s:aI K ι S M H) {p:Addr} {o:HO} (h:H p=none):aI K ι (upd S p o) M (upd H p o)/\Ext ι S H ι (upd S p o) (upd H p o):=by
 have hS:=s.jQ h
 have sm:eh S (upd S p o):=fun b u q=>by rw[av (aE q hS)]; exact q
 have up:Up ι S ι (upd S p o):=⟨fun _ _ h=>h,sm⟩
 refine⟨⟨fun b u q=>?_,s.len,s.nd,fun n a u h1 h2=>?_⟩,⟨up,List.take_length,fun b u h1 h2 h3=>?_⟩⟩
 ·by_cases hb:b=p
  ·subst hb; rw[aF] at q ⊢; exact q
  ·rw[av hb] at q ⊢; exact s.sub b u q
 ·have eu:a≠p:=fun z=>s.fresh h (z ▸ List.mem_of_getElem? h1)
  exact(s.ob n a u h1 h2).up up (fun z=>by rw[av eu]; exact z) (av eu)
 ·have eu:=aE h1 h
  exact⟨by rw[av eu]; exact h1,h2,by rw[av eu]; exact h3⟩
theorem aI.side (s:aI K ι S M H) {p:Addr} {o:HO} (h:H p=none):aI K ι S M (upd H p o)/\Ext ι S H ι S (upd H p o):=by
 refine⟨⟨fun b u q=>?_,s.len,s.nd,fun n a u h1 h2=>?_⟩,⟨⟨fun _ _ h=>h,eh.refl S⟩,List.take_length,fun b u h1 h2 h3=>?_⟩⟩
 ·rw[av (aE (s.sub b u q) h)]; exact s.sub b u q
 ·have eu:a≠p:=fun z=>s.fresh h (z ▸ List.mem_of_getElem? h1)
  exact(s.ob n a u h1 h2).up ⟨fun _ _ h=>h,eh.refl S⟩ (fun z=>z) (av eu)
 ·have eu:=aE h1 h
  exact⟨by rw[av eu]; exact h1,h2,h3⟩
theorem aI.enter (s:aI K ι S M H) {p:Addr} {o:MO} (hp:p∉ι) (h:iT K ι S H p o):aI K (ι++[p]) S (M++[o]) H:=by
 refine⟨s.sub,by simp[s.len],?_,fun n a u h1 h2=>?_⟩
 ·rw[List.nodup_append]
  refine⟨s.nd,by simp,fun a ha b hb=>?_⟩
  rw[List.mem_singleton] at hb
  subst hb
  exact fun z=>hp (z ▸ ha)
 ·by_cases hn:n < ι.length
  ·rw[List.getElem?_append_left hn] at h1
   rw[List.getElem?_append_left (by rw[← s.len]; exact hn)] at h2
   exact(s.ob n a u h1 h2).up (.push p) (fun z=>z) rfl
  ·have e1:n=ι.length:=by
    have:=(List.getElem?_eq_some_iff.mp h1).1
    simp at this; omega
   subst e1
   simp at h1
   rw[s.len] at h2
   simp at h2
   subst h1; subst h2
   exact h.up (.push _) (fun z=>z) rfl
theorem aI.new (s:aI K ι S M H) {p:Addr} {u:HO} {o:MO} (h:H p=none) (ho:iT K ι S (upd H p u) p o):aI K (ι++[p]) S (M++[o]) (upd H p u)/\Ext ι S H (ι++[p]) S (upd H p u):=by
 refine⟨(s.side h).1.enter (s.fresh h) ho,⟨.push p,by simp,fun b v h1 h2 h3=>?_⟩⟩
 have eu:=aE h1 h
 exact⟨by rw[av eu]; exact h1,by simp[h2,eu],h3⟩
theorem aI.inj (s:aI K ι S M H) {n m:Nat} {a:Addr} (h1:ι[n]? = some a) (h2:ι[m]? = some a):n=m:=by
 obtain⟨l1,e1⟩:=List.getElem?_eq_some_iff.mp h1
 obtain⟨l2,e2⟩:=List.getElem?_eq_some_iff.mp h2
 exact ng s.nd l1 l2 (e1.trans e2.symm)
theorem aI.put (s:aI K ι S M H) {n:Nat} {a:Addr} {u:HO} {o:MO} (h:ι[n]? = some a) (hS:S a=none) (ho:iT K ι S (upd H a u) a o):aI K ι S (M.set n o) (upd H a u)/\Ext ι S H ι S (upd H a u):=by
 refine⟨⟨fun b v q=>?_,by simp[s.len],s.nd,fun m b v h1 h2=>?_⟩,⟨⟨fun _ _ h=>h,eh.refl S⟩,List.take_length,fun b v h1 h2 h3=>?_⟩⟩
 ·rw[av (aE q hS)]; exact s.sub b v q
 ·by_cases hm:n=m
  ·subst hm
   rw[h] at h1; cases h1
   have hl:n<M.length:=by
    have:=(List.getElem?_eq_some_iff.mp h2).1
    simpa using this
   rw[List.getElem?_set_self hl] at h2
   cases h2
   exact ho
  ·rw[List.getElem?_set_ne hm] at h2
   have eu:b≠a:=fun z=>hm (s.inj h (z ▸ h1))
   exact(s.ob m b v h1 h2).up ⟨fun _ _ h=>h,eh.refl S⟩ (fun z=>z) (av eu)
 ·have eu:b≠a:=fun z=>h2 (z ▸ List.mem_of_getElem? h)
  exact⟨by rw[av eu]; exact h1,h2,h3⟩
theorem aI.freeze (s:aI K ι S M H) {n:Nat} {a:Addr} {xs:List PV} (h:ι[n]? = some a) (hM:M[n]? = some (.lst xs)) :
  ∃S',aI K ι S' (M.set n .gone) H/\Ext ι S H ι S' H/\ar K ι S' (.lst xs) (.ref a):=by
 obtain⟨hS,vs,hH,hr⟩:=s.ob n a _ h hM
 have sm:eh S (upd S a (.lst vs)):=fun b u q=>by rw[av (aE q hS)]; exact q
 have up:Up ι S ι (upd S a (.lst vs)):=⟨fun _ _ h=>h,sm⟩
 refine⟨upd S a (.lst vs),⟨fun b u q=>?_,by simp[s.len],s.nd,fun m b v h1 h2=>?_⟩,⟨up,List.take_length,fun b v h1 h2 h3=>?_⟩,ar.eZ.mpr ⟨a,vs,rfl,aF,hr.up up⟩⟩
 ·by_cases hb:b=a
  ·subst hb; rw[aF] at q; cases q; exact hH
  ·rw[av hb] at q; exact s.sub b u q
 ·by_cases hm:n=m
  ·subst hm
   rw[h] at h1; cases h1
   have hl:n<M.length:=(List.getElem?_eq_some_iff.mp hM).1
   rw[List.getElem?_set_self hl] at h2
   cases h2
   exact⟨_,hH⟩
  ·rw[List.getElem?_set_ne hm] at h2
   have eu:b≠a:=fun z=>hm (s.inj h (z ▸ h1))
   exact(s.ob m b v h1 h2).up up (fun z=>by rw[av eu]; exact z) rfl
 ·have eu:b≠a:=fun z=>h2 (z ▸ List.mem_of_getElem? h)
  exact⟨h1,h2,by rw[av eu]; exact h3⟩
end
inductive Res (α:Type) where
 | ok (a:α) (M:aC)
 | exc (c:Addr) (M:aC)
 | bad
noncomputable def Res.bind {α β:Type}:Res α->(α->aC->Res β)->Res β
 | .ok a M,f=>f a M
 | .exc c M,_=>.exc c M
 | .bad,_=>.bad
@[simp] theorem Res.ai {α β:Type} {a:α} {M:aC} {f:α->aC->Res β}:(Res.ok a M).bind f=f a M:=rfl
@[simp] theorem Res.wc {α β:Type} {c:Addr} {M:aC} {f:α->aC->Res β}:(Res.exc c M:Res α).bind f=.exc c M:=rfl
@[simp] theorem Res.Es {α β:Type} {f:α->aC->Res β}:(Res.bad:Res α).bind f=.bad:=rfl
noncomputable def Res.opt {α:Type} (o:Option α) (M:aC):Res α:=match o with
 | some a=>.ok a M
 | none=>.bad
@[simp] theorem Res.wd {α:Type} {a:α} {M:aC}:Res.opt (some a) M=.ok a M:=rfl
@[simp] theorem Res.we {α:Type} {M:aC}:Res.opt (none:Option α) M=.bad:=rfl
noncomputable def aP {α β:Type} (K:Fg) (Rp:List Addr->Hp->α->β->Prop) (Ex:XK) (ι:List Addr) (S H:Hp) (Q:β->Hp->Prop):Res α->Prop
 | .ok x M'=>∀ ι' S' H' v,Ext ι S H ι' S' H'->aI K ι' S' M' H'->Rp ι' S' x v->Q v H'
 | .exc c M'=>∀ ι' S' H',Ext ι S H ι' S' H'->aI K ι' S' M' H'->Ex (.ref c) none H'
 | .bad=>False
section
variable {α β γ δ:Type} {K:Fg} {Rp:List Addr->Hp->α->β->Prop} {Rq:List Addr->Hp->γ->δ->Prop} {Ex:XK} {ι ι':List Addr} {S S' H H':Hp} {Q Q':β->Hp->Prop} {P:δ->Hp->Prop} {r:Res α}
theorem aP.up (h:aP K Rp Ex ι S H Q r) (e:Ext ι S H ι' S' H'):aP K Rp Ex ι' S' H' Q r:=by
 cases r with
 | ok x M=>exact fun ι1 S1 H1 v e1 s1 r1=>h ι1 S1 H1 v (e.trans e1) s1 r1
 | exc c M=>exact fun ι1 S1 H1 e1 s1=>h ι1 S1 H1 (e.trans e1) s1
 | bad=>exact h
theorem aP.bind {f:α->aC->Res γ} (h:aP K Rq Ex ι S H P (r.bind f))
  (g:∀ ι1 S1 M1 H1 x v,Ext ι S H ι1 S1 H1->aI K ι1 S1 M1 H1->Rp ι1 S1 x v->aP K Rq Ex ι1 S1 H1 P (f x M1)->Q v H1):aP K Rp Ex ι S H Q r:=by
 cases r with
 | ok x M=>exact fun ι1 S1 H1 v e1 s1 r1=>g ι1 S1 M H1 x v e1 s1 r1 (aP.up h e1)
 | exc c M=>exact h
 | bad=>exact h
end
noncomputable def tG {α β:Type} (K:Fg) (Rp:List Addr->Hp->α->β->Prop) (Ex:St->XK) (d:cI->aC->Res α) (σ:St) (H:Hp) (Q:β->Hp->Prop):Prop :=
 ∃ ι S M ρ,aI K ι S M H/\Slots K ι S ρ σ/\aP K Rp (Ex σ) ι S H Q (d ρ M)
noncomputable abbrev DE:=cI->aC->Res PV
noncomputable abbrev DA:=cI->aC->Res (List PV)
noncomputable abbrev DT:=cI->aC->Res Bool
noncomputable abbrev cT (K:Fg):List Addr->Hp->PV->V->Prop:=fun ι S x v=>ar K ι S x v
noncomputable abbrev KR (K:Fg):List Addr->Hp->List PV->List V->Prop:=fun ι S x v=>au K ι S x v
noncomputable abbrev wg:List Addr->Hp->Bool->Bool->Prop:=fun _ _ x v=>v=x
structure VE (X:Cx) (Ex:St->XK) (e:Expr) (d:DE):Prop where
 out:PE X e (tG X.K (cT X.K) Ex d)
structure VT (X:Cx) (Ex:St->XK) (e:Expr) (d:DT):Prop where
 out:PT X e (tG X.K wg Ex d)
structure VW (X:Cx) (Ex:St->XK) (e:Expr) (d:DT):Prop where
 out:PW X e (tG X.K wg Ex d)
structure VA (X:Cx) (Ex:St->XK) (es:List Expr) (d:DA):Prop where
 out:PA X es (tG X.K (KR X.K) Ex d)
theorem PE.imp {X:Cx} {e:Expr} {t t':TE} (h:PE X e t) (i:∀ σ H Q,t' σ H Q->t σ H Q):PE X e t':=fun pins s σ H Q I hw=>h pins s σ H Q I (i σ H Q hw)
theorem PT.imp {X:Cx} {e:Expr} {t t':TT} (h:PT X e t) (i:∀ σ H Q,t' σ H Q->t σ H Q):PT X e t':=fun pins s σ H Q I hw=>h pins s σ H Q I (i σ H Q hw)
theorem PW.imp {X:Cx} {e:Expr} {t t':TT} (h:PW X e t) (i:∀ σ H Q,t' σ H Q->t σ H Q):PW X e t':=fun w pins s σ H Q I hw=>h w pins s σ H Q I (i σ H Q hw)
theorem PA.imp {X:Cx} {es:List Expr} {t t':TA} (h:PA X es t) (i:∀ σ H Q,t' σ H Q->t σ H Q):PA X es t':=fun pos pins s σ H Q I hw=>h pos pins s σ H Q I (i σ H Q hw)
theorem VW.vt {X:Cx} {Ex:St->XK} {e:Expr} {d:DT} (h:VW X Ex e d):VT X Ex e d:=⟨PW.pt h.out⟩
end L2
end
section
namespace L2
open PySem PySem.Spec PyProof.Rows
section
variable {X:Cx} {Ex:St->XK} {a b c e:Expr} {es:List Expr} {da db dc d:DE} {ds:List DE} {pos:Pos}
noncomputable def af (i:Nat):DE:=fun ρ M=>match ρ[i]? with
 | some (some x)=>.ok x M
 | _=>.bad
theorem aa (i:Nat) {x:Str} (hN:X.N[i]? = some x:=by rfl) (hv:Gx X.env.scope x:=by first | exact Or.inl rfl | exact Or.inr (Or.inl rfl) | exact Or.inr (Or.inr rfl))
  (hd:(x == ("__debug__" : Str))=false:=by decide) (vz:(x == ("__classdict__" : Str))=false:=by decide):VE X Ex (.Name x pos) (af i):=⟨by
 refine PE.imp (A3 hN hv hd vz) fun σ H Q h=>?_
 obtain⟨ι,S,M,ρ,aq,sl,w⟩:=h
 unfold af at w
 cases q:ρ[i]? with
 | none=>rw[q] at w; exact w.elim
 | some o =>
  cases o with
  | none=>rw[q] at w; exact w.elim
  | some y =>
   rw[q] at w
   obtain⟨v,h1,h2⟩:=sl.2 i y q
   exact⟨v,h1,w ι S H v .refl aq h2⟩⟩
noncomputable def dC (x:PV):DE:=fun _ M=>.ok x M
theorem wj {x:PV} {v:V} (h:PE X e (tC v)) (r:∀ ι S,ar X.K ι S x v):VE X Ex e (dC x):=⟨by
 refine PE.imp h fun σ H Q hh=>?_
 obtain⟨ι,S,M,ρ,aq,sl,w⟩:=hh
 exact w ι S H v .refl aq (r ι S)⟩
theorem ag {i:Int} {j}:VE X Ex (.Constant (.int i) j pos) (dC (.int i)):=wj A4 fun _ _=>ar.az.mpr rfl
theorem su {b:Bool} {j}:VE X Ex (.Constant (.bool b) j pos) (dC (.bl b)):=wj Dq fun _ _=>ar.bf.mpr rfl
theorem nQ {j}:VE X Ex (.Constant .none j pos) (dC .bb):=wj A5 fun _ _=>ar.eY.mpr rfl
theorem fc {x:Str} {j}:VE X Ex (.Constant (.str x) j pos) (dC (.str x)):=wj A6 fun _ _=>ar.jf.mpr rfl
theorem fZ {x:Str} {i:Int} {t:Tok} (hm:X.mg x=some (.int i t)) (hg:Gl X x:=by rfl) (hd:(x == ("__debug__" : Str))=false:=by decide):VE X Ex (.Name x pos) (dC (.int i)) :=
 wj (nH hg hm (v:=.int i) ⟨t,rfl⟩ hd) fun _ _=>ar.az.mpr rfl
noncomputable def cQ:List DE->DA
 | []=>fun _ M=>.ok [] M
 | d::ds=>fun ρ M=>(d ρ M).bind fun x M1=>(cQ ds ρ M1).bind fun xs M2=>.ok (x::xs) M2
noncomputable abbrev wm (K:Fg) (n:Nat):List Addr->Hp->List PV->List V->Prop:=fun ι S x v=>au K ι S x v/\x.length=n
structure VN (X:Cx) (Ex:St->XK) (es:List Expr) (ds:List DE):Prop where
 out:PA X es (tG X.K (wm X.K ds.length) Ex (cQ ds))
theorem ah:VN X Ex [] []:=⟨by
 refine PA.imp fN fun σ H Q h=>?_
 obtain⟨ι,S,M,ρ,aq,sl,w⟩:=h
 exact w ι S H [] .refl aq ⟨.nil,rfl⟩⟩
theorem ae (ha:VE X Ex e d) (hr:VN X Ex es ds) (hs:starEach (e::es) X.env=(false,eval e X.env)::starEach es X.env:=by rfl):VN X Ex (e::es) (d::ds):=⟨by
 refine PA.imp (cW ha.out hr.out hs) fun σ H Q h=>?_
 obtain⟨ι,S,M,ρ,aq,sl,w⟩:=h
 refine⟨ι,S,M,ρ,aq,sl,aP.bind (Rp:=cT X.K) w fun ι1 S1 M1 H1 x v e1 s1 r1 w1=>?_⟩
 refine⟨ι1,S1,M1,ρ,s1,sl.mono e1,aP.bind (Rp:=wm X.K ds.length) w1 fun ι2 S2 M2 H2 xs vs e2 s2 r2 w2=>?_⟩
 exact w2 ι2 S2 H2 (v::vs) .refl s2 ⟨.cons (ar.mono e2 r1) r2.1,by simp[r2.2]⟩⟩
noncomputable def kt (live:Bool) (xs:List PV) (M:aC):Res PV:=if xs.length≤lim then(if live=true then .ok (.obj M.length) (M++[.lst xs]) else .ok (.lst xs) M) else .bad
theorem hJ {ι:List Addr} {S H:Hp} {M:aC} {E:XK} {Q:VK} {live:Bool} {xs:List PV} {vs:List V} {K:Fg} (aq:aI K ι S M H) (r:au K ι S xs vs) (w:aP K (cT K) E ι S H Q (kt live xs M)) :
  vs.length≤sizeLine/\∀p,H p=none->Q (.ref p) (upd H p (.lst vs)):=by
 unfold kt at w
 split at w
 ·rename_i hl
  refine⟨by rw[← r.length]; exact hG hl,fun p hp=>?_⟩
  split at w
  ·have hS:=aq.jQ hp
   obtain⟨s2,e2⟩:=aq.new (u:=.lst vs) (o:=.lst xs) hp ⟨hS,vs,aF,r⟩
   refine w _ _ _ _ e2 s2 (ar.bh.mpr ⟨p,rfl,?_⟩)
   rw[← aq.len]; simp
  ·obtain⟨s2,e2⟩:=aq.tree (o:=.lst vs) hp
   exact w _ _ _ _ e2 s2 (ar.eZ.mpr ⟨p,vs,rfl,aF,r.mono e2⟩)
 ·exact w.elim
@[simp] theorem wo {xs:List PV} {M:aC} (h:xs.length≤lim):kt false xs M=.ok (.lst xs) M:=by unfold kt; rw[if_pos h,if_neg (by decide)]
@[simp] theorem lG {xs:List PV} {M:aC} (h:xs.length≤lim):kt true xs M=.ok (.obj M.length) (M++[.lst xs]):=by unfold kt; rw[if_pos h,if_pos rfl]
noncomputable def jh (ds:List DE):DE:=fun ρ M=>(cQ ds ρ M).bind fun xs M1=>.ok (.tup xs) M1
noncomputable def cn (live:Bool) (ds:List DE):DE:=fun ρ M=>(cQ ds ρ M).bind fun xs M1=>kt live xs M1
theorem gx {x1} (h:VN X Ex es ds) (hn:ds.length≤1000:=by exact Nat.le_of_ble_eq_true rfl):VE X Ex (.Tuple es x1 pos) (jh ds):=⟨by
 refine PE.imp (vK h.out) fun σ H Q hh=>?_
 obtain⟨ι,S,M,ρ,aq,sl,w⟩:=hh
 refine⟨ι,S,M,ρ,aq,sl,aP.bind (Rp:=wm X.K ds.length) w fun ι1 S1 M1 H1 xs vs e1 s1 r1 w1=>?_⟩
 refine⟨by rw[← r1.1.length,r1.2]; exact Nat.le_of_lt (m8 hn),fun p hp=>?_⟩
 obtain⟨s2,e2⟩:=s1.tree (o:=.tup vs) hp
 exact w1 _ _ _ _ e2 s2 (ar.bA.mpr ⟨p,vs,rfl,aF,r1.1.mono e2⟩)⟩
theorem bK (live:Bool) (h:VN X Ex es ds):VE X Ex (.List es pos) (cn live ds):=⟨by
 refine PE.imp (Bx h.out) fun σ H Q hh=>?_
 obtain⟨ι,S,M,ρ,aq,sl,w⟩:=hh
 refine⟨ι,S,M,ρ,aq,sl,aP.bind (Rp:=wm X.K ds.length) w fun ι1 S1 M1 H1 xs vs e1 s1 r1 w1=>?_⟩
 exact hJ s1 r1.1 w1⟩
noncomputable def cJ (M:aC):PV->Option (List PV)
 | .lst xs=>some xs
 | .obj n=>match M[n]? with
  | some (.lst xs)=>some xs
  | _=>none
 | _=>none
@[simp] theorem ph {M:aC} {xs:List PV}:cJ M (.lst xs)=some xs:=rfl
@[simp] theorem Eu {M:aC} {xs:List PV}:cJ M (.tup xs)=none:=rfl
@[simp] theorem wq {M:aC} {n:Nat}:cJ M (.obj n)=(match M[n]? with | some (.lst xs)=>some xs | _=>none):=rfl
theorem cg {K:Fg} {ι:List Addr} {S H:Hp} {M:aC} {x:PV} {xs:List PV} {v:V} (aq:aI K ι S M H) (r:ar K ι S x v) (h:cJ M x=some xs):∃p vs,v=.ref p/\H p=some (.lst vs)/\au K ι S xs vs:=by
 cases x with
 | lst ys =>
  cases h
  obtain⟨p,vs,rfl,e,q⟩:=ar.eZ.mp r
  exact⟨p,vs,rfl,aq.sub _ _ e,q⟩
 | obj n =>
  obtain⟨p,rfl,e⟩:=ar.bh.mp r
  obtain⟨o,e2,q⟩:=aq.addr e
  simp only[wq,e2] at h
  cases o with
  | lst ys =>
   cases h
   obtain⟨_,vs,h1,h2⟩:=q
   exact⟨p,vs,rfl,h1,h2⟩
  | _=>cases h
 | _=>cases h
noncomputable def ji (M:aC) (x:PV):Option (List PV):=match x with
 | .tup xs=>some xs
 | .dU ns=>some (ns.map .int)
 | x=>cJ M x
@[simp] theorem jj {M:aC} {xs:List PV}:ji M (.lst xs)=some xs:=rfl
@[simp] theorem wu {M:aC} {xs:List PV}:ji M (.tup xs)=some xs:=rfl
@[simp] theorem Ew {M:aC} {ns:List Int}:ji M (.dU ns)=some (ns.map .int):=rfl
@[simp] theorem pj {M:aC} {n:Nat}:ji M (.obj n)=(match M[n]? with | some (.lst xs)=>some xs | _=>none):=rfl
theorem au.ints {K:Fg} {ι:List Addr} {S:Hp}:∀ns:List Int,au K ι S (ns.map PV.int) (ns.map V.int)
 | []=>.nil
 | n::ns=>.cons (ar.az.mpr rfl) (au.ints ns)
theorem jk {K:Fg} {ι:List Addr} {S H:Hp} {M:aC} {x:PV} {xs:List PV} {v:V} (aq:aI K ι S M H) (r:ar K ι S x v) (h:ji M x=some xs) :
  ∃p vs,v=.ref p/\(iq K H p vs\/rW K H p vs)/\au K ι S xs vs:=by
 cases x with
 | tup ys =>
  cases h
  obtain⟨p,vs,rfl,e,q⟩:=ar.bA.mp r
  exact⟨p,vs,rfl,.inr (.of (aq.sub _ _ e)),q⟩
 | dU ns =>
  cases h
  obtain⟨p,rfl,e⟩:=ar.jg.mp r
  exact⟨p,_,rfl,.inl (e.mono aq.sub),.ints ns⟩
 | lst ys =>
  obtain⟨p,vs,e1,e2,q⟩:=cg aq r h
  exact⟨p,vs,e1,.inl (.of e2),q⟩
 | obj n =>
  obtain⟨p,vs,e1,e2,q⟩:=cg aq r h
  exact⟨p,vs,e1,.inl (.of e2),q⟩
 | _=>cases h
noncomputable abbrev D2:=PV->PV->aC->Res PV
noncomputable def rP (K:Fg) (f:D2):R2:=fun x y H Q=>∃E ι S M p q,aI K ι S M H/\ar K ι S p x/\ar K ι S q y/\aP K (cT K) E ι S H Q (f p q M)
noncomputable def aA (f:D2) (da db:DE):DE:=fun ρ M=>(da ρ M).bind fun x M1=>(db ρ M1).bind fun y M2=>f x y M2
theorem sv {f:D2} {K:Fg} {σ:St} {H:Hp} {Q:VK} (h:tG K (cT K) Ex (aA f da db) σ H Q):DK (rP K f) (tG K (cT K) Ex da) (tG K (cT K) Ex db) σ H Q:=by
 obtain⟨ι,S,M,ρ,aq,sl,w⟩:=h
 refine⟨ι,S,M,ρ,aq,sl,aP.bind (Rp:=cT K) w fun ι1 S1 M1 H1 x v e1 s1 r1 w1=>?_⟩
 refine⟨ι1,S1,M1,ρ,s1,sl.mono e1,aP.bind (Rp:=cT K) w1 fun ι2 S2 M2 H2 y u e2 s2 r2 w2=>?_⟩
 exact⟨_,ι2,S2,M2,x,y,s2,ar.mono e2 r1,r2,w2⟩
theorem aH {op:Operator} {f:D2} (ho:eJ X (binaryOp op) (rP X.K f)) (ha:VE X Ex a da) (hb:VE X Ex b db):VE X Ex (.BinOp a op b pos) (aA f da db):=⟨PE.imp (DL ho ha.out hb.out) fun _ _ _ h=>sv h⟩
theorem eJ.imp {f:Value->Value->Sem Value} {r r':R2} (h:eJ X f r) (i:∀x y H Q,r' x y H Q->r x y H Q):eJ X f r':=fun pins s σ H x y v u Q I rx ry q=>h pins s σ H x y v u Q I rx ry (i x y H Q q)
noncomputable def gb (C:Int->Int->Bool) (g:Int->Int->PV):D2:=fun x y M=>match x,y with
 | .int i,.int j=>if C i j=true then .ok (g i j) M else .bad
 | _,_=>.bad
@[simp] theorem Ey {C:Int->Int->Bool} {g:Int->Int->PV} {i j:Int} {M:aC} (h:C i j=true):gb C g (.int i) (.int j) M=.ok (g i j) M:=by unfold gb; simp[h]
theorem fe {K:Fg} {C:Int->Int->Bool} {g:Int->Int->PV} {x y:V} {H:Hp} {Q:VK} (h:rP K (gb C g) x y H Q) :
  ∃i j,x=.int i/\y=.int j/\C i j=true/\∃ ι S M,aI K ι S M H/\∀v,ar K ι S (g i j) v->Q v H:=by
 obtain⟨E,ι,S,M,p,q,aq,rx,ry,w⟩:=h
 cases p with
 | int i =>
  cases q with
  | int j =>
   have hx:=ar.az.mp rx
   have hy:=ar.az.mp ry
   simp only[gb] at w
   split at w
   ·rename_i hc
    exact⟨i,j,hx,hy,hc,ι,S,M,aq,fun v hv=>w ι S H v .refl aq hv⟩
   ·exact w.elim
  | _=>exact w.elim
 | _=>exact w.elim
noncomputable def nR:D2:=gb (fun _ _=>true) fun i j=>.int (i-j)
noncomputable def bQ:D2:=gb (fun _ j=>decide (0<j/\j<1073741824)) fun i j=>.int (i / j)
noncomputable def aQ:D2:=gb (fun _ j=>decide (0<j)) fun i j=>.int (i%j)
theorem sy:eJ X (binaryOp .Sub) (rP X.K nR):=Bn.imp fun x y H Q h=>by
 obtain⟨i,j,rfl,rfl,_,ι,S,M,aq,k⟩:=fe h
 exact⟨i,j,rfl,rfl,k _ (ar.az.mpr rfl)⟩
theorem ff:eJ X (binaryOp .FloorDiv) (rP X.K bQ):=yu.imp fun x y H Q h=>by
 obtain⟨i,j,rfl,rfl,hc,ι,S,M,aq,k⟩:=fe h
 exact⟨i,j,rfl,rfl,(show 0<j/\j<1073741824 from of_decide_eq_true hc),k _ (ar.az.mpr rfl)⟩
theorem bq:eJ X (binaryOp .Mod) (rP X.K aQ):=Bp.imp fun x y H Q h=>by
 obtain⟨i,j,rfl,rfl,hc,ι,S,M,aq,k⟩:=fe h
 exact⟨i,j,rfl,rfl,of_decide_eq_true hc,k _ (ar.az.mpr rfl)⟩
noncomputable def small (i:Int):Bool:=decide (-(2 ^ 64)<i/\i<2 ^ 64)
noncomputable def bD (live:Bool):D2:=fun x y M=>match x,y with
 | .int i,.int j=>.ok (.int (i+j)) M
 | .tup xs,.tup ys=>if xs.isEmpty=false/\xs.length+ys.length≤lim then .ok (.tup (xs++ys)) M else .bad
 | x,y=>match cJ M x,cJ M y with
  | some xs,some ys=>kt live (xs++ys) M
  | _,_=>.bad
@[simp] theorem Ez {live:Bool} {i j:Int} {M:aC}:bD live (.int i) (.int j) M=.ok (.int (i+j)) M:=rfl
@[simp] theorem wx {live:Bool} {xs ys:List PV} {M:aC}:bD live (.lst xs) (.lst ys) M=kt live (xs++ys) M:=rfl
theorem qR {K:Fg} {live:Bool} {x y:V} {H:Hp} {Q:VK} (h:rP K (bD live) x y H Q) :
  (∃i j,x=.int i/\y=.int j/\Q (.int (i+j)) H)\/As K x y H Q\/yN x y H Q:=by
 obtain⟨E,ι,S,M,p,q,aq,rx,ry,w⟩:=h
 have lists:(∀{xs ys:List PV},cJ M p=some xs->cJ M q=some ys->aP K (cT K) E ι S H Q (kt live (xs++ys) M)->yN x y H Q):=fun {xs ys} h1 h2 w=>by
  obtain⟨l,vs,rfl,e1,r1⟩:=cg aq rx h1
  obtain⟨b,us,rfl,e2,r2⟩:=cg aq ry h2
  obtain⟨w1,w2⟩:=hJ aq (r1.append r2) w
  exact⟨l,b,vs,us,rfl,rfl,e1,e2,by simpa using w1,w2⟩
 have other:(bD live p q M=match cJ M p,cJ M q with | some xs,some ys=>kt live (xs++ys) M | _,_=>.bad)->yN x y H Q:=fun e=>by
  rw[e] at w
  cases h1:cJ M p with
  | none=>rw[h1] at w; exact w.elim
  | some xs =>
   cases h2:cJ M q with
   | none=>rw[h1,h2] at w; exact w.elim
   | some ys=>rw[h1,h2] at w; exact lists h1 h2 w
 cases p with
 | int i =>
  cases q with
  | int j=>exact .inl ⟨i,j,ar.az.mp rx,ar.az.mp ry,w ι S H _ .refl aq (ar.az.mpr rfl)⟩
  | _=>exact .inr (.inr (other rfl))
 | tup xs =>
  cases q with
  | tup ys =>
   refine .inr (.inl ?_)
   simp only[bD] at w
   split at w
   ·rename_i hc
    obtain⟨l,vs,rfl,e1,r1⟩:=ar.bA.mp rx
    obtain⟨b,us,rfl,e2,r2⟩:=ar.bA.mp ry
    refine⟨l,b,vs,us,rfl,rfl,.of (aq.sub _ _ e1),.of (aq.sub _ _ e2),fun z=>?_,?_,fun z=>?_,fun _ p hp=>?_⟩
    ·subst z
     have:=r1.length
     cases xs with
     | nil=>cases hc.1
     | cons _ _=>simp at this
    ·rw[← r1.length,← r2.length]; exact hG hc.2
    ·subst z
     have:=r2.length
     cases ys with
     | nil =>
      rw[zI] at w
      exact w ι S H _ .refl aq rx
     | cons _ _=>simp at this
    ·obtain⟨s2,e2⟩:=aq.tree (o:=.tup (vs++us)) hp
     exact w _ _ _ _ e2 s2 (ar.bA.mpr ⟨p,_,rfl,aF,(r1.append r2).mono e2⟩)
   ·exact w.elim
  | _=>exact .inr (.inr (other rfl))
 | _=>exact .inr (.inr (other (by cases q<;>rfl)))
theorem bB (live:Bool):eJ X (binaryOp .Add) (rP X.K (bD live)):=(Bm.or (yJ.or BL)).imp fun x y H Q h=>by
 rcases qR h with⟨i,j,hx,hy,q⟩ | h | h
 ·exact .inl ⟨i,j,hx,hy,q⟩
 ·exact .inr (.inl h)
 ·exact .inr (.inr h)
noncomputable def jl (live:Bool):D2:=fun x y M=>match x,y with
 | .int i,.int j=>if (small i || small j)=true then .ok (.int (i*j)) M else .bad
 | x,.int k=>match cJ M x with
  | some xs=>if small k=true/\k<2 ^ 62 /\ -(2 ^ 62)<k/\xs.length*k.toNat≤lim then kt live (List.replicate k.toNat xs).flatten M else .bad
  | none=>.bad
 | _,_=>.bad
@[simp] theorem EA {live:Bool} {i j:Int} {M:aC} (h:(small i || small j)=true):jl live (.int i) (.int j) M=.ok (.int (i*j)) M:=by unfold jl; simp only[if_pos h]
theorem k8 (live:Bool):eJ X (binaryOp .Mult) (rP X.K (jl live)):=(Bo.or BM).imp fun x y H Q h=>by
 obtain⟨E,ι,S,M,p,q,aq,rx,ry,w⟩:=h
 have rep:∀{k:Int},q=.int k->(jl live p q M=match cJ M p with
  | some xs=>if small k=true/\k<2 ^ 62 /\ -(2 ^ 62)<k/\xs.length*k.toNat≤lim then kt live (List.replicate k.toNat xs).flatten M else .bad
  | none=>.bad)->Ed x y H Q:=fun {k} e1 e2=>by
  subst e1
  rw[e2] at w
  cases h1:cJ M p with
  | none=>rw[h1] at w; exact w.elim
  | some xs =>
   rw[h1] at w
   obtain⟨l,vs,rfl,e3,r1⟩:=cg aq rx h1
   dsimp only at w
   split at w
   ·rename_i hc
    obtain⟨w1,w2⟩:=hJ aq (r1.rep k.toNat) w
    have hy:=ar.az.mp ry
    subst hy
    refine⟨l,k,vs,rfl,rfl,e3,?_,?_,?_,w2⟩
    ·have:=hc.2.2.1; omega
    ·have:=hc.2.1; omega
    ·rw[← r1.length]; exact hG hc.2.2.2
   ·exact w.elim
 cases q with
 | int j =>
  cases p with
  | int i =>
   left
   simp only[jl] at w
   split at w
   ·rename_i hc
    refine⟨i,j,ar.az.mp rx,ar.az.mp ry,?_,w ι S H _ .refl aq (ar.az.mpr rfl)⟩
    rcases Bool.or_eq_true_iff.mp hc with z | z
    ·exact .inl (of_decide_eq_true z)
    ·exact .inr (of_decide_eq_true z)
   ·exact w.elim
  | _=>exact .inr (rep rfl rfl)
 | _=>cases p<;>exact w.elim
end
end L2
end
section
namespace L2
open PySem PySem.Spec PyProof.Rows
noncomputable def dN {α β:Type} (f:α->Option β):List α->Option (List β)
 | []=>some []
 | x::xs=>match f x,dN f xs with
  | some y,some ys=>some (y::ys)
  | _,_=>none
noncomputable def leaf:PV->Option PyData
 | .bb=>some .none
 | .bl b=>some (.bool b)
 | .int i=>some (.int i)
 | .str x=>if PyData.canLay0 (.str x)=true then some (.str x) else none
 | _=>none
noncomputable def flat (M:aC):Nat->PV->Option PyData
 | 0,x=>leaf x
 | k+1,x=>match x with
  | .lst xs=>(dN (flat M k) xs).map .list
  | .tup xs=>(dN (flat M k) xs).map .tuple
  | .obj n=>match M[n]? with
   | some (.lst xs)=>(dN (flat M k) xs).map .list
   | _=>none
  | x=>leaf x
theorem sA {K:Fg} {ι:List Addr} {S:Hp} {h:Heap} {x:PV} {v:V} {u:Value} {d:PyData} (r:ar K ι S x v) (ru:RelV v u) (e:leaf x=some d):Reads h u d []/\d.canLay0=true/\d.depth=0:=by
 cases x with
 | bb =>
  cases e
  cases ar.eY.mp r
  cases ru
  exact⟨.none,rfl,rfl⟩
 | bl b =>
  cases e
  cases ar.bf.mp r
  cases ru
  exact⟨.bool b,rfl,rfl⟩
 | int i =>
  cases e
  cases ar.az.mp r
  obtain⟨t,rfl⟩:=ru
  exact⟨.int i t,rfl,rfl⟩
 | str z =>
  simp only[leaf] at e
  split at e
  ·rename_i hc
   cases e
   cases ar.jf.mp r
   obtain⟨t,rfl⟩:=ru
   exact⟨.str z t,hc,rfl⟩
  ·cases e
 | _=>cases e
theorem gd {K:Fg} {ι:List Addr} {S:Hp} {h:Heap} {k:Nat} {f:PV->Option PyData}
  (ih:∀x v u d,ar K ι S x v->RelV v u->f x=some d->(∃as,Reads h u d as)/\d.canLay0=true/\d.depth≤k) :
  ∀(xs:List PV) (vs:List V) (us:List Value) (ds:List PyData),au K ι S xs vs->Vals vs us->dN f xs=some ds->(∃as,ReadsAll h us ds as)/\PyData.canLayAll0 ds=true/\PyData.depthAll ds≤k
 | [],vs,us,ds,r,ru,e=>by
  rw[au] at r
  subst r
  cases ru
  cases e
  exact⟨⟨_,.nil⟩,rfl,Nat.zero_le _⟩
 | x::xs,vs,us,ds,r,ru,e=>by
  obtain⟨v,r',rfl,h1,h2⟩:=r.dM
  cases ru with
  | cons q1 q2 =>
   rw[dN] at e
   cases e1:f x with
   | none=>rw[e1] at e; cases e
   | some y =>
    cases e2:dN f xs with
    | none=>rw[e1,e2] at e; cases e
    | some ys =>
     rw[e1,e2] at e
     cases e
     obtain⟨⟨as,a1⟩,a2,a3⟩:=ih x v _ y h1 q1 e1
     obtain⟨⟨bs,b1⟩,b2,b3⟩:=gd ih xs r' _ ys h2 q2 e2
     refine⟨⟨_,.cons a1 b1⟩,?_,?_⟩
     ·rw[PyData.canLayAll0,a2,b2]; rfl
     ·rw[PyData.depthAll]; exact Nat.max_le.mpr ⟨a3,b3⟩
theorem dW {P:Program} {w:World} {K:Fg} {ι:List Addr} {S H:Hp} {M:aC} {h:Heap} (aq:aI K ι S M H) (aX:gK P w H h) :
  ∀(k:Nat) (x:PV) (v:V) (u:Value) (d:PyData),ar K ι S x v->RelV v u->flat M k x=some d->(∃as,Reads h u d as)/\d.canLay0=true/\d.depth≤k
 | 0,x,v,u,d,r,ru,e=>by
  obtain⟨h1,h2,h3⟩:=sA (h:=h) r ru e
  exact⟨⟨_,h1⟩,h2,Nat.le_of_eq h3⟩
 | k+1,x,v,u,d,r,ru,e=>by
  have ih:=dW aq aX k
  have lst:∀{a:Addr} {xs:List PV} {vs:List V},v=.ref a->H a=some (.lst vs)->au K ι S xs vs->(dN (flat M k) xs).map .list=some d->(∃as,Reads h u d as)/\d.canLay0=true/\d.depth≤k+1:=fun {a xs vs} ev eH hr e=>by
   subst ev
   cases ru
   obtain⟨_,aD,n,hv,hg⟩:=aX a _ eH
   cases e2:dN (flat M k) xs with
   | none=>rw[e2] at e; cases e
   | some ds =>
    rw[e2] at e
    cases e
    obtain⟨⟨as,a1⟩,a2,a3⟩:=gd ih xs vs aD ds hr hv e2
    exact⟨⟨_,.list hg rfl rfl (by simpa using a1)⟩,by rw[PyData.canLay0]; exact a2,by rw[PyData.depth]; exact Nat.succ_le_succ a3⟩
  cases x with
  | lst xs =>
   obtain⟨a,vs,ev,eS,hr⟩:=ar.eZ.mp r
   exact lst ev (aq.sub _ _ eS) hr e
  | tup xs =>
   obtain⟨a,vs,rfl,eS,hr⟩:=ar.bA.mp r
   cases ru
   obtain⟨_,aD,hv,o,hg,hc,n,hd⟩:=aX a _ (aq.sub _ _ eS)
   have e:(dN (flat M k) xs).map PyData.tuple=some d:=e
   cases e2:dN (flat M k) xs with
   | none=>rw[e2] at e; cases e
   | some ds =>
    rw[e2] at e
    cases e
    obtain⟨⟨as,a1⟩,a2,a3⟩:=gd ih xs vs aD ds hr hv e2
    exact⟨⟨_,.tuple hg hc hd (by simpa using a1)⟩,by rw[PyData.canLay0]; exact a2,by rw[PyData.depth]; exact Nat.succ_le_succ a3⟩
  | obj n =>
   obtain⟨a,ev,ei⟩:=ar.bh.mp r
   obtain⟨o,eM,mo⟩:=aq.addr ei
   simp only[flat,eM] at e
   cases o with
   | lst xs =>
    obtain⟨_,vs,eH,hr⟩:=mo
    exact lst ev eH hr e
   | _=>cases e
  | _ =>
   obtain⟨h1,h2,h3⟩:=sA (h:=h) r ru e
   exact⟨⟨_,h1⟩,h2,by omega⟩
noncomputable abbrev deep:Nat:=10
section
variable {X:Cx} {Ex:St->XK} {a b c e:Expr} {es:List Expr} {da db dc d:DE} {ds:List DE} {pos:Pos}
noncomputable def gf (neg:Bool):D2:=fun x y M=>match flat M deep x,flat M deep y with
 | some p,some q=>.ok (.bl (if neg then !PyData.eqv p q else PyData.eqv p q)) M
 | _,_=>.bad
theorem sC {K:Fg} {neg:Bool} {x y:V} {H:Hp} {Q:VK} (h:rP K (gf neg) x y H Q) :
  ∃ ι S M p q d1 d2,aI K ι S M H/\ar K ι S p x/\ar K ι S q y/\flat M deep p=some d1/\flat M deep q=some d2/\Q (.bl (if neg then !PyData.eqv d1 d2 else PyData.eqv d1 d2)) H:=by
 obtain⟨E,ι,S,M,p,q,aq,rx,ry,w⟩:=h
 unfold gf at w
 cases e1:flat M deep p with
 | none=>rw[e1] at w; exact w.elim
 | some d1 =>
  cases e2:flat M deep q with
  | none=>rw[e1,e2] at w; exact w.elim
  | some d2 =>
   rw[e1,e2] at w
   exact⟨ι,S,M,p,q,d1,d2,aq,rx,ry,e1,e2,w ι S H _ .refl aq (ar.bf.mpr rfl)⟩
theorem fP (hu:X.A.units+64<cLine):eJ X (compareOp .Eq) (rP X.K (gf false)):=by
 intro pins s σ H x y v u Q I rx ry h
 obtain⟨ι,S,M,p,q,d1,d2,aq,px,py,e1,e2,w⟩:=sC h
 obtain⟨⟨as,a1⟩,a2,a3⟩:=dW aq I.aX deep p x v d1 px rx e1
 obtain⟨⟨bs,b1⟩,b2,b3⟩:=dW aq I.aX deep q y u d2 py ry e2
 exact SeqAt.compareEq_reads a1 b1 a2 b2 (by have:=Nat.min_le_left d1.depth d2.depth; have:d1.depth≤10:=a3; omega) ⟨.bl _,H,I,rfl,w⟩
theorem jR (hu:X.A.units+64<cLine):eJ X (compareOp .NotEq) (rP X.K (gf true)):=by
 intro pins s σ H x y v u Q I rx ry h
 obtain⟨ι,S,M,p,q,d1,d2,aq,px,py,e1,e2,w⟩:=sC h
 obtain⟨⟨as,a1⟩,a2,a3⟩:=dW aq I.aX deep p x v d1 px rx e1
 obtain⟨⟨bs,b1⟩,b2,b3⟩:=dW aq I.aX deep q y u d2 py ry e2
 exact SeqAt.compareNe_reads a1 b1 a2 b2 (by have:=Nat.min_le_left d1.depth d2.depth; have:d1.depth≤10:=a3; omega) ⟨.bl _,H,I,rfl,w⟩
noncomputable def jS:PV->Option Key
 | .int i=>some (.inl i)
 | .str x=>some (.inr x)
 | _=>none
noncomputable def sD:PV->Option (List Key)
 | .tup xs=>dN jS xs
 | _=>none
noncomputable def nS {κ:Type} [DecidableEq κ] (aw:List (κ×PV)) (k:κ):Option PV:=(aw.find? fun kv=>decide (kv.1=k)).map (·.2)
noncomputable def ur {κ:Type} [DecidableEq κ] (aw:List (κ×PV)) (k:κ) (v:PV):List (κ×PV) :=
 if aw.any (fun kv=>decide (kv.1=k)) then aw.map (fun kv=>if kv.1=k then(kv.1,v) else kv) else aw++[(k,v)]
theorem jm {K:Fg} {ι:List Addr} {S:Hp} {x:PV} {v:V} {k:Key} (r:ar K ι S x v) (e:jS x=some k):v=kV k:=by
 cases x with
 | int i=>cases e; exact ar.az.mp r
 | str z=>cases e; exact ar.jf.mp r
 | _=>cases e
theorem jT {K:Fg} {ι:List Addr} {S:Hp}:∀{xs:List PV} {vs:List V} {ks:List Key},au K ι S xs vs->dN jS xs=some ks->vs=ks.map kV
 | [],vs,ks,r,e=>by rw[au] at r; subst r; cases e; rfl
 | x::xs,vs,ks,r,e=>by
  obtain⟨v,r',rfl,h1,h2⟩:=r.dM
  rw[dN] at e
  cases e1:jS x with
  | none=>rw[e1] at e; cases e
  | some k =>
   cases e2:dN jS xs with
   | none=>rw[e1,e2] at e; cases e
   | some jU =>
    rw[e1,e2] at e
    cases e
    rw[zC,← jm h1 e1,← jT h2 e2]
theorem bX.val {K:Fg} {ι:List Addr} {S:Hp} {κ:Type} [DecidableEq κ] {aw:List (κ×PV)} {eN:List (κ×V)} (h:bX K ι S aw eN) (k:κ) :
  (nS aw k=none/\gZ eN k=none)\/∃x v,nS aw k=some x/\gZ eN k=some v/\ar K ι S x v:=by
 induction h with
 | nil=>exact .inl ⟨rfl,rfl⟩
 | @cons p q aw eN r t ih =>
  obtain⟨r1,r2⟩:=r
  by_cases e:p.1=k
  ·refine .inr ⟨p.2,q.2,by simp[nS,List.find?_cons,e],by rw[i8 (r1 ▸ e)],r2⟩
  ·have e':¬q.1=k:=r1 ▸ e
   have h1:nS (p::aw) k=nS aw k:=by simp[nS,List.find?_cons,e]
   rw[h1,i9 e']
   exact ih
theorem bX.any {K:Fg} {ι:List Addr} {S:Hp} {κ:Type} [DecidableEq κ] {aw:List (κ×PV)} {eN:List (κ×V)} (h:bX K ι S aw eN) (k:κ):aw.any (fun kv=>decide (kv.1=k))=eN.any (fun kv=>decide (kv.1=k)):=by
 induction h with
 | nil=>rfl
 | cons r t ih=>rw[List.any_cons,List.any_cons,r.1,ih]
theorem bX.put {K:Fg} {ι:List Addr} {S:Hp} {κ:Type} [DecidableEq κ] {aw:List (κ×PV)} {eN:List (κ×V)} (h:bX K ι S aw eN) (k:κ) {x:PV} {v:V} (r:ar K ι S x v):bX K ι S (ur aw k x) (putK eN k v):=by
 unfold ur putK
 rw[h.any k]
 split
 ·induction h with
  | nil=>exact .nil
  | @cons p q aw eN r' t ih =>
   rw[zC,zC]
   refine .cons ?_ ?_
   ·by_cases e:p.1=k
    ·rw[if_pos e,if_pos (r'.1 ▸ e)]; exact⟨r'.1,r⟩
    ·rw[if_neg e,if_neg (r'.1 ▸ e)]; exact r'
   ·rename_i hq
    clear ih hq
    induction t with
    | nil=>exact .nil
    | @cons p q aw eN r' t ih =>
     rw[zC,zC]
     refine .cons ?_ ih
     by_cases e:p.1=k
     ·rw[if_pos e,if_pos (r'.1 ▸ e)]; exact⟨r'.1,r⟩
     ·rw[if_neg e,if_neg (r'.1 ▸ e)]; exact r'
 ·induction h with
  | nil=>exact .cons ⟨rfl,r⟩ .nil
  | cons r' t ih =>
   rename_i hq
   refine .cons r' (ih ?_)
   intro z
   exact hq (by rw[List.any_cons,z,Bool.or_true])
noncomputable def getD (M:aC) (x k:PV):Option (Option PV):=match x with
 | .obj n=>match M[n]? with
  | some (.iH aw)=>(jS k).map (nS aw)
  | some (.vj aw)=>(sD k).map (nS aw)
  | some (.Ax aw)=>(jS k).map (nS aw)
  | _=>none
 | _=>none
theorem pq {K:Fg} {ι:List Addr} {S H:Hp} {M:aC} {x k:PV} {v y:V} {o:Option PV} (aq:aI K ι S M H) (r:ar K ι S x v) (ry:ar K ι S k y) (h:getD M x k=some o) :
  ∃p ov,v=.ref p/\Kd H p/\jM H p y ov/\((o=none/\ov=none)\/∃z w,o=some z/\ov=some w/\ar K ι S z w):=by
 cases x with
 | obj n =>
  obtain⟨p,rfl,ei⟩:=ar.bh.mp r
  obtain⟨mo,eM,q⟩:=aq.addr ei
  simp only[getD,eM] at h
  cases mo with
  | iH aw =>
   obtain⟨_,eN,eH,rk⟩:=q
   dsimp only at h
   cases ek:jS k with
   | none=>rw[ek] at h; cases h
   | some kk =>
    rw[ek] at h
    cases h
    have:=jm ry ek
    subst this
    refine⟨p,gZ eN kk,rfl,.inl ⟨eN,.inl eH⟩,jM.k eH,?_⟩
    rcases rk.val kk with⟨h1,h2⟩ | ⟨z,w,h1,h2,h3⟩
    ·exact .inl ⟨h1,h2⟩
    ·exact .inr ⟨z,w,h1,h2,h3⟩
  | vj aw =>
   obtain⟨_,eN,eH,rk⟩:=q
   dsimp only at h
   cases k with
   | tup xs =>
    obtain⟨b,vs,rfl,eS,hr⟩:=ar.bA.mp ry
    simp only[sD] at h
    cases ek:dN jS xs with
    | none=>rw[ek] at h; cases h
    | some kk =>
     rw[ek] at h
     cases h
     have:=jT hr ek
     subst this
     refine⟨p,gZ eN kk,rfl,.inr ⟨eN,.inl eH⟩,jM.t eH (aq.sub _ _ eS),?_⟩
     rcases rk.val kk with⟨h1,h2⟩ | ⟨z,w,h1,h2,h3⟩
     ·exact .inl ⟨h1,h2⟩
     ·exact .inr ⟨z,w,h1,h2,h3⟩
   | _=>cases h
  | Ax aw =>
   obtain⟨ob,eN,_,eH,rk⟩:=q
   dsimp only at h
   cases ek:jS k with
   | none=>rw[ek] at h; cases h
   | some kk =>
    rw[ek] at h
    cases h
    have:=jm ry ek
    subst this
    refine⟨p,gZ eN kk,rfl,.inl ⟨eN,.inr ⟨ob,eH⟩⟩,.inl ⟨eN,kk,.inr ⟨ob,eH⟩,rfl,rfl⟩,?_⟩
    rcases rk.val kk with⟨h1,h2⟩ | ⟨z,w,h1,h2,h3⟩
    ·exact .inl ⟨h1,h2⟩
    ·exact .inr ⟨z,w,h1,h2,h3⟩
  | _=>cases h
 | _=>cases h
noncomputable def pv (neg:Bool):D2:=fun x y M=>match ji M y with
 | some ys=>match flat M deep x,dN (flat M deep) ys with
  | some p,some qs=>.ok (.bl (if neg then !qs.any (fun q=>PyData.eqv q p) else qs.any (fun q=>PyData.eqv q p))) M
  | _,_=>.bad
 | none=>match getD M y x with
  | some o=>.ok (.bl (if neg then !o.isSome else o.isSome)) M
  | none=>.bad
theorem wy (neg:Bool) (hu:X.A.units+64<cLine) {op:CmpOp}
  (hL:∀{s:Shared} {c x:Value} {xs:List PyData} {d:PyData} {as bs:List Addr} {Q:Value->Shared->Prop} (rc:Reads s.heap c (.list xs) as) (rx:Reads s.heap x d bs) (yT:PyData.canLayAll0 xs=true) (hd:d.canLay0=true)
   (hu:X.A.units+1+min (PyData.depthAll xs) d.depth<cLine) (h:Q (.bool (if neg then !xs.any (fun y=>PyData.eqv y d) else xs.any fun y=>PyData.eqv y d)) s),wpAny (model X.prog X.w) X.A (compareOp op x c) Q X.xe s)
  (hT:∀{s:Shared} {c x:Value} {xs:List PyData} {d:PyData} {as bs:List Addr} {Q:Value->Shared->Prop} (rc:Reads s.heap c (.tuple xs) as) (rx:Reads s.heap x d bs) (yT:PyData.canLayAll0 xs=true) (hd:d.canLay0=true)
   (hu:X.A.units+1+min (PyData.depthAll xs) d.depth<cLine) (h:Q (.bool (if neg then !xs.any (fun y=>PyData.eqv y d) else xs.any fun y=>PyData.eqv y d)) s),wpAny (model X.prog X.w) X.A (compareOp op x c) Q X.xe s)
  (hD:∀{pins:List (Addr×Obj)} {s:Shared} {σ:St} {H:Hp} {p:Addr} {y:V} {u:Value} {o:Option V} {Q:Value->Shared->Prop},Inv X pins σ H s->jM H p y o->RelV y u->(∀s',Inv X pins σ H s'->Q (.bool (if neg then !o.isSome else o.isSome)) s') →
   wpAny (model X.prog X.w) X.A (compareOp op u (.ref p)) Q X.xe s):eJ X (compareOp op) (rP X.K (pv neg)):=by
 intro pins s σ H x y v u Q I rx ry h
 obtain⟨E,ι,S,M,p,q,aq,px,py,w⟩:=h
 unfold pv at w
 cases e1:ji M q with
 | some ys =>
  rw[e1] at w
  dsimp only at w
  cases e2:flat M deep p with
  | none=>rw[e2] at w; exact w.elim
  | some d =>
   cases e3:dN (flat M deep) ys with
   | none=>rw[e2,e3] at w; exact w.elim
   | some qs =>
    rw[e2,e3] at w
    have fin:=w ι S H _ .refl aq (ar.bf.mpr rfl)
    obtain⟨⟨as,a1⟩,a2,a3⟩:=dW aq I.aX deep p x v d px rx e2
    obtain⟨l,vs,rfl,hq,rs⟩:=jk aq py e1
    cases ry
    have room:X.A.units+1+min (PyData.depthAll qs) d.depth<cLine:=by have:=Nat.min_le_right (PyData.depthAll qs) d.depth; have:d.depth≤10:=a3; omega
    rcases hq with hq | hq
    ·obtain⟨aD,rv,pl,hz⟩:=I.list hq
     obtain⟨⟨bs,b1⟩,b2,b3⟩:=gd (dW aq I.aX deep) ys vs aD qs rs rv e3
     obtain⟨o,n,ho,hc,_,hd⟩:=pl
     exact hL (.list ho hc hd (by simpa using b1)) a1 b2 a2 room ⟨.bl _,H,I,rfl,fin⟩
    ·obtain⟨aD,rv,pl,hz⟩:=I.tuple hq
     obtain⟨⟨bs,b1⟩,b2,b3⟩:=gd (dW aq I.aX deep) ys vs aD qs rs rv e3
     obtain⟨o,ho,hc,n,hd⟩:=pl
     exact hT (.tuple ho hc hd (by simpa using b1)) a1 b2 a2 room ⟨.bl _,H,I,rfl,fin⟩
 | none =>
  rw[e1] at w
  dsimp only at w
  cases e2:getD M q p with
  | none=>rw[e2] at w; exact w.elim
  | some o =>
   rw[e2] at w
   have fin:=w ι S H _ .refl aq (ar.bf.mpr rfl)
   obtain⟨l,ov,rfl,_,g,hh⟩:=pq aq py px e2
   cases ry
   have eo:o.isSome=ov.isSome:=by
    rcases hh with⟨h1,h2⟩ | ⟨z,w',h1,h2,_⟩
    ·rw[h1,h2]; rfl
    ·rw[h1,h2]; rfl
   rw[eo] at fin
   exact hD I g rx fun s' I'=>⟨.bl _,H,I',rfl,fin⟩
theorem nT (hu:X.A.units+64<cLine):eJ X (compareOp .In) (rP X.K (pv false)) :=
 wy false hu (fun rc rx yT hd hu h=>SeqAt.in_list_reads rc rx yT hd hu h) (fun rc rx yT hd hu h=>SeqAt.in_tuple_reads rc rx yT hd hu h) fun I g ry h=>G9 (by omega) I g ry h
theorem yU (hu:X.A.units+64<cLine):eJ X (compareOp .NotIn) (rP X.K (pv true)) :=
 wy true hu (fun rc rx yT hd hu h=>SeqAt.notIn_list_reads rc rx yT hd hu h) (fun rc rx yT hd hu h=>SeqAt.notIn_tuple_reads rc rx yT hd hu h) fun I g ry h=>yD (by omega) I g ry h
noncomputable def sE:D2:=gb (fun _ _=>true) fun i j=>.bl (decide (i<j))
noncomputable def oT:D2:=gb (fun _ _=>true) fun i j=>.bl (decide (i≤j))
noncomputable def jV:D2:=gb (fun _ _=>true) fun i j=>.bl (decide (j<i))
noncomputable def FV:D2:=gb (fun _ _=>true) fun i j=>.bl (decide (j≤i))
theorem nU:eJ X (compareOp .Lt) (rP X.K sE):=DQ.imp fun x y H Q h=>by
 obtain⟨i,j,rfl,rfl,_,ι,S,M,aq,k⟩:=fe h
 exact⟨i,j,rfl,rfl,k _ (ar.bf.mpr rfl)⟩
theorem lH:eJ X (compareOp .LtE) (rP X.K oT):=DR.imp fun x y H Q h=>by
 obtain⟨i,j,rfl,rfl,_,ι,S,M,aq,k⟩:=fe h
 exact⟨i,j,rfl,rfl,k _ (ar.bf.mpr rfl)⟩
theorem hU:eJ X (compareOp .Gt) (rP X.K jV):=DU.imp fun x y H Q h=>by
 obtain⟨i,j,rfl,rfl,_,ι,S,M,aq,k⟩:=fe h
 exact⟨i,j,rfl,rfl,k _ (ar.bf.mpr rfl)⟩
theorem B0:eJ X (compareOp .GtE) (rP X.K FV):=DV.imp fun x y H Q h=>by
 obtain⟨i,j,rfl,rfl,_,ι,S,M,aq,k⟩:=fe h
 exact⟨i,j,rfl,rfl,k _ (ar.bf.mpr rfl)⟩
noncomputable def lI:PV->Bool
 | .bb=>true
 | _=>false
theorem uu {K:Fg} {ι:List Addr} {S:Hp} {x:PV} {v:V} (r:ar K ι S x v):decide (v=.bb)=lI x:=by
 cases x with
 | bb=>cases ar.eY.mp r; rfl
 | bl b=>cases ar.bf.mp r; rfl
 | int i=>cases ar.az.mp r; rfl
 | str z=>cases ar.jf.mp r; rfl
 | lst xs=>obtain⟨p,vs,rfl,_⟩:=ar.eZ.mp r; rfl
 | tup xs=>obtain⟨p,vs,rfl,_⟩:=ar.bA.mp r; rfl
 | obj n=>obtain⟨p,rfl,_⟩:=ar.bh.mp r; rfl
 | dU n=>obtain⟨p,rfl,_⟩:=ar.jg.mp r; rfl
noncomputable def B1 (neg:Bool):D2:=fun x y M=>match y with
 | .bb=>.ok (.bl (if neg then !lI x else lI x)) M
 | _=>.bad
theorem wz:eJ X (compareOp .Is) (rP X.K (B1 false)):=Bs.imp fun x y H Q h=>by
 obtain⟨E,ι,S,M,p,q,aq,rx,ry,w⟩:=h
 cases q with
 | bb =>
  refine⟨ar.eY.mp ry,?_⟩
  rw[uu rx]
  exact w ι S H _ .refl aq (ar.bf.mpr rfl)
 | _=>exact w.elim
theorem qS {op:CmpOp} {f:D2} (ho:eJ X (compareOp op) (rP X.K f)) (ha:VE X Ex a da) (hb:VE X Ex b db) (hm:behindInMarks op b=false:=by rfl):VE X Ex (.Compare a [op] [b] pos) (aA f da db):=⟨PE.imp (yw ho ha.out hb.out hm) fun _ _ _ h=>sv h⟩
noncomputable def kM (M:aC):PV->Option Bool
 | .bb=>some false
 | .bl b=>some b
 | .int i=>some (i != 0)
 | .str x=>if x.length≤lim then some ((x.length:Int) != 0) else none
 | .lst xs=>some !xs.isEmpty
 | .tup xs=>some !xs.isEmpty
 | .dU ns=>some !ns.isEmpty
 | .obj n=>match M[n]? with
  | some (.lst xs)=>some !xs.isEmpty
  | some (.iH aw)=>some !aw.isEmpty
  | _=>none
theorem isEmpty_eq {α β:Type} {xs:List α} {ys:List β} (h:xs.length=ys.length):xs.isEmpty=ys.isEmpty:=by cases xs<;>cases ys<;>simp_all
theorem wA {K:Fg} {ι:List Addr} {S H:Hp} {M:aC} {x:PV} {v:V} {k:Bool} (aq:aI K ι S M H) (r:ar K ι S x v) (h:kM M x=some k):Bt K v H k:=by
 cases x with
 | bb=>cases ar.eY.mp r; cases h; rfl
 | bl b=>cases ar.bf.mp r; cases h; rfl
 | int i=>cases ar.az.mp r; cases h; rfl
 | str z =>
  cases ar.jf.mp r
  simp only[kM] at h
  split at h
  ·cases h
   rename_i hl
   exact⟨hG hl,rfl⟩
  ·cases h
 | lst xs =>
  obtain⟨p,vs,rfl,e,q⟩:=ar.eZ.mp r
  cases h
  exact .inl ⟨vs,.of (aq.sub _ _ e),by rw[isEmpty_eq q.length]⟩
 | tup xs =>
  obtain⟨p,vs,rfl,e,q⟩:=ar.bA.mp r
  cases h
  exact .inr (.inl ⟨vs,.of (aq.sub _ _ e),by rw[isEmpty_eq q.length]⟩)
 | dU ns =>
  obtain⟨p,rfl,e⟩:=ar.jg.mp r
  cases h
  exact .inl ⟨_,e.mono aq.sub,by rw[isEmpty_eq (by simp:ns.length=(ns.map V.int).length)]⟩
 | obj n =>
  obtain⟨p,rfl,e⟩:=ar.bh.mp r
  obtain⟨o,eM,q⟩:=aq.addr e
  simp only[kM,eM] at h
  cases o with
  | lst xs =>
   cases h
   obtain⟨_,vs,e,q⟩:=q
   exact .inl ⟨vs,.of e,by rw[isEmpty_eq q.length]⟩
  | iH xs =>
   cases h
   obtain⟨_,vs,e,q⟩:=q
   exact .inr (.inr ⟨vs,e,by rw[isEmpty_eq q.length]⟩)
  | _=>cases h
noncomputable def qT (d:DE):DT:=fun ρ M=>(d ρ M).bind fun x M1=>Res.opt (kM M1 x) M1
theorem jn (ha:VE X Ex a da) (he:∀whole,isTrue a X.env whole=(do let v ← whole; standAt a.pos; holding [v] (truthy v)):=by intro _; rfl):VT X Ex a (qT da):=⟨by
 refine PT.imp (vH ha.out he) fun σ H Q h=>?_
 obtain⟨ι,S,M,ρ,aq,sl,w⟩:=h
 refine⟨ι,S,M,ρ,aq,sl,aP.bind (Rp:=cT X.K) w fun ι1 S1 M1 H1 x v e1 s1 r1 w1=>?_⟩
 cases e:kM M1 x with
 | none=>rw[e] at w1; exact w1.elim
 | some k =>
  rw[e] at w1
  exact⟨k,wA s1 r1 e,w1 ι1 S1 H1 k .refl s1 rfl⟩⟩
noncomputable def bu (d:DE):DT:=fun ρ M=>(d ρ M).bind fun x M1=>match x with
 | .bl k=>.ok k M1
 | _=>.bad
theorem wB {K:Fg} {σ:St} {H:Hp} {Q:Bool->Hp->Prop} {t:TE} (h:tG K wg Ex (bu d) σ H Q) (hd:∀Q',tG K (cT K) Ex d σ H Q'->t σ H Q'):vE t σ H Q:=by
 obtain⟨ι,S,M,ρ,aq,sl,w⟩:=h
 refine hd _ ⟨ι,S,M,ρ,aq,sl,?_⟩
 refine aP.bind (Rp:=cT K) w fun ι1 S1 M1 H1 x v e1 s1 r1 w1=>?_
 cases x with
 | bl k=>exact⟨k,ar.bf.mp r1,w1 ι1 S1 H1 k .refl s1 rfl⟩
 | _=>exact w1.elim
theorem aR {op:CmpOp} {f:D2} (ho:eJ X (compareOp op) (rP X.K f)) (ha:VE X Ex a da) (hb:VE X Ex b db) (hm:behindInMarks op b=false:=by rfl) :
  VT X Ex (.Compare a [op] [b] pos) (bu (aA f da db)):=⟨PT.imp (yx ho ha.out hb.out hm) fun σ H Q h=>wB h fun Q' h'=>sv h'⟩
noncomputable def fg (f g:D2) (da db dc:DE):DE:=fun ρ M=>(da ρ M).bind fun x M1=>(db ρ M1).bind fun y M2=>(f x y M2).bind fun z M3=>match z with
 | .bl true=>(dc ρ M3).bind fun w M4=>g y w M4
 | .bl false=>.ok (.bl false) M3
 | _=>.bad
theorem pw {f g:D2} {K:Fg} {σ:St} {H:Hp} {Q:VK} (h:tG K (cT K) Ex (fg f g da db dc) σ H Q):qC (rP K f) (rP K g) (tG K (cT K) Ex da) (tG K (cT K) Ex db) (tG K (cT K) Ex dc) σ H Q:=by
 obtain⟨ι,S,M,ρ,aq,sl,w⟩:=h
 refine⟨ι,S,M,ρ,aq,sl,aP.bind (Rp:=cT K) w fun ι1 S1 M1 H1 x v e1 s1 r1 w1=>?_⟩
 refine⟨ι1,S1,M1,ρ,s1,sl.mono e1,aP.bind (Rp:=cT K) w1 fun ι2 S2 M2 H2 y u e2 s2 r2 w2=>?_⟩
 refine⟨_,ι2,S2,M2,x,y,s2,ar.mono e2 r1,r2,aP.bind (Rp:=cT K) w2 fun ι3 S3 M3 H3 z t e3 s3 r3 w3=>?_⟩
 cases z with
 | bl k =>
  refine⟨k,ar.bf.mp r3,?_⟩
  cases k with
  | false=>exact qM (w3 ι3 S3 H3 _ .refl s3 (ar.bf.mpr rfl))
  | true =>
   refine qN ⟨ι3,S3,M3,ρ,s3,(sl.mono e1).mono (e2.trans e3),aP.bind (Rp:=cT K) w3 fun ι4 S4 M4 H4 c t4 e4 s4 r4 w4=>?_⟩
   exact⟨_,ι4,S4,M4,y,c,s4,ar.mono (e3.trans e4) r2,r4,w4⟩
 | _=>exact w3.elim
theorem pz {op qD:CmpOp} {f g:D2} (ho:eJ X (compareOp op) (rP X.K f)) (mS:eJ X (compareOp qD) (rP X.K g)) (ha:VE X Ex a da) (hb:VE X Ex b db) (hc:VE X Ex c dc)
  (hm:lastMarks [op,qD] [b,c]=false:=by with_unfolding_all rfl):VE X Ex (.Compare a [op,qD] [b,c] pos) (fg f g da db dc):=⟨PE.imp (vF ho mS ha.out hb.out hc.out hm) fun _ _ _ h=>pw h⟩
theorem wC {op qD:CmpOp} {f g:D2} (ho:eJ X (compareOp op) (rP X.K f)) (mS:eJ X (compareOp qD) (rP X.K g)) (ha:VE X Ex a da) (hb:VE X Ex b db) (hc:VE X Ex c dc)
  (hm:lastMarks [op,qD] [b,c]=false:=by with_unfolding_all rfl):VT X Ex (.Compare a [op,qD] [b,c] pos) (bu (fg f g da db dc)):=⟨PT.imp (vG ho mS ha.out hb.out hc.out hm) fun σ H Q h=>wB h fun Q' h'=>pw h'⟩
variable {ta tb tc:DT} {rest:List Expr}
noncomputable def B2 (ta tb:DT):DT:=fun ρ M=>(ta ρ M).bind fun k M1=>if k=true then tb ρ M1 else .ok false M1
noncomputable def Ay (ta tb:DT):DT:=fun ρ M=>(ta ρ M).bind fun k M1=>if k=true then .ok true M1 else tb ρ M1
noncomputable def yV (ta:DT):DT:=fun ρ M=>(ta ρ M).bind fun k M1=>.ok (!k) M1
theorem yW (h:VT X Ex a ta):VW X Ex (.BoolOp .And [a] pos) ta:=⟨yh h.out⟩
theorem jW (h:VT X Ex a ta):VW X Ex (.BoolOp .Or [a] pos) ta:=⟨A7 h.out⟩
theorem B3 (ha:VT X Ex a ta) (hb:VW X Ex (.BoolOp .And (b::rest) pos) tb):VW X Ex (.BoolOp .And (a::b::rest) pos) (B2 ta tb):=⟨by
 refine PW.imp (A8 ha.out hb.out) fun σ H Q h=>?_
 obtain⟨ι,S,M,ρ,aq,sl,w⟩:=h
 refine⟨ι,S,M,ρ,aq,sl,aP.bind (Rp:=wg) w fun ι1 S1 M1 H1 x v e1 s1 r1 w1=>?_⟩
 cases r1
 cases x with
 | false=>exact qM (w1 ι1 S1 H1 false .refl s1 rfl)
 | true=>exact qN ⟨ι1,S1,M1,ρ,s1,sl.mono e1,w1⟩⟩
theorem nh (ha:VT X Ex a ta) (hb:VW X Ex (.BoolOp .Or (b::rest) pos) tb):VW X Ex (.BoolOp .Or (a::b::rest) pos) (Ay ta tb):=⟨by
 refine PW.imp (Dr ha.out hb.out) fun σ H Q h=>?_
 obtain⟨ι,S,M,ρ,aq,sl,w⟩:=h
 refine⟨ι,S,M,ρ,aq,sl,aP.bind (Rp:=wg) w fun ι1 S1 M1 H1 x v e1 s1 r1 w1=>?_⟩
 cases r1
 cases x with
 | true=>exact qN (w1 ι1 S1 H1 true .refl s1 rfl)
 | false=>exact qM ⟨ι1,S1,M1,ρ,s1,sl.mono e1,w1⟩⟩
theorem wD (ha:VT X Ex a ta):VT X Ex (.UnaryOp .Not a pos) (yV ta):=⟨by
 refine PT.imp (A9 ha.out) fun σ H Q h=>?_
 obtain⟨ι,S,M,ρ,aq,sl,w⟩:=h
 refine⟨ι,S,M,ρ,aq,sl,aP.bind (Rp:=wg) w fun ι1 S1 M1 H1 x v e1 s1 r1 w1=>?_⟩
 cases r1
 exact w1 ι1 S1 H1 _ .refl s1 rfl⟩
noncomputable def jo (da db:DE):DE:=fun ρ M=>(da ρ M).bind fun x M1=>match x with
 | .bl true=>db ρ M1
 | .bl false=>.ok (.bl false) M1
 | _=>.bad
noncomputable def wF (da:DE):DE:=fun ρ M=>(da ρ M).bind fun x M1=>match x with
 | .bl k=>.ok (.bl (!k)) M1
 | _=>.bad
theorem qU {op} (h:VE X Ex a da):VE X Ex (.BoolOp op [a] pos) da:=⟨Ba h.out⟩
theorem nV (ha:VE X Ex a da) (hb:VE X Ex (.BoolOp .And (b::rest) pos) db):VE X Ex (.BoolOp .And (a::b::rest) pos) (jo da db):=⟨by
 refine PE.imp (Bb ha.out hb.out) fun σ H Q h=>?_
 obtain⟨ι,S,M,ρ,aq,sl,w⟩:=h
 refine⟨ι,S,M,ρ,aq,sl,aP.bind (Rp:=cT X.K) w fun ι1 S1 M1 H1 x v e1 s1 r1 w1=>?_⟩
 cases x with
 | bl k =>
  refine⟨k,ar.bf.mp r1,?_⟩
  cases k with
  | false=>exact qM (w1 ι1 S1 H1 _ .refl s1 (ar.bf.mpr rfl))
  | true=>exact qN ⟨ι1,S1,M1,ρ,s1,sl.mono e1,w1⟩
 | _=>exact w1.elim⟩
theorem B4 (ha:VE X Ex a da):VE X Ex (.UnaryOp .Not a pos) (wF da):=⟨by
 refine PE.imp (Bc ha.out) fun σ H Q h=>?_
 obtain⟨ι,S,M,ρ,aq,sl,w⟩:=h
 refine⟨ι,S,M,ρ,aq,sl,aP.bind (Rp:=cT X.K) w fun ι1 S1 M1 H1 x v e1 s1 r1 w1=>?_⟩
 cases x with
 | bl k=>exact⟨k,ar.bf.mp r1,w1 ι1 S1 H1 _ .refl s1 (ar.bf.mpr rfl)⟩
 | _=>exact w1.elim⟩
noncomputable def Hs (tc:DT) (da db:DE):DE:=fun ρ M=>(tc ρ M).bind fun k M1=>if k=true then da ρ M1 else db ρ M1
theorem EB (hc:VT X Ex c tc) (ha:VE X Ex a da) (hb:VE X Ex b db):VE X Ex (.IfExp c a b pos) (Hs tc da db):=⟨by
 refine PE.imp (vA hc.out ha.out hb.out) fun σ H Q h=>?_
 obtain⟨ι,S,M,ρ,aq,sl,w⟩:=h
 refine⟨ι,S,M,ρ,aq,sl,aP.bind (Rp:=wg) w fun ι1 S1 M1 H1 x v e1 s1 r1 w1=>?_⟩
 cases r1
 cases x with
 | true=>exact qN ⟨ι1,S1,M1,ρ,s1,sl.mono e1,w1⟩
 | false=>exact qM ⟨ι1,S1,M1,ρ,s1,sl.mono e1,w1⟩⟩
end
end L2
end
section
namespace L2
open PySem PySem.Spec PyProof.Rows
section
variable {X:Cx} {Ex:St->XK} {a b c e o:Expr} {es:List Expr} {da db dc d jX:DE} {ds:List DE} {pos apos bC:Pos}
theorem yX (hu:X.A.units+64<cLine):yK X (fun x y H Q=>∃p v,x=.ref p/\jM H p y (some v)/\Q v H):=by
 intro value slice pins s σ H x y v u Q I rx ry h hs
 obtain⟨p,z,rfl,g,q⟩:=h
 cases rx
 exact tail_any (o9 I g) PySem.F.slot_dict_getitem.lookup (uf (by omega) I g ry fun w' s3 I3 yB=>⟨z,H,I3,yB,q⟩) hs
noncomputable def cK:D2:=fun x y M=>match ji M x with
 | some xs=>match y with
  | .int i=>Res.opt (vf xs i) M
  | _=>.bad
 | none=>match getD M x y with
  | some (some z)=>.ok z M
  | _=>.bad
theorem wG {K:Fg} {ι:List Addr} {S:Hp} {xs:List PV} {vs:List V} {i:Int} {x:PV} (r:au K ι S xs vs) (h:vf xs i=some x):∃v,vf vs i=some v/\ar K ι S x v:=by
 unfold vf at h ⊢
 rw[← r.length]
 cases e:sh xs.length i with
 | none=>rw[e] at h; cases h
 | some j =>
  rw[e] at h
  exact r.get h
theorem Ht (hu:X.A.units+64<cLine):yK X (rP X.K cK):=by
 have base:=(yL (X:=X)).or (fO.or (yX hu))
 intro value slice pins s σ H x y v u Q I rx ry h hs
 refine base value slice pins s σ H x y v u Q I rx ry ?_ hs
 obtain⟨E,ι,S,M,p,q,aq,px,py,w⟩:=h
 unfold cK at w
 cases e1:ji M p with
 | some xs =>
  rw[e1] at w
  dsimp only at w
  cases q with
  | int i =>
   dsimp only at w
   cases e2:vf xs i with
   | none=>rw[e2] at w; exact w.elim
   | some z =>
    rw[e2] at w
    obtain⟨l,vs,rfl,hq,rs⟩:=jk aq px e1
    obtain⟨z',h1,h2⟩:=wG rs e2
    have fin:=w ι S H z' .refl aq h2
    rcases hq with hq | hq
    ·exact .inl ⟨l,vs,i,z',rfl,ar.az.mp py,hq,h1,fin⟩
    ·exact .inr (.inl ⟨l,vs,i,z',rfl,ar.az.mp py,hq,h1,fin⟩)
  | _=>exact w.elim
 | none =>
  rw[e1] at w
  dsimp only at w
  cases e2:getD M p q with
  | none=>rw[e2] at w; exact w.elim
  | some oo =>
   cases oo with
   | none=>rw[e2] at w; exact w.elim
   | some z =>
    rw[e2] at w
    obtain⟨l,ov,rfl,_,g,hh⟩:=pq aq px py e2
    rcases hh with⟨h1,_⟩ | ⟨z',w',h1,h2,h3⟩
    ·cases h1
    ·cases h1
     subst h2
     exact .inr (.inr ⟨l,w',rfl,g,w ι S H w' .refl aq h3⟩)
theorem bM (hu:X.A.units+64<cLine) (ha:VE X Ex a da) (hb:VE X Ex b db) (hs:sk b:=by intro _ _; rfl):VE X Ex (.Subscript a b pos) (aA cK da db):=⟨PE.imp (Ea (Ht hu) ha.out hb.out hs) fun _ _ _ h=>sv h⟩
noncomputable abbrev DO:=cI->aC->Res (Option Int)
noncomputable abbrev Hu:List Addr->Hp->Option Int->Option Int->Prop:=fun _ _ x v=>v=x
structure VO (X:Cx) (Ex:St->XK) (e:Option Expr) (d:DO):Prop where
 out:PO X e (tG X.K Hu Ex d)
theorem PO.imp {e:Option Expr} {t t':TO} (h:PO X e t) (i:∀ σ H Q,t' σ H Q->t σ H Q):PO X e t':=fun pins s σ H Q I hw=>h pins s σ H Q I (i σ H Q hw)
noncomputable def cX:DO:=fun _ M=>.ok none M
noncomputable def gM (d:DE):DO:=fun ρ M=>(d ρ M).bind fun x M1=>match x with
 | .int i=>.ok (some i) M1
 | _=>.bad
theorem jq:VO X Ex none cX:=⟨by
 refine PO.imp yH fun σ H Q h=>?_
 obtain⟨ι,S,M,ρ,aq,sl,w⟩:=h
 exact w ι S H none .refl aq rfl⟩
theorem jr (h:VE X Ex e d):VO X Ex (some e) (gM d):=⟨by
 refine PO.imp (yI h.out) fun σ H Q h=>?_
 obtain⟨ι,S,M,ρ,aq,sl,w⟩:=h
 refine⟨ι,S,M,ρ,aq,sl,aP.bind (Rp:=cT X.K) w fun ι1 S1 M1 H1 x v e1 s1 r1 w1=>?_⟩
 cases x with
 | int i=>exact⟨i,ar.az.mp r1,w1 ι1 S1 H1 _ .refl s1 rfl⟩
 | _=>exact w1.elim⟩
noncomputable def lJ (xs:List PV) (lo hi:Option Int):List PV:=(xs.drop (HT.dH xs.length 0 lo)).take (HT.dH xs.length xs.length hi-HT.dH xs.length 0 lo)
theorem au.lJ {K:Fg} {ι:List Addr} {S:Hp} {xs:List PV} {vs:List V} (r:au K ι S xs vs) (lo hi:Option Int):au K ι S (lJ xs lo hi) (nJ vs lo hi):=by
 unfold L2.lJ nJ
 rw[r.length]
 exact(r.drop _).take _
noncomputable def Az (live:Bool) (x:PV) (lo hi:Option Int) (M:aC):Res PV:=match x with
 | .tup xs=>if HT.dH xs.length 0 lo=0/\HT.dH xs.length xs.length hi=xs.length then .bad else .ok (.tup (lJ xs lo hi)) M
 | x=>match cJ M x with
  | some xs=>kt live (lJ xs lo hi) M
  | none=>.bad
noncomputable def Hv (K:Fg) (live:Bool):V->Option Int->Option Int->Hp->VK->Prop:=fun x lo hi H Q=>∃E ι S M p,aI K ι S M H/\ar K ι S p x/\aP K (cT K) E ι S H Q (Az live p lo hi M)
theorem vQ.imp {r r':V->Option Int->Option Int->Hp->VK->Prop} (h:vQ X r) (i:∀x lo hi H Q,r' x lo hi H Q->r x lo hi H Q):vQ X r':=fun pins s σ H x v vl vu lo hi sl Q I rx hs pl pu q=>h pins s σ H x v vl vu lo hi sl Q I rx hs pl pu (i _ _ _ _ _ q)
theorem Hw (live:Bool):vQ X (Hv X.K live):=(yM.or BF).imp fun x lo hi H Q h=>by
 obtain⟨E,ι,S,M,p,aq,px,w⟩:=h
 have lists:∀{xs:List PV},cJ M p=some xs->aP X.K (cT X.K) E ι S H Q (kt live (lJ xs lo hi) M)->BH X.K x lo hi H Q:=fun {xs} h1 w=>by
  obtain⟨l,vs,rfl,e1,r1⟩:=cg aq px h1
  obtain⟨w1,w2⟩:=hJ aq (r1.lJ lo hi) w
  exact⟨l,vs,rfl,.of e1,w2⟩
 have other:(Az live p lo hi M=match cJ M p with | some xs=>kt live (lJ xs lo hi) M | none=>.bad)->BH X.K x lo hi H Q:=fun e=>by
  rw[e] at w
  cases h1:cJ M p with
  | none=>rw[h1] at w; exact w.elim
  | some xs=>rw[h1] at w; exact lists h1 w
 cases p with
 | tup xs =>
  right
  simp only[Az] at w
  split at w
  ·exact w.elim
  ·rename_i hc
   obtain⟨l,vs,rfl,e1,r1⟩:=ar.bA.mp px
   refine⟨l,vs,rfl,.of (aq.sub _ _ e1),by rw[← r1.length]; exact hc,fun p hp=>?_⟩
   obtain⟨s2,e2⟩:=aq.tree (o:=.tup (nJ vs lo hi)) hp
   exact w _ _ _ _ e2 s2 (ar.bA.mpr ⟨p,_,rfl,aF,(r1.lJ lo hi).mono e2⟩)
 | _=>exact .inl (other rfl)
noncomputable def vk (live:Bool) (da:DE) (dl dh:DO):DE:=fun ρ M=>(da ρ M).bind fun x M1=>(dl ρ M1).bind fun lo M2=>(dh ρ M2).bind fun hi M3=>Az live x lo hi M3
theorem pA (live:Bool) {lo hi:Option Expr} {dl dh:DO} {p2:Pos} (he:VE X Ex e d) (hl:VO X Ex lo dl) (hh:VO X Ex hi dh):VE X Ex (.Subscript e (.Slice lo hi none p2) pos) (vk live d dl dh):=⟨by
 refine PE.imp (vR (Hw live) he.out hl.out hh.out) fun σ H Q h=>?_
 obtain⟨ι,S,M,ρ,aq,sl,w⟩:=h
 refine⟨ι,S,M,ρ,aq,sl,aP.bind (Rp:=cT X.K) w fun ι1 S1 M1 H1 x v e1 s1 r1 w1=>?_⟩
 refine⟨ι1,S1,M1,ρ,s1,sl.mono e1,aP.bind (Rp:=Hu) w1 fun ι2 S2 M2 H2 l l' e2 s2 r2 w2=>?_⟩
 cases r2
 refine⟨ι2,S2,M2,ρ,s2,sl.mono (e1.trans e2),aP.bind (Rp:=Hu) w2 fun ι3 S3 M3 H3 h h' e3 s3 r3 w3=>?_⟩
 cases r3
 exact⟨_,ι3,S3,M3,x,s3,ar.mono (e2.trans e3) r1,w3⟩⟩
noncomputable def wH (x:PV) (M:aC):Res PV:=match x with
 | .obj n=>match M[n]? with
  | some (.lst xs)=>.ok (.lst xs) (M.set n .gone)
  | _=>.ok x M
 | x=>.ok x M
noncomputable def yY (d:DE):DE:=fun ρ M=>(d ρ M).bind fun x M1=>wH x M1
theorem wI (h:VE X Ex e d):VE X Ex e (yY d):=⟨by
 refine PE.imp h.out fun σ H Q hh=>?_
 obtain⟨ι,S,M,ρ,aq,sl,w⟩:=hh
 refine⟨ι,S,M,ρ,aq,sl,aP.bind (Rp:=cT X.K) w fun ι1 S1 M1 H1 x v e1 s1 r1 w1=>?_⟩
 have keep:aP X.K (cT X.K) (Ex σ) ι1 S1 H1 Q (.ok x M1)->Q v H1:=fun w=>w ι1 S1 H1 v .refl s1 r1
 cases x with
 | obj n =>
  simp only[wH] at w1
  cases eM:M1[n]? with
  | none=>rw[eM] at w1; exact keep w1
  | some o =>
   rw[eM] at w1
   cases o with
   | lst xs =>
    obtain⟨p,rfl,ei⟩:=ar.bh.mp r1
    obtain⟨S',s2,e2,r2⟩:=s1.freeze ei eM
    exact w1 _ _ _ _ e2 s2 r2
   | _=>exact keep w1
 | _=>exact keep w1⟩
noncomputable abbrev D1:=List PV->aC->Res PV
noncomputable def rC (K:Fg) (f:D1):List V->Hp->VK->Prop:=fun vs H Q=>∃E ι S M xs,aI K ι S M H/\au K ι S xs vs/\aP K (cT K) E ι S H Q (f xs M)
theorem bH.imp {f:Value} {r r':List V->Hp->VK->Prop} (h:bH X f r) (i:∀xs H Q,r' xs H Q->r xs H Q):bH X f r':=fun pins s σ H xs us Q I rs q=>h pins s σ H xs us Q I rs (i _ _ _ q)
noncomputable def al (f:D1) (ds:List DE):DE:=fun ρ M=>(cQ ds ρ M).bind fun xs M1=>f xs M1
theorem sF {f:D1} {K:Fg} {σ:St} {H:Hp} {Q:VK} (h:tG K (cT K) Ex (al f ds) σ H Q):G8 (rC K f) (tG K (wm K ds.length) Ex (cQ ds)) σ H Q:=by
 obtain⟨ι,S,M,ρ,aq,sl,w⟩:=h
 refine⟨ι,S,M,ρ,aq,sl,aP.bind (Rp:=wm K ds.length) w fun ι1 S1 M1 H1 x v e1 s1 r1 w1=>?_⟩
 exact⟨_,ι1,S1,M1,x,s1,r1.1,w1⟩
theorem aU {f:D1} {x:Str} {id:String} {p:Pos} (hc:bH X (.builtin id) (rC X.K f)) (hm:X.mg x=none) (hv:bootBuiltins x=some (.builtin id)) (ha:VN X Ex (e::es) ds) (hg:Gl X x:=by rfl) (hn:x ≠ "__name__" := by decide) (ue:(x == ("__debug__" : Str))=false:=by decide)
  (he:starEach (e::es) X.env=(false,eval e X.env)::starEach es X.env:=by rfl) (gX:(backTo pos (starEach es X.env)).any (·.1)=false:=by rfl):VE X Ex (.Call (.Name x p) (e::es) [] pos) (al f ds):=⟨PE.imp (gY hc hg hm hv ha.out hn ue he gX) fun _ _ _ h=>sF h⟩
theorem dn {f:D1} {x:Str} {T:String} {p:Pos} (hc:bH X (.type T) (rC X.K f)) (hm:X.mg x=none) (hv:bootBuiltins x=some (.type T)) (ha:VN X Ex (e::es) ds) (hg:Gl X x:=by rfl) (hn:x ≠ "__name__" := by decide) (ue:(x == ("__debug__" : Str))=false:=by decide)
  (he:starEach (e::es) X.env=(false,eval e X.env)::starEach es X.env:=by rfl) (gX:(backTo pos (starEach es X.env)).any (·.1)=false:=by rfl):VE X Ex (.Call (.Name x p) (e::es) [] pos) (al f ds):=⟨PE.imp (jL hc hg hm hv ha.out hn ue he gX) fun _ _ _ h=>sF h⟩
theorem au.dy {K:Fg} {ι:List Addr} {S:Hp} {x:PV} {vs:List V} (h:au K ι S [x] vs):∃v,vs=[v]/\ar K ι S x v:=by
 obtain⟨v,r,rfl,h1,h2⟩:=h.dM
 rw[au] at h2
 subst h2
 exact⟨v,rfl,h1⟩
theorem au.yZ {K:Fg} {ι:List Addr} {S:Hp} {x y:PV} {vs:List V} (h:au K ι S [x,y] vs):∃v w,vs=[v,w]/\ar K ι S x v/\ar K ι S y w:=by
 obtain⟨v,r,rfl,h1,h2⟩:=h.dM
 obtain⟨w,rfl,h3⟩:=h2.dy
 exact⟨v,w,rfl,h1,h3⟩
noncomputable def aZ:D1:=fun xs M=>match xs with
 | [x]=>match ji M x with
  | some ys=>.ok (.int ys.length) M
  | none=>match x with
   | .obj n=>match M[n]? with
    | some (.iH aw)=>.ok (.int aw.length) M
    | _=>.bad
   | _=>.bad
 | _=>.bad
theorem aV:bH X (.builtin "len") (rC X.K aZ):=(nM.or um).imp fun vs H Q h=>by
 obtain⟨E,ι,S,M,xs,aq,r,w⟩:=h
 unfold aZ at w
 match xs,r,w with
 | [],r,w=>exact w.elim
 | x::y::z,r,w=>exact w.elim
 | [x],r,w =>
  obtain⟨v,rfl,r1⟩:=r.dy
  dsimp only at w
  cases e1:ji M x with
  | some ys =>
   rw[e1] at w
   obtain⟨p,vs,rfl,hq,rs⟩:=jk aq r1 e1
   refine .inl ⟨p,vs,rfl,hq,?_⟩
   rw[← rs.length]
   exact w ι S H _ .refl aq (ar.az.mpr rfl)
  | none =>
   rw[e1] at w
   dsimp only at w
   cases x with
   | obj n =>
    obtain⟨p,rfl,ei⟩:=ar.bh.mp r1
    obtain⟨o,eM,q⟩:=aq.addr ei
    simp only[eM] at w
    cases o with
    | iH aw =>
     obtain⟨_,eN,eH,rk⟩:=q
     refine .inr ⟨p,eN,rfl,eH,?_⟩
     rw[← rk.length]
     exact w ι S H _ .refl aq (ar.az.mpr rfl)
    | _=>exact w.elim
   | _=>exact w.elim
noncomputable def fh (live:Bool):D1:=fun xs M=>match xs with
 | [x]=>match ji M x with
  | some ys=>kt live ys M
  | none=>.bad
 | _=>.bad
theorem dO (live:Bool):bH X (.type "list") (rC X.K (fh live)):=nN.imp fun vs H Q h=>by
 obtain⟨E,ι,S,M,xs,aq,r,w⟩:=h
 unfold fh at w
 match xs,r,w with
 | [],r,w=>exact w.elim
 | x::y::z,r,w=>exact w.elim
 | [x],r,w =>
  obtain⟨v,rfl,r1⟩:=r.dy
  dsimp only at w
  cases e1:ji M x with
  | none=>rw[e1] at w; exact w.elim
  | some ys =>
   rw[e1] at w
   obtain⟨p,vs,rfl,hq,rs⟩:=jk aq r1 e1
   exact⟨p,vs,rfl,hq,(hJ aq rs w).2⟩
noncomputable def iU:D1:=fun xs M=>match xs with
 | [x]=>match cJ M x with
  | some ys=>.ok (.tup ys) M
  | none=>match x with
   | .tup ys=>.ok (.tup ys) M
   | _=>.bad
 | _=>.bad
theorem pB:bH X (.type "tuple") (rC X.K iU):=mD.imp fun vs H Q h=>by
 obtain⟨E,ι,S,M,xs,aq,r,w⟩:=h
 unfold iU at w
 match xs,r,w with
 | [],r,w=>exact w.elim
 | x::y::z,r,w=>exact w.elim
 | [x],r,w =>
  obtain⟨v,rfl,r1⟩:=r.dy
  dsimp only at w
  cases e1:cJ M x with
  | some ys =>
   rw[e1] at w
   obtain⟨p,vs,rfl,eH,rs⟩:=cg aq r1 e1
   refine⟨p,vs,rfl,.inl ⟨.of eH,fun l hl=>?_⟩⟩
   obtain⟨s2,e2⟩:=aq.tree (o:=.tup vs) hl
   exact w _ _ _ _ e2 s2 (ar.bA.mpr ⟨l,_,rfl,aF,rs.mono e2⟩)
  | none =>
   rw[e1] at w
   dsimp only at w
   cases x with
   | tup ys =>
    obtain⟨p,vs,rfl,e,q⟩:=ar.bA.mp r1
    exact⟨p,vs,rfl,.inr ⟨.of (aq.sub _ _ e),w ι S H _ .refl aq r1⟩⟩
   | _=>exact w.elim
noncomputable def pC:D1:=fun xs M=>match xs with
 | [.int i]=>.ok (.int i) M
 | [.bl b]=>.ok (.int (if b then 1 else 0)) M
 | _=>.bad
theorem qV:bH X (.type "int") (rC X.K pC):=tZ.imp fun vs H Q h=>by
 obtain⟨E,ι,S,M,xs,aq,r,w⟩:=h
 unfold pC at w
 split at w
 ·obtain⟨v,rfl,r1⟩:=r.dy
  cases ar.az.mp r1
  exact .inl ⟨_,rfl,w ι S H _ .refl aq (ar.az.mpr rfl)⟩
 ·obtain⟨v,rfl,r1⟩:=r.dy
  cases ar.bf.mp r1
  exact .inr ⟨_,rfl,w ι S H _ .refl aq (ar.az.mpr rfl)⟩
 ·exact w.elim
noncomputable def wJ:D1:=fun xs M=>match xs with
 | [.int i,.int j]=>.ok (.int (if j > i then j else i)) M
 | _=>.bad
theorem uv (hc:X.calm=true):bH X (.builtin "max") (rC X.K wJ):=(tY hc).imp fun vs H Q h=>by
 obtain⟨E,ι,S,M,xs,aq,r,w⟩:=h
 unfold wJ at w
 split at w
 ·obtain⟨v,u,rfl,r1,r2⟩:=r.yZ
  cases ar.az.mp r1
  cases ar.az.mp r2
  exact⟨_,_,rfl,w ι S H _ .refl aq (ar.az.mpr rfl)⟩
 ·exact w.elim
noncomputable abbrev DM:=PV->List PV->aC->Res PV
noncomputable def rM (K:Fg) (f:DM):V->List V->Hp->VK->Prop:=fun v vs H Q=>∃E ι S M x xs,aI K ι S M H/\ar K ι S x v/\au K ι S xs vs/\aP K (cT K) E ι S H Q (f x xs M)
theorem xW.imp {id:String} {r r':V->List V->Hp->VK->Prop} (h:xW X id r) (i:∀x xs H Q,r' x xs H Q->r x xs H Q):xW X id r':=fun pins s σ H x xs v us Q I rx rs q=>h pins s σ H x xs v us Q I rx rs (i _ _ _ _ q)
noncomputable def gh (f:DM) (jX:DE) (ds:List DE):DE:=fun ρ M=>(jX ρ M).bind fun x M1=>match cJ M1 x with
 | some _=>(cQ ds ρ M1).bind fun xs M2=>f x xs M2
 | none=>.bad
theorem ku {f:DM} {name:Str} {id:String} (slot:Slot "list" name id) (Hf:typeOf (.builtin id)=pure (.type "method_descriptor")) (hm:xW X id (rM X.K f)) (ho:VE X Ex o jX) (ha:VN X Ex (e::es) ds)
  (vS:attributeBase o name X.env (eval o X.env)=eval o X.env:=by rfl)
  (BJ:((backTo bC (starEach (e::es) X.env)).all (fun x=>!x.1) && (backToKw bC (keywordEach [] X.env)).all (fun x=>x.1.isSome)
   && decide ((e::es).length+([]:List Keyword).length+(if ([]:List Keyword).isEmpty then 0 else 1)<30))=true:=by rfl)
  (vT:(apos.endLine == bC.line)=true:=by rfl) (hs:starEach (e::es) X.env=(false,eval e X.env)::starEach es X.env:=by rfl) (lC:(backTo bC (starEach es X.env)).any (·.1)=false:=by rfl) :
  VE X Ex (.Call (.Attribute o name apos) (e::es) [] bC) (gh f jX ds):=⟨by
 refine PE.imp (Eb PySem.F.plainAttrs_list slot Hf hm ho.out ha.out vS BJ vT hs lC) fun σ H Q h=>?_
 obtain⟨ι,S,M,ρ,aq,sl,w⟩:=h
 refine⟨ι,S,M,ρ,aq,sl,aP.bind (Rp:=cT X.K) w fun ι1 S1 M1 H1 x v e1 s1 r1 w1=>?_⟩
 cases e2:cJ M1 x with
 | none=>rw[e2] at w1; exact w1.elim
 | some ys =>
  rw[e2] at w1
  obtain⟨p,vs,rfl,eH,rs⟩:=cg s1 r1 e2
  refine⟨.inl ⟨rfl,vs,.of eH⟩,ι1,S1,M1,ρ,s1,sl.mono e1,aP.bind (Rp:=wm X.K ds.length) w1 fun ι2 S2 M2 H2 xs us e3 s2 r2 w2=>?_⟩
  exact⟨_,ι2,S2,M2,x,xs,s2,ar.mono e3 r1,r2.1,w2⟩⟩
noncomputable def xX (x:PV) (M:aC) (k:Nat->List PV->Res PV):Res PV:=match x with
 | .obj n=>match M[n]? with
  | some (.lst xs)=>k n xs
  | _=>.bad
 | _=>.bad
theorem sG {K:Fg} {E:XK} {ι:List Addr} {S H:Hp} {M:aC} {x:PV} {v:V} {Q:VK} {k:Nat->List PV->Res PV} (aq:aI K ι S M H) (r:ar K ι S x v) (w:aP K (cT K) E ι S H Q (xX x M k)) :
  ∃n p xs vs,v=.ref p/\ι[n]? = some p/\M[n]? = some (.lst xs)/\H p=some (.lst vs)/\S p=none/\au K ι S xs vs/\aP K (cT K) E ι S H Q (k n xs):=by
 cases x with
 | obj n =>
  obtain⟨p,rfl,ei⟩:=ar.bh.mp r
  obtain⟨o,eM,q⟩:=aq.addr ei
  simp only[xX,eM] at w
  cases o with
  | lst xs =>
   obtain⟨hS,vs,eH,rs⟩:=q
   exact⟨n,p,xs,vs,rfl,ei,eM,eH,hS,rs,w⟩
  | _=>exact w.elim
 | _=>exact w.elim
theorem nW {K:Fg} {ι:List Addr} {S H:Hp} {M:aC} {n:Nat} {p:Addr} {ys:List PV} {us:List V} (aq:aI K ι S M H) (hi:ι[n]? = some p) (hS:S p=none) (r:au K ι S ys us):aI K ι S (M.set n (.lst ys)) (upd H p (.lst us))/\Ext ι S H ι S (upd H p (.lst us)) :=
 aq.put hi hS ⟨hS,us,aF,r⟩
noncomputable def cL:DM:=fun x as M=>match as with
 | [y]=>xX x M fun n xs=>if xs.length<lim then .ok .bb (M.set n (.lst (xs++[y]))) else .bad
 | _=>.bad
theorem gy:xW X "list.append" (rM X.K cL):=xW.imp (r:=so) m4 fun v vs H Q h=>by
 obtain⟨E,ι,S,M,x,xs,aq,r,rs,w⟩:=h
 unfold cL at w
 split at w
 ·obtain⟨u,rfl,r1⟩:=rs.dy
  obtain⟨n,p,ys,us,rfl,hi,eM,eH,hS,rr,w⟩:=sG aq r w
  split at w
  ·rename_i hl
   refine⟨p,us,u,rfl,rfl,eH,by rw[← rr.length]; exact nP hl,?_⟩
   obtain⟨sp,ep⟩:=nW aq hi hS (rr.append (.one r1))
   exact w ι S _ _ ep sp (ar.eY.mpr rfl)
  ·exact w.elim
 ·exact w.elim
noncomputable def k9:DM:=fun x as M=>match as with
 | [y]=>xX x M fun n xs=>match cJ M y with
  | some ys=>if xs.length+ys.length≤lim then .ok .bb (M.set n (.lst (xs++ys))) else .bad
  | none=>.bad
 | _=>.bad
theorem qW:xW X "list.extend" (rM X.K k9):=xW.imp (r:=sq) ui fun v vs H Q h=>by
 obtain⟨E,ι,S,M,x,xs,aq,r,rs,w⟩:=h
 unfold k9 at w
 split at w
 ·obtain⟨u,rfl,r1⟩:=rs.dy
  obtain⟨n,p,ys,us,rfl,hi,eM,eH,hS,rr,w⟩:=sG aq r w
  split at w
  ·rename_i zs hz
   obtain⟨b,ws,rfl,eb,rb⟩:=cg aq r1 hz
   split at w
   ·rename_i hl
    refine⟨p,b,us,ws,rfl,rfl,eH,eb,by rw[← rr.length,← rb.length]; exact hG hl,?_⟩
    obtain⟨sp,ep⟩:=nW aq hi hS (rr.append rb)
    exact w ι S _ _ ep sp (ar.eY.mpr rfl)
   ·exact w.elim
  ·exact w.elim
 ·exact w.elim
end
end L2
end
section
namespace L2
open PySem PySem.Spec PyProof.Rows
inductive Out where
 | nx (ρ:cI) (M:aC)
 | rt (x:PV) (M:aC)
 | bk (ρ:cI) (M:aC)
 | ct (ρ:cI) (M:aC)
 | exc (c:Addr) (ρ:cI) (M:aC)
 | bad
noncomputable abbrev DS:=cI->aC->Out
noncomputable def cC (K:Fg) (Ex:St->XK) (ι:List Addr) (S H:Hp) (D:Ends):Out->Prop
 | .nx ρ M=>∀ ι' S' H' σ',Ext ι S H ι' S' H'->aI K ι' S' M H'->Slots K ι' S' ρ σ'->D.nx σ' H'
 | .bk ρ M=>∀ ι' S' H' σ',Ext ι S H ι' S' H'->aI K ι' S' M H'->Slots K ι' S' ρ σ'->D.bk σ' H'
 | .ct ρ M=>∀ ι' S' H' σ',Ext ι S H ι' S' H'->aI K ι' S' M H'->Slots K ι' S' ρ σ'->D.ct σ' H'
 | .exc c ρ M=>∀ ι' S' H' σ',Ext ι S H ι' S' H'->aI K ι' S' M H'->Slots K ι' S' ρ σ'->Ex σ' (.ref c) none H'
 | .rt x M=>∀ ι' S' H' v,Ext ι S H ι' S' H'->aI K ι' S' M H'->ar K ι' S' x v->D.rt v H'
 | .bad=>False
theorem cC.up {K:Fg} {Ex:St->XK} {ι ι':List Addr} {S H S' H':Hp} {D:Ends} {o:Out} (h:cC K Ex ι S H D o) (e:Ext ι S H ι' S' H'):cC K Ex ι' S' H' D o:=by
 cases o with
 | nx ρ M=>exact fun ι1 S1 H1 σ1 e1 s1 l1=>h ι1 S1 H1 σ1 (e.trans e1) s1 l1
 | bk ρ M=>exact fun ι1 S1 H1 σ1 e1 s1 l1=>h ι1 S1 H1 σ1 (e.trans e1) s1 l1
 | ct ρ M=>exact fun ι1 S1 H1 σ1 e1 s1 l1=>h ι1 S1 H1 σ1 (e.trans e1) s1 l1
 | exc c ρ M=>exact fun ι1 S1 H1 σ1 e1 s1 l1=>h ι1 S1 H1 σ1 (e.trans e1) s1 l1
 | rt x M=>exact fun ι1 S1 H1 v e1 s1 l1=>h ι1 S1 H1 v (e.trans e1) s1 l1
 | bad=>exact h
noncomputable def tS (K:Fg) (Ex:St->XK) (d:DS):TS:=fun D σ H=>∃ ι S M ρ,aI K ι S M H/\Slots K ι S ρ σ/\cC K Ex ι S H D (d ρ M)
structure VS (X:Cx) (Ex:St->XK) (st:Stmt) (d:DS):Prop where
 out:PS X st (tS X.K Ex d)
structure sH (X:Cx) (Ex:St->XK) (st:List Stmt) (d:DS):Prop where
 out:qx X st (tS X.K Ex d)
theorem PS.imp {X:Cx} {st:Stmt} {t t':TS} (h:PS X st t) (i:∀D σ H,t' D σ H->t D σ H):PS X st t':=fun pins s σ H D I hw=>h pins s σ H D I (i D σ H hw)
theorem qx.imp {X:Cx} {st:List Stmt} {t t':TS} (h:qx X st t) (i:∀D σ H,t' D σ H->t D σ H):qx X st t':=fun pins s σ H D I hw=>h pins s σ H D I (i D σ H hw)
noncomputable def Res.out {α:Type} (r:Res α) (ρ:cI) (f:α->aC->Out):Out:=match r with
 | .ok x M=>f x M
 | .exc c M=>.exc c ρ M
 | .bad=>.bad
@[simp] theorem Res.hV {α:Type} {x:α} {M:aC} {ρ:cI} {f:α->aC->Out}:(Res.ok x M).out ρ f=f x M:=rfl
@[simp] theorem Res.FW {α:Type} {c:Addr} {M:aC} {ρ:cI} {f:α->aC->Out}:(Res.exc c M:Res α).out ρ f=.exc c ρ M:=rfl
@[simp] theorem Res.FX {α:Type} {ρ:cI} {f:α->aC->Out}:(Res.bad:Res α).out ρ f=.bad:=rfl
theorem cC.res {α β:Type} {K:Fg} {Rp:List Addr->Hp->α->β->Prop} {Ex:St->XK} {ι:List Addr} {S H:Hp} {D:Ends} {ρ:cI} {σ:St} {r:Res α} {f:α->aC->Out} {Q:β->Hp->Prop} (sl:Slots K ι S ρ σ) (h:cC K Ex ι S H D (r.out ρ f))
  (g:∀ ι1 S1 M1 H1 x v,Ext ι S H ι1 S1 H1->aI K ι1 S1 M1 H1->Rp ι1 S1 x v->cC K Ex ι1 S1 H1 D (f x M1)->Q v H1):aP K Rp (Ex σ) ι S H Q r:=by
 cases r with
 | ok x M=>exact fun ι1 S1 H1 v e1 s1 r1=>g ι1 S1 M H1 x v e1 s1 r1 (cC.up h e1)
 | exc c M=>exact fun ι1 S1 H1 e1 s1=>h ι1 S1 H1 σ e1 s1 (sl.mono e1)
 | bad=>exact h
section
variable {X:Cx} {Ex:St->XK} {a b c e o:Expr} {es:List Expr} {da db dc d jX:DE} {ds:List DE} {pos pos' apos bC:Pos} {st:Stmt} {rest:List Stmt} {s1 s2:DS} {tc:DT}
noncomputable def fF:DS:=fun ρ M=>.nx ρ M
noncomputable def aG (s1 s2:DS):DS:=fun ρ M=>match s1 ρ M with
 | .nx ρ' M'=>s2 ρ' M'
 | o=>o
theorem aT:sH X Ex [] fF:=⟨qx.imp yi fun D σ H h=>by
 obtain⟨ι,S,M,ρ,aq,sl,w⟩:=h
 exact w ι S H σ .refl aq sl⟩
theorem B5 {K:Fg} {D:Ends} {σ:St} {H:Hp} (h:tS K Ex (aG s1 s2) D σ H):Dw (tS K Ex s1) (tS K Ex s2) D σ H:=by
 obtain⟨ι,S,M,ρ,aq,sl,w⟩:=h
 refine⟨ι,S,M,ρ,aq,sl,?_⟩
 unfold aG at w
 cases q:s1 ρ M with
 | nx ρ' M' =>
  rw[q] at w
  exact fun ι1 S1 H1 σ1 e1 s1 l1=>⟨ι1,S1,M',ρ',s1,l1,cC.up w e1⟩
 | _=>rw[q] at w; exact w
theorem aj (h1:VS X Ex st s1) (h2:sH X Ex rest s2):sH X Ex (st::rest) (aG s1 s2):=⟨qx.imp (vB h1.out h2.out) fun _ _ _ h=>B5 h⟩
theorem ao (h1:VS X Ex st s1):sH X Ex [st] s1:=⟨yj h1.out⟩
noncomputable def bR (d:DE):DS:=fun ρ M=>(d ρ M).out ρ fun _ M1=>.nx ρ M1
theorem dz (he:VE X Ex e d) (hs:swapsWith e none pos.line X.env=pure false:=by rfl):VS X Ex (.Expr e pos) (bR d):=⟨PS.imp (yk he.out hs) fun D σ H h=>by
 obtain⟨ι,S,M,ρ,aq,sl,w⟩:=h
 refine⟨ι,S,M,ρ,aq,sl,cC.res (Rp:=cT X.K) sl w fun ι1 S1 M1 H1 x v e1 s1 r1 w1=>?_⟩
 exact w1 ι1 S1 H1 σ .refl s1 (sl.mono e1)⟩
noncomputable def dP (d:DE):DS:=fun ρ M=>(d ρ M).out ρ fun x M1=>.rt x M1
theorem bL (he:VE X Ex e d):VS X Ex (.Return (some e) pos) (dP d):=⟨PS.imp (Bd he.out) fun D σ H h=>by
 obtain⟨ι,S,M,ρ,aq,sl,w⟩:=h
 refine⟨ι,S,M,ρ,aq,sl,cC.res (Rp:=cT X.K) sl w fun ι1 S1 M1 H1 x v e1 s1 r1 w1=>?_⟩
 exact w1 ι1 S1 H1 v .refl s1 r1⟩
noncomputable def EC:DS:=fun _ M=>.rt .bb M
noncomputable def bE (tc:DT) (s1 s2:DS):DS:=fun ρ M=>(tc ρ M).out ρ fun k M1=>if k=true then s1 ρ M1 else s2 ρ M1
theorem bS {xs ys:List Stmt} (hc:VT X Ex c tc) (h1:sH X Ex xs s1) (h2:sH X Ex ys s2):VS X Ex (.If c xs ys pos) (bE tc s1 s2):=⟨PS.imp (Dy hc.out h1.out h2.out) fun D σ H h=>by
 obtain⟨ι,S,M,ρ,aq,sl,w⟩:=h
 refine⟨ι,S,M,ρ,aq,sl,cC.res (Rp:=wg) sl w fun ι1 S1 M1 H1 x v e1 s1 r1 w1=>?_⟩
 cases r1
 cases x with
 | true=>exact qN ⟨ι1,S1,M1,ρ,s1,sl.mono e1,w1⟩
 | false=>exact qM ⟨ι1,S1,M1,ρ,s1,sl.mono e1,w1⟩⟩
noncomputable abbrev DG:=PV->cI->Option cI
noncomputable def Hx (K:Fg) (g:DG):TG:=fun v σ H Q=>∃ ι S M ρ x ρ',aI K ι S M H/\Slots K ι S ρ σ/\ar K ι S x v/\g x ρ=some ρ'/\∀ ι' S' H' σ',Ext ι S H ι' S' H'->aI K ι' S' M H'->Slots K ι' S' ρ' σ'->Q σ' H'
structure VG (X:Cx) (tg:Expr) (g:DG):Prop where
 out:PG X tg (Hx X.K g)
theorem PG.imp {tg:Expr} {t t':TG} (h:PG X tg t) (i:∀v σ H Q,t' v σ H Q->t v σ H Q):PG X tg t':=fun pins s σ H v u Q I r hw=>h pins s σ H v u Q I r (i v σ H Q hw)
noncomputable def gN (i:Nat):DG:=fun x ρ=>some (ρ.set i (some x))
theorem bj (i:Nat) {x:Str} (hN:X.N.Nodup) (hi:X.N[i]? = some x:=by rfl) (hx:Loc X.env.scope x:=by first | exact Or.inl rfl | exact Or.inr rfl)
  (hf:X.fn x=true\/X.env.scope.names.lookup x=some .local := by first | exact .inl rfl | exact .inr rfl | assumption):VG X (.Name x pos) (gN i):=⟨PG.imp (yo hN hi hx hf) fun v σ H Q h=>by
 obtain⟨ι,S,M,ρ,x,ρ',aq,sl,r,e,k⟩:=h
 cases e
 exact k ι S H _ .refl aq (sl.set r i)⟩
noncomputable abbrev AA:=List PV->cI->Option cI
noncomputable def Hy (K:Fg) (g:AA):ym:=fun vs σ H Q=>∃ ι S M ρ xs ρ',aI K ι S M H/\Slots K ι S ρ σ/\au K ι S xs vs/\g xs ρ=some ρ'/\∀ ι' S' H' σ',Ext ι S H ι' S' H'->aI K ι' S' M H'->Slots K ι' S' ρ' σ'->Q σ' H'
structure FY (X:Cx) (ts:List Expr) (g:AA):Prop where
 out:xV X ts (Hy X.K g)
theorem xV.imp {ts:List Expr} {t t':ym} (h:xV X ts t) (i:∀v σ H Q,t' v σ H Q->t v σ H Q):xV X ts t':=fun pins s σ H v u Q I r hw=>h pins s σ H v u Q I r (i v σ H Q hw)
noncomputable def ni:AA:=fun xs ρ=>match xs with
 | []=>some ρ
 | _=>none
noncomputable def fj (g:DG) (gs:AA):AA:=fun xs ρ=>match xs with
 | x::r=>(g x ρ).bind (gs r)
 | []=>none
theorem la:FY X [] ni:=⟨xV.imp yp fun vs σ H Q h=>by
 obtain⟨ι,S,M,ρ,xs,ρ',aq,sl,r,e,k⟩:=h
 cases xs with
 | nil =>
  rw[au] at r
  cases e
  exact⟨r,k ι S H _ .refl aq sl⟩
 | cons x xs=>cases e⟩
theorem eB {g:DG} {gs:AA} (h1:VG X e g) (h2:FY X es gs) (hs:(assignEach (e::es) X.env).map (·.2)=assign e X.env::(assignEach es X.env).map (·.2):=by rfl):FY X (e::es) (fj g gs):=⟨xV.imp (vC h1.out h2.out hs) fun vs σ H Q h=>by
  obtain⟨ι,S,M,ρ,xs,ρ',aq,sl,r,e,k⟩:=h
  cases xs with
  | nil=>cases e
  | cons x xs =>
   obtain⟨v,vr,rfl,r1,r2⟩:=r.dM
   have e:(g x ρ).bind (gs xs)=some ρ':=e
   cases e1:g x ρ with
   | none=>rw[e1] at e; cases e
   | some ρ1 =>
    rw[e1] at e
    refine⟨v,vr,rfl,ι,S,M,ρ,x,ρ1,aq,sl,r1,e1,fun ι1 S1 H1 σ1 Jg s1 l1=>?_⟩
    exact⟨ι1,S1,M,ρ1,xs,ρ',s1,l1,r2.mono Jg,e,fun ι2 S2 H2 σ2 B6 s2 l2=>k ι2 S2 H2 σ2 (Jg.trans B6) s2 l2⟩⟩
noncomputable def gT (n:Nat) (gs:AA):DG:=fun x ρ=>match x with
 | .tup xs=>if xs.length=n then gs xs ρ else none
 | _=>none
theorem nX {k:Nat} {gs:AA} {n:Nat} (hc:X.calm=true) (h:FY X es gs) (hn:(assignEach es X.env).length=n:=by rfl) (qz:(assignEach es X.env).findIdx? (·.1)=none:=by rfl):VG X (.Tuple es k pos) (gT n gs):=⟨PG.imp (Be hc h.out hn qz) fun v σ H Q h=>by
  obtain⟨ι,S,M,ρ,x,ρ',aq,sl,r,e,k⟩:=h
  cases x with
  | tup xs =>
   simp only[gT] at e
   split at e
   ·rename_i hl
    obtain⟨p,vs,rfl,eS,rs⟩:=ar.bA.mp r
    exact⟨p,vs,rfl,.of (aq.sub _ _ eS),by rw[← rs.length]; exact hl,ι,S,M,ρ,xs,ρ',aq,sl,rs,e,k⟩
   ·cases e
  | _=>cases e⟩
noncomputable def bZ (i:Nat) (d:DE):DS:=fun ρ M=>(d ρ M).out ρ fun x M1=>.nx (ρ.set i (some x)) M1
theorem bx (i:Nat) {x:Str} (hN:X.N.Nodup) (he:VE X Ex e d) (hi:X.N[i]? = some x:=by rfl) (hx:Loc X.env.scope x:=by first | exact Or.inl rfl | exact Or.inr rfl) (hs:swapsWith e (some (.Name x pos')) pos.line X.env=pure false:=by rfl)
  (hf:X.fn x=true\/X.env.scope.names.lookup x=some .local := by first | exact .inl rfl | exact .inr rfl | assumption):VS X Ex (.Assign [.Name x pos'] e pos) (bZ i d):=⟨PS.imp (Bh hN hi hx he.out hs hf) fun D σ H h=>by
 obtain⟨ι,S,M,ρ,aq,sl,w⟩:=h
 refine⟨ι,S,M,ρ,aq,sl,cC.res (Rp:=cT X.K) sl w fun ι1 S1 M1 H1 x v e1 s1 r1 w1=>?_⟩
 exact w1 ι1 S1 H1 _ .refl s1 ((sl.mono e1).set r1 i)⟩
noncomputable def Hz (d:DE) (g:DG):DS:=fun ρ M=>(d ρ M).out ρ fun x M1=>match g x ρ with
 | some ρ'=>.nx ρ' M1
 | none=>.bad
end
end L2
end
section
namespace L2
open PySem PySem.Spec PyProof.Rows
noncomputable abbrev oU:=Option (Nat×MO)
noncomputable def kN (w:oU) (M:aC):Prop:=match w with
 | none=>True
 | some (n,o)=>M[n]? = some o
@[simp] theorem ED {M:aC}:kN none M:=trivial
@[simp] theorem EE {n:Nat} {o:MO} {M:aC}:kN (some (n,o)) M↔M[n]? = some o:=Iff.rfl
noncomputable def Walks (K:Fg) (J:It) (xs:List PV) (w:oU) (ι:List Addr) (S:Hp):Prop :=
 ∀(i:Nat) ι' S' M' H',Up ι S ι' S'->aI K ι' S' M' H'->kN w M' →
  (∀x,xs[i]? = some x->J.go i H'/\∀v H2,J.FG i H' v H2->∃ ι2 S2,Ext ι' S' H' ι2 S2 H2/\aI K ι2 S2 M' H2/\ar K ι2 S2 x v)/\(xs.length≤i->J.stop i H')
noncomputable abbrev DI:=cI->aC->Res (List PV×oU)
noncomputable abbrev FZ (K:Fg):List Addr->Hp->(List PV×oU)->It->Prop:=fun ι S r J=>Walks K J r.1 r.2 ι S
structure VI (X:Cx) (Ex:St->XK) (tg iter:Expr) (d:DI):Prop where
 out:PI X tg iter (tG X.K (FZ X.K) Ex d)
theorem PI.imp {X:Cx} {tg iter:Expr} {t t':TI} (h:PI X tg iter t) (i:∀ σ H R,t' σ H R->t σ H R):PI X tg iter t':=fun pins s σ H R I hw=>h pins s σ H R I (i σ H R hw)
section
variable {X:Cx} {Ex:St->XK} {a b c e o:Expr} {es:List Expr} {da db dc d jX:DE} {ds:List DE} {pos pos' apos bC:Pos} {st:Stmt} {rest:List Stmt} {s1 s2:DS} {tc:DT} {tg iter:Expr} {di:DI} {g:DG}
noncomputable def iL (d:DE):DI:=fun ρ M=>(d ρ M).bind fun x M1=>match x with
 | .lst xs=>.ok (xs,none) M1
 | .obj n=>match M1[n]? with
  | some (.lst xs)=>.ok (xs,some (n,.lst xs)) M1
  | _=>.bad
 | _=>.bad
theorem lK {K:Fg} {ι:List Addr} {S:Hp} {p:Addr} {xs:List PV} {w:oU} (h:∀ ι' S' M' H',Up ι S ι' S'->aI K ι' S' M' H'->kN w M'->∃vs,iq K H' p vs/\au K ι' S' xs vs):Walks K (GP K p) xs w ι S:=by
 intro i ι' S' M' H' up aq hc
 obtain⟨vs,hq,rs⟩:=h ι' S' M' H' up aq hc
 refine⟨fun x hx=>?_,fun hl=>⟨vs,hq,by rw[← rs.length]; exact hl⟩⟩
 obtain⟨v,hv,r⟩:=rs.get hx
 refine⟨⟨vs,v,hq,hv⟩,fun u H2 y=>?_⟩
 obtain⟨rfl,y⟩:=y
 have:=y vs hq
 rw[hv] at this
 cases this
 exact⟨ι',S',.refl,aq,r⟩
theorem cZ (h:VE X Ex iter d):VI X Ex tg iter (iL d):=⟨by
 refine PI.imp (yr h.out) fun σ H R hh=>?_
 obtain⟨ι,S,M,ρ,aq,sl,w⟩:=hh
 refine⟨ι,S,M,ρ,aq,sl,aP.bind (Rp:=cT X.K) w fun ι1 S1 M1 H1 x v e1 s1 r1 w1=>?_⟩
 cases x with
 | lst xs =>
  obtain⟨p,vs,rfl,eS,rs⟩:=ar.eZ.mp r1
  refine⟨p,rfl,⟨vs,.of (s1.sub _ _ eS)⟩,w1 ι1 S1 H1 _ .refl s1 (lK fun ι2 S2 M2 H2 up s2 _=>?_)⟩
  exact⟨vs,.of (s2.sub _ _ (up.sm _ _ eS)),rs.up up⟩
 | obj n =>
  obtain⟨p,rfl,ei⟩:=ar.bh.mp r1
  obtain⟨o,eM,q⟩:=s1.addr ei
  simp only[eM] at w1
  cases o with
  | lst xs =>
   obtain⟨_,vs,eH,rs⟩:=q
   refine⟨p,rfl,⟨vs,.of eH⟩,w1 ι1 S1 H1 _ .refl s1 (lK fun ι2 S2 M2 H2 up s2 hc=>?_)⟩
   obtain⟨_,HA,HB,HC⟩:=s2.ob n p _ (up.ix _ _ ei) hc
   exact⟨HA,.of HB,HC⟩
  | _=>exact w1.elim
 | _=>exact w1.elim⟩
noncomputable def oZ (lo:Int) (n:Nat):List PV:=(List.range n).map fun(k:Nat)=>.int (lo+(k:Int))
theorem uw {K:Fg} {ι:List Addr} {S:Hp} (lo:Int) (n:Nat):Walks K (FH lo n) (oZ lo n) none ι S:=by
 intro i ι' S' M' H' up aq _
 refine⟨fun x hx=>?_,fun hl=>by(have hl:n≤i:=by simpa[oZ] using hl); exact hl⟩
 unfold oZ at hx
 rw[zJ] at hx
 by_cases hi:i<n
 ·rw[List.getElem?_range hi] at hx
  cases hx
  refine⟨hi,fun v H2 y=>?_⟩
  obtain⟨rfl,rfl⟩:=y
  exact⟨ι',S',.refl,aq,ar.az.mpr rfl⟩
 ·rw[List.getElem?_eq_none (by simpa using hi)] at hx
  cases hx
noncomputable def B7 (ds:List DE):DI:=fun ρ M=>(cQ ds ρ M).bind fun xs M1=>match xs with
 | [.int j]=>if -(2 ^ 62)≤j/\j<2 ^ 62 then .ok (oZ 0 j.toNat,none) M1 else .bad
 | _=>.bad
theorem nj {p:Pos} (hm:X.mg "range" = none) (ha:VN X Ex [a] ds) (hg:Gl X "range" := by rfl) (hs:starEach [a] X.env=[(false,eval a X.env)]:=by rfl):VI X Ex tg (.Call (.Name "range" p) [a] [] pos) (B7 ds):=⟨by
 refine PI.imp (tW hg hm ha.out hs) fun σ H R hh=>?_
 obtain⟨ι,S,M,ρ,aq,sl,w⟩:=hh
 refine⟨ι,S,M,ρ,aq,sl,aP.bind (Rp:=wm X.K ds.length) w fun ι1 S1 M1 H1 xs vs e1 s1 r1 w1=>?_⟩
 split at w1
 ·rename_i j
  obtain⟨v,rfl,r2⟩:=r1.1.dy
  cases ar.az.mp r2
  split at w1
  ·rename_i hb
   exact⟨j,rfl,hb.1,hb.2,w1 ι1 S1 H1 _ .refl s1 (uw 0 _)⟩
  ·exact w1.elim
 ·exact w1.elim⟩
open Classical in
noncomputable def jY (w:oU) (g:DG) (s1:DS):List PV->cI->aC->Out
 | [],ρ,M=>.nx ρ M
 | x::xs,ρ,M=>match g x ρ with
  | none=>.bad
  | some ρ1=>match s1 ρ1 M with
   | .nx ρ' M'=>if kN w M' then jY w g s1 xs ρ' M' else .bad
   | .ct ρ' M'=>if kN w M' then jY w g s1 xs ρ' M' else .bad
   | .bk ρ' M'=>.nx ρ' M'
   | .rt x M'=>.rt x M'
   | .exc c ρ' M'=>.exc c ρ' M'
   | .bad=>.bad
noncomputable def iV (di:DI) (g:DG) (s1:DS):DS:=fun ρ M=>(di ρ M).out ρ fun r M1=>open Classical in if kN r.2 M1 then jY r.2 g s1 r.1 ρ M1 else .bad
theorem fQ {body:List Stmt} (hp:PassesOwn (model X.prog X.w) X.A X.env X.xe) (hc:X.calm=true) (hi:VI X Ex tg iter di) (hg:VG X tg g) (hb:sH X Ex body s1) (hs:∀x,foldedSetIterable iter X.env x=pure x:=by intro _; rfl) :
  VS X Ex (.For tg iter body [] pos) (iV di g s1):=⟨by
 refine PS.imp (Bi hp hc hi.out hg.out hb.out hs) fun D σ H h=>?_
 obtain⟨ι,S,M,ρ,aq,sl,w⟩:=h
 refine⟨ι,S,M,ρ,aq,sl,cC.res (Rp:=FZ X.K) sl w fun ι1 S1 M1 H1 r J e1 wK wk w1=>?_⟩
 obtain⟨xs,wt⟩:=r
 dsimp only at wk w1
 split at w1
 ·rename_i HD
  refine⟨fun i m σ' H'=>m=xs.length-i/\i≤xs.length/\∃ ι' S' M' ρ',Ext ι1 S1 H1 ι' S' H'/\aI X.K ι' S' M' H'/\Slots X.K ι' S' ρ' σ'/\kN wt M'/\cC X.K Ex ι1 S1 H1 D (jY wt g s1 (xs.drop i) ρ' M'),
   ⟨xs.length,by simp,Nat.zero_le _,ι1,S1,M1,ρ,.refl,wK,sl.mono e1,HD,by simpa using w1⟩,?_⟩
  rintro i m σ' H' ⟨rfl,yP,ι',S',M',ρ',ex,pD,xR,HE,ww⟩
  obtain⟨HF,HG⟩:=wk i ι' S' M' H' ex.toUp pD HE
  by_cases eL:i<xs.length
  ·right
   obtain⟨go,yl⟩:=HF xs[i] (List.getElem?_eq_getElem eL)
   rw[List.drop_eq_getElem_cons eL,jY] at ww
   refine⟨go,fun σ2 H2=>∃ ι' S' M' ρ',Ext ι1 S1 H1 ι' S' H2/\aI X.K ι' S' M' H2/\Slots X.K ι' S' ρ' σ2/\kN wt M'/\cC X.K Ex ι1 S1 H1 D (jY wt g s1 (xs.drop (i+1)) ρ' M'),fun σ2 H2 q=>⟨xs.length-(i+1),by omega,rfl,eL,q⟩,fun v H2 y=>?_⟩
   obtain⟨ι2,S2,B6,B8,r2⟩:=yl v H2 y
   cases eg:g xs[i] ρ' with
   | none=>rw[eg] at ww; exact ww.elim
   | some ρ1 =>
    rw[eg] at ww
    refine⟨ι2,S2,M',ρ',xs[i],ρ1,B8,xR.mono B6,r2,eg,fun ι3 S3 H3 σ3 HH B9 vh=>?_⟩
    refine⟨ι3,S3,M',ρ1,B9,vh,?_⟩
    have wL:=ex.trans (B6.trans HH)
    dsimp only at ww
    cases eb:s1 ρ1 M' with
    | nx ρ4 M4 =>
     rw[eb] at ww
     dsimp only at ww
     split at ww
     ·rename_i EF
      exact fun ι4 S4 H4 σ4 sI kO za=>⟨ι4,S4,M4,ρ4,wL.trans sI,kO,za,EF,ww⟩
     ·exact ww.elim
    | ct ρ4 M4 =>
     rw[eb] at ww
     dsimp only at ww
     split at ww
     ·rename_i EF
      exact fun ι4 S4 H4 σ4 sI kO za=>⟨ι4,S4,M4,ρ4,wL.trans sI,kO,za,EF,ww⟩
     ·exact ww.elim
    | bk ρ4 M4 =>
     rw[eb] at ww
     exact fun ι4 S4 H4 σ4 sI kO za=>ww ι4 S4 H4 σ4 (wL.trans sI) kO za
    | rt x M4 =>
     rw[eb] at ww
     exact fun ι4 S4 H4 σ4 sI kO za=>ww ι4 S4 H4 σ4 (wL.trans sI) kO za
    | exc c ρ4 M4 =>
     rw[eb] at ww
     exact fun ι4 S4 H4 σ4 sI kO za=>ww ι4 S4 H4 σ4 (wL.trans sI) kO za
    | bad=>rw[eb] at ww; exact ww.elim
  ·left
   have e:i=xs.length:=by omega
   subst e
   rw[List.drop_length,jY] at ww
   exact⟨HG (Nat.le_refl _),ww ι' S' H' σ' ex pD xR⟩
 ·exact w1.elim⟩
noncomputable def Res.ky {α β:Type}:Res α->(α->aC->Res β)->Res β
 | .ok a M,f=>f a M
 | .exc _ _,_=>.bad
 | .bad,_=>.bad
@[simp] theorem Res.pE {α β:Type} {a:α} {M:aC} {f:α->aC->Res β}:(Res.ok a M).ky f=f a M:=rfl
noncomputable abbrev AB:St->XK:=fun _ _ _ _=>False
noncomputable def qX (cap:List (Option Nat)) (ρ:cI):cI:=cap.map fun o=>match o with
 | some i=>(ρ[i]?).join
 | none=>none
theorem Slots.cap {K:Fg} {ι:List Addr} {S:Hp} {ρ:cI} {σ:St} (sl:Slots K ι S ρ σ) (cap:List (Option Nat)):Slots K ι S (qX cap ρ) (iK cap σ):=by
 refine⟨by simp[qX,iK],fun i x h=>?_⟩
 unfold qX at h
 unfold iK
 rw[zJ] at h ⊢
 cases ec:cap[i]? with
 | none=>rw[ec] at h; cases h
 | some o =>
  rw[ec] at h
  cases o with
  | none=>cases h
  | some j =>
   have h':(ρ[j]?).join=some x:=Option.some.inj h
   cases q:ρ[j]? with
   | none=>rw[q] at h'; cases h'
   | some z =>
    rw[q] at h'
    have KS:z=some x:=h'
    subst KS
    obtain⟨v,h1,h2⟩:=sl.2 j x q
    exact⟨v,by simp[h1],h2⟩
open Classical in
noncomputable def gO (w:oU) (g:DG) (tc:DT) (d:DE):List PV->cI->aC->List PV->Res (List PV)
 | [],_,M,acc=>.ok acc M
 | x::xs,ρ,M,acc=>match g x ρ with
  | none=>.bad
  | some ρ1=>(tc ρ1 M).ky fun k M1=>if k=true then(d ρ1 M1).ky fun y M2=>if kN w M2/\acc.length<lim then gO w g tc d xs ρ1 M2 (acc++[y]) else .bad
   else if kN w M1 then gO w g tc d xs ρ1 M1 acc else .bad
open Classical in
noncomputable def fk (live:Bool) (cap:List (Option Nat)) (di:DI) (g:DG) (tc:DT) (d:DE):DE:=fun ρ M=>(di ρ M).bind fun r M1=>if kN r.2 M1 then(gO r.2 g tc d r.1 (qX cap ρ) M1 []).ky fun ys M2=>kt live ys M2 else .bad
structure Ca (X:Cx) (ifs:List Expr) (t:DT):Prop where
 out:mF X ifs (tG X.K wg AB t)
noncomputable def wM:DT:=fun _ M=>.ok true M
theorem mF.imp {ifs:List Expr} {t t':TT} (h:mF X ifs t) (i:∀ σ H Q,t' σ H Q->t σ H Q):mF X ifs t':=fun pins s σ H Q I hw=>h pins s σ H Q I (i σ H Q hw)
theorem jt:Ca X [] wM:=⟨mF.imp vZ fun σ H Q h=>by
 obtain⟨ι,S,M,ρ,aq,sl,w⟩:=h
 exact w ι S H true .refl aq rfl⟩
theorem pF (h:VT X AB c tc):Ca X [c] tc:=⟨v3 h.out⟩
theorem ux {ι ι':List Addr} {S S' H H':Hp} {M:aC} {E:XK} {Q:VK} {live:Bool} {xs:List PV} {vs:List V} {K:Fg} {p:Addr} (h0:H p=none) (ex:Ext ι S H ι' S' H') (aq:aI K ι' S' M H') (hp:H' p=some (.lst vs)) (hi:p∉ι') (hS:S' p=none) (r:au K ι' S' xs vs)
  (w:aP K (cT K) E ι S H Q (kt live xs M)):Q (.ref p) H':=by
 have ne:∀b u,H b=some u->b≠p:=fun b u q=>aE q h0
 unfold kt at w
 split at w
 ·split at w
  ·refine w (ι'++[p]) S' H' _ ⟨⟨fun n a h=>(Up.push (S:=S') p).ix n a (ex.ix n a h),ex.sm⟩,?_,fun b u q1 q2 q3=>?_⟩ (aq.enter hi ⟨hS,vs,hp,r⟩) (ar.bh.mpr ⟨p,rfl,by rw[← aq.len]; simp⟩)
   ·have h1:=ex.pre
    have hl:ι.length≤ι'.length:=by rw[← h1]; simp; omega
    rw[List.take_append_of_le_length hl]; exact h1
   ·obtain⟨k1,k2,k3⟩:=ex.fr b u q1 q2 q3
    exact⟨k1,by simp[k2,ne b u q1],k3⟩
  ·have sm:eh S' (upd S' p (.lst vs)):=fun b u q=>by rw[av (aE q hS)]; exact q
   have up:Up ι' S' ι' (upd S' p (.lst vs)):=⟨fun _ _ h=>h,sm⟩
   refine w ι' (upd S' p (.lst vs)) H' _ ⟨⟨ex.ix,ex.sm.trans sm⟩,ex.pre,fun b u q1 q2 q3=>?_⟩ ⟨fun b u q=>?_,aq.len,aq.nd,fun n a u h1 h2=>?_⟩ (ar.eZ.mpr ⟨p,vs,rfl,aF,r.up up⟩)
   ·obtain⟨k1,k2,k3⟩:=ex.fr b u q1 q2 q3
    exact⟨k1,k2,by rw[av (ne b u q1)]; exact k3⟩
   ·by_cases hb:b=p
    ·subst hb; rw[aF] at q; cases q; exact hp
    ·rw[av hb] at q; exact aq.sub b u q
   ·have eu:a≠p:=fun z=>hi (z ▸ List.mem_of_getElem? h1)
    exact(aq.ob n a u h1 h2).up up (fun z=>by rw[av eu]; exact z) rfl
 ·exact w.elim
variable {scope:Scope} {N:List Str} {cap:List (Option Nat)} {elt:Expr} {ifs:List Expr}
theorem zb {K:Fg} {live:Bool} {σ:St} {H:Hp} {Q:VK} (h:tG K (cT K) Ex (fk live cap di g tc d) σ H Q) :
  Av cap (tG K (FZ K) Ex di) (Hx K g) (tG K wg AB tc) (tG K (cT K) AB d) σ H Q:=by
 obtain⟨ι,S,M,ρ,aq,sl,w⟩:=h
 refine⟨ι,S,M,ρ,aq,sl,aP.bind (Rp:=FZ K) w fun ι1 S1 M1 H1 r J e1 wK wk w1=>?_⟩
 obtain⟨xs,wt⟩:=r
 dsimp only at wk w1
 split at w1
 ·rename_i HD
  intro acc wN
  have KU:=wK.jQ wN
  have KW:=wK.fresh wN
  obtain⟨EG,HI⟩:=wK.side (o:=.lst []) wN
  refine⟨fun i m ys σ' H'=>m=xs.length-i/\i≤xs.length/\∃ ι' S' M' ρ' xY,Ext ι1 S1 H1 ι' S' H'/\aI K ι' S' M' H'/\Slots K ι' S' ρ' σ'/\H' acc=some (.lst ys)/\acc∉ι'/\S' acc=none/\au K ι' S' xY ys/\kN wt M' ∧
    aP K (cT K) (Ex σ) ι1 S1 H1 Q ((gO wt g tc d (xs.drop i) ρ' M' xY).ky fun ys M2=>kt live ys M2),
   ⟨xs.length,by simp,Nat.zero_le _,ι1,S1,M1,qX cap ρ,[],HI,EG,(sl.mono e1).cap cap,aF,KW,KU,.nil,HD,by simpa using w1⟩,?_⟩
  rintro i m ys σ' H' ⟨rfl,yP,ι',S',M',ρ',xY,ex,pD,xR,HJ,vU,HK,rs,HE,ww⟩
  obtain⟨HF,HG⟩:=wk i ι' S' M' H' ex.toUp pD HE
  by_cases eL:i<xs.length
  ·right
   obtain⟨go,yl⟩:=HF xs[i] (List.getElem?_eq_getElem eL)
   rw[List.drop_eq_getElem_cons eL,gO] at ww
   refine⟨go,fun v H2 y=>?_⟩
   obtain⟨ι2,S2,B6,B8,r2⟩:=yl v H2 y
   cases eg:g xs[i] ρ' with
   | none=>rw[eg] at ww; exact ww.elim
   | some ρ1 =>
    rw[eg] at ww
    refine⟨ι2,S2,M',ρ',xs[i],ρ1,B8,xR.mono B6,r2,eg,fun ι3 S3 H3 σ3 HH B9 vh=>?_⟩
    have HL:=B6.trans HH
    refine⟨ι3,S3,M',ρ1,B9,vh,?_⟩
    dsimp only at ww
    cases et:tc ρ1 M' with
    | exc c M4=>rw[et] at ww; exact ww.elim
    | bad=>rw[et] at ww; exact ww.elim
    | ok k M4 =>
     rw[et] at ww
     intro ι4 S4 H4 k' sI kO rk
     cases rk
     have zc:=HL.trans sI
     have HM:=ex.trans zc
     obtain⟨f1,f2,f3⟩:=zc.fr acc _ HJ vU HK
     have ww:aP K (cT K) (Ex σ) ι1 S1 H1 Q ((if k=true then(d ρ1 M4).ky fun y M2=>open Classical in if kN wt M2/\xY.length<lim then gO wt g tc d (xs.drop (i+1)) ρ1 M2 (xY++[y]) else .bad else open Classical in if kN wt M4 then gO wt g tc d (xs.drop (i+1)) ρ1 M4 xY else .bad).ky fun ys M2=>kt live ys M2):=ww
     cases k with
     | false =>
      rw[if_neg Bool.false_ne_true] at ww
      refine qM ⟨xs.length-(i+1),by omega,rfl,eL,ι4,S4,M4,ρ1,xY,HM,kO,vh.mono sI,f1,f2,f3,rs.mono zc,?_⟩
      split at ww
      ·rename_i EF; exact⟨EF,ww⟩
      ·exact ww.elim
     | true =>
      rw[if_pos rfl] at ww
      refine qN ⟨ι4,S4,M4,ρ1,kO,vh.mono sI,?_⟩
      cases ed:d ρ1 M4 with
      | exc c M5=>rw[ed] at ww; exact ww.elim
      | bad=>rw[ed] at ww; exact ww.elim
      | ok yv M5 =>
       rw[ed] at ww
       intro ι5 S5 H5 u Jh zd r5
       have Cc:=zc.trans Jh
       have Cd:=ex.trans Cc
       obtain⟨f1,f2,f3⟩:=Cc.fr acc _ HJ vU HK
       have ww:aP K (cT K) (Ex σ) ι1 S1 H1 Q ((open Classical in if kN wt M5/\xY.length<lim then gO wt g tc d (xs.drop (i+1)) ρ1 M5 (xY++[yv]) else .bad).ky fun ys M2=>kt live ys M2):=ww
       split at ww
       ·rename_i FU
        refine⟨f1,by rw[← rs.length]; exact nP FU.2,xs.length-(i+1),by omega,rfl,eL,ι5,S5,M5,ρ1,xY++[yv],?_,?_,vh.mono (sI.trans Jh),aF,f2,f3,(rs.mono Cc).append (.one r5),FU.1,ww⟩
        ·refine⟨Cd.toUp,Cd.pre,fun b u q1 q2 q3=>?_⟩
         obtain⟨k1,k2,k3⟩:=Cd.fr b u q1 q2 q3
         exact⟨by rw[av (aE q1 wN)]; exact k1,k2,k3⟩
        ·refine⟨fun b v q=>by rw[av (aE q f3)]; exact zd.sub b v q,zd.len,zd.nd,fun n a v h1 h2=>?_⟩
         have eu:a≠acc:=fun z=>f2 (z ▸ List.mem_of_getElem? h1)
         exact(zd.ob n a v h1 h2).up ⟨fun _ _ h=>h,eh.refl _⟩ (fun z=>z) (av eu)
       ·exact ww.elim
  ·left
   have e:i=xs.length:=by omega
   subst e
   rw[List.drop_length,gO] at ww
   exact⟨HG (Nat.le_refl _),ux wN ex pD HJ vU HK rs ww⟩
 ·exact w1.elim
theorem iu (live:Bool) (co:dw X scope N cap) (nc:X.calm=true) (qQ:VI X Ex tg iter di)
  (hg:∀C fp s0 H0,VG (du X scope N C fp s0 H0) tg g) (hi:∀C fp s0 H0,Ca (du X scope N C fp s0 H0) ifs tc) (he:∀C fp s0 H0,VE (du X scope N C fp s0 H0) AB elt d)
  (hs:∀x,foldedSetIterable iter X.env x=pure x:=by intro _; rfl):VE X Ex (.ListComp elt [⟨tg,iter,ifs,0⟩] scope pos) (fk live cap di g tc d):=⟨PE.imp (yQ (g:=Hx X.K g) (tt:=tG X.K wg AB tc) (te:=tG X.K (cT X.K) AB d) co nc qQ.out (fun C fp s0 H0=>(hg C fp s0 H0).out) (fun C fp s0 H0=>(hi C fp s0 H0).out) (fun C fp s0 H0=>(he C fp s0 H0).out) hs) fun _ _ _ h=>zb h⟩
end
end L2
end
section
namespace L2
open PySem PySem.Spec PyProof.Rows
noncomputable def vm (K:Fg) (n:Nat) (g:D1):Sp:=fun vs H Q E=>vs.length=n/\∃ ι S M xs,aI K ι S M H/\au K ι S xs vs/\aP K (cT K) E ι S H Q (g xs M)
noncomputable def Out.res:Out->Res PV
 | .nx _ M=>.ok .bb M
 | .rt x M=>.ok x M
 | .exc c _ M=>.exc c M
 | _=>.bad
@[simp] theorem Out.Ce {ρ:cI} {M:aC}:(Out.nx ρ M).res=.ok .bb M:=rfl
@[simp] theorem Out.Cf {x:PV} {M:aC}:(Out.rt x M).res=.ok x M:=rfl
@[simp] theorem Out.ze {c:Addr} {ρ:cI} {M:aC}:(Out.exc c ρ M).res=.exc c M:=rfl
noncomputable def ju (n:Nat) (d:DS):D1:=fun xs M=>(d (xs.map some++List.replicate (n-xs.length) none) M).res
section
variable {P:Program} {w:World} {K:Fg} {mg:Str->Option Value} {base:Heap}
theorem pG {ι:List Addr} {S:Hp} {xs:List PV} {vs:List V} {N:List Str} (r:au K ι S xs vs):Slots K ι S (xs.map some++List.replicate (N.length-xs.length) none) (start N vs):=by
 unfold start
 have hl:=r.length
 refine⟨by simp[hl],fun i x h=>?_⟩
 by_cases hi:i<xs.length
 ·rw[List.getElem?_append_left (by simpa using hi),zJ] at h
  rw[List.getElem?_append_left (by simpa[← hl] using hi),zJ]
  cases e:xs[i]? with
  | none=>rw[e] at h; cases h
  | some y =>
   rw[e] at h
   cases h
   obtain⟨v,h1,h2⟩:=r.get e
   exact⟨v,by rw[h1]; rfl,h2⟩
 ·rw[List.getElem?_append_right (by simpa using hi)] at h
  rw[List.getElem?_replicate] at h
  split at h<;>cases h
theorem qY {x qual:Str} {st:Stmt} {f:Addr} {fd:FuncData} {N ps:List Str} {k:Nat} {d:DS} (F:vX K x qual st f fd) (S:aL N ps (ak st))
  (hb:∀(eO:Value) (A:Around) (outer:List Env) (s:Shared) (H:Hp) (E:XK),df k (A.deeper (envOfC qual (ak st) s.heap.objs.size f eO)) →
   sH (ee (iF P w) P w K mg base N qual (ak st) f eO A outer s H E) (fun _=>E) (bN st) d) :
  fX P w K mg base (iF P w) (k+1) f fd ps (vm K ps.length (ju N.length d)):=by
 obtain⟨oc,od,kV,doc,pm,an,eO,ct,yA,rfl,lk,vz⟩:=F.ex
 refine D0 lk vz S (fun vs H Q E h=>h.1) fun A outer s H vs Q E hr Aq=>⟨_,(hb eO A outer s H E hr).out,?_⟩
 obtain⟨hl,ι,S',M,xs,aq,r,w'⟩:=Aq
 refine⟨ι,S',M,_,aq,pG r,?_⟩
 unfold ju at w'
 cases q:d (xs.map some++List.replicate (N.length-xs.length) none) M with
 | nx ρ M'=>rw[q] at w'; exact fun ι1 S1 H1 σ1 e1 s1 _=>w' ι1 S1 H1 .bb e1 s1 (ar.eY.mpr rfl)
 | rt y M'=>rw[q] at w'; exact fun ι1 S1 H1 v e1 s1 r1=>w' ι1 S1 H1 v e1 s1 r1
 | exc c ρ M'=>rw[q] at w'; exact fun ι1 S1 H1 σ1 e1 s1 _=>w' ι1 S1 H1 e1 s1
 | bk ρ M'=>rw[q] at w'; exact w'.elim
 | ct ρ M'=>rw[q] at w'; exact w'.elim
 | bad=>rw[q] at w'; exact w'.elim
noncomputable def MO.er (n:Nat):MO->Bool
 | .gone=>true
 | .lst xs=>PV.iG n xs
 | .iH aw=>aw.all fun kv=>PV.er n kv.2
 | .vj aw=>aw.all fun kv=>PV.er n kv.2
 | .Ax aw=>aw.all fun kv=>PV.er n kv.2
 | .ins _ fs=>fs.all fun kv=>PV.er n kv.2
 | .exc _=>true
theorem bX.er {κ:Type} {ι:List Addr} {S:Hp} {aw:List (κ×PV)} {eN:List (κ×V)} (h:bX K ι S aw eN):(aw.all fun kv=>PV.er ι.length kv.2)=true:=by
 induction h with
 | nil=>rfl
 | cons r t ih=>rw[List.all_cons,ih,ar.er _ _ r.2]; rfl
theorem bX.cut {κ:Type} {ι:List Addr} {S:Hp} {n:Nat} {aw:List (κ×PV)} {eN:List (κ×V)} (h:bX K ι S aw eN) (hb:(aw.all fun kv=>PV.er n kv.2)=true):bX K (ι.take n) S aw eN:=by
 induction h with
 | nil=>exact .nil
 | cons r t ih =>
  rw[List.all_cons,Bool.and_eq_true] at hb
  exact .cons ⟨r.1,ar.cut _ _ hb.1 r.2⟩ (ih hb.2)
theorem iT.er {ι:List Addr} {S H:Hp} {a:Addr} {o:MO} (h:iT K ι S H a o):o.er ι.length=true:=by
 cases o with
 | gone=>rfl
 | lst xs=>obtain⟨_,vs,_,r⟩:=h; exact au.iG _ _ r
 | iH aw=>obtain⟨_,vs,_,r⟩:=h; exact r.er
 | vj aw=>obtain⟨_,vs,_,r⟩:=h; exact r.er
 | Ax aw=>obtain⟨_,_,_,_,r⟩:=h; exact r.er
 | ins C fs=>obtain⟨_,dx,vs,_,r⟩:=h; exact r.er
 | exc C=>rfl
theorem iT.cut {ι:List Addr} {S H:Hp} {a:Addr} {o:MO} {n:Nat} (h:iT K ι S H a o) (hb:o.er n=true):iT K (ι.take n) S H a o:=by
 cases o with
 | gone=>exact h
 | lst xs=>obtain⟨z,vs,e,r⟩:=h; exact⟨z,vs,e,au.cut _ _ hb r⟩
 | iH aw=>obtain⟨z,vs,e,r⟩:=h; exact⟨z,vs,e,r.cut hb⟩
 | vj aw=>obtain⟨z,vs,e,r⟩:=h; exact⟨z,vs,e,r.cut hb⟩
 | Ax aw=>obtain⟨ob,vs,z,e,r⟩:=h; exact⟨ob,vs,z,e,r.cut hb⟩
 | ins C fs=>obtain⟨z,dx,vs,e,r⟩:=h; exact⟨z,dx,vs,e,r.cut hb⟩
 | exc C=>exact h
open Classical in
noncomputable def mG (M:aC):Res PV->Res PV
 | .ok x M'=>if M'.take M.length=M/\PV.er M.length x=true then .ok x M else .bad
 | .exc c M'=>if M'.take M.length=M then .exc c M else .bad
 | .bad=>.bad
noncomputable def trunc (g:D1):D1:=fun xs M=>mG M (g xs M)
theorem sJ {M M':aC} {x:PV} (h:M'.take M.length=M) (hb:PV.er M.length x=true):mG M (.ok x M')=.ok x M:=by simp only[mG]; rw[if_pos ⟨h,hb⟩]
theorem wO {M M':aC} {c:Addr} (h:M'.take M.length=M):mG M (.exc c M')=.exc c M:=by simp only[mG]; rw[if_pos h]
@[simp] theorem C4 {M:aC} {x:PV} (hb:PV.er M.length x=true):mG M (.ok x M)=.ok x M:=sJ List.take_length hb
@[simp] theorem wQ {M:aC} {c:Addr}:mG M (.exc c M)=.exc c M:=wO List.take_length
@[simp] theorem EH {M:aC}:mG M .bad=.bad:=rfl
theorem sL {ι ι':List Addr} {S S' H H':Hp} {M M':aC} (aq:aI K ι S M H) (pD:aI K ι' S' M' H') (ex:Ext ι S H ι' S' H') (h:M'.take M.length=M):aI K ι S' M H'/\Ext ι S H ι S' H':=by
 refine⟨⟨pD.sub,aq.len,aq.nd,fun n a o h1 h2=>?_⟩,⟨⟨fun _ _ h=>h,ex.sm⟩,List.take_length,fun b u q1 q2 q3=>?_⟩⟩
 ·have hn:n<M.length:=(List.getElem?_eq_some_iff.mp h2).1
  have Eh:M'[n]? = some o:=by rw[← h,List.getElem?_take_of_lt hn] at h2; exact h2
  have m1:=pD.ob n a o (ex.ix n a h1) Eh
  have m2:=(aq.ob n a o h1 h2).er
  have:=m1.cut m2
  rw[ex.pre] at this
  exact this
 ·obtain⟨k1,k2,k3⟩:=ex.fr b u q1 q2 q3
  exact⟨k1,q2,k3⟩
theorem uy {n:Nat} {g:D1} {vs:List V} {H:Hp} {Q:VK} {E:XK} (h:vm K n (trunc g) vs H Q E):vm K n g vs H Q E:=by
 obtain⟨hl,ι,S,M,xs,aq,r,w'⟩:=h
 refine⟨hl,ι,S,M,xs,aq,r,?_⟩
 unfold trunc at w'
 cases q:g xs M with
 | bad=>rw[q] at w'; exact w'
 | ok x M' =>
  rw[q] at w'
  simp only[mG] at w'
  split at w'
  ·rename_i hc
   intro ι1 S1 H1 v e1 s1 r1
   obtain⟨s2,e2⟩:=sL aq s1 e1 hc.1
   refine w' ι S1 H1 v e2 s2 ?_
   have:=ar.cut (n:=M.length) x v hc.2 r1
   rw[← aq.len,e1.pre] at this
   exact this
  ·exact w'.elim
 | exc c M' =>
  rw[q] at w'
  simp only[mG] at w'
  split at w'
  ·rename_i hc
   intro ι1 S1 H1 e1 s1
   obtain⟨s2,e2⟩:=sL aq s1 e1 hc
   exact w' ι S1 H1 e2 s2
  ·exact w'.elim
end
structure iw (P:Program) (w:World) (K:Fg) (mg:Str->Option Value) (base:Heap) (k:Nat) (x:Str) (n:Nat) (g:D1):Prop where
 ex:∃f fd ps,fX P w K mg base (iF P w) k f fd ps (vm K n g)/\mg x=some (.ref f)/\PySem.W.keepIn K (.ref f)=true/\Binds K fd ps []
section
variable {P:Program} {w:World} {K:Fg} {mg:Str->Option Value} {base:Heap}
theorem iw.mono {j k:Nat} {x:Str} {n:Nat} {g:D1} (F:iw P w K mg base j x n g) (h:j≤k):iw P w K mg base k x n g:=by
 obtain⟨f,fd,ps,F,r⟩:=F.ex
 exact⟨f,fd,ps,F.mono h,r⟩
theorem iw.trunc {k:Nat} {x:Str} {n:Nat} {g:D1} (F:iw P w K mg base k x n g):iw P w K mg base k x n (trunc g):=by
 obtain⟨f,fd,ps,F,r⟩:=F.ex
 exact⟨f,fd,ps,F.imp fun _ _ _ _ h=>uy h,r⟩
structure dI (K:Fg) (mg:Str->Option Value) (x:Str) (st:Stmt) (ps:List Str):Prop where
 ex:∃f fd,vX K x x st f fd/\mg x=some (.ref f)/\Binds K fd ps []
theorem iw.of {x:Str} {st:Stmt} {N ps:List Str} {k:Nat} {d:DS} (D:dI K mg x st ps) (S:aL N ps (ak st))
  (hb:∀(f:Addr) (eO:Value) (A:Around) (outer:List Env) (s:Shared) (H:Hp) (E:XK),df k (A.deeper (envOfC x (ak st) s.heap.objs.size f eO)) →
   sH (ee (iF P w) P w K mg base N x (ak st) f eO A outer s H E) (fun _=>E) (bN st) d):iw P w K mg base (k+1) x ps.length (ju N.length d):=by
 obtain⟨f,fd,F,hm,hB⟩:=D.ex
 exact⟨f,fd,ps,qY F S (hb f),hm,F.kp,hB⟩
end
structure Good0 (X:Cx) (Ex:St->XK):Prop where
 hu:X.A.units+64<cLine
 calm:X.calm=true
 ps:k7 (iF X.prog X.w) X Ex
 nd:X.N.Nodup
structure Good (X:Cx) (Ex:St->XK):Prop extends Good0 X Ex where
 own:PassesOwn (model X.prog X.w) X.A X.env X.xe
theorem Good.gg {X:Cx} {Ex:St->XK} (G:Good X Ex):Good0 X Ex:=G.toGood0
theorem nY {P:Program} {w:World} {K:Fg} {mg:Str->Option Value} {base:Heap} {N ps:List Str} {qual:Str} {scope:Scope} {f:Addr} {cd:Value} {A:Around} {outer:List Env} {s:Shared} {H:Hp} {E:XK} {k:Nat} (S:aL N ps scope)
  (hr:df k (A.deeper (envOfC qual scope s.heap.objs.size f cd))):Good (ee (iF P w) P w K mg base N qual scope f cd A outer s H E) (fun _=>E) :=
 ⟨⟨hr.units,rfl,fun pins σ H s e s' I h=>yR pins σ H s e s' I h,S.nd⟩,PassesOwn.leaving⟩
theorem aW {X:Cx} {Ex:St->XK} (G:Good0 X Ex) {scope:Scope} {N:List Str} {C:Addr} {fp:List Addr} {s:Shared} {H:Hp} (nd:N.Nodup):Good (du X scope N C fp s H) AB :=
 ⟨⟨G.hu,G.calm,fun pins σ H s e s' I h=>by obtain⟨_,_,_,_,_,z⟩:=h; exact z.elim,nd⟩,PassesOwn.never⟩
section
variable {X:Cx} {Ex:St->XK} {a b c e o:Expr} {es:List Expr} {da db dc d jX:DE} {ds:List DE} {pos pos' apos bC:Pos} {k n:Nat} {x m:Str} {g:D1}
theorem aO {p:Pos} (F:iw X.prog X.w X.K X.mg X.base k x n g) (hr:df k X.A) (G:Good0 X Ex) (ha:VN X Ex (e::es) ds) (hg:Gl X x:=by rfl) (hn:ds.length=n:=by rfl) (ue:(x == ("__debug__" : Str))=false:=by decide)
  (he:starEach (e::es) X.env=(false,eval e X.env)::starEach es X.env:=by rfl) (gX:(backTo pos (starEach es X.env)).any (·.1)=false:=by rfl):VE X Ex (.Call (.Name x p) (e::es) [] pos) (al g ds):=⟨by
 obtain⟨f,fd,ps,F,hm,hk,hb⟩:=F.ex
 refine PE.imp (v7 F hr hg hm hk hb .nil G.ps ha.out ue he gX) fun σ H Q h=>?_
 obtain⟨ι,S,M,ρ,aq,sl,w⟩:=h
 refine⟨ι,S,M,ρ,aq,sl,aP.bind (Rp:=wm X.K ds.length) w fun ι1 S1 M1 H1 xs vs e1 s1 r1 w1=>?_⟩
 rw[zI]
 exact⟨by rw[← r1.1.length,r1.2,hn],ι1,S1,M1,xs,s1,r1.1,w1⟩⟩
end
noncomputable abbrev F0:List Addr->Hp->Unit->Unit->Prop:=fun _ _ _ _=>True
noncomputable def dJ:List (Option DE)->cI->aC->Res Unit
 | [],_,M=>.ok () M
 | none::r,ρ,M=>dJ r ρ M
 | some d::r,ρ,M=>(d ρ M).bind fun x M1=>match x with
  | .int i=>if small i=true then dJ r ρ M1 else .bad
  | _=>.bad
structure VJ (X:Cx) (Ex:St->XK) (es:List Expr) (ps:List (Option DE)):Prop where
 out:∀(pins:List (Addr×Obj)) (s:Shared) (σ:St) (H:Hp) (Q:Unit->Hp->Prop) (acc:Str) (n:Nat),Inv X pins σ H s->tG X.K F0 Ex (dJ ps) σ H Q →
 acc.length+ps.length*2000≤n->n≤1000000->Joins (model X.prog X.w) X.A X.xe (evalEach es X.env) acc (fun out s₁=>out.length≤n/\∃H',Inv X pins σ H' s₁/\Q () H') s
section
variable {X:Cx} {Ex:St->XK} {a b c e:Expr} {es:List Expr} {d:DE} {ds:List DE} {ps:List (Option DE)} {pos pos' bC:Pos}
theorem hW:VJ X Ex [] []:=⟨fun pins s σ H Q acc n I h hl hn=>by
 obtain⟨ι,S,M,ρ,aq,sl,w⟩:=h
 exact⟨by simpa using hl,H,I,w ι S H () .refl aq trivial⟩⟩
theorem dg {x:Str} {j} (h:VJ X Ex es ps) (hx:x.length≤2000:=by decide) (he:evalEach (.Constant (.str x) j pos::es) X.env=eval (.Constant (.str x) j pos) X.env::evalEach es X.env:=by rfl):VJ X Ex (.Constant (.str x) j pos::es) (none::ps):=⟨fun pins s σ H Q acc n I hw hl hn=>by
 rw[he]
 rw[zE] at hl
 have e1:(acc++x).length=acc.length+x.length:=strLen_append _ _
 refine Calls.Constant_str ⟨x,_,rfl,?_,?_⟩
 ·rw[e1,sizeLine_eq]; omega
 ·exact h.out pins _ σ H Q (acc++x) n (I.tok _) hw (by rw[e1]; omega) hn⟩
theorem uz {i:Int} (h:small i=true):i.natAbs.log2<1920:=by
 have h:=of_decide_eq_true h
 have hn:i.natAbs<2 ^ 64:=by omega
 by_cases h0:i.natAbs=0
 ·rw[h0]; decide
 ·exact Nat.lt_of_lt_of_le ((Nat.log2_lt h0).mpr hn) (by decide)
theorem fm {v:Expr} (hv:VE X Ex v d) (h:VJ X Ex es ps) (he:evalEach (.FormattedValue v (-1) none pos::es) X.env=eval (.FormattedValue v (-1) none pos) X.env::evalEach es X.env:=by rfl):VJ X Ex (.FormattedValue v (-1) none pos::es) (some d::ps):=⟨fun pins s σ H Q acc n I hw hl hn=>by
 rw[he]
 rw[zE] at hl
 refine FormattedValue_plain ?_
 obtain⟨ι,S,M,ρ,aq,sl,w⟩:=hw
 refine cu (hv.out pins s σ H (fun x H1=>∃i,x=.int i/\small i=true/\tG X.K F0 Ex (dJ ps) σ H1 Q) I ⟨ι,S,M,ρ,aq,sl,aP.bind (Rp:=cT X.K) w fun ι1 S1 M1 H1 x v e1 s1 r1 w1=>?_⟩) fun u s1 ⟨x,H1,I1,rx,i,ex,hs,q⟩=>?_
 ·cases x with
  | int i =>
   dsimp only at w1
   split at w1
   ·rename_i hs
    exact⟨i,ar.az.mp r1,hs,ι1,S1,M1,ρ,s1,sl.mono e1,w1⟩
   ·exact w1.elim
  | _=>exact w1.elim
 ·subst ex
  obtain⟨t,rfl⟩:=rx
  have EI:=uz hs
  have hlen:(Str.ofString (toString i)).length≤1921:=by rw[PySem.ofString_length]; exact int_text_length_le (by decide) EI
  have e1:(acc++Str.ofString (toString i)).length=acc.length+(Str.ofString (toString i)).length:=strLen_append _ _
  refine formatField_int_small EI ⟨Str.ofString (toString i),_,rfl,?_,?_⟩
  ·rw[e1,sizeLine_eq]; omega
  ·exact h.out pins _ σ H1 Q (acc++Str.ofString (toString i)) n (I1.tok _) q (by rw[e1]; omega) hn⟩
theorem zf {v₁ v₂:Expr} {rest:List Expr} (h:VJ X Ex (v₁::v₂::rest) ps) (hp:ps.length≤100:=by decide):PE X (.JoinedStr (v₁::v₂::rest) pos) (fun σ H Q=>tG X.K F0 Ex (dJ ps) σ H fun _ H'=>∀z,Q (.str z) H'):=by
 intro pins s σ H Q I hw
 refine wpAny_JoinedStr ?_
 have:=h.out pins s σ H _ Str.empty 1000000 I hw (by have:Str.empty.length=0:=rfl; omega) (Nat.le_refl _)
 have mono:∀(parts:List (Sem Value)) (acc:Str) (s:Shared) (Q1 Q2:Str->Shared->Prop),(∀o s,Q1 o s->Q2 o s)->Joins (model X.prog X.w) X.A X.xe parts acc Q1 s->Joins (model X.prog X.w) X.A X.xe parts acc Q2 s:=by
  intro parts
  induction parts with
  | nil=>intro acc s Q1 Q2 hq h; exact hq _ _ h
  | cons p r ih =>
   intro acc s Q1 Q2 hq h
   exact cu h fun v s1 ⟨y,t,e1,e2,e3⟩=>⟨y,t,e1,e2,ih _ _ _ _ hq e3⟩
 refine mono _ _ _ _ _ (fun o s1 ⟨h1,H',I1,q⟩=>?_) this
 refine⟨by rw[sizeLine_eq]; omega,.str o,H',I1.tok _,⟨_,rfl⟩,q o⟩
end
noncomputable def dA (C:Addr) (ps:List (Option DE)):DS:=fun ρ M=>(dJ ps ρ M).out ρ fun _ M1=>.exc C ρ M1
noncomputable def nZ (C:Addr) (ds:List DE):DS:=fun ρ M=>(cQ ds ρ M).out ρ fun _ M1=>.exc C ρ M1
section
variable {P:Program} {w:World} {K:Fg} {mg:Str->Option Value} {base:Heap} {N:List Str} {qual:Str} {scope:Scope} {f:Addr} {cd:Value} {A:Around} {outer:List Env} {s:Shared} {H:Hp} {E:XK} {x:Str} {C:Addr} {np bC pos HN:Pos} {k:Nat}
theorem dq {v₁ v₂:Expr} {rest:List Expr} {ps:List (Option DE)} (M:C2 K mg x C) (hr:df k (A.deeper (envOfC qual scope s.heap.objs.size f cd))) (h:VJ (ee (iF P w) P w K mg base N qual scope f cd A outer s H E) (fun _=>E) (v₁::v₂::rest) ps)
  (hg:Gl (ee (iF P w) P w K mg base N qual scope f cd A outer s H E) x:=by rfl) (hp:ps.length≤100:=by decide) (hd:(x == ("__debug__" : Str))=false:=by decide) :
  VS (ee (iF P w) P w K mg base N qual scope f cd A outer s H E) (fun _=>E) (.Raise (some (.Call (.Name x np) [.JoinedStr (v₁::v₂::rest) HN] [] bC)) none pos) (dA C ps):=⟨by
 refine PS.imp (pf M hr.hd hg (cW (zf h hp) fN) hd) fun D σ H h=>?_
 obtain⟨ι,S,M,ρ,aq,sl,w'⟩:=h
 refine⟨ι,S,M,ρ,aq,sl,cC.res (Rp:=F0) sl w' fun ι1 S1 M1 H1 x v e1 s1 r1 w1=>?_⟩
 intro z
 exact⟨by show 1≤sizeLine; rw[sizeLine_eq]; decide,w1 ι1 S1 H1 σ .refl s1 (sl.mono e1)⟩⟩
theorem wR {e₀:Expr} {rest:List Expr} {ds:List DE} (M:C2 K mg x C) (hr:df k (A.deeper (envOfC qual scope s.heap.objs.size f cd))) (h:VN (ee (iF P w) P w K mg base N qual scope f cd A outer s H E) (fun _=>E) (e₀::rest) ds)
  (hg:Gl (ee (iF P w) P w K mg base N qual scope f cd A outer s H E) x:=by rfl) (hn:ds.length≤1000:=by decide) (hd:(x == ("__debug__" : Str))=false:=by decide)
  (he:starEach (e₀::rest) (envOfC qual scope s.heap.objs.size f cd)=(false,eval e₀ (envOfC qual scope s.heap.objs.size f cd))::starEach rest (envOfC qual scope s.heap.objs.size f cd):=by rfl)
  (gX:(backTo bC (starEach rest (envOfC qual scope s.heap.objs.size f cd))).any (·.1)=false:=by rfl) :
  VS (ee (iF P w) P w K mg base N qual scope f cd A outer s H E) (fun _=>E) (.Raise (some (.Call (.Name x np) (e₀::rest) [] bC)) none pos) (nZ C ds):=⟨by
 refine PS.imp (pf M hr.hd hg h.out hd he gX) fun D σ H h=>?_
 obtain⟨ι,S,M,ρ,aq,sl,w'⟩:=h
 refine⟨ι,S,M,ρ,aq,sl,cC.res (Rp:=wm K ds.length) sl w' fun ι1 S1 M1 H1 x v e1 s1 r1 w1=>?_⟩
 exact⟨by rw[← r1.1.length,r1.2]; exact Nat.le_of_lt (m8 hn),w1 ι1 S1 H1 σ .refl s1 (sl.mono e1)⟩⟩
end
end L2
end
section
namespace L2
open PySem PySem.Spec PyProof.Rows
theorem Inv.zg {X:Cx} {pins:List (Addr×Obj)} {σ:St} {H:Hp} {s:Shared} {h':Heap} {t':Nat} {fp:List Addr} {vs:List V} (I:Inv X pins σ H s) (hf:∀b∈fp,kK X pins H b)
  (k:∀b o,b∉fp->s.heap.get? b=some o->h'.get? b=some o) (kf:∀b∈fp,∃o,h'.get? b=some o) (new:bG X.prog X.w (upd H s.heap.objs.size (.tup vs)) h' s.heap.objs.size (.tup vs)) :
  Inv X pins σ (upd H s.heap.objs.size (.tup vs)) { s with heap:=h',toks:=t' }:=by
 have hp:H s.heap.objs.size=none:=I.aX.fresh (Nat.le_refl _)
 have Ak:∀b u,H b=some u->b∉fp:=fun b u e z=>by rw[(hf b z).1] at e; cases e
 have np:∀b o,s.heap.get? b=some o->b≠s.heap.objs.size:=fun b o e=>Nat.ne_of_lt (Heap.lt_size e)
 refine I.step (g':=s.gens) (d':=s.drawn) (ch:=fp) (fun b hb=>?_) (fun b o _ _ hc e _=>k b o hc e) (fun b o _ _ hc e _=>⟨o.slots,k b o hc e⟩) (fun b o hc e n=>by rw[av (np b o e)]; exact n)
  (fun b o hc e=>⟨o,k b o hc e⟩) (fun b xs e=>by rw[av (aE e hp)]; exact e) (fun b o u e=>by rw[av (aE e hp)]; exact e) (fun b ps e=>⟨#[],by rw[av (aE e hp),e]; simp⟩) (fun m hm=>?_) (fun b u e=>?_) I.bare
 ·obtain⟨f0,f1,f2,f3,f4,f5⟩:=hf b hb
  exact⟨f3,f1,f4,f5⟩
 ·obtain⟨o,es,ep,ho,r⟩:=hm
  exact⟨o,es,ep,k _ o (fun z=>(hf _ z).2.1 rfl) ho,r⟩
 ·by_cases hb:b=s.heap.objs.size
  ·subst hb
   rw[aF] at e
   cases e
   exact new
  ·rw[av hb] at e
   refine(I.aX b u e).my (fun c v hc q=>k c v ?_ q) (fun c q=>by rw[av (aE q hp)]; exact q) fun c xs q=>by rw[av (aE q hp)]; exact q
   rcases hc with z | z
   ·rw[z]; exact Ak b u e
   ·exact Ak c _ z
theorem Inv.zh {X:Cx} {pins:List (Addr×Obj)} {σ:St} {H:Hp} {s:Shared} {h':Heap} {t':Nat} {fp:List Addr} (I:Inv X pins σ H s) (hf:∀b∈fp,kK X pins H b)
  (k:∀b o,b∉fp->s.heap.get? b=some o->h'.get? b=some o):Inv X pins σ H { s with heap:=h',toks:=t' }:=by
 have Ak:∀b u,H b=some u->b∉fp:=fun b u e z=>by rw[(hf b z).1] at e; cases e
 refine I.step (g':=s.gens) (d':=s.drawn) (ch:=fp) (fun b hb=>?_) (fun b o _ _ hc e _=>k b o hc e) (fun b o _ _ hc e _=>⟨o.slots,k b o hc e⟩) (fun b o hc e n=>n)
  (fun b o hc e=>⟨o,k b o hc e⟩) (fun b xs e=>e) (fun b o u e=>e) (fun b ps e=>⟨#[],by rw[e]; simp⟩) (fun m hm=>?_) (fun b u e=>?_) I.bare
 ·obtain⟨f0,f1,f2,f3,f4,f5⟩:=hf b hb
  exact⟨f3,f1,f4,f5⟩
 ·obtain⟨o,es,ep,ho,r⟩:=hm
  exact⟨o,es,ep,k _ o (fun z=>(hf _ z).2.1 rfl) ho,r⟩
 ·refine(I.aX b u e).my (fun c v hc q=>k c v ?_ q) (fun c q=>q) fun c xs q=>q
  rcases hc with z | z
  ·rw[z]; exact Ak b u e
  ·exact Ak c _ z
noncomputable def HP (K:Fg) (a:Addr):It :=
 ⟨fun i H=>∃xs x,iq K H a xs/\xs[i]? = some x,fun i H v H'=>∃p,H p=none/\v=.ref p/\∀xs,iq K H a xs->∃x,xs[i]? = some x/\H'=upd H p (.tup [.int i,x]),fun i H=>∃xs,iq K H a xs/\xs.length≤i⟩
theorem uA {P:Program} {w:World} {K:Fg} {elts:List Expr} {x1} {ub:Pos} (a e it:Addr) (eu:e≠it) :
  Turn P w K (.Tuple elts x1 ub) (HP K a) [e,it] e (fun i h=>∃old,IsEnum h e it (i:Nat) old/\h.IsListIter it a i) where
 mem:=by simp
 obj:=fun i h ⟨old,he,qQ⟩ b hb=>by
  rcases List.mem_cons.mp hb with rfl | hb
  ·exact⟨_,he,fun v z=>by cases z⟩
  ·have eb:b=it:=by simpa using hb
   subst eb
   obtain⟨o,e,c,d⟩:=qQ
   exact⟨o,e,fun v z=>by rw[d] at z; cases z⟩
 keep:=fun i h h' ⟨old,he,qQ⟩ k=>⟨old,k e (by simp) _ he,qQ.at fun o q=>k it (by simp) o q⟩
 item:=by
  intro X hP hw hK hc i pins s σ H E I hf st hg
  subst hP hw hK
  obtain⟨old,he,qQ⟩:=st
  obtain⟨xs,x,hq,hx⟩:=hg
  obtain⟨aD,rv,p,hz⟩:=I.list hq
  obtain⟨u,hu,ru⟩:=rv.get hx
  refine wpAny_pyNext_enum_item he qQ p.isList (x:=u) (by simpa using hu) eu fun h1 KY EJ KZ L9 k1=>⟨_,rfl,wpAny_letOwnedTupleGo_enum KY fun h2 C5 HQ=>?_⟩
  have EK:e<s.heap.objs.size:=Heap.lt_size he
  have zi:Heap.SameBut e h1 h2:=HQ
  have K0:h2.get? s.heap.objs.size=some { cls:=.type "tuple",data:=.seq #[.int i s.toks,u] }:=(zi.2 _ (Nat.ne_of_gt EK)).trans KZ
  have I1:Inv X pins σ (upd H s.heap.objs.size (.tup [.int i,x])) { s with heap:=h2,toks:=s.toks+1 }:=by
   refine I.zg (fp:=[e,it]) hf (fun b o hb q=>?_) (fun b hb=>?_) ?_
   ·have n1:b≠e:=fun z=>hb (by simp[z])
    have n2:b≠it:=fun z=>hb (by simp[z])
    exact(zi.2 b n1).trans (k1 b o n1 n2 q)
   ·rcases List.mem_cons.mp hb with rfl | hb
    ·exact⟨_,C5⟩
    ·have eb:b=it:=by simpa using hb
     subst eb
     obtain⟨o,q,_⟩:=EJ
     exact⟨o,(zi.2 b (Ne.symm eu)).trans q⟩
   ·exact⟨by show 2≤sizeLine; rw[sizeLine_eq]; decide,[.int i s.toks,u],.cons ⟨_,rfl⟩ (.cons ru .nil),⟨_,K0,rfl,_,rfl⟩⟩
  have hp:=I.aX.fresh (Nat.le_refl s.heap.objs.size)
  refine⟨.ref s.heap.objs.size,_,I1,rfl,⟨s.heap.objs.size,hp,rfl,fun ys hy=>⟨x,by rw[I.o4 hy hq]; exact hx,rfl⟩⟩,⟨u,?_,?_⟩,fun b hb=>?_⟩
  ·have:((i+1:Nat):Int)=(i:Int)+1:=by push_cast; rfl
   rw[this]; exact C5
  ·exact EJ.at fun o q=>(zi.2 it (Ne.symm eu)).trans q
  ·have:b≠s.heap.objs.size:=by
    rcases List.mem_cons.mp hb with rfl | hb
    ·exact Nat.ne_of_lt EK
    ·have eb:b=it:=by simpa using hb
     subst eb
     obtain⟨o,q,_⟩:=qQ
     exact Nat.ne_of_lt (Heap.lt_size q)
   rw[av this]
   exact(hf b hb).1
 done:=by
  intro X hP hw hK hc i pins s σ H E I hf st hg
  subst hP hw hK
  obtain⟨old,he,qQ⟩:=st
  obtain⟨xs,hq,hx⟩:=hg
  obtain⟨aD,rv,p,hz⟩:=I.list hq
  have hl:=rv.length
  refine wpAny_pyNext_enum_end (I.ok.hd hc) he qQ p.isList (by simp; omega) fun h' eb=>⟨rfl,?_⟩
  exact I.zh (t':=s.toks) (fp:=[e,it]) hf fun b o hb q=>eb b o (fun z=>hb (by simp[z])) q
 self:=fun _ _ _ _ _ ⟨old,he,qQ⟩ h=>wpAny_pyIter_enum he h
section
variable {X:Cx} {Ex:St->XK} {a:Expr} {d:DE} {pos p ub:Pos} {elts:List Expr} {x1:Nat}
noncomputable def iM (xs:List PV):List PV:=(xs.zipIdx).map fun q=>.tup [.int q.2,q.1]
theorem uB {xs:List PV} {i:Nat} {y:PV} (h:(iM xs)[i]? = some y):∃x,xs[i]? = some x/\y=.tup [.int i,x]:=by
 unfold iM at h
 rw[zJ,List.getElem?_zipIdx] at h
 cases e:xs[i]? with
 | none=>rw[e] at h; cases h
 | some x=>rw[e] at h; cases h; exact⟨x,rfl,by simp⟩
noncomputable def iE (d:DE):DI:=fun ρ M=>(d ρ M).bind fun x M1=>match x with
 | .lst xs=>.ok (iM xs,none) M1
 | .obj n=>match M1[n]? with
  | some (.lst xs)=>.ok (iM xs,some (n,.lst xs)) M1
  | _=>.bad
 | _=>.bad
theorem lL {K:Fg} {ι:List Addr} {S:Hp} {q:Addr} {xs:List PV} {w:oU} (h:∀ ι' S' M' H',Up ι S ι' S'->aI K ι' S' M' H'->kN w M'->∃vs,iq K H' q vs/\au K ι' S' xs vs):Walks K (HP K q) (iM xs) w ι S:=by
 intro i ι' S' M' H' up aq hc
 obtain⟨vs,hq,rs⟩:=h ι' S' M' H' up aq hc
 refine⟨fun y hy=>?_,fun hl=>⟨vs,hq,by rw[← rs.length]; simpa[iM] using hl⟩⟩
 obtain⟨x,hx,rfl⟩:=uB hy
 obtain⟨v,hv,r⟩:=rs.get hx
 refine⟨⟨vs,v,hq,hv⟩,fun u H2 y=>?_⟩
 obtain⟨p,hp,rfl,y⟩:=y
 obtain⟨z,hz,rfl⟩:=y vs hq
 rw[hv] at hz
 cases hz
 obtain⟨s2,e2⟩:=aq.tree (o:=.tup [.int i,v]) hp
 exact⟨ι',_,e2,s2,ar.bA.mpr ⟨p,_,rfl,aF,.cons (ar.az.mpr rfl) (.one (r.mono e2))⟩⟩
theorem sM (h:VE X Ex a d) (hm:X.mg "enumerate" = none) (hg:Gl X "enumerate" := by rfl) (hs:starEach [a] X.env=[(false,eval a X.env)]:=by rfl):VI X Ex (.Tuple elts x1 ub) (.Call (.Name "enumerate" p) [a] [] pos) (iE d):=⟨by
 intro pins s σ H R I hw
 obtain⟨ι,S,M,ρ,aq,sl,w⟩:=hw
 have A1:PA X [a] (ko (tG X.K (cT X.K) Ex d) uc):=cW h.out fN (by rw[hs]; rfl)
 refine wpAny_Call_Name_kw (lp I hg hm (u:=.type "enumerate") (by first | rfl | decide) ?_ (by decide) (by decide))
 refine PyProof.Rows.callWith_type1 (cu (A1 pos pins s σ H (fun vs H1=>∃q,vs=[.ref q]/\(∃xs,iq X.K H1 q xs)/\R (HP X.K q) H1) I ?_) fun us s1 ⟨vs,H1,I1,r1,q,ev,⟨xs,hq⟩,k⟩=>?_) (by rw[hs]; rfl) rfl
 ·refine⟨ι,S,M,ρ,aq,sl,aP.bind (Rp:=cT X.K) w fun ι1 S1 M1 H1 x v e1 s1 r1 w1=>?_⟩
  cases x with
  | lst xs =>
   obtain⟨q,vs,rfl,eS,rs⟩:=ar.eZ.mp r1
   refine⟨q,rfl,⟨vs,.of (s1.sub _ _ eS)⟩,w1 ι1 S1 H1 _ .refl s1 (lL fun ι2 S2 M2 H2 up s2 _=>?_)⟩
   exact⟨vs,.of (s2.sub _ _ (up.sm _ _ eS)),rs.up up⟩
  | obj n =>
   obtain⟨q,rfl,ei⟩:=ar.bh.mp r1
   obtain⟨o,eM,mo⟩:=s1.addr ei
   simp only[eM] at w1
   cases o with
   | lst xs =>
    obtain⟨_,vs,eH,rs⟩:=mo
    refine⟨q,rfl,⟨vs,.of eH⟩,w1 ι1 S1 H1 _ .refl s1 (lL fun ι2 S2 M2 H2 up s2 hc=>?_)⟩
    obtain⟨_,HA,HB,HC⟩:=s2.ob n q _ (up.ix _ _ ei) hc
    exact⟨HA,.of HB,HC⟩
   | _=>exact w1.elim
  | _=>exact w1.elim
 ·subst ev
  obtain⟨u,rfl,ru⟩:=vals1 r1
  cases ru
  obtain⟨aD,rv,pl,hz⟩:=I1.list hq
  refine call_enumerate_list pl.isList fun h' he qQ hsz kp=>?_
  refine wpAny_pyIter_enum he ?_
  have hp:=I1.aX.fresh (Nat.le_refl s1.heap.objs.size)
  have K1:=I1.aX.fresh (Nat.le_succ s1.heap.objs.size)
  refine⟨s1.heap.objs.size+1,[s1.heap.objs.size+1,s1.heap.objs.size],_,_,H1,rfl,I1.kept (t':=s1.toks) kp,uA q _ _ (Nat.succ_ne_self _),⟨.none,he,qQ⟩,fun b hb=>?_,k⟩
  rcases List.mem_cons.mp hb with rfl | hb
  ·exact I1.yq (Nat.le_succ _) K1
  ·have eb:b=s1.heap.objs.size:=by simpa using hb
   subst eb
   exact I1.yq (Nat.le_refl _) hp⟩
end
end L2
end
section
namespace L2
open PySem PySem.Spec PyProof.Rows
noncomputable def sN (scope sc:Scope) (XN N:List Str) (cap:List (Option Nat)):Bool :=
 decide (scope.kind=.function) && scope.names.all (fun y=>!(y.2 == .cell)) && scope.names.all (fun y=>!(y.2 == .local) || (scope.names.lookup y.1 == some .local)) &&
 scope.names.all (fun y=>!(y.2 == .free) || (sc.names.lookup y.1 == some .cell) || (sc.names.lookup y.1 == some .free)) && decide (cap.length=N.length) &&
 (List.range N.length).all fun j=>match N[j]?,cap[j]? with
  | some x,some (some i)=>(XN[i]? == some x) && scope.names.any (fun y=>y.1 == x && y.2 == .free) && (scope.names.lookup x == some .free)
  | _,_=>true
theorem dw.of {X:Cx} {scope sc:Scope} (XN N:List Str) (cap:List (Option Nat)) (hX:X.N=XN) (hk:∀x,X.env.kindOf x=sc.names.lookup x) (h:sN scope sc XN N cap=true):dw X scope N cap:=by
 subst hX
 unfold sN at h
 simp only[Bool.and_eq_true] at h
 obtain⟨⟨⟨⟨⟨h1,h2⟩,h3⟩,h4⟩,h5⟩,h6⟩:=h
 refine⟨of_decide_eq_true h1,fun y hy e=>?_,fun y hy e=>?_,fun y hy e=>?_,of_decide_eq_true h5,fun j x i e1 e2=>?_⟩
 ·have:=List.all_eq_true.mp h2 y hy
  rw[e] at this
  simp at this
 ·have:=List.all_eq_true.mp h3 y hy
  rw[e] at this
  simpa using this
 ·have:=List.all_eq_true.mp h4 y hy
  rw[e] at this
  rw[hk]
  simpa[or_comm] using this
 ·have hj:j<N.length:=(List.getElem?_eq_some_iff.mp e1).1
  have:=List.all_eq_true.mp h6 j (List.mem_range.mpr hj)
  rw[e1,e2] at this
  simp only[Bool.and_eq_true,beq_iff_eq,List.any_eq_true] at this
  obtain⟨⟨a1,⟨y,a2,a3⟩⟩,a4⟩:=this
  exact⟨a1,by rw[← a3.1,← a3.2]; exact a2,a4⟩
section
variable {X:Cx} {Ex:St->XK} {a b c e o:Expr} {es:List Expr} {da db dc d jX:DE} {ds:List DE} {pos pos' apos bC:Pos}
noncomputable def n0 (d:DE):DE:=fun ρ M=>(d ρ M).bind fun x M1=>match x with
 | .int i=>.ok (.int (-i)) M1
 | _=>.bad
theorem wU (ha:VE X Ex a da):VE X Ex (.UnaryOp .USub a pos) (n0 da):=⟨by
 refine PE.imp (DN Bq ha.out) fun σ H Q h=>?_
 obtain⟨ι,S,M,ρ,aq,sl,w⟩:=h
 refine⟨ι,S,M,ρ,aq,sl,aP.bind (Rp:=cT X.K) w fun ι1 S1 M1 H1 x v e1 s1 r1 w1=>?_⟩
 cases x with
 | int i=>exact⟨i,ar.az.mp r1,w1 ι1 S1 H1 _ .refl s1 (ar.az.mpr rfl)⟩
 | _=>exact w1.elim⟩
theorem wV {X:Cx} {pins:List (Addr×Obj)} {σ:St} {H:Hp} {s:Shared} {ι:List Addr} {S:Hp} {M:aC} {ys:List PV} {vs:List V} {aD:List Value} {x:PV} {v:V} {u:Value} {d:PyData} {qs:List PyData} (hu:X.A.units+64<cLine) (I:Inv X pins σ H s) (aq:aI X.K ι S M H)
  (rs:au X.K ι S ys vs) (rv:Vals vs aD) (px:ar X.K ι S x v) (rx:RelV v u) (e1:flat M deep x=some d) (e2:dN (flat M deep) ys=some qs) :
  (∀y,y∈aD.toArray->SeqAt.EqAt X.A.in1 s y u (PyData.eqv (SeqAt.readOf s.heap y) d))/\aD.map (fun y=>SeqAt.readOf s.heap y)=qs:=by
 obtain⟨⟨as,a1⟩,a2,a3⟩:=dW aq I.aX deep x v u d px rx e1
 obtain⟨⟨bs,b1⟩,b2,b3⟩:=gd (dW aq I.aX deep) ys vs aD qs rs rv e2
 have K2:ReadsAll s.heap aD.toArray.toList qs bs:=by simpa using b1
 refine⟨SeqAt.items_eqAt K2 a1 b2 a2 (by have:=Nat.min_le_right (PyData.depthAll qs) d.depth; have:d.depth≤10:=a3; omega),?_⟩
 exact SeqAt.readsAll_map qs aD bs b2 b1
noncomputable def countP:DM:=fun x as M=>match as with
 | [y]=>match cJ M x,flat M deep y with
  | some xs,some d=>match dN (flat M deep) xs with
   | some qs=>.ok (.int (qs.countP fun q=>PyData.eqv q d)) M
   | none=>.bad
  | _,_=>.bad
 | _=>.bad
theorem jZ (hu:X.A.units+64<cLine):xW X "list.count" (rM X.K countP):=by
 intro pins s σ H x xs v us Q I rx rs h
 obtain⟨E,ι,S,M,p,ps,aq,r,rr,w⟩:=h
 unfold countP at w
 split at w
 ·obtain⟨z,rfl,r1⟩:=rr.dy
  obtain⟨u,rfl,ru⟩:=vals1 rs
  split at w
  ·rename_i ys d h1 h2
   split at w
   ·rename_i qs h3
    obtain⟨l,vs,rfl,eH,rl⟩:=cg aq r h1
    cases rx
    obtain⟨aD,rv,pl,hz⟩:=I.list (.of eH)
    obtain⟨q1,q2⟩:=wV hu I aq rl rv r1 ru h2 h3
    obtain⟨⟨cls,dd,data,sl⟩,n,ho,hc,K3,hd⟩:=id pl
    simp only at hc hd K3
    subst hc hd
    refine call_meets PySem.F.slot_list_count pl.isList.typeIs PySem.F.entry_list_count (PySem.F.args_list_count_2 _ _) (SeqAt.list_countAt l _ n dd sl u _) ⟨ho,q1,?_⟩
    have e:(List.countP (fun y=>PyData.eqv (SeqAt.readOf s.heap y) d) aD.toArray.toList:Nat)=qs.countP fun q=>PyData.eqv q d:=by
     rw[← q2,List.countP_map]; rfl
    rw[e]
    exact⟨.int _,H,I.tok _,⟨_,rfl⟩,w ι S H _ .refl aq (ar.az.mpr rfl)⟩
   ·exact w.elim
  ·exact w.elim
 ·exact w.elim
end
theorem bI:bootBuiltins "len" = some (.builtin "len"):=by decide +kernel
theorem zj:bootBuiltins "max" = some (.builtin "max"):=by decide +kernel
theorem sO:bootBuiltins "all" = some (.builtin "all"):=by decide +kernel
theorem gi:bootBuiltins "list" = some (.type "list"):=by decide +kernel
theorem uC:bootBuiltins "tuple" = some (.type "tuple"):=by decide +kernel
theorem zk:bootBuiltins "int" = some (.type "int"):=by decide +kernel
end L2
end
section
namespace L2
open PySem PySem.Spec PyProof.Rows
structure gP (K:Fg) (C:Addr) (f:Str):Prop where
 cl:Bv K C
 no:lx K C f
noncomputable def lM (f:Str) (v:PV):List (Str×PV)->List (Str×PV)
 | []=>[(f,v)]
 | (g,x)::r=>if g=f then(g,v)::r else(g,x)::lM f v r
theorem bX.fM {K:Fg} {ι:List Addr} {S:Hp} {fs:List (Str×PV)} {qu:List (Str×V)} (h:bX K ι S fs qu) (f:Str) {x:PV} {v:V} (r:ar K ι S x v):bX K ι S (lM f x fs) (fM f v qu):=by
 induction h with
 | nil=>exact .cons ⟨rfl,r⟩ .nil
 | @cons p q fs qu r' t ih =>
  obtain⟨p1,p2⟩:=p
  obtain⟨q1,q2⟩:=q
  obtain⟨r1,r2⟩:=r'
  dsimp only at r1 r2
  subst r1
  show bX K ι S (if p1=f then(p1,x)::fs else(p1,p2)::lM f x fs) (if p1=f then(p1,v)::qu else(p1,q2)::L2.fM f v qu)
  by_cases e:p1=f
  ·rw[if_pos e,if_pos e]; exact .cons ⟨rfl,r⟩ t
  ·rw[if_neg e,if_neg e]; exact .cons ⟨rfl,r2⟩ ih
noncomputable def Cg (C:Addr) (x:PV) (M:aC):Option (Nat×List (Str×PV)):=match x with
 | .obj n=>match M[n]? with
  | some (.ins C' fs)=>if C'=C then some (n,fs) else none
  | _=>none
 | _=>none
theorem zl {C:Addr} {n:Nat} {M:aC} {fs:List (Str×PV)} (h:M[n]? = some (.ins C fs)):Cg C (.obj n) M=some (n,fs):=by simp[Cg,h]
theorem zm {K:Fg} {ι:List Addr} {S H:Hp} {M:aC} {x:PV} {v:V} {C:Addr} {n:Nat} {fs:List (Str×PV)} (aq:aI K ι S M H) (r:ar K ι S x v) (h:Cg C x M=some (n,fs)) :
  ∃a dx qu,v=.ref a/\ι[n]? = some a/\H a=some (.ins C dx qu)/\S a=none/\bX K ι S fs qu:=by
 cases x with
 | obj m =>
  obtain⟨p,rfl,ei⟩:=ar.bh.mp r
  obtain⟨o,eM,q⟩:=aq.addr ei
  simp only[Cg,eM] at h
  cases o with
  | ins C' gs =>
   dsimp only at h
   split at h
   ·rename_i ec
    cases h
    subst ec
    obtain⟨hS,dx,qu,eH,rr⟩:=q
    exact⟨p,dx,qu,rfl,ei,eH,hS,rr⟩
   ·cases h
  | _=>cases h
 | _=>cases h
section
variable {X:Cx} {Ex:St->XK} {a b c e o value:Expr} {es:List Expr} {da db dc d dv jX:DE} {ds:List DE} {pos pos' apos bC:Pos} {C:Addr} {f:Str}
noncomputable def K4 (C:Addr) (f:Str) (d:DE):DE:=fun ρ M=>(d ρ M).bind fun x M1=>match Cg C x M1 with
 | some (_,fs)=>Res.opt (fs.lookup f) M1
 | none=>.bad
noncomputable def fo (C:Addr) (f:Str) (jX dv:DE):DS:=fun ρ M=>(dv ρ M).out ρ fun y M1=>(jX ρ M1).out ρ fun x M2=>match Cg C x M2 with
 | some (n,fs)=>if fs.length<1000 then .nx ρ (M2.set n (.ins C (lM f y fs))) else .bad
 | none=>.bad
theorem dX (h:gP X.K C f) (ho:VE X Ex o jX) (hv:VE X Ex value dv) (hs:swapsWith value (some (.Attribute o f pos')) pos.line X.env=pure false:=by rfl):VS X Ex (.Assign [.Attribute o f pos'] value pos) (fo C f jX dv):=⟨by
 refine PS.imp (Bw ho.out hv.out hs) fun D σ H hh=>?_
 obtain⟨ι,S,M,ρ,aq,sl,w⟩:=hh
 refine⟨ι,S,M,ρ,aq,sl,cC.res (Rp:=cT X.K) sl w fun ι1 S1 M1 H1 y u e1 s1 r1 w1=>?_⟩
 refine⟨ι1,S1,M1,ρ,s1,sl.mono e1,cC.res (Rp:=cT X.K) (sl.mono e1) w1 fun ι2 S2 M2 H2 x v e2 s2 r2 w2=>?_⟩
 cases e3:Cg C x M2 with
 | none=>rw[e3] at w2; exact w2.elim
 | some p =>
  obtain⟨n,fs⟩:=p
  rw[e3] at w2
  dsimp only at w2
  split at w2
  ·rename_i hl
   obtain⟨p,dx,qu,rfl,ei,eH,hS,rr⟩:=zm s2 r2 e3
   refine⟨p,C,dx,qu,rfl,eH,h.cl,h.no,by rw[← rr.length]; exact hl,?_⟩
   obtain⟨s3,e4⟩:=s2.put (u:=.ins C dx (fM f u qu)) (o:=.ins C (lM f y fs)) ei hS ⟨hS,dx,_,aF,rr.fM f (ar.mono e2 r1)⟩
   exact w2 _ _ _ σ e4 s3 ((sl.mono (e1.trans e2)).mono e4)
  ·exact w2.elim⟩
end
structure Ma (P:Program) (w:World) (K:Fg) (mg:Str->Option Value) (base:Heap) (k:Nat) (C:Addr) (m:Str) (n:Nat) (g:D1):Prop where
 ex:∃f fd ps,fX P w K mg base (iF P w) k f fd ps (vm K n g)/\Meth K C m f/\Bv K C/\Binds K fd ps []
structure sP (P:Program) (w:World) (K:Fg) (mg:Str->Option Value) (base:Heap) (k:Nat) (x:Str) (C:Addr) (n:Nat) (g:D1):Prop where
 ex:∃f fd ps,fX P w K mg base (iF P w) k f fd ps (vm K n g)/\Mk K C f/\mg x=some (.ref C)/\Binds K fd ps []
section
variable {P:Program} {w:World} {K:Fg} {mg:Str->Option Value} {base:Heap} {C:Addr} {m x:Str} {n:Nat} {g g':D1}
theorem sP.mono {j k:Nat} (F:sP P w K mg base j x C n g) (h:j≤k):sP P w K mg base k x C n g:=by
 obtain⟨f,fd,ps,F,r⟩:=F.ex
 exact⟨f,fd,ps,F.mono h,r⟩
structure Ji (K:Fg) (C:Addr) (m q:Str) (st:Stmt) (ps:List Str):Prop where
 ex:∃f fd,vX K m q st f fd/\Meth K C m f/\Bv K C/\Binds K fd ps []
structure sQ (K:Fg) (mg:Str->Option Value) (x:Str) (C:Addr) (q:Str) (st:Stmt) (ps:List Str):Prop where
 ex:∃f fd,vX K "__init__" q st f fd/\Mk K C f/\mg x=some (.ref C)/\Binds K fd ps []
theorem sP.of {q:Str} {st:Stmt} {N ps:List Str} {k:Nat} {d:DS} (D:sQ K mg x C q st ps) (S:aL N ps (ak st))
  (hb:∀(f:Addr) (eO:Value) (A:Around) (outer:List Env) (s:Shared) (H:Hp) (E:XK),df k (A.deeper (envOfC q (ak st) s.heap.objs.size f eO)) →
   sH (ee (iF P w) P w K mg base N q (ak st) f eO A outer s H E) (fun _=>E) (bN st) d):sP P w K mg base (k+1) x C ps.length (ju N.length d):=by
 obtain⟨f,fd,F,hm,hc,hB⟩:=D.ex
 exact⟨f,fd,ps,qY F S (hb f),hm,hc,hB⟩
end
section
variable {X:Cx} {Ex:St->XK} {a b c e o:Expr} {es:List Expr} {da d jX:DE} {ds:List DE} {pos apos p:Pos} {C:Addr} {m x:Str} {n k:Nat} {g:D1}
noncomputable def nk (C:Addr) (g:D1) (ds:List DE):DE:=fun ρ M=>(cQ ds ρ M).bind fun xs M1=>(g (.obj M1.length::xs) (M1++[.ins C []])).bind fun r M2=>match r with
 | .bb=>.ok (.obj M1.length) M2
 | _=>.bad
theorem uD {CX:qt} {f:Addr} {fd:FuncData} {ps:List Str} {sp:Sp} {E:XK} {pins:List (Addr×Obj)} {σ:St} {H:Hp} {s:Shared} {Q:VK} {us:List Value} {vs:List V} (M:Mk X.K C f) (F:fX X.prog X.w X.K X.mg X.base CX k f fd ps sp) (hr:df (k+1) X.A) (hb:Binds X.K fd ps [])
  (hx:∀(pins:List (Addr×Obj)) (H:Hp) (s:Shared) (e:Value) (s':Shared),Inv X pins σ H s->CX X.stack H s E e s'->X.xe e s') (I:Inv X pins σ H s) (r:Vals vs us)
  (h:∀x dx,H x=none->H dx=none->dx≠x->sp (.ref x::vs) (upd (upd H dx (.own x)) x (.ins C dx [])) (fun v H2=>v=.bb/\Q (.ref x) H2) E) :
  wpAny (model X.prog X.w) X.A (call (.ref C) us) (EP X pins σ Q) X.xe s:=by
 have hq:=h (s.heap.objs.size+1) s.heap.objs.size (I.aX.fresh (Nat.le_succ _)) (I.aX.fresh (Nat.le_refl _)) (Nat.ne_of_lt (Nat.lt_succ_self _))
 have I2:=Inv.made (C:=C) I
 have r2:Vals (V.ref (s.heap.objs.size+1)::vs) (Value.ref (s.heap.objs.size+1)::us):=.cons rfl r
 have hl:(Value.ref (s.heap.objs.size+1)::us++[]).length=ps.length:=by
  have e:=r2.length
  rw[F.len _ _ _ _ hq] at e
  rw[zI]
  exact e.symm
 have FL:=hb _ (Value.ref (s.heap.objs.size+1)::us) I2.rT hl
 rw[zI] at FL
 refine wpAny_call (vJ (f:=f) I.rT M.makes M.init (beq_iff_eq.mp M.fn) (codeAny_mono (F.run _ X.stack _ _ ⟨Value.ref (s.heap.objs.size+1)::us,[]⟩ (Value.ref (s.heap.objs.size+1)::us) _ _ E (hr.make C us [])
  (I2.DX.make C us []) FL r2 hq) fun r s' EL=>?_))
 cases r with
 | error e=>exact hx pins _ _ e s' I2 EL
 | ok fl =>
  cases fl with
  | ret u =>
   obtain⟨v,H',I3,rv,ev,q3⟩:=I2.after EL
   subst ev
   exact⟨rv,⟨V.ref (s.heap.objs.size+1),H',I3,rfl,q3⟩⟩
  | next=>exact False.elim EL
  | brk=>exact False.elim EL
  | cont=>exact False.elim EL
theorem uE {K:Fg} {ι:List Addr} {S H:Hp} {M:aC} {E:XK} {Q:VK} {xs:List PV} {vs:List V} (aq:aI K ι S M H) (r:au K ι S xs vs) (hn:vs.length+1=n)
  (w:aP K (cT K) E ι S H Q ((g (.obj M.length::xs) (M++[.ins C []])).bind fun r M2=>match r with | .bb=>.ok (.obj M.length) M2 | _=>.bad)) :
  ∀x dx,H x=none->H dx=none->dx≠x->vm K n g (.ref x::vs) (upd (upd H dx (.own x)) x (.ins C dx [])) (fun v H2=>v=.bb/\Q (.ref x) H2) E:=by
 intro x dx hx Ep eu
 obtain⟨s1,e1⟩:=aq.side (o:=.own x) Ep
 have Jj:upd H dx (.own x) x=none:=by rw[av (Ne.symm eu)]; exact hx
 have hS:=s1.jQ Jj
 obtain⟨s2,e2⟩:=s1.new (u:=.ins C dx []) (o:=.ins C []) Jj ⟨hS,dx,[],aF,.nil⟩
 have Jk:=e1.trans e2
 have hi:(ι++[x])[M.length]? = some x:=by rw[← aq.len]; simp
 refine⟨by rw[zE,hn],ι++[x],S,_,_,s2,.cons (ar.bh.mpr ⟨x,rfl,hi⟩) (r.mono Jk),aP.bind (Rp:=cT K) (w.up Jk) fun ι1 S1 M1 H1 y v ex sm rp wk=>?_⟩
 cases y with
 | bb=>exact⟨ar.eY.mp rp,wk ι1 S1 H1 _ .refl sm (ar.bh.mpr ⟨x,rfl,ex.ix _ _ hi⟩)⟩
 | _=>exact wk.elim
theorem zo (F:sP X.prog X.w X.K X.mg X.base k x C n g) (hr:df (k+1) X.A) (G:Good0 X Ex) (ha:VN X Ex (e::es) ds) (hg:Gl X x:=by rfl) (hn:ds.length+1=n:=by rfl) (ue:(x == ("__debug__" : Str))=false:=by decide)
  (he:starEach (e::es) X.env=(false,eval e X.env)::starEach es X.env:=by rfl) (gX:(backTo pos (starEach es X.env)).any (·.1)=false:=by rfl):VE X Ex (.Call (.Name x p) (e::es) [] pos) (nk C g ds):=⟨by
 obtain⟨f,fd,ps,F,M,hm,hb⟩:=F.ex
 intro pins s σ H Q I h
 obtain⟨ι,S,M',ρ,aq,sl,w⟩:=h
 refine wpAny_Call_Name_kw (k4 I hg hm ?_ ue)
 refine PySem.W.callWith_K (h₀:=X.base) I.ok.mod.Dl M.kp (cu (ha.out pos pins s σ H (fun vs H1=>∀x dx,H1 x=none->H1 dx=none->dx≠x->vm X.K n g (.ref x::vs) (upd (upd H1 dx (.own x)) x (.ins C dx [])) (fun v H2=>v=.bb/\Q (.ref x) H2) (Ex σ)) I ?_) fun us s1 ⟨vs,H1,I1,r,q⟩=>⟨I1.rT,?_⟩) he gX
 ·refine⟨ι,S,M',ρ,aq,sl,aP.bind (Rp:=wm X.K ds.length) w fun ι1 S1 M1 H1 xs vs e1 s1 r1 w1=>?_⟩
  exact uE s1 r1.1 (by rw[← r1.1.length,r1.2,hn]) w1
 ·exact uD M F hr hb (fun pins H s e s' I h=>G.ps pins σ H s e s' I h) I1 r q⟩
end
section
variable {X:Cx} {Ex:St->XK} {a b c e o i value:Expr} {es:List Expr} {da db dc d dv di jX:DE} {ds:List DE} {pos pos' apos bC:Pos}
theorem set_dict (hu:X.A.units+1<cLine):qy X (fun o i v H Q=>∃a H',o=.ref a/\nI H a i v H'/\Q H'):=by
 intro pins s σ H o i v ov iv u Q I ro ri rv h
 obtain⟨p,H',rfl,g,q⟩:=h
 cases ro
 exact ug hu I g ri rv fun s' I'=>⟨H',I',q⟩
noncomputable def pH (x k y:PV) (M:aC):Option aC:=match x with
 | .obj n=>match M[n]? with
  | some (.lst xs)=>match k with
   | .int j=>(sh xs.length j).map fun m=>M.set n (.lst (xs.set m y))
   | _=>none
  | some (.iH aw)=>match jS k with
   | some kk=>if aw.length<lim then some (M.set n (.iH (ur aw kk y))) else none
   | none=>none
  | some (.vj aw)=>match sD k with
   | some kk=>if aw.length<lim then some (M.set n (.vj (ur aw kk y))) else none
   | none=>none
  | _=>none
 | _=>none
theorem wW {K:Fg} {ι:List Addr} {S H:Hp} {M M':aC} {x k y:PV} {v kv u:V} {Q:Hp->Prop} (aq:aI K ι S M H) (r:ar K ι S x v) (rk:ar K ι S k kv) (ry:ar K ι S y u) (h:pH x k y M=some M')
  (hQ:∀H',aI K ι S M' H'->Ext ι S H ι S H'->Q H'):Au v kv u H Q\/∃a H',v=.ref a/\nI H a kv u H'/\Q H':=by
 cases x with
 | obj n =>
  obtain⟨p,rfl,ei⟩:=ar.bh.mp r
  obtain⟨o,eM,q⟩:=aq.addr ei
  simp only[pH,eM] at h
  cases o with
  | lst xs =>
   dsimp only at h
   cases k with
   | int j =>
    dsimp only at h
    obtain⟨hS,vs,eH,rr⟩:=q
    cases e:sh xs.length j with
    | none=>rw[e] at h; cases h
    | some m =>
     rw[e] at h
     cases h
     obtain⟨s2,e2⟩:=nW aq ei hS (rr.set m ry)
     exact .inl ⟨p,vs,j,m,rfl,ar.az.mp rk,eH,by rw[← rr.length]; exact e,hQ _ s2 e2⟩
   | _=>cases h
  | iH aw =>
   dsimp only at h
   obtain⟨hS,eN,eH,rr⟩:=q
   cases e:jS k with
   | none=>rw[e] at h; cases h
   | some kk =>
    rw[e] at h
    dsimp only at h
    split at h
    ·rename_i hl
     cases h
     have:=jm rk e
     subst this
     obtain⟨s2,e2⟩:=aq.put (u:=.dK (putK eN kk u)) (o:=.iH (ur aw kk y)) ei hS ⟨hS,_,aF,rr.put kk ry⟩
     exact .inr ⟨p,_,rfl,nI.k eH (by rw[← rr.length]; exact nP hl),hQ _ s2 e2⟩
    ·cases h
  | vj aw =>
   dsimp only at h
   obtain⟨hS,eN,eH,rr⟩:=q
   cases k with
   | tup ks =>
    obtain⟨b,vs,rfl,eS,rs⟩:=ar.bA.mp rk
    simp only[sD] at h
    cases e:dN jS ks with
    | none=>rw[e] at h; cases h
    | some kk =>
     rw[e] at h
     dsimp only at h
     split at h
     ·rename_i hl
      cases h
      have:=jT rs e
      subst this
      obtain⟨s2,e2⟩:=aq.put (u:=.dT (putK eN kk u)) (o:=.vj (ur aw kk y)) ei hS ⟨hS,_,aF,rr.put kk ry⟩
      exact .inr ⟨p,_,rfl,nI.t eH (aq.sub _ _ eS) (by rw[← rr.length]; exact nP hl),hQ _ s2 e2⟩
     ·cases h
   | _=>cases h
  | _=>cases h
 | _=>cases h
noncomputable def nq (jX di dv:DE):DS:=fun ρ M=>(dv ρ M).out ρ fun y M1=>(jX ρ M1).out ρ fun x M2=>(di ρ M2).out ρ fun k M3=>match pH x k y M3 with
 | some M4=>.nx ρ M4
 | none=>.bad
theorem qy.or {t t':yn} (h:qy X t) (h':qy X t'):qy X (fun o i v H Q=>t o i v H Q\/t' o i v H Q):=by
 intro pins s σ H o i v ov iv u Q I ro ri rv q
 rcases q with q | q
 ·exact h pins s σ H o i v ov iv u Q I ro ri rv q
 ·exact h' pins s σ H o i v ov iv u Q I ro ri rv q
theorem sR (hu:X.A.units+64<cLine) (ho:VE X Ex o jX) (hi:VE X Ex i di) (hv:VE X Ex value dv)
  (ha:∀v,assign (.Subscript o i pos') X.env v=(do
   let ov ← holding [v] (eval o X.env)
   let iv ← holding [v,ov] (eval i X.env)
   standAt pos'
   holding [v,ov,iv] (setItem ov iv v)
   release [v,ov,iv] []):=by intro _; rfl)
  (hs:swapsWithSole [.Subscript o i pos'] value pos.line X.env=pure false:=by rfl) (hw:swappedStores [.Subscript o i pos'] value X.env=pure none:=by rfl)
  (h1:(assignEach [.Subscript o i pos'] X.env).map (·.2)=[assign (.Subscript o i pos') X.env]:=by rfl):VS X Ex (.Assign [.Subscript o i pos'] value pos) (nq jX di dv):=⟨by
 refine PS.imp (Bg hv.out (Bf ho.out hi.out (set_list.or (set_dict (by omega))) ha) hs hw h1) fun D σ H hh=>?_
 obtain⟨ι,S,M,ρ,aq,sl,w⟩:=hh
 refine⟨ι,S,M,ρ,aq,sl,cC.res (Rp:=cT X.K) sl w fun ι1 S1 M1 H1 y u e1 s1 r1 w1=>?_⟩
 refine⟨ι1,S1,M1,ρ,s1,sl.mono e1,cC.res (Rp:=cT X.K) (sl.mono e1) w1 fun ι2 S2 M2 H2 x v e2 s2 r2 w2=>?_⟩
 refine⟨ι2,S2,M2,ρ,s2,sl.mono (e1.trans e2),cC.res (Rp:=cT X.K) (sl.mono (e1.trans e2)) w2 fun ι3 S3 M3 H3 k kv e3 s3 r3 w3=>?_⟩
 cases e4:pH x k y M3 with
 | none=>rw[e4] at w3; exact w3.elim
 | some M4 =>
  rw[e4] at w3
  exact wW s3 (ar.mono e3 r2) r3 (ar.mono (e2.trans e3) r1) e4 fun H' s' e'=>w3 _ _ _ σ e' s' ((sl.mono (e1.trans (e2.trans e3))).mono e')⟩
end
end L2
end
section
namespace L2
open PySem PySem.Spec PyProof.Rows
noncomputable def bools:List PV->Option (List Bool)
 | []=>some []
 | .bl b::r=>(bools r).map (b::·)
 | _::_=>none
theorem nr {K:Fg} {ι:List Addr} {S:Hp}:∀{xs:List PV} {vs:List V} {bs:List Bool},au K ι S xs vs->bools xs=some bs->vs=bs.map V.bl
 | [],vs,bs,r,e=>by rw[au] at r; subst r; cases e; rfl
 | x::xs,vs,bs,r,e=>by
  obtain⟨v,r',rfl,h1,h2⟩:=r.dM
  cases x with
  | bl b =>
   rw[bools] at e
   cases e2:bools xs with
   | none=>rw[e2] at e; cases e
   | some cs =>
    rw[e2] at e
    cases e
    rw[zC,nr h2 e2,ar.bf.mp h1]
  | _=>cases e
theorem uF {α:Type} (f:α->Bool) (xs:List α):bools (xs.map fun x=>.bl (f x))=some (xs.map f):=by
 induction xs with
 | nil=>rfl
 | cons x xs ih=>rw[zC,bools,ih]; rfl
section
variable {X:Cx} {Ex:St->XK} {a b c e o:Expr} {es:List Expr} {da db dc d jX:DE} {ds:List DE} {pos pos' apos bC:Pos}
noncomputable def qZ:D1:=fun xs M=>match xs with
 | [x]=>match (cJ M x).bind bools with
  | some bs=>.ok (.bl (bs.all id)) M
  | none=>.bad
 | _=>.bad
theorem wX {bs:List Bool} {aD:List Value} (rv:Vals (bs.map V.bl) aD) (i:Nat) (v:Value) (h:aD.toArray[i]? = some v):v=.bool (bs.getD i false):=by
 have h':aD[i]? = some v:=by simpa using h
 have hl:=rv.length
 rw[zK] at hl
 have hi:i<bs.length:=by rw[hl]; exact(List.getElem?_eq_some_iff.mp h').1
 obtain⟨u,h1,h2⟩:=rv.get (i:=i) (x:=.bl bs[i]) (by rw[zJ,List.getElem?_eq_getElem hi]; rfl)
 rw[h'] at h1
 cases h1
 rw[List.getD_eq_getElem?_getD,List.getElem?_eq_getElem hi]
 exact h2
theorem uG {bs:List Bool}:(List.range bs.length).all (fun i=>bs.getD i false)=bs.all id:=by
 induction bs with
 | nil=>rfl
 | cons b bs ih =>
  rw[zE,List.range_succ_eq_map,List.all_cons,List.all_map,List.all_cons,← ih]
  rfl
theorem Ch {X:Cx} {pins:List (Addr×Obj)} {σ:St} {H:Hp} {s:Shared} {l:Addr} {bs:List Bool} (I:Inv X pins σ H s) (hc:X.calm=true) (eH:H l=some (.lst (bs.map V.bl))) {f:String} {k:Bool} {Q:VK}
  (call:∀{Q:Value->Shared->Prop},wpAny (model X.prog X.w) X.A.in1 (pyIter (.ref l)) (fun it s₂=>∃I fp wr n P St tr,it=.ref I/\PySem.Walks X.prog X.w X.A.in1 I fp wr n P St/\St 0 s₂.heap/\TruthOf X.prog X.w X.A.in1 P tr ∧
   n=bs.length/\tr=(fun i=>bs.getD i false)/\∀h' tk,(∀b o,b∉wr->s₂.heap.get? b=some o->h'.get? b=some o)->Q (.bool k) { s₂ with heap:=h',toks:=tk }) X.xe s →
   wpAny (model X.prog X.w) X.A (call (.builtin f) [.ref l]) Q X.xe s) (q:Q (.bl k) H):wpAny (model X.prog X.w) X.A (PySem.call (.builtin f) [.ref l]) (EP X pins σ Q) X.xe s:=by
 obtain⟨aD,rv,pl,hz⟩:=I.list (.of eH)
 refine call (wpAny_pyIter_list pl.isList ?_)
 have eu:l≠s.heap.objs.size:=by
  obtain⟨o,n,ho,_⟩:=pl
  exact Nat.ne_of_lt (Heap.lt_size ho)
 have hlen:aD.toArray.size=bs.length:=by have:=rv.length; simp at this; simp[this]
 refine⟨s.heap.objs.size,_,_,_,_,_,fun i=>bs.getD i false,rfl,PySem.Walks.list (A:=X.A.in1) (I.ok.hd hc) s.heap.objs.size l eu aD.toArray,⟨⟨_,Heap.get?_push_size _ rfl,rfl,rfl⟩,pl.isList.at fun o e=>Heap.get?_push_of_some _ e⟩,?_,hlen,rfl,fun h' tk hk=>?_⟩
 ·intro i v s2 Q' E' hP hQ
  have:=wX rv i v hP
  subst this
  exact wpAny_truthy_bool hQ
 ·refine⟨.bl k,H,?_,rfl,q⟩
  refine I.kept (t':=tk) fun b o e=>hk b o ?_ (Heap.get?_push_of_some _ e)
  intro hb
  have:b=s.heap.objs.size:=by simpa using hb
  exact Nat.ne_of_lt (Heap.lt_size e) this
theorem nt (hc:X.calm=true):bH X (.builtin "all") (rC X.K qZ):=by
 intro pins s σ H xs us Q I rs h
 obtain⟨E,ι,S,M,ys,aq,r,w⟩:=h
 unfold qZ at w
 split at w
 ·split at w
  ·rename_i x bs hb
   obtain⟨v,rfl,r1⟩:=r.dy
   obtain⟨u,rfl,ru⟩:=vals1 rs
   obtain⟨zs,h1,h2⟩:=Option.bind_eq_some_iff.mp hb
   obtain⟨l,vs,rfl,eH,rr⟩:=cg aq r1 h1
   cases ru
   rw[nr rr h2] at eH
   refine Ch I hc eH (fun {Q} h=>call_all_walk (wpAny_mono h (fun it s2 ⟨I1,fp,wr,n,P,St,tr,e1,e2,e3,e4,e5,e6,e7⟩=>⟨I1,fp,wr,n,P,St,tr,e1,e2,e3,e4,fun h' tk hk=>?_⟩) fun _ _ z=>z)) (w ι S H _ .refl aq (ar.bf.mpr rfl))
   subst e5 e6
   rw[uG]
   exact e7 h' tk hk
  ·exact w.elim
 ·exact w.elim
end
end L2
end
section
namespace L2
open PySem PySem.Spec PyProof.Rows
noncomputable def iO:List PV->Option (List Int)
 | []=>some []
 | .int i::r=>(iO r).map (i::·)
 | _::_=>none
theorem ints_map (ns:List Int):iO (ns.map .int)=some ns:=by
 induction ns with
 | nil=>rfl
 | cons n ns ih=>rw[zC,iO,ih]; rfl
theorem lN {K:Fg} {ι:List Addr} {S:Hp}:∀{xs:List PV} {vs:List V} {ns:List Int},au K ι S xs vs->iO xs=some ns->vs=ns.map V.int
 | [],vs,bs,r,e=>by rw[au] at r; subst r; cases e; rfl
 | x::xs,vs,bs,r,e=>by
  obtain⟨v,r',rfl,h1,h2⟩:=r.dM
  cases x with
  | int b =>
   rw[iO] at e
   cases e2:iO xs with
   | none=>rw[e2] at e; cases e
   | some cs =>
    rw[e2] at e
    cases e
    rw[zC,lN h2 e2,ar.az.mp h1]
  | _=>cases e
noncomputable def pI (ns:List Int):Nat:=(firstMet (fun i=>ns.getD i 0) ns.length).length
section
variable {X:Cx} {Ex:St->XK} {a:Expr} {da:DE} {pos:Pos}
theorem kz:∀{ns:List Int} {aD:List Value},Vals (ns.map V.int) aD->IntsAre aD ns
 | [],_,r=>by cases r; exact .nil
 | n::ns,_,r=>by
  cases r with
  | cons h t =>
   obtain⟨k,rfl⟩:=h
   exact .cons n k (kz t)
theorem uH:bH X (.builtin "len") (fun xs H Q=>∃p S n,xs=[V.ref p]/\H p=some (.set S n)/\Q (.int n) H):=by
 intro pins s σ H xs us Q I r h
 obtain⟨p,S,n,rfl,hp,q⟩:=h
 obtain⟨u,rfl,ru⟩:=vals1 r
 cases ru
 obtain⟨o,es,ep,t,ho,hex,hd,EK,_,hb,hf,hn⟩:=(show s.heap.SetOf (intKind X.prog X.w) p S n from I.aX p _ hp)
 subst hn
 unfold scanBound at hb
 exact PySem.call_len_set ho hex hd hf (by omega) ⟨.int es.size,H,I.tok _,⟨_,rfl⟩,q⟩
noncomputable def jv:DE:=fun _ M=>.ok (.obj M.length) (M++[.iH []])
theorem lb:VE X Ex (.Dict [] [] pos) jv:=⟨PE.imp vM fun σ H Q h p hp=>by
 obtain⟨ι,S,M,ρ,aq,sl,w⟩:=h
 obtain⟨s1,x1⟩:=aq.new (u:=.dK []) (o:=.iH []) hp ⟨aq.jQ hp,[],if_pos rfl,.nil⟩
 exact w _ _ _ _ x1 s1 (ar.bh.mpr ⟨p,rfl,by rw[← aq.len,List.getElem?_append_right (Nat.le_refl _)]; simp⟩)⟩
end
end L2
end
section
namespace L2
open PySem PySem.Spec PyProof.Rows
section
variable {X:Cx} {Ex:St->XK} {a b c e f o:Expr} {es:List Expr} {da db dc d jX dk dx:DE} {ds:List DE} {pos pos' apos bC:Pos}
end
end L2
end
section
namespace L2
open PySem PySem.Spec PyProof.Rows
section
variable {X:Cx} {Ex:St->XK} {v:Expr} {d:DE} {pos p kp:Pos} {keys:List (Option Expr)} {values:List Expr} {Jl:List (Str×DE)}
structure VP (X:Cx) (Ex:St->XK) (pos:Pos) (keys:List (Option Expr)) (values:List Expr) (Jl:List (Str×DE)):Prop where
 out:Kb X pos keys values (Jl.map fun q=>(tC (.str q.1),tG X.K (cT X.K) Ex q.2))
end
end L2
end
section
namespace L2
open PySem PySem.Spec PySem.Calls PyProof.Rows PySem.W Builtin Builtin.ObjectAttr Builtin.Getset_descriptor
theorem pJ:entryFor table "BaseException.__getattribute__" = some Builtin.«object.__getattribute__» :=
 entryFor_alias (id' := "object.__getattribute__") (by kernel_rfl) (by first | rfl | decide +kernel) (by decide +kernel) (by kernel_rfl)
theorem pK:plainId "BaseException.__getattribute__" = true:=by decide +kernel
theorem pL:splitId "BaseException.__getattribute__" = some ("BaseException","__getattribute__"):=by decide +kernel
theorem lO:builtinKind "BaseException.__getattribute__" = some .slot:=by decide +kernel
theorem ra (self:Value):bindSpecial (.builtin "BaseException.__getattribute__") self=pure (.builtin "BaseException.__getattribute__",[self]):=by
 have h1:withoutEnding? "BaseException.__getattribute__" "#opaque" = none:=by decide +kernel
 have h2:withoutEnding? "BaseException.__getattribute__" "#data" = none:=by decide +kernel
 simp only[bindSpecial,typeOf,builtinType,h1,h2,lO]; rfl
structure pM (K:Fg) (C:Addr):Prop where
 ga:PySem.W.findIn K (.ref C) "__getattribute__" = some (some (.builtin "BaseException.__getattribute__"))
 gt:PySem.W.findIn K (.ref C) "__getattr__" = some none
 cl:PySem.W.findIn K (.ref C) "__class__" = some (some (.builtin "object.__class__"))
 gn:PySem.W.specialIn K (.builtin "object.__class__") "__get__" = some (some (.builtin "getset_descriptor.__get__"))
 tk:PySem.W.takesIn K (.builtin "object.__class__")=some true
 mo:PySem.W.mroIn K C (.type "object")=some true
 mb:PySem.W.mroIn K C (.type "BaseException")=some true
 ci:(PySem.W.clsIn K C).isSome=true
section
variable {K:Fg} {C e:Addr} {prog:Program} {w:World} {A:Around} {E:Value->Shared->Prop} {s:Shared}
theorem mH (X:pM K C) {M:Model} {h:Heap} (KX:K.In h):Looks M h (ObjectAttr.find (.ref e) (.ref C) "__class__") (.bind (.builtin "getset_descriptor.__get__") (.builtin "object.__class__")):=by
 have L1:=looks_findIn (M:=M) KX X.cl
 have L2:=looks_specialIn (M:=M) KX X.gn
 have L3:=looks_takesIn (M:=M) KX X.tk
 exact L1.andThen (L2.andThen ((show Looks M h (dataDescriptor? (some (.builtin "object.__class__")) (some (.builtin "getset_descriptor.__get__"))) (some (.builtin "getset_descriptor.__get__",.builtin "object.__class__")) from L3.andThen .now).andThen (Looks.tag .now)))
theorem rd (X:pM K C) (KX:K.In s.heap) (LT:∀M,Looks M s.heap (typeOf (.ref e)) (.ref C)) {tp:Value} {R:Result->Shared->Prop} (h:R (.ok (.ret (.ref C))) s) :
  codeAny (model prog w) A (.call (.builtin "getset_descriptor.__get__") ⟨[.builtin "object.__class__",.ref e,tp],[]⟩) R s:=by
 obtain⟨hh,g,dr,t,os⟩:=s
 have L0:=LT (model prog w)
 have L1:=looks_mroIn (M:=model prog w) KX X.mo
 refine codeAny_call_builtin KF.slot_gs.plain KF.entry_gs (KF.slot_gs.check _ _ _ _ _ _ _ _ KF.type_class (KF.args_gs _ _ _) ?_)
 unfold Builtin.«getset_descriptor.__get__» descrGet
 rw[dga_obj]
 refine wpAny_bind (wpAny_pure ?_)
 unfold descrGetter descrCheckInstance descrNameAndClass isInstance
 simp only[KF.owner_class]
 repeat lk
 refine⟨Code.quiet_builtin _ (by decide +kernel),codeAny_builtin KF.entry_class ?_⟩
 unfold Builtin.«object.__class__» shownTypeOf
 repeat lk
 exact h
theorem uI (a b:Value):argsOk "BaseException.__getattribute__" ⟨[a,b],[]⟩:=by
 unfold argsOk
 kernel_rfl
theorem uJ (X:pM K C) (KX:K.In s.heap) (LT:∀M,Looks M s.heap (typeOf (.ref e)) (.ref C)) {b:Value} {Q:Unit->Shared->Prop} (h:Q () s) :
  wpAny (model prog w) A (checkBuiltinCall "BaseException.__getattribute__" ⟨[.ref e,b],[]⟩) Q E s:=by
 obtain⟨hh,g,dr,t,os⟩:=s
 have L0:=LT (model prog w)
 have L1:=looks_mroIn (M:=model prog w) KX X.mb
 have LI:Looks (model prog w) hh (isInstance (.ref e) (.type "BaseException")) true:=L0.andThen L1
 simp only[checkBuiltinCall,lO,pL]
 refine wpAny_bind (LI.at ?_)
 simp only[Bool.not_true,Bool.false_eq_true,if_false]
 have ha:=uI (.ref e) b
 cases HR:Manifest.signature? "BaseException.__getattribute__" with
 | none=>exact wpAny_pure h
 | some sig =>
  simp only[argsOk,HR] at ha
  have h2:Bind.checkArgs "BaseException.__getattribute__" sig ⟨[.ref e,b],[]⟩=pure ():=ha
  show wpAny _ _ (Bind.checkArgs "BaseException.__getattribute__" sig ⟨[.ref e,b],[]⟩) Q E _
  rw[h2]
  exact wpAny_pure h
theorem uK (X:pM K C) (KX:K.In s.heap) (LT:∀M,Looks M s.heap (typeOf (.ref e)) (.ref C)) {Q:Option Value->Shared->Prop} (h:Q (some (.ref C)) { s with toks:=s.toks+1 }) :
  wpAny (model prog w) A (getAttr? (.ref e) "__class__") Q E s:=by
 obtain⟨hh,g,dr,t,os⟩:=s
 have L0:=LT (model prog w)
 have L1:=looks_findIn (M:=model prog w) KX X.ga
 have L2:=looks_findIn (M:=model prog w) KX X.gt
 have L3:=mH (e:=e) X (M:=model prog w) KX
 unfold getAttr? getAttrBy? getAttrBy
 refine wpAny_bind (wpAny_mkText (wpAny_bind (wpAny_attempt (wpAny_holding (wpAny_bind (L0.at (wpAny_bind (L1.at ?_))))))))
 dsimp only
 rw[if_neg (by
  have:(Value.builtin "BaseException.__getattribute__" == Value.builtin "object.__getattribute__")=false:=by decide
  rw[this,Bool.and_false]
  exact Bool.false_ne_true)]
 unfold getAttrByItsOwn hookBefore
 refine wpAny_bind ?_
 rw[if_pos (show onTheHeap (.ref C)=true from rfl)]
 refine L2.at ?_
 refine wpAny_bind (wpAny_attempt (wpAny_holding ?_))
 unfold callGetattribute boundAndCalled
 rw[if_neg (by decide),ra]
 refine wpAny_bind (wpAny_pure ?_)
 dsimp only
 refine wpAny_call (codeAny_call_builtin pK pJ (uJ (s:=⟨hh,g,dr,t+1,os⟩) X KX LT ?_))
 unfold Builtin.«object.__getattribute__»
 refine wpAny_bind (m:=slotArgs "__getattribute__" 1 _) (wpAny_pure ?_)
 dsimp only
 refine wpAny_bind (m:=attrName _) (wpAny_pure ?_)
 refine wpAny_bind (L0.at ?_)
 refine wpAny_bind (L3.at ?_)
 dsimp only
 show wpAny _ _ (holding [Value.builtin "object.__class__"] (call (.builtin "getset_descriptor.__get__") [.builtin "object.__class__",.ref e,.ref C]) >>= ret) _ _ _
 refine wpAny_bind (wpAny_holding (wpAny_call (rd (s:=⟨hh,g,dr,t+1,os⟩) X KX LT ?_)))
 refine wpAny_pure ?_
 show wpAny _ _ (handedOut (.ref C)) _ _ _
 exact wpAny_pure (wpAny_pure h)
theorem pN (X:pM K C):KitX K (.ref e) (.ref C) (fun h=>∃ob vs,h.get? e=some ob/\ob.cls=.ref C/\ob.data=.fields vs) where
 ty:=fun _ _ _ ⟨ob,vs,h1,h2,_⟩=>h2 ▸ (Looks.ld h1).andThen .now
 it:=fun _ _ KX _=>by
  have hc:=X.ci
  unfold clsIn at hc
  split at hc
  ·rename_i c' d' K5 xR ho
   intro A' Q' E' s' k q
   unfold isType loadHead
   exact wpAny_bind (wpAny_loadPart (k _ _ (KX _ _ ho)) (wpAny_pure q))
  ·cases hc
 ne:=fun h tp dd aD n sl KX K6=>by
  have hc:=X.ci
  refine Bool.eq_false_iff.mpr fun q=>?_
  have e:C=tp:=Value.ref.inj (beq_iff_eq.mp q)
  subst e
  unfold clsIn at hc
  split at hc
  ·rename_i c' d' K5 xR ho
   have z:=(KX _ _ ho).symm.trans K6
   cases z
  ·cases hc
 ca:=fun KX ⟨ob,vs,h1,h2,_⟩ k=>uK X KX (fun _=>h2 ▸ (Looks.ld h1).andThen .now) k
end
end L2
end
section
namespace L2
open PySem PySem.Spec PyProof.Rows
section
variable {X:Cx} {Ex:St->XK} {a:Expr} {da:DE} {pos:Pos}
noncomputable def oa (iR:List (Addr×Bool)) (d:DE):DE:=fun ρ M=>(d ρ M).bind fun x M1=>match x with
 | .obj n=>match M1[n]? with
  | some (.exc C)=>match iR.lookup C with
   | some k=>.ok (.bl k) M1
   | none=>.bad
  | _=>.bad
 | _=>.bad
theorem wY {X:Cx} {pins:List (Addr×Obj)} {σ:St} {H:Hp} {s:Shared} {p C:Addr} (I:Inv X pins σ H s) (h:H p=some (nO p C)):∃ob vs,s.heap.get? p=some ob/\ob.cls=.ref C/\ob.data=.fields vs :=
 (show(∃ob vs,s.heap.get? p=some ob/\ob.cls=.ref C/\ob.data=.fields vs)/\_ from I.aX p _ h).1
structure wZ (K:Fg) (T:Value) (iR:List (Addr×Bool)):Prop where
 all:∀C k,iR.lookup C=some k->pM K C/\PySem.W.kitOne K (.ref C) T=some k
theorem kA {T:V} {x:Str} {p q:Pos} {u:Value} {iR:List (Addr×Bool)} (ht:RelV T u) (hT:wZ X.K u iR) (hu:∀u',RelV T u'->u'=u) (h2:PE X (.Name x q) (tC T)) (ha:VE X Ex a da) (sU:X.mg "isinstance" = none) (w5:Gl X "isinstance")
  (he:starEach [a,.Name x q] X.env=(false,eval a X.env)::starEach [.Name x q] X.env) (gX:(backTo pos (starEach [.Name x q] X.env)).any (·.1)=false) :
  VE X Ex (.Call (.Name "isinstance" p) [a,.Name x q] [] pos) (oa iR da):=⟨by
 have A1:PA X [a,.Name x q] (ko (tG X.K (cT X.K) Ex da) (ko (tC T) uc)):=cW ha.out (cW h2 fN) he
 have hc:bH X (.builtin "isinstance") (fun vs H Q=>∃e C k,vs=[.ref e,T]/\H e=some (nO e C)/\iR.lookup C=some k/\Q (.bl k) H):=by
  intro pins s σ H xs us Q I r h
  obtain⟨e,C,k,rfl,eH,ek,q⟩:=h
  obtain⟨u1,w',rfl,r1,r2⟩:=vals2 r
  cases r1
  rw[hu _ r2]
  obtain⟨h1,h2⟩:=hT.all C k ek
  exact PySem.W.kia_one (pN h1) I.rT (wY I eH) h2 (fun z=>nomatch z) fun tk=>⟨.bl k,H,I.tok _,rfl,q⟩
 refine PE.imp (gY hc w5 sU (by decide +kernel) A1 (by decide) (by decide) he gX) fun σ H Q h=>?_
 obtain⟨ι,S,M,ρ,aq,sl,w⟩:=h
 refine⟨ι,S,M,ρ,aq,sl,aP.bind (Rp:=cT X.K) w fun ι1 S1 M1 H1 y v e1 s1 r1 w1=>?_⟩
 cases y with
 | obj n =>
  obtain⟨p,rfl,ei⟩:=ar.bh.mp r1
  obtain⟨o,eM,q⟩:=s1.addr ei
  simp only[eM] at w1
  cases o with
  | exc C =>
   dsimp only at w1
   split at w1
   ·rename_i k hk
    exact⟨p,C,k,rfl,q.2,hk,w1 ι1 S1 H1 _ .refl s1 (ar.bf.mpr rfl)⟩
   ·exact w1.elim
  | _=>exact w1.elim
 | _=>exact w1.elim⟩
theorem Ci {x:Str} {D:Addr} {p q:Pos} (iR:List (Addr×Bool)) (hT:wZ X.K (.ref D) iR) (ha:VE X Ex a da) (sU:X.mg "isinstance" = none) (vn:X.mg x=some (.ref D)) (w5:Gl X "isinstance" := by rfl) (Cj:Gl X x:=by rfl) (hd:(x == ("__debug__" : Str))=false:=by decide)
  (he:starEach [a,.Name x q] X.env=(false,eval a X.env)::starEach [.Name x q] X.env:=by rfl) (gX:(backTo pos (starEach [.Name x q] X.env)).any (·.1)=false:=by rfl) :
  VE X Ex (.Call (.Name "isinstance" p) [a,.Name x q] [] pos) (oa iR da) :=
 kA (T:=.ref D) rfl hT (fun _ h=>h) (nH Cj vn rfl hd) ha sU w5 he gX
theorem zp {x:Str} {T:String} {p q:Pos} (iR:List (Addr×Bool)) (hT:wZ X.K (.type T) iR) (ha:VE X Ex a da) (sU:X.mg "isinstance" = none) (vn:X.mg x=none) (K8:bootBuiltins x=some (.type T)) (w5:Gl X "isinstance" := by rfl) (Cj:Gl X x:=by rfl)
  (hn:x ≠ "__name__" := by decide) (hd:(x == ("__debug__" : Str))=false:=by decide)
  (he:starEach [a,.Name x q] X.env=(false,eval a X.env)::starEach [.Name x q] X.env:=by rfl) (gX:(backTo pos (starEach [.Name x q] X.env)).any (·.1)=false:=by rfl) :
  VE X Ex (.Call (.Name "isinstance" p) [a,.Name x q] [] pos) (oa iR da) :=
 kA (T:=.ty T) rfl hT (fun _ h=>h) (yg Cj vn K8 (v:=.ty T) rfl hn hd) ha sU w5 he gX
structure EM (K:Fg) (Ds:List Addr) (iR:List (Addr×Bool)):Prop where
 all:∀C k,iR.lookup C=some k->pM K C/\PySem.W.kitAny K (.ref C) (Ds.map Value.ref)=some k
theorem zq {es:List Expr} {Ds:List Addr} {k:Nat} {p q:Pos} (iR:List (Addr×Bool)) (hT:EM X.K Ds iR) (ha:VE X Ex a da) (sU:X.mg "isinstance" = none) (h2:PA X es (fun σ H Q=>Q (Ds.map V.ref) H)) (hl:Ds.length≤100:=by exact Nat.le_of_ble_eq_true rfl) (w5:Gl X "isinstance" := by rfl)
  (he:starEach [a,.Tuple es k q] X.env=(false,eval a X.env)::starEach [.Tuple es k q] X.env:=by rfl) (C5:starEach [.Tuple es k q] X.env=(false,eval (.Tuple es k q) X.env)::starEach [] X.env:=by rfl) (gX:(backTo pos (starEach [.Tuple es k q] X.env)).any (·.1)=false:=by rfl) :
  VE X Ex (.Call (.Name "isinstance" p) [a,.Tuple es k q] [] pos) (oa iR da):=⟨by
 have A1:PA X [a,.Tuple es k q] (ko (tG X.K (cT X.K) Ex da) (ko (DW fun σ H Q=>Q (Ds.map V.ref) H) uc)):=cW ha.out (cW (vK h2) fN C5) he
 have hc:bH X (.builtin "isinstance") (fun vs H Q=>∃e C k t,vs=[.ref e,.ref t]/\H e=some (nO e C)/\H t=some (.tup (Ds.map V.ref))/\iR.lookup C=some k/\Q (.bl k) H):=by
  intro pins s σ H xs us Q I r h
  obtain⟨e,C,k,t,rfl,eH,et,ek,q⟩:=h
  obtain⟨u1,w',rfl,r1,r2⟩:=vals2 r
  cases r1
  cases r2
  obtain⟨h1,h2⟩:=hT.all C k ek
  obtain⟨_,aD,rv,z⟩:=(show bG X.prog X.w H s.heap t (.tup (Ds.map V.ref)) from I.aX t _ et)
  have hits:∀(Ds:List Addr) (aD:List Value),Vals (Ds.map V.ref) aD->aD=Ds.map Value.ref:=by
   intro Ds
   induction Ds with
   | nil=>intro aD r; cases r; rfl
   | cons d Ds ih=>intro aD r; cases r with | cons h t=>cases h; rw[ih _ t]; rfl
  rw[hits Ds aD rv] at z
  obtain⟨o,z1,z2,z3⟩:=z
  obtain⟨n,z3⟩:=z3
  obtain⟨oc,od,Mb,yA⟩:=o
  dsimp only at z2 z3
  subst z2 z3
  exact PySem.W.kia_tup (pN h1) I.rT (wY I eH) z1 h2 (fun z=>nomatch z) fun tk=>⟨.bl k,H,I.tok _,rfl,q⟩
 refine PE.imp (gY hc w5 sU (by decide +kernel) A1 (by decide) (by decide) he gX) fun σ H Q h=>?_
 obtain⟨ι,S,M,ρ,aq,sl,w⟩:=h
 refine⟨ι,S,M,ρ,aq,sl,aP.bind (Rp:=cT X.K) w fun ι1 S1 M1 H1 y v e1 s1 r1 w1=>?_⟩
 cases y with
 | obj n =>
  obtain⟨p,rfl,ei⟩:=ar.bh.mp r1
  obtain⟨o,eM,q⟩:=s1.addr ei
  simp only[eM] at w1
  cases o with
  | exc C =>
   dsimp only at w1
   split at w1
   ·rename_i k hk
    refine⟨by rw[zK]; exact Nat.le_trans hl (by decide),fun t ht=>?_⟩
    obtain⟨s2,x2⟩:=s1.side (o:=.tup (Ds.map V.ref)) ht
    have eu:p≠t:=fun z=>by rw[← z,q.2] at ht; cases ht
    exact⟨p,C,k,t,rfl,by rw[av eu]; exact q.2,aF,hk,w1 ι1 S1 _ _ x2 s2 (ar.bf.mpr rfl)⟩
   ·exact w1.elim
  | _=>exact w1.elim
 | _=>exact w1.elim⟩
end
end L2
end
section
namespace L2
open PySem PySem.Spec PyProof.Rows
section
variable {X:Cx} {Ex:St->XK}
noncomputable def w6 (X:Cx) (es:List Expr) (Ds:List Addr):Prop:=PA X es (fun σ H Q=>Q (Ds.map V.ref) H)
theorem Ck:w6 X [] []:=fN
theorem og {x:Str} {D:Addr} {es:List Expr} {Ds:List Addr} {q:Pos} (hm:X.mg x=some (.ref D)) (h:w6 X es Ds) (hg:Gl X x:=by rfl) (hd:(x == ("__debug__" : Str))=false:=by decide) (he:starEach (.Name x q::es) X.env=(false,eval (.Name x q) X.env)::starEach es X.env:=by rfl):w6 X (.Name x q::es) (D::Ds) :=
 cW (nH hg hm (v:=.ref D) rfl hd) h he
theorem lP:bootBuiltins "ValueError" = some (.type "ValueError"):=by decide +kernel
noncomputable def w9 (cs:List Addr) (iy iN:Nat) (s1:DS):DS:=fun ρ M=>match s1 ρ M with
 | .exc c ρ' M'=>if cs.contains c=true then .nx ((ρ'.set iy (some (.obj M'.length))).set iN none) (M'++[.exc c]) else .bad
 | o=>o
theorem Slots.unset {K:Fg} {ι:List Addr} {S:Hp} {ρ:cI} {σ:St} (s:Slots K ι S ρ σ) (i:Nat):Slots K ι S (ρ.set i none) (σ.set i none):=by
 refine⟨by simp[s.1],fun j x h=>?_⟩
 by_cases e:i=j
 ·subst e
  rw[List.getElem?_set_self'] at h
  cases q:ρ[i]? with
  | none=>rw[q] at h; cases h
  | some z=>rw[q] at h; cases h
 ·rw[List.getElem?_set_ne e] at h ⊢
  exact s.2 j x h
structure Catch (K:Fg) (mg:Str->Option Value) (x:Str) (Cb:Addr) (cs:List Addr):Prop where
 name:mg x=some (.ref Cb)
 all:∀c∈cs,PySem.W.exmOne K (.ref c) (.ref Cb)=some true
theorem Cm {x n y:Str} {Cb:Addr} {cs:List Addr} (iy iN:Nat) {body:List Stmt} {np py C3 apos uq pos:Pos} {s1:DS} (G:Good0 X Ex) (hC:Catch X.K X.mg x Cb cs)
  (hb:∀(pn:List (Addr×Obj)) (Et:Value->Shared->Prop) (Ex:St->XK),Good0 (X.tr pn Et) Ex->sH (X.tr pn Et) Ex body s1)
  (qz:X.stack=X.env::X.outer:=by rfl) (mw:X.env.frame=some X.env.locals:=by rfl) (hx:Gl X x:=by rfl) (hy:X.N[iy]? = some y:=by rfl) (ly:X.env.scope.names.lookup y=some .local := by rfl) (hn:X.N[iN]? = some n:=by rfl) (ln:X.env.scope.names.lookup n=some .local := by rfl)
  (wa:swapsWith (.Name n C3) (some (.Name y py)) apos.line X.env=pure false:=by rfl) (Ep:(x == ("__debug__" : Str))=false:=by decide) (Hr:(n == ("__debug__" : Str))=false:=by decide) :
  VS X Ex (.Try body [.ExceptHandler (some (.Name x np)) (some n) [.Assign [.Name y py] (.Name n C3) apos] uq] [] [] pos) (w9 cs iy iN s1):=⟨by
 refine PS.imp (BY (P:=X.prog) (w:=X.w) (tb:=fun Ex=>tS X.K Ex s1) rfl rfl qz mw G.calm G.nd hx hC.name hy ly hn ln (fun pn Et K9 hp=>(hb pn Et K9 ⟨G.hu,G.calm,hp,G.nd⟩).out) wa Ep Hr) fun D σ H h=>?_
 obtain⟨ι,S,M,ρ,aq,sl,w⟩:=h
 refine⟨ι,S,M,ρ,aq,sl,?_⟩
 unfold w9 at w
 cases e:s1 ρ M with
 | exc c ρ' M' =>
  rw[e] at w
  dsimp only at w
  split at w
  ·rename_i hc
   intro ι1 S1 H1 σ1 e1 HS F5
   refine⟨c,rfl,hC.all c (by simpa using hc),fun a ha=>?_⟩
   obtain⟨s2,x2⟩:=HS.new (u:=nO a c) (o:=.exc c) ha ⟨HS.jQ ha,aF⟩
   refine w _ _ _ _ (e1.trans x2) s2 (Slots.unset (Slots.set (F5.mono x2) (ar.bh.mpr ⟨a,rfl,by rw[← HS.len]; simp⟩) iy) iN)
  ·exact w.elim
 | nx ρ' M'=>rw[e] at w; exact w
 | rt y M'=>rw[e] at w; exact w
 | bk ρ' M'=>rw[e] at w; exact w
 | ct ρ' M'=>rw[e] at w; exact w
 | bad=>rw[e] at w; exact w⟩
end
end L2
end
section
namespace L2
open PySem PySem.Spec PyProof.Rows
section
variable {K:Fg} {ι:List Addr} {S:Hp} {a:Addr} {ob:Obj} {eN:List (Key×V)}
end
section
variable {X:Cx} {pins:List (Addr×Obj)} {σ:St} {H:Hp} {s:Shared} {a:Addr} {ob:Obj} {u:HO}
end
end L2
end
section
namespace L2
open PySem PySem.Spec PyProof.Rows
section
variable {X:Cx} {Ex:St->XK} {tg l iter e:Expr} {tl:TE} {d:DE} {st:Stmt} {s:DS} {di:DI}
end
end L2
end
section
namespace L2
open PySem PySem.Spec PyProof.Rows
section
variable {X:Cx} {Ex:St->XK} {tg o:Expr} {to:TE} {d:DE} {apos bC ub:Pos} {elts:List Expr} {x1:Nat}
end
end L2
end
section
namespace L2
open PySem PySem.Spec PyProof.Rows
section
variable {X:Cx} {Ex:St->XK}
end
end L2
end
section
namespace L2
open PySem PySem.Spec PyProof.Rows
section
variable {X:Cx} {Ex:St->XK} {a e tg:Expr} {d:DE} {pos p p2:Pos}
end
end L2
end
section
namespace St
open PySem PySem.SetTable
noncomputable def bw {α:Type} (f:α->α):Nat->α->α
 | 0,x=>x
 | n+1,x=>bw f n (f x)
theorem gz {α:Type} (f:α->α):∀(m n:Nat) (x:α),bw f (m+n) x=bw f n (bw f m x)
 | 0,n,x=>by rw[Nat.zero_add]; rfl
 | m+1,n,x=>by rw[Nat.succ_add]; exact gz f m n (f x)
theorem lQ {α:Type} (f:α->α) (n:Nat) (x:α):bw f (n+1) x=f (bw f n x):=by rw[gz]; rfl
structure sV (m:Nat) (p:Probe):Prop where
 more:p.more≤9
 j1:p.perturb<2 ^ 64
 dm:p.dummy=none
theorem j3 (m i:Nat):runEnd m i-i≤9:=by unfold runEnd; split<;>omega
theorem sV.Jm {t:SetTable} {p:Probe} (h:sV t.mask p):sV t.mask (t.advance p):=by
 unfold advance
 split
 ·exact⟨by have:=h.more; show p.more-1≤9; omega,h.j1,h.dm⟩
 ·refine⟨j3 _ _,?_,h.dm⟩
  show p.perturb / 32<2 ^ 64
  exact Nat.lt_of_le_of_lt (Nat.div_le_self _ _) h.j1
theorem lR (t:SetTable) (h:Int):sV t.mask (t.probeStart h):=by
 refine⟨j3 _ _,?_,rfl⟩
 show bits h<2 ^ 64
 unfold bits
 have h1:0≤h%(2 ^ 64:Int):=Int.emod_nonneg _ (by decide)
 have h2:h%(2 ^ 64:Int)<2 ^ 64:=Int.emod_lt_of_pos _ (by decide)
 omega
noncomputable def turn (m:Nat) (p:Probe):Probe:={ j:=(leap m p.i p.perturb).1,more:=runEnd m (leap m p.i p.perturb).1-(leap m p.i p.perturb).1,i:=(leap m p.i p.perturb).1,perturb:=(leap m p.i p.perturb).2,dummy:=p.dummy }
theorem lS {t:SetTable}:∀(r:Nat) (p:Probe),p.more=r->bw t.advance (r+1) p=turn t.mask p
 | 0,p,h=>by
  show t.advance p=_
  unfold advance
  rw[if_neg (by omega)]
  rfl
 | r+1,p,h=>by
  show bw t.advance (r+1) (t.advance p)=_
  have e:t.advance p={ p with j:=p.j+1,more:=p.more-1 }:=by unfold advance; rw[if_pos (by omega)]
  rw[e,lS r _ (by show p.more-1=r; omega)]
  rfl
theorem zr {m:Nat} {p:Probe} (h:sV m p):sV m (turn m p):=⟨j3 _ _,Nat.lt_of_le_of_lt (Nat.div_le_self _ _) h.j1,h.dm⟩
theorem pO {t:SetTable}:∀(n:Nat) (p:Probe),sV t.mask p->∃k,k≤10*n/\bw t.advance k p=bw (turn t.mask) n p
 | 0,p,_=>⟨0,Nat.le_refl _,rfl⟩
 | n+1,p,h=>by
  obtain⟨k,hk,e⟩:=pO n (turn t.mask p) (zr h)
  refine⟨p.more+1+k,by have:=h.more; omega,?_⟩
  rw[gz,lS _ p rfl,e]
  rfl
theorem sW (m:Nat):∀(n:Nat) (p:Probe),(bw (turn m) n p).perturb=p.perturb / 32 ^ n
 | 0,p=>by simp[bw]
 | n+1,p=>by
  show(bw (turn m) n (turn m p)).perturb=_
  rw[sW m n,Nat.pow_succ',← Nat.div_div_eq_div_mul]
  rfl
theorem AD {m:Nat} {p:Probe} (h:sV m p):(bw (turn m) 13 p).perturb=0:=by
 rw[sW]
 refine Nat.div_eq_of_lt (Nat.lt_trans h.j1 ?_)
 decide
noncomputable def ring (m i:Nat):Nat:=(i*5+1)%(m+1)
theorem oh (m:Nat):∀(n:Nat) (p:Probe),p.perturb=0->(bw (turn m) n p).i=bw (ring m) n p.i/\(bw (turn m) n p).perturb=0
 | 0,p,h=>⟨rfl,h⟩
 | n+1,p,h=>by
  have hp:(turn m p).perturb=0:=by show p.perturb / 32=0; rw[h]
  have hi:(turn m p).i=ring m p.i:=by
   show(p.i*5+1+p.perturb / 32)%(m+1)=_
   rw[h]
   rfl
  have:=oh m n (turn m p) hp
  rw[hi] at this
  exact this
theorem Cn (m:Nat) (n:Nat) (p:Probe):(bw (turn m) (n+1) p).j=(bw (turn m) (n+1) p).i:=by rw[lQ]; rfl
noncomputable def Full (m:Nat):Prop:=∀i≤m,∀j≤m,∃n≤m,bw (ring m) n i=j
theorem EN:Full 7:=by
 have:∀i<8,∀j<8,∃n<8,bw (ring 7) n i=j:=by decide +kernel
 intro i hi j hj
 obtain⟨n,h1,h2⟩:=this i (by omega) j (by omega)
 exact⟨n,by omega,h2⟩
theorem Co:Full 31:=by
 have:∀i<32,∀j<32,∃n<32,bw (ring 31) n i=j:=by decide +kernel
 intro i hi j hj
 obtain⟨n,h1,h2⟩:=this i (by omega) j (by omega)
 exact⟨n,by omega,h2⟩
theorem cover {t:SetTable} {p:Probe} (F:Full t.mask) (h:sV t.mask p) {j:Nat} (hj:j≤t.mask):∃k,k<10*turns t.mask/\(bw t.advance k p).j=j:=by
 have hi:(bw (turn t.mask) 13 p).i≤t.mask:=by
  rw[lQ]
  have:(leap t.mask (bw (turn t.mask) 12 p).i (bw (turn t.mask) 12 p).perturb).1<t.mask+1:=Nat.mod_lt _ (Nat.succ_pos _)
  show(leap t.mask (bw (turn t.mask) 12 p).i (bw (turn t.mask) 12 p).perturb).1≤t.mask
  omega
 obtain⟨n,hn,e⟩:=F _ hi j hj
 obtain⟨k,hk,ek⟩:=pO (13+n) p h
 refine⟨k,by unfold turns; omega,?_⟩
 rw[ek,show 13+n=12+n+1 by omega,Cn,show 12+n+1=13+n by omega,gz,(oh t.mask n _ (AD h)).1,e]
end St
end
section
namespace St
open PySem PySem.SetTable
noncomputable def xa (l:List Nat):Prop:=l.Pairwise (· < ·)
theorem lT {xs:Array Nat} {j:Nat} (ha:xa xs.toList):∀(f lo hi:Nat),hi-lo≤f->lo≤hi->hi≤xs.size->(∀i<lo,∀x,xs[i]? = some x->x<j)->(∀i,hi≤i->∀x,xs[i]? = some x->j≤x) →
  (∀i<below.go xs j f lo hi,∀x,xs[i]? = some x->x<j)/\(∀i,below.go xs j f lo hi≤i->∀x,xs[i]? = some x->j≤x)/\below.go xs j f lo hi≤xs.size
 | 0,lo,hi,h1,h2,h3,h4,h5=>by
  have e:lo=hi:=by omega
  subst e
  exact⟨h4,h5,h3⟩
 | f+1,lo,hi,h1,h2,h3,h4,h5=>by
  unfold below.go
  have asc:∀a b x y:Nat,a<b->xs[a]? = some x->xs[b]? = some y->x<y:=fun a b x y F6 hx hy=>by
   have EO:xs.toList[a]? = some x:=by simpa using hx
   have ER:xs.toList[b]? = some y:=by simpa using hy
   obtain⟨C6,ES⟩:=List.getElem?_eq_some_iff.mp EO
   obtain⟨AE,HU⟩:=List.getElem?_eq_some_iff.mp ER
   rw[← ES,← HU]
   exact List.pairwise_iff_getElem.mp ha a b C6 AE F6
  by_cases eL:lo<hi
  ·rw[if_pos eL]
   have hm:(lo+hi) / 2<xs.size:=by omega
   have em:xs[(lo+hi) / 2]? = some xs[(lo+hi) / 2]:=by simp[hm]
   have eg:xs.getD ((lo+hi) / 2) j=xs[(lo+hi) / 2]:=by simp[Array.getD,hm]
   dsimp only
   rw[eg]
   by_cases hc:xs[(lo+hi) / 2]<j
   ·rw[if_pos hc]
    refine lT ha f _ hi (by omega) (by omega) h3 (fun i yP x hx=>?_) h5
    by_cases e:i=(lo+hi) / 2
    ·subst e
     rw[em] at hx
     rw[← Option.some.inj hx]
     exact hc
    ·exact Nat.lt_trans (asc i _ x _ (by omega) hx em) hc
   ·rw[if_neg hc]
    refine lT ha f lo _ (by omega) (by omega) (by omega) h4 (fun i yP x hx=>?_)
    by_cases e:i=(lo+hi) / 2
    ·subst e
     rw[em] at hx
     rw[← Option.some.inj hx]
     omega
    ·have:=asc _ i _ x (by omega) em hx
     omega
  ·rw[if_neg eL]
   have e:lo=hi:=by omega
   subst e
   exact⟨h4,h5,h3⟩
theorem iW {xs:Array Nat} {j:Nat} (ha:xa xs.toList):(∀i<below xs j,∀x,xs[i]? = some x->x<j)/\(∀i,below xs j≤i->∀x,xs[i]? = some x->j≤x)/\below xs j≤xs.size:=by
 unfold below
 refine lT ha _ _ _ (by omega) (Nat.zero_le _) (Nat.le_refl _) (fun i hi=>by omega) (fun i hi x hx=>?_)
 rw[Array.getElem?_eq_none hi] at hx
 cases hx
theorem oi {xs:Array Nat} (ha:xa xs.toList) {a b j:Nat} (h1:xs[a]? = some j) (h2:xs[b]? = some j):a=b:=by
 have EO:xs.toList[a]? = some j:=by simpa using h1
 have ER:xs.toList[b]? = some j:=by simpa using h2
 obtain⟨C6,ES⟩:=List.getElem?_eq_some_iff.mp EO
 obtain⟨AE,HU⟩:=List.getElem?_eq_some_iff.mp ER
 by_cases eL:a<b
 ·have:=List.pairwise_iff_getElem.mp ha a b C6 AE eL
  omega
 ·by_cases Jn:b<a
  ·have:=List.pairwise_iff_getElem.mp ha b a AE C6 Jn
   omega
  ·omega
theorem xb {xs:Array Nat} (ha:xa xs.toList) {i j:Nat} (h:xs[i]? = some j):below xs j=i:=by
 obtain⟨h1,h2,_⟩:=iW (j:=j) ha
 by_cases e1:i<below xs j
 ·have:=h1 i e1 j h
  omega
 ·by_cases e2:below xs j<i
  ·have hb:below xs j<xs.size:=by
    have:=(Array.getElem?_eq_some_iff.mp h).1
    omega
   have e3:xs[below xs j]? = some xs[below xs j]:=by simp[hb]
   have h3:=h2 _ (Nat.le_refl _) _ e3
   have EO:xs.toList[below xs j]? = some xs[below xs j]:=by simp[hb]
   have ER:xs.toList[i]? = some j:=by simpa using h
   obtain⟨C6,ES⟩:=List.getElem?_eq_some_iff.mp EO
   obtain⟨AE,HU⟩:=List.getElem?_eq_some_iff.mp ER
   have:=List.pairwise_iff_getElem.mp ha _ i C6 AE e2
   omega
  ·omega
theorem j4 {t:SetTable} (ha:xa t.place.toList) {i j:Nat} (h:t.place[i]? = some j):t.slot j=.live i:=by
 unfold slot
 dsimp only
 rw[xb ha h,h]
 simp
theorem rf {t:SetTable} (hd:t.dummies=#[]) {j:Nat} (h:j∉t.place.toList):t.slot j=.empty:=by
 unfold slot
 dsimp only
 rw[if_neg,if_neg]
 ·unfold has
  rw[hd]
  simp
 ·intro e
  have e:=eq_of_beq e
  exact h (List.mem_of_getElem? (by simpa using e))
theorem sub_len:∀(l m:List Nat),l.Nodup->(∀x∈l,x∈m)->l.length≤m.length
 | [],m,_,_=>Nat.zero_le _
 | x::l,m,hn,h=>by
  rw[List.nodup_cons] at hn
  have hx:=h x (by simp)
  have:=sub_len l (m.erase x) hn.2 fun y hy=>(List.mem_erase_of_ne (fun e=>hn.1 (by rw[← e]; exact hy))).mpr (h y (List.mem_cons_of_mem _ hy))
  rw[List.length_erase_of_mem hx] at this
  have:=List.length_pos_of_mem hx
  rw[zE]
  omega
theorem nu {t:SetTable} (hr:t.place.size≤t.mask):∃j≤t.mask,j∉t.place.toList:=by
 by_cases h:∃j≤t.mask,j∉t.place.toList
 ·exact h
 ·have:∀x∈List.range (t.mask+1),x∈t.place.toList:=fun x hx=>by
   have hx:=List.mem_range.mp hx
   by_cases e:x∈t.place.toList
   ·exact e
   ·exact absurd ⟨x,by omega,e⟩ h
  have:=sub_len _ _ List.nodup_range this
  rw[List.length_range,Array.length_toList] at this
  omega
structure uL (t:SetTable) (hs:List Int):Prop where
 len:t.place.size=hs.length
 asc:xa t.place.toList
 le:∀j∈t.place.toList,j≤t.mask
 dm:t.dummies=#[]
 full:Full t.mask
 room:t.place.size≤t.mask
 reach:∀(i:Nat) (h:Int),hs[i]? = some h->∃k,t.place[i]? = some (bw t.advance k (t.probeStart h)).j/\∀k'<k,(bw t.advance k' (t.probeStart h)).j∈t.place.toList
theorem zt {t:SetTable} (ha:xa t.place.toList) (hd:t.dummies=#[]) (j:Nat):(t.slot j=.empty/\j∉t.place.toList)\/∃i,t.slot j=.live i/\t.place[i]? = some j:=by
 by_cases h:j∈t.place.toList
 ·obtain⟨i,hi⟩:=List.mem_iff_getElem?.mp h
  have hi:t.place[i]? = some j:=by simpa using hi
  exact .inr ⟨i,j4 ha hi,hi⟩
 ·exact .inl ⟨rf hd h,h⟩
noncomputable def ET (t:SetTable) (hashAt:Nat->Int) (h:Int) (p:Probe) (r:Option Met):Prop :=
  ∃k, (∀k'<k, ∃i, t.place[i]? = some (bw t.advance k' p).j/\hashAt i≠h) ∧
    (((bw t.advance k p).j∉t.place.toList/\r=some (.empty (bw t.advance k p).j none)) ∨
     ∃i, t.place[i]? = some (bw t.advance k p).j/\hashAt i=h/\r=some (.candidate (bw t.advance k p).j i (bw t.advance (k+1) p)))
theorem sX {t:SetTable} {hashAt:Nat->Int} {h:Int} (ha:xa t.place.toList) (hd:t.dummies=#[]):∀(n:Nat) (p:Probe),sV t.mask p->(∃k<n,(bw t.advance k p).j∉t.place.toList)->ET t hashAt h p (probe.go t hashAt h n p)
 | 0,p,_,⟨k,hk,_⟩=>by omega
 | n+1,p,hp,⟨k,hk,hj⟩=>by
  unfold probe.go
  rcases zt ha hd p.j with⟨e1,e2⟩ | ⟨i,e1,e2⟩
  ·rw[e1]
   exact⟨0,fun k' k6=>by omega,.inl ⟨e2,by dsimp only[bw]; rw[hp.dm]⟩⟩
  ·rw[e1]
   dsimp only
   by_cases hh:hashAt i=h
   ·rw[if_pos (by simpa using hh)]
    exact⟨0,fun k' k6=>by omega,.inr ⟨i,e2,hh,rfl⟩⟩
   ·rw[if_neg (by simpa using hh)]
    have IY:k≠0:=fun e=>by
     subst e
     have e3:t.place.toList[i]? = some p.j:=by simpa using e2
     exact hj (List.mem_of_getElem? e3)
    obtain⟨k1,h1,h2⟩:=sX (hashAt:=hashAt) (h:=h) ha hd n (t.advance p) hp.Jm ⟨k-1,by omega,by
     have:bw t.advance k p=bw t.advance (k-1) (t.advance p):=by
      rw[show k=(k-1)+1 by omega]
      rfl
     rw[← this]
     exact hj⟩
    refine⟨k1+1,fun k' k6=>?_,h2⟩
    cases k' with
    | zero=>exact⟨i,e2,hh⟩
    | succ k'=>exact h1 k' (by omega)
theorem uL.probe {t:SetTable} {hs:List Int} (T:uL t hs) {hashAt:Nat->Int} {h:Int} {p:Probe} (hp:sV t.mask p):ET t hashAt h p (t.probe hashAt h p):=by
 obtain⟨j,hj,hn⟩:=nu T.room
 obtain⟨k,hk,e⟩:=cover T.full hp hj
 exact sX T.asc T.dm _ p hp ⟨k,hk,by rw[e]; exact hn⟩
end St
end
section
namespace St
open PySem PySem.SetTable
theorem iP {α:Type} (xs:Array α) (p:Nat) (x:α):(insertAt xs p x).toList=xs.toList.take p++x::xs.toList.drop p:=by
 unfold insertAt
 simp
 exact List.take_of_length_le (by simp)
theorem ir {α:Type} (l:List α) {p:Nat} (hp:p≤l.length) (x:α) (i:Nat):(l.take p++x::l.drop p)[i]? = if i<p then l[i]? else if i=p then some x else l[i-1]? := by
 have hl:(l.take p).length=p:=by rw[List.length_take]; omega
 by_cases h1:i<p
 ·rw[if_pos h1,List.getElem?_append_left (by omega),List.getElem?_take_of_lt h1]
 ·rw[if_neg h1,List.getElem?_append_right (by omega),hl]
  by_cases h2:i=p
  ·rw[if_pos h2,h2,Nat.sub_self]
   rfl
  ·rw[if_neg h2,show i-p=(i-p-1)+1 by omega,zB,List.getElem?_drop,show p+(i-p-1)=i-1 by omega]
theorem uL.put {t:SetTable} {hs:List Int} (T:uL t hs) {h:Int} {k:Nat} (hj:(bw t.advance k (t.probeStart h)).j∉t.place.toList) (hk:∀k'<k,(bw t.advance k' (t.probeStart h)).j∈t.place.toList) (hle:(bw t.advance k (t.probeStart h)).j≤t.mask) (hr:t.place.size<t.mask) :
  uL (t.put (bw t.advance k (t.probeStart h)).j).1 (hs.take (t.put (bw t.advance k (t.probeStart h)).j).2++h::hs.drop (t.put (bw t.advance k (t.probeStart h)).j).2):=by
 generalize ej:(bw t.advance k (t.probeStart h)).j=j at hj hle
 have EU:t.put j=({ t with place:=insertAt t.place (below t.place j) j },below t.place j):=by
  unfold SetTable.put
  dsimp only
  rw[if_neg]
  unfold has
  rw[T.dm]
  simp
 rw[EU]
 dsimp only
 obtain⟨b1,b2,b3⟩:=iW (j:=j) T.asc
 generalize below t.place j=p at b1 b2 b3
 have gX:p≤t.place.toList.length:=by rw[Array.length_toList]; exact b3
 have La:p≤hs.length:=by rw[← T.len]; exact b3
 have el:=iP t.place p j
 have mem:∀x,x∈(insertAt t.place p j).toList↔x=j\/x∈t.place.toList:=fun x=>by
  rw[el,List.mem_append,List.mem_cons]
  constructor
  ·rintro(h | h | h)
   ·exact .inr (List.mem_of_mem_take h)
   ·exact .inl h
   ·exact .inr (List.mem_of_mem_drop h)
  ·rintro(h | h)
   ·exact .inr (.inl h)
   ·rw[← List.take_append_drop p t.place.toList,List.mem_append] at h
    exact h.imp id .inr
 refine⟨?_,?_,fun x hx=>?_,T.dm,T.full,?_,fun i h' hi=>?_⟩
 ·show(insertAt t.place p j).size=_
  rw[← Array.length_toList,el]
  simp only[List.length_append,List.length_take,zE,List.length_drop,Array.length_toList]
  have:=T.len
  omega
 ·show xa (insertAt t.place p j).toList
  rw[el]
  refine List.pairwise_append.mpr ⟨T.asc.sublist (List.take_sublist _ _),List.pairwise_cons.mpr ⟨fun x hx=>?_,T.asc.sublist (List.drop_sublist _ _)⟩,fun a ha b hb=>?_⟩
  ·obtain⟨i,hi⟩:=List.mem_iff_getElem?.mp hx
   rw[List.getElem?_drop] at hi
   have h1:=b2 (p+i) (by omega) x (by simpa using hi)
   have:x≠j:=fun e=>hj (by rw[← e]; exact List.mem_of_mem_drop hx)
   omega
  ·obtain⟨i,hi⟩:=List.mem_iff_getElem?.mp ha
   have Jo:i<p:=by
    have:=(List.getElem?_eq_some_iff.mp hi).1
    rw[List.length_take] at this
    omega
   rw[List.getElem?_take_of_lt Jo] at hi
   have h1:=b1 i Jo a (by simpa using hi)
   rcases List.mem_cons.mp hb with rfl | hb
   ·exact h1
   ·obtain⟨i2,wb⟩:=List.mem_iff_getElem?.mp hb
    rw[List.getElem?_drop] at wb
    have h2:=b2 (p+i2) (by omega) b (by simpa using wb)
    omega
 ·rcases(mem x).mp hx with rfl | hx
  ·exact hle
  ·exact T.le x hx
 ·show(insertAt t.place p j).size≤t.mask
  rw[← Array.length_toList,el]
  simp only[List.length_append,List.length_take,zE,List.length_drop,Array.length_toList]
  omega
 ·have eg:(insertAt t.place p j)[i]? = (t.place.toList.take p++j::t.place.toList.drop p)[i]? := by rw[← el]; simp
  rw[ir hs La] at hi
  show ∃k,(insertAt t.place p j)[i]? = some (bw t.advance k (t.probeStart h')).j/\∀k'<k,(bw t.advance k' (t.probeStart h')).j∈(insertAt t.place p j).toList
  rw[eg,ir _ gX]
  split at hi
  ·rename_i h1
   rw[if_pos h1]
   obtain⟨k0,e1,e2⟩:=T.reach i h' hi
   exact⟨k0,by simpa using e1,fun k' k6=>(mem _).mpr (.inr (e2 k' k6))⟩
  ·rename_i h1
   rw[if_neg h1]
   split at hi
   ·rename_i h2
    rw[if_pos h2]
    have:=Option.some.inj hi
    subst this
    exact⟨k,by rw[ej],fun k' k6=>(mem _).mpr (.inr (hk k' k6))⟩
   ·rename_i h2
    rw[if_neg h2]
    obtain⟨k0,e1,e2⟩:=T.reach (i-1) h' hi
    exact⟨k0,by simpa using e1,fun k' k6=>(mem _).mpr (.inr (e2 k' k6))⟩
theorem lg {t:SetTable}:∀(r:Nat) (p:Probe),r≤p.more->(bw t.advance r p).j=p.j+r
 | 0,p,_=>rfl
 | r+1,p,h=>by
  show(bw t.advance r (t.advance p)).j=_
  have e:t.advance p={ p with j:=p.j+1,more:=p.more-1 }:=by unfold advance; rw[if_pos (by omega)]
  rw[e,lg r _ (by show r≤p.more-1; omega)]
  show p.j+1+r=_
  omega
noncomputable def isFree (owner:Array (Option Nat)) (j:Nat):Prop:=(owner.getD j (some 0)).isNone=true
noncomputable def p1 (m i j1:Nat):Probe:=⟨i,runEnd m i-i,i,j1,none⟩
theorem uM (m i:Nat):i≤runEnd m i:=by unfold runEnd; split<;>omega
theorem rg {P:Nat->Bool} (n:Nat):(∀r,(List.range n).find? P=some r->P r=true/\r<n/\∀r'<r,P r'=false)/\((List.range n).find? P=none->∀r<n,P r=false):=by
 refine⟨fun r h=>?_,fun h r hr=>?_⟩
 ·obtain⟨h1,as,bs,h2,h3⟩:=List.find?_eq_some_iff_append.mp h
  have hl:as.length<n:=by
   have:=congrArg List.length h2
   simp at this
   omega
  have e:r=as.length:=by
   have h4:(List.range n)[as.length]? = some r:=by rw[h2]; simp
   rw[List.getElem?_range hl] at h4
   exact(Option.some.inj h4).symm
  refine⟨h1,by omega,fun r' Mc=>?_⟩
  have h4:(List.range n)[r']? = as[r']? := by rw[h2,List.getElem?_append_left (by omega)]
  rw[List.getElem?_range (by omega)] at h4
  have:=h3 r' (List.mem_of_getElem? h4.symm)
  simpa using this
 ·have:=List.find?_eq_none.mp h r (List.mem_range.mpr hr)
  simpa using this
theorem nv {t:SetTable} {owner:Array (Option Nat)}:∀(f i j1:Nat),(∃n<f,isFree owner (bw (turn t.mask) n (p1 t.mask i j1)).i) →
  ∃k,layClean.free t.mask owner f i j1=some (bw t.advance k (p1 t.mask i j1)).j/\isFree owner (bw t.advance k (p1 t.mask i j1)).j/\∀k'<k,¬isFree owner (bw t.advance k' (p1 t.mask i j1)).j
 | 0,i,j1,⟨n,hn,_⟩=>by omega
 | f+1,i,j1,⟨n,hn,hf⟩=>by
  unfold layClean.free
  have Lb:=uM t.mask i
  obtain⟨Lc,Ld⟩:=rg (P:=fun k=>(owner.getD (i+k) (some 0)).isNone) (runEnd t.mask i+1-i)
  cases e:(List.range (runEnd t.mask i+1-i)).find? fun k=>(owner.getD (i+k) (some 0)).isNone with
  | some r =>
   obtain⟨h1,h2,h3⟩:=Lc r e
   have ep:(bw t.advance r (p1 t.mask i j1)).j=i+r:=lg r _ (by show r≤runEnd t.mask i-i; omega)
   refine⟨r,by rw[ep],by rw[ep]; exact h1,fun k' k6 mw=>?_⟩
   rw[lg k' _ (by show k'≤runEnd t.mask i-i; omega)] at mw
   have:=h3 k' k6
   unfold isFree at mw
   have mw:(owner.getD (i+k') (some 0)).isNone=true:=mw
   rw[this] at mw
   cases mw
  | none =>
   have h0:=Ld e
   dsimp only
   have Jp:n≠0:=fun e0=>by
    subst e0
    have:(owner.getD (i+0) (some 0)).isNone=true:=hf
    rw[h0 0 (by omega)] at this
    cases this
   have et:turn t.mask (p1 t.mask i j1)=p1 t.mask (leap t.mask i j1).1 (leap t.mask i j1).2:=rfl
   obtain⟨k,e1,e2,e3⟩:=nv (t:=t) (owner:=owner) f (leap t.mask i j1).1 (leap t.mask i j1).2 ⟨n-1,by omega,by
    rw[← et]
    have:bw (turn t.mask) n (p1 t.mask i j1)=bw (turn t.mask) (n-1) (turn t.mask (p1 t.mask i j1)):=by
     rw[show n=(n-1)+1 by omega]
     rfl
    rw[← this]
    exact hf⟩
   have es:∀k,bw t.advance (runEnd t.mask i-i+1+k) (p1 t.mask i j1)=bw t.advance k (p1 t.mask (leap t.mask i j1).1 (leap t.mask i j1).2):=fun k=>by
    rw[gz,show bw t.advance (runEnd t.mask i-i+1) (p1 t.mask i j1)=turn t.mask (p1 t.mask i j1) from lS _ _ rfl,et]
   refine⟨runEnd t.mask i-i+1+k,by rw[es]; exact e1,by rw[es]; exact e2,fun k' k6 mw=>?_⟩
   by_cases eL:k'<runEnd t.mask i-i+1
   ·rw[lg k' _ (by show k'≤runEnd t.mask i-i; omega)] at mw
    have mw:(owner.getD (i+k') (some 0)).isNone=true:=mw
    rw[h0 k' (by omega)] at mw
    cases mw
   ·rw[show k'=runEnd t.mask i-i+1+(k'-(runEnd t.mask i-i+1)) by omega,es] at mw
    exact e3 _ (by omega) mw
end St
end
section
namespace St
open PySem PySem.SetTable
theorem Cp {t:SetTable} {p:Probe} (h:p.j+p.more≤t.mask):(t.advance p).j+(t.advance p).more≤t.mask:=by
 unfold advance
 split
 ·show p.j+1+(p.more-1)≤t.mask
  omega
 ·show(leap t.mask p.i p.perturb).1+(runEnd t.mask (leap t.mask p.i p.perturb).1-(leap t.mask p.i p.perturb).1)≤t.mask
  have h1:(leap t.mask p.i p.perturb).1<t.mask+1:=Nat.mod_lt _ (Nat.succ_pos _)
  generalize (leap t.mask p.i p.perturb).1=i at h1
  unfold runEnd
  split<;>omega
theorem rh {t:SetTable}:∀(k:Nat) (p:Probe),p.j+p.more≤t.mask->(bw t.advance k p).j≤t.mask
 | 0,p,h=>by show p.j≤_; omega
 | k+1,p,h=>rh k _ (Cp h)
theorem pP (t:SetTable) (h:Int):(t.probeStart h).j+(t.probeStart h).more≤t.mask:=by
 show bits h%(t.mask+1)+(runEnd t.mask (bits h%(t.mask+1))-bits h%(t.mask+1))≤t.mask
 have h1:bits h%(t.mask+1)<t.mask+1:=Nat.mod_lt _ (Nat.succ_pos _)
 generalize bits h%(t.mask+1)=i at h1
 unfold runEnd
 split<;>omega
theorem rj {m:Nat} {p:Probe} (F:Full m) (h:sV m p) {j:Nat} (hj:j≤m):∃n,n<turns m/\(bw (turn m) n p).i=j:=by
 have hi:(bw (turn m) 13 p).i≤m:=by
  rw[lQ]
  have:(leap m (bw (turn m) 12 p).i (bw (turn m) 12 p).perturb).1<m+1:=Nat.mod_lt _ (Nat.succ_pos _)
  show(leap m (bw (turn m) 12 p).i (bw (turn m) 12 p).perturb).1≤m
  omega
 obtain⟨n,hn,e⟩:=F _ hi j hj
 exact⟨13+n,by unfold turns; omega,by rw[gz,(oh m n _ (AD h)).1,e]⟩
structure OW (t:SetTable) (owner:Array (Option Nat)) (σ:List Nat) (hs:List Int):Prop where
 size:owner.size=t.mask+1
 own:∀j i:Nat,owner[j]? = some (some i)↔σ[i]? = some j
 len:σ.length=hs.length
 nd:σ.Nodup
 le:∀j∈σ,j≤t.mask
 reach:∀(i:Nat) (h:Int),hs[i]? = some h->∃k,σ[i]? = some (bw t.advance k (t.probeStart h)).j/\∀k'<k,(bw t.advance k' (t.probeStart h)).j∈σ
theorem OW.free {t:SetTable} {owner:Array (Option Nat)} {σ:List Nat} {hs:List Int} (O:OW t owner σ hs) {j:Nat}:isFree owner j↔j≤t.mask/\j∉σ:=by
 unfold isFree
 by_cases hj:j<owner.size
 ·have e:owner.getD j (some 0)=owner[j]:=by simp[Array.getD,hj]
  rw[e]
  have e2:owner[j]? = some owner[j]:=by simp[hj]
  have hs:=O.size
  constructor
  ·intro h
   refine⟨by omega,fun hm=>?_⟩
   obtain⟨i,hi⟩:=List.mem_iff_getElem?.mp hm
   have:=(O.own j i).mpr hi
   rw[e2] at this
   rw[Option.some.inj this] at h
   cases h
  ·rintro⟨_,hn⟩
   cases e3:owner[j] with
   | none=>rfl
   | some i =>
    rw[e3] at e2
    exact absurd (List.mem_of_getElem? ((O.own j i).mp e2)) hn
 ·have e:owner.getD j (some 0)=some 0:=by simp[Array.getD,hj]
  rw[e]
  have hs:=O.size
  constructor
  ·intro h; cases h
  ·rintro⟨h,_⟩; omega
theorem OW.room {t:SetTable} {owner:Array (Option Nat)} {σ:List Nat} {hs:List Int} (O:OW t owner σ hs) (h:hs.length≤t.mask):∃j≤t.mask,j∉σ:=by
 by_cases hh:∃j≤t.mask,j∉σ
 ·exact hh
 ·have:∀x∈List.range (t.mask+1),x∈σ:=fun x hx=>by
   have hx:=List.mem_range.mp hx
   by_cases e:x∈σ
   ·exact e
   ·exact absurd ⟨x,by omega,e⟩ hh
  have:=sub_len _ _ List.nodup_range this
  rw[List.length_range,O.len] at this
  omega
theorem pQ (t:SetTable) (h:Int):t.probeStart h=p1 t.mask (bits h%(t.mask+1)) (bits h):=rfl
noncomputable def jw (m:Nat) (acc:Option (Array (Option Nat)×Nat)) (h:Int):Option (Array (Option Nat)×Nat):=do
 let(owner,k) ← acc
 let j ← layClean.free m owner (turns m) (bits h%(m+1)) (bits h)
 pure (owner.setIfInBounds j (some k),k+1)
theorem OW.step {t:SetTable} {owner:Array (Option Nat)} {σ:List Nat} {hs:List Int} (F:Full t.mask) (O:OW t owner σ hs) (hl:hs.length≤t.mask) (h:Int):∃lU σ',jw t.mask (some (owner,hs.length)) h=some (lU,hs.length+1)/\OW t lU σ' (hs++[h]):=by
 obtain⟨j0,Jq,Jp⟩:=O.room hl
 obtain⟨n,hn,en⟩:=rj F (lR t h) Jq
 obtain⟨k,e1,e2,e3⟩:=nv (t:=t) (owner:=owner) (turns t.mask) (bits h%(t.mask+1)) (bits h) ⟨n,hn,by rw[← pQ,en]; exact O.free.mpr ⟨Jq,Jp⟩⟩
 rw[← pQ] at e1 e2 e3
 generalize ej:(bw t.advance k (t.probeStart h)).j=j at e1 e2
 obtain⟨hj,Jr⟩:=O.free.mp e2
 refine⟨owner.setIfInBounds j (some hs.length),σ++[j],?_,?_,fun j' i=>?_,?_,?_,?_,fun i h' hi=>?_⟩
 ·unfold jw
  show(do let j ← layClean.free t.mask owner (turns t.mask) (bits h%(t.mask+1)) (bits h); pure (owner.setIfInBounds j (some hs.length),hs.length+1))=_
  rw[e1]
  rfl
 ·rw[Array.size_setIfInBounds]; exact O.size
 ·have hlen:=O.len
  rw[Array.getElem?_setIfInBounds]
  by_cases e:j=j'
  ·subst e
   rw[if_pos rfl,if_pos (by rw[O.size]; omega)]
   constructor
   ·intro h1
    have:i=hs.length:=(Option.some.inj (Option.some.inj h1)).symm
    rw[this,List.getElem?_append_right (by omega),hlen,Nat.sub_self]
    rfl
   ·intro h1
    by_cases hi:i < σ.length
    ·rw[List.getElem?_append_left hi] at h1
     exact absurd (List.mem_of_getElem? h1) Jr
    ·rw[List.getElem?_append_right (by omega)] at h1
     have:i - σ.length=0:=by
      have:=(List.getElem?_eq_some_iff.mp h1).1
      simp at this
      omega
     congr 2
     omega
  ·rw[if_neg e,O.own]
   by_cases hi:i < σ.length
   ·rw[List.getElem?_append_left hi]
   ·rw[List.getElem?_append_right (by omega),List.getElem?_eq_none (by omega)]
    constructor
    ·intro h1; cases h1
    ·intro h1
     have:i - σ.length=0:=by
      have:=(List.getElem?_eq_some_iff.mp h1).1
      simp at this
      omega
     rw[this] at h1
     exact absurd (Option.some.inj h1) e
 ·rw[List.length_append,List.length_append,O.len]; rfl
 ·refine List.nodup_append.mpr ⟨O.nd,by simp,fun a ha b hb=>?_⟩
  rw[List.mem_singleton.mp hb]
  exact fun e=>Jr (by rw[← e]; exact ha)
 ·intro x hx
  rcases List.mem_append.mp hx with hx | hx
  ·exact O.le x hx
  ·rw[List.mem_singleton.mp hx]; exact hj
 ·have hlen:=O.len
  by_cases yP:i<hs.length
  ·rw[List.getElem?_append_left yP] at hi
   obtain⟨k0,a1,a2⟩:=O.reach i h' hi
   exact⟨k0,by rw[List.getElem?_append_left (by omega)]; exact a1,fun k' k6=>List.mem_append.mpr (.inl (a2 k' k6))⟩
  ·rw[List.getElem?_append_right (by omega)] at hi
   have h0:i-hs.length=0:=by
    have:=(List.getElem?_eq_some_iff.mp hi).1
    simp at this
    omega
   rw[h0] at hi
   have:=Option.some.inj hi
   subst this
   refine⟨k,?_,fun k' k6=>List.mem_append.mpr (.inl ?_)⟩
   ·rw[List.getElem?_append_right (by omega),show i - σ.length=0 by omega,ej]
    rfl
   ·by_cases hm:(bw t.advance k' (t.probeStart h)).j∈σ
    ·exact hm
    ·exact absurd (O.free.mpr ⟨rh k' _ (pP t h),hm⟩) (e3 k' k6)
theorem pR {t:SetTable} (F:Full t.mask):∀(rest done:List Int) (owner:Array (Option Nat)) (σ:List Nat),OW t owner σ done->done.length+rest.length≤t.mask+1 →
  ∃lU σ',rest.foldl (jw t.mask) (some (owner,done.length))=some (lU,(done++rest).length)/\OW t lU σ' (done++rest)
 | [],done,owner,σ,O,_=>⟨owner,σ,by rw[zI]; rfl,by rw[zI]; exact O⟩
 | h::rest,done,owner,σ,O,hl=>by
  rw[zE] at hl
  obtain⟨o1,σ1,e1,O1⟩:=O.step F (by omega) h
  obtain⟨o2,σ2,e2,O2⟩:=pR F rest (done++[h]) o1 σ1 O1 (by rw[List.length_append,List.length_singleton]; omega)
  refine⟨o2,σ2,?_,?_⟩
  ·rw[List.foldl_cons,e1]
   rw[List.length_append,List.length_singleton] at e2
   rw[e2]
   simp
  ·simpa using O2
theorem uN {t:SetTable} (F:Full t.mask) (hs:Array Int) (hl:hs.size≤t.mask+1):∃owner σ,layClean t.mask hs=some owner/\OW t owner σ hs.toList:=by
 have O0:OW t (Array.replicate (t.mask+1) none) [] []:=by
  refine⟨by simp,fun j i=>?_,rfl,List.nodup_nil,fun j h=>by simp at h,fun i h hi=>by simp at hi⟩
  constructor
  ·intro h
   rw[Array.getElem?_replicate] at h
   split at h
   ·cases h
   ·cases h
  ·intro h; simp at h
 obtain⟨o,σ,e,O⟩:=pR F hs.toList [] _ _ O0 (by simpa using hl)
 refine⟨o,σ,?_,by simpa using O⟩
 unfold layClean
 rw[← Array.foldl_toList]
 show(hs.toList.foldl (jw t.mask) (some (Array.replicate (t.mask+1) none,0))).map (·.1)=_
 have e:hs.toList.foldl (jw t.mask) (some (Array.replicate (t.mask+1) none,0))=some (o,([]++hs.toList).length):=e
 rw[e]
 rfl
end St
end
section
namespace St
open PySem PySem.SetTable
noncomputable def cU (m:Nat) (owner:Array (Option Nat)):List (Nat×Nat):=(List.range (m+1)).filterMap fun j=>(owner.getD j none).map (j,·)
theorem pS {t:SetTable} {owner:Array (Option Nat)} {σ:List Nat} {hs:List Int} (O:OW t owner σ hs) {j i:Nat}:(j,i)∈cU t.mask owner↔σ[i]? = some j:=by
 unfold cU
 rw[List.mem_filterMap,← O.own]
 constructor
 ·rintro⟨a,ha,e⟩
  obtain⟨b,hb,e2⟩:=Option.map_eq_some_iff.mp e
  obtain⟨rfl,rfl⟩:=Prod.mk.inj e2
  have eL:a<owner.size:=by rw[O.size]; exact List.mem_range.mp ha
  rw[show owner.getD a none=owner[a] by simp[Array.getD,eL]] at hb
  rw[show owner[a]? = some owner[a] by simp[eL],hb]
 ·intro h
  have eL:j<owner.size:=(Array.getElem?_eq_some_iff.mp h).1
  refine⟨j,List.mem_range.mpr (by rw[← O.size]; exact eL),?_⟩
  rw[show owner[j]? = some owner[j] by simp[eL]] at h
  rw[show owner.getD j none=owner[j] by simp[Array.getD,eL],Option.some.inj h]
  rfl
theorem xf (m:Nat) (owner:Array (Option Nat)):xa ((cU m owner).map (·.1)):=by
 unfold cU xa
 rw[List.pairwise_map,List.pairwise_filterMap]
 refine List.Pairwise.imp ?_ (List.pairwise_lt_range (n:=m+1))
 intro a b F6 x hx y hy
 obtain⟨_,_,rfl⟩:=Option.map_eq_some_iff.mp hx
 obtain⟨_,_,rfl⟩:=Option.map_eq_some_iff.mp hy
 exact F6
structure Laid (t':SetTable) (order:Array Nat) (hs:List Int):Prop where
 tok:uL t' (order.toList.map fun i=>hs.getD i 0)
 lt:∀i∈order.toList,i<hs.length
 all:∀i<hs.length,i∈order.toList
 nd:order.toList.Nodup
 len:order.size=hs.length
theorem zu {t:SetTable} {fi mo:Nat} {le pl:Bool} (F:Full t.mask) (hs:Array Int) (hl:hs.size≤t.mask):∃t' order,laid t.mask fi mo le pl hs=some (t',order)/\Laid t' order hs.toList/\t'.mask=t.mask/\t'.led=le/\t'.moves=mo:=by
 obtain⟨owner,σ,e,O⟩:=uN F hs (by omega)
 refine⟨{ mask:=t.mask,place:=((cU t.mask owner).map (·.1)).toArray,dummies:=#[],finger:=fi,led:=le,moves:=mo,plain:=pl },((cU t.mask owner).map (·.2)).toArray,?_,?_,rfl,rfl,rfl⟩
 ·unfold laid
  rw[e]
  rfl
 have hlen:σ.length=hs.size:=by rw[O.len,Array.length_toList]
 have asc:=xf t.mask owner
 have rm:∀{q:Nat×Nat},q∈cU t.mask owner↔σ[q.2]? = some q.1:=fun {q}=>pS O (j:=q.1) (i:=q.2)
 have Le:((cU t.mask owner).map (·.1)).Nodup:=List.Pairwise.imp (fun h=>Nat.ne_of_lt h) asc
 have l1:(cU t.mask owner).length≤σ.length:=by
  have:=sub_len _ σ Le fun x hx=>by
   obtain⟨q,hq,rfl⟩:=List.mem_map.mp hx
   exact List.mem_of_getElem? (rm.mp hq)
  rwa[zK] at this
 have sm:∀x∈σ,x∈(cU t.mask owner).map (·.1):=fun x hx=>by
  obtain⟨i,hi⟩:=List.mem_iff_getElem?.mp hx
  exact List.mem_map.mpr ⟨(x,i),pS O |>.mpr hi,rfl⟩
 have l2:σ.length≤(cU t.mask owner).length:=by
  have:=sub_len σ _ O.nd sm
  rwa[zK] at this
 have Cq:((cU t.mask owner).map (·.2)).Nodup:=by
  refine List.pairwise_map.mpr (List.Pairwise.imp_of_mem (fun {a b} ha hb F6=>?_) (List.pairwise_map.mp asc))
  intro e
  have h1:=rm.mp ha
  have h2:=rm.mp hb
  rw[e,h2] at h1
  have:=Option.some.inj h1
  omega
 refine⟨⟨?_,asc,fun j hj=>?_,rfl,F,?_,fun r h hr=>?_⟩,fun i hi=>?_,fun i hi=>?_,Cq,?_⟩
 ·simp
 ·obtain⟨q,hq,rfl⟩:=List.mem_map.mp hj
  exact O.le _ (List.mem_of_getElem? (rm.mp hq))
 ·show((cU t.mask owner).map (·.1)).toArray.size≤t.mask
  simp
  omega
 ·show ∃k,((cU t.mask owner).map (·.1)).toArray[r]? = some (bw t.advance k (t.probeStart h)).j/\∀k'<k,(bw t.advance k' (t.probeStart h)).j∈(cU t.mask owner).map (·.1)
  rw[zJ] at hr
  obtain⟨i,hi,e2⟩:=Option.map_eq_some_iff.mp hr
  have hi:((cU t.mask owner).map (·.2))[r]? = some i:=hi
  rw[zJ] at hi
  obtain⟨q,hq,rfl⟩:=Option.map_eq_some_iff.mp hi
  have h1:=rm.mp (List.mem_of_getElem? hq)
  have eL:q.2<hs.toList.length:=by
   have:=(List.getElem?_eq_some_iff.mp h1).1
   rw[← O.len]
   exact this
  have h2:hs.toList[q.2]? = some h:=by
   rw[List.getD_eq_getElem?_getD,List.getElem?_eq_getElem eL] at e2
   rw[List.getElem?_eq_getElem eL,← e2]
   rfl
  obtain⟨k,a1,a2⟩:=O.reach _ _ h2
  refine⟨k,?_,fun k' k6=>sm _ (a2 k' k6)⟩
  rw[h1] at a1
  rw[List.getElem?_toArray,zJ,hq,← a1]
  rfl
 ·obtain⟨q,hq,rfl⟩:=List.mem_map.mp hi
  have:=(List.getElem?_eq_some_iff.mp (rm.mp hq)).1
  rw[← O.len]
  exact this
 ·have yP:i < σ.length:=by rw[O.len]; exact hi
  refine List.mem_map.mpr ⟨(σ[i],i),rm.mpr ?_,rfl⟩
  exact List.getElem?_eq_getElem yP
 ·simp
  omega
end St
end
section
namespace St
open PySem PySem.SetTable
section
variable {prog:Program} {w:World} {A:Around} {E:Value->Shared->Prop} {s:Shared}
theorem uO (n:Nat) {v:Value} (h:carriedByValue v=true):ofAClassStatement n v=pure false:=by
 cases v with
 | ref a=>simp[carriedByValue] at h
 | _=>first | rfl | (unfold ofAClassStatement; rfl) | simp[ofAClassStatement]
theorem xg {knd:KeyKind prog w Int} {ks:List Int} {a:Addr} {Q:Bool->Shared->Prop} (hk:IsTupleKey knd s.heap ks a) (h:Q false s):wpAny (model prog w) A (ofAClassStatement 8 (.ref a)) Q E s:=by
 have hT:=hk.typeIs
 obtain⟨o,items,n,ho,_,hd,hi⟩:=hk
 unfold ofAClassStatement
 refine wpAny_bind (wpAny_typeOf hT ?_)
 show wpAny _ _ ((if ("tuple" == "tuple")=true then pure true else isSubtype (.type "tuple") (.type "tuple")) >>= _) Q E s
 rw[if_pos (by decide:("tuple" == "tuple")=true)]
 refine wpAny_bind (wpAny_pure ?_)
 simp only[Bool.not_true,Bool.false_eq_true,if_false]
 refine wpAny_bind (wpAny_seqItems ho hd ?_)
 refine wpAny_bind ?_
 show wpAny _ _ (forIn items _ _) _ _ s
 rw[← Array.forIn_toList]
 refine wpAny_forIn_list _ (fun rest r s'=>r.1=none/\s'=s/\∀v∈rest,carriedByValue v=true) _ ?_ ?_ _ _ ⟨rfl,rfl,hi.byValue⟩
 ·rintro v rest r s' ⟨hr,rfl,mE⟩
  rw[uO _ (mE v List.mem_cons_self)]
  refine wpAny_bind (wpAny_pure ?_)
  simp only[Bool.false_eq_true,if_false]
  exact wpAny_pure ⟨rfl,rfl,fun u EV=>mE u (List.mem_cons_of_mem _ EV)⟩
 ·rintro⟨r1,r2⟩ s' ⟨hr,rfl,_⟩
  simp only at hr
  subst hr
  exact wpAny_pure h
theorem zv {knd:KeyKind prog w Int} {ks:List Int} {a:Addr} (hk:IsTupleKey knd s.heap ks a) (l:List Value) {Q:Bool->Shared->Prop} (hl:∀v∈l,∃b k,v=.ref b/\IsTupleKey knd s.heap k b) (h:Q false s):wpAny (model prog w) A (searchCouldBeSeen (.ref a) l) Q E s:=by
 unfold searchCouldBeSeen
 refine wpAny_bind ?_
 refine wpAny_forIn_list _ (fun rest r s'=>r.1=none/\s'=s/\∀v∈rest,∃b k,v=.ref b/\IsTupleKey knd s.heap k b) _ ?_ ?_ _ _ ⟨rfl,rfl,hl⟩
 ·rintro v rest r s' ⟨hr,rfl,mE⟩
  obtain⟨b,k,rfl,hb⟩:=mE v List.mem_cons_self
  have F7:r.1=none/\s'=s'/\∀v∈rest,∃b k,v=.ref b/\IsTupleKey knd s'.heap k b:=⟨hr,rfl,fun u EV=>mE u (List.mem_cons_of_mem _ EV)⟩
  dsimp only
  by_cases e:((a == b) || (carriedByValue (.ref a) && carriedByValue (.ref b)))=true
  ·rw[if_pos e]
   exact wpAny_pure ⟨rfl,F7.2.1,F7.2.2⟩
  ·rw[if_neg e]
   refine wpAny_bind (wpAny_eqIsQuiet_tuple hk ?_)
   simp only[Bool.not_true,Bool.false_eq_true,if_false]
   refine wpAny_bind (wpAny_eqIsQuiet_tuple hb ?_)
   simp only[Bool.not_true,Bool.false_eq_true,if_false]
   refine wpAny_bind (xg hk ?_)
   simp only[Bool.false_eq_true,if_false]
   refine wpAny_bind (xg hb ?_)
   simp only[Bool.false_eq_true,if_false]
   exact wpAny_pure ⟨rfl,F7.2.1,F7.2.2⟩
 ·rintro⟨r1,r2⟩ s' ⟨hr,rfl,_⟩
  simp only at hr
  subst hr
  exact wpAny_pure h
theorem uP (n:Nat) {v:Value} {k:Int} (h:(intKind prog w).is k v=true):hashByValue n v=pure true:=by
 cases v with
 | int i t=>cases n<;>rfl
 | bool b=>cases n<;>rfl
 | _=>exact absurd h (by simp[intKind,Value.isInt])
end
end St
end
section
namespace St
open PySem PySem.SetTable
section
variable {prog:Program} {w:World} {A:Around} {E:Value->Shared->Prop} {s:Shared}
noncomputable def fE (prog:Program) (w:World) (k:List Int):Int:=tupleKeyHash (intKind prog w) k
structure vo (prog:Program) (w:World) (h:Heap) (ks:List (List Int)) (es:Array (Int×Value)):Prop where
 len:es.size=ks.length
 el:∀(i:Nat) (k:List Int),ks[i]? = some k->∃b,es[i]? = some (fE prog w k,.ref b)/\IsTupleKey (intKind prog w) h k b
theorem vo.at {h:Heap} {ks:List (List Int)} {es:Array (Int×Value)} (L:vo prog w h ks es) {i:Nat} {e:Int×Value} (hi:es[i]? = some e):∃k b,ks[i]? = some k/\e=(fE prog w k,.ref b)/\IsTupleKey (intKind prog w) h k b:=by
 have eL:i<ks.length:=by rw[← L.len]; exact(Array.getElem?_eq_some_iff.mp hi).1
 obtain⟨b,h1,h2⟩:=L.el i _ (List.getElem?_eq_getElem eL)
 rw[hi] at h1
 exact⟨_,b,List.getElem?_eq_getElem eL,Option.some.inj h1,h2⟩
theorem jx {t:SetTable} {hs:List Int} {n:Nat} (T:uL t hs) (hn:hs.length=n):t.fits n=true:=by
 unfold fits fill
 rw[T.dm]
 have h1:=T.len
 have h2:=T.room
 simp
 omega
theorem zw {t:SetTable} {hs:List Int} (T:uL t hs) (h:t.mask=7\/t.mask=31):t.gaveWay=false:=by
 unfold gaveWay
 rcases h with h | h<;>rw[h]<;>rfl
noncomputable def HV (t:SetTable) (h:Int) (K:Nat):Prop:=(bw t.advance K (t.probeStart h)).j∉t.place.toList/\∀k<K,(bw t.advance k (t.probeStart h)).j∈t.place.toList
theorem rn {t:SetTable} {hs:List Int} (T:uL t hs) (h:Int):∃K,K<10*turns t.mask/\HV t h K:=by
 obtain⟨j,hj,hn⟩:=nu T.room
 obtain⟨k,hk,e⟩:=cover T.full (lR t h) hj
 have:∀n,(∃k≤n,(bw t.advance k (t.probeStart h)).j∉t.place.toList)->∃K≤n,HV t h K:=fun n=>by
  induction n with
  | zero =>
   rintro⟨k,hk,hh⟩
   have:k=0:=by omega
   subst this
   exact⟨0,Nat.le_refl _,hh,fun k hk=>by omega⟩
  | succ n ih =>
   rintro⟨k,hk,hh⟩
   by_cases hex:∃k≤n,(bw t.advance k (t.probeStart h)).j∉t.place.toList
   ·obtain⟨K,h1,h2⟩:=ih hex
    exact⟨K,by omega,h2⟩
   ·have:k=n+1:=by
     by_cases e:k≤n
     ·exact absurd ⟨k,e,hh⟩ hex
     ·omega
    subst this
    refine⟨n+1,Nat.le_refl _,hh,fun k' k6=>?_⟩
    by_cases hm:(bw t.advance k' (t.probeStart h)).j∈t.place.toList
    ·exact hm
    ·exact absurd ⟨k',by omega,hm⟩ hex
 obtain⟨K,h1,h2⟩:=this k ⟨k,Nat.le_refl _,by rw[e]; exact hn⟩
 exact⟨K,by omega,h2⟩
theorem xh {t:SetTable}:∀(k:Nat) {p:Probe},sV t.mask p->sV t.mask (bw t.advance k p)
 | 0,_,h=>h
 | k+1,_,h=>xh k h.Jm
variable {a b:Addr} {o:Obj} {es:Array (Int×Value)} {ep:Nat} {t:SetTable} {ks:List (List Int)} {x:List Int}
theorem hY {K:Nat} (hu:A.units<cLine) (ho:s.heap.get? a=some o) (hd:o.data=.set es ep t) (L:vo prog w s.heap ks es) (T:uL t (ks.map (fE prog w))) (hm:t.mask=7\/t.mask=31) (hx:IsTupleKey (intKind prog w) s.heap x b) (hK:HV t (fE prog w x) K)
  {Q:SetFound->Shared->Prop} (h1:x∈ks->Q (.there none) s) (h2:x∉ks->Q (.free (bw t.advance K (t.probeStart (fE prog w x))).j false) s) :
  ∀(d f k:Nat) (st:Option Probe),K-k≤d->d<f->k≤K->st.getD (t.probeStart (fE prog w x))=bw t.advance k (t.probeStart (fE prog w x)) →
   (∀k'<k,∀i:Nat,t.place[i]? = some (bw t.advance k' (t.probeStart (fE prog w x))).j->ks[i]? ≠ some x)->wpAny (model prog w) A (setSearchFrom a (.ref b) (fE prog w x) true f st) Q E s
 | d,0,k,st,_,hf,_,_,_=>by omega
 | d,f+1,k,st,Jf,hf,hk,qz,eu=>by
  have fits:=jx (n:=es.size) T (by rw[zK,L.len])
  unfold setSearchFrom
  refine wpAny_bind (wpAny_setState_of ho hd fits ?_)
  dsimp only
  rw[zw T hm]
  simp only[Bool.false_eq_true,if_false]
  rw[qz]
  obtain⟨k1,m1,m2⟩:=T.probe (hashAt:=fun i=>(es[i]?.map (·.1)).getD 0) (h:=fE prog w x) (xh k (lR t (fE prog w x)))
  have add:∀n,bw t.advance n (bw t.advance k (t.probeStart (fE prog w x)))=bw t.advance (k+n) (t.probeStart (fE prog w x)):=fun n=>(gz _ _ _ _).symm
  have zx:∀(i:Nat) k',ks[i]? = some k'->((es[i]?.map (·.1)).getD 0)=fE prog w k':=fun i k' hi=>by
   obtain⟨b',e1,_⟩:=L.el i k' hi
   rw[e1]
   rfl
  have Cr:∀k'<k+k1,∀i:Nat,t.place[i]? = some (bw t.advance k' (t.probeStart (fE prog w x))).j->ks[i]? ≠ some x:=fun k' k6 i hi Js=>by
   by_cases eL:k'<k
   ·exact eu k' eL i hi Js
   ·obtain⟨i',a1,a2⟩:=m1 (k'-k) (by omega)
    rw[add,show k+(k'-k)=k' by omega] at a1
    have:=oi T.asc a1 hi
    subst this
    exact a2 (zx _ _ Js)
  rcases m2 with⟨n1,n2⟩ | ⟨i,n1,n2,n3⟩
  ·rw[add] at n1 n2
   have eK:k+k1=K:=by
    by_cases eL:k+k1<K
    ·exact absurd (hK.2 _ eL) n1
    ·by_cases Jn:K<k+k1
     ·by_cases Lb:k≤K
      ·obtain⟨i',a1,_⟩:=m1 (K-k) (by omega)
       rw[add,show k+(K-k)=K by omega] at a1
       have HW:t.place.toList[i']? = some (bw t.advance K (t.probeStart (fE prog w x))).j:=by simpa using a1
       exact absurd (List.mem_of_getElem? HW) hK.1
      ·omega
     ·omega
   have Lf:x∉ks:=fun HX=>by
    obtain⟨i,hi⟩:=List.mem_iff_getElem?.mp HX
    obtain⟨k0,r1,r2⟩:=T.reach i (fE prog w x) (by rw[zJ,hi]; rfl)
    have eL:k0<K:=by
     by_cases h0:k0<K
     ·exact h0
     ·by_cases he:k0=K
      ·subst he
       have Lg:t.place.toList[i]? = some (bw t.advance k0 (t.probeStart (fE prog w x))).j:=by simpa using r1
       exact absurd (List.mem_of_getElem? Lg) hK.1
      ·exact absurd (r2 K (by omega)) hK.1
    exact Cr k0 (by omega) i r1 hi
   split
   ·rename_i met Cs
    have:=Cs.symm.trans n2
    have:=Option.some.inj this
    subst this
    dsimp only
    rw[eK]
    exact wpAny_pure (h2 Lf)
   ·rename_i D8
    exact absurd n2 (D8 _)
  ·rw[add] at n1
   rw[add] at n3
   split
   ·rename_i met Cs
    have:=Cs.symm.trans n3
    have:=Option.some.inj this
    subst this
    dsimp only
    have eL:i<ks.length:=by
     have h0:=(Array.getElem?_eq_some_iff.mp n1).1
     rw[T.len,zK] at h0
     exact h0
    obtain⟨b',ei,HY⟩:=L.el i _ (List.getElem?_eq_getElem eL)
    have EW:=List.getElem?_eq_getElem eL
    generalize ks[i]=k' at ei HY EW
    have Jt:t.place.toList[i]? = some (bw t.advance (k+k1) (t.probeStart (fE prog w x))).j:=by simpa using n1
    have Md:k+k1<K:=by
     by_cases Ct:k+k1<K
     ·exact Ct
     ·by_cases he:k+k1=K
      ·rw[he] at Jt
       exact absurd (List.mem_of_getElem? Jt) hK.1
      ·obtain⟨i',a1,_⟩:=m1 (K-k) (by omega)
       rw[add,show k+(K-k)=K by omega] at a1
       have HW:t.place.toList[i']? = some (bw t.advance K (t.probeStart (fE prog w x))).j:=by simpa using a1
       exact absurd (List.mem_of_getElem? HW) hK.1
    split
    ·refine wpAny_bind (zv hx _ (fun v hv=>?_) ?_)
     ·obtain⟨e,he,rfl⟩:=List.mem_map.mp hv
      have C5:e∈es:=by
       have Lh:e∈es/\e.1=fE prog w x:=by simpa using he
       exact Lh.1
      obtain⟨i2,wb⟩:=Array.mem_iff_getElem?.mp C5
      obtain⟨k2,b2,_,e2,e3⟩:=L.at wb
      exact⟨b2,k2,by rw[e2],e3⟩
     ·simp only[Bool.false_eq_true,if_false]
      rw[ei]
      dsimp only
      refine wpAny_bind (wpAny_holding (wpAny_eqBool_tuple hu HY hx ?_))
      refine wpAny_bind (wpAny_setState_of ho hd fits ?_)
      dsimp only
      by_cases he:k'=x
      ·rw[decide_eq_true he]
       simp only[Bool.and_self,if_true]
       exact wpAny_pure (h1 (by rw[← he]; exact List.mem_of_getElem? EW))
      ·rw[decide_eq_false he]
       simp only[Bool.and_false,Bool.false_eq_true,if_false]
       rw[show t.sameMemory t.moves t.mask=some true by unfold sameMemory; simp]
       dsimp only
       rw[if_pos rfl,j4 T.asc n1]
       dsimp only
       rw[ei]
       dsimp only
       refine wpAny_bind (wpAny_isSame_ref_self ?_)
       refine wpAny_bind (wpAny_pure ?_)
       simp only[if_true,Bool.false_eq_true,if_false]
       refine hY hu ho hd L T hm hx hK h1 h2 (d-1) f (k+k1+1) _ (by omega) (by omega) (by omega) ?_ fun Cu HZ Ia rq=>?_
       ·show bw t.advance (k1+1) (bw t.advance k (t.probeStart (fE prog w x)))=_
        rw[add]
        rfl
       ·by_cases vU:Cu<k+k1
        ·exact Cr Cu vU Ia rq
        ·have e9:Cu=k+k1:=by omega
         rw[e9] at rq
         have:=oi T.asc n1 rq
         subst this
         rw[EW]
         exact fun e=>he (Option.some.inj e)
    ·rw[ei]
     dsimp only
     refine wpAny_bind (wpAny_holding (wpAny_eqBool_tuple hu HY hx ?_))
     refine wpAny_bind (wpAny_setState_of ho hd fits ?_)
     dsimp only
     by_cases he:k'=x
     ·rw[decide_eq_true he]
      simp only[Bool.and_self,if_true]
      exact wpAny_pure (h1 (by rw[← he]; exact List.mem_of_getElem? EW))
     ·rw[decide_eq_false he]
      simp only[Bool.and_false,Bool.false_eq_true,if_false]
      rw[show t.sameMemory t.moves t.mask=some true by unfold sameMemory; simp]
      dsimp only
      rw[if_pos rfl,j4 T.asc n1]
      dsimp only
      rw[ei]
      dsimp only
      refine wpAny_bind (wpAny_isSame_ref_self ?_)
      refine wpAny_bind (wpAny_pure ?_)
      simp only[if_true,Bool.false_eq_true,if_false]
      refine hY hu ho hd L T hm hx hK h1 h2 (d-1) f (k+k1+1) _ (by omega) (by omega) (by omega) ?_ fun Cu HZ Ia rq=>?_
      ·show bw t.advance (k1+1) (bw t.advance k (t.probeStart (fE prog w x)))=_
       rw[add]
       rfl
      ·by_cases vU:Cu<k+k1
       ·exact Cr Cu vU Ia rq
       ·have e9:Cu=k+k1:=by omega
        rw[e9] at rq
        have:=oi T.asc n1 rq
        subst this
        rw[EW]
        exact fun e=>he (Option.some.inj e)
   ·rename_i D8
    exact absurd n3 (D8 _)
end
end St
end
section
namespace St
open PySem PySem.SetTable
section
variable {prog:Program} {w:World} {A:Around} {E:Value->Shared->Prop} {s:Shared}
theorem Cv {ks:List Int} {a:Addr} {Q:Bool->Shared->Prop} (hk:IsTupleKey (intKind prog w) s.heap ks a) (h:Q true s):wpAny (model prog w) A (hashByValue 8 (.ref a)) Q E s:=by
 have hT:=hk.typeIs
 obtain⟨o,items,n,ho,_,hd,hi⟩:=hk
 unfold hashByValue
 refine wpAny_bind (wpAny_specialOf hT F.slot_tuple_hash.lookup ?_)
 show wpAny _ _ (seqItems? (.ref a) >>= _) _ _ s
 refine wpAny_bind (wpAny_seqItems ho hd ?_)
 refine wpAny_bind ?_
 show wpAny _ _ (forIn items _ _) _ _ s
 rw[← Array.forIn_toList]
 have all:∀{ks:List Int} {vs:List Value},ItemsAre (intKind prog w) ks vs->∀v∈vs,∃k,(intKind prog w).is k v=true:=fun hi=>by
  induction hi with
  | nil=>intro v hv; simp at hv
  | @cons k v' ks vs h1 _ ih =>
   intro v hv
   rcases List.mem_cons.mp hv with rfl | hv
   ·exact⟨k,h1⟩
   ·exact ih v hv
 refine wpAny_forIn_list _ (fun rest r s'=>r.1=none/\s'=s/\∀v∈rest,∃k,(intKind prog w).is k v=true) _ ?_ ?_ _ _ ⟨rfl,rfl,all hi⟩
 ·rintro v rest r s' ⟨hr,rfl,mE⟩
  obtain⟨k,hk⟩:=mE v List.mem_cons_self
  rw[uP _ hk]
  refine wpAny_bind (wpAny_pure ?_)
  simp only[Bool.not_true,Bool.false_eq_true,if_false]
  exact wpAny_pure ⟨rfl,rfl,fun u EV=>mE u (List.mem_cons_of_mem _ EV)⟩
 ·rintro⟨r1,r2⟩ s' ⟨hr,rfl,_⟩
  simp only at hr
  subst hr
  exact wpAny_pure h
noncomputable def kP (prog:Program) (w:World) (h:Heap) (a:Addr) (ks:List (List Int)):Prop :=
 ∃o es ep t,h.get? a=some o/\o.ExactSet/\o.data=.set es ep t/\vo prog w h ks es/\uL t (ks.map (fE prog w))/\ks.Nodup/\((t.mask=7/\ks.length≤4)\/(t.mask=31/\ks.length≤18))
theorem sY {h h':Heap} {k:List Int} {a d:Addr} {o:Obj} {es:Array (Int×Value)} {ep:Nat} {t:SetTable} (x:IsTupleKey (intKind prog w) h k a) (ho:h.get? d=some o) (hd:o.data=.set es ep t) (hs:Heap.SameBut d h h'):IsTupleKey (intKind prog w) h' k a:=by
 obtain⟨o',items,n,mS,hc,A0,hi⟩:=x
 have eu:a≠d:=by
  rintro rfl
  obtain rfl:o'=o:=Option.some.inj (mS.symm.trans ho)
  rw[hd] at A0; exact nomatch A0
 exact⟨o',items,n,(hs.2 a eu).trans mS,hc,A0,hi⟩
theorem zy {h:Heap} {ks:List (List Int)} {es:Array (Int×Value)} {x:List Int} {b:Addr} {p:Nat} (L:vo prog w h ks es) (hx:IsTupleKey (intKind prog w) h x b) (hp:p≤ks.length):vo prog w h (ks.take p++x::ks.drop p) (insertAt es p (fE prog w x,.ref b)):=by
 have el:=iP es p (fE prog w x,Value.ref b)
 have yC:p≤es.toList.length:=by rw[Array.length_toList,L.len]; exact hp
 refine⟨?_,fun i k hi=>?_⟩
 ·rw[← Array.length_toList,el]
  simp only[List.length_append,List.length_take,zE,List.length_drop,Array.length_toList]
  have:=L.len
  omega
 ·have eg:(insertAt es p (fE prog w x,Value.ref b))[i]? = (es.toList.take p++(fE prog w x,Value.ref b)::es.toList.drop p)[i]? := by rw[← el]; simp
  rw[ir ks hp] at hi
  rw[eg,ir _ yC]
  split at hi
  ·rename_i h1
   rw[if_pos h1]
   obtain⟨b',e1,e2⟩:=L.el i k hi
   exact⟨b',by simpa using e1,e2⟩
  ·rename_i h1
   rw[if_neg h1]
   split at hi
   ·rename_i h2
    rw[if_pos h2]
    have:=Option.some.inj hi
    subst this
    exact⟨b,rfl,hx⟩
   ·rename_i h2
    rw[if_neg h2]
    obtain⟨b',e1,e2⟩:=L.el (i-1) k hi
    exact⟨b',by simpa using e1,e2⟩
theorem vo.keep {h h':Heap} {ks:List (List Int)} {es:Array (Int×Value)} {d:Addr} {o:Obj} {Li:Array (Int×Value)} {ep:Nat} {t:SetTable} (L:vo prog w h ks es) (ho:h.get? d=some o) (hd:o.data=.set Li ep t) (hs:Heap.SameBut d h h'):vo prog w h' ks es :=
 ⟨L.len,fun i k hi=>by obtain⟨b,e1,e2⟩:=L.el i k hi; exact⟨b,e1,sY e2 ho hd hs⟩⟩
theorem zL {h:Heap} {ks:List (List Int)} {es:Array (Int×Value)} (L:vo prog w h ks es):(es.map (·.1)).toList=ks.map (fE prog w):=by
 refine List.ext_getElem? fun i=>?_
 rw[Array.toList_map,zJ,zJ]
 by_cases hi:i<ks.length
 ·obtain⟨b,e1,_⟩:=L.el i _ (List.getElem?_eq_getElem hi)
  have Ib:es.toList[i]? = some (fE prog w ks[i],Value.ref b):=by simpa using e1
  rw[Ib,List.getElem?_eq_getElem hi]
  rfl
 ·have h1:=L.len
  rw[List.getElem?_eq_none (by rw[Array.length_toList]; omega),List.getElem?_eq_none (by omega)]
  rfl
theorem xi {a:Addr} {o:Obj} {es:Array (Int×Value)} {ep:Nat} {t:SetTable} {ks:List (List Int)} {Q:Unit->Shared->Prop} (ho:s.heap.get? a=some o) (hex:o.ExactSet) (hd:o.data=.set es ep t) (L:vo prog w s.heap ks es) (T:uL t (ks.map (fE prog w))) (hn:ks.Nodup) (hl:ks.length≤18)
  (h:∀h' jU,Heap.SameBut a s.heap h'->kP prog w h' a jU->(∀k,k∈jU↔k∈ks)->jU.length=ks.length->Q () { s with heap:=h' }):wpAny (model prog w) A (setRelay a 20) Q E s:=by
 have fits:=jx (n:=es.size) T (by rw[zK,L.len])
 have em:=zL L
 have hsz:(es.map (·.1)).size=ks.length:=by rw[Array.size_map]; exact L.len
 obtain⟨t',order,e1,LD,m1,_,_⟩:=zu (t:={ t with mask:=31 }) (fi:=t.finger) (mo:=t.movedTo 31) (le:=t.led) (pl:=t.plain) Co (es.map (·.1)) (by rw[hsz]; show ks.length≤31; omega)
 rw[em] at LD
 have hlen:(ks.map (fE prog w)).length=ks.length:=List.length_map _
 have e2:t.relaid (es.map (·.1)) 20=some (t',order):=e1
 unfold setRelay
 refine wpAny_bind (wpAny_setState_of ho hd fits ?_)
 dsimp only
 rw[if_neg (by rw[show sizeAbove 20=32 by decide,sizeLine_eq]; omega),e2]
 have Lj:∀i∈order.toList,∃e,es[i]? = some e:=fun i hi=>by
  have:=LD.lt i hi
  rw[hlen,← L.len] at this
  exact⟨es[i],by simp[this]⟩
 let jU:List (List Int):=order.toList.map fun i=>ks.getD i []
 have ef:(order.filterMap (es[·]?)).toList=order.toList.map fun i=>es.getD i (0,.none):=by
  rw[Array.toList_filterMap]
  have:∀l:List Nat,(∀i∈l,∃e,es[i]? = some e)->l.filterMap (es[·]?)=l.map fun i=>es.getD i (0,.none):=fun l=>by
   induction l with
   | nil=>intro _; rfl
   | cons i l ih =>
    intro hl
    obtain⟨e,he⟩:=hl i (by simp)
    have eL:=(Array.getElem?_eq_some_iff.mp he).1
    rw[List.filterMap_cons,he,zC,ih fun j hj=>hl j (List.mem_cons_of_mem _ hj)]
    have:es.getD i (0,.none)=e:=by
     simp[Array.getD,eL]
     exact(Array.getElem?_eq_some_iff.mp he).2
    rw[this]
  exact this _ Lj
 have Cw:(order.filterMap (es[·]?)).size=es.size:=by
  rw[← Array.length_toList,ef,zK,Array.length_toList,LD.len,hlen,L.len]
 refine wpAny_bind ?_
 show wpAny (model prog w) A (if ((order.filterMap (es[·]?)).size != es.size)=true then _ else _) _ E s
 rw[if_neg (by rw[Cw]; simp)]
 refine wpAny_pure ?_
 dsimp only
 generalize Lk:order.filterMap (es[·]?)=qr at ef Cw
 have vU:qr.size≤sizeLine:=by rw[Cw,L.len,sizeLine_eq]; omega
 refine wpAny_storeSet_of ho hd ?_ vU
 have Cy:=Heap.SameBut.update s.heap a (Obj.putSet qr t')
 have hg:(s.heap.update a (Obj.putSet qr t')).get? a=some { o with data:=.set qr (ep+1) t' }:=by
  have:=Heap.get?_update_self (Obj.putSet qr t') ho (by rw[putSet_of qr t' hd]; rfl)
  rw[putSet_of qr t' hd] at this; exact this
 have ke:∀i∈order.toList,ks[i]? = some (ks.getD i []):=fun i hi=>by
  have:=LD.lt i hi
  rw[hlen] at this
  rw[List.getD_eq_getElem?_getD,List.getElem?_eq_getElem this]
  rfl
 have L2:vo prog w s.heap jU qr:=by
  refine⟨?_,fun r k hr=>?_⟩
  ·rw[← Array.length_toList,ef,zK]
   show _=(order.toList.map fun i=>ks.getD i []).length
   rw[zK]
  ·have hr:(order.toList.map fun i=>ks.getD i [])[r]? = some k:=hr
   rw[zJ] at hr
   obtain⟨i,hi,rfl⟩:=Option.map_eq_some_iff.mp hr
   have F8:=List.mem_of_getElem? hi
   obtain⟨b,e3,e4⟩:=L.el i _ (ke i F8)
   refine⟨b,?_,e4⟩
   have:qr.toList[r]? = some (fE prog w (ks.getD i []),Value.ref b):=by
    rw[ef,zJ,hi]
    have eL:=(Array.getElem?_eq_some_iff.mp e3).1
    have:es.getD i (0,.none)=(fE prog w (ks.getD i []),Value.ref b):=by
     simp[Array.getD,eL]
     have:=(Array.getElem?_eq_some_iff.mp e3).2
     simpa using this
    rw[← this]
    rfl
   simpa using this
 have k6:∀k,k∈jU↔k∈ks:=fun k=>by
  constructor
  ·intro hk
   obtain⟨i,hi,rfl⟩:=List.mem_map.mp hk
   exact List.mem_of_getElem? (ke i hi)
  ·intro hk
   obtain⟨i,hi⟩:=List.mem_iff_getElem?.mp hk
   have eL:=(List.getElem?_eq_some_iff.mp hi).1
   have F8:=LD.all i (by rw[hlen]; exact eL)
   refine List.mem_map.mpr ⟨i,F8,?_⟩
   have:=ke i F8
   rw[hi] at this
   exact(Option.some.inj this).symm
 have FC:jU.length=ks.length:=by
  show(order.toList.map fun i=>ks.getD i []).length=_
  rw[zK,Array.length_toList,LD.len,hlen]
 have T2:uL t' (jU.map (fE prog w)):=by
  have:(order.toList.map fun i=>(ks.map (fE prog w)).getD i 0)=jU.map (fE prog w):=by
   show _=(order.toList.map fun i=>ks.getD i []).map (fE prog w)
   rw[List.map_map]
   refine List.map_congr_left fun i hi=>?_
   have:=ke i hi
   rw[List.getD_eq_getElem?_getD,zJ,this]
   rfl
  rw[← this]
  exact LD.tok
 have Cq:jU.Nodup:=by
  refine List.pairwise_map.mpr (List.Pairwise.imp_of_mem (fun {i j} hi hj Er e=>?_) LD.nd)
  have h1:=ke i hi
  have h2:=ke j hj
  rw[e] at h1
  obtain⟨l1,g1⟩:=List.getElem?_eq_some_iff.mp h1
  obtain⟨l2,g2⟩:=List.getElem?_eq_some_iff.mp h2
  rcases Nat.lt_or_gt_of_ne Er with eL | eL
  ·exact List.pairwise_iff_getElem.mp hn i j l1 l2 eL (g1.trans g2.symm)
  ·exact List.pairwise_iff_getElem.mp hn j i l2 l1 eL (g2.trans g1.symm)
 exact h _ jU Cy ⟨_,qr,ep+1,t',hg,hex,rfl,L2.keep ho hd Cy,T2,Cq,.inr ⟨m1,by rw[FC]; exact hl⟩⟩ k6 FC
end
end St
end
section
namespace St
open PySem PySem.SetTable
section
variable {prog:Program} {w:World} {A:Around} {E:Value->Shared->Prop} {s:Shared}
theorem uQ {α:Type} {l:List α} {x:α} (p:Nat) (hn:l.Nodup) (hx:x∉l):(l.take p++x::l.drop p).Nodup:=by
 rw[← List.take_append_drop p l] at hn hx
 rw[List.nodup_append] at hn ⊢
 rw[List.mem_append,not_or] at hx
 refine⟨hn.1,List.nodup_cons.mpr ⟨hx.2,hn.2.1⟩,fun a ha b hb=>?_⟩
 rcases List.mem_cons.mp hb with rfl | hb
 ·exact fun e=>hx.1 (by rw[← e]; exact ha)
 ·exact hn.2.2 a ha b hb
theorem zM {α:Type} {l:List α} {x y:α} (p:Nat):y∈l.take p++x::l.drop p↔y=x\/y∈l:=by
 rw[List.mem_append,List.mem_cons]
 constructor
 ·rintro(h | h | h)
  ·exact .inr (List.mem_of_mem_take h)
  ·exact .inl h
  ·exact .inr (List.mem_of_mem_drop h)
 ·rintro(h | h)
  ·exact .inr (.inl h)
  ·rw[← List.take_append_drop p l,List.mem_append] at h
   exact h.imp id .inr
theorem zN {α:Type} {l:List α} {x:α} {p:Nat} (hp:p≤l.length):(l.take p++x::l.drop p).length=l.length+1:=by
 simp only[List.length_append,List.length_take,zE,List.length_drop]
 omega
theorem zO {a b:Addr} {ks:List (List Int)} {x:List Int} {Q:Bool->Shared->Prop} (hu:A.units<cLine) (hS:kP prog w s.heap a ks) (hx:IsTupleKey (intKind prog w) s.heap x b) (hn:ks.length≤17)
  (h:∀h' jU r,Heap.SameBut a s.heap h'->kP prog w h' a jU->(∀k,k∈jU↔k=x\/k∈ks)->jU.length=(if x∈ks then ks.length else ks.length+1)->Q r { s with heap:=h' }):wpAny (model prog w) A (setAddHashed a (.ref b) (fE prog w x)) Q E s:=by
 obtain⟨o,es,ep,t,ho,hex,hd,L,T,nd,hm⟩:=hS
 have vn:t.mask=7\/t.mask=31:=hm.imp (·.1) (·.1)
 have fits:=jx (n:=es.size) T (by rw[zK,L.len])
 obtain⟨K,Ju,Ic⟩:=rn T (fE prog w x)
 have Me:K<99999:=by
  rcases vn with e | e<;>rw[e] at Ju<;>unfold turns at Ju<;>omega
 unfold setAddHashed
 refine wpAny_holding ?_
 unfold setAddHashedIn
 refine wpAny_bind (wpAny_setState_of ho hd fits ?_)
 dsimp only
 rw[show byScan (.ref b) es=false from rfl]
 simp only[Bool.false_eq_true,if_false]
 unfold setSearch
 refine wpAny_bind (hY hu ho hd L T vn hx Ic (fun vg=>?_) (fun Cz=>?_) K 100000 0 none (by omega) (by omega) (Nat.zero_le _) rfl (fun k' k6=>by omega))
 ·dsimp only
  refine wpAny_pure ?_
  have e:s={ s with heap:=s.heap }:=by cases s; rfl
  rw[e]
  exact h s.heap ks false (Heap.SameBut.refl a s.heap) ⟨o,es,ep,t,ho,hex,hd,L,T,nd,hm⟩ (fun k=>⟨.inr,fun hk=>hk.elim (fun e=>e ▸ vg) id⟩) (by rw[if_pos vg])
 ·dsimp only
  refine wpAny_bind (wpAny_setState_of ho hd fits ?_)
  dsimp only
  have hle:=rh K _ (pP t (fE prog w x))
  have EX:t.place.size<t.mask:=by
   have h1:=T.len
   rw[zK] at h1
   rcases hm with⟨e1,e2⟩ | ⟨e1,e2⟩<;>omega
  have T2:=T.put Ic.1 Ic.2 hle EX
  generalize (bw t.advance K (t.probeStart (fE prog w x))).j=j at T2
  have pT:(t.put j).1.mask=t.mask:=rfl
  have hp:(t.put j).2≤ks.length:=by
   have:(t.put j).2≤t.place.size:=(iW (j:=j) T.asc).2.2
   rw[T.len,zK] at this
   exact this
  generalize EU:t.put j=pr at T2 pT hp
  obtain⟨t1,p⟩:=pr
  dsimp only at T2 pT hp ⊢
  rw[← List.map_take,← List.map_drop,← List.map_cons (f:=fE prog w),← List.map_append] at T2
  have L2:=zy L hx hp
  have Cq:=uQ p nd Cz
  have ml:=fun k=>zM (l:=ks) (x:=x) (y:=k) p
  have ll:=zN (l:=ks) (x:=x) hp
  generalize ks.take p++x::ks.drop p=Ll at T2 L2 Cq ml ll
  generalize insertAt es p (fE prog w x,Value.ref b)=vi at L2
  have EY:({ o with data:=.set vi (ep+1) t1 }:Obj).ExactSet:=hex
  have tail:wpAny (model prog w) A (do
    storeSet a vi t1
    if t1.tooFull=true then do
     setRelay a (grown (es.size+1))
     pure true
    else pure true) Q E s:=by
   have hz:vi.size≤sizeLine:=by rw[L2.len,ll,sizeLine_eq]; omega
   refine wpAny_bind (wpAny_storeSet_of ho hd ?_ hz)
   have Cy:=Heap.SameBut.update s.heap a (Obj.putSet vi t1)
   have hg:(s.heap.update a (Obj.putSet vi t1)).get? a=some { o with data:=.set vi (ep+1) t1 }:=by
    have:=Heap.get?_update_self (Obj.putSet vi t1) ho (by rw[putSet_of vi t1 hd]; rfl)
    rw[putSet_of vi t1 hd] at this; exact this
   have L3:=L2.keep ho hd Cy
   generalize s.heap.update a (Obj.putSet vi t1)=h1 at Cy hg L3
   have AF:t1.fill=ks.length+1:=by
    unfold fill
    have:=T2.len
    rw[zK] at this
    rw[T2.dm,this,ll]
    rfl
   have xZ:=L.len
   by_cases vp:t1.tooFull=true
   ·rw[if_pos vp]
    unfold tooFull at vp
    have vp:=of_decide_eq_true vp
    rw[AF,pT] at vp
    have e7:t.mask=7/\es.size=4:=by
     rcases hm with⟨e1,e2⟩ | ⟨e1,e2⟩
     ·exact⟨e1,by rw[e1] at vp; omega⟩
     ·rw[e1] at vp; omega
    rw[e7.2,show grown (4+1)=20 from rfl]
    refine wpAny_bind (xi (s:={ s with heap:=h1 }) hg EY rfl L3 T2 Cq (by rw[ll]; omega) fun h2 Ie HQ S2 m2 l2=>?_)
    refine wpAny_pure ?_
    exact h h2 Ie true (Cy.trans HQ) S2 (fun k=>(m2 k).trans (ml k)) (by rw[l2,ll,if_neg Cz])
   ·rw[if_neg vp]
    refine wpAny_pure (h h1 Ll true Cy ⟨_,vi,ep+1,t1,hg,EY,rfl,L3,T2,Cq,?_⟩ ml (by rw[ll,if_neg Cz]))
    have vp:¬(t1.fill*5 ≥ t1.mask*3):=fun e=>vp (decide_eq_true e)
    rw[AF,pT] at vp
    rw[pT,ll]
    rcases hm with⟨e1,e2⟩ | ⟨e1,e2⟩
    ·exact .inl ⟨e1,by rw[e1] at vp; omega⟩
    ·exact .inr ⟨e1,by omega⟩
  split
  ·refine wpAny_bind (Cv hx ?_)
   simp only[if_true,Bool.not_false,Bool.true_and]
   exact tail
  ·refine wpAny_bind (wpAny_pure ?_)
   simp only[if_true,Bool.not_false,Bool.true_and]
   exact tail
theorem CA {a b:Addr} {ks:List (List Int)} {x:List Int} {Q:Bool->Shared->Prop} (hu:A.units<cLine) (hS:kP prog w s.heap a ks) (hx:IsTupleKey (intKind prog w) s.heap x b) (hn:ks.length≤17)
  (h:∀h' jU r tk,Heap.SameBut a s.heap h'->kP prog w h' a jU->(∀k,k∈jU↔k=x\/k∈ks)->jU.length=(if x∈ks then ks.length else ks.length+1)->s.toks≤tk->Q r { s with heap:=h',toks:=tk }):wpAny (model prog w) A (setAdd a (.ref b)) Q E s:=by
 unfold setAdd
 refine wpAny_holding ?_
 refine wpAny_bind (wpAny_pyHash_tuple hu hx ?_)
 exact zO (s:={ s with toks:=s.toks+(x.length+1) }) hu hS hx hn fun h' jU r h1 h2 h3 h4=>h h' jU r _ h1 h2 h3 h4 (Nat.le_add_right _ _)
end
end St
end
section
namespace St
open PySem PySem.SetTable PyProof.Rows
section
variable {prog:Program} {w:World} {A:Around} {R:Result->Shared->Prop} {I:Addr} {fp wr:List Addr} {G:Array GenState->Array GenState->Prop} {n:Nat} {P:Nat->Value->Prop} {Sx:Nat->Shared->Prop}
noncomputable def sZ (wr:List Addr) (h:Heap):Prop:=∀c∈wr,∀o,h.get? c=some o->o.cls≠.type "tuple"
theorem xj {s s':Shared} {k:List Int} {b:Addr} (hm:Moved wr G s s') (hw:sZ wr s.heap) (x:IsTupleKey (intKind prog w) s.heap k b):IsTupleKey (intKind prog w) s'.heap k b:=by
 obtain⟨o,items,m,ho,hc,hd,hi⟩:=x
 exact⟨o,items,m,hm.heap b o (fun hb=>hw b hb o ho hc) ho,hc,hd,hi⟩
theorem xk {s s':Shared} {ks:List (List Int)} {S:Addr} (hm:Moved wr G s s') (hw:sZ wr s.heap) (hS:S∉wr) (x:kP prog w s.heap S ks):kP prog w s'.heap S ks:=by
 obtain⟨o,es,ep,t,ho,hex,hd,L,T,nd,hk⟩:=x
 exact⟨o,es,ep,t,hm.heap S o hS ho,hex,hd,⟨L.len,fun i k hi=>by obtain⟨b,e1,e2⟩:=L.el i k hi; exact⟨b,e1,xj hm hw e2⟩⟩,T,nd,hk⟩
theorem mI {α:Type} {l:List α} {i:Nat} {x y:α} (h:l[i]? = some x):y∈l.take (i+1)↔y=x\/y∈l.take i:=by
 rw[List.take_succ,h,List.mem_append]
 simp
 exact Or.comm
theorem xl (W:WalksS prog w A.in1 I fp wr G n P Sx) (S:Addr) (Jv:S∉fp) (hu:A.in1.units<cLine) {ts:List (List Int)} (hn:n=ts.length) (EZ:n≤17) (F9:∀i s,Sx i s->sZ wr s.heap) :
  ∀(m i:Nat) (s:Shared) (ks:List (List Int)),n-i=m->i≤n->Sx i s->kP prog w s.heap S ks->(∀i v,P i v->∃b k,v=.ref b/\ts[i]? = some k/\IsTupleKey (intKind prog w) s.heap k b)->(∀k,k∈ks↔k∈ts.take i)->ks.length≤i →
   (∀s' jU,Moved (S::wr) G s s'->kP prog w s'.heap S jU->(∀k,k∈jU↔k∈ts)->R (.ok (.ret .none)) s')->codeAny (model prog w) A (.builtin "set.update.loop" ⟨[.ref S,.ref I],[]⟩) R s:=by
 have Jw:S∉wr:=fun e=>Jv (W.sub _ e)
 have sub:∀b∈wr,b∈S::wr:=fun b e=>List.mem_cons_of_mem _ e
 intro m
 induction m with
 | zero =>
  intro i s ks e0 hi st hS hP hk hl hR
  have ei:i=n:=by omega
  subst ei
  refine codeAny_builtin PyProof.Rows.F.entry_set_update_loop ?_
  rw[Around.under_plainId PyProof.Rows.F.plain_set_update_loop _]
  show wpAny _ A.in1 (pyNext (.ref I) >>= _) _ _ s
  refine wpAny_bind (W.done s _ _ st fun s' hm=>?_)
  show wpAny _ A.in1 (ret Value.none) _ _ s'
  refine wpAny_pure (hR s' ks ⟨fun b o hb e=>hm.heap b o (fun h=>hb (sub b h)) e,hm.gens,hm.drawn,hm.os,hm.toks⟩ (xk hm (F9 _ _ st) Jw hS) fun k=>?_)
  rw[hk,hn,List.take_length]
 | succ m ih =>
  intro i s ks e0 hi st hS hP hk hl hR
  have eL:i<n:=by omega
  refine codeAny_builtin PyProof.Rows.F.entry_set_update_loop ?_
  rw[Around.under_plainId PyProof.Rows.F.plain_set_update_loop _]
  show wpAny _ A.in1 (pyNext (.ref I) >>= _) _ _ s
  refine wpAny_bind (W.item i s _ _ eL st fun v s1 hv FQ hm=>?_)
  obtain⟨b,x,rfl,hx,hb⟩:=hP i v hv
  have hw:=F9 _ _ st
  have Jx:=xk hm hw Jw hS
  have AE:=xj hm hw hb
  show wpAny _ A.in1 (holding [Value.ref b] (setAdd S (.ref b)) >>= _) _ _ s1
  refine wpAny_bind (wpAny_holding (CA hu Jx AE (by omega) fun h' jU r tk sb S2 m2 l2 G4=>?_))
  have Lm:∀i v,P i v->∃b k,v=.ref b/\ts[i]? = some k/\IsTupleKey (intKind prog w) h' k b:=fun i v hv=>by
   obtain⟨b',k',q1,q2,q3⟩:=hP i v hv
   obtain⟨o,es,ep,t,ho,_,hd,_⟩:=Jx
   exact⟨b',k',q1,q2,sY (xj hm hw q3) ho hd sb⟩
  have Ln:Moved (S::wr) G s { s1 with heap:=h',toks:=tk }:=⟨fun c o hc e=>by
    have Lo:c≠S:=fun e=>hc (by rw[e]; simp)
    have:=hm.heap c o (fun h=>hc (sub c h)) e
    rw[← sb.2 c Lo] at this
    exact this,hm.gens,hm.drawn,hm.os,Nat.le_trans hm.toks G4⟩
  refine wpAny_pure ⟨plainId_quiet PyProof.Rows.F.plain_set_update_loop _,ih (i+1) { s1 with heap:=h',toks:=tk } jU (by omega) eL (W.frame _ s1 _ _ FQ G4 fun c hc o e=>?_) S2 Lm (fun k=>?_) ?_ fun s2 Ie Lp S3 m3=>?_⟩
  ·rw[sb.2 c (fun h=>Jv (by rw[← h]; exact hc))]; exact e
  ·rw[m2,hk,mI hx]
  ·rw[l2]; split<;>omega
  ·exact hR s2 Ie (Moved.trans W.gtrans Ln Lp) S3 m3
end
end St
end
section
namespace St
open PySem PySem.SetTable PyProof.Rows
section
variable {prog:Program} {w:World} {A:Around} {E:Value->Shared->Prop} {s:Shared}
noncomputable abbrev eQ (led:Bool):Obj:={ cls:=.type "set",dict:=none,data:=.set #[] 0 (.fresh 0 0 led) }
theorem zP {h:Heap} {a:Addr} {led:Bool} (hg:h.get? a=some (eQ led)):kP prog w h a []:=by
 refine⟨_,#[],0,.fresh 0 0 led,hg,⟨rfl,rfl,rfl⟩,rfl,⟨rfl,fun i k hi=>by simp at hi⟩,⟨rfl,List.Pairwise.nil,fun j hj=>by simp[SetTable.fresh] at hj,rfl,EN,by show(#[]:Array Nat).size≤7; simp,fun i h hi=>by simp at hi⟩,List.nodup_nil,.inl ⟨rfl,by simp⟩⟩
theorem j5 {l:Addr} {items:Array Value} {ts:List (List Int)} {Q:Value->Shared->Prop} (hh:A.handled=none) (hu:A.units+64<cLine) (hl:s.heap.IsList l items) (hn:items.size=ts.length) (EZ:ts.length≤17)
  (hi:∀(i:Nat) (v:Value),items[i]? = some v->∃b k,v=.ref b/\ts[i]? = some k/\IsTupleKey (intKind prog w) s.heap k b)
  (h:∀(h':Heap) (tk:Nat) (ks:List (List Int)),kP prog w h' s.heap.objs.size ks->(∀k,k∈ks↔k∈ts)->(∀b o,b<s.heap.objs.size->s.heap.get? b=some o->h'.get? b=some o)->Q (.ref s.heap.objs.size) { s with heap:=h',toks:=tk }) :
  wpAny (model prog w) A (call (.type "set") [.ref l]) Q E s:=by
 obtain⟨c,tl,q1⟩:=PySem.F.called_set.mro
 have q2:=PySem.F.called_set.made
 have q3:=PySem.F.called_set.sub
 refine wpAny_call (codeAny_of_tree ?_)
 show wpAny _ _ (callAny (.type "set") _) _ _ _
 refine wpAny_pure ⟨Code.quiet_builtin _ (by decide +kernel),codeAny_builtin PySem.F.entry_type_call ?_⟩
 rw[Around.under_plain (weight_type_call_type "set" [.ref l] []) rfl]
 have q4:=PySem.F.called_set.notType
 have q5:=PySem.F.called_set.canCreate
 have q6:=PySem.F.typeCall_set_1 (.ref l)
 repeat (any_goals (first | assumption | wp_step))
 refine codeAny_mono (code_set_new_1 (.ref l) (E:=E) (Q₁:=fun ob s₁=>∃led:Bool,ob=.ref s.heap.objs.size/\s₁={ s with heap:=s.heap.push (eQ led) }) fun led=>⟨led,rfl,rfl⟩) fun r s₁ hr=>?_
 cases r with
 | error e=>exact hr
 | ok fl =>
  cases fl with
  | ret ob =>
   obtain⟨led,rfl,rfl⟩:=hr
   have g1:(s.heap.push (eQ led)).get? s.heap.objs.size=some (eQ led):=Heap.get?_push_size _ rfl
   have gT:Shared.TypeIs { s with heap:=s.heap.push (eQ led) } (.ref s.heap.objs.size) "set" := ⟨_,g1,rfl⟩
   have q7:=PySem.F.called_set.init.lookup
   have q8:=PySem.F.called_set.init.bind (.ref s.heap.objs.size)
   repeat (any_goals (first | assumption | wp_step))
   refine codeAny_mono (codeAny_call_builtin (R:=wants (fun r s₂=>r=.none/\∃h' tk ks,s₂={ s with heap:=h',toks:=tk }/\kP prog w h' s.heap.objs.size ks/\(∀k,k∈ks↔k∈ts)/\(∀b o,b<s.heap.objs.size->s.heap.get? b=some o->h'.get? b=some o)) E) PySem.F.called_set.init.plain PySem.F.entry_set_init (check_set_init_1 gT ?_)) fun r₂ s₂ CB=>?_
   ·obtain⟨ol,p1,p2,nl,p3⟩:=hl
    obtain⟨Ig,xm,E0,rz⟩:=ol
    simp only at p2 p3
    subst p2; subst p3
    have p4:(s.heap.push (eQ led)).get? l=some { cls:=.type "list",dict:=xm,data:=.seq items nl,slots:=rz }:=Heap.get?_push_of_some _ p1
    have p5:=PySem.F.sub_list_set
    have p6:=PySem.F.sub_list_frozenset
    have p7:(Value.type "list" == Value.type "dict")=false:=by decide
    have p8:(s.heap.push (eQ led)).IsList l items:=⟨_,p4,rfl,nl,rfl⟩
    unfold Builtin.«set.__init__» noKeywords Builtin.Frozenset.updateFrom
    generalize Ih:pyIter=PI
    wp_walk
    subst Ih
    refine wpAny_pyIter_list p8 ?_
    refine wpAny_bind (wpAny_runValue ?_)
    have xZ:l<s.heap.objs.size:=Heap.lt_size p1
    have Ii:A.in1.in1.in1.handled=none:=by simp[hh]
    have r1:l≠(s.heap.push (eQ led)).objs.size:=by rw[Heap.size_push]; exact Nat.ne_of_lt (Nat.lt_succ_of_lt xZ)
    have r2:s.heap.objs.size∉[(s.heap.push (eQ led)).objs.size,l]:=by
     rw[Heap.size_push]
     simp only[List.mem_cons,List.not_mem_nil,or_false,not_or]
     exact⟨Nat.ne_of_lt (Nat.lt_succ_self _),Nat.ne_of_gt xZ⟩
    have Lq:A.in1.in1.in1.units<cLine:=by
     simp
     omega
    have cl:∀(i:Nat) (h:Heap),h.IsListIter (s.heap.push (eQ led)).objs.size l i/\h.IsList l items->sZ [(s.heap.push (eQ led)).objs.size] h:=fun i h st c hc o ho e=>by
     obtain⟨o',u1,u2,_⟩:=st.1
     rw[List.mem_singleton.mp hc,u1] at ho
     rw[← Option.some.inj ho,u2] at e
     exact absurd e (by decide)
    have gS:((s.heap.push (eQ led)).push { cls:=.type "list_iterator",data:=.fields #[.ref l,.int 0 0] }).get? s.heap.objs.size=some (eQ led):=Heap.get?_push_of_some _ g1
    refine xl ((Walks.list Ii _ l r1 items).toS) s.heap.objs.size r2 Lq hn (by omega) (fun i s st=>cl i _ st) (items.size-0) 0 _ [] rfl (Nat.zero_le _) ⟨⟨_,Heap.get?_push_size _ rfl,rfl,rfl⟩,p8.push _⟩ (zP gS) (fun i v hv=>?_) (fun k=>by simp) (Nat.le_refl _) fun s' ks hm S2 m2=>?_
    ·obtain⟨b,k,z1,z2,o,aD,m,z3,z4⟩:=hi i v hv
     exact⟨b,k,z1,z2,o,aD,m,Heap.get?_push_of_some _ (Heap.get?_push_of_some _ z3),z4⟩
    ·obtain⟨h',g',d',Ij,DY⟩:=s'
     have z1:g'=s.gens:=hm.gens
     have z2:d'=s.drawn:=hm.drawn
     have z3:DY=s.os:=hm.os
     subst z1; subst z2; subst z3
     show wpAny _ _ _ _ _ _
     refine wpAny_pure ?_
     show wpAny _ _ (ret Value.none) _ _ _
     refine wpAny_pure ⟨rfl,h',Ij,ks,rfl,S2,m2,fun b o hb e=>?_⟩
     refine hm.heap b o ?_ (Heap.get?_push_of_some _ (Heap.get?_push_of_some _ e))
     have:=Heap.size_push s.heap (eQ led)
     simp only[List.mem_cons,List.not_mem_nil,or_false,not_or]
     exact⟨Nat.ne_of_lt hb,Nat.ne_of_lt (by rw[this]; exact Nat.lt_succ_of_lt hb)⟩
   ·cases r₂ with
    | error e=>exact CB
    | ok Ik =>
     cases Ik with
     | ret r =>
      obtain⟨rfl,h',tk,ks,rfl,u1,u2,u3⟩:=CB
      repeat (any_goals (first | assumption | wp_step))
      exact h _ _ ks u1 u2 u3
     | _=>exact CB.elim
  | _=>exact hr.elim
end
end St
end
section
namespace St
open PySem PySem.SetTable PyProof.Rows
section
variable {prog:Program} {w:World} {A:Around} {E:Value->Shared->Prop} {s:Shared}
theorem uR {l:Addr} {items:Array Value} {ns:List Int} {Q:Value->Shared->Prop} (hh:A.handled=none) (hu:A.units+64<cLine) (hl:s.heap.IsTuple l items) (hi:IntsAre items.toList ns) (hb:items.size+1<scanBound)
  (h:∀(h':Heap) (tk:Nat) (_:Unit),h'.SetOf (intKind prog w) s.heap.objs.size (fun k'=>(firstMet (fun i=>ns.getD i 0) items.size).any (· == k')) (firstMet (fun i=>ns.getD i 0) items.size).length->(∀b o,b<s.heap.objs.size->s.heap.get? b=some o->h'.get? b=some o)->Q (.ref s.heap.objs.size) { s with heap:=h',toks:=tk }) :
  wpAny (model prog w) A (call (.type "set") [.ref l]) Q E s:=by
 obtain⟨c,tl,q1⟩:=PySem.F.called_set.mro
 have q2:=PySem.F.called_set.made
 have q3:=PySem.F.called_set.sub
 refine wpAny_call (codeAny_of_tree ?_)
 show wpAny _ _ (callAny (.type "set") _) _ _ _
 refine wpAny_pure ⟨Code.quiet_builtin _ (by decide +kernel),codeAny_builtin PySem.F.entry_type_call ?_⟩
 rw[Around.under_plain (weight_type_call_type "set" [.ref l] []) rfl]
 have q4:=PySem.F.called_set.notType
 have q5:=PySem.F.called_set.canCreate
 have q6:=PySem.F.typeCall_set_1 (.ref l)
 repeat (any_goals (first | assumption | wp_step))
 refine codeAny_mono (code_set_new_1 (.ref l) (E:=E) (Q₁:=fun ob s₁=>∃led:Bool,ob=.ref s.heap.objs.size/\s₁={ s with heap:=s.heap.push (eQ led) }) fun led=>⟨led,rfl,rfl⟩) fun r s₁ hr=>?_
 cases r with
 | error e=>exact hr
 | ok fl =>
  cases fl with
  | ret ob =>
   obtain⟨led,rfl,rfl⟩:=hr
   have g1:(s.heap.push (eQ led)).get? s.heap.objs.size=some (eQ led):=Heap.get?_push_size _ rfl
   have gT:Shared.TypeIs { s with heap:=s.heap.push (eQ led) } (.ref s.heap.objs.size) "set" := ⟨_,g1,rfl⟩
   have q7:=PySem.F.called_set.init.lookup
   have q8:=PySem.F.called_set.init.bind (.ref s.heap.objs.size)
   repeat (any_goals (first | assumption | wp_step))
   refine codeAny_mono (codeAny_call_builtin (R:=wants (fun r s₂=>r=.none/\∃h' tk,s₂={ s with heap:=h',toks:=tk }/\h'.SetOf (intKind prog w) s.heap.objs.size (fun k'=>(firstMet (fun i=>ns.getD i 0) items.size).any (· == k')) (firstMet (fun i=>ns.getD i 0) items.size).length/\(∀b o,b<s.heap.objs.size->s.heap.get? b=some o->h'.get? b=some o)) E) PySem.F.called_set.init.plain PySem.F.entry_set_init (check_set_init_1 gT ?_)) fun r₂ s₂ CB=>?_
   ·obtain⟨ol,p1,p2,nl,p3⟩:=hl
    obtain⟨Ig,xm,E0,rz⟩:=ol
    simp only at p2 p3
    subst p2; subst p3
    have p4:(s.heap.push (eQ led)).get? l=some { cls:=.type "tuple",dict:=xm,data:=.seq items nl,slots:=rz }:=Heap.get?_push_of_some _ p1
    have p5:=PySem.F.sub_tuple_set
    have p6:=PySem.F.sub_tuple_frozenset
    have p7:(Value.type "tuple" == Value.type "dict")=false:=by decide
    have p8:(s.heap.push (eQ led)).IsTuple l items:=⟨_,p4,rfl,nl,rfl⟩
    unfold Builtin.«set.__init__» noKeywords Builtin.Frozenset.updateFrom
    generalize Ih:pyIter=PI
    wp_walk
    subst Ih
    refine wpAny_pyIter_tuple p8 ?_
    refine wpAny_bind (wpAny_runValue ?_)
    have xZ:l<s.heap.objs.size:=Heap.lt_size p1
    have Ii:A.in1.in1.in1.handled=none:=by simp[hh]
    have r1:l≠(s.heap.push (eQ led)).objs.size:=by rw[Heap.size_push]; exact Nat.ne_of_lt (Nat.lt_succ_of_lt xZ)
    have r2:s.heap.objs.size∉[(s.heap.push (eQ led)).objs.size,l]:=by
     rw[Heap.size_push]
     simp only[List.mem_cons,List.not_mem_nil,or_false,not_or]
     exact⟨Nat.ne_of_lt (Nat.lt_succ_self _),Nat.ne_of_gt xZ⟩
    have gS:((s.heap.push (eQ led)).push { cls:=.type "tuple_iterator",data:=.fields #[.ref l,.int 0 0] }).get? s.heap.objs.size=some (eQ led):=Heap.get?_push_of_some _ g1
    have Il:∀(i:Nat) (v:Value),items[i]? = some v->∃t,v=.int ((fun i=>ns.getD i 0) i) t:=fun i v hv=>IntsAre.int_at hi i v (by rw[Array.getElem?_toList]; exact hv)
    refine codeAny_set_update_loopS ((Walks.tuple Ii _ l r1 items).toS) s.heap.objs.size r2 (fun i=>ns.getD i 0) Il hb (items.size-0) 0 _ rfl (Nat.zero_le _) ⟨⟨_,Heap.get?_push_size _ rfl,rfl,rfl⟩,p8.push _⟩ ?_ fun s' hm S2=>?_
    ·exact SetOf_congr ((setObjOf_fresh (knd:=intKind prog w) led).setOf gS (by unfold scanBound; omega)) (fun _=>rfl) rfl
    ·obtain⟨h',g',d',Ij,DY⟩:=s'
     have z1:g'=s.gens:=hm.gens
     have z2:d'=s.drawn:=hm.drawn
     have z3:DY=s.os:=hm.os
     subst z1; subst z2; subst z3
     show wpAny _ _ _ _ _ _
     refine wpAny_pure ?_
     show wpAny _ _ (ret Value.none) _ _ _
     refine wpAny_pure ⟨rfl,h',Ij,rfl,S2,fun b o hb e=>?_⟩
     refine hm.heap b o ?_ (Heap.get?_push_of_some _ (Heap.get?_push_of_some _ e))
     have:=Heap.size_push s.heap (eQ led)
     simp only[List.mem_cons,List.not_mem_nil,or_false,not_or]
     exact⟨Nat.ne_of_lt hb,Nat.ne_of_lt (by rw[this]; exact Nat.lt_succ_of_lt hb)⟩
   ·cases r₂ with
    | error e=>exact CB
    | ok Ik =>
     cases Ik with
     | ret r =>
      obtain⟨rfl,h',tk,rfl,u1,u3⟩:=CB
      repeat (any_goals (first | assumption | wp_step))
      exact h _ _ () u1 u3
     | _=>exact CB.elim
  | _=>exact hr.elim
end
end St
end
section
namespace L2
open PySem PyProof.Rows
noncomputable def eC:List (List Int)->List (List Int)
 | []=>[]
 | x::l=>if x∈l then eC l else x::eC l
theorem hZ:∀(l:List (List Int)) (y:List Int),y∈eC l↔y∈l
 | [],y=>Iff.rfl
 | x::l,y=>by
  unfold eC
  split
  ·rename_i h
   rw[hZ l,List.mem_cons]
   exact⟨.inr,fun h'=>h'.elim (fun e=>e ▸ h) id⟩
  ·rw[List.mem_cons,List.mem_cons,hZ l]
theorem oj:∀l:List (List Int),(eC l).Nodup
 | []=>List.nodup_nil
 | x::l=>by
  unfold eC
  split
  ·exact oj l
  ·rename_i h
   exact List.nodup_cons.mpr ⟨fun e=>h ((hZ l x).mp e),oj l⟩
theorem lV:∀(l m:List (List Int)),l.Nodup->(∀x∈l,x∈m)->l.length≤m.length
 | [],m,_,_=>Nat.zero_le _
 | x::l,m,hn,h=>by
  rw[List.nodup_cons] at hn
  have hx:=h x (by simp)
  have:=lV l (m.erase x) hn.2 fun y hy=>(List.mem_erase_of_ne (fun e=>hn.1 (by rw[← e]; exact hy))).mpr (h y (List.mem_cons_of_mem _ hy))
  rw[List.length_erase_of_mem hx] at this
  have:=List.length_pos_of_mem hx
  rw[zE]
  omega
theorem xn {l ks:List (List Int)} (hn:ks.Nodup) (h:∀k,k∈ks↔k∈l):ks.length=(eC l).length :=
 Nat.le_antisymm (lV _ _ hn fun x hx=>(hZ l x).mpr ((h x).mp hx)) (lV _ _ (oj l) fun x hx=>(h x).mpr ((hZ l x).mp hx))
noncomputable def rA (q:Addr) (n:Nat) (h:Heap):Prop:=∃o es ep t,h.get? q=some o/\o.ExactSet/\o.data=.set es ep t/\t.fits es.size=true/\es.size=n/\n≤20
section
variable {X:Cx} {Ex:St->XK} {a:Expr} {da:DE} {pos:Pos}
theorem zQ {P:Program} {w:World} {H:Hp} {h:Heap} {q:Addr} {n:Nat} (x:rA q n h):bG P w H h q (.ext (rA q n)):=by
 obtain⟨o,es,ep,t,ho,r⟩:=x
 exact⟨⟨o,es,ep,t,ho,r⟩,⟨o,ho⟩,fun h1 h2 ⟨o',qr,Dp,t',mS,r'⟩ k=>⟨o',qr,Dp,t',k o' mS,r'⟩⟩
theorem xp:bH X (.builtin "len") (fun xs H Q=>∃p n,xs=[V.ref p]/\H p=some (.ext (rA p n))/\Q (.int n) H):=by
 intro pins s σ H xs us Q I r h
 obtain⟨p,n,rfl,hp,q⟩:=h
 obtain⟨u,rfl,ru⟩:=vals1 r
 cases ru
 obtain⟨⟨o,es,ep,t,ho,hex,hd,hf,hn,Jy⟩,_⟩:=(show bG X.prog X.w H s.heap p (.ext (rA p n)) from I.aX p _ hp)
 subst hn
 exact PySem.call_len_set ho hex hd hf (by omega) ⟨.int es.size,H,I.tok _,⟨_,rfl⟩,q⟩
theorem pU {P:Program} {w:World}:∀{k:List Int} {aD:List Value},Vals (k.map V.int) aD->ItemsAre (intKind P w) k aD
 | [],_,r=>by cases r; exact .nil
 | i::k,_,r=>by
  cases r with
  | cons h t =>
   obtain⟨u,rfl⟩:=h
   exact .cons (by simp[intKind,Value.isInt]) (pU t)
theorem zR {pins σ H s} (I:Inv X pins σ H s) {b:Addr} {k:List Int} (h:H b=some (.tup (k.map V.int))):IsTupleKey (intKind X.prog X.w) s.heap k b:=by
 obtain⟨_,aD,rv,o,ho,hc,n,hd⟩:=(show bG X.prog X.w H s.heap b (.tup (k.map V.int)) from I.aX b _ h)
 exact⟨o,aD.toArray,n,ho,hc,hd,by simpa using pU rv⟩
theorem uS (hc:X.calm=true) (hu:X.A.units+64<cLine):bH X (.type "set") (fun xs H Q=>∃(p:Addr) (qs:List Addr) (ts:List (List Int)),xs=[V.ref p]/\iq X.K H p (qs.map V.ref)/\qs.length=ts.length/\(∀(i:Nat) b k,qs[i]? = some b->ts[i]? = some k->H b=some (.tup (k.map V.int)))/\ts.length≤17/\∀q,H q=none->Q (.ref q) (upd H q (.ext (rA q (eC ts).length)))):=by
 intro pins s σ H xs us Q I r h
 obtain⟨p,qs,ts,rfl,hq,hl,ht,EZ,q⟩:=h
 obtain⟨u,rfl,ru⟩:=vals1 r
 cases ru
 obtain⟨aD,rv,pl,hz⟩:=I.list hq
 have hlen:=rv.length
 rw[zK] at hlen
 refine St.j5 (items:=aD.toArray) (ts:=ts) (I.ok.hd hc) hu pl.isList (by simp; omega) EZ (fun i v hv=>?_) fun h' tk ks hS hm hk=>?_
 ·have hv:aD[i]? = some v:=by simpa using hv
  have eL:i<qs.length:=by rw[hlen]; exact(List.getElem?_eq_some_iff.mp hv).1
  have e1:=List.getElem?_eq_getElem eL
  obtain⟨u,e2,e3⟩:=rv.get (i:=i) (x:=.ref qs[i]) (by rw[zJ,e1]; rfl)
  rw[hv] at e2
  cases e2
  have Ct:i<ts.length:=by omega
  have e4:=List.getElem?_eq_getElem Ct
  exact⟨qs[i],ts[i],e3,e4,zR I (ht i _ _ e1 e4)⟩
 ·obtain⟨o,es,ep,t,ho,hex,hd,L,T,nd,Lr⟩:=hS
  have hn:=xn nd hm
  have Jy:ks.length≤20:=by rcases Lr with⟨_,h⟩ | ⟨_,h⟩<;>omega
  have fits:=St.jx (n:=es.size) T (by rw[zK,L.len])
  have hN:rA s.heap.objs.size (eC ts).length h':=⟨o,es,ep,t,ho,hex,hd,fits,by rw[L.len,hn],by rw[← hn]; exact Jy⟩
  exact⟨.ref s.heap.objs.size,_,I.laid (t':=tk) (fun b o e=>hk b o (Heap.lt_size e) e) (Nat.le_refl _) (zQ hN),rfl,q _ (I.aX.fresh (Nat.le_refl _))⟩
end
end L2
end
section
namespace L2
open PySem PyProof.Rows
noncomputable def tupI:PV->Option (List Int)
 | .tup xs=>iO xs
 | _=>none
noncomputable def nw:List PV->Option (List (List Int))
 | []=>some []
 | x::xs=>(tupI x).bind fun k=>(nw xs).map (k::·)
theorem pV {K:Fg} {ι:List Addr} {S H:Hp} {M:aC} (aq:aI K ι S M H):∀{xs:List PV} {vs:List V} {ts:List (List Int)},au K ι S xs vs->nw xs=some ts->∃qs:List Addr,vs=qs.map V.ref/\qs.length=ts.length/\∀(i:Nat) b k,qs[i]? = some b->ts[i]? = some k->H b=some (.tup (k.map V.int))
 | [],vs,ts,r,e=>by
  rw[au] at r
  subst r
  cases e
  exact⟨[],rfl,rfl,fun i b k h=>by simp at h⟩
 | x::xs,vs,ts,r,e=>by
  rw[au] at r
  obtain⟨v,Ja,rfl,r1,r2⟩:=r
  obtain⟨k,e1,e2⟩:=Option.bind_eq_some_iff.mp e
  obtain⟨Mf,e3,rfl⟩:=Option.map_eq_some_iff.mp e2
  obtain⟨qs,rfl,hl,hq⟩:=pV aq r2 e3
  cases x with
  | tup ys =>
   obtain⟨b,us,rfl,hb,hr⟩:=ar.bA.mp r1
   have e4:us=k.map V.int:=lN hr e1
   refine⟨b::qs,rfl,by simp[hl],fun i b' k' h1 h2=>?_⟩
   cases i with
   | zero =>
    simp only[zA,Option.some.injEq] at h1 h2
    subst h1 h2
    rw[← e4]
    exact aq.sub _ _ hb
   | succ i=>exact hq i b' k' (by simpa using h1) (by simpa using h2)
  | _=>cases e1
section
variable {X:Cx} {Ex:St->XK} {a:Expr} {da:DE} {pos:Pos}
noncomputable def ia (d:DE):DE:=fun ρ M=>(d ρ M).bind fun x M1=>match (cJ M1 x).bind nw with
 | some ts=>if ts.length≤17 then .ok (.int (eC ts).length) M1 else .bad
 | none=>.bad
theorem rB {p q pos':Pos} (hc:X.calm=true) (hu:X.A.units+64<cLine) (ha:VE X Ex a da) (sU:X.mg "len" = none) (vn:X.mg "set" = none) (w5:Gl X "len" := by rfl) (Cj:Gl X "set" := by rfl)
  (he:starEach [a] X.env=(false,eval a X.env)::starEach [] X.env:=by rfl) (gX:(backTo pos' (starEach [] X.env)).any (·.1)=false:=by rfl) (CC:(backTo pos (starEach [] X.env)).any (·.1)=false:=by rfl) :
  VE X Ex (.Call (.Name "len" p) [.Call (.Name "set" q) [a] [] pos'] [] pos) (ia da):=⟨by
 have A1:PA X [a] (ko (tG X.K (cT X.K) Ex da) uc):=cW ha.out fN he
 have A2:=jL (p:=q) (pos:=pos') (uS hc hu) Cj vn (by decide +kernel:bootBuiltins "set" = some (.type "set")) A1 (by decide) (by decide) he gX
 refine PE.imp (gY xp w5 sU (by decide +kernel) (cW A2 fN rfl) (by decide) (by decide) rfl CC) fun σ H Q h=>?_
 obtain⟨ι,S,M,ρ,aq,sl,w⟩:=h
 refine⟨ι,S,M,ρ,aq,sl,aP.bind (Rp:=cT X.K) w fun ι1 S1 M1 H1 y v e1 s1 r1 w1=>?_⟩
 cases e2:(cJ M1 y).bind nw with
 | none=>rw[e2] at w1; exact w1.elim
 | some ts =>
  rw[e2] at w1
  obtain⟨zs,h1,h2⟩:=Option.bind_eq_some_iff.mp e2
  obtain⟨l,vs,rfl,eH,rr⟩:=cg s1 r1 h1
  obtain⟨qs,rfl,hl,hq⟩:=pV s1 rr h2
  dsimp only at w1
  split at w1
  ·rename_i EZ
   refine⟨l,qs,ts,rfl,.of eH,hl,hq,EZ,fun z hz=>⟨z,_,rfl,if_pos rfl,?_⟩⟩
   obtain⟨s2,x2⟩:=s1.side (o:=.ext (rA z (eC ts).length)) hz
   exact w1 ι1 S1 _ _ x2 s2 (ar.az.mpr rfl)
  ·exact w1.elim⟩
theorem j5 (hc:X.calm=true) (hu:X.A.units+64<cLine):bH X (.type "set") (fun xs H Q=>∃p ns,xs=[V.ref p]/\H p=some (.tup (ns.map V.int))/\ns.length<4000/\∀q S,H q=none->Q (.ref q) (upd H q (.set S (pI ns)))):=by
 intro pins s σ H xs us Q I r h
 obtain⟨p,ns,rfl,hq,hl,q⟩:=h
 obtain⟨u,rfl,ru⟩:=vals1 r
 cases ru
 obtain⟨_,aD,rv,o,ho,F9,n,hd⟩:=(show bG X.prog X.w H s.heap p (.tup (ns.map V.int)) from I.aX p _ hq)
 have hlen:=rv.length
 rw[zK] at hlen
 refine St.uR (items:=aD.toArray) (ns:=ns) (I.ok.hd hc) hu ⟨o,ho,F9,n,hd⟩ (by simpa using kz rv) (by unfold scanBound; simp only[List.size_toArray]; omega) fun h' tk _ hS hk=>?_
 have e1:aD.toArray.size=ns.length:=by simp[hlen]
 rw[e1] at hS
 exact⟨.ref s.heap.objs.size,_,I.laid (t':=tk) (fun b o e=>hk b o (Heap.lt_size e) e) (Nat.le_refl _) (show bG X.prog X.w _ _ _ (.set _ (pI ns)) from hS),rfl,q _ _ (I.aX.fresh (Nat.le_refl _))⟩
noncomputable def jy (d:DE):DE:=fun ρ M=>(d ρ M).bind fun x M1=>match tupI x with
 | some ns=>if ns.length<4000 then .ok (.int (pI ns)) M1 else .bad
 | none=>.bad
theorem rD {p q pos':Pos} (hc:X.calm=true) (hu:X.A.units+64<cLine) (ha:VE X Ex a da) (sU:X.mg "len" = none) (vn:X.mg "set" = none) (w5:Gl X "len" := by rfl) (Cj:Gl X "set" := by rfl)
  (he:starEach [a] X.env=(false,eval a X.env)::starEach [] X.env:=by rfl) (gX:(backTo pos' (starEach [] X.env)).any (·.1)=false:=by rfl) (CC:(backTo pos (starEach [] X.env)).any (·.1)=false:=by rfl) :
  VE X Ex (.Call (.Name "len" p) [.Call (.Name "set" q) [a] [] pos'] [] pos) (jy da):=⟨by
 have A1:PA X [a] (ko (tG X.K (cT X.K) Ex da) uc):=cW ha.out fN he
 have A2:=jL (p:=q) (pos:=pos') (j5 hc hu) Cj vn (by decide +kernel:bootBuiltins "set" = some (.type "set")) A1 (by decide) (by decide) he gX
 refine PE.imp (gY uH w5 sU (by decide +kernel) (cW A2 fN rfl) (by decide) (by decide) rfl CC) fun σ H Q h=>?_
 obtain⟨ι,S,M,ρ,aq,sl,w⟩:=h
 refine⟨ι,S,M,ρ,aq,sl,aP.bind (Rp:=cT X.K) w fun ι1 S1 M1 H1 y v e1 s1 r1 w1=>?_⟩
 cases y with
 | tup ys =>
  obtain⟨b,us,rfl,hb,hr⟩:=ar.bA.mp r1
  cases e2:iO ys with
  | none=>rw[show tupI (.tup ys)=iO ys from rfl,e2] at w1; exact w1.elim
  | some ns =>
   rw[show tupI (.tup ys)=iO ys from rfl,e2] at w1
   have eH:=s1.sub _ _ hb
   rw[lN hr e2] at eH
   dsimp only at w1
   split at w1
   ·rename_i hl
    refine⟨b,ns,rfl,eH,hl,fun z S' hz=>⟨z,S',_,rfl,if_pos rfl,?_⟩⟩
    obtain⟨s2,x2⟩:=s1.side (o:=.set S' (pI ns)) hz
    exact w1 ι1 S1 _ _ x2 s2 (ar.az.mpr rfl)
   ·exact w1.elim
 | _=>exact w1.elim⟩
end
end L2
end
section
noncomputable section
namespace Sb
open PySem L2
noncomputable def ba:D1:=ju 1 (dP (al (fh false) [(vk false (af 0) (gM (dC (.int 1))) cX)]))
noncomputable def cj (aJ:D1):D1:=ju 2 (dP (fk false [none,none,some 1] (iE (af 0)) (gT 2 (fj (gN 0) (fj (gN 1) ni))) (bu (aA (pv false) (af 2) (al aJ [(af 1)]))) (af 0)))
noncomputable def cM (cD:D1):D1:=ju 4 (aG (iV (iL (al cD [(af 0),(af 2)])) (gN 3) (bE (bu (aA (gf true) (af 3) (af 1))) (dP (af 3)) fF)) (dP (dC .bb)))
noncomputable def cE (aJ:D1):D1:=ju 2 (aG (bE (bu (aA (gf false) (aA cK (af 0) (dC (.int 0))) (dC (.str "plain")))) (dP (fk false [none,some 1] (iL (al aJ [(af 0)])) (gN 0) (bu (aA (gf true) (af 0) (af 1))) (af 0))) fF) (aG (bE (bu (aA (gf false) (af 1) (aA cK (af 0) (dC (.int 1))))) (dP (cn false [(aA cK (af 0) (dC (.int 2))),(aA cK (af 0) (dC (.int 3)))])) fF) (dP (cn false [(aA cK (af 0) (dC (.int 1)))]))))
noncomputable def cF (fq eR:D1):D1:=ju 2 (aG (bR (al fq [(af 0)])) (bR (al eR [(af 0),(af 1)])))
noncomputable def bT (ax:Addr) (ft aJ:D1):D1:=ju 2 (aG (bE (bu (aA (gf false) (al aZ [(af 0)]) (dC (.int 0)))) (nZ ax [(dC (.str "a yard has at least one piece"))]) fF) (aG (bE (bu (aA jV (al aZ [(af 0)]) (dC (.int 16)))) (dA ax [none,some (dC (.int 16)),none]) fF) (iV (iL (af 0)) (gN 1) (bR (al ft [(af 0),(al aJ [(af 1)])])))))
noncomputable def bU (ax:Addr) (cD:D1):D1:=ju 3 (iV (iL (af 1)) (gN 2) (aG (bE (Ay (bu (aA sE (af 2) (dC (.int 0)))) (bu (aA jV (af 2) (dC (.int 999))))) (dA ax [none,some (af 2),none,some (dC (.int 999))]) fF) (aG (bE (bu (aA jV (gh countP (af 1) [(af 2)]) (dC (.int 1)))) (dA ax [none,some (af 2),none]) fF) (bE (bu (aA jV (al aZ [(al cD [(af 0),(af 2)])]) (dC (.int 2)))) (dA ax [none,some (af 2)]) fF))))
noncomputable def bJ (ax:Addr) (aJ:D1):D1:=ju 4 (aG (bE (bu (aA jV (al aZ [(af 1)]) (dC (.int 16)))) (dA ax [none,some (dC (.int 16)),none]) fF) (iV (iL (af 1)) (gT 2 (fj (gN 2) (fj (gN 3) ni))) (aG (bE (bu (aA jV (gh countP (af 1) [(jh [(af 2),(af 3)])]) (dC (.int 1)))) (dA ax [none,some (af 2),none,some (af 3)]) fF) (aG (bE (Ay (bu (aA sE (af 3) (dC (.int 0)))) (bu (aA FV (af 3) (al aZ [(af 0)])))) (dA ax [none,some (af 3),none]) fF) (bE (bu (aA (pv true) (af 2) (al aJ [(aA cK (af 0) (af 3))]))) (dA ax [none,some (af 3),none,some (af 2)]) fF)))))
noncomputable def cb (gA dQ:D1):D1:=ju 6 (aG (bR (al gA [(af 0),(af 1)])) (aG (bZ 2 (cn true [])) (aG (iV (iE (af 1)) (gT 2 (fj (gN 3) (fj (gN 4) ni))) (iV (iL (al dQ [(af 0),(af 1),(cn false []),(aA cK (af 4) (dC (.int 0))),(aA cK (af 4) (dC (.int 1)))])) (gN 5) (bR (gh cL (af 2) [(jh [(af 3),(af 5)])])))) (dP (yY (af 2))))))
noncomputable def kB (gB fu dQ:D1):D1:=ju 9 (aG (bE (bu (aA (pv false) (af 4) (fk false [none] (iL (af 2)) (gN 0) wM (aA cK (af 0) (dC (.int 0)))))) (dP (cn false [])) fF) (aG (bZ 5 (cn true [])) (aG (iV (iL (al gB [(aA cK (af 0) (af 4)),(af 3)])) (gN 6) (aG (bZ 7 (aA (bD false) (af 2) (cn false [(jh [(af 4),(af 3),(af 6)])]))) (aG (bZ 8 (al fu [(af 0),(af 4),(af 6)])) (bE (Ay (bu (aA (B1 false) (af 8) (dC .bb))) (bu (aA (pv false) (jh [(af 6),(af 8)]) (af 1)))) (bR (gh cL (af 5) [(af 7)])) (bR (gh k9 (af 5) [(al dQ [(af 0),(af 1),(af 7),(af 6),(af 8)])])))))) (dP (yY (af 5))))))
noncomputable def br (bt:Addr) (fv:D1):D1:=ju 4 (aG (fo bt "found" (af 0) (al fv [(af 1),(af 2)])) (aG (fo bt "pieces" (af 0) (al (fh false) [(af 1)])) (aG (fo bt "signals" (af 0) (al (fh false) [(af 2)])) (aG (fo bt "wait" (af 0) (af 3)) (aG (fo bt "ticks" (af 0) (dC (.int 0))) (aG (fo bt "locks" (af 0) jv) (aG (fo bt "lying" (af 0) (fk true [none] (iL (af 1)) (gN 0) wM (dC (.str "straight")))) (aG (fo bt "greens" (af 0) jv) (aG (fo bt "falls" (af 0) jv) (fo bt "trains" (af 0) jv))))))))))
noncomputable def iX:D1:=ju 2 (aG (bE (qT (af 0)) (dP (aA cK (af 0) (aA aQ (af 1) (al aZ [(af 0)])))) fF) (dP (dC (.int 0))))
noncomputable def j6 (lW:D1):D1:=ju 3 (aG (bZ 2 (aA aQ (aA (bD false) (al lW [(af 0),(af 1)]) (aA (jl false) (dC (.int 104729)) (aA (bD false) (af 1) (dC (.int 1))))) (dC (.int 4294967291)))) (aG (bZ 2 (aA aQ (aA (jl false) (af 2) (dC (.int 48271))) (dC (.int 4294967279)))) (dP (aA aQ (aA (bD false) (aA (jl false) (aA bQ (af 2) (dC (.int 64))) (dC (.int 69621))) (af 2)) (dC (.int 4294967231))))))
end Sb
end
end
section
noncomputable section
namespace Sb
open PySem L2
noncomputable def fG (ax dB aM gC bt:Addr) (fv ib:D1):D1:=ju 6 (aG (bZ 3 (dC .bb)) (aG (w9 [ax,aM,dB,gC] 3 4 (bE (bu (aA (gf false) (af 0) (dC (.int 0)))) (bR (al fv [(af 1),(af 2)])) (bR (nk bt ib [(af 1),(af 2),(dC (.int 3))])))) (aG (bE (bu (aA (B1 false) (af 3) (dC .bb))) (dP (dC (.str "ok"))) fF) (aG (bZ 5 (jo (oa [(ax,true),(aM,false),(dB,false),(gC,false)] (af 3)) (jo (oa [(ax,true),(aM,true),(dB,true),(gC,true)] (af 3)) (wF (oa [(ax,false),(aM,true),(dB,true),(gC,true)] (af 3)))))) (dP (Hs (qT (af 5)) (dC (.str "bad")) (dC (.str "wrong"))))))))
noncomputable def iY:D1:=ju 4 (aG (bZ 2 (cn false [])) (aG (iV (iL (af 0)) (gN 3) (aG (bE (bu (aA (gf true) (jy (vk false (af 3) (gM (dC (.int 1))) cX)) (aA nR (al aZ [(af 3)]) (dC (.int 1))))) (dP (dC (.bl false))) fF) (bZ 2 (aA (bD false) (af 2) (al (fh false) [(vk false (af 3) (gM (dC (.int 1))) cX)]))))) (aG (bE (Ay (yV (bu (fg oT oT (dC (.int 1)) (al aZ [(af 0)]) (dC (.int 16))))) (yV (qT (al qZ [(fk false [none,some 2] (iL (af 2)) (gN 0) wM (jo (fg oT oT (dC (.int 0)) (af 0) (dC (.int 999))) (aA sE (gh countP (af 1) [(af 0)]) (dC (.int 3)))))])))) (dP (dC (.bl false))) fF) (aG (bE (Ay (bu (aA jV (al aZ [(af 1)]) (dC (.int 16)))) (bu (aA (gf true) (ia (af 1)) (al aZ [(af 1)])))) (dP (dC (.bl false))) fF) (dP (al qZ [(fk false [none,none,some 0] (iL (af 1)) (gT 2 (fj (gN 0) (fj (gN 1) ni))) wM (jo (fg oT sE (dC (.int 0)) (af 1) (al aZ [(af 2)])) (aA (pv false) (af 0) (vk false (aA cK (af 2) (af 1)) (gM (dC (.int 1))) cX))))]))))))
noncomputable def ic (fH lX iz:D1):D1:=ju 10 (aG (bZ 1 (cn true [])) (aG (iV (B7 [(aA cK (cn false [(dC (.int 0)),(dC (.int 1)),(dC (.int 2)),(dC (.int 5)),(dC (.int 15)),(dC (.int 16)),(dC (.int 17)),(dC (.int 3))]) (aA aQ (al fH [(af 0),(dC (.int 0))]) (dC (.int 8))))]) (gN 2) (aG (bZ 3 (al fH [(af 0),(aA (bD false) (dC (.int 1)) (af 2))])) (aG (bZ 4 (aA (bD true) (cn false [(aA (bD false) (dC (.int 20)) (af 2)),(aA (bD false) (dC (.int 21)) (af 2))]) (aA (jl false) (cn false [(aA (bD false) (dC (.int 600)) (af 2))]) (aA aQ (af 3) (dC (.int 2)))))) (aG (bE (bu (aA (gf false) (aA aQ (af 3) (dC (.int 3))) (dC (.int 0)))) (bZ 4 (aA (bD true) (cn false [(aA cK (af 4) (dC (.int 1))),(aA cK (af 4) (dC (.int 0)))]) (vk false (af 4) (gM (dC (.int 2))) cX))) fF) (aG (bE (bu (aA (gf false) (aA aQ (aA bQ (af 3) (dC (.int 6))) (dC (.int 25))) (dC (.int 0)))) (nq (af 4) (aA aQ (aA bQ (af 3) (dC (.int 150))) (al aZ [(af 4)])) (aA cK (cn false [(n0 (dC (.int 1))),(dC (.int 0)),(dC (.int 999)),(dC (.int 1000)),(dC (.int 20)),(aA (bD false) (dC (.int 21)) (af 2)),(dC (.int 600)),(aA (bD false) (dC (.int 20)) (af 2))]) (aA aQ (aA bQ (af 3) (dC (.int 450))) (dC (.int 8))))) fF) (bR (gh cL (af 1) [(aA (bD false) (jh [(aA cK (cn false [(dC (.str "plain")),(dC (.str "points"))]) (aA nR (al aZ [(af 4)]) (dC (.int 2))))]) (al iU [(af 4)]))]))))))) (aG (bE (B2 (bu (aA jV (al aZ [(af 1)]) (dC (.int 2)))) (bu (aA (gf false) (aA aQ (al fH [(af 0),(dC (.int 41))]) (dC (.int 5))) (dC (.int 0))))) (nq (af 1) (dC (.int 2)) (jh [(dC (.str "plain")),(dC (.int 21)),(aA cK (cn false [(dC (.int 700)),(dC (.int 23)),(dC (.int 20))]) (aA aQ (al fH [(af 0),(dC (.int 42))]) (dC (.int 3))))])) fF) (aG (bZ 5 (cn true [])) (aG (iV (B7 [(aA cK (cn false [(dC (.int 0)),(dC (.int 1)),(dC (.int 3)),(dC (.int 8)),(dC (.int 16)),(dC (.int 17))]) (aA aQ (al fH [(af 0),(dC (.int 20))]) (dC (.int 6))))]) (gN 2) (aG (bZ 3 (al fH [(af 0),(aA (bD false) (dC (.int 21)) (af 2))])) (aG (bZ 6 (aA aQ (af 2) (al wJ [(dC (.int 1)),(al aZ [(af 1)])]))) (aG (bZ 7 (dC (.int 20))) (aG (bE (qT (af 1)) (bZ 7 (aA cK (aA cK (af 1) (af 6)) (aA (bD false) (dC (.int 1)) (aA aQ (aA bQ (af 2) (al aZ [(af 1)])) (dC (.int 2)))))) fF) (aG (bE (bu (aA (gf false) (aA aQ (af 3) (dC (.int 40))) (dC (.int 0)))) (bZ 7 (aA cK (cn false [(aA (bD false) (af 7) (dC (.int 1))),(dC (.int 20)),(aA (bD false) (dC (.int 600)) (af 2))]) (aA aQ (aA bQ (af 3) (dC (.int 40))) (dC (.int 3))))) fF) (aG (bE (bu (aA (gf false) (aA aQ (af 3) (dC (.int 40))) (dC (.int 1)))) (bZ 6 (aA cK (cn false [(n0 (dC (.int 1))),(al aZ [(af 1)]),(dC (.int 0))]) (aA aQ (aA bQ (af 3) (dC (.int 40))) (dC (.int 3))))) fF) (bR (gh cL (af 5) [(jh [(af 7),(af 6)])]))))))))) (aG (bZ 8 (jh [(al (fh false) [(af 1)]),(al (fh false) [(af 5)])])) (aG (bZ 9 (aA cK (cn false [(dC (.str "bad")),(dC (.str "ok"))]) (al pC [(al lX [(af 1),(af 5)])]))) (aG (bE (Ay (bu (aA (gf true) (al iz [(dC (.int 0)),(aA cK (af 8) (dC (.int 0))),(aA cK (af 8) (dC (.int 1)))]) (af 9))) (bu (aA (gf true) (al iz [(dC (.int 1)),(aA cK (af 8) (dC (.int 0))),(aA cK (af 8) (dC (.int 1)))]) (af 9)))) (dP (dC (.bl false))) fF) (dP (aA (gf false) (af 8) (jh [(af 1),(af 5)])))))))))))
end Sb
end
end
section
namespace L2
open PySem
section
variable {ρ:cI} {M:aC}
@[simp] theorem dD {i:Nat}:af i ρ M=(match ρ[i]? with | some (some x)=>.ok x M | _=>.bad):=rfl
@[simp] theorem jz {x:PV}:dC x ρ M=.ok x M:=rfl
@[simp] theorem dR:cQ [] ρ M=.ok [] M:=rfl
@[simp] theorem aN {d:DE} {ds:List DE}:cQ (d::ds) ρ M=(d ρ M).bind fun x M1=>(cQ ds ρ M1).bind fun xs M2=>.ok (x::xs) M2:=rfl
@[simp] theorem om {ds:List DE}:jh ds ρ M=(cQ ds ρ M).bind fun xs M1=>.ok (.tup xs) M1:=rfl
@[simp] theorem tf {l:Bool} {ds:List DE}:cn l ds ρ M=(cQ ds ρ M).bind fun xs M1=>kt l xs M1:=rfl
@[simp] theorem dE {f:D2} {a b:DE}:aA f a b ρ M=(a ρ M).bind fun x M1=>(b ρ M1).bind fun y M2=>f x y M2:=rfl
@[simp] theorem lY {f:D1} {ds:List DE}:al f ds ρ M=(cQ ds ρ M).bind fun xs M1=>f xs M1:=rfl
@[simp] theorem zS {d:DE}:qT d ρ M=(d ρ M).bind fun x M1=>Res.opt (kM M1 x) M1:=rfl
@[simp] theorem jA {d:DE}:bu d ρ M=(d ρ M).bind fun x M1=>match x with | .bl b=>.ok b M1 | _=>.bad:=rfl
@[simp] theorem Ga {a b:DT}:B2 a b ρ M=(a ρ M).bind fun k M1=>if k=true then b ρ M1 else .ok false M1:=rfl
@[simp] theorem rE {a b:DT}:Ay a b ρ M=(a ρ M).bind fun k M1=>if k=true then .ok true M1 else b ρ M1:=rfl
@[simp] theorem tj {a:DT}:yV a ρ M=(a ρ M).bind fun k M1=>.ok (!k) M1:=rfl
@[simp] theorem Im {t:DT} {a b:DE}:Hs t a b ρ M=(t ρ M).bind fun k M1=>if k=true then a ρ M1 else b ρ M1:=rfl
@[simp] theorem Io {l:Bool} {d:DE} {dl dh:DO}:vk l d dl dh ρ M=(d ρ M).bind fun x M1=>(dl ρ M1).bind fun lo M2=>(dh ρ M2).bind fun hi M3=>Az l x lo hi M3:=rfl
@[simp] theorem CD:cX ρ M=.ok none M:=rfl
@[simp] theorem E1 {d:DE}:gM d ρ M=(d ρ M).bind fun x M1=>match x with | .int i=>.ok (some i) M1 | _=>.bad:=rfl
@[simp] theorem Gb {d:DE}:yY d ρ M=(d ρ M).bind fun x M1=>wH x M1:=rfl
@[simp] theorem pW {f:DM} {d:DE} {ds:List DE}:gh f d ds ρ M=(d ρ M).bind fun x M1=>match cJ M1 x with | some _=>(cQ ds ρ M1).bind fun xs M2=>f x xs M2 | none=>.bad:=rfl
@[simp] theorem Ip:fF ρ M=.nx ρ M:=rfl
@[simp] theorem zT {a b:DS}:aG a b ρ M=(match a ρ M with | .nx ρ' M'=>b ρ' M' | o=>o):=rfl
@[simp] theorem E2 {d:DE}:bR d ρ M=(d ρ M).out ρ fun _ M1=>.nx ρ M1:=rfl
@[simp] theorem Gd {d:DE}:dP d ρ M=(d ρ M).out ρ fun x M1=>.rt x M1:=rfl
@[simp] theorem E3:EC ρ M=.rt .bb M:=rfl
@[simp] theorem Ge {t:DT} {a b:DS}:bE t a b ρ M=(t ρ M).out ρ fun k M1=>if k=true then a ρ M1 else b ρ M1:=rfl
@[simp] theorem Gf {i:Nat} {d:DE}:bZ i d ρ M=(d ρ M).out ρ fun x M1=>.nx (ρ.set i (some x)) M1:=rfl
@[simp] theorem Gg {d:DE} {g:DG}:Hz d g ρ M=(d ρ M).out ρ fun x M1=>match g x ρ with | some ρ'=>.nx ρ' M1 | none=>.bad:=rfl
@[simp] theorem Jz {i:Nat} {x:PV}:gN i x ρ=some (ρ.set i (some x)):=rfl
@[simp] theorem Iq:wM ρ M=.ok true M:=rfl
@[simp] theorem C7 {C:Addr} {ds:List DE}:nZ C ds ρ M=(cQ ds ρ M).out ρ fun _ M1=>.exc C ρ M1:=rfl
@[simp] theorem ai {α β:Type} {x:α} {f:α->aC->Res β}:(Res.ok x M).bind f=f x M:=rfl
@[simp] theorem wd {α:Type} {x:α}:Res.opt (some x) M=.ok x M:=rfl
@[simp] theorem we {α:Type}:(Res.opt none M:Res α)=.bad:=rfl
@[simp] theorem Cf {x:PV}:(Out.rt x M).res=.ok x M:=rfl
@[simp] theorem Ce:(Out.nx ρ M).res=.ok .bb M:=rfl
@[simp] theorem ze {c:Addr}:(Out.exc c ρ M).res=.exc c M:=rfl
end
noncomputable def Pl:Nat->PV->Prop
 | 0,x=>match x with
  | .bb=>True
  | .int _=>True
  | .str x=>PyData.canLay0 (.str x)=true
  | _=>False
 | k+1,x=>match x with
  | .bb=>True
  | .int _=>True
  | .str x=>PyData.canLay0 (.str x)=true
  | .lst xs=>∀y∈xs,Pl k y
  | .tup xs=>∀y∈xs,Pl k y
  | _=>False
theorem fw {α β:Type} {f:α->Option β} {g:α->β}:∀{xs:List α},(∀x∈xs,f x=some (g x))->dN f xs=some (xs.map g)
 | [],_=>rfl
 | x::xs,h=>by
  unfold dN
  rw[h x (by simp),fw fun y hy=>h y (List.mem_cons_of_mem _ hy)]
  rfl
noncomputable def bz (k:Nat) (x:PV):PyData:=(flat [] k x).getD .none
theorem dY {M:aC}:∀(k:Nat) (x:PV),Pl k x->flat M k x=some (bz k x)
 | 0,x,h=>by
  cases x<;>simp_all [Pl,bz,flat,leaf]
 | k+1,x,h=>by
  cases x with
  | lst xs =>
   have h':∀y∈xs,Pl k y:=h
   have e:∀N:aC,flat N (k+1) (.lst xs)=some (.list (xs.map (bz k))):=fun N=>by
    simp only[flat]; rw[fw fun y hy=>dY k y (h' y hy)]; rfl
   rw[e,bz,e]; rfl
  | tup xs =>
   have h':∀y∈xs,Pl k y:=h
   have e:∀N:aC,flat N (k+1) (.tup xs)=some (.tuple (xs.map (bz k))):=fun N=>by
    simp only[flat]; rw[fw fun y hy=>dY k y (h' y hy)]; rfl
   rw[e,bz,e]; rfl
  | _=>simp_all [Pl,bz,flat,leaf]
theorem ck {k:Nat} {xs:List PV} (h:∀y∈xs,Pl k y):bz (k+1) (.lst xs)=.list (xs.map (bz k)):=by
 have e:flat [] (k+1) (.lst xs)=some (.list (xs.map (bz k))):=by
  simp only[flat]; rw[fw fun y hy=>dY k y (h y hy)]; rfl
 rw[bz,e]; rfl
theorem cm {k:Nat} {xs:List PV} (h:∀y∈xs,Pl k y):bz (k+1) (.tup xs)=.tuple (xs.map (bz k)):=by
 have e:flat [] (k+1) (.tup xs)=some (.tuple (xs.map (bz k))):=by
  simp only[flat]; rw[fw fun y hy=>dY k y (h y hy)]; rfl
 rw[bz,e]; rfl
theorem j7 {k:Nat} (ih:∀x y,Pl k x->Pl k y->(PyData.eqv (bz k x) (bz k y)=true↔x=y)):∀xs ys:List PV,(∀y∈xs,Pl k y)->(∀y∈ys,Pl k y)->(PyData.eqvAll (xs.map (bz k)) (ys.map (bz k))=true↔xs=ys)
 | [],[],_,_=>by simp[PyData.eqvAll]
 | [],y::ys,_,_=>by simp[PyData.eqvAll]
 | x::xs,[],_,_=>by simp[PyData.eqvAll]
 | x::xs,y::ys,hx,hy=>by
  rw[zC,zC,PyData.eqvAll,Bool.and_eq_true,ih x y (hx x (by simp)) (hy y (by simp)),j7 ih xs ys (fun z hz=>hx z (by simp[hz])) (fun z hz=>hy z (by simp[hz]))]
  simp
theorem bo {k:Nat}:bz k .bb=.none:=by cases k<;>rfl
theorem bp {k:Nat} {i:Int}:bz k (.int i)=.int i:=by cases k<;>rfl
theorem aY {k:Nat} {x:Str} (h:PyData.canLay0 (.str x)=true):bz k (.str x)=.str x:=by cases k<;>simp[bz,flat,leaf,h]
inductive Pk:Nat->PV->Prop
 | bb {k:Nat}:Pk k .bb
 | int {k:Nat} (i:Int):Pk k (.int i)
 | str {k:Nat} {x:Str} (h:PyData.canLay0 (.str x)=true):Pk k (.str x)
 | lst {k:Nat} {xs:List PV} (h:∀y∈xs,Pl k y):Pk (k+1) (.lst xs)
 | tup {k:Nat} {xs:List PV} (h:∀y∈xs,Pl k y):Pk (k+1) (.tup xs)
theorem Pl.pk {k:Nat} {x:PV} (h:Pl k x):Pk k x:=by
 cases k with
 | zero =>
  cases x with
  | bb=>exact .bb
  | int i=>exact .int i
  | str x=>exact .str h
  | _=>exact h.elim
 | succ k =>
  cases x with
  | bb=>exact .bb
  | int i=>exact .int i
  | str x=>exact .str h
  | lst xs=>exact .lst h
  | tup xs=>exact .tup h
  | _=>exact h.elim
theorem oq (k:Nat):∀(x y:PV),Pl k x->Pl k y->(PyData.eqv (bz k x) (bz k y)=true↔x=y):=by
 induction k with
 | zero =>
  intro x y hx hy
  cases hx.pk with
  | bb=>cases hy.pk with
   | bb=>simp[bo,PyData.eqv]
   | int j=>simp[bo,bp,PyData.eqv]
   | str h=>simp[bo,aY h,PyData.eqv]
  | int i=>cases hy.pk with
   | bb=>simp[bo,bp,PyData.eqv]
   | int j=>simp[bp,PyData.eqv]
   | str h=>simp[bp,aY h,PyData.eqv]
  | str h=>cases hy.pk with
   | bb=>simp[bo,aY h,PyData.eqv]
   | int j=>simp[bp,aY h,PyData.eqv]
   | str h'=>simp[aY h,aY h',PyData.eqv]
 | succ k ih =>
  intro x y hx hy
  cases hx.pk with
  | bb=>cases hy.pk with
   | bb=>simp[bo,PyData.eqv]
   | int j=>simp[bo,bp,PyData.eqv]
   | str h=>simp[bo,aY h,PyData.eqv]
   | lst h=>simp[bo,ck h,PyData.eqv]
   | tup h=>simp[bo,cm h,PyData.eqv]
  | int i=>cases hy.pk with
   | bb=>simp[bo,bp,PyData.eqv]
   | int j=>simp[bp,PyData.eqv]
   | str h=>simp[bp,aY h,PyData.eqv]
   | lst h=>simp[bp,ck h,PyData.eqv]
   | tup h=>simp[bp,cm h,PyData.eqv]
  | str h=>cases hy.pk with
   | bb=>simp[bo,aY h,PyData.eqv]
   | int j=>simp[bp,aY h,PyData.eqv]
   | str h'=>simp[aY h,aY h',PyData.eqv]
   | lst h'=>simp[aY h,ck h',PyData.eqv]
   | tup h'=>simp[aY h,cm h',PyData.eqv]
  | lst h=>cases hy.pk with
   | bb=>simp[bo,ck h,PyData.eqv]
   | int j=>simp[bp,ck h,PyData.eqv]
   | str h'=>simp[ck h,aY h',PyData.eqv]
   | lst h'=>rw[ck h,ck h',PyData.eqv,j7 ih _ _ h h']; simp
   | tup h'=>simp[ck h,cm h',PyData.eqv]
  | tup h=>cases hy.pk with
   | bb=>simp[bo,cm h,PyData.eqv]
   | int j=>simp[bp,cm h,PyData.eqv]
   | str h'=>simp[cm h,aY h',PyData.eqv]
   | lst h'=>simp[cm h,ck h',PyData.eqv]
   | tup h'=>rw[cm h,cm h',PyData.eqv,j7 ih _ _ h h']; simp
theorem kC {b:Bool} {p:Prop} [Decidable p] (h:b=true↔p):b=decide p:=by
 cases b<;>simp_all
theorem xq {neg:Bool} {x y:PV} {M:aC} {p:Prop} [Decidable p] (hx:Pl deep x) (hy:Pl deep y) (h:x=y↔p):gf neg x y M=.ok (.bl (if neg then !decide p else decide p)) M:=by
 unfold gf
 rw[dY deep x hx,dY deep y hy]
 dsimp only
 rw[kC ((oq deep x y hx hy).trans h)]
theorem ot {neg:Bool} {α:Type} {enc:α->PV} (hp:∀a,Pl deep (enc a)) (inj:∀a b,enc a=enc b->a=b) {a:α} {as:List α} [Decidable (a∈as)] {y:PV} {M:aC} (hy:ji M y=some (as.map enc)) :
  pv neg (enc a) y M=.ok (.bl (if neg then !decide (a∈as) else decide (a∈as))) M:=by
 unfold pv
 rw[hy]
 dsimp only
 rw[dY deep _ (hp a),fw (g:=bz deep) fun z hz=>by
  obtain⟨b,_,rfl⟩:=List.mem_map.mp hz
  exact dY deep _ (hp b)]
 dsimp only
 have:((as.map enc).map (bz deep)).any (fun q=>PyData.eqv q (bz deep (enc a)))=decide (a∈as):=by
  refine kC ?_
  rw[List.any_eq_true]
  constructor
  ·rintro⟨q,hq,he⟩
   obtain⟨z,hz,rfl⟩:=List.mem_map.mp hq
   obtain⟨b,hb,rfl⟩:=List.mem_map.mp hz
   have:=inj _ _ ((oq deep _ _ (hp b) (hp a)).mp he)
   subst this
   exact hb
  ·intro hm
   exact⟨_,List.mem_map.mpr ⟨_,List.mem_map.mpr ⟨a,hm,rfl⟩,rfl⟩,(oq deep _ _ (hp a) (hp a)).mpr rfl⟩
 rw[this]
theorem dj {k:Nat} (i:Int):Pl k (.int i):=by cases k<;>trivial
@[simp] theorem pX {neg:Bool} {i j:Int} {M:aC}:gf neg (.int i) (.int j) M=.ok (.bl (if neg then !decide (i=j) else decide (i=j))) M:=xq (dj i) (dj j) (by simp)
@[simp] theorem xr {neg:Bool} {i:Int} {ns:List Int} {M:aC}:pv neg (.int i) (.lst (ns.map .int)) M=.ok (.bl (if neg then !decide (i∈ns) else decide (i∈ns))) M:=ot (enc:=PV.int) (fun a=>dj a) (fun a b e=>by cases e; rfl) rfl
@[simp] theorem E4 {neg:Bool} {i:Int} {ns:List Int} {M:aC}:pv neg (.int i) (.tup (ns.map .int)) M=.ok (.bl (if neg then !decide (i∈ns) else decide (i∈ns))) M:=ot (enc:=PV.int) (fun a=>dj a) (fun a b e=>by cases e; rfl) rfl
theorem iZ {α:Type} {w:oU} {g:DG} {tc:DT} {d:DE} {M:aC} (enc:α->PV) (P:α->Bool) (f:α->PV) (R:cI->Prop) (hc:kN w M) :
  ∀(xs:List α) (ρ:cI) (acc:List PV),R ρ->(∀x∈xs,∀ ρ,R ρ->∃ ρ1,g (enc x) ρ=some ρ1/\R ρ1/\tc ρ1 M=.ok (P x) M/\(P x=true->d ρ1 M=.ok (f x) M))->acc.length+xs.length≤lim →
   gO w g tc d (xs.map enc) ρ M acc=.ok (acc++(xs.filter P).map f) M
 | [],ρ,acc,_,_,_=>by simp[gO]
 | x::xs,ρ,acc,hR,h,hl=>by
  obtain⟨ρ1,h1,h2,h3,h4⟩:=h x (by simp) ρ hR
  simp only[zE] at hl
  rw[zC,gO,h1]
  dsimp only
  rw[h3,Res.pE]
  cases hp:P x with
  | true =>
   rw[if_pos rfl,h4 hp,Res.pE,if_pos ⟨hc,by omega⟩,iZ enc P f R hc xs ρ1 _ h2 (fun y hy=>h y (by simp[hy])) (by simp; omega),List.filter_cons_of_pos hp]
   simp
  | false =>
   rw[if_neg (by decide),if_pos hc,iZ enc P f R hc xs ρ1 _ h2 (fun y hy=>h y (by simp[hy])) (by omega),List.filter_cons_of_neg (by simp[hp])]
theorem fx {α:Type} {live:Bool} {cap:List (Option Nat)} {di:DI} {g:DG} {tc:DT} {d:DE} {ρ:cI} {M M':aC} {w:oU} {xs:List α} (enc:α->PV) (P:α->Bool) (f:α->PV) (R:cI->Prop)
  (hi:di ρ M=.ok (xs.map enc,w) M') (hc:kN w M') (hR:R (qX cap ρ)) (h:∀x∈xs,∀ ρ,R ρ->∃ ρ1,g (enc x) ρ=some ρ1/\R ρ1/\tc ρ1 M'=.ok (P x) M'/\(P x=true->d ρ1 M'=.ok (f x) M')) (hl:xs.length≤lim) :
  fk live cap di g tc d ρ M=kt live ((xs.filter P).map f) M':=by
 unfold fk
 rw[hi,ai,if_pos hc,iZ enc P f R hc xs _ _ hR h (by simpa using hl)]
 rfl
theorem zU {di:DI} {g:DG} {s1:DS} {ρ:cI} {M M':aC} {xs:List PV} {w:oU} (hi:di ρ M=.ok (xs,w) M') (hc:kN w M'):iV di g s1 ρ M=jY w g s1 xs ρ M':=by
 unfold iV
 rw[hi,Res.hV,if_pos hc]
@[simp] theorem eT {d:DE} {ρ:cI} {M M':aC} {xs:List PV} (h:d ρ M=.ok (.lst xs) M'):iL d ρ M=.ok (xs,none) M':=by unfold iL; rw[h]; rfl
theorem xt {d:DE} {ρ:cI} {M M':aC} {n:Nat} {xs:List PV} (h:d ρ M=.ok (.obj n) M') (hn:M'[n]? = some (.lst xs)):iL d ρ M=.ok (xs,some (n,.lst xs)) M':=by unfold iL; rw[h,ai]; dsimp only; rw[hn]
noncomputable def ou (g:D1) (xs:List PV) (M:aC) (x:PV):Prop:=∃G,g xs M=.ok x (M++G)
theorem ou.trunc {g:D1} {xs:List PV} {M:aC} {x:PV} (h:ou g xs M x) (hb:PV.er M.length x=true):trunc g xs M=.ok x M:=by
 obtain⟨G,e⟩:=h
 unfold L2.trunc
 rw[e,sJ (by simp) hb]
end L2
end
section
namespace L2
open PySem
section
variable {Q:Out->Prop} {ρ:cI} {M:aC} {s1 s2:DS} {d:DE} {t:DT}
noncomputable def xu (Q:Out->Prop) (s2:DS):Out->Prop
 | .nx ρ M=>Q (s2 ρ M)
 | o=>Q o
theorem aK (h:xu Q s2 (s1 ρ M)):Q (aG s1 s2 ρ M):=by
 unfold aG
 cases e:s1 ρ M<;>rw[e] at h<;>exact h
theorem AG {i:Nat} (x:PV) (M':aC) (h:d ρ M=.ok x M') (q:Q (.nx (ρ.set i (some x)) M')):Q (bZ i d ρ M):=by
 unfold bZ; rw[h]; exact q
theorem cc {i:Nat} (x:PV) (M':aC) (h:d ρ M=.ok x M') (q:Q (s2 (ρ.set i (some x)) M')):Q (aG (bZ i d) s2 ρ M):=aK (AG x M' h q)
theorem iI (k:Bool) (M':aC) (h:t ρ M=.ok k M') (q1:k=true->Q (s1 ρ M')) (q2:k=false->Q (s2 ρ M')):Q (bE t s1 s2 ρ M):=by
 unfold bE; rw[h,Res.hV]
 cases k with
 | true=>exact q1 rfl
 | false=>exact q2 rfl
theorem CF (M':aC) (h:t ρ M=.ok true M') (q1:Q (s1 ρ M')):Q (bE t s1 s2 ρ M):=iI true M' h (fun _=>q1) nofun
theorem kQ (M':aC) (h:t ρ M=.ok false M') (q2:Q (s2 ρ M')):Q (bE t s1 s2 ρ M):=iI false M' h nofun (fun _=>q2)
theorem gk (x:PV) (M':aC) (h:d ρ M=.ok x M') (q:Q (.rt x M')):Q (dP d ρ M):=by
 unfold dP; rw[h]; exact q
theorem dF (x:PV) (M':aC) (h:d ρ M=.ok x M') (q:Q (.nx ρ M')):Q (bR d ρ M):=by
 unfold bR; rw[h]; exact q
theorem eU (q:Q (.nx ρ M)):Q (fF ρ M):=q
noncomputable def Body (w:oU) (R:cI->aC->Prop) (Q:Out->Prop):Out->Prop
 | .nx ρ M=>kN w M/\R ρ M
 | .ct ρ M=>kN w M/\R ρ M
 | .bk ρ M=>Q (.nx ρ M)
 | o=>Q o
theorem rF {α:Type} {w:oU} {g:DG} (enc:α->PV) (R:List α->cI->aC->Prop) (xs:List α) (k:∀ ρ' M',R xs ρ' M'->Q (.nx ρ' M'))
  (hs:∀pre x post,xs=pre++x::post->∀ ρ M,R pre ρ M->∃ ρ1,g (enc x) ρ=some ρ1/\Body w (R (pre++[x])) Q (s1 ρ1 M)) :
  ∀(post pre:List α) (ρ:cI) (M:aC),xs=pre++post->R pre ρ M->Q (jY w g s1 (post.map enc) ρ M)
 | [],pre,ρ,M,e,h=>by rw[zI] at e; subst e; exact k ρ M h
 | x::post,pre,ρ,M,e,h=>by
  obtain⟨ρ1,h1,h2⟩:=hs pre x post e ρ M h
  rw[zC,jY,h1]
  dsimp only
  cases e2:s1 ρ1 M with
  | nx ρ' M' =>
   rw[e2] at h2
   dsimp only
   rw[if_pos h2.1]
   exact rF enc R xs k hs post (pre++[x]) ρ' M' (by rw[e]; simp) h2.2
  | ct ρ' M' =>
   rw[e2] at h2
   dsimp only
   rw[if_pos h2.1]
   exact rF enc R xs k hs post (pre++[x]) ρ' M' (by rw[e]; simp) h2.2
  | bk ρ' M'=>rw[e2] at h2; exact h2
  | rt x M'=>rw[e2] at h2; exact h2
  | exc c ρ' M'=>rw[e2] at h2; exact h2
  | bad=>rw[e2] at h2; exact h2
theorem gQ {α:Type} {di:DI} {g:DG} (enc:α->PV) (R:List α->cI->aC->Prop) (xs:List α) (w:oU) (M1:aC) (hi:di ρ M=.ok (xs.map enc,w) M1) (hc:kN w M1) (h0:R [] ρ M1)
  (hs:∀pre x post,xs=pre++x::post->∀ ρ M,R pre ρ M->∃ ρ1,g (enc x) ρ=some ρ1/\Body w (R (pre++[x])) Q (s1 ρ1 M)) (k:∀ ρ' M',R xs ρ' M'->Q (.nx ρ' M')):Q (iV di g s1 ρ M):=by
 unfold iV
 rw[hi,Res.hV,if_pos hc]
 exact rF enc R xs k hs xs [] ρ M1 rfl h0
noncomputable def Fin (P:Res PV->Prop) (o:Out):Prop:=P o.res
theorem gD {n:Nat} {xs:List PV} {d:DS} {P:Res PV->Prop} (h:Fin P (d (xs.map some++List.replicate (n-xs.length) none) M)):P (ju n d xs M):=h
theorem fy {P:Res PV->Prop} {x:PV} (h:P (.ok x M)):Fin P (.rt x M):=h
theorem gE {P:Res PV->Prop} (h:P (.ok .bb M)):Fin P (.nx ρ M):=h
theorem cv {P:Res PV->Prop} {c:Addr} (h:P (.exc c M)):Fin P (.exc c ρ M):=h
theorem aB (h:Q (s2 ρ M)):xu Q s2 (.nx ρ M):=h
theorem gF {x:PV} (h:Q (.rt x M)):xu Q s2 (.rt x M):=h
theorem cV {c:Addr} (h:Q (.exc c ρ M)):xu Q s2 (.exc c ρ M):=h
theorem cw {w:oU} {R:cI->aC->Prop} (hc:kN w M) (h:R ρ M):Body w R Q (.nx ρ M):=⟨hc,h⟩
theorem zV {w:oU} {R:cI->aC->Prop} {x:PV} (h:Q (.rt x M)):Body w R Q (.rt x M):=h
theorem fz {w:oU} {R:cI->aC->Prop} {c:Addr} (h:Q (.exc c ρ M)):Body w R Q (.exc c ρ M):=h
end
@[simp] theorem E5 {M:aC} {o:MO}:(M++[o])[M.length]? = some o:=by simp
@[simp] theorem E6 {M:aC} {o o':MO}:(M++[o]).set M.length o'=M++[o']:=by simp
theorem ow {n:Nat}:∀{xs:List PV},(∀x∈xs,PV.er n x=true)->PV.iG n xs=true
 | [],_=>by rw[PV.iG]
 | x::xs,h=>by rw[PV.iG,h x (by simp),ow fun y hy=>h y (by simp[hy])]; rfl
theorem tm {n:Nat} {xs:List PV} (h:∀x∈xs,PV.er n x=true):PV.er n (.lst xs)=true:=by rw[PV.er]; exact ow h
theorem tq {n:Nat} {xs:List PV} (h:∀x∈xs,PV.er n x=true):PV.er n (.tup xs)=true:=by rw[PV.er]; exact ow h
@[simp] theorem Gh {n:Nat} {i:Int}:PV.er n (.int i)=true:=by rw[PV.er]
@[simp] theorem Gi {n:Nat}:PV.er n .bb=true:=by rw[PV.er]
@[simp] theorem Gj {n:Nat} {x:Str}:PV.er n (.str x)=true:=by rw[PV.er]
@[simp] theorem Ir {n:Nat} {b:Bool}:PV.er n (.bl b)=true:=by rw[PV.er]
end L2
end
section
namespace L2
open PySem PySem.Spec PyProof.Rows
noncomputable def pY (K:Fg):Sp:=fun vs H Q E=>∃(a:Addr) (ns:List Int),vs=[V.ref a]/\iq K H a (ns.map V.int)/\∀H',Q (.bl true) H'
theorem E7 {K:Fg} {g:D1} (hg:∀ns M,∃M',g [.dU ns] M=.ok (.bl true) M') {vs:List V} {H:Hp} {Q:VK} {E:XK} (h:pY K vs H Q E):vm K 1 g vs H Q E:=by
 obtain⟨a,ns,rfl,hS,q⟩:=h
 obtain⟨M',e⟩:=hg ns []
 refine⟨rfl,[],H,[],[.dU ns],⟨eh.refl H,rfl,List.nodup_nil,fun n a o h=>nomatch h⟩,.one (ar.jg.mpr ⟨a,rfl,hS⟩),?_⟩
 rw[e]
 intro ι' S' H' v _ _ r
 rw[ar.bf.mp r]
 exact q H'
theorem uT {K:Fg} {g:D1} (hg:∀ns,∃M',g [.dU ns] []=.ok (.bl true) M') {vs:List V} {H:Hp} {Q:VK} {E:XK} (h:pY K vs H Q E):vm K 1 g vs H Q E:=by
 obtain⟨a,ns,rfl,hS,q⟩:=h
 obtain⟨M',e⟩:=hg ns
 refine⟨rfl,[],H,[],[.dU ns],⟨eh.refl H,rfl,List.nodup_nil,fun n a o h=>nomatch h⟩,.one (ar.jg.mpr ⟨a,rfl,hS⟩),?_⟩
 rw[e]
 intro ι' S' H' v _ _ r
 rw[ar.bf.mp r]
 exact q H'
theorem Iu {p:Addr->Prop} {a b c d:Addr} (ha:p a) (hb:p b) (hc:p c) (hd:p d):∀x∈[a,b,c,d],p x:=by
 intro x hx
 simp only[List.mem_cons,List.not_mem_nil,or_false] at hx
 rcases hx with rfl | rfl | rfl | rfl
 ·exact ha
 ·exact hb
 ·exact hc
 ·exact hd
theorem lZ {p:Addr->Bool->Prop} {a b c d:Addr} {x y z u:Bool} (ha:p a x) (hb:p b y) (hc:p c z) (hd:p d u):∀C k,([(a,x),(b,y),(c,z),(d,u)]:List (Addr×Bool)).lookup C=some k->p C k:=by
 intro C k h
 simp only[List.lookup] at h
 split at h
 ·rename_i e; cases h; rw[LawfulBEq.eq_of_beq e]; exact ha
 split at h
 ·rename_i e; cases h; rw[LawfulBEq.eq_of_beq e]; exact hb
 split at h
 ·rename_i e; cases h; rw[LawfulBEq.eq_of_beq e]; exact hc
 split at h
 ·rename_i e; cases h; rw[LawfulBEq.eq_of_beq e]; exact hd
 cases h
theorem iw.bad {P:Program} {w:World} {K:Fg} {mg:Str->Option Value} {base:Heap} {x:Str} {st:Stmt} {N ps:List Str} {k:Nat} (D:dI K mg x st ps) (S:aL N ps (ak st)):iw P w K mg base (k+1) x ps.length (ju N.length fun _ _=>.bad) :=
 iw.of D S fun f eO A outer s H E hr=>⟨fun pins s1 σ H1 D I h=>by
  obtain⟨_,_,_,_,_,_,h⟩:=h
  exact h.elim⟩
end L2
end
section
namespace L2
open PySem PySem.Spec PyProof.Rows PySem.W
section
variable {K:Fg} {hp:Heap} {mg:Str->Option Value} {x m q:Str} {st:Stmt} {ps:List Str} {C:Addr}
inductive FnAt (K:Fg) (v:Option (Option Value)) (x q:Str) (st:Stmt):Prop
 | mk {f:Addr} {oc kV dc pm cd ct:Value} {od an:Option Addr} {sl:Array (Option Value)} (a:v=some (some (.ref f)))
  (l:K.lookup f=some ⟨oc,od,.func (PySem.W.fnOf x q (dS st) (bN st) (ak st) .none kV dc pm an cd ct),sl⟩) (c:PySem.W.codeIn K cd q=true) (k:PySem.W.keepIn K (.ref f)=true) (j:PySem.W.isFn K (.ref f)=true):FnAt K v x q st
noncomputable def BO (x q:Str) (st:Stmt) (ps:List Str):Prop:=∀(kV doc pm:Value) (an:Option Addr) (eO ct:Value) (us:List Value),us.length=ps.length->bindArgs (PySem.W.fnOf x q (dS st) (bN st) (ak st) .none kV doc pm an eO ct) ⟨us,[]⟩=pure (ps.zip us)
theorem FnAt.de (h:FnAt K (nsIn K mainGlobals x) x x st) (X:K.In hp) (G:hp.Ns mainGlobals mg) (b:BO x x st ps:=by intro _ _ _ _ _ _ us hl; rcases us with _ | ⟨_,_ | ⟨_,_ | ⟨_,_ | ⟨_,_ | ⟨_,_ | ⟨_,_ | ⟨_,us⟩⟩⟩⟩⟩⟩⟩<;>first | rfl | cases hl | (simp at hl)):dI K mg x st ps:=by
 obtain⟨a,l,c,k,j⟩:=h
 exact⟨_,_,lD l c k,mg_of X G a,(lD l c k).binds b⟩
theorem FnAt.Ls (h:FnAt K (findIn K (.ref C) "__init__") "__init__" q st) (mk:makesIn K C=true) (kc:keepIn K (.ref C)=true) (nm:mg x=some (.ref C)) (b:BO "__init__" q st ps:=by intro _ _ _ _ _ _ us hl; rcases us with _ | ⟨_,_ | ⟨_,_ | ⟨_,_ | ⟨_,_ | ⟨_,_ | ⟨_,us⟩⟩⟩⟩⟩⟩<;>first | rfl | cases hl | (simp at hl)):sQ K mg x C q st ps:=by
 obtain⟨a,l,c,k,j⟩:=h
 exact⟨_,_,lD l c k,⟨mk,a,j,kc⟩,nm,(lD l c k).binds b⟩
theorem FnAt.law {fa:Addr} (h:FnAt K (nsIn K mainGlobals "law") "law" "law" st) (X:K.In hp) (G:hp.Ns mainGlobals mg) (e:mg "law" = some (.ref fa)):∃kV dc pm an cd ct,vX K "law" "law" st fa (PySem.W.fnOf "law" "law" (dS st) (bN st) (ak st) .none kV dc pm an cd ct):=by
 obtain⟨a,l,c,k,j⟩:=h
 cases e.symm.trans (mg_of X G a)
 exact⟨_,_,_,_,_,_,lD l c k⟩
structure zW (K:Fg) (x:Str) (C:Addr):Prop where
 a:nsIn K mainGlobals x=some (some (.ref C))
 e1:findIn K (.ref C) "__getattribute__" = some (some (.builtin "BaseException.__getattribute__"))
 e2:findIn K (.ref C) "__getattr__" = some none
 e3:findIn K (.ref C) "__class__" = some (some (.builtin "object.__class__"))
 e4:mroIn K C (.type "object")=some true
 e5:mroIn K C (.type "BaseException")=some true
 e6:isClsIn K C=true
 eg:specialIn K (.builtin "object.__class__") "__get__" = some (some (.builtin "getset_descriptor.__get__"))
 et:takesIn K (.builtin "object.__class__")=some true
theorem zW.xc (h:zW K x C):pM K C:=⟨h.e1,h.e2,h.e3,h.eg,h.et,h.e4,h.e5,h.e6⟩
structure uU (K:Fg) (x:Str) (C:Addr):Prop where
 a:nsIn K mainGlobals x=some (some (.ref C))
 pg:plainGet K C Str.empty=true
 hd:hasDictIn K C=true
 po:plainOver K C=true
 sa:findIn K (.ref C) "__setattr__" = some (some (.builtin "object.__setattr__"))
theorem uU.cl (h:uU K x C):Bv K C:=⟨h.pg,h.hd,h.po,h.sa⟩
theorem uU.fd (h:uU K x C) {f:Str} (n:findIn K (.ref C) f=some none):gP K C f:=⟨h.cl,n⟩
end
structure Zn where
 P:Program
 w:World
 K:Fg
 mg:Str->Option Value
 base:Heap
noncomputable abbrev Fn (z:Zn):=iw z.P z.w z.K z.mg z.base
noncomputable abbrev In (z:Zn):=sP z.P z.w z.K z.mg z.base
section
variable {P:Program} {w:World} {K:Fg} {mg:Str->Option Value} {base:Heap} {x m q:Str} {st:Stmt} {N ps:List Str} {k j n:Nat} {d:DS} {C:Addr} {g:D1}
theorem qv {sc:Scope} (a:sc.kind=.function:=by rfl) (b:sc.isCoroutine=false:=by rfl) (c:sc.isGenerator=false:=by rfl) (d:N.Nodup:=by decide +kernel) (e:N.take ps.length=ps:=by rfl)
  (f:∀x∈ps,sc.names.lookup x=some .local \/ sc.names.lookup x=some .cell:=by decide +kernel) (g:∀y∈sc.names,y.2≠.free:=by decide +kernel):aL N ps sc:=⟨a,b,c,d,e,f,g⟩
theorem iw.go (D:dI K mg x st ps) (S:aL N ps (ak st))
  (hb:∀(f:Addr) (eO:Value) (A:Around) (outer:List Env) (s:Shared) (H:Hp) (E:XK),df k (A.deeper (envOfC x (ak st) s.heap.objs.size f eO))->Good (ee (iF P w) P w K mg base N x (ak st) f eO A outer s H E) (fun _=>E) →
   sH (ee (iF P w) P w K mg base N x (ak st) f eO A outer s H E) (fun _=>E) (bN st) d):iw P w K mg base (k+1) x ps.length (ju N.length d):=iw.of D S fun f eO A outer s H E hr=>hb f eO A outer s H E hr (nY S hr)
theorem sP.go (D:sQ K mg x C q st ps) (S:aL N ps (ak st))
  (hb:∀(f:Addr) (eO:Value) (A:Around) (outer:List Env) (s:Shared) (H:Hp) (E:XK),df k (A.deeper (envOfC q (ak st) s.heap.objs.size f eO))->Good (ee (iF P w) P w K mg base N q (ak st) f eO A outer s H E) (fun _=>E) →
   sH (ee (iF P w) P w K mg base N q (ak st) f eO A outer s H E) (fun _=>E) (bN st) d):sP P w K mg base (k+1) x C ps.length (ju N.length d):=sP.of D S fun f eO A outer s H E hr=>hb f eO A outer s H E hr (nY S hr)
theorem E8 {f:Addr} {fd:FuncData} (F:vX K x q st f fd) (S:aL N ps (ak st))
  (hb:∀(eO:Value) (A:Around) (outer:List Env) (s:Shared) (H:Hp) (E:XK),df k (A.deeper (envOfC q (ak st) s.heap.objs.size f eO))->Good (ee (iF P w) P w K mg base N q (ak st) f eO A outer s H E) (fun _=>E) →
   sH (ee (iF P w) P w K mg base N q (ak st) f eO A outer s H E) (fun _=>E) (bN st) d):fX P w K mg base (iF P w) (k+1) f fd ps (vm K ps.length (ju N.length d)):=qY F S fun eO A outer s H E hr=>hb eO A outer s H E hr (nY S hr)
theorem iw.up (F:iw P w K mg base j x n g) (h:j≤k:=by first | omega | decide):iw P w K mg base k x n g:=F.mono h
theorem sP.up (F:sP P w K mg base j x C n g) (h:j≤k:=by first | omega | decide):sP P w K mg base k x C n g:=F.mono h
end
end L2
end
section
namespace Hd
open PySem PySem.Spec PyProof.Rows PySem.W L2
section
variable {K:Fg} {l:List En} {e:En}
theorem Sat.at (h:Sat K l) (i:Nat) (hi:l[i]? = some e):e.1 K=e.2:=h _ (List.mem_of_getElem? hi)
theorem pZ {f:Fg->Bool} (h:(eb f).1 K=(eb f).2):f K=true:=by
 have h':vv.b (some (f K))=vv.b (some true):=h
 injection h' with h1; injection h1
theorem tu {f:Fg->Option Bool} {v:Option Bool} (h:(eo f v).1 K=(eo f v).2):f K=v:=by
 have h':vv.b (f K)=vv.b v:=h
 injection h'
theorem kD {f:Fg->Option (Option Value)} {v:Option (Option Value)} (h:(ev f v).1 K=(ev f v).2):f K=v:=by
 have h':vv.v (f K)=vv.v v:=h
 injection h'
theorem E9 {g:Fg->Option (Option Value)} {x q:Str} {st:Stmt} (h:(ef g x q st).1 K=(ef g x q st).2):FnAt K (g K) x q st:=by
 have h':vv.f (vw K (g K) q)=vv.f (some (PySem.W.fnOf x q (dS st) (bN st) (ak st) .none .none .none .none none .none .none,true)):=h
 injection h' with h1
 unfold vw at h1
 split at h1
 ·rename_i f hf
  split at h1
  ·rename_i a1 a2 fd a4 hl
   injection h1 with h2
   injection h2 with h3 h4
   rw[Bool.and_eq_true,Bool.and_eq_true] at h4
   obtain⟨⟨h5,h6⟩,h7⟩:=h4
   obtain⟨n1,n2,n3,n4,n5,n6,n7,n8,n9,Mg,Mh,Mi,Mj,Ml,Mm⟩:=fd
   simp only[PySem.W.fnOf,FuncData.mk.injEq] at h3
   obtain⟨rfl,rfl,rfl,rfl,rfl,rfl,rfl,rfl,_,_,_,_,_,_,rfl⟩:=h3
   exact .mk hf hl h5 h6 h7
  ·cases h1
 ·cases h1
theorem Fa {x:Str} {C:Addr} (h:Sat K (AS x C)):zW K x C :=
 ⟨kD (h.at 0 rfl),kD (h.at 1 rfl),kD (h.at 2 rfl),kD (h.at 3 rfl),tu (h.at 4 rfl),tu (h.at 5 rfl),pZ (h.at 6 rfl),kD (h.at 7 rfl),tu (h.at 8 rfl)⟩
theorem Fb {x:Str} {C:Addr} (h:Sat K (Gu x C)):uU K x C :=
 ⟨kD (h.at 0 rfl),pZ (h.at 1 rfl),pZ (h.at 2 rfl),pZ (h.at 3 rfl),kD (h.at 4 rfl)⟩
variable {L:List (List En)} {g:List En}
theorem All.at (h:All L K) (i:Nat) (hi:L[i]? = some g):Sat K g:=h _ (List.mem_of_getElem? hi)
theorem All.b (h:All L K) (i:Nat) {f:Fg->Bool} (hi:L[i]? = some [eb f]):f K=true:=pZ ((h.at i hi).at 0 rfl)
theorem All.o (h:All L K) (i:Nat) {f:Fg->Option Bool} {v:Option Bool} (hi:L[i]? = some [eo f v]):f K=v:=tu ((h.at i hi).at 0 rfl)
theorem All.v (h:All L K) (i:Nat) {f:Fg->Option (Option Value)} {v:Option (Option Value)} (hi:L[i]? = some [ev f v]):f K=v:=kD ((h.at i hi).at 0 rfl)
theorem All.f (h:All L K) (i:Nat) {g:Fg->Option (Option Value)} {x q:Str} {st:Stmt} (hi:L[i]? = some [ef g x q st]):FnAt K (g K) x q st:=E9 ((h.at i hi).at 0 rfl)
theorem All.x (h:All L K) (i:Nat) {x:Str} {C:Addr} (hi:L[i]? = some (AS x C)):zW K x C:=Fa (h.at i hi)
theorem All.c (h:All L K) (i:Nat) {x:Str} {C:Addr} (hi:L[i]? = some (Gu x C)):uU K x C:=Fb (h.at i hi)
end
theorem CG {l:PySem.W.OpenLaw} {n k:Nat} {q:Program} {loose:List Str} {XP:(Str->Option Value)->Heap->Prop} {d:DefRec} {CX:World->qt} {sp:Fg->Sp} {x:Str} {as:List Addr} {L:List (List En)}
  (hn:l.most=some n) (C1:n≤sizeLine) (Hk:d.params.defaults=[]) (hr:df k callerA)
  (F:∀(w:World) (mg:Str->Option Value) (fa:Addr) (h:Heap) (K:Fg),K.In h->All L K->h.Ns mainGlobals mg->mg d.name=some (.ref fa) →
   ∃fd:FuncData,(∀(s:Shared) (u:Value),BindsTo s fd ⟨[u],[]⟩ [(x,u)]) ∧
    ∀base:Heap,K.In base->base.Ns mainGlobals mg->fX l.prog w K mg base (CX w) k fa fd [x] (sp K))
  (Aq:∀(K:Fg) (H:Hp) (a:Addr) (ns:List Int),ns.length≤n->BP H->iq K H a (ns.map V.int)->sp K [.ref a] H (fun v _=>v=.bl true) fun _ _ _=>False)
  (Hn:∀(w:World) (H:Hp) (s:Shared) (e:Value) (s':Shared),CX w [] H s (fun _ _ _=>False) e s'->False) :
  PySem.W.WalkO q loose XP (hook as L).says l.row.toRowW d [] (fun f vs=>PySem.call f vs):=by
 refine Att.pe hn Hk fun w s₀ s₁ mg mb fa o pm cd doc a vs ns G Y ho hd vz Ee BN hints hlen hg=>?_
 obtain⟨K,KX,hK⟩:=Y
 obtain⟨fd,hb,hF⟩:=F w mg fa _ K KX hK G.T.g Ee
 exact vW KX G.T.g G.T.b G.T.builtins G.T.nolimit hg BN hints (Nat.le_trans hlen C1) hr hF hb (fun H hO hS=>Aq K H a ns hlen hO hS) fun H e s'=>Hn w H s₁ e s'
end Hd
end
section
namespace Sb
open PySem L2
inductive Pc where
 | pl (j k:Int)
 | pt (t s b:Int)
noncomputable def Pc.js:Pc->List Int
 | .pl j k=>[j,k]
 | .pt t s b=>[t,s,b]
noncomputable def Pc.enc:Pc->PV
 | .pl j k=>.tup [.str "plain",.int j,.int k]
 | .pt t s b=>.tup [.str "points",.int t,.int s,.int b]
noncomputable abbrev cS:=List Pc
noncomputable abbrev ay (ps:cS):PV:=.lst (ps.map Pc.enc)
noncomputable abbrev Sg:=Int×Nat
noncomputable def fA (s:Sg):PV:=.tup [.int s.1,.int s.2]
noncomputable abbrev bV (ss:List Sg):PV:=.lst (ss.map fA)
noncomputable abbrev oV:=Nat×Int×Int
noncomputable def ny (s:oV):PV:=.tup [.int s.1,.int s.2.1,.int s.2.2]
noncomputable abbrev gG (w:List oV):PV:=.lst (w.map ny)
noncomputable abbrev Rt:=Nat×List oV
noncomputable def p9 (r:Rt):PV:=.tup [.int r.1,gG r.2]
noncomputable abbrev eX (rs:List Rt):PV:=.lst (rs.map p9)
noncomputable def rG:Option Nat->PV
 | none=>.bb
 | some n=>.int n
noncomputable abbrev ie (ns:List Int):PV:=.lst (ns.map .int)
noncomputable abbrev Fc (ns:List Nat):PV:=.lst (ns.map fun(n:Nat)=>PV.int (n:Int))
noncomputable def Pc.at (ps:cS) (n:Nat):Pc:=ps.getD n (.pl 0 0)
noncomputable def beyond (ps:cS) (a:Nat) (j:Int):Option Nat:=(List.range ps.length).find? fun k=>decide (k≠a) && decide (j∈(Pc.at ps k).js)
noncomputable def qa (p:Pc) (j:Int):List Int:=match p with
 | .pl a b=>[a,b].filter fun o=>decide (o≠j)
 | .pt t s b=>if j=t then[s,b] else[t]
theorem AH (s:Sg):Pl deep (fA s):=by
 intro y hy
 simp only[List.mem_cons,List.not_mem_nil,or_false] at hy
 rcases hy with rfl | rfl<;>exact dj _
theorem xv (a b:Sg) (h:fA a=fA b):a=b:=by
 obtain⟨a1,a2⟩:=a
 obtain⟨b1,b2⟩:=b
 simp[fA] at h
 obtain⟨h1,h2⟩:=h
 subst h1
 have:a2=b2:=by omega
 subst this
 rfl
@[simp] theorem Gk {neg:Bool} {j:Int} {n:Nat} {ss:List Sg} {M:aC}:pv neg (.tup [.int j,.int n]) (bV ss) M=.ok (.bl (if neg then !decide ((j,n)∈ss) else decide ((j,n)∈ss))) M:=by
 show pv neg (fA (j,n)) _ M=_
 exact ot (enc:=fA) AH xv (a:=(j,n)) jj
@[simp] theorem cx (p:Pc) (M:aC):ba [p.enc] M=.ok (ie p.js) M:=by cases p<;>rfl
@[simp] theorem JA {M:aC}:gf false (.str "plain") (.str "plain") M=.ok (.bl true) M:=by with_unfolding_all rfl
@[simp] theorem JB {M:aC}:gf false (.str "points") (.str "plain") M=.ok (.bl false) M:=by with_unfolding_all rfl
@[simp] theorem JC {M:aC}:gf false (.str "plain") (.str "points") M=.ok (.bl false) M:=by with_unfolding_all rfl
@[simp] theorem JD {M:aC}:gf false (.str "points") (.str "points") M=.ok (.bl true) M:=by with_unfolding_all rfl
theorem fO {xs:List PV} {i:Nat} {x:PV} {M:aC} (h:xs[i]? = some x):cK (.tup xs) (.int i) M=.ok x M:=by
 have hl:i<xs.length:=(List.getElem?_eq_some_iff.mp h).1
 simp only[cK,wu,vf,sh]
 rw[if_pos (by omega),if_pos (by omega)]
 simp[h]
theorem i3 {xs:List PV} {i:Nat} {x:PV} {M:aC} (h:xs[i]? = some x):cK (.lst xs) (.int i) M=.ok x M:=by
 have hl:i<xs.length:=(List.getElem?_eq_some_iff.mp h).1
 simp only[cK,jj,vf,sh]
 rw[if_pos (by omega),if_pos (by omega)]
 simp[h]
@[simp] theorem JE {x:PV} {xs:List PV} {M:aC}:cK (.tup (x::xs)) (.int 0) M=.ok x M:=fO (i:=0) rfl
@[simp] theorem JF {x y:PV} {xs:List PV} {M:aC}:cK (.tup (x::y::xs)) (.int 1) M=.ok y M:=fO (i:=1) rfl
@[simp] theorem JG {x y z:PV} {xs:List PV} {M:aC}:cK (.tup (x::y::z::xs)) (.int 2) M=.ok z M:=fO (i:=2) rfl
@[simp] theorem JH {x y z u:PV} {xs:List PV} {M:aC}:cK (.tup (x::y::z::u::xs)) (.int 3) M=.ok u M:=fO (i:=3) rfl
@[simp] theorem cO {xs:List PV} {M:aC} (h:xs.length≤100):kt false xs M=.ok (.lst xs) M:=wo (Nat.le_trans h (by decide))
theorem bY (p:Pc) (j:Int) (M:aC):cE ba [p.enc,.int j] M=.ok (ie (qa p j)) M:=by
 cases p with
 | pl a b =>
  have e:=cx (.pl a b) M
  simp only[Pc.enc] at e
  simp only[cE,ju,Pc.enc]
  simp
  rw[fx (xs:=[a,b]) (w:=none) (M':=M) PV.int (fun o=>decide (o≠j)) PV.int (fun ρ=>∃y,ρ=[y,some (.int j)]) (by simp[e]; rfl) trivial ⟨none,rfl⟩ (fun x _ ρ hρ=>?_) (Nat.le_trans (show 2≤3 by decide) (by decide))]
  ·rw[cO (by simp; exact Nat.le_trans (List.length_filter_le _ _) (show 2≤100 by decide))]
   rfl
  ·obtain⟨y,rfl⟩:=hρ
   exact⟨_,rfl,⟨_,rfl⟩,by simp,fun _=>by simp⟩
 | pt t s b =>
  simp only[cE,ju,Pc.enc]
  simp
  by_cases h:j=t<;>simp[h,qa]
theorem jB {ps:cS} {n:Nat} (h:n<ps.length):ps[n]? = some (Pc.at ps n):=by
 unfold Pc.at
 rw[List.getD_eq_getElem?_getD,List.getElem?_eq_getElem h]
 rfl
theorem rH {ps:cS} {n:Nat} (h:n<ps.length):Pc.at ps n∈ps:=List.mem_of_getElem? (jB h)
theorem tw {ps:cS} {n:Nat} {M:aC} (h:n<ps.length):cK (ay ps) (.int n) M=.ok (Pc.at ps n).enc M:=i3 (by rw[zJ,jB h]; rfl)
noncomputable def uV (ps:cS) (j:Int):List Nat:=(List.range ps.length).filter fun k=>decide (j∈(Pc.at ps k).js)
theorem xw (ps:cS):iM (ps.map Pc.enc)=(List.range ps.length).map fun k=>.tup [.int k,(Pc.at ps k).enc]:=by
 refine List.ext_getElem? fun i=>?_
 unfold iM
 rw[zJ,List.getElem?_zipIdx,zJ,zJ]
 by_cases h:i<ps.length
 ·rw[jB h,List.getElem?_range h]
  simp
 ·rw[List.getElem?_eq_none (by omega),List.getElem?_eq_none (by simp; omega)]
  rfl
theorem uW {n:Nat} (h:n≤100):(List.range n).length≤lim:=by
 rw[List.length_range]; exact Nat.le_trans h (by decide)
theorem bW (ps:cS) (j:Int) (M:aC) (hl:ps.length≤100):cj ba [ay ps,.int j] M=.ok (Fc (uV ps j)) M:=by
 simp only[cj,ju]
 simp
 rw[fx (xs:=List.range ps.length) (w:=none) (M':=M) (fun k=>.tup [.int k,(Pc.at ps k).enc]) (fun k=>decide (j∈(Pc.at ps k).js)) (fun(k:Nat)=>.int k) (fun ρ=>∃y z,ρ=[y,z,some (.int j)]) ?_ trivial ⟨none,none,rfl⟩ (fun x _ ρ hρ=>?_) (uW hl)]
 ·rw[cO (by simp; exact Nat.le_trans (List.length_filter_le _ _) (by rw[List.length_range]; exact hl))]
  rfl
 ·unfold iE; simp[xw]
 ·obtain⟨y,z,rfl⟩:=hρ
  exact⟨_,rfl,⟨_,_,rfl⟩,by simp,fun _=>by simp⟩
theorem bO (ps:cS) (n:Nat) (j:Int) (M:aC) (hl:ps.length≤100):cM (cj ba) [ay ps,.int n,.int j] M=.ok (rG (beyond ps n j)) M:=by
 have loop:∀(xs:List Nat) (y:Option PV),aG (jY none (gN 3) (bE (bu (aA (gf true) (af 3) (af 1))) (dP (af 3)) fF) (xs.map fun(n:Nat)=>PV.int (n:Int))) (dP (dC .bb)) [some (ay ps),some (.int n),some (.int j),y] M=.rt (rG (xs.find? fun k=>decide (k≠n))) M:=by
  intro xs
  induction xs with
  | nil=>intro y; rfl
  | cons x xs ih =>
   intro y
   by_cases h:x=n
   ·subst h
    have:=ih (some (.int x))
    simp[jY] at this ⊢
    exact this
   ·have h':¬(x:Int)=n:=by omega
    simp[jY,h,h',rG]
 simp only[cM,ju]
 have:=loop (uV ps j) none
 simp only[zT] at this ⊢
 rw[zU (w:=none) (M':=M) (eT (by simp; exact bW ps j M hl)) trivial]
 simp
 simp at this
 rw[this]
 simp[uV,beyond,Bool.and_comm]
end Sb
end
section
namespace Sb
open PySem L2
theorem CH {n:Nat} (s:oV):PV.er n (ny s)=true:=tq fun x hx=>by
 simp only[List.mem_cons,List.not_mem_nil,or_false] at hx
 rcases hx with rfl | rfl | rfl<;>simp
theorem AI {n:Nat} (w:List oV):PV.er n (gG w)=true:=tm fun x hx=>by
 obtain⟨s,_,rfl⟩:=List.mem_map.mp hx
 exact CH s
theorem Fd {n:Nat} (r:Rt):PV.er n (p9 r)=true:=tq fun x hx=>by
 simp only[List.mem_cons,List.not_mem_nil,or_false] at hx
 rcases hx with rfl | rfl
 ·simp
 ·exact AI _
theorem tB {n:Nat} {α:Type} {enc:α->PV} (h:∀a,PV.er n (enc a)=true) (as:List α):PV.er n (.lst (as.map enc))=true:=tm fun x hx=>by
 obtain⟨a,_,rfl⟩:=List.mem_map.mp hx
 exact h a
noncomputable def jC (ps:cS) (ss:List Sg):Nat->List oV->Int->Nat->List (List oV)
 | 0,_,_,_=>[]
 | n+1,way,j,a=>if a∈way.map (·.1) then[] else(qa (Pc.at ps a) j).flatMap fun o=>match beyond ps a o with
  | none=>[way++[(a,j,o)]]
  | some b=>if (o,b)∈ss then[way++[(a,j,o)]] else jC ps ss n (way++[(a,j,o)]) o b
theorem qb (p:Pc) (j:Int):(qa p j).length≤2:=by
 cases p with
 | pl a b=>exact List.length_filter_le _ _
 | pt t s b=>unfold qa; dsimp only; split<;>simp
theorem uX {ps:cS} {a b:Nat} {j:Int} (h:beyond ps a j=some b):b<ps.length/\b≠a/\j∈(Pc.at ps b).js:=by
 unfold beyond at h
 have h1:=List.mem_of_find?_eq_some h
 have h2:=List.find?_some h
 simp at h1 h2
 exact⟨h1,h2.1,h2.2⟩
theorem ig {α β:Type} {f:α->List β} {k:Nat}:∀(xs:List α),(∀x∈xs,(f x).length≤k)->(xs.flatMap f).length≤xs.length*k
 | [],_=>by simp
 | x::xs,h=>by
  have h1:=h x (by simp)
  have h2:=ig xs fun y hy=>h y (by simp[hy])
  rw[List.flatMap_cons,List.length_append,zE,Nat.succ_mul]
  omega
noncomputable def gW (ps:cS) (ss:List Sg) (n:Nat) (way:List oV) (j:Int) (a:Nat) (o:Int):List (List oV):=match beyond ps a o with
  | none=>[way++[(a,j,o)]]
  | some b=>if (o,b)∈ss then[way++[(a,j,o)]] else jC ps ss n (way++[(a,j,o)]) o b
theorem i4 (ps:cS) (ss:List Sg) (n:Nat) (way:List oV) (j:Int) (a:Nat):jC ps ss (n+1) way j a=if a∈way.map (·.1) then[] else(qa (Pc.at ps a) j).flatMap (gW ps ss n way j a):=rfl
theorem iA (ps:cS) (ss:List Sg):∀(n:Nat) (way:List oV) (j:Int) (a:Nat),(jC ps ss n way j a).length≤2 ^ n
 | 0,way,j,a=>Nat.zero_le _
 | n+1,way,j,a=>by
  rw[i4]
  split
  ·simp
  ·have h:∀o∈qa (Pc.at ps a) j,(gW ps ss n way j a o).length≤2 ^ n:=fun o _=>by
    have:=Nat.one_le_two_pow (n:=n)
    unfold gW
    split
    ·exact this
    ·split
     ·exact this
     ·exact iA ps ss n _ _ _
   have h1:=ig _ h
   have h2:=Nat.mul_le_mul_right (2 ^ n) (qb (Pc.at ps a) j)
   rw[Nat.pow_succ]
   omega
theorem qc (ps:cS) (ss:List Sg) (n:Nat) (way:List oV) (j:Int) (a:Nat) (o:Int):(gW ps ss n way j a o).length≤2 ^ n:=by
 have:=Nat.one_le_two_pow (n:=n)
 unfold gW
 split
 ·exact this
 ·split
  ·exact this
  ·exact iA ps ss n _ _ _
theorem zX {n:Nat} (h:n≤20):2 ^ n≤1048576:=Nat.pow_le_pow_right (by decide) h
structure l4 (ps:cS) (way:List oV) (a:Nat):Prop where
 sd:ps.length≤16
 lt:a<ps.length
 nd:(way.map (·.1)).Nodup
 all:∀s∈way,s.1<ps.length
theorem l4.step {ps:cS} {way:List oV} {a b:Nat} {j o:Int} (h:l4 ps way a) (ha:a∉way.map (·.1)) (hb:beyond ps a o=some b):l4 ps (way++[(a,j,o)]) b:=by
 refine⟨h.sd,(uX hb).1,?_,fun s hs=>?_⟩
 ·rw[List.map_append,List.nodup_append]
  refine⟨h.nd,by simp,fun x hx y hy=>?_⟩
  simp at hy
  subst hy
  rintro rfl
  exact ha hx
 ·rcases List.mem_append.mp hs with hs | hs
  ·exact h.all s hs
  ·simp at hs
   subst hs
   exact h.lt
theorem nz:∀{n:Nat} {xs:List Nat},xs.Nodup->(∀x∈xs,x<n)->xs.length≤n
 | 0,xs,_,hl=>by
  cases xs with
  | nil=>simp
  | cons x xs=>exact absurd (hl x (by simp)) (by omega)
 | n+1,xs,h,hl=>by
  have h1:(xs.erase n).Nodup:=h.erase n
  have h2:∀x∈xs.erase n,x<n:=fun x hx=>by
   have h3:=hl x (List.mem_of_mem_erase hx)
   have h4:x≠n:=fun e=>by subst e; exact(h.not_mem_erase) hx
   omega
  have h3:=nz h1 h2
  have h4:=List.length_erase_le (a:=n) (l:=xs)
  by_cases hm:n∈xs
  ·rw[List.length_erase_of_mem hm] at h3
   omega
  ·rw[List.erase_of_not_mem hm] at h3
   omega
theorem l4.len {ps:cS} {way:List oV} {a:Nat} (h:l4 ps way a):way.length≤ps.length:=by
 have:=nz h.nd fun x hx=>by
  obtain⟨s,hs,rfl⟩:=List.mem_map.mp hx
  exact h.all s hs
 simpa using this
noncomputable def nA (n:Nat) (g:D1):Prop:=∀ps ss way j a M,l4 ps way a->ps.length+1≤way.length+n->n≤20->g [ay ps,bV ss,gG way,.int j,.int a] M=.ok (.lst ((jC ps ss n way j a).map gG)) M
theorem CI {way:List oV} {a:Nat} {M:aC}:pv false (.int a) (.lst (way.map fun s=>PV.int s.1)) M=.ok (.bl (decide (a∈way.map (·.1)))) M:=by
 have e:(way.map fun s=>PV.int s.1)=(way.map fun s=>((s.1:Nat):Int)).map PV.int:=by simp
 rw[e,xr]
 have:((a:Int)∈way.map fun s=>((s.1:Nat):Int))↔a∈way.map (·.1):=by
  simp only[List.mem_map]
  constructor
  ·rintro⟨s,hs,h⟩; exact⟨s,hs,by omega⟩
  ·rintro⟨s,hs,h⟩; exact⟨s,hs,by omega⟩
 simp only[this]
 rfl
theorem firsts {ρ:cI} {M:aC} {way:List oV} (i:Nat) (h:ρ[i]? = some (some (gG way))) (hl:way.length≤100):fk false [none] (iL (af i)) (gN 0) wM (aA cK (af 0) (dC (.int 0))) ρ M=.ok (.lst (way.map fun s=>PV.int s.1)) M:=by
 rw[fx (xs:=way) (w:=none) (M':=M) ny (fun _=>true) (fun s=>PV.int s.1) (fun ρ=>∃y,ρ=[y]) (eT (by rw[dD,h])) trivial ⟨none,rfl⟩ (fun x _ ρ hρ=>?_) (Nat.le_trans hl (by decide))]
 ·rw[List.filter_eq_self.mpr (fun _ _=>rfl),cO (by rw[zK]; exact hl)]
 ·obtain⟨y,rfl⟩:=hρ
  exact⟨_,rfl,⟨_,rfl⟩,rfl,fun _=>by simp[ny]⟩
theorem CJ {n:Nat} {g:D1} (h:nA n g):nA (n+1) (trunc (kB (cE ba) (cM (cj ba)) g)):=by
 intro ps ss way j a M ok hn C1
 have hl:=ok.len
 have hf:=ok.sd
 refine ou.trunc ?_ (tB AI _)
 refine gD (P:=fun r=>∃G,r=.ok _ (M++G)) ?_
 simp only[zC,zD,zE,zF,Nat.zero_add,Nat.reduceAdd,Nat.reduceSub,List.replicate,zG,zH]
 have vg:bu (aA (pv false) (af 4) (fk false [none] (iL (af 2)) (gN 0) wM (aA cK (af 0) (dC (.int 0))))) [some (ay ps),some (bV ss),some (gG way),some (.int j),some (.int a),none,none,none,none] M=.ok (decide (a∈way.map (·.1))) M:=by
  simp only[jA,dE,dD,zB,zA,ai]
  rw[firsts (way:=way) 2 rfl (by omega)]
  simp only[ai,CI]
 refine aK (iI _ _ vg (fun ha=>?_) fun ha=>?_)
 ·have Gm:=of_decide_eq_true ha
  refine gk (.lst []) M (by simp) (gF (fy ⟨[],?_⟩))
  rw[i4,if_pos Gm]
  simp
 ·have Gm:=of_decide_eq_false ha
  refine eU (aB (cc (.obj M.length) (M++[.lst []]) (by simp) ?_))
  dsimp only[List.set]
  refine aK (gQ PV.int (fun pre ρ M'=>∃y6 y7 y8,ρ=[some (ay ps),some (bV ss),some (gG way),some (.int j),some (.int a),some (.obj M.length),y6,y7,y8]/\M'=M++[.lst ((pre.flatMap (gW ps ss n way j a)).map gG)]) (qa (Pc.at ps a) j) none _
   (eT (by simp[tw ok.lt,bY])) trivial ⟨none,none,none,rfl,rfl⟩ ?_ ?_)
  ·rintro pre o post hx ρ M' ⟨y6,y7,y8,rfl,rfl⟩
   have jc:(pre.flatMap (gW ps ss n way j a)).length≤2*2 ^ n:=by
    have h1:=ig pre fun o _=>qc ps ss n way j a o
    have h2:pre.length≤2:=by
     have:=qb (Pc.at ps a) j
     rw[hx] at this
     simp at this
     omega
    exact Nat.le_trans h1 (Nat.mul_le_mul_right _ h2)
   have Iv:=qc ps ss n way j a o
   have yC:=zX (n:=n) (by omega)
   refine⟨_,rfl,?_⟩
   dsimp only[List.set]
   refine cc (gG (way++[(a,j,o)])) (M++[.lst ((pre.flatMap (gW ps ss n way j a)).map gG)]) (by simp[ny]; rw[cO (by simp; omega)]; simp[ny]) ?_
   dsimp only[List.set]
   refine cc (rG (beyond ps a o)) (M++[.lst ((pre.flatMap (gW ps ss n way j a)).map gG)]) (by simp[bO _ _ _ _ (show ps.length≤100 by omega)]) ?_
   dsimp only[List.set]
   rw[List.flatMap_append,List.flatMap_cons,List.flatMap_nil,zI]
   cases hb:beyond ps a o with
   | none =>
    refine CF (M++[.lst ((pre.flatMap (gW ps ss n way j a)).map gG)]) (by simp[rG,B1,lI]) (dF .bb (M++[.lst ((pre.flatMap (gW ps ss n way j a)++[way++[(a,j,o)]]).map gG)]) (by simp[cL,xX,lim,-List.length_flatMap]; omega) (cw trivial ⟨_,_,_,rfl,?_⟩))
    simp[gW,hb]
   | some b =>
    refine iI (decide ((o,b)∈ss)) (M++[.lst ((pre.flatMap (gW ps ss n way j a)).map gG)]) (by simp[rG,B1,lI]) (fun hs=>?_) fun hs=>?_
    ·have Ej:=of_decide_eq_true hs
     refine dF .bb (M++[.lst ((pre.flatMap (gW ps ss n way j a)++[way++[(a,j,o)]]).map gG)]) (by simp[cL,xX,lim,-List.length_flatMap]; omega) (cw trivial ⟨_,_,_,rfl,?_⟩)
     simp[gW,hb,Ej]
    ·have Ej:=of_decide_eq_false hs
     have hg:=h ps ss (way++[(a,j,o)]) o b (M++[.lst ((pre.flatMap (gW ps ss n way j a)).map gG)]) (ok.step Gm hb) (by simp; omega) (by omega)
     simp only[gW,hb,if_neg Ej] at Iv ⊢
     refine dF .bb (M++[.lst ((pre.flatMap (gW ps ss n way j a)++jC ps ss n (way++[(a,j,o)]) o b).map gG)]) ?_ (cw trivial ⟨_,_,_,rfl,rfl⟩)
     simp[rG,k9,xX] at hg ⊢
     rw[hg]
     simp[lim,-List.length_flatMap]
     omega
  ·rintro ρ' M' ⟨y6,y7,y8,rfl,rfl⟩
   refine aB (gk (.lst ((jC ps ss (n+1) way j a).map gG)) (M++[.gone]) ?_ (fy ⟨[.gone],rfl⟩))
   rw[i4,if_neg Gm]
   simp[wH]
end Sb
end
section
namespace Sb
open PySem L2
theorem Iw (n:Nat):oZ 0 n=(List.range n).map fun(k:Nat)=>PV.int k:=by
 unfold oZ
 refine List.map_congr_left fun k _=>?_
 simp
theorem AJ {d:DE} {ρ:cI} {M:aC} {n:Nat} (h:d ρ M=.ok (.int n) M) (hn:n≤100000):B7 [d] ρ M=.ok ((List.range n).map fun(k:Nat)=>PV.int k,none) M:=by
 have e:cQ [d] ρ M=.ok [.int n] M:=by rw[aN,h]; rfl
 unfold B7
 rw[e,ai]
 dsimp only
 have Lu:(2:Int) ^ 62=4611686018427387904:=by simp only[Int.reducePow]
 rw[Lu,if_pos ⟨by omega,by omega⟩,Int.toNat_natCast,Iw]
theorem F5 (p:Pc) (M:aC):Az false p.enc (some 1) none M=.ok (.tup (p.js.map .int)) M:=by cases p<;>rfl
end Sb
end
section
namespace L2
open PySem
theorem fB {α:Type} [BEq α] [LawfulBEq α] {enc:α->PV} (hp:∀a,Pl deep (enc a)) (inj:∀a b,enc a=enc b->a=b) {a:α} {as:List α} {M:aC}:countP (.lst (as.map enc)) [enc a] M=.ok (.int (as.count a)) M:=by
 unfold countP
 dsimp only
 rw[dY deep _ (hp a),ph]
 dsimp only
 rw[fw (g:=bz deep) fun z hz=>by
  obtain⟨b,_,rfl⟩:=List.mem_map.mp hz
  exact dY deep _ (hp b)]
 dsimp only
 have:((as.map enc).map (bz deep)).countP (fun q=>PyData.eqv q (bz deep (enc a)))=as.count a:=by
  rw[List.countP_map,List.countP_map]
  unfold List.count
  refine List.countP_congr fun b _=>?_
  simp only[Function.comp]
  rw[oq deep _ _ (hp b) (hp a)]
  simp only[beq_iff_eq]
  exact⟨fun e=>inj _ _ e,fun e=>by rw[e]⟩
 rw[this]
theorem Lv {i j:Nat} {x y:PV} {ρ:cI}:gT 2 (fj (gN i) (fj (gN j) ni)) (.tup [x,y]) ρ=some ((ρ.set i (some x)).set j (some y)):=rfl
end L2
namespace Sb
open PySem L2
structure fI (ps:cS) (ss:List Sg):Prop where
 xx:1≤ps.length
 sd:ps.length≤16
 oZ:∀p∈ps,∀j∈p.js,0≤j/\j≤999
 once:∀p∈ps,p.js.Nodup
 two:∀j,(uV ps j).length≤2
 xy:ss.length≤16
 nd:ss.Nodup
 sg:∀s∈ss,s.2<ps.length/\s.1∈(Pc.at ps s.2).js
noncomputable def ox (g:D1):Prop:=∀(ps:cS) (j:Int) (M:aC),ps.length≤100->g [ay ps,.int j] M=.ok (Fc (uV ps j)) M
noncomputable def jD (g:D1):Prop:=∀(p:Pc) (M:aC),g [p.enc] M=.ok (ie p.js) M
noncomputable def gH (g:D1) (xs:List PV):Prop:=∀M,g xs M=.ok .bb M
theorem cz {c:Addr} {gp:D1} (hp:ox gp) {ps:cS} (hl:ps.length≤100) (h2:∀j,(uV ps j).length≤2) {js:List Int} (hr:∀j∈js,0≤j/\j≤999) (hn:js.Nodup):gH (bU c gp) [ay ps,ie js]:=by
 intro M
 unfold bU
 refine gD (P:=fun r=>r=.ok .bb M) ?_
 simp only[zC,zD,zE,zF,Nat.zero_add,Nat.reduceAdd,Nat.reduceSub,List.replicate,zG,zH]
 refine gQ PV.int (fun pre ρ M'=>∃y2,ρ=[some (ay ps),some (ie js),y2]/\M'=M) js none M (eT rfl) trivial ⟨none,rfl,rfl⟩ ?_ ?_
 ·rintro pre j post hx ρ M' ⟨y2,rfl,rfl⟩
  have hj:j∈js:=by rw[hx]; simp
  obtain⟨r1,r2⟩:=hr j hj
  have hc:js.count j≤1:=List.nodup_iff_count.mp hn j
  refine⟨_,rfl,?_⟩
  dsimp only[List.set]
  refine aK (kQ M' ?_ (eU (aB (aK (kQ M' ?_ (eU (aB (kQ M' ?_ (eU (cw trivial ⟨_,rfl,rfl⟩))))))))))
  ·simp[sE,jV]
   rw[if_neg (by omega)]
   simp[r2]
  ·simp[jV,fB (enc:=PV.int) (fun a=>dj a) (fun a b e=>by cases e; rfl)]
   omega
  ·simp[hp ps j _ hl,aZ,jV]
   have:=h2 j
   omega
 ·rintro ρ' M' ⟨y2,rfl,rfl⟩
  exact gE rfl
theorem cy {c:Addr} {gc gj:D1} {ps:cS} {ss:List Sg} (hg:fI ps ss) (hc:∀p∈ps,gH gc [ay ps,ie p.js]) (hj:jD gj):gH (bT c gc gj) [ay ps]:=by
 intro M
 unfold bT
 refine gD (P:=fun r=>r=.ok .bb M) ?_
 simp only[zC,zD,zE,zF,Nat.zero_add,Nat.reduceAdd,Nat.reduceSub,List.replicate,zG,zH]
 have h1:=hg.xx
 have h2:=hg.sd
 refine aK (kQ M ?_ (eU (aB (aK (kQ M ?_ (eU (aB ?_)))))))
 ·simp[aZ]
  intro h
  rw[h] at h1
  simp at h1
 ·simp[aZ,jV]
  omega
 refine gQ Pc.enc (fun pre ρ M'=>∃y2,ρ=[some (ay ps),y2]/\M'=M) ps none M (eT rfl) trivial ⟨none,rfl,rfl⟩ ?_ ?_
 ·rintro pre p post hx ρ M' ⟨y2,rfl,rfl⟩
  refine⟨_,rfl,?_⟩
  dsimp only[List.set]
  refine dF .bb M' ?_ (cw trivial ⟨_,rfl,rfl⟩)
  simp[hj p,hc p (by rw[hx]; simp) M']
 ·rintro ρ' M' ⟨y2,rfl,rfl⟩
  exact gE rfl
theorem cf {c:Addr} {gj:D1} {ps:cS} {ss:List Sg} (hg:fI ps ss) (hj:jD gj):gH (bJ c gj) [ay ps,bV ss]:=by
 intro M
 unfold bJ
 refine gD (P:=fun r=>r=.ok .bb M) ?_
 simp only[zC,zD,zE,zF,Nat.zero_add,Nat.reduceAdd,Nat.reduceSub,List.replicate,zG,zH]
 have h1:=hg.xy
 refine aK (kQ M ?_ (eU (aB ?_)))
 ·simp[aZ,jV]
  omega
 refine gQ fA (fun pre ρ M'=>∃y2 y3,ρ=[some (ay ps),some (bV ss),y2,y3]/\M'=M) ss none M (eT rfl) trivial ⟨none,none,rfl,rfl⟩ ?_ ?_
 ·rintro pre s post hx ρ M' ⟨y2,y3,rfl,rfl⟩
  have hs:s∈ss:=by rw[hx]; simp
  obtain⟨r1,r2⟩:=hg.sg s hs
  have hc:ss.count s≤1:=List.nodup_iff_count.mp hg.nd s
  have xU:=fB (enc:=fA) AH xv (a:=s) (as:=ss) (M:=M')
  obtain⟨j,n⟩:=s
  refine⟨_,rfl,?_⟩
  dsimp only[List.set]
  refine aK (kQ M' ?_ (eU (aB (aK (kQ M' ?_ (eU (aB (kQ M' ?_ (eU (cw trivial ⟨_,_,rfl,rfl⟩))))))))))
  ·simp[fA] at xU ⊢
   rw[xU]
   simp[jV]
   omega
  ·dsimp only at r1
   simp[sE,FV,aZ]
   rw[if_neg (by omega)]
   simp
   omega
  ·simp[tw r1,hj (Pc.at ps n)]
   exact r2
 ·rintro ρ' M' ⟨y2,y3,rfl,rfl⟩
  exact gE rfl
theorem dt {gp gs:D1} {x y:PV} (hp:gH gp [x]) (hs:gH gs [x,y]):gH (cF gp gs) [x,y]:=by
 intro M
 unfold cF
 refine gD (P:=fun r=>r=.ok .bb M) ?_
 exact aK (dF .bb M (by simp[hp M]) (aB (dF .bb M (by simp[hs M]) (gE rfl))))
end Sb
end
section
namespace Sb
open PySem L2
noncomputable def ij (ss:List Sg) (k:Nat):Sg:=ss.getD k (0,0)
theorem tD {ss:List Sg} {n:Nat} (h:n<ss.length):ss[n]? = some (ij ss n):=by
 unfold ij
 rw[List.getD_eq_getElem?_getD,List.getElem?_eq_getElem h]
 rfl
theorem CK {ss:List Sg} {n:Nat} (h:n<ss.length):ij ss n∈ss:=List.mem_of_getElem? (tD h)
noncomputable def fuel:Nat:=17
noncomputable def jE (ps:cS) (ss:List Sg) (k:Nat):List Rt:=(jC ps ss fuel [] (ij ss k).1 (ij ss k).2).map fun w=>(k,w)
noncomputable def fJ (ps:cS) (ss:List Sg):List Rt:=(List.range ss.length).flatMap (jE ps ss)
theorem zY (ss:List Sg):iM (ss.map fA)=(List.range ss.length).map fun k=>.tup [.int k,fA (ij ss k)]:=by
 refine List.ext_getElem? fun i=>?_
 unfold iM
 rw[zJ,List.getElem?_zipIdx,zJ,zJ]
 by_cases h:i<ss.length
 ·rw[tD h,List.getElem?_range h]
  simp
 ·rw[List.getElem?_eq_none (by omega),List.getElem?_eq_none (by simp; omega)]
  rfl
theorem uY (ps:cS) (ss:List Sg) (k:Nat):(jE ps ss k).length≤131072:=by
 unfold jE
 rw[zK]
 exact iA ps ss fuel _ _ _
theorem Iy {ps:cS} {ss:List Sg} (hg:fI ps ss) {k:Nat} (hk:k<ss.length):l4 ps [] (ij ss k).2:=⟨hg.sd,(hg.sg _ (CK hk)).1,by simp,by simp⟩
noncomputable def l5 (g:D1):Prop:=∀ps ss M,fI ps ss->g [ay ps,bV ss] M=.ok (eX (fJ ps ss)) M
theorem CL {n:Nat} (rs:List Rt):PV.er n (eX rs)=true:=tB Fd rs
theorem j8 {n:Nat} {pre post:List Nat} {k:Nat} (h:List.range n=pre++k::post):k<n/\pre.length<n:=by
 have h1:k∈List.range n:=by rw[h]; simp
 have h2:=congrArg List.length h
 simp at h1 h2
 omega
theorem fS {gc gw:D1} (hc:∀ps ss,fI ps ss->gH gc [ay ps,bV ss]) (hw:nA fuel gw):l5 (trunc (cb gc gw)):=by
 intro ps ss M hg
 refine ou.trunc ?_ (CL _)
 unfold cb
 refine gD (P:=fun r=>∃G,r=.ok (eX (fJ ps ss)) (M++G)) ?_
 simp only[zC,zD,zE,zF,Nat.zero_add,Nat.reduceAdd,Nat.reduceSub,List.replicate,zG,zH]
 have Jc:=hg.xy
 refine aK (dF .bb M (by simp[hc ps ss hg M]) (aB (cc (.obj M.length) (M++[.lst []]) (by simp) ?_)))
 dsimp only[List.set]
 refine aK (gQ (fun(k:Nat)=>PV.tup [.int k,fA (ij ss k)]) (fun pre ρ M'=>∃y3 y4 y5,ρ=[some (ay ps),some (bV ss),some (.obj M.length),y3,y4,y5]/\M'=M++[.lst ((pre.flatMap (jE ps ss)).map p9)]) (List.range ss.length) none (M++[.lst []])
  (by unfold iE; simp[zY]) trivial ⟨none,none,none,rfl,rfl⟩ ?_ ?_)
 ·rintro pre k post hx ρ M' ⟨y3,y4,y5,rfl,rfl⟩
  obtain⟨hk,gX⟩:=j8 hx
  have jc:(pre.flatMap (jE ps ss)).length≤2097152:=by
   have h1:=ig pre fun k _=>uY ps ss k
   omega
  refine⟨_,Lv,?_⟩
  dsimp only[List.set]
  have Gn:=hw ps ss [] (ij ss k).1 (ij ss k).2 (M++[.lst ((pre.flatMap (jE ps ss)).map p9)]) (Iy hg hk) (by simp; have:=hg.sd; unfold fuel; omega) (by decide)
  refine gQ gG (fun zZ ρ M'=>∃y5,ρ=[some (ay ps),some (bV ss),some (.obj M.length),some (.int k),some (fA (ij ss k)),y5]/\M'=M++[.lst ((pre.flatMap (jE ps ss)++zZ.map fun w=>(k,w)).map p9)])
   (jC ps ss fuel [] (ij ss k).1 (ij ss k).2) none (M++[.lst ((pre.flatMap (jE ps ss)).map p9)]) (eT (by simp[fA] at Gn ⊢; exact Gn)) trivial ⟨_,rfl,by simp⟩ ?_ ?_
  ·rintro zZ w JI ES ρ M' ⟨y5,rfl,rfl⟩
   have yC:zZ.length≤131072:=by
    have h1:=iA ps ss fuel [] (ij ss k).1 (ij ss k).2
    rw[ES] at h1
    simp[fuel] at h1
    omega
   refine⟨_,rfl,?_⟩
   dsimp only[List.set]
   refine dF .bb (M++[.lst ((pre.flatMap (jE ps ss)++(zZ++[w]).map fun w=>(k,w)).map p9)]) ?_ (cw trivial ⟨_,rfl,rfl⟩)
   simp[cL,xX,p9,lim,-List.length_flatMap]
   omega
  ·rintro ρ' M' ⟨y5,rfl,rfl⟩
   refine cw trivial ⟨_,_,_,rfl,?_⟩
   rw[List.flatMap_append,List.flatMap_cons,List.flatMap_nil,zI]
   rfl
 ·rintro ρ' M' ⟨y3,y4,y5,rfl,rfl⟩
  exact aB (gk (eX (fJ ps ss)) (M++[.gone]) (by simp[wH,fJ]) (fy ⟨[.gone],rfl⟩))
end Sb
end
section
namespace L2
open PySem
theorem Aa {M G:aC} {o o':MO}:(M++o::G).set M.length o'=M++o'::G:=by simp
end L2
namespace Sb
open PySem L2
noncomputable def jF (ns:List Int) (k:Int):Int:=ns.getD (k%ns.length).toNat 0
noncomputable def j9 (ns:List Int) (k:Int):Int :=
 ((jF ns k+104729*(k+1))%4294967291*48271%4294967279 / 64*69621+(jF ns k+104729*(k+1))%4294967291*48271%4294967279)%4294967231
noncomputable def qd (g:D1):Prop:=∀ns k M,g [.dU ns,.int k] M=.ok (.int (jF ns k)) M
noncomputable def lh (g:D1):Prop:=∀ns k M,g [.dU ns,.int k] M=.ok (.int (j9 ns k)) M
theorem fU:qd iX:=by
 intro ns k M
 unfold iX
 refine gD (P:=fun r=>r=.ok (.int (jF ns k)) M) ?_
 by_cases h:ns=[]
 ·subst h
  refine aK (kQ M (by simp[kM]) (eU (aB (gk (.int 0) M rfl (fy ?_)))))
  simp[jF]
 ·have hl:0<ns.length:=List.length_pos_iff.mpr h
  refine aK (CF M (by simp[kM,h]) (gk (.int (jF ns k)) M ?_ (gF (fy rfl))))
  have h1:=Int.emod_nonneg k (b:=ns.length) (by omega)
  have h2:=Int.emod_lt_of_pos k (b:=ns.length) (by omega)
  simp[aZ,aQ,gb,hl,cK,vf,sh]
  rw[if_pos h1,if_pos h2]
  have h3:(k%(ns.length:Int)).toNat<ns.length:=by omega
  simp[h3,jF]
theorem ip {g:D1} (h:qd g):lh (j6 g):=by
 intro ns k M
 unfold j6
 refine gD (P:=fun r=>r=.ok (.int (j9 ns k)) M) ?_
 refine cc (.int ((jF ns k+104729*(k+1))%4294967291)) M ?_ ?_
 ·simp[h ns k M,aQ,gb,jl,small]
 refine cc (.int ((jF ns k+104729*(k+1))%4294967291*48271%4294967279)) M ?_ ?_
 ·simp[aQ,gb,jl,small]
 refine gk (.int (j9 ns k)) M ?_ (fy rfl)
 simp[aQ,bQ,gb,jl,small,j9]
end Sb
end
section
namespace Sb
open PySem L2
noncomputable def cnt (ps:cS) (j:Int):Nat:=(ps.filter fun p=>decide (j∈p.js)).length
theorem tE (ps:cS) (j:Int):(uV ps j).length=cnt ps j:=by
 unfold uV cnt
 have:ps=(List.range ps.length).map (Pc.at ps):=by
  refine List.ext_getElem? fun i=>?_
  rw[zJ]
  by_cases h:i<ps.length
  ·rw[jB h,List.getElem?_range h]; rfl
  ·rw[List.getElem?_eq_none (by omega),List.getElem?_eq_none (by simp; omega)]; rfl
 conv=>rhs; rw[this]
 rw[List.filter_map,zK]
 rfl
noncomputable def fresh (c:Int) (i:Nat):Int:=(c+37*i)%1000
structure Lw (c:Int) (ps:cS) (loose:List Int) (many:Nat):Prop where
 sd:many≤3*ps.length
 old:∀p∈ps,∀j∈p.js,∃i,i<many/\j=fresh c i
 once:∀p∈ps,p.js.Nodup
 two:∀j,cnt ps j≤2
 lo:∀j∈loose,cnt ps j≤1/\∃i,i<many/\j=fresh c i
structure Lx (c:Int) (loose:List Int) (m0 many:Nat) (ends:List Int):Prop where
 nd:ends.Nodup
 le:m0≤many
 src:∀j∈ends,j∈loose\/∃i,m0≤i/\i<many/\j=fresh c i
noncomputable def Ab:List Int->Pc
 | [j,k]=>.pl j k
 | [t,s,b]=>.pt t s b
 | _=>.pl 0 0
theorem Ac {ends:List Int} (h:ends.length=2\/ends.length=3):(Ab ends).js=ends:=by
 rcases ends with _ | ⟨a,_ | ⟨b,_ | ⟨d,_ | ⟨e,r⟩⟩⟩⟩
 ·simp at h
 ·simp at h
 ·rfl
 ·rfl
 ·simp at h
structure JJ (ps:cS):Prop where
 xx:1≤ps.length
 sd:ps.length≤8
 oZ:∀p∈ps,∀j∈p.js,0≤j/\j≤999
 once:∀p∈ps,p.js.Nodup
 two:∀j,(uV ps j).length≤2
end Sb
end
section
namespace Sb
open PySem L2
end Sb
end
section
namespace Sb
open PySem L2
theorem nB (p:Pc):p.js.length≤3:=by cases p<;>simp[Pc.js]
theorem CM {xs:List PV} {k:Nat} (h:k≤xs.length):lJ xs (some k) none=xs.drop k:=by
 unfold lJ
 rw[HT.yF,HT.vO,Nat.min_eq_left h]
 exact List.take_of_length_le (by simp)
end Sb
end
section
namespace Sb
open PySem L2 PyProof.Rows
structure Fe (p:Pc) (j o:Int):Prop where
 ne:o≠j
 mem:o∈p.js
 Mn:p.js.length=3->p.js.headD 0=j\/p.js.headD 0=o
noncomputable def Chain (ps:cS) (ss:List Sg):Bool->Int->Option Nat->List oV->Prop
 | _,j,a,[]=>∀b,a=some b->(j,b)∈ss
 | f,j,a,(a',j',o)::r=>a=some a'/\j'=j/\(f=false->(j,a')∉ss)/\a'<ps.length/\Fe (Pc.at ps a') j o/\Chain ps ss false o (beyond ps a' o) r
structure Go (ps:cS) (ss:List Sg) (r:Rt):Prop where
 lt:r.1<ss.length
 ne:r.2≠[]
 chain:Chain ps ss true (ij ss r.1).1 (some (ij ss r.1).2) r.2
 nd:(r.2.map (·.1)).Nodup
 len:r.2.length≤ps.length
end Sb
end
section
namespace L2
open PySem
theorem CN {Q:Out->Prop} {C:Addr} {f:Str} {jX dv:DE} {ρ:cI} {M:aC} (y:PV) (M1:aC) (n:Nat) (fs Ai:List (Str×PV)) (h:dv ρ M=.ok y M1) (ho:jX ρ M1=.ok (.obj n) M1) (hn:M1[n]? = some (.ins C fs)) (hl:fs.length<1000) (hf:lM f y fs=Ai)
  (q:Q (.nx ρ (M1.set n (.ins C Ai)))):Q (fo C f jX dv ρ M):=by
 unfold fo
 rw[h,Res.hV,ho,Res.hV,zl hn]
 dsimp only
 rw[if_pos hl,hf]
 exact q
theorem fR {Q:Out->Prop} {c:Addr} {f:Str} {dv:DE} {ρ:cI} {M G G':aC} {fs:List (Str×PV)} {s2:DS} (y:PV) (Ai:List (Str×PV)) (h0:ρ[0]? = some (some (.obj M.length))) (h:dv ρ (M++.ins c fs::G)=.ok y (M++.ins c fs::G')) (hl:fs.length<1000) (hf:lM f y fs=Ai)
  (q:Q (.nx ρ (M++.ins c Ai::G'))):Q (fo c f (af 0) dv ρ (M++.ins c fs::G)):=by
 refine CN y _ M.length fs Ai h (by rw[dD,h0]) (by simp) hl hf ?_
 rw[Aa]
 exact q
end L2
namespace Sb
open PySem L2
noncomputable def CO (L:Nat) (ps:cS) (ss:List Sg) (rs:List Rt) (wait:Int):List (Str×PV) :=
 [("found",eX rs),("pieces",ay ps),("signals",bV ss),("wait",.int wait),("ticks",.int 0),("locks",.obj (L+1)),("lying",.obj (L+2)),("greens",.obj (L+3)),("falls",.obj (L+4)),("trains",.obj (L+5))]
noncomputable def oy (c:Addr) (L:Nat) (ps:cS) (ss:List Sg) (rs:List Rt) (wait:Int):aC :=
 [.ins c (CO L ps ss rs wait),.iH [],.lst (ps.map fun _=>.str "straight"),.iH [],.iH [],.iH []]
theorem cA {c:Addr} {gr:D1} (hr:l5 gr) {ps:cS} {ss:List Sg} (hg:fI ps ss) (wait:Int) (M:aC):br c gr [.obj M.length,ay ps,bV ss,.int wait] (M++[.ins c []])=.ok .bb (M++oy c M.length ps ss (fJ ps ss) wait):=by
 have JK:=hg.sd
 have Iz:=hg.xy
 unfold br
 refine gD (P:=fun r=>r=.ok .bb (M++oy c M.length ps ss (fJ ps ss) wait)) ?_
 simp only[zC,zD,zE,zF,Nat.zero_add,Nat.reduceAdd,Nat.reduceSub,List.replicate,zG,zH,zI]
 generalize Ly:fJ ps ss=rs
 have Lz:∀N:aC,fk true [none] (iL (af 1)) (gN 0) wM (dC (.str "straight")) [some (.obj M.length),some (ay ps),some (bV ss),some (.int wait)] N=.ok (.obj N.length) (N++[.lst (ps.map fun _=>.str "straight")]):=fun N=>by
  rw[fx (xs:=ps) (w:=none) (M':=N) Pc.enc (fun _=>true) (fun _=>.str "straight") (fun ρ=>∃y,ρ=[y]) (eT (by simp)) trivial ⟨none,rfl⟩ (fun x _ ρ hρ=>by
   obtain⟨y,rfl⟩:=hρ
   exact⟨_,rfl,⟨_,rfl⟩,rfl,fun _=>rfl⟩) (Nat.le_trans JK (by decide)),List.filter_eq_self.mpr (fun _ _=>rfl),lG (by rw[zK]; exact Nat.le_trans JK (by decide))]
 refine aK (fR (M:=M) (G':=[]) (s2:=fF) (eX rs) [("found",eX rs)] rfl (by simp[hr ps ss _ hg,Ly]) (by show 0<1000; decide) (by with_unfolding_all rfl) (aB ?_))
 refine aK (fR (M:=M) (G':=[]) (s2:=fF) (ay ps) [("found",eX rs),("pieces",ay ps)] rfl (by simp[fh]; exact cO (by simp; omega)) (by show 1<1000; decide) (by with_unfolding_all rfl) (aB ?_))
 refine aK (fR (M:=M) (G':=[]) (s2:=fF) (bV ss) [("found",eX rs),("pieces",ay ps),("signals",bV ss)] rfl (by simp[fh]; exact cO (by simp; omega)) (by show 2<1000; decide) (by with_unfolding_all rfl) (aB ?_))
 refine aK (fR (M:=M) (G':=[]) (s2:=fF) (.int wait) [("found",eX rs),("pieces",ay ps),("signals",bV ss),("wait",.int wait)] rfl (rfl) (by show 3<1000; decide) (by with_unfolding_all rfl) (aB ?_))
 refine aK (fR (M:=M) (G':=[]) (s2:=fF) (.int 0) [("found",eX rs),("pieces",ay ps),("signals",bV ss),("wait",.int wait),("ticks",.int 0)] rfl (rfl) (by show 4<1000; decide) (by with_unfolding_all rfl) (aB ?_))
 refine aK (fR (M:=M) (G':=[.iH []]) (s2:=fF) (.obj (M.length+1)) [("found",eX rs),("pieces",ay ps),("signals",bV ss),("wait",.int wait),("ticks",.int 0),("locks",.obj (M.length+1))] rfl (by simp[jv]) (by show 5<1000; decide) (by with_unfolding_all rfl) (aB ?_))
 refine aK (fR (M:=M) (G':=[.iH [],.lst (ps.map fun _=>.str "straight")]) (s2:=fF) (.obj (M.length+2)) [("found",eX rs),("pieces",ay ps),("signals",bV ss),("wait",.int wait),("ticks",.int 0),("locks",.obj (M.length+1)),("lying",.obj (M.length+2))] rfl (by rw[Lz]; simp) (by show 6<1000; decide) (by with_unfolding_all rfl) (aB ?_))
 refine aK (fR (M:=M) (G':=[.iH [],.lst (ps.map fun _=>.str "straight"),.iH []]) (s2:=fF) (.obj (M.length+3)) [("found",eX rs),("pieces",ay ps),("signals",bV ss),("wait",.int wait),("ticks",.int 0),("locks",.obj (M.length+1)),("lying",.obj (M.length+2)),("greens",.obj (M.length+3))] rfl (by simp[jv]) (by show 7<1000; decide) (by with_unfolding_all rfl) (aB ?_))
 refine aK (fR (M:=M) (G':=[.iH [],.lst (ps.map fun _=>.str "straight"),.iH [],.iH []]) (s2:=fF) (.obj (M.length+4)) [("found",eX rs),("pieces",ay ps),("signals",bV ss),("wait",.int wait),("ticks",.int 0),("locks",.obj (M.length+1)),("lying",.obj (M.length+2)),("greens",.obj (M.length+3)),("falls",.obj (M.length+4))] rfl (by simp[jv]) (by show 8<1000; decide) (by with_unfolding_all rfl) (aB ?_))
 exact fR (M:=M) (G':=[.iH [],.lst (ps.map fun _=>.str "straight"),.iH [],.iH [],.iH []]) (s2:=fF) (.obj (M.length+5)) [("found",eX rs),("pieces",ay ps),("signals",bV ss),("wait",.int wait),("ticks",.int 0),("locks",.obj (M.length+1)),("lying",.obj (M.length+2)),("greens",.obj (M.length+3)),("falls",.obj (M.length+4)),("trains",.obj (M.length+5))] rfl (by simp[jv]) (by show 9<1000; decide) (by with_unfolding_all rfl) (gE rfl)
end Sb
end
section
namespace L2
open PySem
theorem xA {Q:Out->Prop} {jX di dv:DE} {ρ:cI} {M:aC} (y:PV) (M1:aC) (x:PV) (M2:aC) (k:PV) (M3 M':aC) (hv:dv ρ M=.ok y M1) (ho:jX ρ M1=.ok x M2) (hk:di ρ M2=.ok k M3) (hp:pH x k y M3=some M') (q:Q (.nx ρ M')):Q (nq jX di dv ρ M):=by
 unfold nq
 rw[hv,Res.hV,ho,Res.hV,hk,Res.hV,hp]
 exact q
theorem eD {Q:Out->Prop} {C:Addr} {ps:List (Option DE)} {ρ:cI} {M:aC} (h:dJ ps ρ M=.ok () M) (q:Q (.exc C ρ M)):Q (dA C ps ρ M):=by
 unfold dA; rw[h]; exact q
theorem oz {Q:Out->Prop} {d:DE} {ρ:cI} {M:aC} (c:Addr) (M':aC) (h:d ρ M=.exc c M') (q:Q (.exc c ρ M')):Q (bR d ρ M):=by
 unfold bR; rw[h]; exact q
@[simp] theorem wc {α β:Type} {c:Addr} {M:aC} {f:α->aC->Res β}:(Res.exc c M:Res α).bind f=.exc c M:=rfl
noncomputable def Sm (i:Int):Prop := -1000≤i/\i≤999999
theorem gq {i:Int} (h:Sm i):small i=true:=by
 unfold Sm at h
 unfold small
 have e:(2:Int) ^ 64=18446744073709551616:=by simp only[Int.reducePow]
 rw[e]
 exact decide_eq_true ⟨by omega,by omega⟩
section
variable {ρ:cI} {M:aC} {a b:DE}
theorem ik:dJ [] ρ M=.ok () M:=rfl
theorem i5 {r:List (Option DE)} (h:dJ r ρ M=.ok () M):dJ (none::r) ρ M=.ok () M:=h
theorem l6 {r:List (Option DE)} {i:Int} (e:a ρ M=.ok (.int i) M) (hs:small i=true) (h:dJ r ρ M=.ok () M):dJ (some a::r) ρ M=.ok () M:=by
 rw[dJ,e,ai]
 dsimp only
 rw[if_pos hs,h]
end
end L2
namespace Sb
open PySem L2
noncomputable abbrev SI:=Int×Int
noncomputable def eF (s:SI):PV:=.tup [.int s.1,.int s.2]
noncomputable abbrev aS (ss:List SI):PV:=.lst (ss.map eF)
theorem Ff (s:SI):Pl deep (eF s):=by
 intro y hy
 simp only[List.mem_cons,List.not_mem_nil,or_false] at hy
 rcases hy with rfl | rfl<;>exact dj _
theorem CP (a b:SI) (h:eF a=eF b):a=b:=by
 obtain⟨a1,a2⟩:=a
 obtain⟨b1,b2⟩:=b
 simp[eF] at h
 rw[h.1,h.2]
noncomputable def AK (c:Addr) (M:aC) (P:Prop) (r:Res PV):Prop:=(P/\r=.ok .bb M)\/(¬P/\r=.exc c M)
noncomputable def C8 (ps:cS) (js:List Int) (j:Int):Prop:=(0≤j/\j≤999)/\js.count j≤1/\(uV ps j).length≤2
noncomputable def xB (c:Addr) (g:D1):Prop:=∀(ps:cS) (js:List Int) (M:aC),ps.length≤100->(∀j∈js,Sm j)->AK c M (∀j∈js,C8 ps js j) (g [ay ps,ie js] M)
theorem l7 {c:Addr} {gp:D1} (hp:ox gp):xB c (bU c gp):=by
 intro ps js M hl hs
 unfold bU
 refine gD (P:=AK c M (∀j∈js,C8 ps js j)) ?_
 simp only[zC,zD,zE,zF,Nat.zero_add,Nat.reduceAdd,Nat.reduceSub,List.replicate,zG,zH]
 refine gQ PV.int (fun pre ρ M'=>(∃y2,ρ=[some (ay ps),some (ie js),y2]/\M'=M)/\∀j∈pre,C8 ps js j) js none M (eT rfl) trivial ⟨⟨none,rfl,rfl⟩,by simp⟩ ?_ ?_
 ·rintro pre j post hx ρ M' ⟨⟨y2,rfl,rfl⟩,jc⟩
  have hj:j∈js:=by rw[hx]; simp
  have h9:=gq (hs j hj)
  have LA:small 999=true:=gq ⟨by decide,by decide⟩
  refine⟨_,rfl,?_⟩
  dsimp only[List.set]
  refine aK (iI (decide (j<0\/999<j)) M' ?_ (fun hk=>?_) fun hk=>eU (aB (aK (iI (decide (1<js.count j)) M' ?_ (fun l8=>?_) fun l8=>eU (aB (iI (decide (2<(uV ps j).length)) M' ?_ (fun uZ=>?_) fun uZ=>eU (cw trivial ⟨⟨_,rfl,rfl⟩,?_⟩)))))))
  ·simp[sE,jV]
   by_cases h:j<0<;>simp[h]
  ·have hk:=of_decide_eq_true hk
   refine eD (i5 (l6 rfl h9 (i5 (l6 rfl LA ik)))) (cV (fz (cv (.inr ⟨fun h=>?_,rfl⟩))))
   have:=(h j hj).1
   omega
  ·simp[jV,fB (enc:=PV.int) (fun a=>dj a) (fun a b e=>by cases e; rfl)]
   omega
  ·have l8:=of_decide_eq_true l8
   refine eD (i5 (l6 rfl h9 (i5 ik))) (cV (fz (cv (.inr ⟨fun h=>?_,rfl⟩))))
   have:=(h j hj).2.1
   omega
  ·simp[hp ps j _ hl,aZ,jV]
   omega
  ·have uZ:=of_decide_eq_true uZ
   refine eD (i5 (l6 rfl h9 ik)) (fz (cv (.inr ⟨fun h=>?_,rfl⟩)))
   have:=(h j hj).2.2
   omega
  ·have hk:=of_decide_eq_false hk
   have l8:=of_decide_eq_false l8
   have uZ:=of_decide_eq_false uZ
   intro i hi
   rcases List.mem_append.mp hi with hi | hi
   ·exact jc i hi
   ·rw[List.mem_singleton.mp hi]
    exact⟨⟨by omega,by omega⟩,by omega,by omega⟩
 ·rintro ρ' M' ⟨⟨y2,rfl,rfl⟩,h⟩
  exact gE (.inl ⟨h,rfl⟩)
noncomputable def AL (ps:cS):Prop:=(1≤ps.length/\ps.length≤16)/\∀p∈ps,∀j∈p.js,C8 ps p.js j
noncomputable def C9 (ps:cS):Prop:=ps.length≤100/\∀p∈ps,∀j∈p.js,Sm j
noncomputable def xC (c:Addr) (g:D1):Prop:=∀(ps:cS) (M:aC),C9 ps->AK c M (AL ps) (g [ay ps] M)
theorem l9 {c:Addr} {gc gj:D1} (hc:xB c gc) (hj:jD gj):xC c (bT c gc gj):=by
 intro ps M hs
 unfold bT
 refine gD (P:=AK c M (AL ps)) ?_
 simp only[zC,zD,zE,zF,Nat.zero_add,Nat.reduceAdd,Nat.reduceSub,List.replicate,zG,zH]
 refine aK (iI (decide (ps.length=0)) M ?_ (fun hk=>?_) fun hk=>eU (aB (aK (iI (decide (16<ps.length)) M ?_ (fun l8=>?_) fun l8=>eU (aB ?_)))))
 ·simp[aZ]
 ·have hk:=of_decide_eq_true hk
  have e:nZ c [dC (.str "a yard has at least one piece")] [some (ay ps),none] M=.exc c [some (ay ps),none] M:=rfl
  rw[e]
  refine cV (cv (.inr ⟨fun h=>?_,rfl⟩))
  have:=h.1
  omega
 ·simp[aZ,jV]
  omega
 ·have l8:=of_decide_eq_true l8
  have IA:small 16=true:=gq ⟨by decide,by decide⟩
  refine eD (i5 (l6 rfl IA (i5 ik))) (cV (cv (.inr ⟨fun h=>?_,rfl⟩)))
  have:=h.1
  omega
 have hk:=of_decide_eq_false hk
 have l8:=of_decide_eq_false l8
 refine gQ Pc.enc (fun pre ρ M'=>(∃y2,ρ=[some (ay ps),y2]/\M'=M)/\∀p∈pre,∀j∈p.js,C8 ps p.js j) ps none M (eT rfl) trivial ⟨⟨none,rfl,rfl⟩,by simp⟩ ?_ ?_
 ·rintro pre p post hx ρ M' ⟨⟨y2,rfl,rfl⟩,jc⟩
  have hm:p∈ps:=by rw[hx]; simp
  refine⟨_,rfl,?_⟩
  dsimp only[List.set]
  rcases hc ps p.js M' hs.1 (hs.2 p hm) with⟨h,e⟩ | ⟨h,e⟩
  ·refine dF .bb M' (by simp[hj p,e]) (cw trivial ⟨⟨_,rfl,rfl⟩,fun q hq=>?_⟩)
   rcases List.mem_append.mp hq with hq | hq
   ·exact jc q hq
   ·rw[List.mem_singleton.mp hq]; exact h
  ·exact oz c M' (by simp[hj p,e]) (fz (cv (.inr ⟨fun h'=>h (h'.2 p hm),rfl⟩)))
 ·rintro ρ' M' ⟨⟨y2,rfl,rfl⟩,h⟩
  exact gE (.inl ⟨⟨⟨by omega,by omega⟩,h⟩,rfl⟩)
noncomputable def IB (ps:cS) (ss:List SI) (s:SI):Prop:=ss.count s≤1/\(0≤s.2/\s.2<ps.length)/\s.1∈(Pc.at ps s.2.toNat).js
noncomputable def xD (ps:cS) (ss:List SI):Prop:=ss.length≤16/\∀s∈ss,IB ps ss s
noncomputable def Dc (ss:List SI):Prop:=ss.length≤100/\∀s∈ss,Sm s.1/\Sm s.2
noncomputable def xE (c:Addr) (g:D1):Prop:=∀(ps:cS) (ss:List SI) (M:aC),Dc ss->AK c M (xD ps ss) (g [ay ps,aS ss] M)
theorem kR {c:Addr} {gj:D1} (hj:jD gj):xE c (bJ c gj):=by
 intro ps ss M Fh
 unfold bJ
 refine gD (P:=AK c M (xD ps ss)) ?_
 simp only[zC,zD,zE,zF,Nat.zero_add,Nat.reduceAdd,Nat.reduceSub,List.replicate,zG,zH]
 refine aK (iI (decide (16<ss.length)) M ?_ (fun l8=>?_) fun l8=>eU (aB ?_))
 ·simp[aZ,jV]
  omega
 ·have l8:=of_decide_eq_true l8
  have IA:small 16=true:=gq ⟨by decide,by decide⟩
  refine eD (i5 (l6 rfl IA (i5 ik))) (cV (cv (.inr ⟨fun h=>?_,rfl⟩)))
  have:=h.1
  omega
 have l8:=of_decide_eq_false l8
 refine gQ eF (fun pre ρ M'=>(∃y2 y3,ρ=[some (ay ps),some (aS ss),y2,y3]/\M'=M)/\∀s∈pre,IB ps ss s) ss none M (eT rfl) trivial ⟨⟨none,none,rfl,rfl⟩,by simp⟩ ?_ ?_
 ·rintro pre s post hx ρ M' ⟨⟨y2,y3,rfl,rfl⟩,jc⟩
  have hs:s∈ss:=by rw[hx]; simp
  obtain⟨s1,s2⟩:=Fh.2 s hs
  have xU:=fB (enc:=eF) Ff CP (a:=s) (as:=ss) (M:=M')
  obtain⟨j,n⟩:=s
  have s1:=gq s1
  have s2:=gq s2
  refine⟨_,rfl,?_⟩
  dsimp only[List.set]
  refine aK (iI (decide (1<ss.count (j,n))) M' ?_ (fun hk=>?_) fun hk=>eU (aB (aK (iI (decide (n<0\/ps.length≤n)) M' ?_ (fun uZ=>?_) fun uZ=>eU (aB (iI (!decide (j∈(Pc.at ps n.toNat).js)) M' ?_ (fun CQ=>?_) fun CQ=>eU (cw trivial ⟨⟨_,_,rfl,rfl⟩,?_⟩)))))))
  ·simp[eF] at xU ⊢
   rw[xU]
   simp[jV]
   omega
  ·have hk:=of_decide_eq_true hk
   refine eD (i5 (l6 rfl s1 (i5 (l6 rfl s2 ik)))) (cV (fz (cv (.inr ⟨fun h=>?_,rfl⟩))))
   have:=(h.2 _ hs).1
   omega
  ·simp[sE,FV,aZ]
   by_cases h:n<0<;>simp[h]
  ·have uZ:=of_decide_eq_true uZ
   refine eD (i5 (l6 rfl s2 (i5 ik))) (cV (fz (cv (.inr ⟨fun h=>?_,rfl⟩))))
   have:=(h.2 _ hs).2.1
   dsimp only at this
   omega
  ·have uZ:=of_decide_eq_false uZ
   obtain⟨m,rfl⟩:∃m:Nat,n=m:=⟨n.toNat,by omega⟩
   have hm:m<ps.length:=by omega
   simp[tw hm,hj (Pc.at ps m)]
  ·have CQ:¬j∈(Pc.at ps n.toNat).js:=by simpa using CQ
   exact eD (i5 (l6 rfl s2 (i5 (l6 rfl s1 ik)))) (fz (cv (.inr ⟨fun h=>CQ (h.2 _ hs).2.2,rfl⟩)))
  ·have hk:=of_decide_eq_false hk
   have uZ:=of_decide_eq_false uZ
   have CQ:j∈(Pc.at ps n.toNat).js:=by simpa using CQ
   intro i hi
   rcases List.mem_append.mp hi with hi | hi
   ·exact jc i hi
   ·rw[List.mem_singleton.mp hi]
    exact⟨by omega,⟨by dsimp only; omega,by dsimp only; omega⟩,CQ⟩
 ·rintro ρ' M' ⟨⟨y2,y3,rfl,rfl⟩,h⟩
  exact gE (.inl ⟨⟨by omega,h⟩,rfl⟩)
noncomputable def oW (ps:cS) (ss:List SI):Prop:=AL ps/\xD ps ss
noncomputable def oA (c:Addr) (g:D1):Prop:=∀(ps:cS) (ss:List SI) (M:aC),C9 ps->Dc ss->AK c M (oW ps ss) (g [ay ps,aS ss] M)
theorem oB {c:Addr} {gp gs:D1} (hp:xC c gp) (hs:xE c gs):oA c (cF gp gs):=by
 intro ps ss M h1 h2
 unfold cF
 refine gD (P:=AK c M (oW ps ss)) ?_
 rcases hp ps M h1 with⟨h,e⟩ | ⟨h,e⟩
 ·rcases hs ps ss M h2 with⟨h',e'⟩ | ⟨h',e'⟩
  ·exact aK (dF .bb M (by simp[e]) (aB (dF .bb M (by simp[e']) (gE (.inl ⟨⟨h,h'⟩,rfl⟩)))))
  ·exact aK (dF .bb M (by simp[e]) (aB (oz c M (by simp[e']) (cv (.inr ⟨fun x=>h' x.2,rfl⟩)))))
 ·exact aK (oz c M (by simp[e]) (cV (cv (.inr ⟨fun x=>h x.1,rfl⟩))))
end Sb
end
section
namespace Sb
open PySem L2
theorem kE {t:DT} {a b:DS} {ρ:cI} {M:aC} (h:t ρ M=.ok true M):bE t a b ρ M=a ρ M:=by unfold bE; rw[h]; rfl
theorem kF {t:DT} {a b:DS} {ρ:cI} {M:aC} (h:t ρ M=.ok false M):bE t a b ρ M=b ρ M:=by unfold bE; rw[h]; rfl
theorem xF {d:DE} {ρ:cI} {M M':aC} {x:PV} (h:d ρ M=.ok x M'):bR d ρ M=.nx ρ M':=by unfold bR; rw[h]; rfl
theorem xG {d:DE} {ρ:cI} {M M':aC} {c:Addr} (h:d ρ M=.exc c M'):bR d ρ M=.exc c ρ M':=by unfold bR; rw[h]; rfl
noncomputable def u0 (s:SI):Sg:=(s.1,s.2.toNat)
noncomputable def ma (s:Sg):SI:=(s.1,s.2)
theorem tF (ss:List Sg):aS (ss.map ma)=bV ss:=by
 unfold aS bV
 rw[List.map_map]
 rfl
theorem xH {s:SI} (h:0≤s.2):ma (u0 s)=s:=by
 obtain⟨a,b⟩:=s
 unfold ma u0
 simp only[Prod.mk.injEq,true_and]
 exact Int.toNat_of_nonneg h
theorem tH {α:Type} [BEq α] [LawfulBEq α] {xs:List α} (h:∀x∈xs,xs.count x≤1):xs.Nodup:=by
 refine List.nodup_iff_count.mpr fun a=>?_
 by_cases e:a∈xs
 ·exact h a e
 ·rw[List.count_eq_zero.mpr e]; decide
theorem oW.good {ps:cS} {ss:List SI} (h:oW ps ss):fI ps (ss.map u0)/\(ss.map u0).map ma=ss:=by
 obtain⟨⟨⟨h1,h2⟩,h3⟩,h4,h5⟩:=h
 refine⟨⟨h1,h2,fun p hp j hj=>(h3 p hp j hj).1,fun p hp=>tH fun j hj=>(h3 p hp j hj).2.1,fun j=>?_,by rw[zK]; exact h4,?_,fun s hs=>?_⟩,?_⟩
 ·cases e:uV ps j with
  | nil=>simp
  | cons k r =>
   have hk:k∈uV ps j:=by rw[e]; simp
   obtain⟨k1,k2⟩:=List.mem_filter.mp hk
   have:=(h3 _ (rH (List.mem_range.mp k1)) j (of_decide_eq_true k2)).2.2
   rw[e] at this
   exact this
 ·rw[List.Nodup,List.pairwise_map]
  refine List.Pairwise.imp_of_mem (fun {a b} ha hb eu e=>eu ?_) (tH fun s hs=>(h5 s hs).1)
  rw[← xH (h5 a ha).2.1.1,← xH (h5 b hb).2.1.1,e]
 ·obtain⟨t,ht,rfl⟩:=List.mem_map.mp hs
  have:=(h5 t ht).2.1
  exact⟨by unfold u0; dsimp only; omega,(h5 t ht).2.2⟩
 ·rw[List.map_map]
  conv=>rhs; rw[← List.map_id ss]
  exact List.map_congr_left fun s hs=>xH (h5 s hs).2.1.1
theorem fI.oW {ps:cS} {ss:List Sg} (h:fI ps ss):oW ps (ss.map ma):=by
 have Gp:(ss.map ma).Nodup:=by
  rw[List.Nodup,List.pairwise_map]
  refine List.Pairwise.imp (fun {a b} eu e=>eu ?_) h.nd
  obtain⟨a1,a2⟩:=a
  obtain⟨b1,b2⟩:=b
  simp[ma] at e
  rw[e.1]
  have:a2=b2:=by omega
  rw[this]
 refine⟨⟨⟨h.xx,h.sd⟩,fun p hp j hj=>⟨h.oZ p hp j hj,List.nodup_iff_count.mp (h.once p hp) j,h.two j⟩⟩,by rw[zK]; exact h.xy,fun s hs=>⟨List.nodup_iff_count.mp Gp s,?_⟩⟩
 obtain⟨t,ht,rfl⟩:=List.mem_map.mp hs
 obtain⟨h1,h2⟩:=h.sg t ht
 unfold ma
 dsimp only
 exact⟨⟨by omega,by omega⟩,by rw[Int.toNat_natCast]; exact h2⟩
theorem fI.LB {ps:cS} {ss:List Sg} (h:fI ps ss):C9 ps:=⟨by have:=h.sd; omega,fun p hp j hj=>by
 have:=h.oZ p hp j hj
 unfold Sm
 omega⟩
theorem fI.LC {ps:cS} {ss:List Sg} (h:fI ps ss):Dc (ss.map ma):=⟨by rw[zK]; have:=h.xy; omega,fun s hs=>by
 obtain⟨t,ht,rfl⟩:=List.mem_map.mp hs
 obtain⟨h1,h2⟩:=h.sg t ht
 have:=h.oZ _ (rH h1) _ h2
 have:=h.sd
 unfold Sm ma
 dsimp only
 omega⟩
theorem Fi {c:Addr} {gc:D1} (hc:oA c gc):∀ps ss,fI ps ss->gH gc [ay ps,bV ss]:=fun ps ss hg M=>by
 rw[← tF]
 rcases hc ps (ss.map ma) M hg.LB hg.LC with⟨_,e⟩ | ⟨h,_⟩
 ·exact e
 ·exact absurd hg.oW h
theorem xI {c:Addr} {gc gw:D1} (hc:oA c gc) (hw:nA fuel gw) (ps:cS) (ss:List SI) (M:aC) (h1:C9 ps) (h2:Dc ss) (hn:¬oW ps ss):trunc (cb gc gw) [ay ps,aS ss] M=.exc c M:=by
 have e:cb gc gw [ay ps,aS ss] M=.exc c M:=by
  unfold cb
  refine gD (P:=fun r=>r=.exc c M) ?_
  rcases hc ps ss M h1 h2 with⟨h,_⟩ | ⟨_,e⟩
  ·exact absurd h hn
  ·exact aK (oz c M (by simp[e]) (cV (cv rfl)))
 unfold trunc
 rw[e,wQ]
structure JL (a b c d:Addr):Prop where
 ab:a≠b
 ac:a≠c
 ad:a≠d
 bc:b≠c
 bd:b≠d
 cd:c≠d
noncomputable def tI (g:D1):Prop:=∀(w:Int) (ps:cS) (ss:List SI) (M:aC),C9 ps->Dc ss->∃G,(oW ps ss/\g [.int w,ay ps,aS ss] M=.ok (.str "ok") (M++G))\/(¬oW ps ss/\g [.int w,ay ps,aS ss] M=.ok (.str "bad") (M++G))
theorem fb {cB cH cN cR cY:Addr} {gc gw:D1} (hd:JL cB cN cH cR) (hc:oA cB gc) (hw:nA fuel gw):tI (fG cB cH cN cR cY (trunc (cb gc gw)) (br cY (trunc (cb gc gw)))):=by
 intro w ps ss M h1 h2
 have IC:=fS (Fi hc) hw
 have ID:=xI hc hw ps ss (h1:=h1) (h2:=h2)
 generalize trunc (cb gc gw)=gr at IC ID ⊢
 have body:∃G,(oW ps ss/\bE (bu (aA (gf false) (af 0) (dC (.int 0)))) (bR (al gr [(af 1),(af 2)])) (bR (nk cY (br cY gr) [(af 1),(af 2),(dC (.int 3))])) [some (.int w),some (ay ps),some (aS ss),some .bb,none,none] M=.nx [some (.int w),some (ay ps),some (aS ss),some .bb,none,none] (M++G)) ∨
   (¬oW ps ss/\bE (bu (aA (gf false) (af 0) (dC (.int 0)))) (bR (al gr [(af 1),(af 2)])) (bR (nk cY (br cY gr) [(af 1),(af 2),(dC (.int 3))])) [some (.int w),some (ay ps),some (aS ss),some .bb,none,none] M=.exc cB [some (.int w),some (ay ps),some (aS ss),some .bb,none,none] (M++G)):=by
  by_cases hy:oW ps ss
  ·obtain⟨hg,Iz⟩:=hy.good
   generalize LF:ss.map u0=Fj at hg Iz
   subst Iz
   rw[tF]
   by_cases hw:w=0
   ·refine⟨[],.inl ⟨hy,?_⟩⟩
    rw[kE (by simp[hw]),zI,xF (IC ps Fj M hg)]
   ·refine⟨oy cY M.length ps Fj (fJ ps Fj) 3,.inl ⟨hy,(kF (by simp[hw])).trans (xF (x:=.obj M.length) ?_)⟩⟩
    have e:=cA (c:=cY) IC hg 3 M
    have e0:cQ [(af 1),(af 2),(dC (.int 3))] [some (.int w),some (ay ps),some (bV Fj),some .bb,none,none] M=.ok [ay ps,bV Fj,.int 3] M:=rfl
    unfold nk
    rw[e0,ai,e]
    rfl
  ·by_cases hw:w=0
   ·refine⟨[],.inr ⟨hy,?_⟩⟩
    rw[kE (by simp[hw]),zI,xG (ID M hy)]
   ·refine⟨[.ins cY []],.inr ⟨hy,(kF (by simp[hw])).trans (xG ?_)⟩⟩
    have e:br cY gr [.obj M.length,ay ps,aS ss,.int 3] (M++[.ins cY []])=.exc cB (M++[.ins cY []]):=by
     unfold br
     refine gD (P:=fun r=>r=.exc cB (M++[.ins cY []])) (aK ?_)
     unfold fo
     have e2:al gr [(af 1),(af 2)] [some (.obj M.length),some (ay ps),some (aS ss),some (.int 3)] (M++[.ins cY []])=.exc cB (M++[.ins cY []]):=ID _ hy
     show xu _ _ (Res.out (al gr [(af 1),(af 2)] [some (.obj M.length),some (ay ps),some (aS ss),some (.int 3)] (M++[.ins cY []])) _ _)
     rw[e2]
     exact cV (cv rfl)
    have e0:cQ [(af 1),(af 2),(dC (.int 3))] [some (.int w),some (ay ps),some (aS ss),some .bb,none,none] M=.ok [ay ps,aS ss,.int 3] M:=rfl
    unfold nk
    rw[e0,ai,e]
    rfl
 obtain⟨G,⟨hy,e⟩ | ⟨hy,e⟩⟩:=body
 ·refine⟨G,.inl ⟨hy,?_⟩⟩
  unfold fG
  refine gD (P:=fun r=>r=.ok (.str "ok") (M++G)) ?_
  refine cc .bb M rfl (aK ?_)
  unfold w9
  simp only[zC,zD,zE,zF,Nat.zero_add,Nat.reduceAdd,Nat.reduceSub,List.replicate,zG,zH,List.set_cons_succ,List.set_cons_zero]
  rw[e]
  exact aB (aK (CF (M++G) (by simp[B1,lI]) (gk (.str "ok") (M++G) rfl (gF (fy rfl)))))
 ·refine⟨G++[.exc cB],.inr ⟨hy,?_⟩⟩
  rw[← List.append_assoc]
  unfold fG
  refine gD (P:=fun r=>r=.ok (.str "bad") (M++G++[.exc cB])) ?_
  refine cc .bb M rfl (aK ?_)
  unfold w9
  simp only[zC,zD,zE,zF,Nat.zero_add,Nat.reduceAdd,Nat.reduceSub,List.replicate,zG,zH,List.set_cons_succ,List.set_cons_zero]
  rw[e]
  dsimp only
  rw[if_pos (by simp)]
  generalize M++G=N
  dsimp only[List.set]
  have hx:∀(x y z u:Bool) (ρ:cI),ρ[3]? = some (some (.obj N.length))->oa [(cB,x),(cN,y),(cH,z),(cR,u)] (af 3) ρ (N++[.exc cB])=.ok (.bl x) (N++[.exc cB]):=fun x y z u ρ h=>by
   unfold oa
   rw[dD,h,ai]
   simp[List.lookup]
  refine aB (aK (kQ (N++[.exc cB]) (by simp[B1,lI]) (eU (aB (cc (.bl true) (N++[.exc cB]) ?_ (gk (.str "bad") (N++[.exc cB]) ?_ (fy rfl)))))))
  ·unfold jo wF
   rw[hx _ _ _ _ _ rfl,ai]
   dsimp only
   rw[hx _ _ _ _ _ rfl,ai]
   dsimp only
   rw[hx _ _ _ _ _ rfl,ai]
   rfl
  ·simp[kM]
end Sb
end
section
namespace L2
open PySem PyProof.Rows
theorem xJ:∀(ns acc:List Int),(ns.foldl step_dedup acc).length≤acc.length+ns.length
 | [],acc=>Nat.le_refl _
 | n::ns,acc=>by
  have h:=xJ ns (step_dedup acc n)
  rw[List.foldl_cons,zE]
  unfold step_dedup at h ⊢
  split at h
  ·rename_i e; rw[if_pos e]; omega
  ·rename_i e; rw[if_neg e]; rw[List.length_append,List.length_singleton] at h; omega
theorem AM:∀(ns acc:List Int),(ns.foldl step_dedup acc).length=acc.length+ns.length↔ns.Nodup/\∀x∈ns,x∉acc
 | [],acc=>by simp
 | n::ns,acc=>by
  have h:=AM ns (acc++[n])
  have h2:=xJ ns acc
  rw[List.foldl_cons,zE]
  unfold step_dedup at h h2 ⊢
  by_cases e:n∈acc
  ·rw[if_pos (by simp[e])]
   constructor
   ·intro x; omega
   ·intro x; exact absurd e (x.2 n (by simp))
  ·rw[if_neg (by simpa using e)]
   rw[List.length_append,List.length_singleton] at h
   rw[show acc.length+(ns.length+1)=acc.length+1+ns.length by omega,h,List.nodup_cons]
   constructor
   ·rintro⟨h3,h4⟩
    refine⟨⟨fun h5=>h4 n h5 (by simp),h3⟩,fun x hx=>?_⟩
    rcases List.mem_cons.mp hx with rfl | hx
    ·exact e
    ·exact fun h5=>h4 x hx (by simp[h5])
   ·rintro⟨⟨h3,h4⟩,h5⟩
    refine⟨h4,fun x hx h6=>?_⟩
    rcases List.mem_append.mp h6 with h6 | h6
    ·exact h5 x (by simp[hx]) h6
    ·rw[List.mem_singleton] at h6
     subst h6
     exact h3 hx
theorem Ad (ns:List Int):pI ns=ns.length↔ns.Nodup:=by
 have e:pI ns=(ns.foldl step_dedup []).length:=by
  unfold pI firstMet
  congr 2
  refine List.ext_getElem? fun i=>?_
  rw[zJ]
  by_cases h:i<ns.length
  ·rw[List.getElem?_range h,Option.map_some,List.getD_eq_getElem?_getD,List.getElem?_eq_getElem h]; rfl
  ·rw[List.getElem?_eq_none (by rw[List.length_range]; omega),List.getElem?_eq_none (by omega)]; rfl
 rw[e]
 have:=AM ns []
 simpa using this
theorem tJ:∀l:List (List Int),(eC l).length≤l.length
 | []=>Nat.le_refl _
 | x::l=>by
  have:=tJ l
  unfold eC
  split<;>simp only[zE]<;>omega
theorem tK:∀l:List (List Int),(eC l).length=l.length↔l.Nodup
 | []=>by simp[eC]
 | x::l=>by
  have h:=tK l
  have h2:=tJ l
  rw[List.nodup_cons]
  unfold eC
  split
  ·rename_i e
   rw[zE]
   exact⟨fun x=>by omega,fun x=>absurd e x.1⟩
  ·rename_i e
   rw[zE,zE]
   exact⟨fun x=>⟨e,h.mp (by omega)⟩,fun x=>by rw[h.mpr x.2]⟩
theorem AN {α:Type} {d:DE} {ρ:cI} {M M':aC} {xs:List α} {f:α->Bool} (h:d ρ M=.ok (.lst (xs.map fun x=>.bl (f x))) M'):al qZ [d] ρ M=.ok (.bl (xs.all f)) M':=by
 rw[lY,aN,h,ai,dR,ai,ai]
 unfold qZ
 simp only[ph,Option.bind_some,uF]
 rw[List.all_map]
 rfl
theorem Fl {α:Type} {M:aC} {cap:List (Option Nat)} {di:DI} {g:DG} {d:DE} {ρ:cI} {w:oU} {xs:List α} (enc:α->PV) (f:α->PV) (R:cI->Prop)
  (hi:di ρ M=.ok (xs.map enc,w) M) (hc:kN w M) (hR:R (qX cap ρ)) (h:∀x∈xs,∀ ρ,R ρ->∃ ρ1,g (enc x) ρ=some ρ1/\R ρ1/\d ρ1 M=.ok (f x) M) (hl:xs.length≤100) :
  fk false cap di g wM d ρ M=.ok (.lst (xs.map f)) M:=by
 rw[fx enc (fun _=>true) f R hi hc hR (fun x hx ρ hρ=>by
  obtain⟨ρ1,h1,h2,h3⟩:=h x hx ρ hρ
  exact⟨ρ1,h1,h2,rfl,fun _=>h3⟩) (Nat.le_trans hl (by decide)),List.filter_eq_self.mpr (fun _ _=>rfl),Sb.cO (by rw[zK]; exact hl)]
theorem qe:∀ss:List Sb.SI,nw (ss.map Sb.eF)=some (ss.map fun s=>[s.1,s.2])
 | []=>rfl
 | s::ss=>by
  rw[zC,nw,qe ss]
  rfl
end L2
namespace Sb
open PySem L2
noncomputable def ends (ps:cS):List Int:=ps.flatMap Pc.js
theorem md:∀{ps:cS},(∀p∈ps,p.js.Nodup)->∀j,(ends ps).count j=cnt ps j
 | [],_,j=>rfl
 | p::ps,h,j=>by
  have ih:=md (fun q hq=>h q (List.mem_cons_of_mem _ hq)) j
  have hp:=h p (by simp)
  unfold ends cnt at ih ⊢
  rw[List.flatMap_cons,List.count_append,ih]
  by_cases e:j∈p.js
  ·have h1:=List.nodup_iff_count.mp hp j
   have h2:=List.count_pos_iff.mpr e
   rw[List.filter_cons_of_pos (by simp[e]),zE]; omega
  ·rw[List.filter_cons_of_neg (by simp[e]),List.count_eq_zero.mpr e]; omega
theorem qf {ps:cS} {j:Int}:j∈ends ps↔∃p∈ps,j∈p.js:=List.mem_flatMap
theorem tL {ps:cS} (h:∀p∈ps,p.js.Nodup):AL ps↔(1≤ps.length/\ps.length≤16)/\∀j∈ends ps,(0≤j/\j≤999)/\(ends ps).count j<3:=by
 unfold AL C8
 refine and_congr_right fun _=>⟨fun x j hj=>?_,fun x p hp j hj=>?_⟩
 ·obtain⟨p,hp,hj⟩:=qf.mp hj
  obtain⟨h1,_,h3⟩:=x p hp j hj
  rw[tE] at h3
  rw[md h]
  exact⟨h1,by omega⟩
 ·obtain⟨h1,h2⟩:=x j (qf.mpr ⟨p,hp,hj⟩)
  rw[md h] at h2
  rw[tE]
  exact⟨h1,List.nodup_iff_count.mp (h p hp) j,by omega⟩
theorem me {ps:cS} {ss:List SI}:xD ps ss↔(ss.length≤16/\ss.Nodup)/\∀s∈ss,(0≤s.2/\s.2<ps.length)/\s.1∈(Pc.at ps s.2.toNat).js:=by
 unfold xD IB
 constructor
 ·rintro⟨h1,h2⟩
  exact⟨⟨h1,tH fun s hs=>(h2 s hs).1⟩,fun s hs=>(h2 s hs).2⟩
 ·rintro⟨⟨h1,h2⟩,h3⟩
  exact⟨h1,fun s hs=>⟨List.nodup_iff_count.mp h2 s,h3 s hs⟩⟩
theorem AL.nd {ps:cS} (h:AL ps):∀p∈ps,p.js.Nodup:=fun p hp=>tH fun j hj=>(h.2 p hp j hj).2.1
theorem Fm {ss:List SI}:(ss.map fun s=>[s.1,s.2]).Nodup↔ss.Nodup:=by
 rw[List.Nodup,List.pairwise_map]
 refine⟨fun h=>h.imp fun {a b} eu e=>eu (by rw[e]),fun h=>h.imp fun {a b} eu e=>eu ?_⟩
 simp at e
 exact Prod.ext e.1 e.2
theorem qg (ps:cS):(ends ps).length≤ps.length*3:=ig ps fun p _=>nB p
noncomputable def qh (g:D1):Prop:=∀(ps:cS) (ss:List SI) (a b:Nat) (M:aC),ps.length≤30->ss.length≤100->M[a]? = some (.lst (ps.map Pc.enc))->M[b]? = some (.lst (ss.map eF))->∃k:Bool,g [.obj a,.obj b] M=.ok (.bl k) M/\(k=true↔oW ps ss)
theorem dZ:qh iY:=by
 intro ps ss a b M hp hs ha hb
 unfold iY
 refine gD (P:=fun r=>∃k:Bool,r=.ok (.bl k) M/\(k=true↔oW ps ss)) ?_
 simp only[zC,zD,zE,zF,Nat.zero_add,Nat.reduceAdd,Nat.reduceSub,List.replicate,zG,zH]
 have bad:¬oW ps ss->Fin (fun r=>∃k:Bool,r=.ok (.bl k) M/\(k=true↔oW ps ss)) (.rt (.bl false) M):=fun h=>fy ⟨false,rfl,by simp[h]⟩
 refine cc (.lst []) M (by simp) ?_
 dsimp only[List.set]
 refine aK (gQ Pc.enc (fun pre ρ M'=>(∃y3,ρ=[some (.obj a),some (.obj b),some (ie (ends pre)),y3]/\M'=M)/\∀p∈pre,p.js.Nodup) ps (some (a,.lst (ps.map Pc.enc))) M (xt (by simp) ha) ha ⟨⟨none,rfl,rfl⟩,by simp⟩ ?_ ?_)
 ·rintro pre p post hx ρ M' ⟨⟨y3,rfl,rfl⟩,jc⟩
  have hm:p∈ps:=by rw[hx]; simp
  have Mo:=nB p
  have EK:=qg pre
  have gX:pre.length≤30:=by have:=congrArg List.length hx; simp at this; omega
  refine⟨_,rfl,?_⟩
  dsimp only[List.set]
  refine aK (iI (!decide (p.js.Nodup)) M' ?_ (fun hk=>?_) fun hk=>?_)
  ·have e1:vk false (af 3) (gM (dC (.int 1))) cX [some (.obj a),some (.obj b),some (ie (ends pre)),some p.enc] M'=.ok (.tup (p.js.map .int)) M':=F5 p M'
   have e2:al aZ [af 3] [some (.obj a),some (.obj b),some (ie (ends pre)),some p.enc] M'=.ok (.int (p.js.length+1)) M':=by cases p<;>rfl
   have e3:jy (vk false (af 3) (gM (dC (.int 1))) cX) [some (.obj a),some (.obj b),some (ie (ends pre)),some p.enc] M'=.ok (.int (pI p.js)) M':=by
    unfold jy
    rw[e1,ai,show tupI (.tup (p.js.map .int))=some p.js from ints_map p.js]
    dsimp only
    rw[if_pos (by omega)]
   rw[jA,dE,e3,ai,dE,e2,ai,jz,ai]
   simp only[nR,gb,ai,pX,if_true]
   congr 2
   rw[decide_eq_decide,← Ad]
   omega
  ·have hk:¬p.js.Nodup:=by simpa using hk
   exact gk (.bl false) M' rfl (gF (zV (gF (bad fun h=>hk (h.1.nd p hm)))))
  ·have hk:p.js.Nodup:=by simpa using hk
   refine eU (aB (AG (ie (ends (pre++[p]))) M' ?_ (cw ha ⟨⟨_,rfl,rfl⟩,fun q hq=>?_⟩)))
   ·have e1:al (fh false) [vk false (af 3) (gM (dC (.int 1))) cX] [some (.obj a),some (.obj b),some (ie (ends pre)),some p.enc] M'=.ok (ie p.js) M':=by cases p<;>rfl
    rw[dE,dD]
    dsimp only[zB,zA]
    rw[ai,e1,ai,wx,cO (by simp[-List.length_flatMap]; omega)]
    unfold ends
    simp
   ·rcases List.mem_append.mp hq with hq | hq
    ·exact jc q hq
    ·rw[List.mem_singleton.mp hq]; exact hk
 ·rintro ρ' M' ⟨⟨y3,rfl,rfl⟩,Gp⟩
  have EK:=qg ps
  generalize IE:(fun j:Int=>decide (0≤j/\j≤999) && decide ((ends ps).count j<3))=f1
  generalize JM:(fun s:SI=>decide (0≤s.2/\s.2<ps.length) && decide (s.1∈(Pc.at ps s.2.toNat).js))=f2
  generalize hρ:([some (.obj a),some (.obj b),some (ie (ends ps)),y3]:cI)=ρ
  have e1:bu (fg oT oT (dC (.int 1)) (al aZ [(af 0)]) (dC (.int 16))) ρ M'=.ok (decide (1≤ps.length/\ps.length≤16)) M':=by
   subst hρ
   unfold fg
   by_cases h:1≤ps.length
   ·simp[oT,aZ,ha,h,show(1:Int)≤(ps.length:Int) by omega]
    omega
   ·simp[oT,aZ,ha,h,show ¬(1:Int)≤(ps.length:Int) by omega]
  have e2:al qZ [(fk false [none,some 2] (iL (af 2)) (gN 0) wM (jo (fg oT oT (dC (.int 0)) (af 0) (dC (.int 999))) (aA sE (gh countP (af 1) [(af 0)]) (dC (.int 3)))))] ρ M'=.ok (.bl ((ends ps).all f1)) M':=by
   subst hρ IE
   refine AN (Fl PV.int _ (fun ρ=>∃y,ρ=[y,some (ie (ends ps))]) (eT rfl) trivial ⟨none,rfl⟩ (fun j _ ρ hρ=>?_) (by omega))
   obtain⟨y,rfl⟩:=hρ
   refine⟨_,rfl,⟨_,rfl⟩,?_⟩
   have xU:=fB (enc:=PV.int) (fun a=>dj a) (fun a b e=>by cases e; rfl) (a:=j) (as:=ends ps) (M:=M')
   unfold jo fg
   by_cases h:0≤j
   ·by_cases h2:j≤999
    ·simp[oT,sE,h,h2,xU]
     omega
    ·simp[oT,sE,h,h2]
   ·simp[oT,h]
  refine aB (aK (iI (!(decide (1≤ps.length/\ps.length≤16) && (ends ps).all f1)) M' ?_ (fun hk=>?_) fun hk=>?_))
  ·rw[rE,tj,e1,ai,ai,tj,zS,e2]
   by_cases h:1≤ps.length/\ps.length≤16<;>simp[h,kM]
  ·refine gk (.bl false) M' rfl (gF (bad fun h=>?_))
   obtain⟨h1,h2⟩:=(tL Gp).mp h.1
   subst IE
   have:(ends ps).all (fun j:Int=>decide (0≤j/\j≤999) && decide ((ends ps).count j<3))=true:=List.all_eq_true.mpr fun j hj=>by simp[(h2 j hj).1.1,(h2 j hj).1.2,(h2 j hj).2]
   rw[this,decide_eq_true h1] at hk
   cases hk
  ·have hk:(1≤ps.length/\ps.length≤16)/\(ends ps).all f1=true:=by simpa[-List.all_eq_true] using hk
   have hP:AL ps:=(tL Gp).mpr ⟨hk.1,fun j hj=>by
    have:=List.all_eq_true.mp hk.2 j hj
    subst IE
    simpa using this⟩
   have e3:ia (af 1) ρ M'=.ok (.int (eC (ss.map fun s=>[s.1,s.2])).length) M'\/17<ss.length:=by
    by_cases h:ss.length≤17
    ·subst hρ
     refine .inl ?_
     unfold ia
     rw[dD]
     dsimp only[zB,zA]
     rw[ai,show cJ M' (.obj b)=some (ss.map eF) by simp[cJ,hb],Option.bind_some,qe]
     dsimp only
     rw[if_pos (by rw[zK]; exact h)]
    ·exact .inr (by omega)
   have e4:al aZ [af 1] ρ M'=.ok (.int ss.length) M':=by subst hρ; simp[aZ,hb]
   refine eU (aB (aK (iI (decide (16<ss.length) || !decide ss.Nodup) M' ?_ (fun l8=>?_) fun l8=>?_)))
   ·rw[rE,jA,dE,e4,ai,jz,ai]
    by_cases h:16<ss.length
    ·simp[jV,h,show(16:Int)<(ss.length:Int) by omega]
    ·rcases e3 with e3 | e3
     ·have e5:bu (aA (gf true) (ia (af 1)) (al aZ [af 1])) ρ M'=.ok (!decide ss.Nodup) M':=by
       rw[jA,dE,e3,ai,e4,ai,pX,ai]
       simp only[if_true]
       congr 2
       rw[decide_eq_decide,← Fm,← tK,zK]
       omega
      have e6:jV (.int ss.length) (.int 16) M'=.ok (.bl false) M':=by simp[jV]; omega
      rw[e6,ai,ai,if_neg (by decide),e5]
      simp[h]
     ·omega
   ·refine gk (.bl false) M' rfl (gF (bad fun h=>?_))
    obtain⟨⟨h1,h2⟩,_⟩:=me.mp h.2
    simp[h2] at l8
    omega
   ·have l8:ss.length≤16/\ss.Nodup:=by simpa using l8
    refine eU (aB (gk (.bl (ss.all f2)) M' ?_ (fy ⟨_,rfl,?_⟩)))
    ·subst hρ JM
     refine AN (Fl eF _ (fun ρ=>∃y z,ρ=[y,z,some (.obj a)]) (xt rfl hb) hb ⟨none,none,rfl⟩ (fun s _ ρ hρ=>?_) (by omega))
     obtain⟨y,z,rfl⟩:=hρ
     obtain⟨j,n⟩:=s
     refine⟨_,rfl,⟨_,_,rfl⟩,?_⟩
     unfold jo fg
     by_cases h:0≤n
     ·by_cases h2:n<ps.length
      ·obtain⟨m,rfl⟩:∃m:Nat,n=m:=⟨n.toNat,by omega⟩
       have hm:m<ps.length:=by omega
       have ex:cK (.obj a) (.int m) M'=.ok (Pc.at ps m).enc M':=by
        have:=tw (M:=M') hm
        unfold cK at this ⊢
        simp only[pj,ha,jj] at this ⊢
        exact this
       simp[oT,sE,aZ,ha,h2,ex,F5]
      ·simp[oT,sE,aZ,ha,h,h2]
     ·simp[oT,h]
    ·subst JM
     rw[List.all_eq_true]
     constructor
     ·exact fun x=>⟨hP,me.mpr ⟨l8,fun s hs=>by simpa using x s hs⟩⟩
     ·intro h s hs
      have:=(me.mp h.2).2 s hs
      simpa using this
end Sb
end
section
namespace L2
open PySem
section
variable {ρ:cI} {M:aC}
theorem iB {Q:Out->Prop} {s1 s2:DS} (R:cI->aC->Prop) (h:∃ ρ' M',s1 ρ M=.nx ρ' M'/\R ρ' M') (k:∀ ρ' M',R ρ' M'->Q (s2 ρ' M')):Q (aG s1 s2 ρ M):=by
 obtain⟨ρ',M',e,r⟩:=h
 unfold aG
 rw[e]
 exact k ρ' M' r
theorem tM {i:Nat} {d:DE} {M':aC} {x:PV} (h:d ρ M=.ok x M'):bZ i d ρ M=.nx (ρ.set i (some x)) M':=by unfold bZ; rw[h]; rfl
theorem CS {vs:List Int} {i:Int} (h0:0≤i) (h1:i<vs.length):∃v,v∈vs/\cK (.lst (vs.map .int)) (.int i) M=.ok (.int v) M:=by
 obtain⟨n,rfl⟩:∃n:Nat,i=n:=⟨i.toNat,by omega⟩
 have hn:n<vs.length:=by omega
 exact⟨vs[n],List.getElem_mem hn,Sb.i3 (by rw[zJ,List.getElem?_eq_getElem hn]; rfl)⟩
theorem ka {ds:List DE} {di:DE} (vs:List Int) {x m:Int} (hm:m=vs.length) (hp:0<m) (hl:vs.length≤100) (h1:cQ ds ρ M=.ok (vs.map .int) M) (h2:di ρ M=.ok (.int (x%m)) M):∃v,v∈vs/\aA cK (cn false ds) di ρ M=.ok (.int v) M:=by
 obtain⟨v,hv,e⟩:=CS (M:=M) (vs:=vs) (i:=x%m) (Int.emod_nonneg _ (by omega)) (by rw[← hm]; exact Int.emod_lt_of_pos _ hp)
 refine⟨v,hv,?_⟩
 rw[dE,tf,h1,ai,Sb.cO (by rw[zK]; exact hl),ai,h2,ai,e]
theorem qi {n k:Nat} {xs:List PV} (h:M[n]? = some (.lst xs)):flat M (k+1) (.obj n)=flat M (k+1) (.lst xs):=by
 simp only[flat,h]
theorem iC {n:Nat} {xs:List PV} (h:M[n]? = some (.lst xs)):cJ M (.obj n)=some xs:=by simp only[cJ,h]
theorem rJ {n i:Nat} {xs:List PV} {x:PV} (h:M[n]? = some (.lst xs)) (hx:xs[i]? = some x):cK (.obj n) (.int i) M=.ok x M:=by
 have:=Sb.i3 (M:=M) hx
 unfold cK at this ⊢
 simp only[pj,h,jj] at this ⊢
 exact this
end
end L2
namespace Sb
open PySem L2
noncomputable def Jb (x:Int):Prop := -1≤x/\x≤1000
noncomputable def Gq (ps:cS):Prop:=∀p∈ps,∀j∈p.js,Jb j
structure Fo (M:aC) (ps:cS) (q:Nat) (e:List Int):Prop where
 p0:M[0]? = some (.lst (ps.map Pc.enc))
 q0:q≠0
 hq:M[q]? = some (.lst (e.map .int))
 len:e.length=2\/e.length=3
 jb:∀x∈e,Jb x
theorem Fo.new {M:aC} {ps:cS} {e:List Int} (h:M[0]? = some (.lst (ps.map Pc.enc))) (hl:e.length=2\/e.length=3) (hj:∀x∈e,Jb x):Fo (M++[.lst (e.map .int)]) ps M.length e:=by
 have h0:0<M.length:=(List.getElem?_eq_some_iff.mp h).1
 exact⟨by rw[List.getElem?_append_left h0]; exact h,by omega,by simp,hl,hj⟩
theorem IF {x:PV} {M:aC} {n:Int}:jl false (.lst [x]) (.int (n%2)) M=.ok (.lst (if n%2=0 then[] else[x])) M:=by
 rcases Int.emod_two_eq n with h | h<;>rw[h]<;>with_unfolding_all rfl
theorem CT {e:List Int} (h:e.length=2\/e.length=3):(Ab e).enc=.tup (.str (if e.length=2 then "plain" else "points")::e.map .int):=by
 rcases e with _ | ⟨a,_ | ⟨b,_ | ⟨d,_ | ⟨e,r⟩⟩⟩⟩
 ·simp at h
 ·simp at h
 ·rfl
 ·rfl
 ·simp at h
theorem Fp {Q:Out->Prop} {gm:D1} (hm:lh gm) {ns:List Int} {k:Int} {y3 y4:Option PV} {M:aC} {ps:cS} (hk:0≤k/\k<17) (hp:M[0]? = some (.lst (ps.map Pc.enc))) (hl:ps.length≤17) (hj:Gq ps)
  (q:∀y3 y4 p M',M'[0]? = some (.lst ((ps++[p]).map Pc.enc))->(∀j∈p.js,Jb j)->Q (.nx [some (.dU ns),some (.obj 0),some (.int k),y3,y4,none,none,none,none,none] M')) :
  Q ((aG (bZ 3 (al gm [(af 0),(aA (bD false) (dC (.int 1)) (af 2))])) (aG (bZ 4 (aA (bD true) (cn false [(aA (bD false) (dC (.int 20)) (af 2)),(aA (bD false) (dC (.int 21)) (af 2))]) (aA (jl false) (cn false [(aA (bD false) (dC (.int 600)) (af 2))]) (aA aQ (af 3) (dC (.int 2)))))) (aG (bE (bu (aA (gf false) (aA aQ (af 3) (dC (.int 3))) (dC (.int 0)))) (bZ 4 (aA (bD true) (cn false [(aA cK (af 4) (dC (.int 1))),(aA cK (af 4) (dC (.int 0)))]) (vk false (af 4) (gM (dC (.int 2))) cX))) fF) (aG (bE (bu (aA (gf false) (aA aQ (aA bQ (af 3) (dC (.int 6))) (dC (.int 25))) (dC (.int 0)))) (nq (af 4) (aA aQ (aA bQ (af 3) (dC (.int 150))) (al aZ [(af 4)])) (aA cK (cn false [(n0 (dC (.int 1))),(dC (.int 0)),(dC (.int 999)),(dC (.int 1000)),(dC (.int 20)),(aA (bD false) (dC (.int 21)) (af 2)),(dC (.int 600)),(aA (bD false) (dC (.int 20)) (af 2))]) (aA aQ (aA bQ (af 3) (dC (.int 450))) (dC (.int 8))))) fF) (bR (gh cL (af 1) [(aA (bD false) (jh [(aA cK (cn false [(dC (.str "plain")),(dC (.str "points"))]) (aA nR (al aZ [(af 4)]) (dC (.int 2))))]) (al iU [(af 4)]))])))))) [some (.dU ns),some (.obj 0),some (.int k),y3,y4,none,none,none,none,none] M):=by
 refine cc (.int (j9 ns (1+k))) M (by simp[hm ns (1+k) M]) ?_
 generalize j9 ns (1+k)=n
 dsimp only[List.set]
 let e0:List Int:=[20+k,21+k]++(if n%2=0 then[] else[600+k])
 have h0:Fo (M++[.lst (e0.map .int)]) ps M.length e0:=by
  refine .new hp ?_ fun x hx=>?_
  ·by_cases h:n%2=0<;>simp[e0,h]
  ·have:x=20+k\/x=21+k\/x=600+k:=by
    by_cases h:n%2=0<;>simp[e0,h] at hx<;>omega
   unfold Jb
   omega
 refine cc (.obj M.length) (M++[.lst (e0.map .int)]) ?_ ?_
 ·simp[aQ,IF]
  rw[lG (by by_cases h:n%2=0<;>simp[h,lim])]
  simp[e0]
  by_cases h:n%2=0<;>simp[h]
 dsimp only[List.set]
 generalize M++[.lst (e0.map .int)]=M1 at h0 ⊢
 generalize e0=e1 at h0
 generalize M.length=q1 at h0 ⊢
 refine iB (fun ρ' M'=>∃q e,ρ'=[some (.dU ns),some (.obj 0),some (.int k),some (.int n),some (.obj q),none,none,none,none,none]/\Fo M' ps q e) ?_ ?_
 ·by_cases h3:n%3=0
  ·rw[kE (by simp[aQ,h3])]
   obtain⟨a,b,r,rfl⟩:∃a b r,e1=a::b::r:=by
    rcases e1 with _ | ⟨a,_ | ⟨b,r⟩⟩
    ·have:=h0.len; simp at this
    ·have:=h0.len; simp at this
    ·exact⟨a,b,r,rfl⟩
   have hr:r.length≤1:=by have:=h0.len; simp only[zE] at this; omega
   have e2:aA (bD true) (cn false [(aA cK (af 4) (dC (.int 1))),(aA cK (af 4) (dC (.int 0)))]) (vk false (af 4) (gM (dC (.int 2))) cX) [some (.dU ns),some (.obj 0),some (.int k),some (.int n),some (.obj q1),none,none,none,none,none] M1=.ok (.obj M1.length) (M1++[.lst ((b::a::r).map .int)]):=by
    have i0:=rJ (i:=0) h0.hq rfl
    have i1:=rJ (i:=1) h0.hq rfl
    have hs:Az false (.obj q1) (some 2) none M1=.ok (.lst (r.map .int)) M1:=by
     unfold Az
     dsimp only
     rw[iC h0.hq]
     dsimp only
     have:=CM (xs:=(a::b::r).map PV.int) (k:=2) (by simp)
     rw[show((2:Nat):Int)=2 from rfl] at this
     rw[this,cO (by simp; omega)]
     rfl
    simp at i0 i1
    simp[i0,i1,hs]
    rw[lG (by simp[lim]; omega)]
   refine⟨_,_,tM e2,M1.length,b::a::r,rfl,.new h0.p0 (by simpa using h0.len) fun x hx=>h0.jb x ?_⟩
   simp only[List.mem_cons] at hx ⊢
   rcases hx with h | h | h
   ·exact .inr (.inl h)
   ·exact .inl h
   ·exact .inr (.inr h)
  ·rw[kF (by simp[aQ,h3])]
   exact⟨_,_,rfl,q1,e1,rfl,h0⟩
 rintro ρ' M' ⟨q2,e2,rfl,h1⟩
 refine iB (fun ρ' M'=>∃q e,ρ'=[some (.dU ns),some (.obj 0),some (.int k),some (.int n),some (.obj q),none,none,none,none,none]/\Fo M' ps q e) ?_ ?_
 ·by_cases h6:n / 6%25=0
  ·rw[kE (by simp[aQ,bQ,h6])]
   obtain⟨v,hv,e3⟩:=ka (ρ:=[some (.dU ns),some (.obj 0),some (.int k),some (.int n),some (.obj q2),none,none,none,none,none]) (M:=M') (ds:=[(n0 (dC (.int 1))),(dC (.int 0)),(dC (.int 999)),(dC (.int 1000)),(dC (.int 20)),(aA (bD false) (dC (.int 21)) (af 2)),(dC (.int 600)),(aA (bD false) (dC (.int 20)) (af 2))]) (di:=aA aQ (aA bQ (af 3) (dC (.int 450))) (dC (.int 8))) (x:=n / 450) (m:=8)
    [-1,0,999,1000,20,21+k,600,20+k] rfl (by decide) (by simp) (by simp[n0]) (by simp[aQ,bQ])
   have LG:Jb v:=by
    simp only[List.mem_cons,List.not_mem_nil,or_false] at hv
    unfold Jb
    omega
   have hlen:=h1.len
   obtain⟨i,hi,ei⟩:∃i:Nat,i<e2.length/\n / 150%(e2.length:Int)=i:=by
    have h1:=Int.emod_nonneg (n / 150) (b:=(e2.length:Int)) (by omega)
    have h2:=Int.emod_lt_of_pos (n / 150) (b:=(e2.length:Int)) (by omega)
    exact⟨(n / 150%(e2.length:Int)).toNat,by omega,by omega⟩
   have e4:aA aQ (aA bQ (af 3) (dC (.int 150))) (al aZ [(af 4)]) [some (.dU ns),some (.obj 0),some (.int k),some (.int n),some (.obj q2),none,none,none,none,none] M'=.ok (.int i) M':=by
    simp[aZ,h1.hq,aQ,bQ,gb,show 0<e2.length by omega,ei]
   have e5:pH (.obj q2) (.int i) (.int v) M'=some (M'.set q2 (.lst ((e2.set i v).map .int))):=by
    unfold pH
    simp only[h1.hq]
    simp[sh,hi]
   refine⟨_,M'.set q2 (.lst ((e2.set i v).map .int)),xA (Q:=fun o=>o=_) _ _ _ _ _ _ _ e3 rfl e4 e5 rfl,q2,e2.set i v,rfl,?_,h1.q0,?_,by rw[List.length_set]; exact hlen,fun x hx=>?_⟩
   ·rw[List.getElem?_set_ne h1.q0]; exact h1.p0
   ·rw[List.getElem?_set_self (List.getElem?_eq_some_iff.mp h1.hq).1]
   ·rcases List.mem_or_eq_of_mem_set hx with hx | rfl
    ·exact h1.jb x hx
    ·exact LG
  ·rw[kF (by simp[aQ,bQ,h6])]
   exact⟨_,_,rfl,q2,e2,rfl,h1⟩
 rintro ρ' M' ⟨q3,e3,rfl,h2⟩
 refine dF .bb (M'.set 0 (.lst (ps.map Pc.enc++[(Ab e3).enc]))) ?_ (q (some (.int n)) (some (.obj q3)) (Ab e3) _ ?_ ?_)
 ·have hlen:=h2.len
  have et:al iU [(af 4)] [some (.dU ns),some (.obj 0),some (.int k),some (.int n),some (.obj q3),none,none,none,none,none] M'=.ok (.tup (e3.map .int)) M':=by
   simp[iU,iC h2.hq]
  have ei:aA cK (cn false [(dC (.str "plain")),(dC (.str "points"))]) (aA nR (al aZ [(af 4)]) (dC (.int 2))) [some (.dU ns),some (.obj 0),some (.int k),some (.int n),some (.obj q3),none,none,none,none,none] M'=.ok (.str (if e3.length=2 then "plain" else "points")) M':=by
   have el:aA nR (al aZ [(af 4)]) (dC (.int 2)) [some (.dU ns),some (.obj 0),some (.int k),some (.int n),some (.obj q3),none,none,none,none,none] M'=.ok (.int ((if e3.length=2 then 0 else 1:Nat):Int)) M':=by
    rcases hlen with h | h<;>simp[aZ,h2.hq,h,nR,gb]
   have e7:cn false [(dC (.str "plain")),(dC (.str "points"))] [some (.dU ns),some (.obj 0),some (.int k),some (.int n),some (.obj q3),none,none,none,none,none] M'=.ok (.lst [.str "plain",.str "points"]) M':=by simp
   rw[dE,e7,ai,el,ai]
   rcases hlen with h | h
   ·simp[h]; exact i3 (i:=0) rfl
   ·simp[h]; exact i3 (i:=1) rfl
  rw[CT hlen]
  generalize (if e3.length=2 then("plain" : Str) else "points")=w at ei ⊢
  have ea:aA (bD false) (jh [(aA cK (cn false [(dC (.str "plain")),(dC (.str "points"))]) (aA nR (al aZ [(af 4)]) (dC (.int 2))))]) (al iU [(af 4)]) [some (.dU ns),some (.obj 0),some (.int k),some (.int n),some (.obj q3),none,none,none,none,none] M'=.ok (.tup (.str w::e3.map .int)) M':=by
   rw[dE,om,aN,ei,ai,dR,ai,ai,ai,et,ai]
   unfold bD
   dsimp only
   rw[if_pos ⟨rfl,by simp[lim]; omega⟩]
   rfl
  rw[pW,dD]
  dsimp only[zB,zA]
  rw[ai,iC h2.p0]
  dsimp only
  rw[aN,ea,ai,dR,ai,ai]
  unfold cL xX
  dsimp only
  rw[h2.p0]
  dsimp only
  rw[if_pos (by simp[lim]; omega)]
 ·rw[List.getElem?_set_self (List.getElem?_eq_some_iff.mp h2.p0).1,List.map_append]
  rfl
 ·rw[Ac h2.len]
  exact h2.jb
end Sb
end
section
namespace Sb
open PySem L2
structure Dd (M:aC) (ps:cS) (b:Nat) (ss:List SI):Prop where
 p0:M[0]? = some (.lst (ps.map Pc.enc))
 b0:b≠0
 hb:M[b]? = some (.lst (ss.map eF))
theorem Fq (p:Pc) {d:Int} (h:d=0\/d=1) (M:aC):∃j∈p.js,cK p.enc (.int (1+d)) M=.ok (.int j) M:=by
 cases p with
 | pl a b =>
  rcases h with rfl | rfl
  ·exact⟨a,by simp[Pc.js],fO (i:=1) rfl⟩
  ·exact⟨b,by simp[Pc.js],fO (i:=2) rfl⟩
 | pt a b c =>
  rcases h with rfl | rfl
  ·exact⟨a,by simp[Pc.js],fO (i:=1) rfl⟩
  ·exact⟨b,by simp[Pc.js],fO (i:=2) rfl⟩
theorem Fs {Q:Out->Prop} {gm:D1} (hm:lh gm) {ns:List Int} {k:Int} {y3 y4 y6 y7:Option PV} {M:aC} {ps:cS} {b:Nat} {ss:List SI} (hk:0≤k/\k<17) (h:Dd M ps b ss) (hl:ps.length≤17) (hs:ss.length≤17) (hj:Gq ps)
  (q:∀y3 y6 y7 s M',Dd M' ps b (ss++[s])->Sm s.1/\Sm s.2->Q (.nx [some (.dU ns),some (.obj 0),some (.int k),y3,y4,some (.obj b),y6,y7,none,none] M')) :
  Q ((aG (bZ 3 (al gm [(af 0),(aA (bD false) (dC (.int 21)) (af 2))])) (aG (bZ 6 (aA aQ (af 2) (al wJ [(dC (.int 1)),(al aZ [(af 1)])]))) (aG (bZ 7 (dC (.int 20))) (aG (bE (qT (af 1)) (bZ 7 (aA cK (aA cK (af 1) (af 6)) (aA (bD false) (dC (.int 1)) (aA aQ (aA bQ (af 2) (al aZ [(af 1)])) (dC (.int 2)))))) fF) (aG (bE (bu (aA (gf false) (aA aQ (af 3) (dC (.int 40))) (dC (.int 0)))) (bZ 7 (aA cK (cn false [(aA (bD false) (af 7) (dC (.int 1))),(dC (.int 20)),(aA (bD false) (dC (.int 600)) (af 2))]) (aA aQ (aA bQ (af 3) (dC (.int 40))) (dC (.int 3))))) fF) (aG (bE (bu (aA (gf false) (aA aQ (af 3) (dC (.int 40))) (dC (.int 1)))) (bZ 6 (aA cK (cn false [(n0 (dC (.int 1))),(al aZ [(af 1)]),(dC (.int 0))]) (aA aQ (aA bQ (af 3) (dC (.int 40))) (dC (.int 3))))) fF) (bR (gh cL (af 5) [(jh [(af 7),(af 6)])])))))))) [some (.dU ns),some (.obj 0),some (.int k),y3,y4,some (.obj b),y6,y7,none,none] M):=by
 refine cc (.int (j9 ns (21+k))) M (by simp[hm ns (21+k) M]) ?_
 generalize j9 ns (21+k)=n
 dsimp only[List.set]
 have hlen:∀ ρ:cI,ρ[1]? = some (some (.obj 0))->al aZ [af 1] ρ M=.ok (.int ps.length) M:=fun ρ hρ=>by simp[hρ,aZ,h.p0]
 obtain⟨mx,LH,sU,LJ,vn⟩:∃mx:Int,(∀ ρ:cI,ρ[1]? = some (some (.obj 0))->al wJ [(dC (.int 1)),(al aZ [(af 1)])] ρ M=.ok (.int mx) M)/\0<mx/\mx≤17/\(ps≠[]->mx=ps.length):=by
  refine⟨if (ps.length:Int) > 1 then ps.length else 1,fun ρ hρ=>?_,by split<;>omega,by split<;>omega,fun eu=>?_⟩
  ·rw[lY,aN,jz,ai,aN,hlen ρ hρ,ai,dR,ai,ai,ai]
   rfl
  ·have:=List.length_pos_iff.mpr eu
   split<;>omega
 have h1:=Int.emod_nonneg k (b:=mx) (by omega)
 have h2:=Int.emod_lt_of_pos k sU
 refine cc (.int (k%mx)) M ?_ ?_
 ·rw[dE,dD]
  dsimp only[zB,zA]
  rw[ai,LH]
  ·simp[aQ,gb,sU]
  ·rfl
 generalize k%mx=AO at h1 h2 ⊢
 dsimp only[List.set]
 refine cc (.int 20) M rfl ?_
 dsimp only[List.set]
 refine iB (fun ρ' M'=>∃j,ρ'=[some (.dU ns),some (.obj 0),some (.int k),some (.int n),y4,some (.obj b),some (.int AO),some (.int j),none,none]/\M'=M/\Jb j) ?_ ?_
 ·by_cases eu:ps=[]
  ·rw[kF (by simp[kM,h.p0,eu])]
   exact⟨_,_,rfl,20,rfl,rfl,by unfold Jb; omega⟩
  ·rw[kE (by simp[kM,h.p0,eu])]
   have uq:=List.length_pos_iff.mpr eu
   obtain⟨m,rfl⟩:∃m:Nat,AO=m:=⟨AO.toNat,by omega⟩
   have JN:m<ps.length:=by have:=vn eu; omega
   obtain⟨j,LK,ej⟩:=Fq (Pc.at ps m) (d:=k / ps.length%2) (Int.emod_two_eq _) M
   refine⟨_,_,tM (x:=.int j) ?_,j,rfl,rfl,hj _ (rH JN) j LK⟩
   have e1:=rJ (i:=m) (x:=(Pc.at ps m).enc) h.p0 (by rw[zJ,jB JN]; rfl)
   have e2:aA (bD false) (dC (.int 1)) (aA aQ (aA bQ (af 2) (al aZ [(af 1)])) (dC (.int 2))) [some (.dU ns),some (.obj 0),some (.int k),some (.int n),y4,some (.obj b),some (.int m),some (.int 20),none,none] M=.ok (.int (1+k / ps.length%2)) M:=by
    have e3:=hlen [some (.dU ns),some (.obj 0),some (.int k),some (.int n),y4,some (.obj b),some (.int m),some (.int 20),none,none] rfl
    simp only[dE,e3,jz,dD,zB,zA,ai]
    simp[bQ,aQ,gb,uq,show(ps.length:Int)<1073741824 by omega]
   have Ib:aA cK (af 1) (af 6) [some (.dU ns),some (.obj 0),some (.int k),some (.int n),y4,some (.obj b),some (.int m),some (.int 20),none,none] M=.ok (Pc.at ps m).enc M:=e1
   rw[dE,Ib,ai,e2,ai,ej]
 rintro ρ' M' ⟨j,rfl,rfl,JO⟩
 refine iB (fun ρ' Gr=>∃j,ρ'=[some (.dU ns),some (.obj 0),some (.int k),some (.int n),y4,some (.obj b),some (.int AO),some (.int j),none,none]/\Gr=M'/\Sm j) ?_ ?_
 ·by_cases h4:n%40=0
  ·rw[kE (by simp[aQ,h4])]
   obtain⟨v,hv,e3⟩:=ka (ρ:=[some (.dU ns),some (.obj 0),some (.int k),some (.int n),y4,some (.obj b),some (.int AO),some (.int j),none,none]) (M:=M') (ds:=[(aA (bD false) (af 7) (dC (.int 1))),(dC (.int 20)),(aA (bD false) (dC (.int 600)) (af 2))]) (di:=aA aQ (aA bQ (af 3) (dC (.int 40))) (dC (.int 3))) (x:=n / 40) (m:=3)
    [j+1,20,600+k] rfl (by decide) (by simp) (by simp) (by simp[aQ,bQ])
   refine⟨_,_,tM e3,v,rfl,rfl,?_⟩
   simp only[List.mem_cons,List.not_mem_nil,or_false] at hv
   unfold Jb at JO
   unfold Sm
   omega
  ·rw[kF (by simp[aQ,h4])]
   exact⟨_,_,rfl,j,rfl,rfl,by unfold Jb at JO; unfold Sm; omega⟩
 rintro ρ' Gr ⟨j2,rfl,rfl,LM⟩
 refine iB (fun ρ' M'=>∃i,ρ'=[some (.dU ns),some (.obj 0),some (.int k),some (.int n),y4,some (.obj b),some (.int i),some (.int j2),none,none]/\M'=Gr/\Sm i) ?_ ?_
 ·by_cases h4:n%40=1
  ·rw[kE (by simp[aQ,h4])]
   obtain⟨v,hv,e3⟩:=ka (ρ:=[some (.dU ns),some (.obj 0),some (.int k),some (.int n),y4,some (.obj b),some (.int AO),some (.int j2),none,none]) (M:=Gr) (ds:=[(n0 (dC (.int 1))),(al aZ [(af 1)]),(dC (.int 0))]) (di:=aA aQ (aA bQ (af 3) (dC (.int 40))) (dC (.int 3))) (x:=n / 40) (m:=3)
    [-1,ps.length,0] rfl (by decide) (by simp) (by simp only[aN,dR,n0,jz,ai,hlen [some (.dU ns),some (.obj 0),some (.int k),some (.int n),y4,some (.obj b),some (.int AO),some (.int j2),none,none] rfl]; rfl) (by simp[aQ,bQ])
   refine⟨_,_,tM e3,v,rfl,rfl,?_⟩
   simp only[List.mem_cons,List.not_mem_nil,or_false] at hv
   unfold Sm
   omega
  ·rw[kF (by simp[aQ,h4])]
   exact⟨_,_,rfl,AO,rfl,rfl,by unfold Sm; omega⟩
 rintro ρ' M' ⟨i,rfl,rfl,LN⟩
 refine dF .bb (M'.set b (.lst (ss.map eF++[eF (j2,i)]))) ?_ (q (some (.int n)) (some (.int i)) (some (.int j2)) (j2,i) _ ⟨?_,h.b0,?_⟩ ⟨LM,LN⟩)
 ·rw[pW,dD]
  dsimp only[zB,zA]
  rw[ai,iC h.hb]
  simp[cL,xX,h.hb,lim,eF]
  omega
 ·rw[List.getElem?_set_ne h.b0]; exact h.p0
 ·rw[List.getElem?_set_self (List.getElem?_eq_some_iff.mp h.hb).1,List.map_append]
  rfl
end Sb
end
section
namespace Sb
open PySem L2
theorem xK {k:Nat} {x:Str} (h:PyData.canLay0 (.str x)=true):Pl k (.str x):=by cases k<;>exact h
theorem Ft (k:Nat) (p:Pc):Pl (k+1) p.enc:=by
 cases p with
 | pl a b =>
  intro y hy
  simp only[List.mem_cons,List.not_mem_nil,or_false] at hy
  rcases hy with rfl | rfl | rfl
  ·exact xK (by with_unfolding_all rfl)
  ·exact dj _
  ·exact dj _
 | pt a b c =>
  intro y hy
  simp only[List.mem_cons,List.not_mem_nil,or_false] at hy
  rcases hy with rfl | rfl | rfl | rfl
  ·exact xK (by with_unfolding_all rfl)
  ·exact dj _
  ·exact dj _
  ·exact dj _
theorem CU (k:Nat) (s:SI):Pl (k+1) (eF s):=by
 intro y hy
 simp only[List.mem_cons,List.not_mem_nil,or_false] at hy
 rcases hy with rfl | rfl<;>exact dj _
theorem CV {M:aC} {ps:cS} {b:Nat} {ss:List SI} (h:Dd M ps b ss):gf false (.tup [ay ps,aS ss]) (.tup [.obj 0,.obj b]) M=.ok (.bl true) M:=by
 have hp:Pl deep (.tup [ay ps,aS ss]):=by
  intro y hy
  simp only[List.mem_cons,List.not_mem_nil,or_false] at hy
  rcases hy with rfl | rfl
  ·intro y hy
   obtain⟨p,_,rfl⟩:=List.mem_map.mp hy
   exact Ft 7 p
  ·intro y hy
   obtain⟨p,_,rfl⟩:=List.mem_map.mp hy
   exact CU 7 p
 have e:flat M deep (.tup [.obj 0,.obj b])=flat M deep (.tup [ay ps,aS ss]):=by
  show(dN (flat M 9) [.obj 0,.obj b]).map PyData.tuple=(dN (flat M 9) [ay ps,aS ss]).map PyData.tuple
  unfold dN
  rw[qi h.p0]
  unfold dN
  rw[qi h.hb]
 have e2:=xq (neg:=false) (M:=M) hp hp (p:=True) (by simp)
 unfold gf at e2 ⊢
 rw[e]
 simpa using e2
theorem CW {M:aC}:gf true (.str "ok") (.str "ok") M=.ok (.bl false) M:=by with_unfolding_all rfl
theorem Ae {M:aC}:gf true (.str "bad") (.str "bad") M=.ok (.bl false) M:=by with_unfolding_all rfl
theorem bP {gm gg ga:D1} (hm:lh gm) (hg:qh gg) (ha:tI ga) (ns:List Int):∃M',ic gm gg ga [.dU ns] []=.ok (.bl true) M':=by
 unfold ic
 refine gD (P:=fun r=>∃M',r=.ok (.bl true) M') ?_
 simp only[zC,zD,zE,zF,Nat.zero_add,Nat.reduceAdd,Nat.reduceSub,List.replicate,zG,zH]
 refine cc (.obj 0) [.lst []] rfl ?_
 dsimp only[List.set]
 obtain⟨v,hv,ev⟩:=ka (ρ:=[some (.dU ns),some (.obj 0),none,none,none,none,none,none,none,none]) (M:=[.lst []]) (ds:=[(dC (.int 0)),(dC (.int 1)),(dC (.int 2)),(dC (.int 5)),(dC (.int 15)),(dC (.int 16)),(dC (.int 17)),(dC (.int 3))]) (di:=aA aQ (al gm [(af 0),(dC (.int 0))]) (dC (.int 8))) (x:=j9 ns 0) (m:=8)
  [0,1,2,5,15,16,17,3] rfl (by decide) (by simp) rfl (by simp[hm ns 0,aQ])
 obtain⟨n,rfl,hn⟩:∃n:Nat,v=n/\n≤17:=by
  simp only[List.mem_cons,List.not_mem_nil,or_false] at hv
  exact⟨v.toNat,by omega,by omega⟩
 have hi:=AJ ev (by omega)
 generalize B7 [(aA cK (cn false [(dC (.int 0)),(dC (.int 1)),(dC (.int 2)),(dC (.int 5)),(dC (.int 15)),(dC (.int 16)),(dC (.int 17)),(dC (.int 3))]) (aA aQ (al gm [(af 0),(dC (.int 0))]) (dC (.int 8))))]=di at hi ⊢
 refine aK (gQ (fun(k:Nat)=>PV.int k) (fun pre ρ M'=>∃y2 y3 y4 ps,ρ=[some (.dU ns),some (.obj 0),y2,y3,y4,none,none,none,none,none]/\M'[0]? = some (.lst (ps.map Pc.enc))/\ps.length=pre.length/\Gq ps) (List.range n) none _ hi trivial ⟨none,none,none,[],rfl,rfl,rfl,nofun⟩ ?_ ?_)
 ·rintro pre k post hx ρ M' ⟨y2,y3,y4,ps,rfl,hp,hl,hj⟩
  obtain⟨hk,gX⟩:=j8 hx
  refine⟨_,rfl,?_⟩
  dsimp only[List.set]
  refine Fp hm ⟨by omega,by omega⟩ hp (by omega) hj fun y3 y4 p M2 h1 h2=>cw trivial ⟨_,_,_,ps++[p],rfl,h1,by simp[hl],fun q hq=>?_⟩
  rcases List.mem_append.mp hq with hq | hq
  ·exact hj q hq
  ·rw[List.mem_singleton.mp hq]; exact h2
 rintro ρ' M' ⟨y2,y3,y4,ps,rfl,hp,hl,hj⟩
 rw[List.length_range] at hl
 refine aB (iB (fun ρ' M'=>∃ps,ρ'=[some (.dU ns),some (.obj 0),y2,y3,y4,none,none,none,none,none]/\M'[0]? = some (.lst (ps.map Pc.enc))/\ps.length≤17/\Gq ps) ?_ ?_)
 ·by_cases h:2<ps.length/\j9 ns 41%5=0
  ·rw[kE (by simp[aZ,hp,jV,hm ns 41,aQ,h.1,h.2]; omega)]
   obtain⟨v,hv,ev⟩:=ka (ρ:=[some (.dU ns),some (.obj 0),y2,y3,y4,none,none,none,none,none]) (M:=M') (ds:=[(dC (.int 700)),(dC (.int 23)),(dC (.int 20))]) (di:=aA aQ (al gm [(af 0),(dC (.int 42))]) (dC (.int 3))) (x:=j9 ns 42) (m:=3)
    [700,23,20] rfl (by decide) (by simp) rfl (by simp[hm ns 42,aQ])
   refine⟨_,M'.set 0 (.lst ((ps.set 2 (.pl 21 v)).map Pc.enc)),xA (Q:=fun o=>o=_) (Pc.pl 21 v).enc M' (.obj 0) M' (.int 2) M' _ ?_ rfl rfl ?_ rfl,ps.set 2 (.pl 21 v),rfl,?_,by rw[List.length_set]; omega,fun p yC=>?_⟩
   ·rw[om,aN,jz,ai,aN,jz,ai,aN,ev]
    rfl
   ·unfold pH
    simp only[hp]
    have:sh (ps.map Pc.enc).length 2=some 2:=by
     unfold sh
     rw[zK,if_pos (by omega),if_pos (by omega)]
     rfl
    rw[this,List.map_set]
    rfl
   ·rw[List.getElem?_set_self (List.getElem?_eq_some_iff.mp hp).1]
   ·rcases List.mem_or_eq_of_mem_set yC with yC | rfl
    ·exact hj p yC
    ·intro j LO
     simp only[Pc.js,List.mem_cons,List.not_mem_nil,or_false] at LO hv
     unfold Jb
     omega
  ·rw[kF (by
    by_cases h2:2<ps.length
    ·have h3:¬j9 ns 41%5=0:=fun e=>h ⟨h2,e⟩
     simp[aZ,hp,jV,hm ns 41,aQ,h2,h3]
    ·simp[aZ,hp,jV,h2,show ¬(2:Int)<(ps.length:Int) by omega])]
   exact⟨_,_,rfl,ps,rfl,hp,by omega,hj⟩
 clear hp hl hj
 rintro ρ' M1 ⟨ps,rfl,hp,hl,hj⟩
 have h0:0<M1.length:=(List.getElem?_eq_some_iff.mp hp).1
 refine cc (.obj M1.length) (M1++[.lst []]) (by simp) ?_
 dsimp only[List.set]
 have hS:Dd (M1++[.lst []]) ps M1.length []:=⟨by rw[List.getElem?_append_left h0]; exact hp,by omega,by simp⟩
 generalize M1++[.lst []]=M2 at hS ⊢
 generalize M1.length=b at hS ⊢
 obtain⟨v,hv,ev⟩:=ka (ρ:=[some (.dU ns),some (.obj 0),y2,y3,y4,some (.obj b),none,none,none,none]) (M:=M2) (ds:=[(dC (.int 0)),(dC (.int 1)),(dC (.int 3)),(dC (.int 8)),(dC (.int 16)),(dC (.int 17))]) (di:=aA aQ (al gm [(af 0),(dC (.int 20))]) (dC (.int 6))) (x:=j9 ns 20) (m:=6)
  [0,1,3,8,16,17] rfl (by decide) (by simp) rfl (by simp[hm ns 20,aQ])
 obtain⟨n2,rfl,C1⟩:∃n:Nat,v=n/\n≤17:=by
  simp only[List.mem_cons,List.not_mem_nil,or_false] at hv
  exact⟨v.toNat,by omega,by omega⟩
 have wb:=AJ ev (by omega)
 clear hi
 generalize B7 [(aA cK (cn false [(dC (.int 0)),(dC (.int 1)),(dC (.int 3)),(dC (.int 8)),(dC (.int 16)),(dC (.int 17))]) (aA aQ (al gm [(af 0),(dC (.int 20))]) (dC (.int 6))))]=Mp at wb ⊢
 refine aK (gQ (fun(k:Nat)=>PV.int k) (fun pre ρ M'=>∃y2 y3 y6 y7 ss,ρ=[some (.dU ns),some (.obj 0),y2,y3,y4,some (.obj b),y6,y7,none,none]/\Dd M' ps b ss/\ss.length=pre.length/\∀s∈ss,Sm s.1/\Sm s.2) (List.range n2) none _ wb trivial ⟨y2,y3,none,none,[],rfl,hS,rfl,nofun⟩ ?_ ?_)
 ·rintro pre k post hx ρ M' ⟨y2,y3,y6,y7,ss,rfl,hS,xZ,Fh⟩
  obtain⟨hk,gX⟩:=j8 hx
  refine⟨_,rfl,?_⟩
  dsimp only[List.set]
  refine Fs hm ⟨by omega,by omega⟩ hS hl (by omega) hj fun y3 y6 y7 s M2 h1 h2=>cw trivial ⟨_,_,_,_,ss++[s],rfl,h1,by simp[xZ],fun q hq=>?_⟩
  rcases List.mem_append.mp hq with hq | hq
  ·exact Fh q hq
  ·rw[List.mem_singleton.mp hq]; exact h2
 rintro ρ' M3 ⟨z2,z3,z6,z7,ss,rfl,Af,xZ,Fh⟩
 rw[List.length_range] at xZ
 refine aB (cc (.tup [ay ps,aS ss]) M3 ?_ ?_)
 ·have e1:al (fh false) [af 1] [some (.dU ns),some (.obj 0),z2,z3,y4,some (.obj b),z6,z7,none,none] M3=.ok (ay ps) M3:=by
   simp[fh,Af.p0]
   exact cO (by simp; omega)
  have e2:al (fh false) [af 5] [some (.dU ns),some (.obj 0),z2,z3,y4,some (.obj b),z6,z7,none,none] M3=.ok (aS ss) M3:=by
   simp[fh,Af.hb]
   exact cO (by simp; omega)
  rw[om,aN,e1,ai,aN,e2]
  rfl
 dsimp only[List.set]
 obtain⟨kk,LP,Fu⟩:=hg ps ss 0 b M3 (by omega) (by omega) Af.p0 Af.hb
 have sp:C9 ps:=⟨by omega,fun p hp j h=>by have:=hj p hp j h; unfold Jb at this; unfold Sm; omega⟩
 have sS:Dc ss:=⟨by omega,Fh⟩
 obtain⟨G1,JP⟩:=ha 0 ps ss M3 sp sS
 obtain⟨G2,Em⟩:=ha 1 ps ss (M3++G1) sp sS
 have LQ:Dd (M3++G1++G2) ps b ss:=by
  have l0:=(List.getElem?_eq_some_iff.mp Af.p0).1
  have l1:=(List.getElem?_eq_some_iff.mp Af.hb).1
  refine⟨?_,Af.b0,?_⟩
  ·rw[List.append_assoc,List.getElem?_append_left l0]; exact Af.p0
  ·rw[List.append_assoc,List.getElem?_append_left l1]; exact Af.hb
 obtain⟨w,hw,a1,a2,Gn⟩:∃w:Str,(w=if kk then "ok" else "bad")/\ga [.int 0,ay ps,aS ss] M3=.ok (.str w) (M3++G1)/\ga [.int 1,ay ps,aS ss] (M3++G1)=.ok (.str w) (M3++G1++G2)/\∀M,gf true (.str w) (.str w) M=.ok (.bl false) M:=by
  cases kk with
  | true =>
   have hy:=Fu.mp rfl
   rcases JP with⟨_,e1⟩ | ⟨h,_⟩
   ·rcases Em with⟨_,e2⟩ | ⟨h,_⟩
    ·exact⟨"ok",rfl,e1,e2,fun M=>CW⟩
    ·exact absurd hy h
   ·exact absurd hy h
  | false =>
   have hy:¬oW ps ss:=fun h=>by have:=Fu.mpr h; cases this
   rcases JP with⟨h,_⟩ | ⟨_,e1⟩
   ·exact absurd h hy
   ·rcases Em with⟨h,_⟩ | ⟨_,e2⟩
    ·exact absurd h hy
    ·exact⟨"bad",rfl,e1,e2,fun M=>Ae⟩
 refine cc (.str w) M3 ?_ ?_
 ·have e1:al pC [al gg [af 1,af 5]] [some (.dU ns),some (.obj 0),z2,z3,y4,some (.obj b),z6,z7,some (.tup [ay ps,aS ss]),none] M3=.ok (.int (if kk then 1 else 0)) M3:=by
   simp[LP,pC]
  rw[dE,tf]
  simp only[aN,dR,jz,ai]
  rw[cO (by simp),ai,e1,ai,hw]
  cases kk with
  | true=>exact i3 (i:=1) rfl
  | false=>exact i3 (i:=0) rfl
 dsimp only[List.set]
 have g0:∀N:aC,aA cK (af 8) (dC (.int 0)) [some (.dU ns),some (.obj 0),z2,z3,y4,some (.obj b),z6,z7,some (.tup [ay ps,aS ss]),some (.str w)] N=.ok (ay ps) N:=fun N=>by simp
 have g1:∀N:aC,aA cK (af 8) (dC (.int 1)) [some (.dU ns),some (.obj 0),z2,z3,y4,some (.obj b),z6,z7,some (.tup [ay ps,aS ss]),some (.str w)] N=.ok (aS ss) N:=fun N=>by simp
 have t:∀(i:Int) (N N':aC),ga [.int i,ay ps,aS ss] N=.ok (.str w) N'->bu (aA (gf true) (al ga [(dC (.int i)),(aA cK (af 8) (dC (.int 0))),(aA cK (af 8) (dC (.int 1)))]) (af 9)) [some (.dU ns),some (.obj 0),z2,z3,y4,some (.obj b),z6,z7,some (.tup [ay ps,aS ss]),some (.str w)] N=.ok false N':=fun i N N' e=>by
  rw[jA,dE,lY,aN,jz,ai,aN,g0,ai,aN,g1,ai,dR,ai,ai,ai,ai,e,ai,dD]
  dsimp only[zB,zA]
  rw[ai,Gn,ai]
 refine aK (kQ (M3++G1++G2) ?_ (eU (aB (gk (.bl true) (M3++G1++G2) ?_ (fy ⟨_,rfl⟩)))))
 ·rw[rE,t 0 _ _ a1,ai,if_neg (by decide),t 1 _ _ a2]
 ·exact CV LQ
end Sb
end
section
namespace Rw
open PySem L2 Sb PySem.W
structure Top (K:Fg) (mg:Str->Option Value) (ax kb dB aM gC bt:Addr):Prop where
 cP:C2 K mg "BadYard" ax
 u4:mg "BadYard" = some (.ref ax)
 CY:mg "Held" = some (.ref dB)
 rK:mg "NotThere" = some (.ref aM)
 Fv:mg "Red" = some (.ref gC)
 kd:Catch K mg "BoxError" kb [ax,aM,dB,gC]
 u5:wZ K (.ref ax) [(ax,true),(aM,false),(dB,false),(gC,false)]
 oC:wZ K (.type "ValueError") [(ax,true),(aM,true),(dB,true),(gC,true)]
 iJ:EM K [aM,dB,gC] [(ax,false),(aM,true),(dB,true),(gC,true)]
 LR:JL ax aM dB gC
 oE:gP K bt "falls"
 oF:gP K bt "found"
 mJ:gP K bt "greens"
 oG:gP K bt "locks"
 oH:gP K bt "lying"
 mK:gP K bt "pieces"
 mf:gP K bt "signals"
 oI:gP K bt "ticks"
 mL:gP K bt "trains"
 qj:gP K bt "wait"
 oJ:mg "ValueError" = none
 AQ:mg "all" = none
 kG:mg "enumerate" = none
 Fx:mg "int" = none
 gI:mg "isinstance" = none
 dG:mg "len" = none
 kg:mg "list" = none
 Fy:mg "max" = none
 tN:mg "range" = none
 AR:mg "set" = none
 Ag:mg "tuple" = none
 jG:∃t:Tok,mg "LAST_JOINT" = some (.int 999 t)
 iQ:∃t:Tok,mg "MOST_PIECES" = some (.int 16 t)
 il:∃t:Tok,mg "MOST_SIGNALS" = some (.int 16 t)
 qk:dI K mg "joints_of" cx ["piece"]
 ql:dI K mg "pieces_at" bW ["pieces","joint"]
 mh:dI K mg "piece_beyond" bO ["pieces","number","joint"]
 oK:dI K mg "joints_out" bY ["piece","joint"]
 oM:dI K mg "check_yard" dt ["pieces","signals"]
 mi:dI K mg "check_pieces" cy ["pieces"]
 mj:dI K mg "check_joints" cz ["pieces","joints"]
 kS:dI K mg "check_signals" cf ["pieces","signals"]
 xM:dI K mg "routes" fS ["pieces","signals"]
 nC:dI K mg "ways_on" fT ["pieces","signals","way","joint","piece"]
 qm:sQ K mg "Yard" bt "Yard.__init__" cA ["self","pieces","signals","wait"]
 xN:dI K mg "_law_cell" fU ["_law_script","_law_k"]
 Ah:dI K mg "_law_mix" ip ["_law_script","_law_k"]
 u7:dI K mg "_law_asked" fb ["_law_way","_law_pieces","_law_signals"]
 xO:dI K mg "_law_good" dZ ["_law_pieces","_law_signals"]
section
variable {z:Zn} {ax kb dB aM gC bt:Addr} (T:Top z.K z.mg ax kb dB aM gC bt)
include T
omit T in theorem oN:aL ["piece"] ["piece"] (ak cx):=qv
theorem jH:Fn z (k+1) "joints_of" 1 (ba):=iw.go T.qk oN fun _ _ _ _ _ _ _ hr G=>(ao (bL (dn (dO false) T.kg gi (ae (pA false (aa 0) (jr ag) jq) ah))))
omit T in theorem oO:aL ["pieces","joint"] ["pieces","joint"] (ak bW):=qv
omit T in theorem cG:(["number","piece","joint"]:List Str).Nodup:=by decide +kernel
theorem jI (bg:Fn z k "joints_of" 1 aJ):Fn z (k+1) "pieces_at" 2 (cj aJ):=iw.go T.ql oO fun _ _ _ _ _ _ _ hr G=>(ao (bL (iu false (dw.of (sc:=(ak bW)) ["pieces","joint"] ["number","piece","joint"] [none,none,some 1] rfl (fun _=>rfl) (by decide +kernel)) G.calm (sM (aa 0) T.kG) (fun _ _ _ _=>(nX (aW G.gg cG).calm (eB (bj 0 (aW G.gg cG).nd) (eB (bj 1 (aW G.gg cG).nd) la)))) (fun _ _ _ _=>(pF (aR (nT (aW G.gg cG).hu) (aa 2) (aO bg hr (aW G.gg cG).gg (ae (aa 1) ah))))) (fun _ _ _ _=>(aa 0)))))
omit T in theorem kT:aL ["pieces","number","joint","other"] ["pieces","number","joint"] (ak bO):=qv
theorem kU (eG:Fn z k "pieces_at" 2 cD):Fn z (k+1) "piece_beyond" 3 (cM cD):=iw.go T.mh kT fun _ _ _ _ _ _ _ hr G=>(aj (fQ G.own G.calm (cZ (aO eG hr G.gg (ae (aa 0) (ae (aa 2) ah)))) (bj 3 G.nd) (ao (bS (aR (jR G.hu) (aa 3) (aa 1)) (ao (bL (aa 3))) aT))) (ao (bL nQ)))
omit T in theorem mM:aL ["piece","joint"] ["piece","joint"] (ak bY):=qv
omit T in theorem gR:(["other","joint"]:List Str).Nodup:=by decide +kernel
theorem mO (bg:Fn z k "joints_of" 1 aJ):Fn z (k+1) "joints_out" 2 (cE aJ):=iw.go T.oK mM fun _ _ _ _ _ _ _ hr G=>(aj (bS (aR (fP G.hu) (bM G.hu (aa 0) ag) fc) (ao (bL (iu false (dw.of (sc:=(ak bY)) ["piece","joint"] ["other","joint"] [none,some 1] rfl (fun _=>rfl) (by decide +kernel)) G.calm (cZ (aO bg hr G.gg (ae (aa 0) ah))) (fun _ _ _ _=>(bj 0 (aW G.gg gR).nd)) (fun _ _ _ _=>(pF (aR (jR (aW G.gg gR).hu) (aa 0) (aa 1)))) (fun _ _ _ _=>(aa 0))))) aT) (aj (bS (aR (fP G.hu) (aa 1) (bM G.hu (aa 0) ag)) (ao (bL (bK false (ae (bM G.hu (aa 0) ag) (ae (bM G.hu (aa 0) ag) ah))))) aT) (ao (bL (bK false (ae (bM G.hu (aa 0) ag) ah))))))
omit T in theorem mP:aL ["pieces","signals"] ["pieces","signals"] (ak dt):=qv
theorem mQ (fC:Fn z k "check_pieces" 1 fq) (eV:Fn z k "check_signals" 2 eR):Fn z (k+1) "check_yard" 2 (cF fq eR):=iw.go T.oM mP fun _ _ _ _ _ _ _ hr G=>(aj (dz (aO fC hr G.gg (ae (aa 0) ah))) (ao (dz (aO eV hr G.gg (ae (aa 0) (ae (aa 1) ah))))))
omit T in theorem kW:aL ["pieces","piece"] ["pieces"] (ak cy):=qv
theorem kX (fD:Fn z k "check_joints" 2 ft) (bg:Fn z k "joints_of" 1 aJ):Fn z (k+1) "check_pieces" 1 (bT ax ft aJ):=iw.go T.mi kW fun _ _ _ _ _ _ _ hr G=>(aj (bS (aR (fP G.hu) (aU aV T.dG bI (ae (aa 0) ah)) ag) (ao (wR T.cP hr (ae fc ah))) aT) (aj (bS (aR hU (aU aV T.dG bI (ae (aa 0) ah)) (fZ T.iQ.choose_spec)) (ao (dq T.cP hr (dg (fm (fZ T.iQ.choose_spec) (dg hW))))) aT) (ao (fQ G.own G.calm (cZ (aa 0)) (bj 1 G.nd) (ao (dz (aO fD hr G.gg (ae (aa 0) (ae (aO bg hr G.gg (ae (aa 1) ah)) ah)))))))))
omit T in theorem kY:aL ["pieces","joints","joint"] ["pieces","joints"] (ak cz):=qv
theorem kZ (eG:Fn z k "pieces_at" 2 cD):Fn z (k+1) "check_joints" 2 (bU ax cD):=iw.go T.mj kY fun _ _ _ _ _ _ _ hr G=>(ao (fQ G.own G.calm (cZ (aa 1)) (bj 2 G.nd) (aj (bS (VW.vt (nh (aR nU (aa 2) ag) (jW (aR hU (aa 2) (fZ T.jG.choose_spec))))) (ao (dq T.cP hr (dg (fm (aa 2) (dg (fm (fZ T.jG.choose_spec) hW)))))) aT) (aj (bS (aR hU (ku PySem.F.slot_list_count PySem.F.type_list_count (jZ G.hu) (aa 1) (ae (aa 2) ah)) ag) (ao (dq T.cP hr (dg (fm (aa 2) (dg hW))))) aT) (ao (bS (aR hU (aU aV T.dG bI (ae (aO eG hr G.gg (ae (aa 0) (ae (aa 2) ah))) ah)) ag) (ao (dq T.cP hr (dg (fm (aa 2) hW)))) aT))))))
omit T in theorem kh:aL ["pieces","signals","joint","number"] ["pieces","signals"] (ak cf):=qv
theorem ki (bg:Fn z k "joints_of" 1 aJ):Fn z (k+1) "check_signals" 2 (bJ ax aJ):=iw.go T.kS kh fun _ _ _ _ _ _ _ hr G=>(aj (bS (aR hU (aU aV T.dG bI (ae (aa 1) ah)) (fZ T.il.choose_spec)) (ao (dq T.cP hr (dg (fm (fZ T.il.choose_spec) (dg hW))))) aT) (ao (fQ G.own G.calm (cZ (aa 1)) (nX G.calm (eB (bj 2 G.nd) (eB (bj 3 G.nd) la))) (aj (bS (aR hU (ku PySem.F.slot_list_count PySem.F.type_list_count (jZ G.hu) (aa 1) (ae (gx (ae (aa 2) (ae (aa 3) ah))) ah)) ag) (ao (dq T.cP hr (dg (fm (aa 2) (dg (fm (aa 3) hW)))))) aT) (aj (bS (VW.vt (nh (aR nU (aa 3) ag) (jW (aR B0 (aa 3) (aU aV T.dG bI (ae (aa 0) ah)))))) (ao (dq T.cP hr (dg (fm (aa 3) (dg hW))))) aT) (ao (bS (aR (yU G.hu) (aa 2) (aO bg hr G.gg (ae (bM G.hu (aa 0) (aa 3)) ah))) (ao (dq T.cP hr (dg (fm (aa 3) (dg (fm (aa 2) hW)))))) aT)))))))
omit T in theorem u9:aL ["pieces","signals","told","number","signal","way"] ["pieces","signals"] (ak fS):=qv
theorem va (gJ:Fn z k "check_yard" 2 gA) (kj:Fn z k "ways_on" 5 dQ):Fn z (k+1) "routes" 2 (cb gA dQ):=iw.go T.xM u9 fun _ _ _ _ _ _ _ hr G=>(aj (dz (aO gJ hr G.gg (ae (aa 0) (ae (aa 1) ah)))) (aj (bx 2 G.nd (bK true ah)) (aj (fQ G.own G.calm (sM (aa 1) T.kG) (nX G.calm (eB (bj 3 G.nd) (eB (bj 4 G.nd) la))) (ao (fQ G.own G.calm (cZ (aO kj hr G.gg (ae (aa 0) (ae (aa 1) (ae (bK false ah) (ae (bM G.hu (aa 4) ag) (ae (bM G.hu (aa 4) ag) ah))))))) (bj 5 G.nd) (ao (dz (ku PySem.F.slot_list_append PySem.F.type_list_append gy (aa 2) (ae (gx (ae (aa 3) (ae (aa 5) ah))) ah))))))) (ao (bL (wI (aa 2)))))))
omit T in theorem mm:aL ["pieces","signals","way","joint","piece","found","out","longer","beyond"] ["pieces","signals","way","joint","piece"] (ak fT):=qv
omit T in theorem jJ:(["step"]:List Str).Nodup:=by decide +kernel
theorem rL (oP:Fn z k "joints_out" 2 gB) (mn:Fn z k "piece_beyond" 3 fu) (kj:Fn z k "ways_on" 5 dQ):Fn z (k+1) "ways_on" 5 (kB gB fu dQ):=iw.go T.nC mm fun _ _ _ _ _ _ _ hr G=>(aj (bS (aR (nT G.hu) (aa 4) (iu false (dw.of (sc:=(ak fT)) ["pieces","signals","way","joint","piece","found","out","longer","beyond"] ["step"] [none] rfl (fun _=>rfl) (by decide +kernel)) G.calm (cZ (aa 2)) (fun _ _ _ _=>(bj 0 (aW G.gg jJ).nd)) (fun _ _ _ _=>jt) (fun _ _ _ _=>(bM (aW G.gg jJ).hu (aa 0) ag)))) (ao (bL (bK false ah))) aT) (aj (bx 5 G.nd (bK true ah)) (aj (fQ G.own G.calm (cZ (aO oP hr G.gg (ae (bM G.hu (aa 0) (aa 4)) (ae (aa 3) ah)))) (bj 6 G.nd) (aj (bx 7 G.nd (aH (bB false) (aa 2) (bK false (ae (gx (ae (aa 4) (ae (aa 3) (ae (aa 6) ah)))) ah)))) (aj (bx 8 G.nd (aO mn hr G.gg (ae (aa 0) (ae (aa 4) (ae (aa 6) ah))))) (ao (bS (VW.vt (nh (aR wz (aa 8) nQ) (jW (aR (nT G.hu) (gx (ae (aa 6) (ae (aa 8) ah))) (aa 1))))) (ao (dz (ku PySem.F.slot_list_append PySem.F.type_list_append gy (aa 5) (ae (aa 7) ah)))) (ao (dz (ku PySem.F.slot_list_extend PySem.F.type_list_extend qW (aa 5) (ae (aO kj hr G.gg (ae (aa 0) (ae (aa 1) (ae (aa 7) (ae (aa 6) (ae (aa 8) ah)))))) ah))))))))) (ao (bL (wI (aa 5)))))))
omit T in theorem oQ:aL ["self","pieces","signals","wait"] ["self","pieces","signals","wait"] (ak cA):=qv
omit T in theorem mq:(["piece"]:List Str).Nodup:=by decide +kernel
theorem oR (gu:Fn z k "routes" 2 fv):In z (k+1) "Yard" bt 4 (br bt fv):=sP.go T.qm oQ fun _ _ _ _ _ _ _ hr G=>(aj (dX T.oF (aa 0) (aO gu hr G.gg (ae (aa 1) (ae (aa 2) ah)))) (aj (dX T.mK (aa 0) (dn (dO false) T.kg gi (ae (aa 1) ah))) (aj (dX T.mf (aa 0) (dn (dO false) T.kg gi (ae (aa 2) ah))) (aj (dX T.qj (aa 0) (aa 3)) (aj (dX T.oI (aa 0) ag) (aj (dX T.oG (aa 0) lb) (aj (dX T.oH (aa 0) (iu true (dw.of (sc:=(ak cA)) ["self","pieces","signals","wait"] ["piece"] [none] rfl (fun _=>rfl) (by decide +kernel)) G.calm (cZ (aa 1)) (fun _ _ _ _=>(bj 0 (aW G.gg mq).nd)) (fun _ _ _ _=>jt) (fun _ _ _ _=>fc))) (aj (dX T.mJ (aa 0) lb) (aj (dX T.oE (aa 0) lb) (ao (dX T.mL (aa 0) lb)))))))))))
omit T in theorem vb:aL ["_law_script","_law_k"] ["_law_script","_law_k"] (ak fU):=qv
theorem vc:Fn z (k+1) "_law_cell" 2 (iX):=iw.go T.xN vb fun _ _ _ _ _ _ _ hr G=>(aj (bS (jn (aa 0)) (ao (bL (bM G.hu (aa 0) (aH bq (aa 1) (aU aV T.dG bI (ae (aa 0) ah)))))) aT) (ao (bL ag)))
omit T in theorem xP:aL ["_law_script","_law_k","_law_number"] ["_law_script","_law_k"] (ak ip):=qv
theorem xQ (mr:Fn z k "_law_cell" 2 lW):Fn z (k+1) "_law_mix" 2 (j6 lW):=iw.go T.Ah xP fun _ _ _ _ _ _ _ hr G=>(aj (bx 2 G.nd (aH bq (aH (bB false) (aO mr hr G.gg (ae (aa 0) (ae (aa 1) ah))) (aH (k8 false) ag (aH (bB false) (aa 1) ag))) ag)) (aj (bx 2 G.nd (aH bq (aH (k8 false) (aa 2) ag) ag)) (ao (bL (aH bq (aH (bB false) (aH (k8 false) (aH ff (aa 2) ag) ag) (aa 2)) ag)))))
omit T in theorem rN:aL ["_law_way","_law_pieces","_law_signals","_law_kept","e","_law_good_here"] ["_law_way","_law_pieces","_law_signals"] (ak fb):=qv
theorem rO (gu:Fn z (k+1) "routes" 2 fv) (qo:In z k "Yard" bt 4 ib):Fn z (k+2) "_law_asked" 3 (fG ax dB aM gC bt fv ib):=iw.go T.u7 rN fun _ _ _ _ _ _ _ hr G=>(aj (bx 3 G.nd nQ) (aj (Cm 3 4 G.gg T.kd (fun pn Et Ex Gt=>(ao (bS (aR (fP Gt.hu) (aa 0) ag) (ao (dz (aO gu hr Gt (ae (aa 1) (ae (aa 2) ah))))) (ao (dz (zo qo hr Gt (ae (aa 1) (ae (aa 2) (ae ag ah)))))))))) (aj (bS (aR wz (aa 3) nQ) (ao (bL fc)) aT) (aj (bx 5 G.nd (nV (Ci [(ax,true),(aM,false),(dB,false),(gC,false)] T.u5 (aa 3) T.gI T.u4) (nV (zp [(ax,true),(aM,true),(dB,true),(gC,true)] T.oC (aa 3) T.gI T.oJ lP) (qU (B4 (zq [(ax,false),(aM,true),(dB,true),(gC,true)] T.iJ (aa 3) T.gI (og T.rK (og T.CY (og T.Fv Ck))))))))) (ao (bL (EB (jn (aa 5)) fc fc)))))))
omit T in theorem vd:aL ["_law_pieces","_law_signals","_law_ends","_law_piece"] ["_law_pieces","_law_signals"] (ak dZ):=qv
omit T in theorem kH:(["_law_joint","_law_ends"]:List Str).Nodup:=by decide +kernel
omit T in theorem eI:(["_law_joint","_law_at","_law_pieces"]:List Str).Nodup:=by decide +kernel
theorem ve:Fn z (k+1) "_law_good" 2 (iY):=iw.go T.xO vd fun _ _ _ _ _ _ _ hr G=>(aj (bx 2 G.nd (bK false ah)) (aj (fQ G.own G.calm (cZ (aa 0)) (bj 3 G.nd) (aj (bS (aR (jR G.hu) (rD G.calm G.hu (pA false (aa 3) (jr ag) jq) T.dG T.AR) (aH sy (aU aV T.dG bI (ae (aa 3) ah)) ag)) (ao (bL su)) aT) (ao (bx 2 G.nd (aH (bB false) (aa 2) (dn (dO false) T.kg gi (ae (pA false (aa 3) (jr ag) jq) ah))))))) (aj (bS (VW.vt (nh (wD (wC lH lH ag (aU aV T.dG bI (ae (aa 0) ah)) ag)) (jW (wD (jn (aU (nt G.calm) T.AQ sO (ae (iu false (dw.of (sc:=(ak dZ)) ["_law_pieces","_law_signals","_law_ends","_law_piece"] ["_law_joint","_law_ends"] [none,some 2] rfl (fun _=>rfl) (by decide +kernel)) G.calm (cZ (aa 2)) (fun _ _ _ _=>(bj 0 (aW G.gg kH).nd)) (fun _ _ _ _=>jt) (fun _ _ _ _=>(nV (pz lH lH ag (aa 0) ag) (qU (qS nU (ku PySem.F.slot_list_count PySem.F.type_list_count (jZ (aW G.gg kH).hu) (aa 1) (ae (aa 0) ah)) ag))))) ah))))))) (ao (bL su)) aT) (aj (bS (VW.vt (nh (aR hU (aU aV T.dG bI (ae (aa 1) ah)) ag) (jW (aR (jR G.hu) (rB G.calm G.hu (aa 1) T.dG T.AR) (aU aV T.dG bI (ae (aa 1) ah)))))) (ao (bL su)) aT) (ao (bL (aU (nt G.calm) T.AQ sO (ae (iu false (dw.of (sc:=(ak dZ)) ["_law_pieces","_law_signals","_law_ends","_law_piece"] ["_law_joint","_law_at","_law_pieces"] [none,none,some 0] rfl (fun _=>rfl) (by decide +kernel)) G.calm (cZ (aa 1)) (fun _ _ _ _=>(nX (aW G.gg eI).calm (eB (bj 0 (aW G.gg eI).nd) (eB (bj 1 (aW G.gg eI).nd) la)))) (fun _ _ _ _=>jt) (fun _ _ _ _=>(nV (pz lH nU ag (aa 1) (aU aV T.dG bI (ae (aa 2) ah))) (qU (qS (nT (aW G.gg eI).hu) (aa 0) (pA false (bM (aW G.gg eI).hu (aa 2) (aa 1)) (jr ag) jq)))))) ah))))))))
omit T in theorem rQ:aL ["_law_script","_law_pieces","_law_k","_law_number","_law_ends","_law_signals","_law_at","_law_joint","_law_handed","_law_due"] ["_law_script"] (ak bP):=qv
theorem rR {f fd} (D:vX z.K "law" "law" bP f fd) (fK:Fn z k "_law_mix" 2 fH) (mv:Fn z k "_law_good" 2 lX) (iD:Fn z k "_law_asked" 3 iz):fX z.P z.w z.K z.mg z.base (iF z.P z.w) (k+1) f fd ["_law_script"] (vm z.K 1 (ic fH lX iz)):=E8 D rQ fun _ _ _ _ _ _ hr G=>(aj (bx 1 G.nd (bK true ah)) (aj (fQ G.own G.calm (nj T.tN (ae (bM G.hu (bK false (ae ag (ae ag (ae ag (ae ag (ae ag (ae ag (ae ag (ae ag ah))))))))) (aH bq (aO fK hr G.gg (ae (aa 0) (ae ag ah))) ag)) ah)) (bj 2 G.nd) (aj (bx 3 G.nd (aO fK hr G.gg (ae (aa 0) (ae (aH (bB false) ag (aa 2)) ah)))) (aj (bx 4 G.nd (aH (bB true) (bK false (ae (aH (bB false) ag (aa 2)) (ae (aH (bB false) ag (aa 2)) ah))) (aH (k8 false) (bK false (ae (aH (bB false) ag (aa 2)) ah)) (aH bq (aa 3) ag)))) (aj (bS (aR (fP G.hu) (aH bq (aa 3) ag) ag) (ao (bx 4 G.nd (aH (bB true) (bK false (ae (bM G.hu (aa 4) ag) (ae (bM G.hu (aa 4) ag) ah))) (pA false (aa 4) (jr ag) jq)))) aT) (aj (bS (aR (fP G.hu) (aH bq (aH ff (aa 3) ag) ag) ag) (ao (sR G.hu (aa 4) (aH bq (aH ff (aa 3) ag) (aU aV T.dG bI (ae (aa 4) ah))) (bM G.hu (bK false (ae (wU ag) (ae ag (ae ag (ae ag (ae ag (ae (aH (bB false) ag (aa 2)) (ae ag (ae (aH (bB false) ag (aa 2)) ah))))))))) (aH bq (aH ff (aa 3) ag) ag)))) aT) (ao (dz (ku PySem.F.slot_list_append PySem.F.type_list_append gy (aa 1) (ae (aH (bB false) (gx (ae (bM G.hu (bK false (ae fc (ae fc ah))) (aH sy (aU aV T.dG bI (ae (aa 4) ah)) ag)) ah)) (dn pB T.Ag uC (ae (aa 4) ah))) ah))))))))) (aj (bS (VW.vt (B3 (aR hU (aU aV T.dG bI (ae (aa 1) ah)) ag) (yW (aR (fP G.hu) (aH bq (aO fK hr G.gg (ae (aa 0) (ae ag ah))) ag) ag)))) (ao (sR G.hu (aa 1) ag (gx (ae fc (ae ag (ae (bM G.hu (bK false (ae ag (ae ag (ae ag ah)))) (aH bq (aO fK hr G.gg (ae (aa 0) (ae ag ah))) ag)) ah)))))) aT) (aj (bx 5 G.nd (bK true ah)) (aj (fQ G.own G.calm (nj T.tN (ae (bM G.hu (bK false (ae ag (ae ag (ae ag (ae ag (ae ag (ae ag ah))))))) (aH bq (aO fK hr G.gg (ae (aa 0) (ae ag ah))) ag)) ah)) (bj 2 G.nd) (aj (bx 3 G.nd (aO fK hr G.gg (ae (aa 0) (ae (aH (bB false) ag (aa 2)) ah)))) (aj (bx 6 G.nd (aH bq (aa 2) (aU (uv G.calm) T.Fy zj (ae ag (ae (aU aV T.dG bI (ae (aa 1) ah)) ah))))) (aj (bx 7 G.nd ag) (aj (bS (jn (aa 1)) (ao (bx 7 G.nd (bM G.hu (bM G.hu (aa 1) (aa 6)) (aH (bB false) ag (aH bq (aH ff (aa 2) (aU aV T.dG bI (ae (aa 1) ah))) ag))))) aT) (aj (bS (aR (fP G.hu) (aH bq (aa 3) ag) ag) (ao (bx 7 G.nd (bM G.hu (bK false (ae (aH (bB false) (aa 7) ag) (ae ag (ae (aH (bB false) ag (aa 2)) ah)))) (aH bq (aH ff (aa 3) ag) ag)))) aT) (aj (bS (aR (fP G.hu) (aH bq (aa 3) ag) ag) (ao (bx 6 G.nd (bM G.hu (bK false (ae (wU ag) (ae (aU aV T.dG bI (ae (aa 1) ah)) (ae ag ah)))) (aH bq (aH ff (aa 3) ag) ag)))) aT) (ao (dz (ku PySem.F.slot_list_append PySem.F.type_list_append gy (aa 5) (ae (gx (ae (aa 7) (ae (aa 6) ah))) ah))))))))))) (aj (bx 8 G.nd (gx (ae (dn (dO false) T.kg gi (ae (aa 1) ah)) (ae (dn (dO false) T.kg gi (ae (aa 5) ah)) ah)))) (aj (bx 9 G.nd (bM G.hu (bK false (ae fc (ae fc ah))) (dn qV T.Fx zk (ae (aO mv hr G.gg (ae (aa 1) (ae (aa 5) ah))) ah)))) (aj (bS (VW.vt (nh (aR (jR G.hu) (aO iD hr G.gg (ae ag (ae (bM G.hu (aa 8) ag) (ae (bM G.hu (aa 8) ag) ah)))) (aa 9)) (jW (aR (jR G.hu) (aO iD hr G.gg (ae ag (ae (bM G.hu (aa 8) ag) (ae (bM G.hu (aa 8) ag) ah)))) (aa 9))))) (ao (bL su)) aT) (ao (bL (qS (fP G.hu) (aa 8) (gx (ae (aa 1) (ae (aa 5) ah))))))))))))))
theorem tO:∀n,∃g,Fn z (3+n) "ways_on" 5 g/\nA n g
 | 0=>⟨_,iw.bad T.nC mm,fun ps ss way j a M ok hn _=>by have:=ok.len; omega⟩
 | n+1=>by
  obtain⟨g,F,S⟩:=tO n
  have F1:Fn z 1 "joints_of" 1 _:=jH T
  have F2:Fn z 2 "pieces_at" 2 _:=jI T F1
  have F3:Fn z 3 "piece_beyond" 3 _:=kU T F2
  have F4:Fn z 2 "joints_out" 2 _:=mO T F1
  exact⟨_,(rL T (F4.mono (by omega)) (F3.mono (by omega)) F).trunc,CJ S⟩
theorem CZ {f:Addr} {fd:FuncData} (F:vX z.K "law" "law" bP f fd):fX z.P z.w z.K z.mg z.base (iF z.P z.w) 40 f fd ["_law_script"] (pY z.K):=by
 obtain⟨gw,Fw,Sw⟩:=tO T fuel
 have mr:Fn z 1 "_law_cell" 2 _:=vc T
 have fK:Fn z 2 "_law_mix" 2 _:=xQ T mr.up
 have mv:Fn z 1 "_law_good" 2 _:=ve T
 have bg:Fn z 1 "joints_of" 1 _:=jH T
 have eG:Fn z 2 "pieces_at" 2 _:=jI T bg.up
 have fD:Fn z 3 "check_joints" 2 _:=kZ T eG.up
 have fC:Fn z 4 "check_pieces" 1 _:=kX T fD.up bg.up
 have eV:Fn z 2 "check_signals" 2 _:=ki T bg.up
 have gJ:Fn z 5 "check_yard" 2 _:=mQ T fC.up eV.up
 have gu:Fn z 21 "routes" 2 _:=(va T gJ.up Fw.up).trunc
 have qp:In z 22 "Yard" bt 4 _:=oR T gu.up
 have iD:Fn z 24 "_law_asked" 3 _:=rO T gu.up qp.up
 have LL:=rR (k:=38) T F fK.up mv.up iD.up
 have hj:jD ba:=fun p M=>Sb.cx p M
 have hp:ox (cj ba):=fun ps j M h=>Sb.bW ps j M h
 have hc:=Sb.oB (Sb.l9 (Sb.l7 (c:=ax) hp) hj) (Sb.kR (c:=ax) hj)
 exact(LL.imp fun _ _ _ _ h=>uT (fun ns=>Sb.bP (Sb.ip Sb.fU) Sb.dZ (Sb.fb (cH:=dB) (cN:=aM) (cR:=gC) (cY:=bt) T.LR hc Sw) ns) h).mono (by decide)
end
open Hd
theorem all_mk {P:Program} {w:World} {K:Fg} {h:Heap} {mg:Str->Option Value} {fa:Addr} (X:K.In h) (G:h.Ns mainGlobals mg) (LS:mg "law" = some (.ref fa)) (H:All facts K) :
  ∃fd:FuncData,(∀(s:Shared) (u:Value),BindsTo s fd ⟨[u],[]⟩ [("_law_script",u)])/\∀base:Heap,K.In base->base.Ns mainGlobals mg->fX P w K mg base (iF P w) 40 fa fd ["_law_script"] (pY K):=by
 have T:Top K mg 44 31 68 56 80 210:=⟨⟨mg_of X G (H.x 0 rfl).a,(H.b 5 rfl)⟩,mg_of X G (H.x 0 rfl).a,mg_of X G (H.x 2 rfl).a,mg_of X G (H.x 3 rfl).a,mg_of X G (H.x 4 rfl).a,⟨mg_of X G (H.x 1 rfl).a,Iu (H.o 6 rfl) (H.o 7 rfl) (H.o 8 rfl) (H.o 9 rfl)⟩,⟨lZ ⟨(H.x 0 rfl).xc,(H.o 10 rfl)⟩ ⟨(H.x 3 rfl).xc,(H.o 11 rfl)⟩ ⟨(H.x 2 rfl).xc,(H.o 12 rfl)⟩ ⟨(H.x 4 rfl).xc,(H.o 13 rfl)⟩⟩,⟨lZ ⟨(H.x 0 rfl).xc,(H.o 14 rfl)⟩ ⟨(H.x 3 rfl).xc,(H.o 15 rfl)⟩ ⟨(H.x 2 rfl).xc,(H.o 16 rfl)⟩ ⟨(H.x 4 rfl).xc,(H.o 17 rfl)⟩⟩,⟨lZ ⟨(H.x 0 rfl).xc,(H.o 18 rfl)⟩ ⟨(H.x 3 rfl).xc,(H.o 19 rfl)⟩ ⟨(H.x 2 rfl).xc,(H.o 20 rfl)⟩ ⟨(H.x 4 rfl).xc,(H.o 21 rfl)⟩⟩,⟨(by decide),(by decide),(by decide),(by decide),(by decide),(by decide)⟩,(H.c 22 rfl).fd (H.v 25 rfl),(H.c 22 rfl).fd (H.v 26 rfl),(H.c 22 rfl).fd (H.v 27 rfl),(H.c 22 rfl).fd (H.v 28 rfl),(H.c 22 rfl).fd (H.v 29 rfl),(H.c 22 rfl).fd (H.v 30 rfl),(H.c 22 rfl).fd (H.v 31 rfl),(H.c 22 rfl).fd (H.v 32 rfl),(H.c 22 rfl).fd (H.v 33 rfl),(H.c 22 rfl).fd (H.v 34 rfl),mg_none_of X G (H.v 35 rfl),mg_none_of X G (H.v 36 rfl),mg_none_of X G (H.v 37 rfl),mg_none_of X G (H.v 38 rfl),mg_none_of X G (H.v 39 rfl),mg_none_of X G (H.v 40 rfl),mg_none_of X G (H.v 41 rfl),mg_none_of X G (H.v 42 rfl),mg_none_of X G (H.v 43 rfl),mg_none_of X G (H.v 44 rfl),mg_none_of X G (H.v 45 rfl),⟨284,mg_of X G (H.v 46 rfl)⟩,⟨280,mg_of X G (H.v 47 rfl)⟩,⟨282,mg_of X G (H.v 48 rfl)⟩,(H.f 49 rfl:FnAt K (nsIn K mainGlobals "joints_of") "joints_of" "joints_of" cx).de X G,(H.f 50 rfl:FnAt K (nsIn K mainGlobals "pieces_at") "pieces_at" "pieces_at" bW).de X G,(H.f 51 rfl:FnAt K (nsIn K mainGlobals "piece_beyond") "piece_beyond" "piece_beyond" bO).de X G,(H.f 52 rfl:FnAt K (nsIn K mainGlobals "joints_out") "joints_out" "joints_out" bY).de X G,(H.f 53 rfl:FnAt K (nsIn K mainGlobals "check_yard") "check_yard" "check_yard" dt).de X G,(H.f 54 rfl:FnAt K (nsIn K mainGlobals "check_pieces") "check_pieces" "check_pieces" cy).de X G,(H.f 55 rfl:FnAt K (nsIn K mainGlobals "check_joints") "check_joints" "check_joints" cz).de X G,(H.f 56 rfl:FnAt K (nsIn K mainGlobals "check_signals") "check_signals" "check_signals" cf).de X G,(H.f 57 rfl:FnAt K (nsIn K mainGlobals "routes") "routes" "routes" fS).de X G,(H.f 58 rfl:FnAt K (nsIn K mainGlobals "ways_on") "ways_on" "ways_on" fT).de X G,(H.f 59 rfl:FnAt K (findIn K (.ref 210) "__init__") "__init__" "Yard.__init__" cA).Ls (H.b 23 rfl) (H.b 24 rfl) (mg_of X G (H.c 22 rfl).a),(H.f 60 rfl:FnAt K (nsIn K mainGlobals "_law_cell") "_law_cell" "_law_cell" fU).de X G,(H.f 61 rfl:FnAt K (nsIn K mainGlobals "_law_mix") "_law_mix" "_law_mix" ip).de X G,(H.f 62 rfl:FnAt K (nsIn K mainGlobals "_law_asked") "_law_asked" "_law_asked" fb).de X G,(H.f 63 rfl:FnAt K (nsIn K mainGlobals "_law_good") "_law_good" "_law_good" dZ).de X G⟩
 obtain⟨_,_,_,_,_,_,F⟩:=(H.f 64 rfl:FnAt K (nsIn K mainGlobals "law") "law" "law" bP).law X G LS
 exact⟨_,fun s u=>.of_eq rfl,fun base _ _=>CZ (z:=⟨P,w,K,mg,base⟩) T F⟩
end Rw
open PySem PySem.W PyProof.Rows
set_option maxRecDepth 100000 in
set_option maxHeartbeats 0 in
theorem PySem.Challenge.cw_signalbox_k01_bad_yards_holds : PySem.Challenge.rw_signalbox_k01_bad_yards.Holds := by
 refine PySem.W.holds_law Rw.JT fun IG=>?_
 refine PySem.W.holds_open (q:=Rw.Q) (loose:=Rw.ks) (Xt:=fun s=>xlAt Rw.Q [] s && recOk [] s) (XP:=XL Rw.Q []) (Yf:=Hook.obs Rw.hk) (Ya:=Hook.val Rw.hk) (YP:=Hook.says Rw.hk) (N:=4212) (d:=⟨"law",L2.dS Rw.bP,L2.bN Rw.bP,L2.ak Rw.bP,Rw.JQ⟩) (kwd:=[])
  (Hd.ya (boot_open Rw.JR rfl Rw.JS) Rw.JU Rw.JV Rw.run Rw.Gs rfl) (Hook.of Rw.hk) (Hook.keeps Rw.hk) (fun s e=>xl_of s (Bool.and_eq_true_iff.mp e).1) XL.keeps (by kernel_rfl) (by kernel_rfl) (by kernel_rfl) (fun s e=>recFacts_of (Bool.and_eq_true_iff.mp e).2) (by kernel_rfl) IG (by kernel_rfl) ⟨rfl,rfl,rfl,rfl,rfl,by kernel_rfl⟩ ?hw ?hc
 case hw=>w_witness2
 refine Hd.CG (l:=PySem.Challenge.rw_signalbox_k01_bad_yards) (n:=63) (k:=40) (x := "_law_script") (CX:=fun w=>L2.iF PySem.Challenge.rw_signalbox_k01_bad_yards.prog w) (sp:=L2.pY) rfl (by decide) (by kernel_rfl) ⟨rfl,by decide,by decide⟩ (fun w mg fa h K KX H G Ee=>Rw.all_mk KX G Ee H) (fun K H a ns _ _ hS=>⟨a,ns,rfl,hS,fun _=>rfl⟩) (fun w H s e s' z=>by obtain⟨_,_,_,_,_,q⟩:=z; exact q)
end
