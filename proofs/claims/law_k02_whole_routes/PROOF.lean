import PyProof.Rows.All
import Wide.All
import OpenK.AllK
import Wide.FinOn
import Lean
import PyProof.EqAt
import PyProof.EqKinds
import PyProof.TupleCall
import PyProof.Rows.SetFrom
import PySem.Challenge.RW_signalbox_k02_whole_routes
section
set_option Elab.async false
set_option linter.all false
set_option maxRecDepth 100000
namespace L2
open PySem PySem.Spec PyProof.Rows
abbrev Key := Sum Int Str
def keyIs : Key → Value → Bool
  | .inl k, v => Value.isInt k v
  | .inr x, v => Value.isStrOf x v
def keyH (w : World) : Key → Int
  | .inl k => hashInt k
  | .inr x => hashStr w x
theorem keyIs_shape : ∀ {k : Key} {v : Value}, keyIs k v = true → (∃ i t, k = Sum.inl i ∧ v = Value.int i t) ∨ (∃ x t, k = Sum.inr x ∧ v = Value.str x t)
  | .inl i, v, h => by
    obtain ⟨t, e⟩ := Value.isInt_shape (k := i) (v := v) h
    exact .inl ⟨i, t, rfl, e⟩
  | .inr x, v, h => by
    obtain ⟨t, e⟩ := Value.isStrOf_shape (x := x) (v := v) h
    exact .inr ⟨x, t, rfl, e⟩
theorem keyIs_int (i : Int) (t : Tok) : keyIs (.inl i) (.int i t) = true := by simp [keyIs, Value.isInt]
theorem keyIs_str (x : Str) (t : Tok) : keyIs (.inr x) (.str x t) = true := by simp [keyIs, Value.isStrOf]
theorem key_ll (a b : Int) : decide ((Sum.inl a : Key) = Sum.inl b) = (a == b) := by
  by_cases e : a = b
  · subst e; simp
  · have h : ¬ (Sum.inl a : Key) = Sum.inl b := fun q => e (Sum.inl.inj q)
    rw [decide_eq_false h]
    exact (beq_eq_false_iff_ne.mpr e).symm
theorem key_rr (a b : Str) : decide ((Sum.inr a : Key) = Sum.inr b) = decide (a = b) := by
  by_cases e : a = b
  · subst e; simp
  · have h : ¬ (Sum.inr a : Key) = Sum.inr b := fun q => e (Sum.inr.inj q)
    rw [decide_eq_false h, decide_eq_false e]
theorem key_lr (a : Int) (b : Str) : decide ((Sum.inl a : Key) = Sum.inr b) = false := decide_eq_false (fun q => nomatch q)
theorem key_rl (a : Str) (b : Int) : decide ((Sum.inr a : Key) = Sum.inl b) = false := decide_eq_false (fun q => nomatch q)
def mixKind (prog : Program) (w : World) : PySem.KeyKind prog w Key where
  is := keyIs
  hash := keyH w
  inj := fun v a b ha hb => by
    rcases keyIs_shape ha with ⟨i, t, rfl, rfl⟩ | ⟨x, t, rfl, rfl⟩
    · rcases keyIs_shape hb with ⟨j, u, rfl, e⟩ | ⟨y, u, rfl, e⟩
      · injection e with e1 _; rw [e1]
      · exact nomatch e
    · rcases keyIs_shape hb with ⟨j, u, rfl, e⟩ | ⟨y, u, rfl, e⟩
      · exact nomatch e
      · injection e with e1 _; rw [e1]
  byValue := fun k v h => by
    rcases keyIs_shape h with ⟨i, t, rfl, rfl⟩ | ⟨x, t, rfl, rfl⟩ <;> rfl
  pyHash := fun hv h => by
    rcases keyIs_shape hv with ⟨i, t, rfl, rfl⟩ | ⟨x, t, rfl, rfl⟩
    · exact wpAny_pyHash_int h
    · exact wpAny_pyHash_str h
  eqBool := fun hu hv h => by
    rcases keyIs_shape hu with ⟨i, t, rfl, rfl⟩ | ⟨x, t, rfl, rfl⟩
    · rcases keyIs_shape hv with ⟨j, u, rfl, rfl⟩ | ⟨y, u, rfl, rfl⟩
      · rw [key_ll] at h; exact wpAny_eqBool_int h
      · rw [key_lr] at h; exact SeqAt.EqAt.int_str i t y u _ _ _ _ h
    · rcases keyIs_shape hv with ⟨j, u, rfl, rfl⟩ | ⟨y, u, rfl, rfl⟩
      · rw [key_rl] at h; exact SeqAt.EqAt.str_int x t j u _ _ _ _ h
      · rw [key_rr] at h; exact wpAny_eqBool_str h
  «strs» := fun k x t v h => by
    rcases keyIs_shape h with ⟨i, u, rfl, e⟩ | ⟨y, u, rfl, e⟩
    · exact nomatch e
    · injection e with e1 _
      subst e1
      cases v <;> rfl
theorem mixKind_is (prog : Program) (w : World) (k : Key) (v : Value) : (mixKind prog w).is k v = keyIs k v := rfl
theorem mixKind_int (prog : Program) (w : World) (i : Int) (t : Tok) : (mixKind prog w).is (.inl i) (.int i t) = true := keyIs_int i t
theorem mixKind_str (prog : Program) (w : World) (x : Str) (t : Tok) : (mixKind prog w).is (.inr x) (.str x t) = true := keyIs_str x t
end L2
namespace L2
open PySem PySem.Spec PyProof.Rows
inductive V where
  | non | bl (b : Bool) | int (i : Int) | str (x : Str) | byt (b : Array UInt8) | flt (b : UInt64) | ref (a : Addr) | ty (n : String)
  deriving DecidableEq
def RelV : V → Value → Prop
  | .non, u => u = Value.none
  | .bl b, u => u = Value.bool b
  | .int i, u => ∃ t, u = Value.int i t
  | .str x, u => ∃ t, u = Value.str x t
  | .byt b, u => ∃ t, u = Value.bytes b t
  | .flt b, u => ∃ t, u = Value.float b t
  | .ref a, u => u = Value.ref a
  | .ty n, u => u = Value.type n
abbrev Vals : List V → List Value → Prop := Paired RelV
theorem Vals.length {xs : List V} {us : List Value} (r : Vals xs us) : xs.length = us.length := Paired.length r
theorem Vals.get : ∀ {xs : List V} {us : List Value} {i : Nat} {x : V}, Vals xs us → xs[i]? = some x → ∃ u, us[i]? = some u ∧ RelV x u
  | _, _, _, _, .nil, e => by simp at e
  | _, _, 0, _, .cons r _, e => by simp at e; subst e; exact ⟨_, rfl, r⟩
  | _, _, i + 1, x, .cons _ t, e => by
    obtain ⟨u, h1, h2⟩ := Vals.get (i := i) (x := x) t (by simpa using e)
    exact ⟨u, by simpa using h1, h2⟩
theorem Vals.set {x : V} {u : Value} (r : RelV x u) : ∀ {xs : List V} {us : List Value} (i : Nat), Vals xs us → Vals (xs.set i x) (us.set i u)
  | _, _, _, .nil => .nil
  | _, _, 0, .cons _ t => .cons r t
  | _, _, i + 1, .cons q t => .cons q (Vals.set r i t)
theorem Vals.append : ∀ {xs ys : List V} {us ws : List Value}, Vals xs us → Vals ys ws → Vals (xs ++ ys) (us ++ ws)
  | _, _, _, _, .nil, s => s
  | _, _, _, _, .cons r t, s => .cons r (Vals.append t s)
theorem Vals.take : ∀ {xs : List V} {us : List Value} (n : Nat), Vals xs us → Vals (xs.take n) (us.take n)
  | _, _, 0, _ => .nil
  | _, _, _ + 1, .nil => .nil
  | _, _, n + 1, .cons r t => .cons r (Vals.take n t)
theorem Vals.drop : ∀ {xs : List V} {us : List Value} (n : Nat), Vals xs us → Vals (xs.drop n) (us.drop n)
  | _, _, 0, r => r
  | _, _, _ + 1, .nil => .nil
  | _, _, n + 1, .cons _ t => Vals.drop n t
theorem Vals.none_of : ∀ {xs : List V} {us : List Value} {i : Nat}, Vals xs us → xs[i]? = none → us[i]? = none := fun {xs us i} r e => by
  have h1 := r.length
  have h2 : xs.length ≤ i := List.getElem?_eq_none_iff.mp e
  exact List.getElem?_eq_none_iff.mpr (by omega)
def RelO : Option V → Option Value → Prop
  | some v, some u => RelV v u
  | none, none => True
  | _, _ => False
def KV {κ : Type} : List (κ × V) → List (κ × Value) → Prop := Paired fun (p : κ × V) (q : κ × Value) => p.1 = q.1 ∧ RelV p.2 q.2
def kV : Key → V
  | .inl i => .int i
  | .inr x => .str x
inductive HO where
  | lst (xs : List V)
  | tup (xs : List V)
  | dK (kvs : List (Key × V)) | dT (kvs : List (List Key × V))
  | set (S : Int → Bool) (n : Nat)
  | ins (C dx : Addr) (fs : List (Str × V))
  | own (x : Addr)
  | xd (fs : List (Str × V))
  | met (f x : Addr)
  | rng (lo hi : Int)
  | frz (o : Obj) (u : HO)
  | tbl (ps : Array Value)
  | ext (φ : Heap → Prop)
abbrev Hp := Addr → Option HO
def upd (H : Hp) (a : Addr) (o : HO) : Hp := fun b => if b = a then some o else H b
theorem upd_same {H : Hp} {a : Addr} {o : HO} : upd H a o a = some o := by unfold upd; rw [if_pos rfl]
theorem upd_ne {H : Hp} {a b : Addr} {o : HO} (h : b ≠ a) : upd H a o b = H b := by unfold upd; rw [if_neg h]
theorem upd_upd {H : Hp} {a : Addr} {o u : HO} : upd (upd H a o) a u = upd H a u := by
  funext b; unfold upd; split <;> rfl
theorem ne_of {H : Hp} {a b : Addr} {o u : HO} (h : H a = some o) (h' : H b = some u) (d : o ≠ u) : a ≠ b := by
  intro e; subst e; rw [h] at h'; exact d (Option.some.inj h')
theorem ne_of_none {H : Hp} {a b : Addr} {o : HO} (h : H a = some o) (h' : H b = none) : a ≠ b := by
  intro e; subst e; rw [h] at h'; cases h'
section
variable (P : Program) (w : World)
def ObjOk (H : Hp) (h : Heap) (a : Addr) : HO → Prop
  | .lst xs => xs.length ≤ sizeLine ∧ ∃ (its : List Value) (n : Nat), Vals xs its ∧ h.get? a = some { cls := .type "list", data := .seq its.toArray n }
  | .tup xs => xs.length ≤ sizeLine ∧ ∃ its : List Value, Vals xs its ∧ IsTup h a its.toArray
  | .dK kvs => kvs.length ≤ sizeLine ∧ (a == sysModules) = false ∧ ∃ vs, KV kvs vs ∧ h.DictOf (mixKind P w) a vs
  | .dT kvs => kvs.length ≤ sizeLine ∧ (a == sysModules) = false ∧ ∃ xs : List (List Key × Addr × Value),
      Paired (fun (p : List Key × V) (q : List Key × Addr × Value) => p.1 = q.1 ∧ H q.2.1 = some (.tup (p.1.map kV)) ∧ RelV p.2 q.2.2) kvs xs ∧
      ∃ o es ep, h.get? a = some o ∧ o.ExactDict ∧ o.data = .dict es ep ∧ es.toList = xs.map (entryOfKey (tupleKind (mixKind P w))) ∧ (xs.map (·.1)).Nodup
  | .set S n => h.SetOf (intKind P w) a S n
  | .ins C dx fs => H dx = some (.own a) ∧ fs.length ≤ 1000 ∧ dx ≠ a ∧ h.get? a = some (PySem.W.instObj C dx) ∧
      ∃ mA, h.Ns1 dx mA ∧ (∀ f, RelO (fs.lookup f) (mA f)) ∧ PySem.Within mA (fs.map (·.1))
  | .own _ => ∃ o, h.get? a = some o
  | .xd fs => ∃ mA, h.Ns1 a mA ∧ ∀ f, RelO (fs.lookup f) (mA f)
  | .rng lo hi => ∃ t u v, h.get? a = some { cls := .type "range", data := .fields #[.int lo t, .int hi u, .int 1 v] }
  | .frz o u => h.get? a = some o ∧ ObjOk H h a u
  | .tbl ps => h.get? a = some { cls := .none, data := .fields ps }
  | .met f x => h.get? a = some (PySem.W.methodObj (.ref f) (.ref x))
  | .ext φ => φ h ∧ (∃ o, h.get? a = some o) ∧ ∀ h1 h2 : Heap, φ h1 → (∀ o, h1.get? a = some o → h2.get? a = some o) → φ h2
def HOk (H : Hp) (h : Heap) : Prop := ∀ a o, H a = some o → ObjOk P w H h a o
end
section
variable {P : Program} {w : World} {H H' : Hp} {h h' : Heap} {a : Addr} {o : HO}
theorem ObjOk.lt (x : ObjOk P w H h a o) : a < h.objs.size := by
  cases o with
  | lst xs => obtain ⟨_, _, _, _, e⟩ := x; exact Heap.lt_size e
  | tup xs => obtain ⟨_, _, _, p⟩ := x; exact p.lt
  | dK kvs => obtain ⟨_, _, _, _, o, _, _, e, _⟩ := x; exact Heap.lt_size e
  | dT kvs => obtain ⟨_, _, _, _, o, _, _, e, _⟩ := x; exact Heap.lt_size e
  | set S n => obtain ⟨o, _, _, _, e, _⟩ := x; exact Heap.lt_size e
  | ins C dx fs => obtain ⟨_, _, _, e, _⟩ := x; exact Heap.lt_size e
  | own y => obtain ⟨_, e⟩ := x; exact Heap.lt_size e
  | xd fs => obtain ⟨_, ⟨_, _, _, e, _⟩, _⟩ := x; exact Heap.lt_size e
  | rng lo hi => obtain ⟨_, _, _, e⟩ := x; exact Heap.lt_size e
  | frz ob u => obtain ⟨e, _⟩ := x; exact Heap.lt_size e
  | tbl ps => exact Heap.lt_size (show h.get? a = some _ from x)
  | met f y => exact Heap.lt_size (show h.get? a = some _ from x)
  | ext φ => obtain ⟨_, ⟨_, e⟩, _⟩ := x; exact Heap.lt_size e
theorem Paired.mapP {α β : Type} {F G : α → β → Prop} : ∀ {l₁ : List α} {l₂ : List β}, Paired F l₁ l₂ → (∀ a b, F a b → G a b) → Paired G l₁ l₂
  | _, _, .nil, _ => .nil
  | _, _, .cons r t, f => .cons (f _ _ r) (Paired.mapP t f)
theorem Paired.imp' {α β : Type} {F G : α → β → Prop} (f : ∀ a b, F a b → G a b) {l₁ : List α} {l₂ : List β} (r : Paired F l₁ l₂) : Paired G l₁ l₂ := Paired.mapP r f
theorem ObjOk.stay (x : ObjOk P w H h a o) (k : ∀ b u, (b = a ∨ H b = some (.own a)) → h.get? b = some u → h'.get? b = some u)
    (ho : ∀ b, H b = some (.own a) → H' b = some (.own a)) (ht : ∀ b xs, H b = some (.tup xs) → H' b = some (.tup xs)) : ObjOk P w H' h' a o := by
  induction o with
  | lst xs => obtain ⟨z, its, n, r, e⟩ := x; exact ⟨z, its, n, r, k _ _ (.inl rfl) e⟩
  | tup xs => obtain ⟨z, its, r, ob, e, c⟩ := x; exact ⟨z, its, r, ob, k _ _ (.inl rfl) e, c⟩
  | dK kvs => obtain ⟨z, y, vs, r, ob, es, ep, e, c⟩ := x; exact ⟨z, y, vs, r, ob, es, ep, k _ _ (.inl rfl) e, c⟩
  | dT kvs =>
    obtain ⟨z, y, xs, r, ob, es, ep, e, c⟩ := x
    exact ⟨z, y, xs, Paired.mapP r fun p q z => ⟨z.1, ht _ _ z.2.1, z.2.2⟩, ob, es, ep, k _ _ (.inl rfl) e, c⟩
  | set S n => obtain ⟨ob, es, ep, t, e, c⟩ := x; exact ⟨ob, es, ep, t, k _ _ (.inl rfl) e, c⟩
  | ins C dx fs =>
    obtain ⟨d, z, ne, e, mA, ⟨od, es, ep, e2, c⟩, r⟩ := x
    exact ⟨ho _ d, z, ne, k _ _ (.inl rfl) e, mA, ⟨od, es, ep, k _ _ (.inr d) e2, c⟩, r⟩
  | own y => obtain ⟨ob, e⟩ := x; exact ⟨ob, k _ _ (.inl rfl) e⟩
  | xd fs => obtain ⟨mA, ⟨od, es, ep, e, c⟩, r⟩ := x; exact ⟨mA, ⟨od, es, ep, k _ _ (.inl rfl) e, c⟩, r⟩
  | rng lo hi => obtain ⟨t, u, v, e⟩ := x; exact ⟨t, u, v, k _ _ (.inl rfl) e⟩
  | frz ob u ih => obtain ⟨e, q⟩ := x; exact ⟨k _ _ (.inl rfl) e, ih q⟩
  | tbl ps =>
    have e : h.get? a = some { cls := .none, data := .fields ps } := x
    show h'.get? a = some { cls := .none, data := .fields ps }
    exact k a _ (.inl rfl) e
  | met f y =>
    have e : h.get? a = some (PySem.W.methodObj (.ref f) (.ref y)) := x
    show h'.get? a = some (PySem.W.methodObj (.ref f) (.ref y))
    exact k a _ (.inl rfl) e
  | ext φ => obtain ⟨p, ⟨o, e⟩, st⟩ := x; exact ⟨st _ _ p fun o q => k _ _ (.inl rfl) q, ⟨o, k _ _ (.inl rfl) e⟩, st⟩
theorem HOk.lt (x : HOk P w H h) (e : H a = some o) : a < h.objs.size := (x a o e).lt
theorem HOk.fresh (x : HOk P w H h) (e : h.objs.size ≤ a) : H a = none := by
  cases q : H a with
  | none => rfl
  | some u => exact absurd (Nat.lt_of_lt_of_le (x.lt q) e) (Nat.lt_irrefl _)
theorem HOk.kept (x : HOk P w H h) (k : ∀ b u, h.get? b = some u → h'.get? b = some u) : HOk P w H h' := fun a o e =>
  (x a o e).stay (fun b u _ q => k b u q) (fun _ q => q) fun _ _ q => q
theorem HOk.laid (x : HOk P w H h) (k : ∀ b u, h.get? b = some u → h'.get? b = some u) (hp : h.objs.size ≤ a) (new : ObjOk P w (upd H a o) h' a o) : HOk P w (upd H a o) h' := fun b u e => by
  have hn := x.fresh hp
  by_cases hb : b = a
  · subst hb; rw [upd_same] at e; cases e; exact new
  · rw [upd_ne hb] at e
    exact (x b u e).stay (fun c v _ q => k c v q) (fun c q => by rw [upd_ne (ne_of_none q hn)]; exact q) fun c xs q => by rw [upd_ne (ne_of_none q hn)]; exact q
end
def Rd (H : Hp) (a : Addr) (u : HO) : Prop := H a = some u ∨ ∃ o, H a = some (.frz o u)
theorem Rd.of {H : Hp} {a : Addr} {u : HO} (h : H a = some u) : Rd H a u := .inl h
theorem Rd.ok {P : Program} {w : World} {H : Hp} {h : Heap} {a : Addr} {u : HO} (r : Rd H a u) (x : HOk P w H h) : ObjOk P w H h a u := by
  rcases r with r | ⟨o, r⟩
  · exact x a u r
  · obtain ⟨_, q⟩ := x a _ r
    exact q
def Mut : Option HO → Prop
  | some (.lst _) => True
  | some (.dK _) => True
  | some (.dT _) => True
  | some (.set _ _) => True
  | some (.ins _ _ _) => True
  | some (.ext _) => True
  | _ => False
section
variable {P : Program} {w : World} {H : Hp} {h h' : Heap} {x e : Addr} {o' : HO}
theorem HOk.write (ok : HOk P w H h) (mu : Mut (H x)) (he : e = x ∨ H e = some (.own x)) (k : ∀ b u, b ≠ e → h.get? b = some u → h'.get? b = some u) (heo : ∃ u, h'.get? e = some u)
    (new : ObjOk P w (upd H x o') h' x o') : HOk P w (upd H x o') h' := fun b u q => by
  have nown : ∀ c y, H c = some (.own y) → c ≠ x := fun c y r z => by subst z; rw [r] at mu; exact mu
  have ntup : ∀ c xs, H c = some (.tup xs) → c ≠ x := fun c xs r z => by subst z; rw [r] at mu; exact mu
  by_cases hb : b = x
  · subst hb; rw [upd_same] at q; cases q; exact new
  · rw [upd_ne hb] at q
    by_cases hbe : b = e
    · have q' : H b = some (.own x) := by
        rcases he with z | z
        · exact absurd (hbe.trans z) hb
        · rw [hbe]; exact z
      rw [q] at q'; cases q'
      obtain ⟨v, hv⟩ := heo
      exact ⟨v, by rw [hbe]; exact hv⟩
    · refine (ok b u q).stay (fun c v hc r => k c v ?_ r) (fun c r => by rw [upd_ne (nown c b r)]; exact r) fun c xs r => by rw [upd_ne (ntup c xs r)]; exact r
      rcases hc with rfl | hc
      · exact hbe
      · rintro rfl
        rcases he with z | z
        · exact nown c b hc z
        · rw [hc] at z; cases z; exact hb rfl
end
structure Un (fs ex : List Addr) (H H' : Hp) (h h' : Heap) : Prop where
  keep : ∀ b o, h.get? b = some o → H b = none → b ∉ fs → b ∉ ex → h'.get? b = some o
  slot : ∀ b o, h.get? b = some o → H b = none → b ∈ fs → b ∉ ex → ∃ sl, h'.get? b = some { o with slots := sl }
  free : ∀ b o, h.get? b = some o → H b = none → b ∉ ex → H' b = none
  there : ∀ b o, h.get? b = some o → b ∉ ex → ∃ o', h'.get? b = some o'
  tups : ∀ b xs, H b = some (.tup xs) → H' b = some (.tup xs)
  frzs : ∀ b o u, H b = some (.frz o u) → H' b = some (.frz o u)
  tbls : ∀ b ps, H b = some (.tbl ps) → ∃ more, H' b = some (.tbl (ps ++ more))
section
variable {fs fs' ex ex' : List Addr} {H H1 H2 : Hp} {h h1 h2 h' : Heap} {a x e : Addr} {o : HO}
theorem Un.any (u : Un fs ex H H1 h h1) {b : Addr} {ob : Obj} (q : h.get? b = some ob) (n : H b = none) (hx : b ∉ ex) : ∃ sl, h1.get? b = some { ob with slots := sl } := by
  by_cases hb : b ∈ fs
  · exact u.slot b ob q n hb hx
  · exact ⟨ob.slots, u.keep b ob q n hb hx⟩
theorem Un.trans (a : Un fs ex H H1 h h1) (b : Un fs ex H1 H2 h1 h2) : Un fs ex H H2 h h2 where
  keep := fun c ob q n hc hx => b.keep c ob (a.keep c ob q n hc hx) (a.free c ob q n hx) hc hx
  slot := fun c ob q n hc hx => by
    obtain ⟨sl, e1⟩ := a.slot c ob q n hc hx
    obtain ⟨sl', e2⟩ := b.slot c _ e1 (a.free c ob q n hx) hc hx
    exact ⟨sl', e2⟩
  free := fun c ob q n hx => by
    obtain ⟨o', e1⟩ := a.there c ob q hx
    exact b.free c o' e1 (a.free c ob q n hx) hx
  there := fun c ob q hx => by
    obtain ⟨o', e1⟩ := a.there c ob q hx
    exact b.there c o' e1 hx
  tups := fun c xs q => b.tups c xs (a.tups c xs q)
  frzs := fun c ob xs q => b.frzs c ob xs (a.frzs c ob xs q)
  tbls := fun c ps q => by
    obtain ⟨m1, e1⟩ := a.tbls c ps q
    obtain ⟨m2, e2⟩ := b.tbls c _ e1
    exact ⟨m1 ++ m2, by rw [e2, Array.append_assoc]⟩
theorem Un.kept (k : ∀ b u, h.get? b = some u → h'.get? b = some u) : Un fs ex H H h h' :=
  ⟨fun b ob q _ _ _ => k b ob q, fun b ob q _ _ _ => ⟨ob.slots, k b ob q⟩, fun _ _ _ n _ => n, fun b ob q _ => ⟨ob, k b ob q⟩, fun _ _ q => q, fun _ _ _ q => q, fun _ ps q => ⟨#[], by rw [q]; simp⟩⟩
theorem Un.refl : Un fs ex H H h h := Un.kept fun _ _ q => q
theorem Un.laid (k : ∀ b u, h.get? b = some u → h'.get? b = some u) (hp : h.objs.size ≤ a) (hn : H a = none) : Un fs ex H (upd H a o) h h' where
  keep := fun b u q _ _ _ => k b u q
  slot := fun b u q _ _ _ => ⟨u.slots, k b u q⟩
  free := fun b u q n _ => by rw [upd_ne (Nat.ne_of_lt (Nat.lt_of_lt_of_le (Heap.lt_size q) hp))]; exact n
  there := fun b u q _ => ⟨u, k b u q⟩
  tups := fun b xs q => by rw [upd_ne (ne_of_none q hn)]; exact q
  frzs := fun b u xs q => by rw [upd_ne (ne_of_none q hn)]; exact q
  tbls := fun b ps q => ⟨#[], by rw [upd_ne (ne_of_none q hn), q]; simp⟩
theorem Un.write (mu : Mut (H x)) (he : e = x ∨ H e = some (.own x)) (k : ∀ b u, b ≠ e → h.get? b = some u → h'.get? b = some u) (heo : ∃ u, h'.get? e = some u) : Un fs ex H (upd H x o) h h' := by
  have hx : ∀ b, H b = none → b ≠ x := fun b n z => by subst z; rw [n] at mu; exact mu
  have hb : ∀ b, H b = none → b ≠ e := fun b n z => by
    subst z
    rcases he with r | r
    · exact hx b n r
    · rw [n] at r; cases r
  have hm : ∀ b u, H b = some u → ¬ Mut (some u) → b ≠ x := fun b u q nm z => by subst z; rw [q] at mu; exact nm mu
  refine ⟨fun b u q n _ _ => k b u (hb b n) q, fun b u q n _ _ => ⟨u.slots, k b u (hb b n) q⟩, fun b u q n _ => by rw [upd_ne (hx b n)]; exact n, fun b u q _ => ?_,
    fun b xs q => by rw [upd_ne (hm b _ q fun z => z)]; exact q, fun b u xs q => by rw [upd_ne (hm b _ q fun z => z)]; exact q, fun b ps q => ⟨#[], by rw [upd_ne (hm b _ q fun z => z), q]; simp⟩⟩
  by_cases hbe : b = e
  · subst hbe; exact heo
  · exact ⟨u, k b u hbe q⟩
theorem Un.mono (u : Un fs ex H H1 h h1) (hs : ∀ b ∈ fs, b ∈ fs') (hx : ∀ b ∈ ex, b ∈ ex') : Un fs' ex' H H1 h h1 :=
  ⟨fun b ob q n hb he => u.keep b ob q n (fun z => hb (hs b z)) fun z => he (hx b z), fun _ _ q n _ he => u.any q n fun z => he (hx _ z), fun b ob q n he => u.free b ob q n fun z => he (hx b z), fun b ob q he => u.there b ob q fun z => he (hx b z), u.tups, u.frzs, u.tbls⟩
end
def trk (h : Heap) (H : Hp) : List Addr := (List.range h.objs.size).filter fun a => (H a).isSome
def hidT (h : Heap) (H : Hp) : Heap := PySem.W.hideAll h (trk h H)
theorem hidT_size (h : Heap) (H : Hp) : (hidT h H).objs.size = h.objs.size := PySem.W.hideAll_size _ _
theorem hidT_get {h : Heap} {H : Hp} {b : Addr} {o : Obj} (e : h.get? b = some o) (n : H b = none) : (hidT h H).get? b = some o :=
  PySem.W.hideAll_get _ e fun hm => by
    have q : (H b).isSome = true := (List.mem_filter.mp hm).2
    rw [n] at q; simp at q
theorem of_hidT {h : Heap} {H : Hp} {b : Addr} {o : Obj} (e : (hidT h H).get? b = some o) : h.get? b = some o ∧ H b = none := by
  have e' : h.get? b = some o := PySem.W.of_hideAll (trk h H) e
  refine ⟨e', ?_⟩
  cases q : H b with
  | none => rfl
  | some x =>
    have hm : b ∈ trk h H := List.mem_filter.mpr ⟨List.mem_range.mpr (Heap.lt_size e'), by simp [q]⟩
    have z : (hidT h H).get? b = none := PySem.W.hideAll_none (trk h H) hm
    rw [z] at e; cases e
def allNews (g h : Heap) (L : Addr) : List (Addr × Obj) := (List.range h.objs.size).filterMap fun a => if a = L ∨ (g.get? a).isSome = true then none else (h.get? a).map fun o => (a, o)
theorem mem_allNews {g h : Heap} {L a : Addr} {o : Obj} (h1 : a ≠ L) (h2 : g.get? a = none) (h3 : h.get? a = some o) : (a, o) ∈ allNews g h L :=
  List.mem_filterMap.mpr ⟨a, List.mem_range.mpr (Heap.lt_size h3), by simp [h1, h2, h3]⟩
theorem of_mem_allNews {g h : Heap} {L : Addr} {p : Addr × Obj} (hp : p ∈ allNews g h L) : p.1 ≠ L ∧ g.get? p.1 = none ∧ h.get? p.1 = some p.2 := by
  obtain ⟨b, _, e⟩ := List.mem_filterMap.mp hp
  split at e
  · cases e
  · rename_i hn
    cases q : h.get? b with
    | none => rw [q] at e; simp at e
    | some u =>
      rw [q] at e
      simp only [Option.map_some, Option.some.injEq] at e
      subst e
      refine ⟨fun z => hn (.inl z), ?_, q⟩
      show g.get? b = none
      cases r : g.get? b with
      | none => rfl
      | some v => exact (hn (.inr (by simp [r]))).elim
def rest (g h : Heap) (L d : Addr) : List (Addr × Obj) := (allNews g h L).filter fun p => decide (p.1 ≠ d)
theorem rest_ne {g h : Heap} {L d : Addr} : ∀ p ∈ rest g h L d, p.1 ≠ d := fun p hp => of_decide_eq_true (List.mem_filter.mp hp).2
theorem mem_rest {g h : Heap} {L d a : Addr} {o : Obj} (h1 : a ≠ L) (h2 : g.get? a = none) (h3 : h.get? a = some o) (h4 : a ≠ d) : (a, o) ∈ rest g h L d :=
  List.mem_filter.mpr ⟨mem_allNews h1 h2 h3, decide_eq_true h4⟩
theorem news_all {g h : Heap} {L : Addr} : News g L h (allNews g h L) := fun p hp => let ⟨a, b, c⟩ := of_mem_allNews hp; ⟨c, a, b⟩
theorem news_at {g h : Heap} {L d : Addr} {o : Obj} (h1 : d ≠ L) (h2 : g.get? d = none) (h3 : h.get? d = some o) : News g L h ((d, o) :: rest g h L d) := fun p hp => by
  rcases List.mem_cons.mp hp with rfl | hp
  · exact ⟨h3, h1, h2⟩
  · exact news_all p (List.mem_filter.mp hp).1
theorem kept_of_news {g h h' : Heap} {L d : Addr} {m : Str → Option Value} (k : ∀ b o, g.get? b = some o → h.get? b = some o) (F : Fr g L h' m) (N : News g L h' (rest g h L d)) :
    ∀ b o, b ≠ L → b ≠ d → h.get? b = some o → h'.get? b = some o := fun b o h1 h2 e => by
  cases q : g.get? b with
  | some u =>
    have := k b u q
    rw [e] at this; cases this
    exact F.keep b _ q
  | none => exact (N (b, o) (mem_rest h1 q e h2)).1
end L2
namespace L2
open PySem PySem.Spec PyProof.Rows
structure Mod (K : PySem.W.Frag) (mg : Str → Option Value) (base : Heap) : Prop where
  kin : K.In base
  glob : base.Ns mainGlobals mg
  blt : ∃ mb, base.Ns builtinsNs mb ∧ ∀ x : Str, x ≠ "__name__" → mb x = bootBuiltins x
  nolimit : base.NoLimit
structure Cx where
  prog : Program
  w : World
  K : PySem.W.Frag
  mg : Str → Option Value
  base : Heap
  A : Around
  N : List Str
  s₀ : Shared
  H₀ : Hp
  env : Env
  outer : List Env
  stack : List Env
  ex : List Addr
  fn : Str → Bool
  calm : Bool
  pn : List (Addr × Obj)
  xe : Value → Shared → Prop
def frs (l : List Env) : List Addr := l.filterMap (·.frame)
abbrev Cx.fs (X : Cx) : List Addr := frs X.outer
def Vis (sc : Scope) (x : Str) : Prop := sc.names.lookup x = some .local ∨ sc.names.lookup x = some .cell ∨ sc.names.lookup x = some .free
def Loc (sc : Scope) (x : Str) : Prop := sc.names.lookup x = some .local ∨ sc.names.lookup x = some .cell
def Look (env : Env) (h : Heap) (m : Str → Option Value) (x : Str) (u : Value) : Prop :=
  (env.kindOf x = some .local ∧ m x = some u) ∨ ((env.kindOf x = some .cell ∨ env.kindOf x = some .free) ∧ ∃ c, env.cells.lookup x = some c ∧ h.IsCell c (some u))
structure Cx.Ok (X : Cx) : Prop where
  mod : Mod X.K X.mg X.base
  kind : X.env.scope.kind = .function
  glob : X.env.globals = mainGlobals
  blt : X.env.builtins = builtinsNs
  above : X.s₀.heap.objs.size ≤ X.env.locals
  inj : ∀ x y c, X.env.cells.lookup x = some c → X.env.cells.lookup y = some c → x = y
  has : ∀ x, (X.env.kindOf x = some .cell ∨ X.env.kindOf x = some .free) → ∃ c, X.env.cells.lookup x = some c
  cab : ∀ x c, X.fn x = true → X.env.cells.lookup x = some c → X.s₀.heap.objs.size ≤ c
  hd : X.calm = true → X.A.handled = none
  frames : X.A.frames = some X.stack
  stk : X.stack = X.outer ∨ (X.stack = X.env :: X.outer ∧ X.env.frame = some X.env.locals)
  exf : ∀ b ∈ X.ex, b ≠ X.env.locals ∧ ∀ x c, X.env.cells.lookup x = some c → c ≠ b
  bs : ∀ b o, X.base.get? b = some o → X.s₀.heap.get? b = some o ∧ X.H₀ b = none
  bsz : X.base.objs.size ≤ X.s₀.heap.objs.size
  noex : ∀ b o, X.base.get? b = some o → b ∉ X.ex
  exfs : ∀ b ∈ X.ex, b ∉ X.fs
  funs : X.s₀.heap.FunFrames X.base X.outer
  frf : ∀ b ∈ X.fs, X.H₀ b = none
structure Inv (X : Cx) (pins : List (Addr × Obj)) (σ : List (Option V)) (H : Hp) (s : Shared) : Prop where
  ok : X.Ok
  os : s.os = X.s₀.os
  bare : AllBare s.gens
  base : Un X.fs X.ex X.H₀ H X.s₀.heap s.heap
  loc : ∃ m, s.heap.Ns X.env.locals m ∧ ∀ (i : Nat) (x : Str) (v : V), X.N[i]? = some x → σ[i]? = some (some v) → Vis X.env.scope x → ∃ u, RelV v u ∧ Look X.env s.heap m x u
  cell : ∀ x c, X.env.cells.lookup x = some c → ∃ v, s.heap.IsCell c v
  free : H X.env.locals = none
  freeC : ∀ x c, X.env.cells.lookup x = some c → H c = none
  pin : ∀ p ∈ X.pn ++ pins, s.heap.get? p.1 = some p.2 ∧ H p.1 = none ∧ p.1 ≠ X.env.locals ∧ p.1 ∉ X.fs ∧ ∀ v, p.2.data ≠ .cell v
  hok : HOk X.prog X.w H s.heap
  len : σ.length = X.N.length
section
variable {X : Cx} {pins : List (Addr × Obj)} {σ : List (Option V)} {H H' : Hp} {s : Shared} {h' : Heap}
theorem Cx.Ok.nofr (ok : X.Ok) {b : Addr} {o : Obj} (e : X.base.get? b = some o) : b ∉ X.fs := fun hb => by
  have := (ok.funs.mem hb).1
  rw [e] at this; cases this
theorem Inv.bs (I : Inv X pins σ H s) : ∀ b o, X.base.get? b = some o → s.heap.get? b = some o ∧ H b = none := fun b o e =>
  ⟨I.base.keep b o (I.ok.bs b o e).1 (I.ok.bs b o e).2 (I.ok.nofr e) (I.ok.noex b o e), I.base.free b o (I.ok.bs b o e).1 (I.ok.bs b o e).2 (I.ok.noex b o e)⟩
theorem Inv.bk (I : Inv X pins σ H s) : ∀ b o, X.base.get? b = some o → s.heap.get? b = some o := fun b o e => (I.bs b o e).1
theorem Inv.mod (I : Inv X pins σ H s) : Mod X.K X.mg X.base := I.ok.mod
theorem Inv.kIn (I : Inv X pins σ H s) : X.K.In s.heap := I.ok.mod.kin.keeps I.bk
theorem Inv.nolimit (I : Inv X pins σ H s) : s.heap.NoLimit := I.ok.mod.nolimit.keeps I.bk
theorem Inv.fr (I : Inv X pins σ H s) : ∃ m, Fr X.base X.env.locals s.heap m :=
  let ⟨m, hn, _⟩ := I.loc
  ⟨m, hn, I.bk, Nat.le_trans I.ok.bsz I.ok.above⟩
theorem Inv.lt (I : Inv X pins σ H s) : X.env.locals < s.heap.objs.size := let ⟨_, hn, _⟩ := I.loc; hn.lt
theorem Inv.sz (I : Inv X pins σ H s) : X.s₀.heap.objs.size ≤ s.heap.objs.size := Nat.le_trans I.ok.above (Nat.le_of_lt I.lt)
theorem Inv.nofs (I : Inv X pins σ H s) {a : Addr} (h : s.heap.objs.size ≤ a) : a ∉ X.fs := fun hb => by
  obtain ⟨_, o, ho, _⟩ := I.ok.funs.mem hb
  exact absurd (Nat.lt_of_lt_of_le (Heap.lt_size ho) (Nat.le_trans I.sz h)) (Nat.lt_irrefl _)
theorem Inv.cne (I : Inv X pins σ H s) : ∀ x c, X.env.cells.lookup x = some c → c ≠ X.env.locals := fun x c e z => by
  obtain ⟨v, o, ho, hd⟩ := I.cell x c e
  obtain ⟨m, ⟨o', es, ep, ho', hd', _⟩, _⟩ := I.loc
  rw [z, ho'] at ho; cases ho; rw [hd'] at hd; cases hd
theorem Inv.funs (I : Inv X pins σ H s) : s.heap.FunFrames X.base X.outer := by
  have all : ∀ (l : List Env), (∀ b ∈ frs l, b ∈ X.fs) → X.s₀.heap.FunFrames X.base l → s.heap.FunFrames X.base l := by
    intro l
    induction l with
    | nil => intro _ _; trivial
    | cons env r ih =>
      intro hs hl
      obtain ⟨hk, ⟨L, o, hf, hn, ho, hd⟩, hr⟩ := hl
      have hL : L ∈ X.fs := hs L (by unfold frs; rw [List.filterMap_cons, hf]; exact List.mem_cons_self)
      obtain ⟨sl, e⟩ := I.base.slot L o ho (I.ok.frf L hL) hL fun z => I.ok.exfs L z hL
      exact ⟨hk, ⟨L, _, hf, hn, e, hd⟩, ih (fun b hb => hs b (by unfold frs; rw [List.filterMap_cons, hf]; exact List.mem_cons_of_mem _ hb)) hr⟩
  exact all X.outer (fun _ hb => hb) I.ok.funs
theorem Inv.stack (I : Inv X pins σ H s) : s.heap.FunFrames X.base X.stack := by
  rcases I.ok.stk with e | ⟨e, hf⟩
  · rw [e]; exact I.funs
  · rw [e]
    obtain ⟨m, hn, _⟩ := I.loc
    refine .cons (by rw [I.ok.kind]; decide) hf hn ?_ I.funs
    exact Heap.get?_none_of_le (Nat.le_trans I.ok.bsz I.ok.above)
theorem Inv.stkSub (I : Inv X pins σ H s) : ∀ b ∈ frs X.stack, b ∈ X.env.locals :: X.fs := fun b hb => by
  rcases I.ok.stk with e | ⟨e, hf⟩
  · rw [e] at hb; exact List.mem_cons_of_mem _ hb
  · rw [e] at hb
    unfold frs at hb
    rw [List.filterMap_cons, hf] at hb
    exact hb
theorem Inv.stkFree (I : Inv X pins σ H s) : ∀ b ∈ frs X.stack, H b = none := fun b hb => by
  rcases List.mem_cons.mp (I.stkSub b hb) with e | hb
  · rw [e]; exact I.free
  · obtain ⟨_, o, ho, _⟩ := I.ok.funs.mem hb
    exact I.base.free b o ho (I.ok.frf b hb) fun z => I.ok.exfs b z hb
theorem Inv.step {g' : Array GenState} {t' : Nat} {d' : Drawn} {ch : List Addr} (I : Inv X pins σ H s)
    (hch : ∀ b ∈ ch, (b ∈ X.ex ∨ X.s₀.heap.objs.size ≤ b) ∧ b ≠ X.env.locals ∧ (∀ x c, X.env.cells.lookup x = some c → c ≠ b) ∧ ∀ p ∈ X.pn ++ pins, p.1 ≠ b)
    (keep : ∀ b o, b ≠ X.env.locals → b ∉ X.fs → b ∉ ch → s.heap.get? b = some o → H b = none → h'.get? b = some o)
    (slot : ∀ b o, b ≠ X.env.locals → b ∈ X.fs → b ∉ ch → s.heap.get? b = some o → H b = none → ∃ sl, h'.get? b = some { o with slots := sl }) (free : ∀ b o, b ∉ ch → s.heap.get? b = some o → H b = none → H' b = none)
    (there : ∀ b o, b ∉ ch → s.heap.get? b = some o → ∃ o', h'.get? b = some o')
    (tups : ∀ b xs, H b = some (.tup xs) → H' b = some (.tup xs)) (frzs : ∀ b o u, H b = some (.frz o u) → H' b = some (.frz o u)) (tbls : ∀ b ps, H b = some (.tbl ps) → ∃ more, H' b = some (.tbl (ps ++ more)))
    (ns : ∀ m, s.heap.Ns X.env.locals m → h'.Ns X.env.locals m) (hok : HOk X.prog X.w H' h') (hg : AllBare g') :
    Inv X pins σ H' { s with heap := h', gens := g', drawn := d', toks := t' } := by
  have neL : ∀ b o, X.s₀.heap.get? b = some o → b ≠ X.env.locals := fun b o e => Nat.ne_of_lt (Nat.lt_of_lt_of_le (Heap.lt_size e) I.ok.above)
  have neC : ∀ b o, X.s₀.heap.get? b = some o → b ∉ X.ex → b ∉ ch := fun b o e hx hb => by
    rcases (hch b hb).1 with z | z
    · exact hx z
    · exact absurd (Nat.lt_of_lt_of_le (Heap.lt_size e) z) (Nat.lt_irrefl _)
  have cellK : ∀ x c, X.env.cells.lookup x = some c → ∀ v, s.heap.IsCell c v → h'.IsCell c v := fun x c e v ⟨o, ho, hd⟩ => by
    have nch : c ∉ ch := fun z => (hch c z).2.2.1 x c e rfl
    by_cases hc : c ∈ X.fs
    · obtain ⟨sl, q⟩ := slot c o (I.cne x c e) hc nch ho (I.freeC x c e)
      exact ⟨_, q, hd⟩
    · exact ⟨o, keep c o (I.cne x c e) hc nch ho (I.freeC x c e), hd⟩
  refine ⟨I.ok, I.os, hg, ⟨fun b o e n hb hx => ?_, fun b o e n hb hx => ?_, fun b o e n hx => ?_, fun b o e hx => ?_, fun b xs e => tups b xs (I.base.tups b xs e), fun b o xs e => frzs b o xs (I.base.frzs b o xs e), fun b ps e => ?_⟩, ?_, fun x c e => ?_, ?_, fun x c e => ?_, fun p hp => ?_, hok, I.len⟩
  · exact keep b o (neL b o e) hb (neC b o e hx) (I.base.keep b o e n hb hx) (I.base.free b o e n hx)
  · obtain ⟨sl, e1⟩ := I.base.slot b o e n hb hx
    obtain ⟨sl', e2⟩ := slot b _ (neL b o e) hb (neC b o e hx) e1 (I.base.free b o e n hx)
    exact ⟨sl', e2⟩
  · obtain ⟨o', e1⟩ := I.base.there b o e hx
    exact free b o' (neC b o e hx) e1 (I.base.free b o e n hx)
  · obtain ⟨o', e1⟩ := I.base.there b o e hx
    exact there b o' (neC b o e hx) e1
  · obtain ⟨m1, e1⟩ := I.base.tbls b ps e
    obtain ⟨m2, e2⟩ := tbls b _ e1
    exact ⟨m1 ++ m2, by rw [e2, Array.append_assoc]⟩
  · obtain ⟨m, hn, hl⟩ := I.loc
    refine ⟨m, ns m hn, fun i x v e1 e2 e3 => ?_⟩
    obtain ⟨u, r, l⟩ := hl i x v e1 e2 e3
    refine ⟨u, r, ?_⟩
    rcases l with l | ⟨k, c, e, z⟩
    · exact .inl l
    · exact .inr ⟨k, c, e, cellK x c e _ z⟩
  · obtain ⟨v, z⟩ := I.cell x c e
    exact ⟨v, cellK x c e v z⟩
  · obtain ⟨m, ⟨o, _, _, ho, _⟩, _⟩ := I.loc
    exact free _ o (fun z => (hch _ z).2.1 rfl) ho I.free
  · obtain ⟨v, o, ho, hd⟩ := I.cell x c e
    exact free c o (fun z => (hch c z).2.2.1 x c e rfl) ho (I.freeC x c e)
  · obtain ⟨e, n, ne, nf, d⟩ := I.pin p hp
    have nch : p.1 ∉ ch := fun z => (hch p.1 z).2.2.2 p hp rfl
    exact ⟨keep p.1 p.2 ne nf nch e n, free p.1 p.2 nch e n, ne, nf, d⟩
theorem Inv.un {t' : Nat} (I : Inv X pins σ H s) (u : Un X.fs [] H H' s.heap h') (hok : HOk X.prog X.w H' h') : Inv X pins σ H' { s with heap := h', toks := t' } := by
  obtain ⟨m, ⟨o, es, ep, ho, r⟩, _⟩ := id I.loc
  obtain ⟨sl, hL⟩ := u.any ho I.free (by simp)
  exact I.step (g' := s.gens) (d' := s.drawn) (ch := []) (fun _ z => nomatch z) (fun b o _ hb _ e n => u.keep b o e n hb (by simp)) (fun b o _ hb _ e n => u.slot b o e n hb (by simp)) (fun b o _ e n => u.free b o e n (by simp)) (fun b o _ e => u.there b o e (by simp)) u.tups u.frzs u.tbls (fun m' hm => by
    obtain ⟨o', es', ep', ho', r'⟩ := hm
    rw [ho] at ho'; cases ho'
    exact ⟨_, es', ep', hL, r'⟩) hok I.bare
theorem Inv.call {g' : Array GenState} {t' : Nat} {d' : Drawn} {ch : List Addr} (I : Inv X pins σ H s) (u : Un (frs X.stack) ch H H' s.heap h') (hok : HOk X.prog X.w H' h') (hg : AllBare g')
    (hch : ∀ b ∈ ch, (b ∈ X.ex ∨ X.s₀.heap.objs.size ≤ b) ∧ b ≠ X.env.locals ∧ (∀ x c, X.env.cells.lookup x = some c → c ≠ b) ∧ ∀ p ∈ X.pn ++ pins, p.1 ≠ b) :
    Inv X pins σ H' { s with heap := h', gens := g', drawn := d', toks := t' } := by
  obtain ⟨m, ⟨o, es, ep, ho, r⟩, _⟩ := id I.loc
  obtain ⟨sl, hL⟩ := u.any ho I.free fun z => (hch _ z).2.1 rfl
  exact I.step (ch := ch) hch (fun b o hL hb hc e n => u.keep b o e n (fun z => (List.mem_cons.mp (I.stkSub b z)).elim hL hb) hc) (fun b o _ _ hc e n => u.any e n hc) (fun b o hc e n => u.free b o e n hc) (fun b o hc e => u.there b o e hc) u.tups u.frzs u.tbls (fun m' hm => by
    obtain ⟨o', es', ep', ho', r'⟩ := hm
    rw [ho] at ho'; cases ho'
    exact ⟨_, es', ep', hL, r'⟩) hok hg
theorem Inv.turned {t' : Nat} {it : Addr} (I : Inv X pins σ H s) (k : ∀ b o, b ≠ it → s.heap.get? b = some o → h'.get? b = some o) (hn : H it = none) (hL : it ≠ X.env.locals)
    (h1 : it ∈ X.ex ∨ X.s₀.heap.objs.size ≤ it) (h2 : ∀ x c, X.env.cells.lookup x = some c → c ≠ it) (h3 : ∀ p ∈ X.pn ++ pins, p.1 ≠ it) : Inv X pins σ H { s with heap := h', toks := t' } := by
  have nit : ∀ b u, H b = some u → b ≠ it := fun b u e z => by rw [z, hn] at e; cases e
  refine I.step (g' := s.gens) (d' := s.drawn) (ch := [it]) (fun b hb => ?_) (fun b o _ _ hc e _ => k b o (fun z => hc (by simp [z])) e) (fun b o _ _ hc e _ => ⟨o.slots, k b o (fun z => hc (by simp [z])) e⟩) (fun _ _ _ _ n => n)
    (fun b o hc e => ⟨o, k b o (fun z => hc (by simp [z])) e⟩) (fun _ _ e => e) (fun _ _ _ e => e) (fun b ps e => ⟨#[], by rw [e]; simp⟩) (fun m hm => ?_) (fun b u e => ?_) I.bare
  · have e : b = it := by simpa using hb
    subst e
    exact ⟨h1, hL, h2, h3⟩
  · obtain ⟨o, es, ep, ho, r⟩ := hm
    exact ⟨o, es, ep, k _ o (Ne.symm hL) ho, r⟩
  · refine (I.hok b u e).stay (fun c v hc q => k c v ?_ q) (fun _ q => q) fun _ _ q => q
    rcases hc with z | z
    · rw [z]; exact nit b u e
    · exact nit c _ z
theorem Inv.tok (I : Inv X pins σ H s) (t : Nat) : Inv X pins σ H { s with toks := t } := I.un (h' := s.heap) (t' := t) Un.refl I.hok
theorem Inv.kept {t' : Nat} (I : Inv X pins σ H s) (k : ∀ b u, s.heap.get? b = some u → h'.get? b = some u) : Inv X pins σ H { s with heap := h', toks := t' } := I.un (Un.kept k) (I.hok.kept k)
theorem Inv.laid {a : Addr} {o : HO} {t' : Nat} (I : Inv X pins σ H s) (k : ∀ b u, s.heap.get? b = some u → h'.get? b = some u) (hp : s.heap.objs.size ≤ a) (new : ObjOk X.prog X.w (upd H a o) h' a o) :
    Inv X pins σ (upd H a o) { s with heap := h', toks := t' } := I.un (Un.laid k hp (I.hok.fresh hp)) (I.hok.laid k hp new)
theorem Inv.write {x e : Addr} {o : HO} {t' : Nat} (I : Inv X pins σ H s) (mu : Mut (H x)) (he : e = x ∨ H e = some (.own x)) (k : ∀ b u, b ≠ e → s.heap.get? b = some u → h'.get? b = some u) (heo : ∃ u, h'.get? e = some u)
    (new : ObjOk X.prog X.w (upd H x o) h' x o) : Inv X pins σ (upd H x o) { s with heap := h', toks := t' } := I.un (Un.write mu he k heo) (I.hok.write mu he k heo new)
theorem Inv.weak {σ' : List (Option V)} (I : Inv X pins σ H s) (hl : σ'.length = σ.length) (w : ∀ (i : Nat) v, σ'[i]? = some (some v) → σ[i]? = some (some v)) : Inv X pins σ' H s :=
  ⟨I.ok, I.os, I.bare, I.base, let ⟨m, hn, hl'⟩ := I.loc; ⟨m, hn, fun i x v e1 e2 e3 => hl' i x v e1 (w i v e2) e3⟩, I.cell, I.free, I.freeC, I.pin, I.hok, hl.trans I.len⟩
theorem Inv.pins_of {pins' : List (Addr × Obj)} (I : Inv X pins σ H s) (h : ∀ p ∈ pins', s.heap.get? p.1 = some p.2 ∧ H p.1 = none ∧ p.1 ≠ X.env.locals ∧ p.1 ∉ X.fs ∧ ∀ v, p.2.data ≠ .cell v) : Inv X pins' σ H s :=
  ⟨I.ok, I.os, I.bare, I.base, I.loc, I.cell, I.free, I.freeC, fun p hp => (List.mem_append.mp hp).elim (fun z => I.pin p (List.mem_append_left _ z)) (h p), I.hok, I.len⟩
theorem nodup_ix {N : List Str} (hN : N.Nodup) {i j : Nat} {x : Str} (a : N[i]? = some x) (b : N[j]? = some x) : i = j := by
  obtain ⟨h1, e1⟩ := List.getElem?_eq_some_iff.mp a
  obtain ⟨h2, e2⟩ := List.getElem?_eq_some_iff.mp b
  exact (List.getElem_inj hN).mp (e1.trans e2.symm)
theorem store_ok2 {M : Model} {A : Around} {E : Value → Shared → Prop} {i : Nat} {x : Str} {v : V} {u : Value} {Q : Unit → Shared → Prop} (I : Inv X pins σ H s) (hN : X.N.Nodup) (hi : X.N[i]? = some x) (hx : Loc X.env.scope x) (r : RelV v u)
    (h : ∀ s', Inv X pins (σ.set i (some v)) H s' → (∃ a, Heap.SameBut a s.heap s'.heap ∧ (a = X.env.locals ∨ X.env.cells.lookup x = some a)) → Q () s') (hf : X.fn x = true ∨ X.env.scope.names.lookup x = some .local := by first | exact .inl rfl | exact .inr rfl | assumption) : wpAny M A (storeName X.env x u) Q E s := by
  obtain ⟨m, hn, hl⟩ := id I.loc
  have hcls : (X.env.scope.kind == .class || (X.env.scope.kind == .module && X.env.locals != X.env.globals)) = false := by rw [I.ok.kind]; rfl
  have hiσ : i < σ.length := by rw [I.len]; exact (List.getElem?_eq_some_iff.mp hi).1
  have cne := I.cne
  have tracked : ∀ {a : Addr} {h' : Heap}, (∃ o, s.heap.get? a = some o ∧ H a = none) → Heap.SameBut a s.heap h' → HOk X.prog X.w H h' := fun {a h'} ha hs b ob e => by
    obtain ⟨_, _, hfree⟩ := ha
    refine (I.hok b ob e).stay (fun c w' hc q => (hs.2 c ?_).trans q) (fun _ q => q) fun _ _ q => q
    rintro rfl
    rcases hc with rfl | hc
    · rw [hfree] at e; cases e
    · rw [hfree] at hc; cases hc
  rcases hx with hk | hk
  · refine wpAny_storeName_local hk hn (fun h' hn' hs => ?_) hcls
    obtain ⟨oL, _, _, hoL, _⟩ := id hn
    refine h _ ⟨I.ok, I.os, I.bare, ⟨fun b o e n hb hx => ?_, fun b o e n hb hx => ?_, I.base.free, fun b o e hx => ?_, I.base.tups, I.base.frzs, I.base.tbls⟩, ⟨_, hn', fun j y v' e1 e2 e3 => ?_⟩, fun y c e => ?_, I.free, I.freeC, fun p hp => ?_, tracked ⟨oL, hoL, I.free⟩ hs, by simpa using I.len⟩ ⟨_, hs, .inl rfl⟩
    · exact (hs.2 b (Nat.ne_of_lt (Nat.lt_of_lt_of_le (Heap.lt_size e) I.ok.above))).trans (I.base.keep b o e n hb hx)
    · obtain ⟨sl, e1⟩ := I.base.slot b o e n hb hx
      exact ⟨sl, (hs.2 b (Nat.ne_of_lt (Nat.lt_of_lt_of_le (Heap.lt_size e) I.ok.above))).trans e1⟩
    · obtain ⟨o', e1⟩ := I.base.there b o e hx
      exact ⟨o', (hs.2 b (Nat.ne_of_lt (Nat.lt_of_lt_of_le (Heap.lt_size e) I.ok.above))).trans e1⟩
    · by_cases hj : j = i
      · subst hj
        rw [hi] at e1; cases e1
        rw [List.getElem?_set_self hiσ] at e2
        cases e2
        exact ⟨u, r, .inl ⟨hk, by simp⟩⟩
      · rw [List.getElem?_set_ne (Ne.symm hj)] at e2
        obtain ⟨u', r', q⟩ := hl j y v' e1 e2 e3
        refine ⟨u', r', ?_⟩
        rcases q with ⟨k, e⟩ | ⟨k, c, e, z⟩
        · refine .inl ⟨k, ?_⟩
          have : y ≠ x := fun e => hj (nodup_ix hN e1 (e ▸ hi))
          simp [this, e]
        · exact .inr ⟨k, c, e, z.sameBut hs (cne y c e)⟩
    · obtain ⟨w', z⟩ := I.cell y c e
      exact ⟨w', z.sameBut hs (cne y c e)⟩
    · obtain ⟨e, n, ne, nf, d⟩ := I.pin p hp
      exact ⟨(hs.2 p.1 ne).trans e, n, ne, nf, d⟩
  · have hfn : X.fn x = true := by
      rcases hf with z | z
      · exact z
      · rw [z] at hk; cases hk
    obtain ⟨c, hc⟩ := I.ok.has x (.inl hk)
    obtain ⟨w', z⟩ := I.cell x c hc
    refine wpAny_storeName_cell I.ok.kind hk hc z (fun h' hc' hs => ?_)
    obtain ⟨oc, hoc, hocd⟩ := id z
    refine h { s with heap := h' } ⟨I.ok, I.os, I.bare, ⟨fun b o e n hb hx => ?_, fun b o e n hb hx => ?_, I.base.free, fun b o e hx => ?_, I.base.tups, I.base.frzs, I.base.tbls⟩, ⟨m, hn.sameBut hs (Ne.symm (cne x c hc)), fun j y v' e1 e2 e3 => ?_⟩, fun y c' e => ?_, I.free, I.freeC, fun p hp => ?_, tracked ⟨oc, hoc, I.freeC x c hc⟩ hs, by simpa using I.len⟩ ⟨c, hs, .inr hc⟩
    · exact (hs.2 b (Nat.ne_of_lt (Nat.lt_of_lt_of_le (Heap.lt_size e) (I.ok.cab x c hfn hc)))).trans (I.base.keep b o e n hb hx)
    · obtain ⟨sl, e1⟩ := I.base.slot b o e n hb hx
      exact ⟨sl, (hs.2 b (Nat.ne_of_lt (Nat.lt_of_lt_of_le (Heap.lt_size e) (I.ok.cab x c hfn hc)))).trans e1⟩
    · obtain ⟨o', e1⟩ := I.base.there b o e hx
      exact ⟨o', (hs.2 b (Nat.ne_of_lt (Nat.lt_of_lt_of_le (Heap.lt_size e) (I.ok.cab x c hfn hc)))).trans e1⟩
    · by_cases hj : j = i
      · subst hj
        rw [hi] at e1; cases e1
        rw [List.getElem?_set_self hiσ] at e2
        cases e2
        exact ⟨u, r, .inr ⟨.inl hk, c, hc, hc'⟩⟩
      · rw [List.getElem?_set_ne (Ne.symm hj)] at e2
        obtain ⟨u', r', q⟩ := hl j y v' e1 e2 e3
        refine ⟨u', r', ?_⟩
        rcases q with q | ⟨k, c', e, z'⟩
        · exact .inl q
        · refine .inr ⟨k, c', e, z'.sameBut hs ?_⟩
          rintro rfl
          exact hj (nodup_ix hN e1 (I.ok.inj _ _ _ e hc ▸ hi))
    · by_cases hcc : c' = c
      · subst hcc; exact ⟨_, hc'⟩
      · obtain ⟨w2, z2⟩ := I.cell y c' e
        exact ⟨w2, z2.sameBut hs hcc⟩
    · obtain ⟨e, n, ne, nf, d⟩ := I.pin p hp
      refine ⟨(hs.2 p.1 ?_).trans e, n, ne, nf, d⟩
      intro q
      rw [q, hoc] at e
      have q' : oc = p.2 := Option.some.inj e
      exact d w' (by rw [← q']; exact hocd)
theorem store_ok {M : Model} {A : Around} {E : Value → Shared → Prop} {i : Nat} {x : Str} {v : V} {u : Value} {Q : Unit → Shared → Prop} (I : Inv X pins σ H s) (hN : X.N.Nodup) (hi : X.N[i]? = some x) (hx : Loc X.env.scope x) (r : RelV v u)
    (h : ∀ s', Inv X pins (σ.set i (some v)) H s' → Q () s') (hf : X.fn x = true ∨ X.env.scope.names.lookup x = some .local := by first | exact .inl rfl | exact .inr rfl | assumption) : wpAny M A (storeName X.env x u) Q E s :=
  store_ok2 I hN hi hx r (fun s' I' _ => h s' I') hf
theorem Inv.call' {s' : Shared} {ch : List Addr} (I : Inv X pins σ H s) (ho : s'.os = s.os) (u : Un (frs X.stack) ch H H' s.heap s'.heap) (hok : HOk X.prog X.w H' s'.heap) (hg : AllBare s'.gens)
    (hch : ∀ b ∈ ch, (b ∈ X.ex ∨ X.s₀.heap.objs.size ≤ b) ∧ b ≠ X.env.locals ∧ (∀ x c, X.env.cells.lookup x = some c → c ≠ b) ∧ ∀ p ∈ X.pn ++ pins, p.1 ≠ b) : Inv X pins σ H' s' := by
  obtain ⟨h', g', d', t', o'⟩ := s'
  have e : o' = s.os := ho
  subst e
  exact I.call (g' := g') (t' := t') (d' := d') u hok hg hch
end
abbrev XK := Value → Option Addr → Hp → Prop
abbrev St := List (Option V)
abbrev VK := V → Hp → Prop
abbrev TE := St → Hp → VK → Prop
abbrev TT := St → Hp → (Bool → Hp → Prop) → Prop
abbrev TA := St → Hp → (List V → Hp → Prop) → Prop
structure Ends where
  nx : St → Hp → Prop
  rt : VK
  bk : St → Hp → Prop := fun _ _ => False
  ct : St → Hp → Prop := fun _ _ => False
abbrev TS := Ends → St → Hp → Prop
def EP (X : Cx) (pins : List (Addr × Obj)) (σ : St) (Q : VK) (u : Value) (s' : Shared) : Prop := ∃ v H', Inv X pins σ H' s' ∧ RelV v u ∧ Q v H'
def TP (X : Cx) (pins : List (Addr × Obj)) (σ : St) (Q : Bool → Hp → Prop) (b : Bool) (s' : Shared) : Prop := ∃ H', Inv X pins σ H' s' ∧ Q b H'
def AP (X : Cx) (pins : List (Addr × Obj)) (σ : St) (Q : List V → Hp → Prop) (us : List Value) (s' : Shared) : Prop := ∃ vs H', Inv X pins σ H' s' ∧ Vals vs us ∧ Q vs H'
def SP (X : Cx) (pins : List (Addr × Obj)) (D : Ends) (f : Flow) (s' : Shared) : Prop :=
  match f with
  | .next => ∃ σ' H', Inv X pins σ' H' s' ∧ D.nx σ' H'
  | .brk => ∃ σ' H', Inv X pins σ' H' s' ∧ D.bk σ' H'
  | .cont => ∃ σ' H', Inv X pins σ' H' s' ∧ D.ct σ' H'
  | .ret u => ∃ v σ' H', Inv X pins σ' H' s' ∧ RelV v u ∧ D.rt v H'
def PE (X : Cx) (e : Expr) (t : TE) : Prop :=
  ∀ (pins : List (Addr × Obj)) (s : Shared) (σ : St) (H : Hp) (Q : VK), Inv X pins σ H s → t σ H Q → wpAny (model X.prog X.w) X.A (eval e X.env) (EP X pins σ Q) X.xe s
def PT (X : Cx) (e : Expr) (t : TT) : Prop :=
  ∀ (pins : List (Addr × Obj)) (s : Shared) (σ : St) (H : Hp) (Q : Bool → Hp → Prop), Inv X pins σ H s → t σ H Q → wpAny (model X.prog X.w) X.A (isTrue e X.env (eval e X.env)) (TP X pins σ Q) X.xe s
def PW (X : Cx) (e : Expr) (t : TT) : Prop :=
  ∀ (whole : Sem Value) (pins : List (Addr × Obj)) (s : Shared) (σ : St) (H : Hp) (Q : Bool → Hp → Prop), Inv X pins σ H s → t σ H Q → wpAny (model X.prog X.w) X.A (isTrue e X.env whole) (TP X pins σ Q) X.xe s
theorem PW.pt {X : Cx} {e : Expr} {t : TT} (h : PW X e t) : PT X e t := h _
def PA (X : Cx) (es : List Expr) (t : TA) : Prop :=
  ∀ (pos : Pos) (pins : List (Addr × Obj)) (s : Shared) (σ : St) (H : Hp) (Q : List V → Hp → Prop), Inv X pins σ H s → t σ H Q → wpAny (model X.prog X.w) X.A (spliced (backTo pos (starEach es X.env))) (AP X pins σ Q) X.xe s
def PS (X : Cx) (st : Stmt) (t : TS) : Prop :=
  ∀ (pins : List (Addr × Obj)) (s : Shared) (σ : St) (H : Hp) (D : Ends), Inv X pins σ H s → t D σ H → wpAny (model X.prog X.w) X.A (exec st X.env) (SP X pins D) X.xe s
def PSs (X : Cx) (st : List Stmt) (t : TS) : Prop :=
  ∀ (pins : List (Addr × Obj)) (s : Shared) (σ : St) (H : Hp) (D : Ends), Inv X pins σ H s → t D σ H → wpAny (model X.prog X.w) X.A (execs st X.env) (SP X pins D) X.xe s
theorem thn {α : Type} {t : Sem α} {Q Q' : α → Shared → Prop} {M : Model} {A : Around} {E : Value → Shared → Prop} {s : Shared} (h : wpAny M A t Q E s) (hQ : ∀ a s, Q a s → Q' a s) : wpAny M A t Q' E s := wpAny_mono h hQ fun _ _ x => x
end L2
namespace L2
open PySem PySem.Spec PyProof.Rows
section
variable {X : Cx}
theorem bin {a b : Expr} {ta tb : TE} (ha : PE X a ta) (hb : PE X b tb) {pins : List (Addr × Obj)} {s : Shared} {σ : St} {H : Hp} {R : V → V → Hp → Prop} (I : Inv X pins σ H s) (h : ta σ H fun x H1 => tb σ H1 fun y H2 => R x y H2)
    {α : Type} {Q : α → Shared → Prop} {f : Value → Value → Sem α}
    (hf : ∀ v u s2 x y H2, Inv X pins σ H2 s2 → RelV x v → RelV y u → R x y H2 → wpAny (model X.prog X.w) X.A (f v u) Q X.xe s2) :
    wpAny (model X.prog X.w) X.A (eval a X.env) (fun v s₁ => wpAny (model X.prog X.w) X.A (eval b X.env) (fun u s₂ => wpAny (model X.prog X.w) X.A (f v u) Q X.xe s₂) X.xe s₁) X.xe s := by
  refine thn (ha pins s σ H _ I h) fun v s1 ⟨x, H1, I1, r1, q1⟩ => ?_
  refine thn (hb pins s1 σ H1 _ I1 q1) fun u s2 ⟨y, H2, I2, r2, q2⟩ => ?_
  exact hf v u s2 x y H2 I2 r1 r2 q2
def tVar (i : Nat) : TE := fun σ H Q => ∃ v, σ[i]? = some (some v) ∧ Q v H
def tC (v : V) : TE := fun _ H Q => Q v H
theorem pe_var {i : Nat} {x : Str} {pos : Pos} (hN : X.N[i]? = some x) (hv : Vis X.env.scope x) (hd : (x == ("__debug__" : Str)) = false := by decide) (hcd : (x == ("__classdict__" : Str)) = false := by decide) : PE X (.Name x pos) (tVar i) := by
  intro pins s σ H Q I h
  obtain ⟨v, e, h⟩ := h
  obtain ⟨m, hn, hl⟩ := I.loc
  obtain ⟨u, r, l⟩ := hl i x v hN e hv
  have fin : EP X pins σ Q u s := ⟨v, H, I, r, h⟩
  rcases l with ⟨hk, hm⟩ | ⟨hk, c, hc, hcell⟩
  · exact wpAny_Name (wpAny_loadName_local I.ok.kind hk hn hm fin) hd
  · rcases hk with hk | hk
    · exact wpAny_Name (wpAny_loadName_cell I.ok.kind hk hc hcell fin) hd
    · exact wpAny_Name (wpAny_loadName_free I.ok.kind hk hc hcell fin hcd) hd
theorem pe_int {i j pos} : PE X (.Constant (.int i) j pos) (tC (.int i)) := fun _ _ _ H _ I h => wpAny_Constant_int ⟨.int i, H, I.tok _, ⟨_, rfl⟩, h⟩
theorem pe_bl {b j pos} : PE X (.Constant (.bool b) j pos) (tC (.bl b)) := fun _ _ _ H _ I h => Constant_bool ⟨.bl b, H, I, rfl, h⟩
theorem pe_non {j pos} : PE X (.Constant .none j pos) (tC .non) := fun _ _ _ H _ I h => Constant_none ⟨.non, H, I, rfl, h⟩
theorem pe_str {x j pos} : PE X (.Constant (.str x) j pos) (tC (.str x)) := fun _ _ _ H _ I h => Calls.Constant_str ⟨.str x, H, I.tok _, ⟨_, rfl⟩, h⟩
def Gl (X : Cx) (x : Str) : Prop := X.env.kindOf x = some .globalImplicit
theorem ld_glob {E : Value → Shared → Prop} {pins : List (Addr × Obj)} {s : Shared} {σ : St} {H : Hp} {x : Str} {u : Value} {pos : Pos} {Q : Value → Shared → Prop} (I : Inv X pins σ H s) (hg : Gl X x) (hm : X.mg x = some u) (h : Q u s)
    (hd : (x == ("__debug__" : Str)) = false := by decide) : wpAny (model X.prog X.w) X.A (eval (.Name x pos) X.env) Q E s :=
  Calls.Name_function_global I.ok.kind hg (Calls.loadGlobal_global (by rw [I.ok.glob]; exact I.mod.glob.keeps I.bk) hm h) hd
theorem ld_blt {E : Value → Shared → Prop} {pins : List (Addr × Obj)} {s : Shared} {σ : St} {H : Hp} {x : Str} {u : Value} {pos : Pos} {Q : Value → Shared → Prop} (I : Inv X pins σ H s) (hg : Gl X x) (hm : X.mg x = none) (hv : bootBuiltins x = some u) (h : Q u s)
    (hn : x ≠ "__name__" := by decide) (hd : (x == ("__debug__" : Str)) = false := by decide) : wpAny (model X.prog X.w) X.A (eval (.Name x pos) X.env) Q E s := by
  obtain ⟨mb, h1, h2⟩ := I.mod.blt
  exact Calls.Name_function_global I.ok.kind hg (Calls.loadGlobal_builtin (by rw [I.ok.glob]; exact I.mod.glob.keeps I.bk) hm (by rw [I.ok.blt]; exact h1.keeps I.bk) ((h2 x hn).trans hv) h) hd
theorem pe_glob {x : Str} {v : V} {u : Value} {pos : Pos} (hg : Gl X x) (hm : X.mg x = some u) (r : RelV v u) (hd : (x == ("__debug__" : Str)) = false := by decide) : PE X (.Name x pos) (tC v) :=
  fun _ _ _ H _ I h => ld_glob I hg hm ⟨v, H, I, r, h⟩ hd
theorem pe_bltn {x : Str} {v : V} {u : Value} {pos : Pos} (hg : Gl X x) (hm : X.mg x = none) (hv : bootBuiltins x = some u) (r : RelV v u) (hn : x ≠ "__name__" := by decide) (hd : (x == ("__debug__" : Str)) = false := by decide) : PE X (.Name x pos) (tC v) :=
  fun _ _ _ H _ I h => ld_blt I hg hm hv ⟨v, H, I, r, h⟩ hn hd
def t2I (ta tb : TE) (k : Int → Int → Hp → Prop) : St → Hp → Prop := fun σ H => ta σ H fun x H1 => tb σ H1 fun y H2 => ∃ i j, x = .int i ∧ y = .int j ∧ k i j H2
def tAdd (ta tb : TE) : TE := fun σ H Q => t2I ta tb (fun i j H2 => Q (.int (i + j)) H2) σ H
def tSub (ta tb : TE) : TE := fun σ H Q => t2I ta tb (fun i j H2 => Q (.int (i - j)) H2) σ H
def tMul (ta tb : TE) : TE := fun σ H Q => t2I ta tb (fun i j H2 => (-(2 ^ 64) < i ∧ i < 2 ^ 64) ∧ Q (.int (i * j)) H2) σ H
variable {a b : Expr} {ta tb : TE} {pos : Pos}
theorem pe_add (ha : PE X a ta) (hb : PE X b tb) : PE X (.BinOp a .Add b pos) (tAdd ta tb) := by
  intro pins s σ H Q I h
  refine wpAny_BinOp (bin ha hb I h fun v u s2 x y H2 I2 rx ry q => ?_)
  obtain ⟨i, j, rfl, rfl, q⟩ := q
  obtain ⟨t, rfl⟩ := rx
  obtain ⟨t', rfl⟩ := ry
  exact add_int ⟨.int _, H2, I2.tok _, ⟨_, rfl⟩, q⟩
theorem pe_sub (ha : PE X a ta) (hb : PE X b tb) : PE X (.BinOp a .Sub b pos) (tSub ta tb) := by
  intro pins s σ H Q I h
  refine wpAny_BinOp (bin ha hb I h fun v u s2 x y H2 I2 rx ry q => ?_)
  obtain ⟨i, j, rfl, rfl, q⟩ := q
  obtain ⟨t, rfl⟩ := rx
  obtain ⟨t', rfl⟩ := ry
  exact sub_int ⟨.int _, H2, I2.tok _, ⟨_, rfl⟩, q⟩
theorem pe_mul (ha : PE X a ta) (hb : PE X b tb) : PE X (.BinOp a .Mult b pos) (tMul ta tb) := by
  intro pins s σ H Q I h
  refine wpAny_BinOp (bin ha hb I h fun v u s2 x y H2 I2 rx ry q => ?_)
  obtain ⟨i, j, rfl, rfl, ⟨q1, q2⟩, q⟩ := q
  obtain ⟨t, rfl⟩ := rx
  obtain ⟨t', rfl⟩ := ry
  exact mul_int ⟨.int _, H2, I2.tok _, ⟨_, rfl⟩, q⟩ (.of_left (intBits_le_64 q1 q2))
def PC (X : Cx) (op : CmpOp) (a b : Expr) (t : TE) : Prop :=
  ∀ (pins : List (Addr × Obj)) (s : Shared) (σ : St) (H : Hp) (Q : VK), Inv X pins σ H s → t σ H Q →
    wpAny (model X.prog X.w) X.A (eval a X.env) (fun v s₁ => wpAny (model X.prog X.w) X.A (eval b X.env) (fun u s₂ => wpAny (model X.prog X.w) X.A (compareOp op v u) (EP X pins σ Q) X.xe s₂) X.xe s₁) X.xe s
theorem nobehind (b : Expr) {op : CmpOp} (h : op ≠ .In) (h2 : op ≠ .NotIn) : behindInMarks op b = false := by
  have e1 : (op == CmpOp.In) = false := by cases op <;> first | rfl | exact absurd rfl h
  have e2 : (op == CmpOp.NotIn) = false := by cases op <;> first | rfl | exact absurd rfl h2
  cases b <;> simp [behindInMarks, e1, e2]
def tCmp (p : Int → Int → Bool) (ta tb : TE) : TE := fun σ H Q => t2I ta tb (fun i j H2 => Q (.bl (p i j)) H2) σ H
abbrev tLt : TE → TE → TE := tCmp fun i j => decide (i < j)
abbrev tLe : TE → TE → TE := tCmp fun i j => decide (i ≤ j)
abbrev tGt : TE → TE → TE := tCmp fun i j => decide (j < i)
abbrev tGe : TE → TE → TE := tCmp fun i j => decide (j ≤ i)
abbrev tEqI : TE → TE → TE := tCmp fun i j => decide (i = j)
abbrev tNeI : TE → TE → TE := tCmp fun i j => !decide (i = j)
theorem pc_int {op : CmpOp} {p : Int → Int → Bool} (ha : PE X a ta) (hb : PE X b tb)
    (rule : ∀ (i j : Int) (t u : Tok) (Q : Value → Shared → Prop) (s : Shared), Q (.bool (p i j)) s → wpAny (model X.prog X.w) X.A (compareOp op (.int i t) (.int j u)) Q X.xe s) : PC X op a b (tCmp p ta tb) := by
  intro pins s σ H Q I h
  refine bin ha hb I h fun v u s2 x y H2 I2 rx ry q => ?_
  obtain ⟨i, j, rfl, rfl, q⟩ := q
  obtain ⟨t, rfl⟩ := rx
  obtain ⟨t', rfl⟩ := ry
  exact rule i j t t' _ s2 ⟨.bl _, H2, I2, rfl, q⟩
theorem pc_lt (ha : PE X a ta) (hb : PE X b tb) : PC X .Lt a b (tLt ta tb) := pc_int ha hb fun _ _ _ _ _ _ h => lt_int h
theorem pc_le (ha : PE X a ta) (hb : PE X b tb) : PC X .LtE a b (tLe ta tb) := pc_int ha hb fun _ _ _ _ _ _ h => le_int h
theorem pc_gt (ha : PE X a ta) (hb : PE X b tb) : PC X .Gt a b (tGt ta tb) := pc_int ha hb fun _ _ _ _ _ _ h => gt_int h
theorem pc_ge (ha : PE X a ta) (hb : PE X b tb) : PC X .GtE a b (tGe ta tb) := pc_int ha hb fun _ _ _ _ _ _ h => ge_int h
theorem pc_eqI (ha : PE X a ta) (hb : PE X b tb) : PC X .Eq a b (tEqI ta tb) := pc_int ha hb fun _ _ _ _ _ _ h => eq_int (by rw [Bool.beq_eq_decide_eq]; exact h)
theorem pc_neI (ha : PE X a ta) (hb : PE X b tb) : PC X .NotEq a b (tNeI ta tb) := pc_int ha hb fun _ _ _ _ _ _ h => ne_int (by rw [bne, Bool.beq_eq_decide_eq]; exact h)
def tIsN (ta : TE) : TE := fun σ H Q => ta σ H fun x H1 => Q (.bl (decide (x = .non))) H1
def tNotN (ta : TE) : TE := fun σ H Q => ta σ H fun x H1 => Q (.bl (!decide (x = .non))) H1
theorem RelV.none_iff {x : V} {v : Value} (r : RelV x v) : (v == Value.none) = decide (x = .non) := by
  cases x with
  | non => cases r; rfl
  | bl _ => cases r; rfl
  | int _ => obtain ⟨t, rfl⟩ := r; rfl
  | str _ => obtain ⟨t, rfl⟩ := r; rfl
  | byt _ => obtain ⟨t, rfl⟩ := r; rfl
  | flt _ => obtain ⟨t, rfl⟩ := r; rfl
  | ref _ => cases r; rfl
  | ty _ => cases r; rfl
theorem pc_isN {j pos'} (ha : PE X a ta) : PC X .Is a (.Constant .none j pos') (tIsN ta) := by
  intro pins s σ H Q I h
  refine thn (ha pins s σ H _ I h) fun v s1 ⟨x, H1, I1, r1, q1⟩ => ?_
  exact Constant_none (is_none_gen ⟨.bl _, H1, I1, by rw [r1.none_iff]; rfl, q1⟩)
theorem pc_notN {j pos'} (ha : PE X a ta) : PC X .IsNot a (.Constant .none j pos') (tNotN ta) := by
  intro pins s σ H Q I h
  refine thn (ha pins s σ H _ I h) fun v s1 ⟨x, H1, I1, r1, q1⟩ => ?_
  exact Constant_none (isnot_none_gen ⟨.bl _, H1, I1, by rw [r1.none_iff]; rfl, q1⟩)
def tB (t : TE) : TT := fun σ H Q => t σ H fun x H1 => ∃ c, x = .bl c ∧ Q c H1
theorem pe_cmp {op : CmpOp} {t : TE} (h : PC X op a b t) (h1 : behindInMarks op b = false := by first | exact nobehind _ (by decide) (by decide) | rfl) : PE X (.Compare a [op] [b] pos) t := fun pins s σ H Q I hw => wpAny_Compare1 (h pins s σ H Q I hw) h1
theorem pt_cmp {op : CmpOp} {t : TE} (h : PC X op a b t) (h1 : behindInMarks op b = false := by first | exact nobehind _ (by decide) (by decide) | rfl) : PT X (.Compare a [op] [b] pos) (tB t) := by
  intro pins s σ H Q I hw
  refine wpAny_isTrue_Compare1 (thn (h pins s σ H _ I hw) fun v s1 h1 => thn h1 fun u s2 h2 => thn h2 fun c s3 ⟨x, H1, I1, r1, q1⟩ => ?_) h1
  obtain ⟨d, rfl, q⟩ := q1
  cases r1
  exact wpAny_truthy_bool ⟨H1, I1, q⟩
theorem pt_val {e : Expr} {t : TE} (h : PE X e t) (he : ∀ whole, isTrue e X.env whole = (do let v ← whole; standAt e.pos; holding [v] (truthy v)) := by intro _; rfl) : PT X e (tB t) := by
  intro pins s σ H Q I hw
  refine isTrue_plain (thn (h pins s σ H _ I hw) fun v s1 ⟨x, H1, I1, r1, q1⟩ => ?_) (he _)
  obtain ⟨d, rfl, q⟩ := q1
  cases r1
  exact wpAny_truthy_bool ⟨H1, I1, q⟩
variable {tA tB' : TT} {rest : List Expr}
def tAnd (t u : TT) : TT := fun σ H Q => t σ H fun c H1 => if c = true then u σ H1 Q else Q false H1
def tOr (t u : TT) : TT := fun σ H Q => t σ H fun c H1 => if c = true then Q true H1 else u σ H1 Q
def tNot (t : TT) : TT := fun σ H Q => t σ H fun c H1 => Q (!c) H1
theorem pw_and1 (ha : PT X a tA) : PW X (.BoolOp .And [a] pos) tA := by
  intro wh pins s σ H Q I h
  refine isTrue_and (thn (ha pins s σ H Q I h) fun c s1 e => ?_)
  cases c with
  | true => exact isTrue_and_nil e
  | false => exact e
theorem pw_or1 (ha : PT X a tA) : PW X (.BoolOp .Or [a] pos) tA := by
  intro wh pins s σ H Q I h
  refine isTrue_or (thn (ha pins s σ H Q I h) fun c s1 e => ?_)
  cases c with
  | false => exact isTrue_or_nil e
  | true => exact e
theorem pw_and (ha : PT X a tA) (hb : PW X (.BoolOp .And (b :: rest) pos) tB') : PW X (.BoolOp .And (a :: b :: rest) pos) (tAnd tA tB') := by
  intro wh pins s σ H Q I h
  refine isTrue_and (thn (ha pins s σ H _ I h) fun c s1 ⟨H1, I1, q1⟩ => ?_)
  cases c with
  | true => exact hb wh pins s1 σ H1 Q I1 q1
  | false => exact ⟨H1, I1, q1⟩
theorem pw_or (ha : PT X a tA) (hb : PW X (.BoolOp .Or (b :: rest) pos) tB') : PW X (.BoolOp .Or (a :: b :: rest) pos) (tOr tA tB') := by
  intro wh pins s σ H Q I h
  refine isTrue_or (thn (ha pins s σ H _ I h) fun c s1 ⟨H1, I1, q1⟩ => ?_)
  cases c with
  | true => exact ⟨H1, I1, q1⟩
  | false => exact hb wh pins s1 σ H1 Q I1 q1
theorem pt_not (ha : PT X a tA) : PT X (.UnaryOp .Not a pos) (tNot tA) := by
  intro pins s σ H Q I h
  exact isTrue_not (ha pins s σ H (fun c H1 => Q (!c) H1) I h)
def tAndV (ta tb : TE) : TE := fun σ H Q => ta σ H fun x H1 => ∃ c, x = .bl c ∧ if c = true then tb σ H1 Q else Q (.bl false) H1
def tOrV (ta tb : TE) : TE := fun σ H Q => ta σ H fun x H1 => ∃ c, x = .bl c ∧ if c = true then Q (.bl true) H1 else tb σ H1 Q
def tNotV (ta : TE) : TE := fun σ H Q => ta σ H fun x H1 => ∃ c, x = .bl c ∧ Q (.bl (!c)) H1
theorem pe_one {op} {t : TE} (h : PE X a t) : PE X (.BoolOp op [a] pos) t := fun pins s σ H Q I hw => BoolOp_one (h pins s σ H Q I hw)
theorem pe_and (ha : PE X a ta) (hb : PE X (.BoolOp .And (b :: rest) pos) tb) : PE X (.BoolOp .And (a :: b :: rest) pos) (tAndV ta tb) := by
  intro pins s σ H Q I h
  refine BoolOp_and (thn (ha pins s σ H _ I h) fun v s1 ⟨x, H1, I1, r1, q1⟩ => ?_)
  obtain ⟨c, rfl, q1⟩ := q1
  cases r1
  refine wpAny_truthy_bool ?_
  cases c with
  | true => exact hb pins s1 σ H1 Q I1 q1
  | false => exact ⟨.bl false, H1, I1, rfl, q1⟩
theorem pe_or (ha : PE X a ta) (hb : PE X (.BoolOp .Or (b :: rest) pos) tb) : PE X (.BoolOp .Or (a :: b :: rest) pos) (tOrV ta tb) := by
  intro pins s σ H Q I h
  refine BoolOp_or (thn (ha pins s σ H _ I h) fun v s1 ⟨x, H1, I1, r1, q1⟩ => ?_)
  obtain ⟨c, rfl, q1⟩ := q1
  cases r1
  refine wpAny_truthy_bool ?_
  cases c with
  | false => exact hb pins s1 σ H1 Q I1 q1
  | true => exact ⟨.bl true, H1, I1, rfl, q1⟩
theorem pe_not (ha : PE X a ta) : PE X (.UnaryOp .Not a pos) (tNotV ta) := by
  intro pins s σ H Q I h
  refine UnaryOp_ (thn (ha pins s σ H _ I h) fun v s1 ⟨x, H1, I1, r1, q1⟩ => ?_)
  obtain ⟨c, rfl, q1⟩ := q1
  cases r1
  exact not_of (wpAny_truthy_bool ⟨.bl (!c), H1, I1, rfl, q1⟩)
def tIf (t : TT) (ta tb : TE) : TE := fun σ H Q => t σ H fun c H1 => if c = true then ta σ H1 Q else tb σ H1 Q
theorem pe_ifExp {c : Expr} (hc : PT X c tA) (ha : PE X a ta) (hb : PE X b tb) : PE X (.IfExp c a b pos) (tIf tA ta tb) := by
  intro pins s σ H Q I h
  refine wpAny_IfExp (thn (hc pins s σ H _ I h) fun d s1 ⟨H1, I1, q1⟩ => ?_)
  cases d with
  | true => exact ha pins s1 σ H1 Q I1 q1
  | false => exact hb pins s1 σ H1 Q I1 q1
end
end L2
namespace L2
open PySem PySem.Spec PyProof.Rows
def SqL (K : PySem.W.Frag) (H : Hp) (a : Addr) (xs : List V) : Prop :=
  Rd H a (.lst xs) ∨
    ∃ (o : Obj) (its : Array Value) (n : Nat), K.lookup a = some o ∧ o.cls = .type "list" ∧ o.dict = none ∧ o.data = .seq its n ∧ its.size ≤ sizeLine ∧ Vals xs its.toList
def SqT (K : PySem.W.Frag) (H : Hp) (a : Addr) (xs : List V) : Prop :=
  Rd H a (.tup xs) ∨
    ∃ (o : Obj) (its : Array Value) (n : Nat), K.lookup a = some o ∧ o.cls = .type "tuple" ∧ o.data = .seq its n ∧ its.size ≤ sizeLine ∧ Vals xs its.toList
def absV : Value → Option V
  | .none => some .non
  | .bool b => some (.bl b)
  | .int i _ => some (.int i)
  | .str x _ => some (.str x)
  | .bytes b _ => some (.byt b)
  | .float b _ => some (.flt b)
  | .ref a => some (.ref a)
  | .type n => some (.ty n)
  | _ => none
theorem RelV.abs {x : V} {u : Value} (r : RelV x u) : absV u = some x := by
  cases x with
  | non => cases r; rfl
  | bl _ => cases r; rfl
  | int _ => obtain ⟨t, rfl⟩ := r; rfl
  | str _ => obtain ⟨t, rfl⟩ := r; rfl
  | byt _ => obtain ⟨t, rfl⟩ := r; rfl
  | flt _ => obtain ⟨t, rfl⟩ := r; rfl
  | ref _ => cases r; rfl
  | ty _ => cases r; rfl
theorem RelV.inj {x y : V} {u : Value} (r : RelV x u) (q : RelV y u) : x = y := Option.some.inj (r.abs.symm.trans q.abs)
theorem Vals.inj : ∀ {xs ys : List V} {us : List Value}, Vals xs us → Vals ys us → xs = ys
  | _, _, _, .nil, .nil => rfl
  | _, _, _, .cons r t, .cons r' t' => by rw [r.inj r', Vals.inj t t']
section
variable {X : Cx} {pins : List (Addr × Obj)} {σ : St} {H : Hp} {s : Shared} {a : Addr} {xs ys : List V}
theorem SqL.of {K : PySem.W.Frag} (h : H a = some (.lst xs)) : SqL K H a xs := .inl (.inl h)
theorem SqT.of {K : PySem.W.Frag} (h : H a = some (.tup xs)) : SqT K H a xs := .inl (.inl h)
theorem Inv.list (I : Inv X pins σ H s) (h : SqL X.K H a xs) : ∃ its : List Value, Vals xs its ∧ PlainL s.heap a its.toArray ∧ xs.length ≤ sizeLine := by
  rcases h with h | ⟨o, its, n, hk, hc, hd, hs, hz, r⟩
  · obtain ⟨z, its, n, r, e⟩ := h.ok I.hok
    exact ⟨its, r, ⟨_, n, e, rfl, rfl, rfl⟩, z⟩
  · refine ⟨its.toList, r, ⟨o, n, I.kIn a o hk, hc, hd, by simpa using hs⟩, ?_⟩
    have e := r.length
    simp only [Array.length_toList] at e
    omega
theorem Inv.tuple (I : Inv X pins σ H s) (h : SqT X.K H a xs) : ∃ its : List Value, Vals xs its ∧ IsTup s.heap a its.toArray ∧ xs.length ≤ sizeLine := by
  rcases h with h | ⟨o, its, n, hk, hc, hs, hz, r⟩
  · obtain ⟨z, its, r, p⟩ := h.ok I.hok
    exact ⟨its, r, p, z⟩
  · refine ⟨its.toList, r, ⟨o, I.kIn a o hk, hc, n, by simpa using hs⟩, ?_⟩
    have e := r.length
    simp only [Array.length_toList] at e
    omega
theorem Inv.list_inj (I : Inv X pins σ H s) (h : SqL X.K H a xs) (h' : SqL X.K H a ys) : xs = ys := by
  obtain ⟨its, r, ⟨o, n, e, _, _, d⟩, _⟩ := I.list h
  obtain ⟨its', r', ⟨o', n', e', _, _, d'⟩, _⟩ := I.list h'
  rw [e] at e'; cases e'
  rw [d] at d'
  injection d' with d1 _
  have : its = its' := by simpa using congrArg Array.toList d1
  subst this
  exact r.inj r'
theorem Inv.tuple_inj (I : Inv X pins σ H s) (h : SqT X.K H a xs) (h' : SqT X.K H a ys) : xs = ys := by
  obtain ⟨its, r, ⟨o, e, _, n, d⟩, _⟩ := I.tuple h
  obtain ⟨its', r', ⟨o', e', _, n', d'⟩, _⟩ := I.tuple h'
  rw [e] at e'; cases e'
  rw [d] at d'
  injection d' with d1 _
  have : its = its' := by simpa using congrArg Array.toList d1
  subst this
  exact r.inj r'
end
abbrev Cx.wish (X : Cx) (E : Value → Shared → Prop) : Cx := { X with xe := E }
abbrev Cx.nox (X : Cx) : Cx := X.wish fun _ _ => False
theorem Cx.Ok.wish {X : Cx} (ok : X.Ok) (E : Value → Shared → Prop) : (X.wish E).Ok :=
  ⟨ok.mod, ok.kind, ok.glob, ok.blt, ok.above, ok.inj, ok.has, ok.cab, ok.hd, ok.frames, ok.stk, ok.exf, ok.bs, ok.bsz, ok.noex, ok.exfs, ok.funs, ok.frf⟩
theorem Cx.Ok.unwish {X : Cx} {E : Value → Shared → Prop} (ok : (X.wish E).Ok) : X.Ok :=
  ⟨ok.mod, ok.kind, ok.glob, ok.blt, ok.above, ok.inj, ok.has, ok.cab, ok.hd, ok.frames, ok.stk, ok.exf, ok.bs, ok.bsz, ok.noex, ok.exfs, ok.funs, ok.frf⟩
section
variable {X : Cx} {pins : List (Addr × Obj)} {σ : St} {H : Hp} {s : Shared} {E : Value → Shared → Prop}
theorem Inv.wish (I : Inv X pins σ H s) (E : Value → Shared → Prop) : Inv (X.wish E) pins σ H s := ⟨I.ok.wish E, I.os, I.bare, I.base, I.loc, I.cell, I.free, I.freeC, I.pin, I.hok, I.len⟩
theorem Inv.unwish (I : Inv (X.wish E) pins σ H s) : Inv X pins σ H s := ⟨I.ok.unwish, I.os, I.bare, I.base, I.loc, I.cell, I.free, I.freeC, I.pin, I.hok, I.len⟩
theorem SP.unwish {D : Ends} {f : Flow} {s' : Shared} (h : SP (X.wish E) pins D f s') : SP X pins D f s' := by
  cases f with
  | next => obtain ⟨σ', H', I, q⟩ := h; exact ⟨σ', H', I.unwish, q⟩
  | brk => obtain ⟨σ', H', I, q⟩ := h; exact ⟨σ', H', I.unwish, q⟩
  | cont => obtain ⟨σ', H', I, q⟩ := h; exact ⟨σ', H', I.unwish, q⟩
  | ret u => obtain ⟨v, σ', H', I, r, q⟩ := h; exact ⟨v, σ', H', I.unwish, r, q⟩
theorem PE.nox {e : Expr} {t : TE} (h : PE X.nox e t) : PE X e t := fun pins s σ H Q I hw =>
  wpAny_mono (h pins s σ H Q (I.wish _) hw) (fun _ _ ⟨v, H', I', r, q⟩ => ⟨v, H', I'.unwish, r, q⟩) fun _ _ z => False.elim z
theorem PT.nox {e : Expr} {t : TT} (h : PT X.nox e t) : PT X e t := fun pins s σ H Q I hw =>
  wpAny_mono (h pins s σ H Q (I.wish _) hw) (fun _ _ ⟨H', I', q⟩ => ⟨H', I'.unwish, q⟩) fun _ _ z => False.elim z
theorem PSs.nox {st : List Stmt} {t : TS} (h : PSs X.nox st t) : PSs X st t := fun pins s σ H D I hw =>
  wpAny_mono (h pins s σ H D (I.wish _) hw) (fun _ _ q => q.unwish) fun _ _ z => False.elim z
end
section
variable {X : Cx} {st : Stmt} {rest : List Stmt} {t u : TS} {e : Expr} {te : TE} {pos : Pos}
def tNext : TS := fun D σ H => D.nx σ H
def tSeq (t u : TS) : TS := fun D σ H => t { D with nx := u D } σ H
theorem pss_nil : PSs X [] tNext := fun _ _ σ H _ I h => wpAny_execs_nil ⟨σ, H, I, h⟩
theorem pss_cons (h1 : PS X st t) (h2 : PSs X rest u) : PSs X (st :: rest) (tSeq t u) := by
  intro pins s σ H D I h
  refine wpAny_execs_cons (thn (h1 pins s σ H { D with nx := u D } I h) fun f s1 q => ?_)
  cases f with
  | next =>
    obtain ⟨σ', H', I', q⟩ := q
    exact h2 pins s1 σ' H' D I' q
  | ret v => exact q
  | brk => exact q
  | cont => exact q
theorem pss_one (h1 : PS X st t) : PSs X [st] t := by
  intro pins s σ H D I h
  refine wpAny_execs_cons (thn (h1 pins s σ H D I h) fun f s1 q => ?_)
  cases f with
  | next => exact wpAny_execs_nil q
  | ret v => exact q
  | brk => exact q
  | cont => exact q
def tBreak : TS := fun D σ H => D.bk σ H
def tCont : TS := fun D σ H => D.ct σ H
theorem ps_pass : PS X (.Pass pos) tNext := fun _ _ σ H _ I h => wpAny_Pass ⟨σ, H, I, h⟩
theorem ps_break : PS X (.Break pos) tBreak := fun _ _ σ H _ I h => wpAny_Break ⟨σ, H, I, h⟩
theorem ps_continue : PS X (.Continue pos) tCont := fun _ _ σ H _ I h => wpAny_Continue ⟨σ, H, I, h⟩
theorem Inv.quiet {pins : List (Addr × Obj)} {σ : St} {H : Hp} {s : Shared} (I : Inv X pins σ H s) : interactive X.env = false := by simp [interactive, I.ok.kind]
theorem ps_doc {x j pos pos'} : PS X (.Expr (.Constant (.str x) j pos) pos') tNext := fun _ s σ H _ I h => wpAny_Expr (Calls.Constant_str (show SP X _ _ .next { s with toks := s.toks + 1 } from ⟨σ, H, I.tok _, h⟩)) I.quiet
def tDrop (te : TE) : TS := fun D σ H => te σ H fun _ H1 => D.nx σ H1
theorem ps_expr (he : PE X e te) (hs : swapsWith e none pos.line X.env = pure false := by rfl) : PS X (.Expr e pos) (tDrop te) := by
  intro pins s σ H D I h
  exact wpAny_Expr_any (thn (he pins s σ H _ I h) fun v s1 ⟨x, H1, I1, r1, q1⟩ => ⟨σ, H1, I1, q1⟩) I.quiet hs
def tRet (te : TE) : TS := fun D σ H => te σ H D.rt
theorem ps_ret (he : PE X e te) : PS X (.Return (some e) pos) (tRet te) := by
  intro pins s σ H D I h
  exact wpAny_Return_some (thn (he pins s σ H _ I h) fun v s1 ⟨x, H1, I1, r1, q1⟩ => ⟨x, σ, H1, I1, r1, q1⟩)
def tRetN : TS := fun D _ H => D.rt .non H
theorem ps_retN : PS X (.Return none pos) tRetN := fun _ _ σ H _ I h => wpAny_Return_none ⟨.non, σ, H, I, rfl, h⟩
def tIfS (c : TT) (t u : TS) : TS := fun D σ H => c σ H fun b H1 => if b = true then t D σ H1 else u D σ H1
theorem ps_if {c : Expr} {a b : List Stmt} {tc : TT} (hc : PT X c tc) (ha : PSs X a t) (hb : PSs X b u) : PS X (.If c a b pos) (tIfS tc t u) := by
  intro pins s σ H D I h
  refine wpAny_If (thn (hc pins s σ H _ I h) fun d s1 ⟨H1, I1, q1⟩ => ?_)
  cases d with
  | true => exact ha pins s1 σ H1 D I1 q1
  | false => exact hb pins s1 σ H1 D I1 q1
def tNever : TS := fun _ _ _ => False
theorem ps_never : PS X st tNever := fun _ _ _ _ _ _ h => h.elim
theorem pss_never {sts : List Stmt} : PSs X sts tNever := fun _ _ _ _ _ _ h => h.elim
end
abbrev TG := V → St → Hp → (St → Hp → Prop) → Prop
abbrev TGs := List V → St → Hp → (St → Hp → Prop) → Prop
def PG (X : Cx) (target : Expr) (t : TG) : Prop :=
  ∀ (pins : List (Addr × Obj)) (s : Shared) (σ : St) (H : Hp) (v : V) (u : Value) (Q : St → Hp → Prop), Inv X pins σ H s → RelV v u → t v σ H Q →
    wpAny (model X.prog X.w) X.A (assign target X.env u) (fun _ s' => ∃ σ' H', Inv X pins σ' H' s' ∧ Q σ' H') X.xe s
def PGs (X : Cx) (ts : List Expr) (t : TGs) : Prop :=
  ∀ (pins : List (Addr × Obj)) (s : Shared) (σ : St) (H : Hp) (vs : List V) (us : List Value) (Q : St → Hp → Prop), Inv X pins σ H s → Vals vs us → t vs σ H Q →
    wpAny (model X.prog X.w) X.A (assignInOrder ((assignEach ts X.env).map (·.2)) us) (fun _ s' => ∃ σ' H', Inv X pins σ' H' s' ∧ Q σ' H') X.xe s
abbrev TSet := V → V → V → Hp → (Hp → Prop) → Prop
def PSet (X : Cx) (t : TSet) : Prop :=
  ∀ (pins : List (Addr × Obj)) (s : Shared) (σ : St) (H : Hp) (o i v : V) (ov iv u : Value) (Q : Hp → Prop), Inv X pins σ H s → RelV o ov → RelV i iv → RelV v u → t o i v H Q →
    wpAny (model X.prog X.w) X.A (setItem ov iv u) (fun _ s' => ∃ H', Inv X pins σ H' s' ∧ Q H') X.xe s
abbrev TIp := V → V → Hp → VK → Prop
def PIp (X : Cx) (op : Operator) (t : TIp) : Prop :=
  ∀ (pins : List (Addr × Obj)) (s : Shared) (σ : St) (H : Hp) (x y : V) (v u : Value) (Q : VK), Inv X pins σ H s → RelV x v → RelV y u → t x y H Q →
    wpAny (model X.prog X.w) X.A (inplaceOp op v u) (EP X pins σ Q) X.xe s
section
variable {X : Cx} {pos : Pos}
def gName (i : Nat) : TG := fun v σ H Q => Q (σ.set i (some v)) H
theorem pg_name {i : Nat} {x : Str} (hN : X.N.Nodup) (hi : X.N[i]? = some x) (hx : Loc X.env.scope x) (hf : X.fn x = true ∨ X.env.scope.names.lookup x = some .local := by first | exact .inl rfl | exact .inr rfl | assumption) : PG X (.Name x pos) (gName i) := by
  intro pins s σ H v u Q I r h
  exact wpAny_assign_Name (store_ok I hN hi hx r (fun s' I' => ⟨_, H, I', h⟩) hf)
def gNil : TGs := fun vs σ H Q => vs = [] ∧ Q σ H
def gCons (t : TG) (u : TGs) : TGs := fun vs σ H Q => ∃ v r, vs = v :: r ∧ t v σ H fun σ' H' => u r σ' H' Q
theorem pgs_nil : PGs X [] gNil := by
  intro pins s σ H vs us Q I r h
  obtain ⟨e, h⟩ := h
  subst e
  cases r
  exact assignInOrder_nil ⟨σ, H, I, h⟩
theorem pgs_cons {e : Expr} {es : List Expr} {t : TG} {u : TGs} (h1 : PG X e t) (h2 : PGs X es u)
    (hs : (assignEach (e :: es) X.env).map (·.2) = assign e X.env :: (assignEach es X.env).map (·.2) := by rfl) : PGs X (e :: es) (gCons t u) := by
  intro pins s σ H vs us Q I r h
  obtain ⟨v, vr, e1, h⟩ := h
  subst e1
  cases r with
  | cons r rr =>
    rw [hs]
    refine assignInOrder_cons (thn (h1 pins s σ H _ _ _ I r h) fun _ s1 ⟨σ1, H1, I1, q1⟩ => ?_)
    exact h2 pins s1 σ1 H1 _ _ Q I1 rr q1
def gTup (K : PySem.W.Frag) (n : Nat) (t : TGs) : TG := fun v σ H Q => ∃ a xs, v = .ref a ∧ SqT K H a xs ∧ xs.length = n ∧ t xs σ H Q
theorem pg_tup {es : List Expr} {k : Nat} {t : TGs} {n : Nat} (hc : X.calm = true) (h : PGs X es t)
    (hn : (assignEach es X.env).length = n := by rfl) (hst : (assignEach es X.env).findIdx? (·.1) = none := by rfl) : PG X (.Tuple es k pos) (gTup X.K n t) := by
  intro pins s σ H v u Q I r hw
  obtain ⟨a, xs, e1, hq, hl, hw⟩ := hw
  subst e1
  cases r
  obtain ⟨its, rv, ht, hz⟩ := I.tuple hq
  refine assign_Tuple_tuple (I.ok.hd hc) ht (by simp [hn, ← hl, rv.length]) hst fun h' hx => ?_
  have I1 : Inv X pins σ H { s with heap := h' } := I.kept (t' := s.toks) fun b o e => hx b o (Nat.ne_of_lt (Heap.lt_size e)) e
  exact h pins _ σ H xs _ Q I1 (by simpa using rv) hw
def gSub (to ti : TE) (t : TSet) : TG := fun v σ H Q => to σ H fun o H1 => ti σ H1 fun i H2 => t o i v H2 fun H3 => Q σ H3
theorem pg_sub {o i : Expr} {to ti : TE} {t : TSet} (ho : PE X o to) (hi : PE X i ti) (hs : PSet X t)
    (ha : ∀ v, assign (.Subscript o i pos) X.env v = (do
      let ov ← holding [v] (eval o X.env)
      let iv ← holding [v, ov] (eval i X.env)
      standAt pos
      holding [v, ov, iv] (setItem ov iv v)
      release [v, ov, iv] []) := by intro _; rfl) : PG X (.Subscript o i pos) (gSub to ti t) := by
  intro pins s σ H v u Q I r h
  rw [ha]
  refine wpAny_bind (wpAny_holding (thn (ho pins s σ H _ I h) fun ov s1 ⟨x, H1, I1, r1, q1⟩ => ?_))
  refine wpAny_bind (wpAny_holding (thn (hi pins s1 σ H1 _ I1 q1) fun iv s2 ⟨y, H2, I2, r2, q2⟩ => ?_))
  refine wpAny_bind (wpAny_standAt (wpAny_bind (wpAny_holding (thn (hs pins s2 σ H2 x y v ov iv u _ I2 r1 r2 r q2) fun _ s3 ⟨H3, I3, q3⟩ => ?_))))
  exact wpAny_release ⟨σ, H3, I3, q3⟩
def tAsg (te : TE) (g : TG) : TS := fun D σ H => te σ H fun x H1 => g x σ H1 D.nx
theorem ps_asg {tg e : Expr} {te : TE} {g : TG} (he : PE X e te) (hg : PG X tg g) (hs : swapsWithSole [tg] e pos.line X.env = pure false := by rfl) (hw : swappedStores [tg] e X.env = pure none := by rfl)
    (h1 : (assignEach [tg] X.env).map (·.2) = [assign tg X.env] := by rfl) : PS X (.Assign [tg] e pos) (tAsg te g) := by
  intro pins s σ H D I h
  refine wpAny_Assign_stores (thn (he pins s σ H _ I h) fun v s1 ⟨x, H1, I1, r1, q1⟩ => ?_) hs hw
  rw [h1]
  exact thn (hg pins s1 σ H1 x v _ I1 r1 q1) fun _ s2 q => q
theorem ps_set {i : Nat} {x : Str} {e : Expr} {te : TE} {pos' : Pos} (hN : X.N.Nodup) (hi : X.N[i]? = some x) (hx : Loc X.env.scope x) (he : PE X e te) (hs : swapsWith e (some (.Name x pos')) pos.line X.env = pure false := by rfl) (hf : X.fn x = true ∨ X.env.scope.names.lookup x = some .local := by first | exact .inl rfl | exact .inr rfl | assumption) :
    PS X (.Assign [.Name x pos'] e pos) (tAsg te (gName i)) := by
  intro pins s σ H D I h
  refine wpAny_Assign_Name (thn (he pins s σ H _ I h) fun v s1 ⟨y, H1, I1, r1, q1⟩ => ?_) hs
  exact store_ok I1 hN hi hx r1 (fun s2 I2 => ⟨_, H1, I2, q1⟩) hf
def tPar (i j : Nat) (ta : TA) : TS := fun D σ H => ta σ H fun vs H1 => ∃ v w, vs = [v, w] ∧ D.nx ((σ.set i (some v)).set j (some w)) H1
theorem ps_par {i j : Nat} {x y : Str} {a b : Expr} {ta : TA} {px py pt : Pos} {kt k2 pt2} (hc : X.calm = true) (hN : X.N.Nodup) (hi : X.N[i]? = some x) (hj : X.N[j]? = some y) (hij : i ≠ j)
    (hx : X.env.scope.names.lookup x = some .local) (hy : X.env.scope.names.lookup y = some .local) (ha : PA X [a, b] ta)
    (hw : swappedStores [.Tuple [.Name x px, .Name y py] kt pt] (.Tuple [a, b] k2 pt2) X.env = pure (some [x, y]))
    (hs : swapsWithSole [.Tuple [.Name x px, .Name y py] kt pt] (.Tuple [a, b] k2 pt2) pos.line X.env = pure false := by rfl) :
    PS X (.Assign [.Tuple [.Name x px, .Name y py] kt pt] (.Tuple [a, b] k2 pt2) pos) (tPar i j ta) := by
  intro pins s σ H D I h
  rw [exec_Assign_arm]
  refine wpAny_bind (wpAny_standAt ?_)
  rw [hs]
  refine wpAny_bind (wpAny_pure ?_)
  rw [if_neg (by decide)]
  refine wpAny_bind (Tuple_ (thn (ha _ pins s σ H _ I h) fun us s1 ⟨vs, H1, I1, r1, q1⟩ => ?_))
  obtain ⟨v, w, e1, q1⟩ := q1
  subst e1
  obtain ⟨u1, u2, rfl, rv, rw'⟩ : ∃ u1 u2, us = [u1, u2] ∧ RelV v u1 ∧ RelV w u2 := by
    cases r1 with
    | cons p q =>
      cases q with
      | cons p' q' =>
        cases q'
        exact ⟨_, _, rfl, p, p'⟩
  refine wpAny_newObj_type ?_ (by show 2 ≤ sizeLine; decide)
  have I2 : Inv X pins σ H1 { s1 with heap := s1.heap.push { cls := .type "tuple", data := .seq [u1, u2].toArray } } := I1.kept (t' := s1.toks) fun b o e => Heap.get?_push_of_some _ e
  rw [hw]
  refine wpAny_bind (wpAny_pure ?_)
  show wpAny (model X.prog X.w) X.A (do rule "assign.swapped-stores"; let items ← unpackItems (.ref s1.heap.objs.size) 2 none; assignInOrder [fun v => bindName X.env y v, fun v => bindName X.env x v] items.reverse; pure Flow.next) _ _ _
  refine wpAny_bind (wpAny_rule (wpAny_bind (unpackItems_tuple (items := #[u1, u2]) (I.ok.hd hc) (IsTup.new s1.heap _) fun h' hx' => ?_)))
  have I3 := I2.kept (h' := h') (t' := s1.toks) fun b o e => hx' b o (Nat.ne_of_lt (Heap.lt_size e)) e
  show wpAny _ _ (assignInOrder [fun v => bindName X.env y v, fun v => bindName X.env x v] [u2, u1] >>= fun _ => pure Flow.next) _ _ _
  refine wpAny_bind (assignInOrder_cons (wpAny_bindName (store_ok I3 hN hj (.inl hy) rw' (fun s2 I4 => ?_) (.inr hy))))
  refine assignInOrder_cons (wpAny_bindName (store_ok I4 hN hi (.inl hx) rv (fun s3 I5 => assignInOrder_nil (wpAny_pure ?_)) (.inr hx)))
  rw [List.set_comm _ _ (Ne.symm hij)] at I5
  exact ⟨_, H1, I5, q1⟩
def tAug (i : Nat) (te : TE) (ti : TIp) : TS := fun D σ H => ∃ x, σ[i]? = some (some x) ∧ te σ H fun y H1 => ti x y H1 fun z H2 => D.nx (σ.set i (some z)) H2
theorem ps_aug {i : Nat} {x : Str} {e : Expr} {te : TE} {op : Operator} {ti : TIp} {pos' : Pos} (hN : X.N.Nodup) (hi : X.N[i]? = some x) (hx : Loc X.env.scope x) (he : PE X e te) (ho : PIp X op ti) (hf : X.fn x = true ∨ X.env.scope.names.lookup x = some .local := by first | exact .inl rfl | exact .inr rfl | assumption) :
    PS X (.AugAssign (.Name x pos') op e pos) (tAug i te ti) := by
  intro pins s σ H D I h
  obtain ⟨v, e1, h⟩ := h
  obtain ⟨m, hn, hl⟩ := I.loc
  have vis : Vis X.env.scope x := by rcases hx with k | k; exact .inl k; exact .inr (.inl k)
  obtain ⟨u, r, l⟩ := hl i x v hi e1 vis
  refine wpAny_AugAssign_Name ?_
  have go : wpAny (model X.prog X.w) X.A (eval e X.env) (fun w s₂ => wpAny (model X.prog X.w) X.A (inplaceOp op u w) (fun r s₃ => wpAny (model X.prog X.w) X.A (storeName X.env x r) (fun _ => SP X pins D .next) X.xe s₃) X.xe s₂) X.xe s := by
    refine thn (he pins s σ H _ I h) fun w s1 ⟨y, H1, I1, r1, q1⟩ => ?_
    refine thn (ho pins s1 σ H1 v y u w _ I1 r r1 q1) fun z s2 ⟨zv, H2, I2, r2, q2⟩ => ?_
    exact store_ok I2 hN hi hx r2 (fun s3 I3 => ⟨_, H2, I3, q2⟩) hf
  rcases l with ⟨hk, hm⟩ | ⟨hk, c, hc, hcell⟩
  · exact wpAny_loadName_local I.ok.kind hk hn hm go
  · rcases hk with hk | hk
    · exact wpAny_loadName_cell I.ok.kind hk hc hcell go
    · rcases hx with k | k
      · have : X.env.scope.names.lookup x = some .free := hk
        rw [k] at this; cases this
      · have : X.env.scope.names.lookup x = some .free := hk
        rw [k] at this; cases this
def tAugS (to ti te : TE) (tget : V → V → Hp → VK → Prop) (tip : TIp) (tset : TSet) : TS := fun D σ H => to σ H fun o H1 => ti σ H1 fun i H2 => tget o i H2 fun x H3 => te σ H3 fun y H4 => tip x y H4 fun z H5 => tset o i z H5 fun H6 => D.nx σ H6
def PGet (X : Cx) (t : V → V → Hp → VK → Prop) : Prop :=
  ∀ (pins : List (Addr × Obj)) (s : Shared) (σ : St) (H : Hp) (o i : V) (ov iv : Value) (Q : VK), Inv X pins σ H s → RelV o ov → RelV i iv → t o i H Q →
    wpAny (model X.prog X.w) X.A (getItem ov iv) (EP X pins σ Q) X.xe s
theorem ps_augS {o i e : Expr} {to ti te : TE} {tget : V → V → Hp → VK → Prop} {tip : TIp} {tset : TSet} {op : Operator} {tpos : Pos} (ho : PE X o to) (hi : PE X i ti) (hg : PGet X tget) (he : PE X e te) (hp : PIp X op tip) (hs : PSet X tset)
    (ha : ∀ ov iv new, augStore i ov iv new = (do holding [new, ov, iv] (setItem ov iv new); release [new, ov, iv] []; pure .next) := by intros; rfl) : PS X (.AugAssign (.Subscript o i tpos) op e pos) (tAugS to ti te tget tip tset) := by
  intro pins s σ H D I h
  refine wpAny_AugAssign_SubscriptAny (thn (ho pins s σ H _ I h) fun ov s1 ⟨x1, H1, I1, r1, q1⟩ => ?_) ha
  refine thn (hi pins s1 σ H1 _ I1 q1) fun iv s2 ⟨x2, H2, I2, r2, q2⟩ => ?_
  refine thn (hg pins s2 σ H2 x1 x2 ov iv _ I2 r1 r2 q2) fun old s3 ⟨x3, H3, I3, r3, q3⟩ => ?_
  refine thn (he pins s3 σ H3 _ I3 q3) fun v s4 ⟨x4, H4, I4, r4, q4⟩ => ?_
  refine thn (hp pins s4 σ H4 x3 x4 old v _ I4 r3 r4 q4) fun new s5 ⟨x5, H5, I5, r5, q5⟩ => ?_
  exact thn (hs pins s5 σ H5 x1 x2 x5 ov iv new _ I5 r1 r2 r5 q5) fun _ s6 ⟨H6, I6, q6⟩ => ⟨σ, H6, I6, q6⟩
def ipI (f : Int → Int → Int) : TIp := fun x y H Q => ∃ i j, x = .int i ∧ y = .int j ∧ Q (.int (f i j)) H
theorem ip_add : PIp X .Add (ipI fun i j => i + j) := by
  intro pins s σ H x y v u Q I r1 r2 h
  obtain ⟨i, j, e1, e2, q⟩ := h
  subst e1; subst e2
  obtain ⟨t, rfl⟩ := r1
  obtain ⟨t', rfl⟩ := r2
  exact iadd_int ⟨.int _, H, I.tok _, ⟨_, rfl⟩, q⟩
theorem ip_sub : PIp X .Sub (ipI fun i j => i - j) := by
  intro pins s σ H x y v u Q I r1 r2 h
  obtain ⟨i, j, e1, e2, q⟩ := h
  subst e1; subst e2
  obtain ⟨t, rfl⟩ := r1
  obtain ⟨t', rfl⟩ := r2
  exact isub_int ⟨.int _, H, I.tok _, ⟨_, rfl⟩, q⟩
end
section
variable {X : Cx} {pos : Pos}
def tWhile (c : TT) (tb : TS) : TS := fun D σ H => ∃ W : Nat → St → Hp → Prop, (∃ m, W m σ H) ∧ ∀ m σ H, W m σ H →
  c σ H fun b H1 => if b = true then ∃ N : St → Hp → Prop, (∀ σ' H', N σ' H' → ∃ m', m' < m ∧ W m' σ' H') ∧ tb { D with nx := N, ct := N, bk := D.nx } σ H1 else D.nx σ H1
theorem ps_while {c : Expr} {body : List Stmt} {tc : TT} {tb : TS} (hp : PassesOwn (model X.prog X.w) X.A X.env X.xe) (hc : PT X c tc) (hb : PSs X body tb) : PS X (.While c body [] pos) (tWhile tc tb) := by
  intro pins s σ H D I h
  obtain ⟨W, ⟨m0, w0⟩, turn⟩ := h
  refine wpAny_While (codeAny_whileLoop (fun n s' => ∃ σ' H', Inv X pins σ' H' s' ∧ W n σ' H') ?_ m0 ⟨σ, H, I, w0⟩)
  rintro n s1 ⟨σ1, H1, I1, w1⟩
  refine wpAny_passesOwn hp (thn (hc pins s1 σ1 H1 _ I1 (turn n σ1 H1 w1)) fun b s2 ⟨H2, I2, q2⟩ => ?_)
  cases b with
  | true =>
    obtain ⟨N, hN, q2⟩ := q2
    rw [if_pos rfl]
    refine wpAny_passesOwn hp (thn (hb pins s2 σ1 H2 _ I2 q2) fun f s3 q3 => ?_)
    cases f with
    | next =>
      obtain ⟨σ3, H3, I3, n3⟩ := q3
      obtain ⟨m', hm, w3⟩ := hN σ3 H3 n3
      exact ⟨m', hm, σ3, H3, I3, w3⟩
    | cont =>
      obtain ⟨σ3, H3, I3, n3⟩ := q3
      obtain ⟨m', hm, w3⟩ := hN σ3 H3 n3
      exact ⟨m', hm, σ3, H3, I3, w3⟩
    | brk => exact q3
    | ret v => exact q3
  | false =>
    rw [if_neg Bool.false_ne_true]
    exact wpAny_execs_nil ⟨σ1, H2, I2, q2⟩
end
structure It where
  go : Nat → Hp → Prop
  yld : Nat → Hp → V → Hp → Prop
  stop : Nat → Hp → Prop
def FpOk (X : Cx) (pins : List (Addr × Obj)) (H : Hp) (b : Addr) : Prop :=
  H b = none ∧ b ≠ X.env.locals ∧ b ∉ X.fs ∧ (b ∈ X.ex ∨ X.s₀.heap.objs.size ≤ b) ∧ (∀ x c, X.env.cells.lookup x = some c → c ≠ b) ∧ ∀ p ∈ X.pn ++ pins, p.1 ≠ b
theorem Inv.fpOk {X : Cx} {pins : List (Addr × Obj)} {σ : St} {H H' : Hp} {s : Shared} {b : Addr} (I : Inv X pins σ H s) (hb : s.heap.objs.size ≤ b) (hn : H' b = none) : FpOk X pins H' b := by
  refine ⟨hn, Nat.ne_of_gt (Nat.lt_of_lt_of_le I.lt hb), I.nofs hb, .inr (Nat.le_trans I.sz hb), fun x c e z => ?_, fun p hp z => ?_⟩
  · obtain ⟨v, q⟩ := I.cell x c e
    exact absurd (Nat.lt_of_lt_of_le q.lt (by rw [z]; exact hb)) (Nat.lt_irrefl _)
  · exact absurd (Nat.lt_of_lt_of_le (Heap.lt_size (I.pin p hp).1) (by rw [z]; exact hb)) (Nat.lt_irrefl _)
structure Turn (P : Program) (w : World) (K : PySem.W.Frag) (tg : Expr) (J : It) (fp : List Addr) (it : Addr) (tn : Nat → Heap → Prop) : Prop where
  mem : it ∈ fp
  obj : ∀ i h, tn i h → ∀ b ∈ fp, ∃ o, h.get? b = some o ∧ ∀ v, o.data ≠ .cell v
  keep : ∀ i h h', tn i h → (∀ b ∈ fp, ∀ o, h.get? b = some o → h'.get? b = some o) → tn i h'
  item : ∀ (X : Cx), X.prog = P → X.w = w → X.K = K → X.calm = true → ∀ (i : Nat) (pins : List (Addr × Obj)) (s : Shared) (σ : St) (H : Hp) (E : Value → Shared → Prop), Inv X pins σ H s → (∀ b ∈ fp, FpOk X pins H b) → tn i s.heap → J.go i H →
    wpAny (model P w) X.A (pyNext (.ref it)) (fun r s1 => ∃ u, r = some u ∧
      wpAny (model P w) X.A (letOwnedTupleGo tg (.ref it) u) (fun _ s2 => ∃ x H', Inv X pins σ H' s2 ∧ RelV x u ∧ J.yld i H x H' ∧ tn (i + 1) s2.heap ∧ ∀ b ∈ fp, H' b = none) E s1) E s
  done : ∀ (X : Cx), X.prog = P → X.w = w → X.K = K → X.calm = true → ∀ (i : Nat) (pins : List (Addr × Obj)) (s : Shared) (σ : St) (H : Hp) (E : Value → Shared → Prop), Inv X pins σ H s → (∀ b ∈ fp, FpOk X pins H b) → tn i s.heap → J.stop i H →
    wpAny (model P w) X.A (pyNext (.ref it)) (fun r s1 => r = none ∧ Inv X pins σ H s1) E s
  self : ∀ (A : Around) (i : Nat) (s : Shared) (Q : Value → Shared → Prop) (E : Value → Shared → Prop), tn i s.heap → Q (.ref it) s → wpAny (model P w) A (pyIter (.ref it)) Q E s
abbrev TI := St → Hp → (It → Hp → Prop) → Prop
def PIE (X : Cx) (pins : List (Addr × Obj)) (σ : St) (tg : Expr) (R : It → Hp → Prop) (itv : Value) (s2 : Shared) : Prop :=
  ∃ (it : Addr) (fp : List Addr) (tn : Nat → Heap → Prop) (J : It) (H' : Hp), itv = .ref it ∧ Inv X pins σ H' s2 ∧ Turn X.prog X.w X.K tg J fp it tn ∧ tn 0 s2.heap ∧ (∀ b ∈ fp, FpOk X pins H' b) ∧ R J H'
def PI (X : Cx) (tg iter : Expr) (wi : TI) : Prop :=
  ∀ (pins : List (Addr × Obj)) (s : Shared) (σ : St) (H : Hp) (R : It → Hp → Prop), Inv X pins σ H s → wi σ H R →
    wpAny (model X.prog X.w) X.A (eval iter X.env) (fun v s1 => wpAny (model X.prog X.w) X.A (pyIter v) (PIE X pins σ tg R) X.xe s1) X.xe s
theorem go_of {M : Model} {A : Around} {E : Value → Shared → Prop} {s : Shared} {tg : Expr} {it : Addr} {u : Value} {o : Obj} {n : String} {vs : Array Value} {Q : Unit → Shared → Prop} (ho : s.heap.get? it = some o) (hc : o.cls = .type n) (hd : o.data = .fields vs)
    (hn : ["enumerate", "zip", "dict_itemiterator", "dict_reverseitemiterator", "odict_iterator", "itertools.zip_longest", "itertools.pairwise"].contains n = false) (hQ : Q () s) : wpAny M A (letOwnedTupleGo tg (.ref it) u) Q E s := by
  unfold letOwnedTupleGo
  cases tg <;> first
    | exact wpAny_pure hQ
    | (cases u <;> first
        | exact wpAny_pure hQ
        | (refine wpAny_bind (wpAny_load ho ?_)
           rw [hc, hd]
           show wpAny M A (if (["enumerate", "zip", "dict_itemiterator", "dict_reverseitemiterator", "odict_iterator", "itertools.zip_longest", "itertools.pairwise"].contains n && vs[0]? == some (rawInt _)) = true then _ else _) Q E s
           rw [if_neg (by intro h; rw [hn, Bool.false_and] at h; cases h)]
           exact wpAny_pure hQ))
def Itl (K : PySem.W.Frag) (a : Addr) : It :=
  ⟨fun i H => ∃ xs x, SqL K H a xs ∧ xs[i]? = some x, fun i H x H' => H' = H ∧ ∀ xs, SqL K H a xs → xs[i]? = some x, fun i H => ∃ xs, SqL K H a xs ∧ xs.length ≤ i⟩
def Itt (K : PySem.W.Frag) (a : Addr) : It :=
  ⟨fun i H => ∃ xs x, SqT K H a xs ∧ xs[i]? = some x, fun i H x H' => H' = H ∧ ∀ xs, SqT K H a xs → xs[i]? = some x, fun i H => ∃ xs, SqT K H a xs ∧ xs.length ≤ i⟩
def Itr (lo : Int) (n : Nat) : It := ⟨fun i _ => i < n, fun i H x H' => H' = H ∧ x = .int (lo + i), fun i _ => n ≤ i⟩
theorem turn_list {P : Program} {w : World} {K : PySem.W.Frag} {tg : Expr} (a it : Addr) : Turn P w K tg (Itl K a) [it] it (fun i h => h.IsListIter it a i) where
  mem := by simp
  obj := fun i h st b hb => by
    have e : b = it := by simpa using hb
    subst e
    obtain ⟨o, e, c, d⟩ := st
    exact ⟨o, e, fun v z => by rw [d] at z; cases z⟩
  keep := fun i h h' st k => st.at fun o e => k it (by simp) o e
  item := by
    intro X hP hw hK hc i pins s σ H E I hf st hg
    subst hP hw hK
    obtain ⟨xs, x, hq, hx⟩ := hg
    obtain ⟨its, rv, p, hz⟩ := I.list hq
    obtain ⟨u, hu, ru⟩ := rv.get hx
    obtain ⟨f0, f1, f2, f3, f4, f5⟩ := hf it (by simp)
    refine wpAny_pyNext_list_item st p.isList (x := u) (by simpa using hu) fun h' st' sb => ?_
    have I1 : Inv X pins σ H { s with heap := h' } := I.turned (t' := s.toks) (fun b o hb e => (sb.2 b hb).trans e) f0 f1 f3 f4 f5
    obtain ⟨o, e, c, d⟩ := id st'
    exact ⟨u, rfl, go_of (s := { s with heap := h' }) e c d (by decide) ⟨x, H, I1, ru, ⟨rfl, fun ys hy => by rw [I.list_inj hy hq]; exact hx⟩, st', fun b hb => (hf b hb).1⟩⟩
  done := by
    intro X hP hw hK hc i pins s σ H E I hf st hg
    subst hP hw hK
    obtain ⟨xs, hq, hx⟩ := hg
    obtain ⟨its, rv, p, hz⟩ := I.list hq
    obtain ⟨f0, f1, f2, f3, f4, f5⟩ := hf it (by simp)
    have hl := rv.length
    exact wpAny_pyNext_list_end (I.ok.hd hc) st p.isList (by simp; omega) fun h' eb => ⟨rfl, I.turned (t' := s.toks) (fun b o hb e => eb b o hb e) f0 f1 f3 f4 f5⟩
  self := fun _ _ _ _ _ st h => wpAny_pyIter_listiter st h
theorem turn_tuple {P : Program} {w : World} {K : PySem.W.Frag} {tg : Expr} (a it : Addr) : Turn P w K tg (Itt K a) [it] it (fun i h => h.IsTupleIter it a i) where
  mem := by simp
  obj := fun i h st b hb => by
    have e : b = it := by simpa using hb
    subst e
    obtain ⟨o, e, c, d⟩ := st
    exact ⟨o, e, fun v z => by rw [d] at z; cases z⟩
  keep := fun i h h' st k => st.at fun o e => k it (by simp) o e
  item := by
    intro X hP hw hK hc i pins s σ H E I hf st hg
    subst hP hw hK
    obtain ⟨xs, x, hq, hx⟩ := hg
    obtain ⟨its, rv, p, hz⟩ := I.tuple hq
    obtain ⟨u, hu, ru⟩ := rv.get hx
    obtain ⟨f0, f1, f2, f3, f4, f5⟩ := hf it (by simp)
    refine wpAny_pyNext_tuple_item st (show s.heap.IsTuple a its.toArray from p) (x := u) (by simpa using hu) fun h' st' sb => ?_
    have I1 : Inv X pins σ H { s with heap := h' } := I.turned (t' := s.toks) (fun b o hb e => (sb.2 b hb).trans e) f0 f1 f3 f4 f5
    obtain ⟨o, e, c, d⟩ := id st'
    exact ⟨u, rfl, go_of (s := { s with heap := h' }) e c d (by decide) ⟨x, H, I1, ru, ⟨rfl, fun ys hy => by rw [I.tuple_inj hy hq]; exact hx⟩, st', fun b hb => (hf b hb).1⟩⟩
  done := by
    intro X hP hw hK hc i pins s σ H E I hf st hg
    subst hP hw hK
    obtain ⟨xs, hq, hx⟩ := hg
    obtain ⟨its, rv, p, hz⟩ := I.tuple hq
    obtain ⟨f0, f1, f2, f3, f4, f5⟩ := hf it (by simp)
    have hl := rv.length
    exact wpAny_pyNext_tuple_end (I.ok.hd hc) st (show s.heap.IsTuple a its.toArray from p) (by simp; omega) fun h' eb => ⟨rfl, I.turned (t' := s.toks) (fun b o hb e => eb b o hb e) f0 f1 f3 f4 f5⟩
  self := fun _ _ _ _ _ st h => wpAny_pyIter_tupleiter st h
theorem turn_range {P : Program} {w : World} {K : PySem.W.Frag} {tg : Expr} (it : Addr) (lo : Int) (n : Nat) : Turn P w K tg (Itr lo n) [it] it (fun i h => IsRangeIter h it (lo + (i : Nat) * 1) ((n : Int) - (i : Nat)) 1) where
  mem := by simp
  obj := fun i h st b hb => by
    have e : b = it := by simpa using hb
    subst e
    exact ⟨_, st, fun v z => by
      have z' : Data.fields _ = Data.cell v := z
      cases z'⟩
  keep := fun i h h' st k => k it (by simp) _ st
  item := by
    intro X hP hw hK hc i pins s σ H E I hf st hg
    subst hP hw hK
    obtain ⟨f0, f1, f2, f3, f4, f5⟩ := hf it (by simp)
    have W := Walks.range (prog := X.prog) (w := X.w) (I.ok.hd hc) it lo 1 n
    refine W.item i s _ _ hg st fun v h' tk hv st' kk => ?_
    obtain ⟨t, rfl⟩ := hv
    have I1 : Inv X pins σ H { s with heap := h', toks := tk } := I.turned (fun b o hb e => kk b o (by simpa using hb) e) f0 f1 f3 f4 f5
    refine ⟨_, rfl, go_of (s := { s with heap := h', toks := tk }) (n := "range_iterator") st' rfl rfl (by decide) ⟨.int (lo + i), H, I1, ⟨t, ?_⟩, ⟨rfl, rfl⟩, st', fun b hb => (hf b hb).1⟩⟩
    rw [Int.mul_one]
  done := by
    intro X hP hw hK hc i pins s σ H E I hf st hg
    subst hP hw hK
    obtain ⟨f0, f1, f2, f3, f4, f5⟩ := hf it (by simp)
    exact wpAny_pyNext_range_end (I.ok.hd hc) st (by have : n ≤ i := hg; omega) fun h' eb => ⟨rfl, I.turned (t' := s.toks) (fun b o hb e => eb b o hb e) f0 f1 f3 f4 f5⟩
  self := fun _ _ _ _ _ st h => wpAny_pyIter_rangeiter st h
end L2
namespace L2
open PySem PySem.Spec PyProof.Rows
section
variable {X : Cx} {tg : Expr}
def iList (K : PySem.W.Frag) (tl : TE) : TI := fun σ H R => tl σ H fun x H1 => ∃ a, x = .ref a ∧ (∃ xs, SqL K H1 a xs) ∧ R (Itl K a) H1
def iTup (K : PySem.W.Frag) (tl : TE) : TI := fun σ H R => tl σ H fun x H1 => ∃ a, x = .ref a ∧ (∃ xs, SqT K H1 a xs) ∧ R (Itt K a) H1
theorem pi_list {l : Expr} {tl : TE} (hl : PE X l tl) : PI X tg l (iList X.K tl) := by
  intro pins s σ H R I h
  refine thn (hl pins s σ H _ I h) fun v s1 ⟨x, H1, I1, r1, q1⟩ => ?_
  obtain ⟨a, e, ⟨xs, hq⟩, q⟩ := q1
  subst e
  cases r1
  obtain ⟨its, rv, p, hz⟩ := I1.list hq
  refine wpAny_pyIter_list p.isList ?_
  refine ⟨s1.heap.objs.size, [s1.heap.objs.size], _, _, H1, rfl, I1.kept (t' := s1.toks) fun b o e => Heap.get?_push_of_some _ e, turn_list a _, ⟨_, Heap.get?_push_size _ rfl, rfl, rfl⟩, fun b hb => ?_, q⟩
  have e : b = s1.heap.objs.size := by simpa using hb
  subst e
  exact I1.fpOk (Nat.le_refl _) (I1.hok.fresh (Nat.le_refl _))
theorem pi_tup {l : Expr} {tl : TE} (hl : PE X l tl) : PI X tg l (iTup X.K tl) := by
  intro pins s σ H R I h
  refine thn (hl pins s σ H _ I h) fun v s1 ⟨x, H1, I1, r1, q1⟩ => ?_
  obtain ⟨a, e, ⟨xs, hq⟩, q⟩ := q1
  subst e
  cases r1
  obtain ⟨its, rv, p, hz⟩ := I1.tuple hq
  refine wpAny_pyIter_tuple (show s1.heap.IsTuple a its.toArray from p) ?_
  refine ⟨s1.heap.objs.size, [s1.heap.objs.size], _, _, H1, rfl, I1.kept (t' := s1.toks) fun b o e => Heap.get?_push_of_some _ e, turn_tuple a _, ⟨_, Heap.get?_push_size _ rfl, rfl, rfl⟩, fun b hb => ?_, q⟩
  have e : b = s1.heap.objs.size := by simpa using hb
  subst e
  exact I1.fpOk (Nat.le_refl _) (I1.hok.fresh (Nat.le_refl _))
theorem range_it {pins : List (Addr × Obj)} {σ : St} {H : Hp} {s : Shared} {R : It → Hp → Prop} {E : Value → Shared → Prop} {lo hi : Int} {t u v : Tok} {tk : Nat} (I : Inv X pins σ H s) (h1 : -(2 ^ 62) ≤ lo) (h2 : lo < 2 ^ 62) (h3 : -(2 ^ 62) ≤ hi) (h4 : hi < 2 ^ 62)
    (q : R (Itr lo (hi - lo).toNat) H) : wpAny (model X.prog X.w) X.A (pyIter (.ref s.heap.objs.size)) (PIE X pins σ tg R) E { s with heap := s.heap.push { cls := .type "range", data := .fields #[.int lo t, .int hi u, .int 1 v] }, toks := tk } := by
  refine wpAny_pyIter_range (IsRange.new ..) (small_one h1 h2 h3 h4) ?_
  have I1 : Inv X pins σ H { s with heap := s.heap.push { cls := .type "range", data := .fields #[.int lo t, .int hi u, .int 1 v] }, toks := tk } := I.kept fun b o e => Heap.get?_push_of_some _ e
  refine ⟨(s.heap.push { cls := .type "range", data := .fields #[.int lo t, .int hi u, .int 1 v] }).objs.size, [(s.heap.push { cls := .type "range", data := .fields #[.int lo t, .int hi u, .int 1 v] }).objs.size], _, _, H, rfl,
    I1.kept (t' := tk) fun b o e => Heap.get?_push_of_some _ e, turn_range _ lo (hi - lo).toNat, ?_, fun b hb => ?_, q⟩
  · have e1 : lo + ((0 : Nat) : Int) * 1 = lo := by simp
    have e2 : (((hi - lo).toNat : Nat) : Int) - ((0 : Nat) : Int) = Builtin.Range.rangeSize lo hi 1 := by rw [rangeSize_one]; split <;> omega
    show IsRangeIter _ _ (lo + ((0 : Nat) : Int) * 1) ((((hi - lo).toNat : Nat) : Int) - ((0 : Nat) : Int)) 1
    rw [e1, e2]
    exact Heap.get?_push_size _ rfl
  · have e : b = (s.heap.push { cls := .type "range", data := .fields #[.int lo t, .int hi u, .int 1 v] }).objs.size := by simpa using hb
    subst e
    exact I1.fpOk (Nat.le_refl _) (I1.hok.fresh (Nat.le_refl _))
def iRng1 (ta : TA) : TI := fun σ H R => ta σ H fun vs H1 => ∃ j : Int, vs = [.int j] ∧ -(2 ^ 62) ≤ j ∧ j < 2 ^ 62 ∧ R (Itr 0 j.toNat) H1
def iRng2 (ta : TA) : TI := fun σ H R => ta σ H fun vs H1 => ∃ i j : Int, vs = [.int i, .int j] ∧ (-(2 ^ 62) ≤ i ∧ i < 2 ^ 62 ∧ -(2 ^ 62) ≤ j ∧ j < 2 ^ 62) ∧ R (Itr i (j - i).toNat) H1
theorem pi_range1 {a : Expr} {ta : TA} {p pos : Pos} (hg : Gl X "range") (hm : X.mg "range" = none) (ha : PA X [a] ta) (hs : starEach [a] X.env = [(false, eval a X.env)] := by rfl) : PI X tg (.Call (.Name "range" p) [a] [] pos) (iRng1 ta) := by
  intro pins s σ H R I h
  refine Call_ (ld_blt I hg hm boot_range (PyProof.Rows.callWith_type1 (thn (ha pos pins s σ H _ I h) fun us s1 ⟨vs, H1, I1, r1, q1⟩ => ?_) hs rfl))
  obtain ⟨j, e, q1, q2, q⟩ := q1
  subst e
  cases r1 with
  | cons r rr =>
    cases rr
    obtain ⟨t, rfl⟩ := r
    exact call_range_1 (range_it I1 (by omega) (by omega) q1 q2 (by simpa using q))
theorem pi_range2 {a b : Expr} {ta : TA} {p pos : Pos} (hg : Gl X "range") (hm : X.mg "range" = none) (ha : PA X [a, b] ta) (hs : starEach [a, b] X.env = [(false, eval a X.env), (false, eval b X.env)] := by rfl) (hs2 : starEach [b] X.env = [(false, eval b X.env)] := by rfl) :
    PI X tg (.Call (.Name "range" p) [a, b] [] pos) (iRng2 ta) := by
  intro pins s σ H R I h
  refine Call_ (ld_blt I hg hm boot_range (PyProof.Rows.callWith_type1 (thn (ha pos pins s σ H _ I h) fun us s1 ⟨vs, H1, I1, r1, q1⟩ => ?_) (by rw [hs, hs2]) (by rw [hs2]; rfl)))
  obtain ⟨i, j, e, ⟨q1, q2, q3, q4⟩, q⟩ := q1
  subst e
  cases r1 with
  | cons r rr =>
    cases rr with
    | cons r' rr =>
      cases rr
      obtain ⟨t, rfl⟩ := r
      obtain ⟨t', rfl⟩ := r'
      exact call_range_2 (range_it I1 q1 q2 q3 q4 q)
def tFor (wi : TI) (g : TG) (tb : TS) : TS := fun D σ H => wi σ H fun J H1 => ∃ W : Nat → Nat → St → Hp → Prop, (∃ m, W 0 m σ H1) ∧ ∀ i m σ H, W i m σ H →
  (J.stop i H ∧ D.nx σ H) ∨ (J.go i H ∧ ∃ N : St → Hp → Prop, (∀ σ' H', N σ' H' → ∃ m', m' < m ∧ W (i + 1) m' σ' H') ∧ ∀ x H', J.yld i H x H' → g x σ H' fun σ2 H2 => tb { D with nx := N, ct := N, bk := D.nx } σ2 H2)
def pinsAt (fp : List Addr) (h : Heap) : List (Addr × Obj) := fp.filterMap fun b => (h.get? b).map fun o => (b, o)
theorem mem_pinsAt {fp : List Addr} {h : Heap} {b : Addr} {o : Obj} (hb : b ∈ fp) (e : h.get? b = some o) : (b, o) ∈ pinsAt fp h := List.mem_filterMap.mpr ⟨b, hb, by rw [e]; rfl⟩
theorem of_pinsAt {fp : List Addr} {h : Heap} {p : Addr × Obj} (hp : p ∈ pinsAt fp h) : p.1 ∈ fp ∧ h.get? p.1 = some p.2 := by
  obtain ⟨b, hb, e⟩ := List.mem_filterMap.mp hp
  cases q : h.get? b with
  | none => rw [q] at e; cases e
  | some o =>
    rw [q] at e
    have e' : (b, o) = p := Option.some.inj e
    subst e'
    exact ⟨hb, q⟩
theorem Inv.pinned {pins : List (Addr × Obj)} {σ : St} {H : Hp} {s : Shared} {fp : List Addr} (I : Inv X pins σ H s) (hf : ∀ b ∈ fp, FpOk X pins H b) (ho : ∀ b ∈ fp, ∃ o, s.heap.get? b = some o ∧ ∀ v, o.data ≠ .cell v) : Inv X (pins ++ pinsAt fp s.heap) σ H s :=
  I.pins_of fun p hp => (List.mem_append.mp hp).elim (fun z => I.pin p (List.mem_append_right _ z)) fun z => by
    obtain ⟨hb, e⟩ := of_pinsAt z
    obtain ⟨f0, f1, f2, _⟩ := hf p.1 hb
    obtain ⟨o, e', d⟩ := ho p.1 hb
    rw [e] at e'; cases e'
    exact ⟨e, f0, f1, f2, d⟩
theorem Inv.unpinned {pins pl : List (Addr × Obj)} {σ : St} {H : Hp} {s : Shared} (I : Inv X (pins ++ pl) σ H s) : Inv X pins σ H s := I.pins_of fun p hp => I.pin p (List.mem_append_right _ (List.mem_append_left _ hp))
theorem ps_for {iter : Expr} {body : List Stmt} {wi : TI} {g : TG} {tb : TS} {pos : Pos} (hp : PassesOwn (model X.prog X.w) X.A X.env X.xe) (hc : X.calm = true) (hi : PI X tg iter wi) (hg : PG X tg g) (hb : PSs X body tb)
    (hs : ∀ x, foldedSetIterable iter X.env x = pure x := by intro _; rfl) : PS X (.For tg iter body [] pos) (tFor wi g tb) := by
  intro pins s σ H D I h
  refine wpAny_For (thn (hi pins s σ H _ I h) fun v s1 h1 => thn h1 fun itv s2 h2 => ?_) hs
  obtain ⟨it, fp, tn, J, H2, e, I2, T, st2, f2, W, ⟨m0, w0⟩, turn⟩ := h2
  subst e
  have stat : ∀ {H' : Hp}, (∀ b ∈ fp, H' b = none) → ∀ b ∈ fp, FpOk X pins H' b := fun hn b hb => ⟨hn b hb, (f2 b hb).2⟩
  refine codeAny_forLoop_any (fun n s' => ∃ i σ' H', Inv X pins σ' H' s' ∧ tn i s'.heap ∧ (∀ b ∈ fp, H' b = none) ∧ W i n σ' H') ?_ m0 ⟨0, σ, H2, I2, st2, fun b hb => (f2 b hb).1, w0⟩
  rintro n s3 ⟨i, σ3, H3, I3, st3, fr3, w3⟩
  rcases turn i n σ3 H3 w3 with ⟨stop, qn⟩ | ⟨go, N, hN, step⟩
  · refine wpAny_passesOwn hp (thn (T.done X rfl rfl rfl hc i pins s3 σ3 H3 X.xe I3 (stat fr3) st3 stop) fun r s4 ⟨hr, I4⟩ => ?_)
    subst hr
    exact wpAny_execs_nil ⟨σ3, H3, I4, qn⟩
  · refine wpAny_passesOwn hp (thn (T.item X rfl rfl rfl hc i pins s3 σ3 H3 X.xe I3 (stat fr3) st3 go) fun r s4 ⟨u, hr, h4⟩ => ?_)
    subst hr
    refine wpAny_passesOwn hp (thn h4 fun _ s5 ⟨x, H5, I5, r5, y5, st5, fr5⟩ => ?_)
    have I5' := I5.pinned (stat fr5) (T.obj _ _ st5)
    refine wpAny_passesOwn hp (thn (hg _ s5 σ3 H5 x u _ I5' r5 (step x H5 y5)) fun _ s6 ⟨σ6, H6, I6, q6⟩ => ?_)
    refine wpAny_passesOwn hp (thn (hb _ s6 σ6 H6 _ I6 q6) fun f s7 q7 => ?_)
    have again : ∀ {σ7 : St} {H7 : Hp}, Inv X (pins ++ pinsAt fp s5.heap) σ7 H7 s7 → N σ7 H7 → ∃ m, m < n ∧ ∃ i σ' H', Inv X pins σ' H' s7 ∧ tn i s7.heap ∧ (∀ b ∈ fp, H' b = none) ∧ W i m σ' H' := fun {σ7 H7} I7 n7 => by
      obtain ⟨m', hm, w7⟩ := hN σ7 H7 n7
      refine ⟨m', hm, i + 1, σ7, H7, I7.unpinned, T.keep _ _ _ st5 fun b hb o e => (I7.pin (b, o) (List.mem_append_right _ (List.mem_append_right _ (mem_pinsAt hb e)))).1, fun b hb => ?_, w7⟩
      obtain ⟨o, e, d⟩ := T.obj _ _ st5 b hb
      exact (I7.pin (b, o) (List.mem_append_right _ (List.mem_append_right _ (mem_pinsAt hb e)))).2.1
    cases f with
    | next => obtain ⟨σ7, H7, I7, n7⟩ := q7; exact again I7 n7
    | cont => obtain ⟨σ7, H7, I7, n7⟩ := q7; exact again I7 n7
    | brk => obtain ⟨σ7, H7, I7, q7⟩ := q7; exact ⟨σ7, H7, I7.unpinned, q7⟩
    | ret v => obtain ⟨x7, σ7, H7, I7, r7, q7⟩ := q7; exact ⟨x7, σ7, H7, I7.unpinned, r7, q7⟩
end
theorem for_list {K : PySem.W.Frag} {a : Addr} {xs : List V} {g : TG} {tb : TS} {D : Ends} {σ : St} {H : Hp} (Pv : Nat → St → Hp → Prop) (h0 : Pv 0 σ H) (hl : ∀ i σ H, i ≤ xs.length → Pv i σ H → SqL K H a xs)
    (hs : ∀ i x σ H, xs[i]? = some x → Pv i σ H → g x σ H fun σ2 H2 => tb { D with nx := Pv (i + 1), ct := Pv (i + 1), bk := D.nx } σ2 H2) (hd : ∀ σ H, Pv xs.length σ H → D.nx σ H) :
    ∃ W : Nat → Nat → St → Hp → Prop, (∃ m, W 0 m σ H) ∧ ∀ i m σ H, W i m σ H →
      ((Itl K a).stop i H ∧ D.nx σ H) ∨ ((Itl K a).go i H ∧ ∃ N : St → Hp → Prop, (∀ σ' H', N σ' H' → ∃ m', m' < m ∧ W (i + 1) m' σ' H') ∧ ∀ x H', (Itl K a).yld i H x H' → g x σ H' fun σ2 H2 => tb { D with nx := N, ct := N, bk := D.nx } σ2 H2) := by
  refine ⟨fun i m σ H => m = xs.length - i ∧ i ≤ xs.length ∧ Pv i σ H, ⟨xs.length, by simp, Nat.zero_le _, h0⟩, ?_⟩
  rintro i m σ H ⟨rfl, hi, p⟩
  have q := hl i σ H hi p
  by_cases hlt : i < xs.length
  · refine .inr ⟨⟨xs, xs[i], q, by simp [hlt]⟩, Pv (i + 1), fun σ' H' p' => ⟨xs.length - (i + 1), by omega, rfl, hlt, p'⟩, fun x H' y => ?_⟩
    obtain ⟨e, y⟩ := y
    subst e
    exact hs i x σ _ (y xs q) p
  · have e : i = xs.length := by omega
    subst e
    exact .inl ⟨⟨xs, q, Nat.le_refl _⟩, hd σ H p⟩
theorem for_tup {K : PySem.W.Frag} {a : Addr} {xs : List V} {g : TG} {tb : TS} {D : Ends} {σ : St} {H : Hp} (Pv : Nat → St → Hp → Prop) (h0 : Pv 0 σ H) (hl : ∀ i σ H, i ≤ xs.length → Pv i σ H → SqT K H a xs)
    (hs : ∀ i x σ H, xs[i]? = some x → Pv i σ H → g x σ H fun σ2 H2 => tb { D with nx := Pv (i + 1), ct := Pv (i + 1), bk := D.nx } σ2 H2) (hd : ∀ σ H, Pv xs.length σ H → D.nx σ H) :
    ∃ W : Nat → Nat → St → Hp → Prop, (∃ m, W 0 m σ H) ∧ ∀ i m σ H, W i m σ H →
      ((Itt K a).stop i H ∧ D.nx σ H) ∨ ((Itt K a).go i H ∧ ∃ N : St → Hp → Prop, (∀ σ' H', N σ' H' → ∃ m', m' < m ∧ W (i + 1) m' σ' H') ∧ ∀ x H', (Itt K a).yld i H x H' → g x σ H' fun σ2 H2 => tb { D with nx := N, ct := N, bk := D.nx } σ2 H2) := by
  refine ⟨fun i m σ H => m = xs.length - i ∧ i ≤ xs.length ∧ Pv i σ H, ⟨xs.length, by simp, Nat.zero_le _, h0⟩, ?_⟩
  rintro i m σ H ⟨rfl, hi, p⟩
  have q := hl i σ H hi p
  by_cases hlt : i < xs.length
  · refine .inr ⟨⟨xs, xs[i], q, by simp [hlt]⟩, Pv (i + 1), fun σ' H' p' => ⟨xs.length - (i + 1), by omega, rfl, hlt, p'⟩, fun x H' y => ?_⟩
    obtain ⟨e, y⟩ := y
    subst e
    exact hs i x σ _ (y xs q) p
  · have e : i = xs.length := by omega
    subst e
    exact .inl ⟨⟨xs, q, Nat.le_refl _⟩, hd σ H p⟩
theorem for_range {lo : Int} {n : Nat} {g : TG} {tb : TS} {D : Ends} {σ : St} {H : Hp} (Pv : Nat → St → Hp → Prop) (h0 : Pv 0 σ H)
    (hs : ∀ i σ H, i < n → Pv i σ H → g (.int (lo + i)) σ H fun σ2 H2 => tb { D with nx := Pv (i + 1), ct := Pv (i + 1), bk := D.nx } σ2 H2) (hd : ∀ σ H, Pv n σ H → D.nx σ H) :
    ∃ W : Nat → Nat → St → Hp → Prop, (∃ m, W 0 m σ H) ∧ ∀ i m σ H, W i m σ H →
      ((Itr lo n).stop i H ∧ D.nx σ H) ∨ ((Itr lo n).go i H ∧ ∃ N : St → Hp → Prop, (∀ σ' H', N σ' H' → ∃ m', m' < m ∧ W (i + 1) m' σ' H') ∧ ∀ x H', (Itr lo n).yld i H x H' → g x σ H' fun σ2 H2 => tb { D with nx := N, ct := N, bk := D.nx } σ2 H2) := by
  refine ⟨fun i m σ H => m = n - i ∧ i ≤ n ∧ Pv i σ H, ⟨n, by simp, Nat.zero_le _, h0⟩, ?_⟩
  rintro i m σ H ⟨rfl, hi, p⟩
  by_cases hlt : i < n
  · refine .inr ⟨hlt, Pv (i + 1), fun σ' H' p' => ⟨n - (i + 1), by omega, rfl, hlt, p'⟩, fun x H' y => ?_⟩
    obtain ⟨e, y⟩ := y
    subst e y
    exact hs i σ _ hlt p
  · have e : i = n := by omega
    subst e
    exact .inl ⟨Nat.le_refl _, hd σ H p⟩
theorem while_by {c : TT} {tb : TS} {D : Ends} {σ : St} {H : Hp} (Pv : St → Hp → Prop) (μ : St → Hp → Nat) (h0 : Pv σ H)
    (hs : ∀ σ H, Pv σ H → c σ H fun b H1 => if b = true then tb { D with nx := fun σ' H' => Pv σ' H' ∧ μ σ' H' < μ σ H, ct := fun σ' H' => Pv σ' H' ∧ μ σ' H' < μ σ H, bk := D.nx } σ H1 else D.nx σ H1)
    (mono : ∀ σ H Q Q', (∀ b H1, Q b H1 → Q' b H1) → c σ H Q → c σ H Q') : tWhile c tb D σ H := by
  refine ⟨fun m σ H => m = μ σ H ∧ Pv σ H, ⟨_, rfl, h0⟩, ?_⟩
  rintro m σ H ⟨rfl, p⟩
  refine mono σ H _ _ (fun b H1 q => ?_) (hs σ H p)
  cases b with
  | true => exact ⟨_, fun σ' H' ⟨p', l⟩ => ⟨_, l, rfl, p'⟩, q⟩
  | false => exact q
end L2
namespace L2
open PySem PySem.Spec PyProof.Rows
abbrev R2 := V → V → Hp → VK → Prop
def OpR (X : Cx) (f : Value → Value → Sem Value) (r : R2) : Prop :=
  ∀ (pins : List (Addr × Obj)) (s : Shared) (σ : St) (H : Hp) (x y : V) (v u : Value) (Q : VK), Inv X pins σ H s → RelV x v → RelV y u → r x y H Q →
    wpAny (model X.prog X.w) X.A (f v u) (EP X pins σ Q) X.xe s
def UnR (X : Cx) (f : Value → Sem Value) (r : V → Hp → VK → Prop) : Prop :=
  ∀ (pins : List (Addr × Obj)) (s : Shared) (σ : St) (H : Hp) (x : V) (v : Value) (Q : VK), Inv X pins σ H s → RelV x v → r x H Q →
    wpAny (model X.prog X.w) X.A (f v) (EP X pins σ Q) X.xe s
def CallR (X : Cx) (f : Value) (r : List V → Hp → VK → Prop) : Prop :=
  ∀ (pins : List (Addr × Obj)) (s : Shared) (σ : St) (H : Hp) (xs : List V) (us : List Value) (Q : VK), Inv X pins σ H s → Vals xs us → r xs H Q →
    wpAny (model X.prog X.w) X.A (call f us) (EP X pins σ Q) X.xe s
def TruR (X : Cx) (r : V → Hp → (Bool → Hp → Prop) → Prop) : Prop :=
  ∀ (pins : List (Addr × Obj)) (s : Shared) (σ : St) (H : Hp) (x : V) (v : Value) (Q : Bool → Hp → Prop), Inv X pins σ H s → RelV x v → r x H Q →
    wpAny (model X.prog X.w) X.A (truthy v) (TP X pins σ Q) X.xe s
def tOp (r : R2) (ta tb : TE) : TE := fun σ H Q => ta σ H fun x H1 => tb σ H1 fun y H2 => r x y H2 Q
def tUn (r : V → Hp → VK → Prop) (ta : TE) : TE := fun σ H Q => ta σ H fun x H1 => r x H1 Q
def rI (C : Int → Int → Prop) (g : Int → Int → V) : R2 := fun x y H Q => ∃ i j, x = .int i ∧ y = .int j ∧ C i j ∧ Q (g i j) H
def rI0 (g : Int → Int → V) : R2 := fun x y H Q => ∃ i j, x = .int i ∧ y = .int j ∧ Q (g i j) H
def rU (g : Int → V) : V → Hp → VK → Prop := fun x H Q => ∃ i, x = .int i ∧ Q (g i) H
section
variable {X : Cx} {a b c : Expr} {ta tb tc : TE} {pos : Pos}
theorem binT (ha : PE X a ta) (hb : PE X b tb) {pins : List (Addr × Obj)} {s : Shared} {σ : St} {H : Hp} {R : V → V → Hp → Prop} (I : Inv X pins σ H s)
    (h : ta σ H fun x H1 => tb σ H1 fun y H2 => R x y H2) {Q : Value → Shared → Prop} {f : Value → Value → Sem Value}
    (hf : ∀ v u s2 x y H2, Inv X pins σ H2 s2 → RelV x v → RelV y u → R x y H2 → wpAny (model X.prog X.w) X.A (f v u) Q X.xe s2) :
    wpAny (model X.prog X.w) X.A (eval a X.env) (fun v s₁ => wpAny (model X.prog X.w) X.A (eval b X.env) (fun u s₂ => wpAny (model X.prog X.w) X.A (f v u) Q X.xe s₂) X.xe s₁) X.xe s := by
  refine thn (ha pins s σ H _ I h) fun v s1 ⟨x, H1, I1, r1, q1⟩ => ?_
  refine thn (hb pins s1 σ H1 _ I1 q1) fun u s2 ⟨y, H2, I2, r2, q2⟩ => ?_
  exact hf v u s2 x y H2 I2 r1 r2 q2
theorem pe_op {op : Operator} {r : R2} (ho : OpR X (binaryOp op) r) (ha : PE X a ta) (hb : PE X b tb) : PE X (.BinOp a op b pos) (tOp r ta tb) := by
  intro pins s σ H Q I h
  exact wpAny_BinOp (binT ha hb I h fun v u s2 x y H2 I2 rx ry q => ho pins s2 σ H2 x y v u Q I2 rx ry q)
theorem pe_un {op : UnaryOp} {r : V → Hp → VK → Prop} (ho : UnR X (unaryOp op) r) (ha : PE X a ta) : PE X (.UnaryOp op a pos) (tUn r ta) := by
  intro pins s σ H Q I h
  exact UnaryOp_ (thn (ha pins s σ H _ I h) fun v s1 ⟨x, H1, I1, r1, q1⟩ => ho pins s1 σ H1 x v Q I1 r1 q1)
theorem augR {op : Operator} {r : R2} (ho : OpR X (inplaceOp op) r) {pins : List (Addr × Obj)} {s : Shared} {σ : St} {H : Hp} {x y : V} {v u : Value} {Q : VK} (I : Inv X pins σ H s)
    (rx : RelV x v) (ry : RelV y u) (q : r x y H Q) : wpAny (model X.prog X.w) X.A (inplaceOp op v u) (EP X pins σ Q) X.xe s := ho pins s σ H x y v u Q I rx ry q
theorem opI {f : Value → Value → Sem Value} {C : Int → Int → Prop} {g : Int → Int → Int}
    (rule : ∀ (i j : Int) (t u : Tok) (s : Shared) (Q : Value → Shared → Prop) (E : Value → Shared → Prop), C i j → Q (.int (g i j) s.toks) { s with toks := s.toks + 1 } → wpAny (model X.prog X.w) X.A (f (.int i t) (.int j u)) Q E s) :
    OpR X f (rI C fun i j => .int (g i j)) := by
  intro pins s σ H x y v u Q I rx ry h
  obtain ⟨i, j, rfl, rfl, hc, q⟩ := h
  obtain ⟨t, rfl⟩ := rx
  obtain ⟨t', rfl⟩ := ry
  exact rule i j t t' s _ _ hc ⟨.int (g i j), H, I.tok _, ⟨_, rfl⟩, q⟩
theorem opI0 {f : Value → Value → Sem Value} {g : Int → Int → Int}
    (rule : ∀ (i j : Int) (t u : Tok) (s : Shared) (Q : Value → Shared → Prop) (E : Value → Shared → Prop), Q (.int (g i j) s.toks) { s with toks := s.toks + 1 } → wpAny (model X.prog X.w) X.A (f (.int i t) (.int j u)) Q E s) :
    OpR X f (rI0 fun i j => .int (g i j)) := by
  intro pins s σ H x y v u Q I rx ry h
  obtain ⟨i, j, rfl, rfl, q⟩ := h
  obtain ⟨t, rfl⟩ := rx
  obtain ⟨t', rfl⟩ := ry
  exact rule i j t t' s _ _ ⟨.int (g i j), H, I.tok _, ⟨_, rfl⟩, q⟩
theorem opB0 {f : Value → Value → Sem Value} {g : Int → Int → Bool}
    (rule : ∀ (i j : Int) (t u : Tok) (s : Shared) (Q : Value → Shared → Prop) (E : Value → Shared → Prop), Q (.bool (g i j)) s → wpAny (model X.prog X.w) X.A (f (.int i t) (.int j u)) Q E s) :
    OpR X f (rI0 fun i j => .bl (g i j)) := by
  intro pins s σ H x y v u Q I rx ry h
  obtain ⟨i, j, rfl, rfl, q⟩ := h
  obtain ⟨t, rfl⟩ := rx
  obtain ⟨t', rfl⟩ := ry
  exact rule i j t t' s _ _ ⟨.bl (g i j), H, I, rfl, q⟩
def CDiv (i j : Int) : Prop := 0 < j ∧ j < 1073741824
def CDivN (i j : Int) : Prop := j ≠ 0 ∧ j.natAbs < 1073741824
def CPow (i j : Int) : Prop := 0 ≤ j ∧ j ≤ 1000000 ∧ i.natAbs < 2 ^ 64
def CMul (i j : Int) : Prop := (-(2 ^ 64) < i ∧ i < 2 ^ 64) ∨ (-(2 ^ 64) < j ∧ j < 2 ^ 64)
theorem CMul.ok {i j : Int} (h : CMul i j) : IntMulOk i j := by
  rcases h with ⟨h1, h2⟩ | ⟨h1, h2⟩
  · exact .of_left (intBits_le_64 h1 h2)
  · exact .of_right (intBits_le_64 h1 h2)
theorem two_pow_nn (k : Nat) : (0 : Int) ≤ 2 ^ k := by
  rw [two_pow_cast]
  exact Int.natCast_nonneg _
theorem op_add : OpR X (binaryOp .Add) (rI0 fun i j => .int (i + j)) := opI0 fun _ _ _ _ _ _ _ q => add_int q
theorem op_sub : OpR X (binaryOp .Sub) (rI0 fun i j => .int (i - j)) := opI0 fun _ _ _ _ _ _ _ q => sub_int q
theorem op_mul : OpR X (binaryOp .Mult) (rI CMul fun i j => .int (i * j)) := opI fun _ _ _ _ _ _ _ hc q => mul_int q hc.ok
theorem op_fdiv : OpR X (binaryOp .FloorDiv) (rI CDiv fun i j => .int (i / j)) := opI fun i j _ _ _ _ _ hc q => by
  have h1 : (0 : Int) < j := hc.1
  have h2 : j < 1073741824 := hc.2
  exact floordiv_int (by omega) (by rw [Int.fdiv_eq_ediv_of_nonneg i (by omega)]; exact q) (.inl (PyProof.noPylong_small (by omega)))
theorem op_fdivN : OpR X (binaryOp .FloorDiv) (rI CDivN fun i j => .int (i.fdiv j)) := opI fun _ _ _ _ _ _ _ hc q => floordiv_int hc.1 q (.inl (PyProof.noPylong_small hc.2))
theorem op_mod : OpR X (binaryOp .Mod) (rI (fun _ j => 0 < j) fun i j => .int (i % j)) := opI fun i j _ _ _ _ _ hc q => by
  have h1 : (0 : Int) < j := hc
  exact mod_int' (by omega) (by rw [Int.fmod_eq_emod_of_nonneg i (by omega)]; exact q)
theorem op_modN : OpR X (binaryOp .Mod) (rI (fun _ j => j ≠ 0) fun i j => .int (i.fmod j)) := opI fun _ _ _ _ _ _ _ hc q => mod_int' hc q
theorem op_pow : OpR X (binaryOp .Pow) (rI CPow fun i j => .int (i ^ j.toNat)) := opI fun _ _ _ _ _ _ _ hc q => pow_int_small hc.1 hc.2.1 hc.2.2 q
theorem op_shl : OpR X (binaryOp .LShift) (rI CPow fun i j => .int (i * 2 ^ j.toNat)) := opI fun _ _ _ _ _ _ _ hc q => lshift_int_small hc.1 hc.2.1 hc.2.2 q
theorem op_shr : OpR X (binaryOp .RShift) (rI (fun _ j => 0 ≤ j) fun i j => .int (i / 2 ^ j.toNat)) := opI fun i j _ _ _ _ _ hc q =>
  rshift_int hc (by rw [Int.fdiv_eq_ediv_of_nonneg i (two_pow_nn _)]; exact q)
theorem op_and : OpR X (binaryOp .BitAnd) (rI0 fun i j => .int (Builtin.bitAnd i j)) := opI0 fun _ _ _ _ _ _ _ q => and_int q
theorem op_or : OpR X (binaryOp .BitOr) (rI0 fun i j => .int (Builtin.bitOr i j)) := opI0 fun _ _ _ _ _ _ _ q => or_int q
theorem op_xor : OpR X (binaryOp .BitXor) (rI0 fun i j => .int (Builtin.bitXor i j)) := opI0 fun _ _ _ _ _ _ _ q => xor_int q
theorem iop_add : OpR X (inplaceOp .Add) (rI0 fun i j => .int (i + j)) := opI0 fun _ _ _ _ _ _ _ q => iadd_int q
theorem iop_sub : OpR X (inplaceOp .Sub) (rI0 fun i j => .int (i - j)) := opI0 fun _ _ _ _ _ _ _ q => isub_int q
theorem iop_mul : OpR X (inplaceOp .Mult) (rI CMul fun i j => .int (i * j)) := opI fun _ _ _ _ _ _ _ hc q => imul_int q hc.ok
theorem iop_fdiv : OpR X (inplaceOp .FloorDiv) (rI CDiv fun i j => .int (i / j)) := opI fun i j _ _ _ _ _ hc q => by
  have h1 : (0 : Int) < j := hc.1
  have h2 : j < 1073741824 := hc.2
  exact ifloordiv_int (by omega) (by rw [Int.fdiv_eq_ediv_of_nonneg i (by omega)]; exact q) (.inl (PyProof.noPylong_small (by omega)))
theorem iop_mod : OpR X (inplaceOp .Mod) (rI (fun _ j => 0 < j) fun i j => .int (i % j)) := opI fun i j _ _ _ _ _ hc q => by
  have h1 : (0 : Int) < j := hc
  exact imod_int (by omega) (by rw [Int.fmod_eq_emod_of_nonneg i (by omega)]; exact q)
theorem iop_shl : OpR X (inplaceOp .LShift) (rI CPow fun i j => .int (i * 2 ^ j.toNat)) := opI fun _ _ _ _ _ _ _ hc q => ilshift_int_small hc.1 hc.2.1 hc.2.2 q
theorem iop_shr : OpR X (inplaceOp .RShift) (rI (fun _ j => 0 ≤ j) fun i j => .int (i / 2 ^ j.toNat)) := opI fun i j _ _ _ _ _ hc q =>
  irshift_int hc (by rw [Int.fdiv_eq_ediv_of_nonneg i (two_pow_nn _)]; exact q)
theorem iop_and : OpR X (inplaceOp .BitAnd) (rI0 fun i j => .int (Builtin.bitAnd i j)) := opI0 fun _ _ _ _ _ _ _ q => iand_int q
theorem iop_or : OpR X (inplaceOp .BitOr) (rI0 fun i j => .int (Builtin.bitOr i j)) := opI0 fun _ _ _ _ _ _ _ q => ior_int q
theorem iop_xor : OpR X (inplaceOp .BitXor) (rI0 fun i j => .int (Builtin.bitXor i j)) := opI0 fun _ _ _ _ _ _ _ q => ixor_int q
theorem unI {f : Value → Sem Value} {g : Int → Int}
    (rule : ∀ (i : Int) (t : Tok) (s : Shared) (Q : Value → Shared → Prop) (E : Value → Shared → Prop), Q (.int (g i) s.toks) { s with toks := s.toks + 1 } → wpAny (model X.prog X.w) X.A (f (.int i t)) Q E s) :
    UnR X f (rU fun i => .int (g i)) := by
  intro pins s σ H x v Q I rx h
  obtain ⟨i, rfl, q⟩ := h
  obtain ⟨t, rfl⟩ := rx
  exact rule i t s _ _ ⟨.int (g i), H, I.tok _, ⟨_, rfl⟩, q⟩
theorem un_neg : UnR X (unaryOp .USub) (rU fun i => .int (-i)) := unI fun _ _ _ _ _ q => neg_int q
theorem un_inv : UnR X (unaryOp .Invert) (rU fun i => .int (Builtin.bitNot i)) := unI fun _ _ _ _ _ q => invert_int q
theorem op_add_ib : OpR X (binaryOp .Add) (fun x y H Q => ∃ i k, x = .int i ∧ y = .bl k ∧ Q (.int (i + b2i k)) H) := by
  intro pins s σ H x y v u Q I rx ry h
  obtain ⟨i, k, rfl, rfl, q⟩ := h
  obtain ⟨t, rfl⟩ := rx
  cases ry
  exact add_int_bool ⟨.int (i + b2i k), H, I.tok _, ⟨_, rfl⟩, q⟩
end
def scal : V → V → Bool
  | .non, .non => true | .non, .int _ => true | .int _, .non => true | .non, .bl _ => true | .bl _, .non => true | .non, .str _ => true | .str _, .non => true
  | .int _, .int _ => true | .bl _, .bl _ => true | .str _, .str _ => true | .byt _, .byt _ => true
  | .int _, .str _ => true | .str _, .int _ => true | .bl _, .str _ => true | .str _, .bl _ => true
  | _, _ => false
def rEq : R2 := fun x y H Q => scal x y = true ∧ Q (.bl (decide (x = y))) H
def rNe : R2 := fun x y H Q => scal x y = true ∧ Q (.bl (!decide (x = y))) H
theorem dec_int {i j : Int} : decide (V.int i = V.int j) = (i == j) := by
  rw [Bool.eq_iff_iff]
  simp
theorem dec_bl {i j : Bool} : decide (V.bl i = V.bl j) = (i == j) := by
  rw [Bool.eq_iff_iff]
  simp
theorem dec_str {i j : Str} : decide (V.str i = V.str j) = (i == j) := by
  rw [Bool.eq_iff_iff]
  simp
theorem dec_byt {i j : Array UInt8} : decide (V.byt i = V.byt j) = (i.toList == j.toList) := by
  rw [Bool.eq_iff_iff]
  cases i
  cases j
  simp
section
variable {X : Cx} {a b c : Expr} {ta tb tc : TE} {pos : Pos}
theorem fin_bl {pins : List (Addr × Obj)} {σ : St} {H : Hp} {s : Shared} {Q : VK} {k k' : Bool} (I : Inv X pins σ H s) (q : Q (.bl k) H) (e : k = k') : EP X pins σ Q (.bool k') s := by
  subst e
  exact ⟨.bl k, H, I, rfl, q⟩
theorem op_eq : OpR X (compareOp .Eq) rEq := by
  intro pins s σ H x y v u Q I rx ry h
  obtain ⟨hs, q⟩ := h
  cases x with
  | non =>
    cases rx
    cases y with
    | non => cases ry; exact PySem.EqNone.eq_none_none (fin_bl I q (by simp))
    | bl j => cases ry; exact PySem.EqNone.eq_none_bool (fin_bl I q (by simp))
    | int j => obtain ⟨t', rfl⟩ := ry; exact PySem.EqNone.eq_none_int (fin_bl I q (by simp))
    | str j => obtain ⟨t', rfl⟩ := ry; exact PySem.EqNone.eq_none_str (fin_bl I q (by simp))
    | _ => exact absurd (show false = true from hs) Bool.false_ne_true
  | bl i =>
    cases rx
    cases y with
    | non => cases ry; exact PySem.EqNone.eq_bool_none (fin_bl I q (by simp))
    | bl j => cases ry; exact eq_bool (fin_bl I q dec_bl)
    | str j => obtain ⟨t', rfl⟩ := ry; exact PySem.EqMixed.eq_bool_str (fin_bl I q (by simp))
    | _ => exact absurd (show false = true from hs) Bool.false_ne_true
  | int i =>
    obtain ⟨t, rfl⟩ := rx
    cases y with
    | non => cases ry; exact PySem.EqNone.eq_int_none (fin_bl I q (by simp))
    | int j => obtain ⟨t', rfl⟩ := ry; exact eq_int (fin_bl I q dec_int)
    | str j => obtain ⟨t', rfl⟩ := ry; exact PySem.EqMixed.eq_int_str (fin_bl I q (by simp))
    | _ => exact absurd (show false = true from hs) Bool.false_ne_true
  | str i =>
    obtain ⟨t, rfl⟩ := rx
    cases y with
    | non => cases ry; exact PySem.EqNone.eq_str_none (fin_bl I q (by simp))
    | bl j => cases ry; exact PySem.EqMixed.eq_str_bool (fin_bl I q (by simp))
    | int j => obtain ⟨t', rfl⟩ := ry; exact PySem.EqMixed.eq_str_int (fin_bl I q (by simp))
    | str j => obtain ⟨t', rfl⟩ := ry; exact eq_str (fin_bl I q dec_str)
    | _ => exact absurd (show false = true from hs) Bool.false_ne_true
  | byt i =>
    obtain ⟨t, rfl⟩ := rx
    cases y with
    | byt j => obtain ⟨t', rfl⟩ := ry; exact PySem.W.eq_bytes (fin_bl I q dec_byt)
    | _ => exact absurd (show false = true from hs) Bool.false_ne_true
  | _ => cases y <;> exact absurd (show false = true from hs) Bool.false_ne_true
theorem op_ne : OpR X (compareOp .NotEq) rNe := by
  intro pins s σ H x y v u Q I rx ry h
  obtain ⟨hs, q⟩ := h
  cases x with
  | non =>
    cases rx
    cases y with
    | non => cases ry; exact PySem.EqNone.ne_none_none (fin_bl I q (by simp))
    | bl j => cases ry; exact PySem.EqNone.ne_none_bool (fin_bl I q (by simp))
    | int j => obtain ⟨t', rfl⟩ := ry; exact PySem.EqNone.ne_none_int (fin_bl I q (by simp))
    | str j => obtain ⟨t', rfl⟩ := ry; exact PySem.EqNone.ne_none_str (fin_bl I q (by simp))
    | _ => exact absurd (show false = true from hs) Bool.false_ne_true
  | bl i =>
    cases rx
    cases y with
    | non => cases ry; exact PySem.EqNone.ne_bool_none (fin_bl I q (by simp))
    | bl j => cases ry; exact ne_bool (fin_bl I q (congrArg not dec_bl))
    | str j => obtain ⟨t', rfl⟩ := ry; exact PySem.EqMixed.ne_bool_str (fin_bl I q (by simp))
    | _ => exact absurd (show false = true from hs) Bool.false_ne_true
  | int i =>
    obtain ⟨t, rfl⟩ := rx
    cases y with
    | non => cases ry; exact PySem.EqNone.ne_int_none (fin_bl I q (by simp))
    | int j => obtain ⟨t', rfl⟩ := ry; exact ne_int (fin_bl I q (congrArg not dec_int))
    | str j => obtain ⟨t', rfl⟩ := ry; exact PySem.EqMixed.ne_int_str (fin_bl I q (by simp))
    | _ => exact absurd (show false = true from hs) Bool.false_ne_true
  | str i =>
    obtain ⟨t, rfl⟩ := rx
    cases y with
    | non => cases ry; exact PySem.EqNone.ne_str_none (fin_bl I q (by simp))
    | bl j => cases ry; exact PySem.EqMixed.ne_str_bool (fin_bl I q (by simp))
    | int j => obtain ⟨t', rfl⟩ := ry; exact PySem.EqMixed.ne_str_int (fin_bl I q (by simp))
    | str j => obtain ⟨t', rfl⟩ := ry; exact ne_str (fin_bl I q (congrArg not dec_str))
    | _ => exact absurd (show false = true from hs) Bool.false_ne_true
  | byt i =>
    obtain ⟨t, rfl⟩ := rx
    cases y with
    | byt j => obtain ⟨t', rfl⟩ := ry; exact PySem.W.ne_bytes (fin_bl I q (congrArg not dec_byt))
    | _ => exact absurd (show false = true from hs) Bool.false_ne_true
  | _ => cases y <;> exact absurd (show false = true from hs) Bool.false_ne_true
theorem op_lt : OpR X (compareOp .Lt) (rI0 fun i j => .bl (decide (i < j))) := opB0 fun _ _ _ _ _ _ _ q => lt_int q
theorem op_le : OpR X (compareOp .LtE) (rI0 fun i j => .bl (decide (i ≤ j))) := opB0 fun _ _ _ _ _ _ _ q => le_int q
theorem op_gt : OpR X (compareOp .Gt) (rI0 fun i j => .bl (decide (j < i))) := opB0 fun _ _ _ _ _ _ _ q => gt_int q
theorem op_ge : OpR X (compareOp .GtE) (rI0 fun i j => .bl (decide (j ≤ i))) := opB0 fun _ _ _ _ _ _ _ q => ge_int q
theorem op_lt_str : OpR X (compareOp .Lt) (fun x y H Q => ∃ i j, x = .str i ∧ y = .str j ∧ Q (.bl (decide (i.cps.toList < j.cps.toList))) H) := by
  intro pins s σ H x y v u Q I rx ry h
  obtain ⟨i, j, rfl, rfl, q⟩ := h
  obtain ⟨t, rfl⟩ := rx
  obtain ⟨t', rfl⟩ := ry
  exact lt_str (fin_bl I q rfl)
theorem op_in_str : OpR X (compareOp .In) (fun x y H Q => ∃ i j, x = .str i ∧ y = .str j ∧ Q (.bl (!(Builtin.Str.occurrences j i 0 j.length 1).isEmpty)) H) := by
  intro pins s σ H x y v u Q I rx ry h
  obtain ⟨i, j, rfl, rfl, q⟩ := h
  obtain ⟨t, rfl⟩ := rx
  obtain ⟨t', rfl⟩ := ry
  exact in_str (fin_bl I q rfl)
theorem op_isN : OpR X (compareOp .Is) (fun x y H Q => y = .non ∧ Q (.bl (decide (x = .non))) H) := by
  intro pins s σ H x y v u Q I rx ry h
  obtain ⟨rfl, q⟩ := h
  cases ry
  refine is_none_gen (fin_bl I q ?_)
  cases x <;> first
    | (cases rx; rfl)
    | (obtain ⟨t, rfl⟩ := rx; rfl)
theorem op_notN : OpR X (compareOp .IsNot) (fun x y H Q => y = .non ∧ Q (.bl (!decide (x = .non))) H) := by
  intro pins s σ H x y v u Q I rx ry h
  obtain ⟨rfl, q⟩ := h
  cases ry
  refine isnot_none_gen (fin_bl I q ?_)
  cases x <;> first
    | (cases rx; rfl)
    | (obtain ⟨t, rfl⟩ := rx; rfl)
theorem op_notin_str : OpR X (compareOp .NotIn) (fun x y H Q => ∃ i j, x = .str i ∧ y = .str j ∧ Q (.bl (!(!(Builtin.Str.occurrences j i 0 j.length 1).isEmpty))) H) := by
  intro pins s σ H x y v u Q I rx ry h
  obtain ⟨i, j, rfl, rfl, q⟩ := h
  obtain ⟨t, rfl⟩ := rx
  obtain ⟨t', rfl⟩ := ry
  exact notIn_str (fin_bl I q rfl)
def isObj : HO → Bool
  | .lst _ => true
  | .ins _ _ _ => true
  | _ => false
theorem obj_there {pins : List (Addr × Obj)} {s : Shared} {σ : St} {H : Hp} {a : Addr} {o : HO} (I : Inv X pins σ H s) (h : H a = some o) (p : isObj o = true) : ∃ ob, s.heap.get? a = some ob ∧ ob.cls ≠ .type "tuple" := by
  cases o with
  | lst xs =>
    obtain ⟨_, its, n, _, e⟩ : xs.length ≤ sizeLine ∧ ∃ (its : List Value) (n : Nat), Vals xs its ∧ s.heap.get? a = some { cls := .type "list", data := .seq its.toArray n } := I.hok a _ h
    exact ⟨_, e, (by show Value.type "list" ≠ .type "tuple"; decide +kernel)⟩
  | ins C dx fs =>
    have x := I.hok a _ h
    obtain ⟨_, _, _, e, _⟩ := x
    exact ⟨_, e, (by show Value.ref C ≠ .type "tuple"; exact fun z => by cases z)⟩
  | _ => exact absurd (show false = true from p) Bool.false_ne_true
theorem op_is_ref : OpR X (compareOp .Is) (fun x y H Q => ∃ a b oa ob, x = .ref a ∧ y = .ref b ∧ H a = some oa ∧ isObj oa = true ∧ H b = some ob ∧ isObj ob = true ∧ Q (.bl (decide (a = b))) H) := by
  intro pins s σ H x y v u Q I rx ry h
  obtain ⟨a, b, oa, ob, rfl, rfl, ha, pa, hb, pb, q⟩ := h
  cases rx
  cases ry
  obtain ⟨o1, e1, n1⟩ := obj_there I ha pa
  obtain ⟨o2, e2, _⟩ := obj_there I hb pb
  by_cases z : a = b
  · subst z
    exact wpAny_is_ref_self (fin_bl I q (by simp))
  · exact wpAny_is_ref_other z e1 e2 n1 (fin_bl I q (by simp [z]))
theorem op_isnot_ref : OpR X (compareOp .IsNot) (fun x y H Q => ∃ a b oa ob, x = .ref a ∧ y = .ref b ∧ H a = some oa ∧ isObj oa = true ∧ H b = some ob ∧ isObj ob = true ∧ Q (.bl (!decide (a = b))) H) := by
  intro pins s σ H x y v u Q I rx ry h
  obtain ⟨a, b, oa, ob, rfl, rfl, ha, pa, hb, pb, q⟩ := h
  cases rx
  cases ry
  obtain ⟨o1, e1, n1⟩ := obj_there I ha pa
  obtain ⟨o2, e2, _⟩ := obj_there I hb pb
  by_cases z : a = b
  · subst z
    exact wpAny_isNot_ref_self (fin_bl I q (by simp))
  · exact wpAny_isNot_ref_other z e1 e2 n1 (fin_bl I q (by simp [z]))
theorem OpR.or {f : Value → Value → Sem Value} {r r' : R2} (h : OpR X f r) (h' : OpR X f r') : OpR X f (fun x y H Q => r x y H Q ∨ r' x y H Q) := by
  intro pins s σ H x y v u Q I rx ry q
  rcases q with q | q
  · exact h pins s σ H x y v u Q I rx ry q
  · exact h' pins s σ H x y v u Q I rx ry q
theorem nomark (b : Expr) {op : CmpOp} (h : op ≠ .In := by decide) (h2 : op ≠ .NotIn := by decide) : behindInMarks op b = false := by
  have e1 : (op == CmpOp.In) = false := by cases op <;> first | rfl | exact absurd rfl h
  have e2 : (op == CmpOp.NotIn) = false := by cases op <;> first | rfl | exact absurd rfl h2
  cases b <;> simp [behindInMarks, e1, e2]
theorem pe_cmpR {op : CmpOp} {r : R2} (ho : OpR X (compareOp op) r) (ha : PE X a ta) (hb : PE X b tb) (hm : behindInMarks op b = false) : PE X (.Compare a [op] [b] pos) (tOp r ta tb) := by
  intro pins s σ H Q I h
  exact wpAny_Compare1 (binT ha hb I h fun v u s2 x y H2 I2 rx ry q => ho pins s2 σ H2 x y v u Q I2 rx ry q) hm
def tTest (t : TE) : TT := fun σ H Q => t σ H fun x H' => ∃ k, x = .bl k ∧ Q k H'
theorem pt_cmpR {op : CmpOp} {r : R2} (ho : OpR X (compareOp op) r) (ha : PE X a ta) (hb : PE X b tb) (hm : behindInMarks op b = false) : PT X (.Compare a [op] [b] pos) (tTest (tOp r ta tb)) := by
  intro pins s σ H Q I h
  refine wpAny_isTrue_Compare1 (thn (ha pins s σ H _ I h) fun v s1 ⟨x, H1, I1, r1, q1⟩ => thn (hb pins s1 σ H1 _ I1 q1) fun u s2 ⟨y, H2, I2, r2, q2⟩ =>
    thn (ho pins s2 σ H2 x y v u _ I2 r1 r2 q2) fun c s3 ⟨z, H3, I3, r3, k, e, q3⟩ => ?_) hm
  subst e
  cases r3
  exact wpAny_truthy_bool ⟨H3, I3, q3⟩
def tChain (r r' : R2) (ta tb tc : TE) : TE := fun σ H Q => ta σ H fun x H1 => tb σ H1 fun y H2 => r x y H2 fun z H3 => ∃ k, z = .bl k ∧
  (if k = true then tc σ H3 fun w' H4 => r' y w' H4 Q else Q (.bl false) H3)
theorem pe_chain {op op' : CmpOp} {r r' : R2} (ho : OpR X (compareOp op) r) (ho' : OpR X (compareOp op') r') (ha : PE X a ta) (hb : PE X b tb) (hc : PE X c tc)
    (hm : lastMarks [op, op'] [b, c] = false := by with_unfolding_all rfl) : PE X (.Compare a [op, op'] [b, c] pos) (tChain r r' ta tb tc) := by
  intro pins s σ H Q I h
  refine Compare_chain (thn (ha pins s σ H _ I h) fun v s1 ⟨x, H1, I1, r1, q1⟩ => chain_link (thn (hb pins s1 σ H1 _ I1 q1) fun u s2 ⟨y, H2, I2, r2, q2⟩ =>
    thn (ho pins s2 σ H2 x y v u _ I2 r1 r2 q2) fun d s3 ⟨z, H3, I3, r3, k, e, q3⟩ => ?_)) hm
  subst e
  cases r3
  refine wpAny_truthy_bool ?_
  cases k with
  | false => exact ite_ff ⟨.bl false, H3, I3, rfl, q3⟩
  | true => exact ite_tt (chain_last (thn (hc pins s3 σ H3 _ I3 q3) fun w' s4 ⟨z', H4, I4, r4, q4⟩ => ho' pins s4 σ H4 y z' u w' Q I4 r2 r4 q4))
theorem pt_chain {op op' : CmpOp} {r r' : R2} (ho : OpR X (compareOp op) r) (ho' : OpR X (compareOp op') r') (ha : PE X a ta) (hb : PE X b tb) (hc : PE X c tc)
    (hm : lastMarks [op, op'] [b, c] = false := by with_unfolding_all rfl) : PT X (.Compare a [op, op'] [b, c] pos) (tTest (tChain r r' ta tb tc)) := by
  intro pins s σ H Q I h
  refine isTrue_chain (thn (ha pins s σ H _ I h) fun v s1 ⟨x, H1, I1, r1, q1⟩ => test_link (thn (hb pins s1 σ H1 _ I1 q1) fun u s2 ⟨y, H2, I2, r2, q2⟩ =>
    thn (ho pins s2 σ H2 x y v u _ I2 r1 r2 q2) fun d s3 ⟨z, H3, I3, r3, k, e, q3⟩ => ?_)) hm
  subst e
  cases r3
  refine wpAny_truthy_bool ?_
  cases k with
  | false =>
    obtain ⟨k', e', q'⟩ := q3
    cases e'
    exact ite_ff ⟨H3, I3, q'⟩
  | true =>
    refine ite_tt (test_last (thn (hc pins s3 σ H3 _ I3 q3) fun w' s4 ⟨z', H4, I4, r4, q4⟩ => thn (ho' pins s4 σ H4 y z' u w' _ I4 r2 r4 q4) fun d' s5 ⟨z2, H5, I5, r5, k2, e2, q5⟩ => ?_))
    subst e2
    cases r5
    exact wpAny_truthy_bool ⟨H5, I5, q5⟩
def TruV (K : PySem.W.Frag) (x : V) (H : Hp) (k : Bool) : Prop :=
  match x with
  | .non => k = false
  | .bl b => k = b
  | .int i => k = (i != 0)
  | .str y => y.length ≤ sizeLine ∧ k = ((y.length : Int) != 0)
  | .byt y => y.size ≤ sizeLine ∧ k = ((y.size : Int) != 0)
  | .ref p => (∃ xs, SqL K H p xs ∧ k = !xs.isEmpty) ∨ (∃ xs, SqT K H p xs ∧ k = !xs.isEmpty) ∨ ∃ kvs, H p = some (.dK kvs) ∧ k = !kvs.isEmpty
  | _ => False
theorem isEmpty_kv {κ : Type} {kvs : List (κ × V)} {vs : List (κ × Value)} (r : KV kvs vs) : (!vs.isEmpty) = !kvs.isEmpty := by
  cases r <;> rfl
theorem isEmpty_of {xs : List V} {its : List Value} (r : Vals xs its) : (!its.toArray.isEmpty) = !xs.isEmpty := by
  cases r <;> simp
theorem line63 : (sizeLine : Nat) < 2 ^ 63 := by rw [sizeLine_eq]; decide
theorem tru_ok : TruR X (fun x H Q => ∃ k, TruV X.K x H k ∧ Q k H) := by
  intro pins s σ H x v Q I rx h
  obtain ⟨k, e, q⟩ := h
  have hl := line63
  have hs : sizeLine = 16777216 := sizeLine_eq
  cases x with
  | non =>
    cases rx
    have e' : k = false := e
    subst e'
    exact truthy_none ⟨H, I, q⟩
  | bl b =>
    cases rx
    have e' : k = b := e
    subst e'
    exact wpAny_truthy_bool ⟨H, I, q⟩
  | int i =>
    obtain ⟨t, rfl⟩ := rx
    have e' : k = (i != 0) := e
    subst e'
    exact PySem.P.truthy_int ⟨H, I, q⟩
  | str y =>
    obtain ⟨t, rfl⟩ := rx
    obtain ⟨hy, e'⟩ : y.length ≤ sizeLine ∧ k = ((y.length : Int) != 0) := e
    subst e'
    exact PySem.P.truthy_str (by omega) ⟨H, I.tok _, q⟩
  | byt y =>
    obtain ⟨t, rfl⟩ := rx
    obtain ⟨hy, e'⟩ : y.size ≤ sizeLine ∧ k = ((y.size : Int) != 0) := e
    subst e'
    exact PySem.W.truthy_bytes (by omega) ⟨H, I.tok _, q⟩
  | ref p =>
    cases rx
    have e' : (∃ xs, SqL X.K H p xs ∧ k = !xs.isEmpty) ∨ (∃ xs, SqT X.K H p xs ∧ k = !xs.isEmpty) ∨ ∃ kvs, H p = some (.dK kvs) ∧ k = !kvs.isEmpty := e
    rcases e' with ⟨xs, hx, e'⟩ | ⟨xs, hx, e'⟩ | ⟨kvs, hx, e'⟩
    · subst e'
      obtain ⟨its, r, pl, hz⟩ := I.list hx
      have hlen := r.length
      exact wpAny_truthy_list pl.isList (by simp only [List.size_toArray]; omega) ⟨H, I.tok _, by rw [isEmpty_of r]; exact q⟩
    · subst e'
      obtain ⟨its, r, pl, hz⟩ := I.tuple hx
      have hlen := r.length
      exact truthy_tuple pl (by simp only [List.size_toArray]; omega) ⟨H, I.tok _, by rw [isEmpty_of r]; exact q⟩
    · subst e'
      obtain ⟨hz, hS, vs, r, m⟩ : kvs.length ≤ sizeLine ∧ (p == sysModules) = false ∧ ∃ vs, KV kvs vs ∧ s.heap.DictOf (mixKind X.prog X.w) p vs := I.hok p _ hx
      have hlen : kvs.length = vs.length := Paired.length r
      exact wpAny_truthy_dict hS m (by omega) ⟨H, I.tok _, by rw [isEmpty_kv r]; exact q⟩
  | _ => exact (show False from e).elim
theorem pt_truth (ha : PE X a ta) (he : ∀ whole, isTrue a X.env whole = (do let v ← whole; standAt a.pos; holding [v] (truthy v))) :
    PT X a (fun σ H Q => ta σ H fun x H' => ∃ k, TruV X.K x H' k ∧ Q k H') := by
  intro pins s σ H Q I h
  exact isTrue_plain (thn (ha pins s σ H _ I h) fun v s1 ⟨x, H1, I1, r1, q1⟩ => tru_ok pins s1 σ H1 x v Q I1 r1 q1) (he _)
theorem pe_byt {x : List UInt8} {k : Nat} : PE X (.Constant (.bytes x) k pos) (fun _ H Q => Q (.byt x.toArray) H) := fun _ _ _ H _ I h => PySem.W.Constant_bytes ⟨.byt x.toArray, H, I.tok _, ⟨_, rfl⟩, h⟩
theorem op_add_str : OpR X (binaryOp .Add) (fun x y H Q => ∃ i j, x = .str i ∧ y = .str j ∧ i.length + j.length ≤ sizeLine ∧ Q (.str (i ++ j)) H) := by
  intro pins s σ H x y v u Q I rx ry h
  obtain ⟨i, j, rfl, rfl, hz, q⟩ := h
  obtain ⟨t, rfl⟩ := rx
  obtain ⟨t', rfl⟩ := ry
  exact add_str (fun t' tk => ⟨.str (i ++ j), H, I.tok _, ⟨_, rfl⟩, q⟩) hz
theorem iop_add_str : OpR X (inplaceOp .Add) (fun x y H Q => ∃ i j, x = .str i ∧ y = .str j ∧ i.length + j.length ≤ sizeLine ∧ Q (.str (i ++ j)) H) := by
  intro pins s σ H x y v u Q I rx ry h
  obtain ⟨i, j, rfl, rfl, hz, q⟩ := h
  obtain ⟨t, rfl⟩ := rx
  obtain ⟨t', rfl⟩ := ry
  exact iadd_str (fun t' tk => ⟨.str (i ++ j), H, I.tok _, ⟨_, rfl⟩, q⟩) hz
theorem op_add_byt : OpR X (binaryOp .Add) (fun x y H Q => ∃ i j, x = .byt i ∧ y = .byt j ∧ i.size + j.size ≤ 16777216 ∧ Q (.byt (i ++ j)) H) := by
  intro pins s σ H x y v u Q I rx ry h
  obtain ⟨i, j, rfl, rfl, hz, q⟩ := h
  obtain ⟨t, rfl⟩ := rx
  obtain ⟨t', rfl⟩ := ry
  exact PySem.W.KBy.add_bytes hz (fun t' tk => ⟨.byt (i ++ j), H, I.tok _, ⟨_, rfl⟩, q⟩)
def PlainIxT (b : Expr) : Prop := ∀ o i, subscripted b false o i = operate [o, i] (getItem o i)
theorem pe_item_str (ha : PE X a ta) (hb : PE X b tb) (hs : PlainIxT b) :
    PE X (.Subscript a b pos) (tOp (fun x y H Q => ∃ z i c, x = .str z ∧ y = .int i ∧ 0 ≤ i ∧ i < 2 ^ 63 ∧ i < z.length ∧ z.cps[i.toNat]? = some c ∧ Q (.str ⟨#[c]⟩) H) ta tb) := by
  intro pins s σ H Q I h
  refine Subscript_ (binT ha hb I h fun v u s2 x y H2 I2 rx ry q => ?_)
  obtain ⟨z, i, c, rfl, rfl, h0, h63, h1, hc, q⟩ := q
  obtain ⟨t, rfl⟩ := rx
  obtain ⟨t', rfl⟩ := ry
  have e : seqIndex? i z.length = some i.toNat := PySem.StrLaws.seqIndex_nonneg h0 h1
  exact tail_any (typeIs_str s2 z t) slot_str_getitem.lookup (getItem_str (c := c) (by
    have e1 : decide (i < -(2 ^ 63 : Int)) = false := decide_eq_false (by omega)
    have e2 : decide (i ≥ 2 ^ 63) = false := decide_eq_false (by omega)
    rw [e1, e2] <;> rfl) (by rw [e]; exact hc) ⟨.str ⟨#[c]⟩, H2, I2.tok _, ⟨_, rfl⟩, q⟩) (hs _ _)
theorem pe_item_byt (ha : PE X a ta) (hb : PE X b tb) (hs : PlainIxT b) :
    PE X (.Subscript a b pos) (tOp (fun x y H Q => ∃ (z : List UInt8) (i : Int), x = .byt z.toArray ∧ y = .int i ∧ z.length ≤ sizeLine ∧ 0 ≤ i ∧ i < z.length ∧ Q (.int ((z.getD i.toNat 0).toNat : Nat)) H) ta tb) := by
  intro pins s σ H Q I h
  refine Subscript_ (binT ha hb I h fun v u s2 x y H2 I2 rx ry q => ?_)
  obtain ⟨z, i, rfl, rfl, hz, h0, h1, q⟩ := q
  obtain ⟨t, rfl⟩ := rx
  obtain ⟨t', rfl⟩ := ry
  have hl : sizeLine = 16777216 := sizeLine_eq
  exact tail_any (PySem.W.typeIs_bytes s2 z.toArray t) PySem.W.FB.slot_bytes_getitem.lookup (PySem.W.getItem_bytes (by omega) h0 h1 ⟨.int ((z.getD i.toNat 0).toNat : Nat), H2, I2.tok _, ⟨_, rfl⟩, q⟩) (hs _ _)
theorem vals1 {x : V} {us : List Value} (r : Vals [x] us) : ∃ u, us = [u] ∧ RelV x u := by
  cases r with
  | cons r1 r2 => cases r2; exact ⟨_, rfl, r1⟩
theorem vals2 {x y : V} {us : List Value} (r : Vals [x, y] us) : ∃ u w', us = [u, w'] ∧ RelV x u ∧ RelV y w' := by
  cases r with
  | cons r1 r2 =>
    cases r2 with
    | cons r3 r4 => cases r4; exact ⟨_, _, rfl, r1, r3⟩
theorem call_abs : CallR X (.builtin "abs") (fun xs H Q => ∃ i, xs = [.int i] ∧ Q (.int (if i < 0 then -i else i)) H) := by
  intro pins s σ H xs us Q I r h
  obtain ⟨i, rfl, q⟩ := h
  obtain ⟨u, rfl, t, rfl⟩ := vals1 r
  exact call_abs_int fun u tk => ⟨.int (if i < 0 then -i else i), H, I.tok _, ⟨_, rfl⟩, q⟩
theorem call_max2 (hc : X.calm = true) : CallR X (.builtin "max") (fun xs H Q => ∃ i j, xs = [.int i, .int j] ∧ Q (.int (if j > i then j else i)) H) := by
  intro pins s σ H xs us Q I r h
  obtain ⟨i, j, rfl, q⟩ := h
  obtain ⟨u, w', rfl, ⟨t, rfl⟩, ⟨t', rfl⟩⟩ := vals2 r
  refine max_two_ints (I.ok.hd hc) fun h' tk k => ⟨_, H, I.kept k, ?_, q⟩
  by_cases hj : j > i
  · rw [if_pos hj, if_pos hj]; exact ⟨_, rfl⟩
  · rw [if_neg hj, if_neg hj]; exact ⟨_, rfl⟩
theorem call_min2 (hc : X.calm = true) : CallR X (.builtin "min") (fun xs H Q => ∃ i j, xs = [.int i, .int j] ∧ Q (.int (if j < i then j else i)) H) := by
  intro pins s σ H xs us Q I r h
  obtain ⟨i, j, rfl, q⟩ := h
  obtain ⟨u, w', rfl, ⟨t, rfl⟩, ⟨t', rfl⟩⟩ := vals2 r
  refine min_two_ints (I.ok.hd hc) fun h' tk k => ⟨_, H, I.kept k, ?_, q⟩
  by_cases hj : j < i
  · rw [if_pos hj, if_pos hj]; exact ⟨_, rfl⟩
  · rw [if_neg hj, if_neg hj]; exact ⟨_, rfl⟩
theorem call_int1 : CallR X (.type "int") (fun xs H Q => (∃ i, xs = [.int i] ∧ Q (.int i) H) ∨ ∃ k, xs = [.bl k] ∧ Q (.int (if k then 1 else 0)) H) := by
  intro pins s σ H xs us Q I r h
  rcases h with ⟨i, rfl, q⟩ | ⟨k, rfl, q⟩
  · obtain ⟨u, rfl, t, rfl⟩ := vals1 r
    exact call_int_int ⟨.int i, H, I, ⟨_, rfl⟩, q⟩
  · obtain ⟨u, rfl, r1⟩ := vals1 r
    cases r1
    exact call_int_bool ⟨.int (if k then 1 else 0), H, I.tok _, ⟨_, rfl⟩, q⟩
theorem call_bool1 : CallR X (.type "bool") (fun xs H Q => (∃ i, xs = [.int i] ∧ Q (.bl (i != 0)) H) ∨ ∃ k, xs = [.bl k] ∧ Q (.bl k) H) := by
  intro pins s σ H xs us Q I r h
  rcases h with ⟨i, rfl, q⟩ | ⟨k, rfl, q⟩
  · obtain ⟨u, rfl, t, rfl⟩ := vals1 r
    exact call_bool_int ⟨.bl (i != 0), H, I, rfl, q⟩
  · obtain ⟨u, rfl, r1⟩ := vals1 r
    cases r1
    exact call_bool_bool ⟨.bl k, H, I, rfl, q⟩
theorem call_str_int : CallR X (.type "str") (fun xs H Q => ∃ i, xs = [.int i] ∧ i.natAbs.log2 < 1920 ∧ Q (.str (toString i)) H) := by
  intro pins s σ H xs us Q I r h
  obtain ⟨i, rfl, hz, q⟩ := h
  obtain ⟨u, rfl, t, rfl⟩ := vals1 r
  exact PySem.P.str_of_int hz ⟨.str _, H, I.tok _, ⟨_, rfl⟩, q⟩
theorem call_ord : CallR X (.builtin "ord") (fun xs H Q => ∃ x, xs = [.str x] ∧ x.length = 1 ∧ Q (.int (x.cps.getD 0 0 : Nat)) H) := by
  intro pins s σ H xs us Q I r h
  obtain ⟨x, rfl, hz, q⟩ := h
  obtain ⟨u, rfl, t, rfl⟩ := vals1 r
  exact ord_of_one hz ⟨.int _, H, I.tok _, ⟨_, rfl⟩, q⟩
theorem call_chr : CallR X (.builtin "chr") (fun xs H Q => ∃ i, xs = [.int i] ∧ 0 ≤ i ∧ i ≤ 1114111 ∧ Q (.str ⟨#[i.toNat]⟩) H) := by
  intro pins s σ H xs us Q I r h
  obtain ⟨i, rfl, h0, h1, q⟩ := h
  obtain ⟨u, rfl, t, rfl⟩ := vals1 r
  exact chr_of_range h0 h1 ⟨.str _, H, I.tok _, ⟨_, rfl⟩, q⟩
def LenV (K : PySem.W.Frag) (x : V) (H : Hp) (n : Nat) : Prop :=
  match x with
  | .str y => y.length ≤ sizeLine ∧ n = y.length
  | .byt y => y.size ≤ sizeLine ∧ n = y.size
  | .ref p => (∃ xs, SqL K H p xs ∧ n = xs.length) ∨ ∃ xs, SqT K H p xs ∧ n = xs.length
  | _ => False
theorem call_len : CallR X (.builtin "len") (fun xs H Q => ∃ x n, xs = [x] ∧ LenV X.K x H n ∧ Q (.int n) H) := by
  intro pins s σ H xs us Q I r h
  obtain ⟨x, n, rfl, e, q⟩ := h
  obtain ⟨u, rfl, rx⟩ := vals1 r
  have hl := line63
  have hs : sizeLine = 16777216 := sizeLine_eq
  cases x with
  | str y =>
    obtain ⟨t, rfl⟩ := rx
    obtain ⟨hy, e'⟩ : y.length ≤ sizeLine ∧ n = y.length := e
    subst e'
    exact len_str (by omega) ⟨.int _, H, I.tok _, ⟨_, rfl⟩, q⟩
  | byt y =>
    obtain ⟨t, rfl⟩ := rx
    obtain ⟨hy, e'⟩ : y.size ≤ sizeLine ∧ n = y.size := e
    subst e'
    exact PySem.W.len_bytes (by omega) ⟨.int _, H, I.tok _, ⟨_, rfl⟩, q⟩
  | ref p =>
    cases rx
    have e' : (∃ xs, SqL X.K H p xs ∧ n = xs.length) ∨ ∃ xs, SqT X.K H p xs ∧ n = xs.length := e
    rcases e' with ⟨xs, hx, e'⟩ | ⟨xs, hx, e'⟩
    · subst e'
      obtain ⟨its, r', pl, hz⟩ := I.list hx
      have hlen := r'.length
      exact Calls.call_len_list pl.isList (by simp only [List.size_toArray]; omega) ⟨.int xs.length, H, I.tok _, ⟨_, by simp only [List.size_toArray]; rw [hlen]⟩, q⟩
    · subst e'
      obtain ⟨its, r', pl, hz⟩ := I.tuple hx
      have hlen := r'.length
      exact len_tuple pl (by simp only [List.size_toArray]; omega) ⟨.int xs.length, H, I.tok _, ⟨_, by simp only [List.size_toArray]; rw [hlen]⟩, q⟩
  | _ => exact (show False from e).elim
theorem call_divmod : CallR X (.builtin "divmod") (fun xs H Q => ∃ i j, xs = [.int i, .int j] ∧ CDiv i j ∧ ∀ p, H p = none → Q (.ref p) (upd H p (.tup [.int (i / j), .int (i % j)]))) := by
  intro pins s σ H xs us Q I r h
  obtain ⟨i, j, rfl, ⟨h1, h2⟩, q⟩ := h
  obtain ⟨u, w', rfl, ⟨t, rfl⟩, ⟨t', rfl⟩⟩ := vals2 r
  refine divmod_int (by omega) ?_ (.inl (PyProof.noPylong_small (by omega)))
  rw [Int.fdiv_eq_ediv_of_nonneg i (by omega), Int.fmod_eq_emod_of_nonneg i (by omega)]
  have hn : H s.heap.objs.size = none := I.hok.fresh (Nat.le_refl _)
  refine ⟨.ref s.heap.objs.size, _, ?_, rfl, q _ hn⟩
  refine I.laid (fun b o e => Heap.get?_push_of_some _ e) (Nat.le_refl _) ⟨by simp only [List.length_cons, List.length_nil]; rw [sizeLine_eq]; decide, [.int (i / j) s.toks, .int (i % j) (s.toks + 1)], .cons ⟨_, rfl⟩ (.cons ⟨_, rfl⟩ .nil), ?_⟩
  exact ⟨_, Heap.get?_push_size s.heap rfl, rfl, 0, rfl⟩
end
end L2
namespace L2
open PySem PySem.Spec PyProof.Rows
structure ObjM (h : Heap) (x dx C : Addr) (mA : Str → Option Value) : Prop where
  obj : h.get? x = some (PySem.W.instObj C dx)
  ns : h.Ns1 dx mA
  ne : dx ≠ x
theorem lookIn_ns {h : Heap} {dx : Addr} {mA : Str → Option Value} (n : h.Ns1 dx mA) : ∃ od, h.get? dx = some od ∧ ∀ name, PySem.W.lookIn name od = some (mA name) := by
  obtain ⟨o, es, ep, ho, hd, hk, _, hm⟩ := n
  refine ⟨o, ho, fun name => ?_⟩
  have e := hm name
  unfold nsFind findBy at e
  rw [← Array.find?_toList] at e
  unfold PySem.W.lookIn
  rw [hd]
  dsimp only
  split
  · rename_i y q
    rw [q] at e
    exact congrArg some e
  · rename_i q
    rw [q] at e
    have a : es.toList.any (·.refKey) = false := by
      rw [List.any_eq_false]
      intro y hy
      obtain ⟨z, t, hkey⟩ := hk y (Array.mem_toList_iff.mp hy)
      simp [DictEntry.refKey, hkey]
    have a' : ¬ es.toList.any (·.refKey) = true := by rw [a]; exact Bool.false_ne_true
    rw [if_neg a']
    exact congrArg some e
theorem ObjM.look {h : Heap} {x dx C : Addr} {mA : Str → Option Value} (I : ObjM h x dx C mA) : ∃ od, PySem.W.InstAt h x (PySem.W.instObj C dx) C (some od) ∧ ∀ name, PySem.W.lookIn name od = some (mA name) :=
  let ⟨od, ho, hl⟩ := lookIn_ns I.ns
  ⟨od, ⟨I.obj, rfl, rfl, ho⟩, hl⟩
section
variable {prog : Program} {w : World} {A : Around} {E : Value → Shared → Prop} {s : Shared} {K : PySem.W.Frag} {x dx C f : Addr} {mA : Str → Option Value} {name : Str} {v : Value}
theorem get_map {expr : Bool} {Q : Value → Shared → Prop} (X : K.In s.heap) (I : ObjM s.heap x dx C mA) (hg : PySem.W.plainGet K C name = true) (hh : PySem.W.hasDictIn K C = true)
    (ha : PySem.W.findIn K (.ref C) name = some none) (hv : mA name = some v) (hv' : PySem.W.handedIn v = true) (h : Q v { s with toks := s.toks + 1 }) :
    wpAny (model prog w) A (getAttr (.ref x) name expr) Q E s := by
  obtain ⟨od, J, hl⟩ := I.look
  exact PySem.W.get_value X J (PySem.W.plainGet_of hg).1 (PySem.W.findObj_own hh ha rfl (by rw [hl, hv])) hv' h
theorem get_const {expr : Bool} {a : Value} {Q : Value → Shared → Prop} (X : K.In s.heap) (I : ObjM s.heap x dx C mA) (hg : PySem.W.plainGet K C name = true) (hh : PySem.W.hasDictIn K C = true)
    (ha : PySem.W.findIn K (.ref C) name = some (some a)) (hn : PySem.W.specialIn K a "__get__" = some none) (hc : PySem.W.copiedNames.contains name = false) (hv : mA name = none) (hv' : PySem.W.handedIn a = true)
    (h : Q a { s with toks := s.toks + 1 }) : wpAny (model prog w) A (getAttr (.ref x) name expr) Q E s := by
  obtain ⟨od, J, hl⟩ := I.look
  exact PySem.W.get_value X J (PySem.W.plainGet_of hg).1 (PySem.W.findObj_cls hh ha hn hv' hc (by rw [hl, hv])) hv' h
theorem get_meth {pl : Sem Bool} {Q : Value × List Value → Shared → Prop} (X : K.In s.heap) (I : ObjM s.heap x dx C mA) (hg : PySem.W.plainGet K C name = true)
    (hf : PySem.W.findIn K (.ref C) name = some (some (.ref f))) (ht : PySem.W.isFn K (.ref f) = true) (hv : mA name = none) (h : Q (.ref f, [.ref x]) s) :
    wpAny (model prog w) A (getMethod (.ref x) name pl) Q E s := by
  obtain ⟨od, J, hl⟩ := I.look
  exact PySem.W.method_fn X J (PySem.W.plainGet_of hg).1 (PySem.W.plainGet_of hg).2 hf (beq_iff_eq.mp ht) (by show (PySem.W.lookIn name od).map (·.isSome) = some false; rw [hl, hv]; rfl) h
theorem set_map {ns : List Str} {Q : Unit → Shared → Prop} (X : K.In s.heap) (I : ObjM s.heap x dx C mA)
    (hs : PySem.W.findIn K (.ref C) "__setattr__" = some (some (.builtin "object.__setattr__"))) (hp : PySem.W.plainOver K C = true) (ht : PySem.W.takerIn K C name = some none) (hh : PySem.W.hasDictIn K C = true)
    (hw : PySem.Within mA ns) (hsz : ns.length ≤ sizeLine)
    (h : ∀ h', ObjM h' x dx C (fun y => if y = name then some v else mA y) → Heap.SameBut dx s.heap h' → Q () { s with heap := h', toks := s.toks + 2 }) :
    wpAny (model prog w) A (setAttr (.ref x) name v) Q E s := by
  obtain ⟨od, J, hl⟩ := I.look
  refine PySem.W.set_plain X J hs (PySem.W.osa_open (s := { s with toks := s.toks + 1 }) (r := none) X J hp ht fun b => ?_)
  obtain ⟨cd, hc, hd'⟩ := PySem.W.any_some hh
  have hx : s.heap.get? x = some ⟨.ref C, some dx, .plain, #[]⟩ := I.obj
  refine wpAny_bind (wpAny_pure (wpAny_bind (wpAny_bind (wpAny_loadPart hx (wpAny_bind (PySem.W.Looks.here (s := { s with toks := s.toks + 1 }) (PySem.W.looks_clsIn X hc) ?_))))))
  rw [hd']
  refine wpAny_pure (a := some dx) (wpAny_bind (wpAny_pure (wpAny_bind ?_)))
  refine wpAny_nsSet1 (s := { s with toks := s.toks + 1 }) I.ns fun h' hn2 hs2 => ?_
  obtain ⟨oD, esD, epD, hoD, hdD, hcD⟩ := hn2.count (PySem.Within.cons name v hw)
  refine wpAny_bind (wpAny_lookBehind hoD (by rw [hdD]; exact pastItsLine_dict (Nat.le_trans hcD (by rw [List.length_cons]; omega))) ?_)
  exact wpAny_pure (h _ ⟨(hs2.2 _ (Ne.symm I.ne)).trans I.obj, hn2, I.ne⟩ hs2)
theorem make_map {R : Result → Shared → Prop} {vs : List Value} {kw : List (Str × Value)} (X : K.In s.heap) (hm : PySem.W.makesIn K C = true)
    (hi : PySem.W.findIn K (.ref C) "__init__" = some (some (.ref f))) (hf : PySem.W.typeIn K (.ref f) = some (.type "function"))
    (h : codeAny (model prog w) (A.under (.builtin "type.__call__" ⟨.ref C :: vs, kw⟩)) (.call (.ref f) ⟨.ref (s.heap.objs.size + 1) :: vs, kw⟩) (PySem.W.InitBack (s.heap.objs.size + 1) R)
      { s with heap := (s.heap.push PySem.W.emptyDict).push (PySem.W.instObj C s.heap.objs.size) }) :
    codeAny (model prog w) A (.call (.ref C) ⟨vs, kw⟩) R s := by
  obtain ⟨hh, g, d, t, os⟩ := s
  exact PySem.W.make_core (PySem.W.makes_of X hm) (PySem.W.looks_findIn X hi) (fun self => PySem.W.bind_fn X self hf) (.inl rfl) h
theorem make_map0 {R : Result → Shared → Prop} (X : K.In s.heap) (hm : PySem.W.makesIn K C = true)
    (hi : PySem.W.findIn K (.ref C) "__init__" = some (some (.builtin "object.__init__")))
    (hb : ∀ self, PySem.W.Looks (model prog w) s.heap (bindSpecial (.builtin "object.__init__") self) (.builtin "object.__init__", [self]))
    (h : codeAny (model prog w) (A.under (.builtin "type.__call__" ⟨[.ref C], []⟩)) (.call (.builtin "object.__init__") ⟨[.ref (s.heap.objs.size + 1)], []⟩) (PySem.W.InitBack (s.heap.objs.size + 1) R)
      { s with heap := (s.heap.push PySem.W.emptyDict).push (PySem.W.instObj C s.heap.objs.size) }) :
    codeAny (model prog w) A (.call (.ref C) ⟨[], []⟩) R s := by
  obtain ⟨hh, g, d, t, os⟩ := s
  exact PySem.W.make_core (PySem.W.makes_of X hm) (PySem.W.looks_findIn X hi) hb (.inr ⟨rfl, rfl⟩) h
end
def putF (f : Str) (v : V) : List (Str × V) → List (Str × V)
  | [] => [(f, v)]
  | (g, x) :: r => if g = f then (g, v) :: r else (g, x) :: putF f v r
theorem lookup_putF (f g : Str) (v : V) : ∀ fs : List (Str × V), (putF f v fs).lookup g = if g = f then some v else fs.lookup g
  | [] => by
    show List.lookup g [(f, v)] = _
    by_cases h : g = f
    · have hb : (g == f) = true := beq_iff_eq.mpr h
      simp only [List.lookup, hb, if_pos h]
    · have hb : (g == f) = false := beq_eq_false_iff_ne.mpr h
      simp only [List.lookup, hb, if_neg h]
  | (k, x) :: r => by
    have ih := lookup_putF f g v r
    rw [show putF f v ((k, x) :: r) = (if k = f then (k, v) :: r else (k, x) :: putF f v r) from rfl]
    by_cases hk : k = f
    · rw [if_pos hk]
      by_cases h : g = k
      · have hb : (g == k) = true := beq_iff_eq.mpr h
        simp only [List.lookup, hb, if_pos (h.trans hk)]
      · have hb : (g == k) = false := beq_eq_false_iff_ne.mpr h
        simp only [List.lookup, hb, if_neg (fun e : g = f => h (e.trans hk.symm))]
    · rw [if_neg hk]
      by_cases h : g = k
      · have hb : (g == k) = true := beq_iff_eq.mpr h
        simp only [List.lookup, hb, if_neg (fun e : g = f => hk (h.symm.trans e))]
      · have hb : (g == k) = false := beq_eq_false_iff_ne.mpr h
        simp only [List.lookup, hb]
        exact ih
theorem keys_putF (f : Str) (v : V) : ∀ fs : List (Str × V), f ∈ (putF f v fs).map (·.1) ∧ ∀ g, g ∈ fs.map (·.1) → g ∈ (putF f v fs).map (·.1)
  | [] => ⟨by simp [putF], fun g h => by simp at h⟩
  | (k, x) :: r => by
    obtain ⟨i1, i2⟩ := keys_putF f v r
    rw [show putF f v ((k, x) :: r) = (if k = f then (k, v) :: r else (k, x) :: putF f v r) from rfl]
    by_cases hk : k = f
    · rw [if_pos hk]
      subst hk
      exact ⟨by simp, fun g h => by simpa using h⟩
    · rw [if_neg hk]
      refine ⟨?_, fun g h => ?_⟩
      · rw [List.map_cons]
        exact List.mem_cons_of_mem _ i1
      · rw [List.map_cons] at h ⊢
        rcases List.mem_cons.mp h with e | e
        · exact List.mem_cons.mpr (.inl e)
        · exact List.mem_cons_of_mem _ (i2 g e)
theorem length_putF (f : Str) (v : V) : ∀ fs : List (Str × V), (putF f v fs).length ≤ fs.length + 1
  | [] => by simp [putF]
  | (k, x) :: r => by
    have ih := length_putF f v r
    rw [show putF f v ((k, x) :: r) = (if k = f then (k, v) :: r else (k, x) :: putF f v r) from rfl]
    by_cases hk : k = f
    · rw [if_pos hk, List.length_cons, List.length_cons]; omega
    · rw [if_neg hk, List.length_cons, List.length_cons]; omega
theorem RelO.some_of {v : V} {o : Option Value} (r : RelO (some v) o) : ∃ u, o = some u ∧ RelV v u := by
  cases o with
  | none => exact (show False from r).elim
  | some u => exact ⟨u, rfl, r⟩
theorem RelO.none_of {o : Option Value} (r : RelO none o) : o = none := by
  cases o with
  | none => rfl
  | some u => exact (show False from r).elim
theorem handed_of {v : V} {u : Value} (r : RelV v u) : PySem.W.handedIn u = true := by
  cases v with
  | non => cases (show u = Value.none from r); rfl
  | bl b => cases (show u = Value.bool b from r); rfl
  | int i => obtain ⟨t, e⟩ := (show ∃ t, u = Value.int i t from r); cases e; rfl
  | str x => obtain ⟨t, e⟩ := (show ∃ t, u = Value.str x t from r); cases e; rfl
  | byt b => obtain ⟨t, e⟩ := (show ∃ t, u = Value.bytes b t from r); cases e; rfl
  | flt b => obtain ⟨t, e⟩ := (show ∃ t, u = Value.float b t from r); cases e; rfl
  | ref a => cases (show u = Value.ref a from r); rfl
  | ty n => cases (show u = Value.type n from r); rfl
section
variable {P : Program} {w : World} {H H' : Hp} {h h' : Heap} {a C dx : Addr} {fs fs' : List (Str × V)}
theorem ins_get (hok : HOk P w H h) (e : H a = some (.ins C dx fs)) : ∃ mA, ObjM h a dx C mA ∧ (∀ f, RelO (fs.lookup f) (mA f)) ∧ PySem.Within mA (fs.map (·.1)) ∧ fs.length ≤ 1000 ∧ H dx = some (.own a) := by
  obtain ⟨d, z, ne, ob, mA, n, r, q⟩ := (show ObjOk P w H h a (.ins C dx fs) from hok a _ e)
  exact ⟨mA, ⟨ob, n, ne⟩, r, q, z, d⟩
end
structure Cls (K : PySem.W.Frag) (C : Addr) : Prop where
  pg : PySem.W.plainGet K C Str.empty = true
  hd : PySem.W.hasDictIn K C = true
  po : PySem.W.plainOver K C = true
  sa : PySem.W.findIn K (.ref C) "__setattr__" = some (some (.builtin "object.__setattr__"))
theorem Cls.get {K : PySem.W.Frag} {C : Addr} (c : Cls K C) (f : Str) : PySem.W.plainGet K C f = true := c.pg
def NoAttr (K : PySem.W.Frag) (C : Addr) (f : Str) : Prop := PySem.W.findIn K (.ref C) f = some none
theorem NoAttr.taker {K : PySem.W.Frag} {C : Addr} {f : Str} (n : NoAttr K C f) : PySem.W.takerIn K C f = some none := by
  unfold PySem.W.takerIn
  rw [show PySem.W.findIn K (.ref C) f = some none from n]
  rfl
structure Con (K : PySem.W.Frag) (C : Addr) (f : Str) (v : V) (u : Value) : Prop where
  at_ : PySem.W.findIn K (.ref C) f = some (some u)
  rel : RelV v u
  get : PySem.W.specialIn K u "__get__" = some none
  cp : PySem.W.copiedNames.contains f = false
structure Meth (K : PySem.W.Frag) (C : Addr) (m : Str) (f : Addr) : Prop where
  at_ : PySem.W.findIn K (.ref C) m = some (some (.ref f))
  fn : PySem.W.isFn K (.ref f) = true
  kp : PySem.W.keepIn K (.ref f) = true
section
variable {X : Cx} {pins : List (Addr × Obj)} {σ : St} {H : Hp} {s : Shared} {a C dx : Addr} {fs : List (Str × V)} {f : Str} {v : V} {A : Around} {E : Value → Shared → Prop}
theorem getattr_ok {b : Bool} {Q : Value → Shared → Prop} (I : Inv X pins σ H s) (e : H a = some (.ins C dx fs)) (c : Cls X.K C) (n : NoAttr X.K C f) (l : fs.lookup f = some v)
    (h : ∀ u s', Inv X pins σ H s' → RelV v u → Q u s') : wpAny (model X.prog X.w) A (getAttr (.ref a) f b) Q E s := by
  obtain ⟨mA, O, r, _, _, _⟩ := ins_get I.hok e
  obtain ⟨u, hu, ru⟩ := RelO.some_of (v := v) (o := mA f) (by rw [← l]; exact r f)
  exact get_map I.kIn O (c.get f) c.hd n hu (handed_of ru) (h u _ (I.tok _) ru)
theorem getcon_ok {b : Bool} {u : Value} {Q : Value → Shared → Prop} (I : Inv X pins σ H s) (e : H a = some (.ins C dx fs)) (c : Cls X.K C) (k : Con X.K C f v u) (l : fs.lookup f = none)
    (h : ∀ s', Inv X pins σ H s' → Q u s') : wpAny (model X.prog X.w) A (getAttr (.ref a) f b) Q E s := by
  obtain ⟨mA, O, r, _, _, _⟩ := ins_get I.hok e
  have hn : mA f = none := RelO.none_of (by rw [← l]; exact r f)
  exact get_const I.kIn O (c.get f) c.hd k.at_ k.get k.cp hn (handed_of k.rel) (h _ (I.tok _))
theorem getmeth_ok {m : Str} {g : Addr} {pl : Sem Bool} {Q : Value × List Value → Shared → Prop} (I : Inv X pins σ H s) (e : H a = some (.ins C dx fs)) (c : Cls X.K C) (k : Meth X.K C m g) (l : fs.lookup m = none)
    (h : Q (.ref g, [.ref a]) s) : wpAny (model X.prog X.w) A (getMethod (.ref a) m pl) Q E s := by
  obtain ⟨mA, O, r, _, _, _⟩ := ins_get I.hok e
  have hn : mA m = none := RelO.none_of (by rw [← l]; exact r m)
  exact get_meth I.kIn O (c.get m) k.at_ k.fn hn h
theorem setattr_ok {y : V} {u : Value} {Q : Unit → Shared → Prop} (I : Inv X pins σ H s) (e : H a = some (.ins C dx fs)) (c : Cls X.K C) (n : NoAttr X.K C f) (hl : fs.length < 1000) (ry : RelV y u)
    (h : ∀ s', Inv X pins σ (upd H a (.ins C dx (putF f y fs))) s' → Q () s') : wpAny (model X.prog X.w) A (setAttr (.ref a) f u) Q E s := by
  obtain ⟨mA, O, r, wi, _, ho⟩ := ins_get I.hok e
  have hz : (fs.map (·.1)).length ≤ sizeLine := by rw [List.length_map, sizeLine_eq]; omega
  refine set_map I.kIn O c.sa c.po n.taker c.hd wi hz fun h' O' sb => h _ ?_
  have hd : ∃ o, h'.get? dx = some o := let ⟨o, _, _, e', _⟩ := O'.ns; ⟨o, e'⟩
  refine I.write (x := a) (e := dx) (by rw [e]; exact True.intro) (.inr ho) (fun b q hb z => (sb.2 b hb).trans z) hd ?_
  refine ⟨by rw [upd_ne O.ne]; exact ho, ?_, O.ne, O'.obj, _, O'.ns, fun g => ?_, fun g hg => ?_⟩
  · have := length_putF f y fs; omega
  · show RelO ((putF f y fs).lookup g) (if g = f then some u else mA g)
    rw [lookup_putF]
    by_cases q : g = f
    · rw [if_pos q, if_pos q]; exact ry
    · rw [if_neg q, if_neg q]; exact r g
  · by_cases q : g = f
    · rw [q]; exact (keys_putF f y fs).1
    · refine (keys_putF f y fs).2 g (wi g fun z => hg ?_)
      show (if g = f then some u else mA g) = none
      rw [if_neg q]; exact z
theorem Inv.made (I : Inv X pins σ H s) : Inv X pins σ (upd (upd H s.heap.objs.size (.own (s.heap.objs.size + 1))) (s.heap.objs.size + 1) (.ins C s.heap.objs.size []))
    { s with heap := (s.heap.push PySem.W.emptyDict).push (PySem.W.instObj C s.heap.objs.size) } := by
  have e1 : (s.heap.push PySem.W.emptyDict).get? s.heap.objs.size = some PySem.W.emptyDict := Heap.get?_push_size s.heap rfl
  have e2 : ((s.heap.push PySem.W.emptyDict).push (PySem.W.instObj C s.heap.objs.size)).get? (s.heap.objs.size + 1) = some (PySem.W.instObj C s.heap.objs.size) := by
    have := Heap.get?_push_size (s.heap.push PySem.W.emptyDict) (o := PySem.W.instObj C s.heap.objs.size) rfl
    rwa [Heap.size_push] at this
  have e3 : (s.heap.push PySem.W.emptyDict).Ns s.heap.objs.size (fun _ => none) := ⟨PySem.W.emptyDict, #[], _, e1, rfl, (fun e he => absurd he (by simp)), fun _ => rfl⟩
  have I1 := I.laid (a := s.heap.objs.size) (o := .own (s.heap.objs.size + 1)) (h' := s.heap.push PySem.W.emptyDict) (t' := s.toks) (fun b u q => Heap.get?_push_of_some _ q) (Nat.le_refl _) ⟨_, e1⟩
  refine I1.laid (a := s.heap.objs.size + 1) (o := .ins C s.heap.objs.size []) (t' := s.toks) (fun b u q => Heap.get?_push_of_some _ q) (Nat.le_of_eq (Heap.size_push _ _)) ?_
  have ne : s.heap.objs.size ≠ s.heap.objs.size + 1 := Nat.ne_of_lt (Nat.lt_succ_self _)
  refine ⟨by rw [upd_ne ne, upd_same], Nat.zero_le _, ne, e2, fun _ => none, (Heap.Ns1.of_empty e3).at fun o q => Heap.get?_push_of_some _ q, fun _ => True.intro, fun y hy => absurd rfl hy⟩
theorem attr_of {prog : Program} {w : World} {env : Env} {e : Expr} {f : Str} {pos : Pos} {s : Shared} {Q : Value → Shared → Prop} (hb : attributeBase e f env (eval e env) = eval e env)
    (h : wpAny (model prog w) A (eval e env) (fun o s₁ => wpAny (model prog w) A (getAttr o f true) Q E s₁) E s) : wpAny (model prog w) A (eval (.Attribute e f pos) env) Q E s :=
  Attribute_any_ h (by rw [arm_eval_Attribute, hb])
end
def tFld (K : PySem.W.Frag) (ta : TE) (f : Str) : TE := fun σ H Q => ta σ H fun x H1 => ∃ a C dx fs v, x = .ref a ∧ H1 a = some (.ins C dx fs) ∧ Cls K C ∧ NoAttr K C f ∧ fs.lookup f = some v ∧ Q v H1
def tCon (K : PySem.W.Frag) (ta : TE) (f : Str) : TE := fun σ H Q => ta σ H fun x H1 => ∃ a C dx fs v u, x = .ref a ∧ H1 a = some (.ins C dx fs) ∧ Cls K C ∧ Con K C f v u ∧ fs.lookup f = none ∧ Q v H1
def sFld (K : PySem.W.Frag) (ta tv : TE) (f : Str) : TS := fun D σ H => tv σ H fun y H1 => ta σ H1 fun x H2 => ∃ a C dx fs, x = .ref a ∧ H2 a = some (.ins C dx fs) ∧ Cls K C ∧ NoAttr K C f ∧ fs.length < 1000 ∧
  D.nx σ (upd H2 a (.ins C dx (putF f y fs)))
def InOp (X : Cx) (op : Operator) (rd : V → V → Hp → VK → Prop) : Prop :=
  ∀ (pins : List (Addr × Obj)) (s : Shared) (σ : St) (H : Hp) (x y : V) (u v : Value) (Q : VK), Inv X pins σ H s → RelV x u → RelV y v → rd x y H Q → wpAny (model X.prog X.w) X.A (inplaceOp op u v) (EP X pins σ Q) X.xe s
def sFldAug (K : PySem.W.Frag) (ta tv : TE) (rd : V → V → Hp → VK → Prop) (f : Str) : TS := fun D σ H => ta σ H fun x H1 => ∃ a C dx fs v, x = .ref a ∧ H1 a = some (.ins C dx fs) ∧ Cls K C ∧ NoAttr K C f ∧ fs.lookup f = some v ∧
  tv σ H1 fun y H2 => rd v y H2 fun z H3 => ∃ dx' fs', H3 a = some (.ins C dx' fs') ∧ fs'.length < 1000 ∧ D.nx σ (upd H3 a (.ins C dx' (putF f z fs')))
section
variable {X : Cx} {o e value : Expr} {f : Str} {pos pos' tpos : Pos} {ta tv : TE}
theorem pe_fld (he : PE X e ta) (hb : attributeBase e f X.env (eval e X.env) = eval e X.env) : PE X (.Attribute e f pos) (tFld X.K ta f) := by
  intro pins s σ H Q I h
  refine attr_of hb (thn (he pins s σ H _ I h) fun u s1 ⟨x, H1, I1, rx, a, C, dx, fs, v, ex, ea, c, n, l, q⟩ => ?_)
  subst ex
  obtain rfl : u = Value.ref a := rx
  exact getattr_ok I1 ea c n l fun u' s2 I2 ru => ⟨v, H1, I2, ru, q⟩
theorem pe_con (he : PE X e ta) (hb : attributeBase e f X.env (eval e X.env) = eval e X.env) : PE X (.Attribute e f pos) (tCon X.K ta f) := by
  intro pins s σ H Q I h
  refine attr_of hb (thn (he pins s σ H _ I h) fun u s1 ⟨x, H1, I1, rx, a, C, dx, fs, v, u0, ex, ea, c, k, l, q⟩ => ?_)
  subst ex
  obtain rfl : u = Value.ref a := rx
  exact getcon_ok I1 ea c k l fun s2 I2 => ⟨v, H1, I2, k.rel, q⟩
theorem ps_fld (ha : PE X o ta) (hv : PE X value tv) (hs : swapsWith value (some (.Attribute o f pos')) pos.line X.env = pure false) : PS X (.Assign [.Attribute o f pos'] value pos) (sFld X.K ta tv f) := by
  intro pins s σ H D I h
  refine plainObj_wpAny_Assign_Attribute (thn (hv pins s σ H _ I h) fun u s1 ⟨y, H1, I1, ry, q⟩ => thn (ha pins s1 σ H1 _ I1 q) fun ov s2 ⟨x, H2, I2, rx, a, C, dx, fs, ex, ea, c, n, l, q2⟩ => ?_) hs
  subst ex
  obtain rfl : ov = Value.ref a := rx
  exact setattr_ok I2 ea c n l ry fun s3 I3 => ⟨σ, _, I3, q2⟩
theorem ps_fldaug {op : Operator} {rd : V → V → Hp → VK → Prop} (ha : PE X o ta) (hv : PE X value tv) (hop : InOp X op rd) : PS X (.AugAssign (.Attribute o f tpos) op value pos) (sFldAug X.K ta tv rd f) := by
  intro pins s σ H D I h
  refine wpAny_AugAssign_AttributeAny (thn (ha pins s σ H _ I h) fun ov s1 ⟨x, H1, I1, rx, a, C, dx, fs, v, ex, ea, c, n, l, q⟩ => ?_)
  subst ex
  obtain rfl : ov = Value.ref a := rx
  refine getattr_ok I1 ea c n l fun u s2 I2 ru => thn (hv pins s2 σ H1 _ I2 q) fun w3 s3 ⟨y, H2, I3, ry, q3⟩ => thn (hop pins s3 σ H2 v y u w3 _ I3 ru ry q3) fun w4 s4 ⟨z, H3, I4, rz, dx', fs', ea', l', q4⟩ => ?_
  exact setattr_ok I4 ea' c n l' rz fun s5 I5 => ⟨σ, _, I5, q4⟩
def rAdd : V → V → Hp → VK → Prop := fun x y H Q => ∃ i j, x = .int i ∧ y = .int j ∧ Q (.int (i + j)) H
def rSub : V → V → Hp → VK → Prop := fun x y H Q => ∃ i j, x = .int i ∧ y = .int j ∧ Q (.int (i - j)) H
theorem in_add : InOp X .Add rAdd := by
  rintro pins s σ H x y u v Q I rx ry ⟨i, j, rfl, rfl, q⟩
  obtain ⟨t, rfl⟩ := (show ∃ t, u = Value.int i t from rx)
  obtain ⟨t', rfl⟩ := (show ∃ t', v = Value.int j t' from ry)
  exact PyProof.Rows.iadd_int ⟨.int (i + j), H, I.tok _, ⟨_, rfl⟩, q⟩
theorem in_sub : InOp X .Sub rSub := by
  rintro pins s σ H x y u v Q I rx ry ⟨i, j, rfl, rfl, q⟩
  obtain ⟨t, rfl⟩ := (show ∃ t, u = Value.int i t from rx)
  obtain ⟨t', rfl⟩ := (show ∃ t', v = Value.int j t' from ry)
  exact PyProof.Rows.isub_int ⟨.int (i - j), H, I.tok _, ⟨_, rfl⟩, q⟩
theorem methcall_of {pl : Sem Bool} {m : Str} {apos : Pos} {args : List Expr} {pins : List (Addr × Obj)} {s : Shared} {σ : St} {H : Hp} {Q : Value → Shared → Prop} {te : TE} (he : PE X e te) (I : Inv X pins σ H s)
    (h : te σ H fun x H1 => ∃ a C dx fs g, x = .ref a ∧ H1 a = some (.ins C dx fs) ∧ Cls X.K C ∧ Meth X.K C m g ∧ fs.lookup m = none ∧
      ∀ s1, Inv X pins σ H1 s1 → wpAny (model X.prog X.w) X.A (callWith pos (.ref g) [.ref a] (backTo pos (starEach args X.env)) (backToKw pos (keywordEach [] X.env))) Q X.xe s1)
    (ht : eval (.Call (.Attribute e m apos) args [] pos) X.env = (do
      let ov ← eval e X.env
      standAt apos.atName
      let (f, first) ← holding [ov] (getMethod ov m pl)
      callWith pos f first (backTo pos (starEach args X.env)) (backToKw pos (keywordEach [] X.env)))) :
    wpAny (model X.prog X.w) X.A (eval (.Call (.Attribute e m apos) args [] pos) X.env) Q X.xe s := by
  refine PySem.W.methodCall_KW (pl := pl) (thn (he pins s σ H _ I h) fun u s1 ⟨x, H1, I1, rx, a, C, dx, fs, g, ex, ea, c, k, l, q⟩ => ?_) ht
  subst ex
  obtain rfl : u = Value.ref a := rx
  exact getmeth_ok I1 ea c k l (q s1 I1)
end
section
variable {X : Cx} {pins : List (Addr × Obj)} {σ : St} {H : Hp} {s : Shared} {A : Around} {E : Value → Shared → Prop} {Q : Value → Shared → Prop} {c : Value} {b : Bool}
inductive TyOf (K : PySem.W.Frag) (H : Hp) : V → Value → Prop where
  | non : TyOf K H .non (.type "NoneType")
  | bl (x : Bool) : TyOf K H (.bl x) (.type "bool")
  | int (i : Int) : TyOf K H (.int i) (.type "int")
  | str (x : Str) : TyOf K H (.str x) (.type "str")
  | flt (x : UInt64) : TyOf K H (.flt x) (.type "float")
  | lst {a : Addr} {xs : List V} (e : H a = some (.lst xs)) : TyOf K H (.ref a) (.type "list")
  | frz {a : Addr} {o : Obj} {xs : List V} (e : H a = some (.frz o (.lst xs))) : TyOf K H (.ref a) (.type "list")
  | tup {a : Addr} {xs : List V} (e : H a = some (.tup xs)) : TyOf K H (.ref a) (.type "tuple")
  | dK {a : Addr} {kvs : List (Key × V)} (e : H a = some (.dK kvs)) : TyOf K H (.ref a) (.type "dict")
  | dT {a : Addr} {kvs : List (List Key × V)} (e : H a = some (.dT kvs)) : TyOf K H (.ref a) (.type "dict")
  | ins {a C dx : Addr} {fs : List (Str × V)} (e : H a = some (.ins C dx fs)) (cl : Cls K C) (ha : PySem.W.findIn K (.ref C) "__class__" = some (some (.builtin "object.__class__")))
      (hn : PySem.W.specialIn K (.builtin "object.__class__") "__get__" = some (some (.builtin "getset_descriptor.__get__"))) (htk : PySem.W.takesIn K (.builtin "object.__class__") = some true)
      (hm : PySem.W.mroIn K C (.type "object") = some true) : TyOf K H (.ref a) (.ref C)
theorem isinst_ok {x : V} {u t : Value} (I : Inv X pins σ H s) (rx : RelV x u) (ty : TyOf X.K H x t) (e : PySem.W.kitOne X.K t c = some b) (h : ∀ tk, Q (.bool b) { s with toks := tk }) :
    wpAny (model X.prog X.w) A (call (.builtin "isinstance") [u, c]) Q E s := by
  cases ty with
  | non => cases (show u = Value.none from rx); exact PySem.W.kia_one PySem.W.kitx_none I.kIn True.intro e (fun z => nomatch z) h
  | bl y => cases (show u = Value.bool y from rx); exact PySem.W.kia_one PySem.W.kitx_bool I.kIn True.intro e (fun z => nomatch z) h
  | int i => obtain ⟨t, q⟩ := (show ∃ t, u = Value.int i t from rx); cases q; exact PySem.W.kia_one PySem.W.kitx_int I.kIn True.intro e (fun z => nomatch z) h
  | str y => obtain ⟨t, q⟩ := (show ∃ t, u = Value.str y t from rx); cases q; exact PySem.W.kia_one PySem.W.kitx_str I.kIn True.intro e (fun z => nomatch z) h
  | flt y => obtain ⟨t, q⟩ := (show ∃ t, u = Value.float y t from rx); cases q; exact PySem.W.kia_one PySem.W.kitx_float I.kIn True.intro e (fun z => nomatch z) h
  | @lst a xs ea =>
    cases (show u = Value.ref a from rx)
    obtain ⟨_, _, n, _, h1⟩ := (show ObjOk X.prog X.w H s.heap a (.lst xs) from I.hok a _ ea)
    exact PySem.W.kia_one PySem.W.kitx_list I.kIn ⟨_, h1, rfl⟩ e (fun z => nomatch z) h
  | @frz a ob xs ea =>
    cases (show u = Value.ref a from rx)
    obtain ⟨_, _, _, n, _, h1⟩ := (show ObjOk X.prog X.w H s.heap a (.frz ob (.lst xs)) from I.hok a _ ea)
    exact PySem.W.kia_one PySem.W.kitx_list I.kIn ⟨_, h1, rfl⟩ e (fun z => nomatch z) h
  | @tup a xs ea =>
    cases (show u = Value.ref a from rx)
    obtain ⟨_, _, _, p⟩ := (show ObjOk X.prog X.w H s.heap a (.tup xs) from I.hok a _ ea)
    obtain ⟨o, h1, h2, _⟩ := p
    exact PySem.W.kia_one PySem.W.kitx_tuple I.kIn ⟨o, h1, h2⟩ e (fun z => nomatch z) h
  | @dK a kvs ea =>
    cases (show u = Value.ref a from rx)
    obtain ⟨_, _, vs, _, p⟩ := (show ObjOk X.prog X.w H s.heap a (.dK kvs) from I.hok a _ ea)
    obtain ⟨o, es, ep, h1, h2, _⟩ := p
    exact PySem.W.kia_one PySem.W.kitx_dict I.kIn ⟨o, h1, h2.1⟩ e (fun z => nomatch z) h
  | @dT a kvs ea =>
    cases (show u = Value.ref a from rx)
    obtain ⟨_, _, xs, _, o, es, ep, h1, h2, _⟩ := (show ObjOk X.prog X.w H s.heap a (.dT kvs) from I.hok a _ ea)
    exact PySem.W.kia_one PySem.W.kitx_dict I.kIn ⟨o, h1, h2.1⟩ e (fun z => nomatch z) h
  | @ins a C dx fs ea cl ha hn htk hm =>
    cases (show u = Value.ref a from rx)
    obtain ⟨mA, O, _⟩ := ins_get I.hok ea
    obtain ⟨od, J, _⟩ := O.look
    exact PySem.W.kia_one (PySem.W.kitx_own (cl.get _) cl.hd ha hn htk hm) I.kIn J e (fun z => nomatch z) h
end
end L2
namespace L2
open PySem PySem.Spec PyProof.Rows
structure Room (k : Nat) (A : Around) : Prop where
  hd : A.handled = none
  dp : A.depth + 3 * k + 5 < recursionLimit
  un : A.units + 16 * k + 200 < cLine
theorem Room.mono {j k : Nat} {A : Around} (r : Room k A) (h : j ≤ k) : Room j A := ⟨r.hd, by have := r.dp; omega, by have := r.un; omega⟩
theorem Room.deeper {k : Nat} {A : Around} (r : Room (k + 1) A) (env : Env) : Room k (A.deeper env) :=
  ⟨r.hd, by have := r.dp; show A.depth + 1 + 3 * k + 5 < _; omega, by have := r.un; show A.units + 3 + 16 * k + 200 < _; omega⟩
theorem Room.in1 {k : Nat} {A : Around} (r : Room (k + 1) A) : Room k A.in1 :=
  ⟨r.hd, by have := r.dp; show A.depth + 3 * k + 5 < _; omega, by have := r.un; show A.units + 1 + 16 * k + 200 < _; omega⟩
theorem make_depth {A : Around} {C : Addr} {us : List Value} {kw : List (Str × Value)} : (A.under (.builtin "type.__call__" ⟨.ref C :: us, kw⟩)).depth = A.depth + 1 := by
  first | rfl | simp [Around.under, Code.weight, Code.isCreation, Code.isGuard, Code.isCaller, Code.frames, Code.isFrame, guardIds]
theorem make_units {A : Around} {C : Addr} {us : List Value} {kw : List (Str × Value)} : (A.under (.builtin "type.__call__" ⟨.ref C :: us, kw⟩)).units = A.units + 1 := by
  first | rfl | simp [Around.under, Code.cUnits, Code.frames, Code.isFrame]
theorem Room.make {k : Nat} {A : Around} (r : Room (k + 1) A) (C : Addr) (us : List Value) (kw : List (Str × Value)) : Room k (A.under (.builtin "type.__call__" ⟨.ref C :: us, kw⟩)) :=
  ⟨r.hd, by have := r.dp; rw [make_depth]; omega, by have := r.un; rw [make_units]; omega⟩
theorem Room.depth {k : Nat} {A : Around} (r : Room k A) : A.depth < recursionLimit := by have := r.dp; omega
theorem Room.units {k : Nat} {A : Around} (r : Room k A) : A.units + 64 < cLine := by have := r.un; omega
theorem Room.units0 {k : Nat} {A : Around} (r : Room k A) : A.units < cLine := by have := r.un; omega
def tNil : TA := fun _ H Q => Q [] H
def tCons (ta : TE) (tr : TA) : TA := fun σ H Q => ta σ H fun x H1 => tr σ H1 fun xs H2 => Q (x :: xs) H2
section
variable {X : Cx} {e : Expr} {es : List Expr} {te : TE} {t : TA} {pos : Pos}
theorem pa_nil : PA X [] tNil := fun _ _ _ _ H Q I h => Calls.spliced_nil ⟨[], H, I, .nil, h⟩
theorem pa_cons (ha : PE X e te) (hr : PA X es t) (hs : starEach (e :: es) X.env = (false, eval e X.env) :: starEach es X.env := by rfl) : PA X (e :: es) (tCons te t) := by
  intro pos pins s σ H Q I h
  rw [hs]
  show wpAny _ _ (spliced ((false, eval e X.env) :: backTo pos (starEach es X.env))) _ _ s
  refine Calls.spliced_cons (thn (ha pins s σ H _ I h) fun u s1 ⟨x, H1, I1, r1, q1⟩ => ?_)
  exact thn (hr pos pins s1 σ H1 _ I1 q1) fun us s2 ⟨xs, H2, I2, r2, q2⟩ => ⟨x :: xs, H2, I2, .cons r1 r2, q2⟩
def tTup (t : TA) : TE := fun σ H Q => t σ H fun xs H1 => xs.length ≤ sizeLine ∧ ∀ p, H1 p = none → Q (.ref p) (upd H1 p (.tup xs))
def tLst (t : TA) : TE := fun σ H Q => t σ H fun xs H1 => xs.length ≤ sizeLine ∧ ∀ p, H1 p = none → Q (.ref p) (upd H1 p (.lst xs))
theorem pe_tup {x1} (h : PA X es t) : PE X (.Tuple es x1 pos) (tTup t) := by
  intro pins s σ H Q I hq
  refine wpAny_Tuple_spliced (thn (h pos pins s σ H _ I hq) fun us s1 ⟨xs, H1, I1, r, z, q⟩ => ⟨by rw [← r.length]; exact z, ?_⟩)
  have hf : H1 s1.heap.objs.size = none := I1.hok.fresh (Nat.le_refl _)
  refine ⟨.ref s1.heap.objs.size, upd H1 s1.heap.objs.size (.tup xs), I1.laid (t' := s1.toks) (fun b u e => Heap.get?_push_of_some _ e) (Nat.le_refl _) ?_, rfl, q _ hf⟩
  exact ⟨z, us, r, ⟨_, Heap.get?_push_size _ rfl, rfl, _, rfl⟩⟩
theorem pe_lst (h : PA X es t) : PE X (.List es pos) (tLst t) := by
  intro pins s σ H Q I hq
  refine wpAny_List_spliced (thn (h pos pins s σ H _ I hq) fun us s1 ⟨xs, H1, I1, r, z, q⟩ => ⟨by rw [← r.length]; exact z, ?_⟩)
  have hf : H1 s1.heap.objs.size = none := I1.hok.fresh (Nat.le_refl _)
  refine ⟨.ref s1.heap.objs.size, upd H1 s1.heap.objs.size (.lst xs), I1.laid (t' := s1.toks) (fun b u e => Heap.get?_push_of_some _ e) (Nat.le_refl _) ?_, rfl, q _ hf⟩
  exact ⟨z, us, 0, r, Heap.get?_push_size _ rfl⟩
end
abbrev Sp := List V → Hp → VK → XK → Prop
abbrev CXT := List Env → Hp → Shared → XK → Value → Shared → Prop
structure Env0 (P : Program) (w : World) (K : PySem.W.Frag) (mg : Str → Option Value) (base : Heap) (A : Around) (outer : List Env) (s : Shared) (H : Hp) : Prop where
  frames : A.frames = some outer
  mod : Mod K mg base
  bs : ∀ b o, base.get? b = some o → s.heap.get? b = some o ∧ H b = none
  bsz : base.objs.size ≤ s.heap.objs.size
  funs : s.heap.FunFrames base outer
  frf : ∀ b ∈ frs outer, H b = none
  hok : HOk P w H s.heap
  bare : AllBare s.gens
def CE (outer : List Env) (P : Program) (w : World) (H : Hp) (s : Shared) (Q : VK) (u : Value) (s' : Shared) : Prop :=
  ∃ v H', s'.os = s.os ∧ AllBare s'.gens ∧ Un (frs outer) [] H H' s.heap s'.heap ∧ HOk P w H' s'.heap ∧ RelV v u ∧ Q v H'
def CR (CX : CXT) (outer : List Env) (P : Program) (w : World) (H : Hp) (s : Shared) (Q : VK) (E : XK) (r : Result) (s' : Shared) : Prop :=
  match r with
  | .ok (.ret u) => CE outer P w H s Q u s'
  | .ok _ => False
  | .error e => CX outer H s E e s'
structure FnOk (P : Program) (w : World) (K : PySem.W.Frag) (mg : Str → Option Value) (base : Heap) (CX : CXT) (k : Nat) (f : Addr) (fd : FuncData) (ps : List Str) (sp : Sp) : Prop where
  len : ∀ vs H Q E, sp vs H Q E → vs.length = ps.length
  run : ∀ (A : Around) (outer : List Env) (s : Shared) (H : Hp) (args : Args) (us : List Value) (vs : List V) (Q : VK) (E : XK), Room k A → Env0 P w K mg base A outer s H → BindsTo s fd args (ps.zip us) → Vals vs us → sp vs H Q E →
    codeAny (model P w) A (.call (.ref f) args) (CR CX outer P w H s Q E) s
theorem FnOk.mono {P : Program} {w : World} {K : PySem.W.Frag} {mg : Str → Option Value} {base : Heap} {CX : CXT} {j k : Nat} {f : Addr} {fd : FuncData} {ps : List Str} {sp : Sp} (F : FnOk P w K mg base CX j f fd ps sp) (h : j ≤ k) :
    FnOk P w K mg base CX k f fd ps sp := ⟨F.len, fun A outer s H args us vs Q E hr => F.run A outer s H args us vs Q E (hr.mono h)⟩
theorem FnOk.imp {P : Program} {w : World} {K : PySem.W.Frag} {mg : Str → Option Value} {base : Heap} {CX : CXT} {k : Nat} {f : Addr} {fd : FuncData} {ps : List Str} {sp sp' : Sp} (F : FnOk P w K mg base CX k f fd ps sp)
    (h : ∀ vs H Q E, sp' vs H Q E → sp vs H Q E) : FnOk P w K mg base CX k f fd ps sp' :=
  ⟨fun vs H Q E q => F.len vs H Q E (h _ _ _ _ q), fun A outer s H args us vs Q E hr he hb hv hs => F.run A outer s H args us vs Q E hr he hb hv (h _ _ _ _ hs)⟩
theorem Env0.make {P : Program} {w : World} {K : PySem.W.Frag} {mg : Str → Option Value} {base : Heap} {A : Around} {outer : List Env} {s : Shared} {H : Hp} (e : Env0 P w K mg base A outer s H) (C : Addr) (us : List Value) (kw : List (Str × Value)) :
    Env0 P w K mg base (A.under (.builtin "type.__call__" ⟨.ref C :: us, kw⟩)) outer s H := ⟨by first | exact e.frames | (simpa [Around.under, Code.envs, Code.isFrame, pushEnvs] using e.frames), e.mod, e.bs, e.bsz, e.funs, e.frf, e.hok, e.bare⟩
theorem Env0.in1 {P : Program} {w : World} {K : PySem.W.Frag} {mg : Str → Option Value} {base : Heap} {A : Around} {outer : List Env} {s : Shared} {H : Hp} (e : Env0 P w K mg base A outer s H) :
    Env0 P w K mg base A.in1 outer s H := ⟨e.frames, e.mod, e.bs, e.bsz, e.funs, e.frf, e.hok, e.bare⟩
section
variable {X : Cx} {pins : List (Addr × Obj)} {σ : St} {H : Hp} {s s' : Shared}
theorem Inv.env0 (I : Inv X pins σ H s) : Env0 X.prog X.w X.K X.mg X.base X.A X.stack s H :=
  ⟨I.ok.frames, I.ok.mod, I.bs, Nat.le_trans I.ok.bsz I.sz, I.stack, I.stkFree, I.hok, I.bare⟩
theorem Inv.after {Q : VK} {u : Value} (I : Inv X pins σ H s) (h : CE X.stack X.prog X.w H s Q u s') : EP X pins σ Q u s' := by
  obtain ⟨v, H', os, bare, un, hok, r, q⟩ := h
  obtain ⟨hh, g, d, t, os'⟩ := s'
  obtain rfl : os' = s.os := os
  exact ⟨v, H', I.call (h' := hh) (g' := g) (d' := d) (t' := t) (ch := []) un hok bare (fun b z => absurd z (by simp)), r, q⟩
end
def tCall (sp : Sp) (dvs : List V) (E : XK) (t : TA) : TE := fun σ H Q => t σ H fun vs H1 => sp (vs ++ dvs) H1 Q E
def tMeth (C : Addr) (m : Str) (sp : Sp) (dvs : List V) (E : XK) (ta : TE) (t : TA) : TE := fun σ H Q => ta σ H fun x H1 => ∃ a dx fs, x = .ref a ∧ H1 a = some (.ins C dx fs) ∧ fs.lookup m = none ∧
  t σ H1 fun vs H2 => sp (x :: (vs ++ dvs)) H2 Q E
def tMake (C : Addr) (sp : Sp) (dvs : List V) (E : XK) (t : TA) : TE := fun σ H Q => t σ H fun vs H1 => ∀ x dx, H1 x = none → H1 dx = none → dx ≠ x →
  sp (.ref x :: (vs ++ dvs)) (upd (upd H1 dx (.own x)) x (.ins C dx [])) (fun v H2 => v = .non ∧ Q (.ref x) H2) E
def Binds (K : PySem.W.Frag) (fd : FuncData) (ps : List Str) (ds : List Value) : Prop :=
  ∀ (s : Shared) (us : List Value), K.In s.heap → (us ++ ds).length = ps.length → BindsTo s fd ⟨us, []⟩ (ps.zip (us ++ ds))
theorem Binds.all {K : PySem.W.Frag} {fd : FuncData} {ps : List Str} (h : ∀ us : List Value, us.length = ps.length → bindArgs fd ⟨us, []⟩ = pure (ps.zip us)) : Binds K fd ps [] := fun s us _ hl => by
  rw [List.append_nil] at hl ⊢
  exact .of_eq (h us hl)
def Passes (CX : CXT) (X : Cx) (E : XK) : Prop := ∀ (pins : List (Addr × Obj)) (σ : St) (H : Hp) (s : Shared) (e : Value) (s' : Shared), Inv X pins σ H s → CX X.stack H s E e s' → X.xe e s'
section
variable {X : Cx} {CX : CXT} {k : Nat} {f C : Addr} {fd : FuncData} {ps : List Str} {sp : Sp} {dvs : List V} {ds : List Value} {E : XK} {x m : Str} {p pos apos : Pos} {e o : Expr} {es : List Expr} {ta : TE} {t : TA}
theorem run_fn {pins : List (Addr × Obj)} {σ : St} {H : Hp} {s : Shared} {Q : VK} {us : List Value} {vs : List V} (F : FnOk X.prog X.w X.K X.mg X.base CX k f fd ps sp) (hr : Room k X.A) (hb : Binds X.K fd ps ds) (hd : Vals dvs ds) (hx : Passes CX X E)
    (I : Inv X pins σ H s) (r : Vals vs us) (h : sp (vs ++ dvs) H Q E) : wpAny (model X.prog X.w) X.A (call (.ref f) us) (EP X pins σ Q) X.xe s := by
  have r2 : Vals (vs ++ dvs) (us ++ ds) := r.append hd
  have hl : (us ++ ds).length = ps.length := by rw [← r2.length]; exact F.len _ _ _ _ h
  refine wpAny_call (codeAny_mono (F.run X.A X.stack s H ⟨us, []⟩ (us ++ ds) (vs ++ dvs) Q E hr I.env0 (hb s us I.kIn hl) r2 h) fun r s' hq => ?_)
  cases r with
  | error e => exact hx pins σ H s e s' I hq
  | ok fl =>
    cases fl with
    | ret u => exact I.after hq
    | next => exact False.elim hq
    | brk => exact False.elim hq
    | cont => exact False.elim hq
theorem pe_call (F : FnOk X.prog X.w X.K X.mg X.base CX k f fd ps sp) (hr : Room k X.A) (hg : Gl X x) (hm : X.mg x = some (.ref f)) (hk : PySem.W.keepIn X.K (.ref f) = true) (hb : Binds X.K fd ps ds) (hd : Vals dvs ds) (hx : Passes CX X E)
    (ha : PA X (e :: es) t) (hdb : (x == ("__debug__" : Str)) = false := by decide) (he : starEach (e :: es) X.env = (false, eval e X.env) :: starEach es X.env := by rfl) (hpl : (backTo pos (starEach es X.env)).any (·.1) = false := by rfl) :
    PE X (.Call (.Name x p) (e :: es) [] pos) (tCall sp dvs E t) := by
  intro pins s σ H Q I h
  refine wpAny_Call_Name_kw (ld_glob I hg hm ?_ hdb)
  refine PySem.W.callWith_K (h₀ := X.base) I.ok.mod.kin hk (thn (ha pos pins s σ H _ I h) fun us s1 ⟨vs, H1, I1, r, q⟩ => ⟨I1.kIn, ?_⟩) he hpl
  exact run_fn F hr hb hd hx I1 r q
theorem pe_call0 (F : FnOk X.prog X.w X.K X.mg X.base CX k f fd ps sp) (hr : Room k X.A) (hg : Gl X x) (hm : X.mg x = some (.ref f)) (hk : PySem.W.keepIn X.K (.ref f) = true) (hb : Binds X.K fd ps ds) (hd : Vals dvs ds) (hx : Passes CX X E)
    (hdb : (x == ("__debug__" : Str)) = false := by decide) : PE X (.Call (.Name x p) [] [] pos) (tCall sp dvs E tNil) := by
  intro pins s σ H Q I h
  refine wpAny_Call_Name_kw (ld_glob I hg hm ?_ hdb)
  exact PySem.W.callWith_K0 I.kIn hk (run_fn (us := []) F hr hb hd hx I .nil h)
theorem pe_meth {pl : Sem Bool} (he : PE X o ta) (c : Cls X.K C) (hm : Meth X.K C m f) (F : FnOk X.prog X.w X.K X.mg X.base CX k f fd ps sp) (hr : Room k X.A) (hb : Binds X.K fd ps ds) (hd : Vals dvs ds) (hx : Passes CX X E) (ha : PA X (e :: es) t)
    (hst : starEach (e :: es) X.env = (false, eval e X.env) :: starEach es X.env := by rfl) (hpl : (backTo pos (starEach es X.env)).any (·.1) = false := by rfl)
    (ht : eval (.Call (.Attribute o m apos) (e :: es) [] pos) X.env = (do
      let ov ← eval o X.env
      standAt apos.atName
      let (f, first) ← holding [ov] (getMethod ov m pl)
      callWith pos f first (backTo pos (starEach (e :: es) X.env)) (backToKw pos (keywordEach [] X.env))) := by rfl) :
    PE X (.Call (.Attribute o m apos) (e :: es) [] pos) (tMeth C m sp dvs E ta t) := by
  intro pins s σ H Q I h
  refine PySem.W.methodCall_KW (pl := pl) (thn (he pins s σ H _ I h) fun u s1 ⟨x, H1, I1, rx, a, dx, fs, ex, ea, l, q⟩ => ?_) ht
  subst ex
  obtain rfl : u = Value.ref a := rx
  refine getmeth_ok I1 ea c hm l ?_
  refine PySem.W.callWith_K (first := [.ref a]) (h₀ := X.base) I.ok.mod.kin hm.kp (thn (ha pos pins s1 σ H1 _ I1 q) fun us s2 ⟨vs, H2, I2, r, q2⟩ => ⟨I2.kIn, ?_⟩) hst hpl
  exact run_fn (us := .ref a :: us) (vs := .ref a :: vs) F hr hb hd hx I2 (.cons rfl r) q2
theorem pe_meth0 {pl : Sem Bool} (he : PE X o ta) (c : Cls X.K C) (hm : Meth X.K C m f) (F : FnOk X.prog X.w X.K X.mg X.base CX k f fd ps sp) (hr : Room k X.A) (hb : Binds X.K fd ps ds) (hd : Vals dvs ds) (hx : Passes CX X E)
    (ht : eval (.Call (.Attribute o m apos) [] [] pos) X.env = (do
      let ov ← eval o X.env
      standAt apos.atName
      let (f, first) ← holding [ov] (getMethod ov m pl)
      callWith pos f first (backTo pos (starEach [] X.env)) (backToKw pos (keywordEach [] X.env))) := by rfl) :
    PE X (.Call (.Attribute o m apos) [] [] pos) (tMeth C m sp dvs E ta tNil) := by
  intro pins s σ H Q I h
  refine PySem.W.methodCall_KW (pl := pl) (thn (he pins s σ H _ I h) fun u s1 ⟨x, H1, I1, rx, a, dx, fs, ex, ea, l, q⟩ => ?_) ht
  subst ex
  obtain rfl : u = Value.ref a := rx
  refine getmeth_ok I1 ea c hm l ?_
  exact PySem.W.callWith_K0 (first := [.ref a]) I1.kIn hm.kp (run_fn (us := [.ref a]) (vs := [.ref a]) F hr hb hd hx I1 (.cons rfl .nil) q)
structure Mk (K : PySem.W.Frag) (C f : Addr) : Prop where
  makes : PySem.W.makesIn K C = true
  init : PySem.W.findIn K (.ref C) "__init__" = some (some (.ref f))
  fn : PySem.W.isFn K (.ref f) = true
  kp : PySem.W.keepIn K (.ref C) = true
theorem run_make {pins : List (Addr × Obj)} {σ : St} {H : Hp} {s : Shared} {Q : VK} {us : List Value} {vs : List V} (M : Mk X.K C f) (F : FnOk X.prog X.w X.K X.mg X.base CX k f fd ps sp) (hr : Room (k + 1) X.A) (hb : Binds X.K fd ps ds) (hd : Vals dvs ds)
    (hx : Passes CX X E) (I : Inv X pins σ H s) (r : Vals vs us)
    (h : ∀ x dx, H x = none → H dx = none → dx ≠ x → sp (.ref x :: (vs ++ dvs)) (upd (upd H dx (.own x)) x (.ins C dx [])) (fun v H2 => v = .non ∧ Q (.ref x) H2) E) :
    wpAny (model X.prog X.w) X.A (call (.ref C) us) (EP X pins σ Q) X.xe s := by
  have hq := h (s.heap.objs.size + 1) s.heap.objs.size (I.hok.fresh (Nat.le_succ _)) (I.hok.fresh (Nat.le_refl _)) (Nat.ne_of_lt (Nat.lt_succ_self _))
  have I2 := Inv.made (C := C) I
  have r2 : Vals (V.ref (s.heap.objs.size + 1) :: (vs ++ dvs)) (Value.ref (s.heap.objs.size + 1) :: (us ++ ds)) := .cons rfl (r.append hd)
  have hl : (Value.ref (s.heap.objs.size + 1) :: us ++ ds).length = ps.length := by
    have e := r2.length
    rw [F.len _ _ _ _ hq] at e
    exact e.symm
  refine wpAny_call (make_map (f := f) I.kIn M.makes M.init (beq_iff_eq.mp M.fn) (codeAny_mono (F.run _ X.stack _ _ ⟨Value.ref (s.heap.objs.size + 1) :: us, []⟩ (Value.ref (s.heap.objs.size + 1) :: (us ++ ds)) _ _ E (hr.make C us [])
    (I2.env0.make C us []) (hb _ (Value.ref (s.heap.objs.size + 1) :: us) I2.kIn hl) r2 hq) fun r s' hq' => ?_))
  cases r with
  | error e => exact hx pins σ _ _ e s' I2 hq'
  | ok fl =>
    cases fl with
    | ret u =>
      obtain ⟨v, H', I3, rv, ev, q3⟩ := I2.after hq'
      subst ev
      exact ⟨rv, ⟨V.ref (s.heap.objs.size + 1), H', I3, rfl, q3⟩⟩
    | next => exact False.elim hq'
    | brk => exact False.elim hq'
    | cont => exact False.elim hq'
theorem pe_make (M : Mk X.K C f) (F : FnOk X.prog X.w X.K X.mg X.base CX k f fd ps sp) (hr : Room (k + 1) X.A) (hg : Gl X x) (hm : X.mg x = some (.ref C)) (hb : Binds X.K fd ps ds) (hd : Vals dvs ds) (hx : Passes CX X E)
    (ha : PA X (e :: es) t) (hdb : (x == ("__debug__" : Str)) = false := by decide) (he : starEach (e :: es) X.env = (false, eval e X.env) :: starEach es X.env := by rfl) (hpl : (backTo pos (starEach es X.env)).any (·.1) = false := by rfl) :
    PE X (.Call (.Name x p) (e :: es) [] pos) (tMake C sp dvs E t) := by
  intro pins s σ H Q I h
  refine wpAny_Call_Name_kw (ld_glob I hg hm ?_ hdb)
  refine PySem.W.callWith_K (h₀ := X.base) I.ok.mod.kin M.kp (thn (ha pos pins s σ H _ I h) fun us s1 ⟨vs, H1, I1, r, q⟩ => ⟨I1.kIn, ?_⟩) he hpl
  exact run_make M F hr hb hd hx I1 r q
theorem pe_make0 (M : Mk X.K C f) (F : FnOk X.prog X.w X.K X.mg X.base CX k f fd ps sp) (hr : Room (k + 1) X.A) (hg : Gl X x) (hm : X.mg x = some (.ref C)) (hb : Binds X.K fd ps ds) (hd : Vals dvs ds) (hx : Passes CX X E)
    (hdb : (x == ("__debug__" : Str)) = false := by decide) : PE X (.Call (.Name x p) [] [] pos) (tMake C sp dvs E tNil) := by
  intro pins s σ H Q I h
  refine wpAny_Call_Name_kw (ld_glob I hg hm ?_ hdb)
  exact PySem.W.callWith_K0 I.kIn M.kp (run_make (us := []) M F hr hb hd hx I .nil h)
end
def PK (X : Cx) (kws : List Keyword) (t : TA) : Prop :=
  ∀ (pos : Pos) (pins : List (Addr × Obj)) (s : Shared) (σ : St) (H : Hp) (Q : List V → Hp → Prop), Inv X pins σ H s → t σ H Q → wpAny (model X.prog X.w) X.A (evalAll ((backToKw pos (keywordEach kws X.env)).map (·.2))) (AP X pins σ Q) X.xe s
section
variable {X : Cx} {CX : CXT} {k : Nat} {f C : Addr} {fd : FuncData} {ps ks : List Str} {sp : Sp} {E : XK} {x m : Str} {p pos apos kpos : Pos} {e o : Expr} {es : List Expr} {kws : List Keyword} {te ta : TE} {t tk : TA} {nm : Option Str}
theorem pk_nil : PK X [] tNil := fun _ _ _ _ H Q I h => wpAny_evalAll_nil ⟨[], H, I, .nil, h⟩
theorem pk_cons (ha : PE X e te) (hr : PK X kws t) : PK X (⟨nm, e, kpos⟩ :: kws) (tCons te t) := by
  intro pos pins s σ H Q I h
  show wpAny _ _ (evalAll ((do let v ← eval e X.env; standAt pos; pure v) :: (backToKw pos (keywordEach kws X.env)).map (·.2))) _ _ s
  refine wpAny_evalAll_cons (wpAny_bind (thn (ha pins s σ H _ I h) fun u s1 ⟨x, H1, I1, r1, q1⟩ => wpAny_bind (wpAny_standAt (wpAny_pure ?_))))
  exact thn (hr pos pins s1 σ H1 _ I1 q1) fun us s2 ⟨xs, H2, I2, r2, q2⟩ => ⟨x :: xs, H2, I2, .cons r1 r2, q2⟩
structure KBinds (K : PySem.W.Frag) (fd : FuncData) (ps ks : List Str) (g : List Value → List Value → List Value) (gV : List V → List V → List V) : Prop where
  to : ∀ (s : Shared) (us ws : List Value), K.In s.heap → (g us ws).length = ps.length → BindsTo s fd ⟨us, ks.zip ws⟩ (ps.zip (g us ws))
  rel : ∀ {vs : List V} {us : List Value} {zs : List V} {ws : List Value}, Vals vs us → Vals zs ws → Vals (gV vs zs) (g us ws)
def tCallK (sp : Sp) (gV : List V → List V → List V) (E : XK) (t tk : TA) : TE := fun σ H Q => t σ H fun vs H1 => tk σ H1 fun zs H2 => sp (gV vs zs) H2 Q E
variable {g : List Value → List Value → List Value} {gV : List V → List V → List V}
theorem run_fnk {pins : List (Addr × Obj)} {σ : St} {H : Hp} {s : Shared} {Q : VK} {us ws : List Value} {vs zs : List V} (F : FnOk X.prog X.w X.K X.mg X.base CX k f fd ps sp) (hr : Room k X.A) (hb : KBinds X.K fd ps ks g gV) (hx : Passes CX X E)
    (I : Inv X pins σ H s) (r : Vals vs us) (rz : Vals zs ws) (h : sp (gV vs zs) H Q E) : wpAny (model X.prog X.w) X.A (call (.ref f) us (ks.zip ws)) (EP X pins σ Q) X.xe s := by
  have r2 := hb.rel r rz
  have hl : (g us ws).length = ps.length := by rw [← r2.length]; exact F.len _ _ _ _ h
  refine wpAny_call (codeAny_mono (F.run X.A X.stack s H ⟨us, ks.zip ws⟩ (g us ws) (gV vs zs) Q E hr I.env0 (hb.to s us ws I.kIn hl) r2 h) fun r s' hq => ?_)
  cases r with
  | error e => exact hx pins σ H s e s' I hq
  | ok fl =>
    cases fl with
    | ret u => exact I.after hq
    | next => exact False.elim hq
    | brk => exact False.elim hq
    | cont => exact False.elim hq
theorem pe_callK (F : FnOk X.prog X.w X.K X.mg X.base CX k f fd ps sp) (hr : Room k X.A) (hg : Gl X x) (hm : X.mg x = some (.ref f)) (hk : PySem.W.keepIn X.K (.ref f) = true) (hb : KBinds X.K fd ps ks g gV) (hx : Passes CX X E)
    (ha : PA X (e :: es) t) (hkw : PK X kws tk) (hall : (backToKw pos (keywordEach kws X.env)).all (·.1.isSome) = true := by rfl) (hks : (backToKw pos (keywordEach kws X.env)).filterMap (·.1) = ks := by rfl)
    (hdb : (x == ("__debug__" : Str)) = false := by decide) (he : starEach (e :: es) X.env = (false, eval e X.env) :: starEach es X.env := by rfl)
    (hpl : ((backTo pos (starEach (e :: es) X.env)).any (·.1) || (backToKw pos (keywordEach kws X.env)).any (·.1.isNone)) = false := by rfl) :
    PE X (.Call (.Name x p) (e :: es) kws pos) (tCallK sp gV E t tk) := by
  intro pins s σ H Q I h
  refine wpAny_Call_Name_kw (ld_glob I hg hm ?_ hdb)
  refine PySem.W.callWith_KW (h₀ := X.base) I.ok.mod.kin hk hall (thn (ha pos pins s σ H _ I h) fun us s1 ⟨vs, H1, I1, r, q⟩ => ?_) hpl he
  refine thn (hkw pos pins s1 σ H1 _ I1 q) fun ws s2 ⟨zs, H2, I2, rz, q2⟩ => ⟨I2.kIn, ?_⟩
  rw [hks]
  exact run_fnk F hr hb hx I2 r rz q2
end
structure FnScope (N P : List Str) (sc : Scope) : Prop where
  kind : sc.kind = .function
  co : sc.isCoroutine = false
  gen : sc.isGenerator = false
  nd : N.Nodup
  pre : N.take P.length = P
  par : ∀ x ∈ P, sc.names.lookup x = some .local ∨ sc.names.lookup x = some .cell
  nofree : ∀ y ∈ sc.names, y.2 ≠ .free
theorem bindL_out {kindOf : Str → Option NameKind} {x : Str} : ∀ {binds : List (Str × Value)} {m : Str → Option Value}, (∀ v, (x, v) ∉ binds) → bindL kindOf binds m x = m x
  | [], _, _ => rfl
  | (n, v) :: r, m, h => by
    unfold bindL
    rw [bindL_out fun w hw => h w (List.mem_cons_of_mem _ hw)]
    split
    · have : x ≠ n := by rintro rfl; exact h v List.mem_cons_self
      simp [this]
    · rfl
theorem bindC_out {kindOf : Str → Option NameKind} {x : Str} : ∀ {binds : List (Str × Value)} {m : Str → Option Value}, (∀ v, (x, v) ∉ binds) → bindC kindOf binds m x = m x
  | [], _, _ => rfl
  | (n, v) :: r, m, h => by
    unfold bindC
    rw [bindC_out fun w hw => h w (List.mem_cons_of_mem _ hw)]
    split
    · rfl
    · have : x ≠ n := by rintro rfl; exact h v List.mem_cons_self
      simp [this]
theorem bindL_get {kindOf : Str → Option NameKind} {x : Str} {v : Value} : ∀ {P : List Str} {vs : List Value} {i : Nat} {m : Str → Option Value}, P.Nodup → P[i]? = some x → vs[i]? = some v → kindOf x = some .local →
    bindL kindOf (P.zip vs) m x = some v
  | [], _, _, _, _, h, _, _ => by simp at h
  | _ :: _, [], _, _, _, _, h, _ => by simp at h
  | p :: P, w :: vs, 0, m, nd, h1, h2, hk => by
    simp at h1 h2; subst h1; subst h2
    show bindL kindOf ((p, w) :: P.zip vs) m p = _
    unfold bindL
    rw [bindL_out fun v hv => (List.nodup_cons.mp nd).1 (List.of_mem_zip hv).1, if_pos hk]
    simp
  | p :: P, w :: vs, i + 1, m, nd, h1, h2, hk => by
    show bindL kindOf ((p, w) :: P.zip vs) m x = _
    unfold bindL
    exact bindL_get (i := i) (List.nodup_cons.mp nd).2 (by simpa using h1) (by simpa using h2) hk
theorem bindC_get {kindOf : Str → Option NameKind} {x : Str} {v : Value} : ∀ {P : List Str} {vs : List Value} {i : Nat} {m : Str → Option Value}, P.Nodup → P[i]? = some x → vs[i]? = some v → kindOf x ≠ some .local →
    bindC kindOf (P.zip vs) m x = some v
  | [], _, _, _, _, h, _, _ => by simp at h
  | _ :: _, [], _, _, _, _, h, _ => by simp at h
  | p :: P, w :: vs, 0, m, nd, h1, h2, hk => by
    simp at h1 h2; subst h1; subst h2
    show bindC kindOf ((p, w) :: P.zip vs) m p = _
    unfold bindC
    rw [bindC_out fun v hv => (List.nodup_cons.mp nd).1 (List.of_mem_zip hv).1, if_neg hk]
    simp
  | p :: P, w :: vs, i + 1, m, nd, h1, h2, hk => by
    show bindC kindOf ((p, w) :: P.zip vs) m x = _
    unfold bindC
    exact bindC_get (i := i) (List.nodup_cons.mp nd).2 (by simpa using h1) (by simpa using h2) hk
def start (N : List Str) (vs : List V) : St := vs.map some ++ List.replicate (N.length - vs.length) none
def cxOf (CX : CXT) (P : Program) (w : World) (K : PySem.W.Frag) (mg : Str → Option Value) (base : Heap) (N : List Str) (qual : Str) (scope : Scope) (f : Addr) (cd : Value) (A : Around) (outer : List Env) (s : Shared) (H : Hp) (E : XK) : Cx where
  prog := P
  w := w
  K := K
  mg := mg
  base := base
  A := A.deeper (envOfC qual scope s.heap.objs.size f cd)
  N := N
  s₀ := s
  H₀ := H
  env := envOfC qual scope s.heap.objs.size f cd
  outer := outer
  stack := envOfC qual scope s.heap.objs.size f cd :: outer
  ex := []
  calm := true
  fn := fun _ => true
  pn := []
  xe := fun e s' => wpAny (model P w) (A.deeper (envOfC qual scope s.heap.objs.size f cd)) (leaving (envOfC qual scope s.heap.objs.size f cd) e) (fun _ s'' => CX outer H s E e s'') (fun e' s'' => CX outer H s E e' s'') s'
theorem cell_has {sc : Scope} {n : Nat} {x : Str} (h : sc.names.lookup x = some .cell) : ∃ c, (cellsFrom n sc.names []).lookup x = some c := by
  have q := PySem.W.cellsFrom_some sc.names n [] (.inl h)
  exact Option.isSome_iff_exists.mp q
theorem inv_start {CX : CXT} {P : Program} {w : World} {K : PySem.W.Frag} {mg : Str → Option Value} {base : Heap} {N ps : List Str} {qual : Str} {scope : Scope} {f : Addr} {cd : Value} {A : Around} {outer : List Env} {s s1 : Shared} {H : Hp} {E : XK} {us : List Value} {vs : List V}
    (S : FnScope N ps scope) (hd : A.handled = none) (e0 : Env0 P w K mg base A outer s H) (hl : vs.length = ps.length) (r : Vals vs us)
    (x : InCallC s s.heap.objs.size (bindL (envOfC qual scope s.heap.objs.size f cd).kindOf (ps.zip us) fun _ => none) (cellsFrom (s.heap.objs.size + 1) scope.names []) (bindC (envOfC qual scope s.heap.objs.size f cd).kindOf (ps.zip us) fun _ => none) s1) :
    Inv (cxOf CX P w K mg base N qual scope f cd A outer s H E) [] (start N vs) H s1 := by
  have hpl : ps.length ≤ N.length := by have := congrArg List.length S.pre; rw [List.length_take] at this; omega
  obtain ⟨h1, tk, rfl, hk⟩ := x.done
  have noA : ∀ b : Addr, b ∉ (cxOf CX P w K mg base N qual scope f cd A outer s H E).ex := fun b z => absurd (show b ∈ ([] : List Addr) from z) (by simp)
  refine ⟨⟨e0.mod, S.kind, rfl, rfl, Nat.le_refl _, fun y z c h1 h2 => ?_, fun y hy => ?_, fun y c _ h => ?_, fun _ => hd, Around.frames_deeper e0.frames, .inr ⟨rfl, rfl⟩, fun b z => absurd z (noA b), e0.bs, e0.bsz, fun b _ _ => noA b, fun b z => absurd z (noA b), e0.funs, e0.frf⟩,
    rfl, e0.bare, Un.kept hk, ⟨_, x.toInCall.ns, fun i y v h1 h2 h3 => ?_⟩, fun y c h => ⟨_, x.cell y c h⟩, e0.hok.fresh (Nat.le_refl _), fun y c h => ?_, fun p hp => absurd (show p ∈ ([] : List (Addr × Obj)) from hp) (by simp), e0.hok.kept hk, ?_⟩
  · exact name_of_addr x.apart (PySem.mem_of_lookup h1) (PySem.mem_of_lookup h2)
  · have hy : scope.names.lookup y = some .cell ∨ scope.names.lookup y = some .free := hy
    rcases hy with hy | hy
    · exact cell_has hy
    · exact absurd rfl (S.nofree _ (PySem.mem_of_lookup hy))
  · exact Nat.le_of_lt (x.above y c (PySem.mem_of_lookup h))
  · have hi : i < vs.length := by
      unfold start at h2
      by_cases hi : i < vs.length
      · exact hi
      · rw [List.getElem?_append_right (by simpa using hi)] at h2
        rw [List.getElem?_replicate] at h2
        split at h2 <;> cases h2
    have ha : vs[i]? = some v := by
      unfold start at h2
      rw [List.getElem?_append_left (by simpa using hi), List.getElem?_map] at h2
      cases e : vs[i]? with
      | none => rw [e] at h2; cases h2
      | some a => rw [e] at h2; cases h2; rfl
    obtain ⟨u, hu, rv⟩ := r.get ha
    have hp : ps[i]? = some y := by
      rw [← S.pre, List.getElem?_take_of_lt (by omega)]; exact h1
    have ndP : ps.Nodup := by rw [← S.pre]; exact S.nd.sublist (List.take_sublist _ _)
    refine ⟨u, rv, ?_⟩
    rcases S.par y (List.mem_of_getElem? hp) with k | k
    · exact .inl ⟨k, bindL_get ndP hp hu k⟩
    · obtain ⟨c, e⟩ := cell_has (n := s.heap.objs.size + 1) k
      refine .inr ⟨.inl k, c, e, ?_⟩
      have q := x.cell y c e
      rw [bindC_get ndP hp hu (by show scope.names.lookup y ≠ _; rw [k]; decide)] at q
      exact q
  · exact e0.hok.fresh (Nat.le_of_lt (x.above y c (PySem.mem_of_lookup h)))
  · unfold start
    show _ = N.length
    rw [List.length_append, List.length_map, List.length_replicate]
    omega
theorem fn_of {CX : CXT} {P : Program} {w : World} {K : PySem.W.Frag} {mg : Str → Option Value} {base : Heap} {k : Nat} {f : Addr} {name qual : Str} {params : Arguments} {body : List Stmt} {scope : Scope} {dV kV doc pm cdv ct oc : Value} {an od : Option Addr}
    {osl : Array (Option Value)} {N ps : List Str} {sp : Sp} (lk : K.lookup f = some ⟨oc, od, .func (PySem.W.fnOf name qual params body scope dV kV doc pm an cdv ct), osl⟩) (hcd : PySem.W.codeIn K cdv qual = true) (S : FnScope N ps scope)
    (len : ∀ vs H Q E, sp vs H Q E → vs.length = ps.length)
    (hbody : ∀ (A : Around) (outer : List Env) (s : Shared) (H : Hp) (vs : List V) (Q : VK) (E : XK), Room k (A.deeper (envOfC qual scope s.heap.objs.size f cdv)) → sp vs H Q E →
      ∃ t, PSs (cxOf CX P w K mg base N qual scope f cdv A outer s H E) body t ∧ t { nx := fun _ H' => Q .non H', rt := Q } (start N vs) H) :
    FnOk P w K mg base CX (k + 1) f (PySem.W.fnOf name qual params body scope dV kV doc pm an cdv ct) ps sp := by
  refine ⟨len, fun A outer s H args us vs Q E hr e0 hb r hsp => ?_⟩
  have hl := len _ _ _ _ hsp
  have KX : K.In s.heap := e0.mod.kin.keeps fun b o e => (e0.bs b o e).1
  have lim : s.heap.NoLimit := e0.mod.nolimit.keeps fun b o e => (e0.bs b o e).1
  have hkind : ∀ y ∈ ps.zip us, scope.names.lookup y.1 = some .local ∨ (scope.names.lookup y.1 = some .cell ∧ ((cellsFrom (s.heap.objs.size + 1) scope.names []).lookup y.1).isSome = true) := fun ⟨n, v⟩ hy => by
    rcases S.par n (List.of_mem_zip hy).1 with q | q
    · exact .inl q
    · exact .inr ⟨q, PySem.W.cellsFrom_some _ _ _ (.inl q)⟩
  refine codeAny_call_function hr.depth (KX _ _ lk) rfl S.co S.gen rfl (PySem.W.codeRec_of KX hcd) (hb _ _ _ _ ?_)
  refine wpAny_newFunctionEnv_cells S.kind hkind fun env he s1 x => ?_
  subst he
  refine ⟨lim.keeps x.toInCall.keep, codeAny_func ?_⟩
  obtain ⟨t, ht, hq⟩ := hbody A outer s H vs Q E (hr.deeper _) hsp
  have I : Inv (cxOf CX P w K mg base N qual scope f cdv A outer s H E) [] (start N vs) H s1 := inv_start S hr.hd e0 hl r x
  refine wpAny_mono (ht [] s1 (start N vs) H _ I hq) (fun fl s' hs => ?_) fun e s' hs => hs
  have fin : ∀ {σ' : St} {H' : Hp} {v : V} {u : Value}, Inv (cxOf CX P w K mg base N qual scope f cdv A outer s H E) [] σ' H' s' → RelV v u → Q v H' → CE outer P w H s Q u s' :=
    fun {σ' H' v u} J rv q => ⟨v, H', J.os, J.bare, J.base, J.hok, rv, q⟩
  cases fl with
  | ret u =>
    obtain ⟨v, σ', H', J, rv, q⟩ := hs
    exact fin J rv q
  | next =>
    obtain ⟨σ', H', J, q⟩ := hs
    exact fin (v := V.non) (u := Value.none) J rfl q
  | brk =>
    obtain ⟨_, _, _, q⟩ := hs
    exact False.elim q
  | cont =>
    obtain ⟨_, _, _, q⟩ := hs
    exact False.elim q
end L2
namespace L2
open PySem PySem.Spec PyProof.Rows
section
variable {X : Cx} {x : Str} {p pos : Pos} {e : Expr} {es : List Expr} {t : TA} {id T : String} {r : List V → Hp → VK → Prop}
def tCB (r : List V → Hp → VK → Prop) (t : TA) : TE := fun σ H Q => t σ H fun vs H1 => r vs H1 Q
theorem pe_callB (hc : CallR X (.builtin id) r) (hg : Gl X x) (hm : X.mg x = none) (hv : bootBuiltins x = some (.builtin id)) (ha : PA X (e :: es) t) (hn : x ≠ "__name__" := by decide) (hdb : (x == ("__debug__" : Str)) = false := by decide)
    (he : starEach (e :: es) X.env = (false, eval e X.env) :: starEach es X.env := by rfl) (hpl : (backTo pos (starEach es X.env)).any (·.1) = false := by rfl) : PE X (.Call (.Name x p) (e :: es) [] pos) (tCB r t) := by
  intro pins s σ H Q I h
  refine wpAny_Call_Name_kw (ld_blt I hg hm hv ?_ hn hdb)
  exact PyProof.Rows.callWith_builtin1 (thn (ha pos pins s σ H _ I h) fun us s1 ⟨vs, H1, I1, r1, q1⟩ => hc pins s1 σ H1 vs us Q I1 r1 q1) he hpl
theorem pe_callTy (hc : CallR X (.type T) r) (hg : Gl X x) (hm : X.mg x = none) (hv : bootBuiltins x = some (.type T)) (ha : PA X (e :: es) t) (hn : x ≠ "__name__" := by decide) (hdb : (x == ("__debug__" : Str)) = false := by decide)
    (he : starEach (e :: es) X.env = (false, eval e X.env) :: starEach es X.env := by rfl) (hpl : (backTo pos (starEach es X.env)).any (·.1) = false := by rfl) : PE X (.Call (.Name x p) (e :: es) [] pos) (tCB r t) := by
  intro pins s σ H Q I h
  refine wpAny_Call_Name_kw (ld_blt I hg hm hv ?_ hn hdb)
  exact PyProof.Rows.callWith_type1 (thn (ha pos pins s σ H _ I h) fun us s1 ⟨vs, H1, I1, r1, q1⟩ => hc pins s1 σ H1 vs us Q I1 r1 q1) he hpl
theorem pe_callTy0 (hc : CallR X (.type T) r) (hg : Gl X x) (hm : X.mg x = none) (hv : bootBuiltins x = some (.type T)) (hn : x ≠ "__name__" := by decide) (hdb : (x == ("__debug__" : Str)) = false := by decide) :
    PE X (.Call (.Name x p) [] [] pos) (tCB r tNil) := by
  intro pins s σ H Q I h
  refine wpAny_Call_Name_kw (ld_blt I hg hm hv ?_ hn hdb)
  exact PyProof.Rows.callWith_type0 (hc pins s σ H [] [] Q I .nil h)
end
end L2
namespace L2
open PySem PySem.Spec PyProof.Rows
section
variable {κ : Type} [DecidableEq κ]
def valV (kvs : List (κ × V)) (k : κ) : Option V := (kvs.find? fun kv => decide (kv.1 = k)).map (·.2)
def putK (kvs : List (κ × V)) (k : κ) (v : V) : List (κ × V) :=
  if (kvs.any fun kv => decide (kv.1 = k)) = true then kvs.map (fun kv => if kv.1 = k then (kv.1, v) else kv) else kvs ++ [(k, v)]
def dropK (kvs : List (κ × V)) (k : κ) : List (κ × V) := kvs.filter fun kv => decide (kv.1 ≠ k)
theorem valV_nil {k : κ} : valV ([] : List (κ × V)) k = none := rfl
theorem valV_pos {p : κ × V} {r : List (κ × V)} {k : κ} (e : p.1 = k) : valV (p :: r) k = some p.2 := by simp [valV, List.find?_cons, e]
theorem valV_neg {p : κ × V} {r : List (κ × V)} {k : κ} (e : ¬ p.1 = k) : valV (p :: r) k = valV r k := by simp [valV, List.find?_cons, e]
theorem valV_any (k : κ) : ∀ kvs : List (κ × V), (kvs.any fun kv => decide (kv.1 = k)) = (valV kvs k).isSome
  | [] => rfl
  | p :: r => by
    rw [List.any_cons]
    by_cases e : p.1 = k
    · simp only [valV_pos e, decide_eq_true e, Bool.true_or, Option.isSome_some]
    · rw [valV_neg e, decide_eq_false e, Bool.false_or]; exact valV_any k r
theorem valV_map (k j : κ) (y : V) : ∀ kvs : List (κ × V), valV (kvs.map fun kv => if kv.1 = k then (kv.1, y) else kv) j = (valV kvs j).map fun x => if j = k then y else x
  | [] => rfl
  | p :: r => by
    have ih := valV_map k j y r
    rw [List.map_cons]
    by_cases h : p.1 = k
    · rw [if_pos h]
      by_cases e : p.1 = j
      · rw [valV_pos (p := (p.1, y)) e, valV_pos e, Option.map_some, if_pos (e.symm.trans h)]
      · rw [valV_neg (p := (p.1, y)) e, valV_neg e, ih]
    · rw [if_neg h]
      by_cases e : p.1 = j
      · rw [valV_pos (p := p) e, valV_pos e, Option.map_some, if_neg (fun z => h (e.trans z))]
      · rw [valV_neg (p := p) e, valV_neg e, ih]
theorem valV_snoc (k j : κ) (y : V) : ∀ kvs : List (κ × V), valV kvs k = none → valV (kvs ++ [(k, y)]) j = if j = k then some y else valV kvs j
  | [], _ => by
    by_cases e : k = j
    · rw [if_pos e.symm]; exact valV_pos (p := (k, y)) e
    · rw [if_neg (fun z => e z.symm)]; exact valV_neg (p := (k, y)) e
  | p :: r, hn => by
    rw [List.cons_append]
    have hk : ¬ p.1 = k := fun z => by rw [valV_pos z] at hn; cases hn
    rw [valV_neg hk] at hn
    have ih := valV_snoc k j y r hn
    by_cases e : p.1 = j
    · rw [valV_pos e, valV_pos e, if_neg (fun z => hk (e.trans z))]
    · rw [valV_neg e, valV_neg e, ih]
theorem valV_put (kvs : List (κ × V)) (k j : κ) (y : V) : valV (putK kvs k y) j = if j = k then some y else valV kvs j := by
  unfold putK
  by_cases a : (kvs.any fun kv => decide (kv.1 = k)) = true
  · rw [if_pos a, valV_map]
    rw [valV_any] at a
    by_cases e : j = k
    · obtain ⟨x, hx⟩ := Option.isSome_iff_exists.mp a
      rw [if_pos e, e, hx, Option.map_some, if_pos rfl]
    · rw [if_neg e]
      cases valV kvs j with
      | none => rfl
      | some x => rw [Option.map_some, if_neg e]
  · rw [if_neg a]
    refine valV_snoc k j y kvs ?_
    rw [valV_any] at a
    cases q : valV kvs k with
    | none => rfl
    | some x => rw [q] at a; exact (a rfl).elim
theorem length_putK (kvs : List (κ × V)) (k : κ) (v : V) : (putK kvs k v).length ≤ kvs.length + 1 := by
  unfold putK
  split
  · rw [List.length_map]; omega
  · rw [List.length_append, List.length_cons, List.length_nil]; omega
theorem putK_new {kvs : List (κ × V)} {k : κ} (v : V) (h : valV kvs k = none) : putK kvs k v = kvs ++ [(k, v)] := by
  unfold putK
  rw [valV_any, h]
  exact if_neg (by decide)
theorem RelO.isSome_eq {o : Option V} {u : Option Value} (r : RelO o u) : o.isSome = u.isSome := by
  cases o with
  | none => cases u with
    | none => rfl
    | some _ => exact (show False from r).elim
  | some _ => cases u with
    | none => exact (show False from r).elim
    | some _ => rfl
theorem RelO.getD {o : Option V} {u : Option Value} {d : V} {d' : Value} (r : RelO o u) (rd : RelV d d') : RelV (o.getD d) (u.getD d') := by
  cases o with
  | none => cases u with
    | none => exact rd
    | some _ => exact (show False from r).elim
  | some _ => cases u with
    | none => exact (show False from r).elim
    | some _ => exact r
theorem KV.val {kvs : List (κ × V)} {vs : List (κ × Value)} (r : KV kvs vs) (k : κ) : RelO (valV kvs k) (valueAt vs k) := by
  unfold KV at r
  induction r with
  | nil => exact True.intro
  | @cons p q ps qs h t ih =>
    obtain ⟨h1, h2⟩ := h
    by_cases e : p.1 = k
    · have e' : q.1 = k := h1.symm.trans e
      have b : valueAt (q :: qs) k = some q.2 := by simp [valueAt, List.find?_cons, e']
      rw [valV_pos e, b]; exact h2
    · have e' : ¬ q.1 = k := fun z => e (h1.trans z)
      have b : valueAt (q :: qs) k = valueAt qs k := by simp [valueAt, List.find?_cons, e']
      rw [valV_neg e, b]; exact ih
theorem KV.any {kvs : List (κ × V)} {vs : List (κ × Value)} (r : KV kvs vs) (k : κ) : (kvs.any fun kv => decide (kv.1 = k)) = vs.any fun kv => decide (kv.1 = k) := by
  unfold KV at r
  induction r with
  | nil => rfl
  | cons h t ih => rw [List.any_cons, List.any_cons, ih, h.1]
theorem KV.repl {kvs : List (κ × V)} {vs : List (κ × Value)} (r : KV kvs vs) (k : κ) {y : V} {u : Value} (ry : RelV y u) :
    KV (kvs.map fun kv => if kv.1 = k then (kv.1, y) else kv) (vs.map fun kv => if kv.1 = k then (kv.1, u) else kv) := by
  unfold KV at r ⊢
  induction r with
  | nil => exact .nil
  | @cons p q ps qs h t ih =>
    rw [List.map_cons, List.map_cons]
    refine .cons ?_ ih
    obtain ⟨h1, h2⟩ := h
    by_cases e : p.1 = k
    · rw [if_pos e, if_pos (h1.symm.trans e)]; exact ⟨h1, ry⟩
    · rw [if_neg e, if_neg (fun z => e (h1.trans z))]; exact ⟨h1, h2⟩
theorem KV.put {kvs : List (κ × V)} {vs : List (κ × Value)} (r : KV kvs vs) (k : κ) {y : V} {u : Value} (ry : RelV y u) : KV (putK kvs k y) (stored vs k u) := by
  unfold putK stored
  rw [r.any k]
  by_cases e : (vs.any fun kv => decide (kv.1 = k)) = true
  · rw [if_pos e, if_pos e]; exact r.repl k ry
  · rw [if_neg e, if_neg e]; exact Paired.snoc r ⟨rfl, ry⟩
theorem KV.drop {kvs : List (κ × V)} {vs : List (κ × Value)} (r : KV kvs vs) (k : κ) : KV (dropK kvs k) (without vs k) := by
  unfold KV at r ⊢
  unfold dropK without
  induction r with
  | nil => exact .nil
  | @cons p q ps qs h t ih =>
    obtain ⟨h1, h2⟩ := h
    rw [List.filter_cons, List.filter_cons]
    by_cases e : p.1 = k
    · have a : ¬ decide (p.1 ≠ k) = true := by simp [e]
      have b : ¬ decide (q.1 ≠ k) = true := by simp [h1.symm.trans e]
      rw [if_neg a, if_neg b]; exact ih
    · have e' : ¬ q.1 = k := fun z => e (h1.trans z)
      have a : decide (p.1 ≠ k) = true := by simp [e]
      have b : decide (q.1 ≠ k) = true := by simp [e']
      rw [if_pos a, if_pos b]; exact .cons ⟨h1, h2⟩ ih
theorem KV.keys {kvs : List (κ × V)} {vs : List (κ × Value)} (r : KV kvs vs) : kvs.map (·.1) = vs.map (·.1) := by
  unfold KV at r
  induction r with
  | nil => rfl
  | cons h t ih => rw [List.map_cons, List.map_cons, ih, h.1]
theorem KV.length {kvs : List (κ × V)} {vs : List (κ × Value)} (r : KV kvs vs) : kvs.length = vs.length := Paired.length r
theorem dropK_le (kvs : List (κ × V)) (k : κ) : (dropK kvs k).length ≤ kvs.length := List.length_filter_le _ _
end
theorem kV_is {P : Program} {w : World} {k : Key} {u : Value} (r : RelV (kV k) u) : (mixKind P w).is k u = true := by
  cases k with
  | inl i => obtain ⟨t, e⟩ := (show ∃ t, u = Value.int i t from r); subst e; exact mixKind_int P w i t
  | inr x => obtain ⟨t, e⟩ := (show ∃ t, u = Value.str x t from r); subst e; exact mixKind_str P w x t
theorem kV_inj {a b : Key} (e : kV a = kV b) : a = b := by
  cases a with
  | inl i => cases b with
    | inl j => have e' : V.int i = V.int j := e; injection e' with e'; rw [e']
    | inr y => exact nomatch (show V.int i = V.str y from e)
  | inr x => cases b with
    | inl j => exact nomatch (show V.str x = V.int j from e)
    | inr y => have e' : V.str x = V.str y := e; injection e' with e'; rw [e']
theorem kVs_inj : ∀ {a b : List Key}, a.map kV = b.map kV → a = b
  | [], [], _ => rfl
  | [], _ :: _, e => by simp at e
  | _ :: _, [], e => by simp at e
  | x :: xs, y :: ys, e => by
    rw [List.map_cons, List.map_cons] at e
    injection e with e1 e2
    rw [kV_inj e1, kVs_inj e2]
theorem items_are {P : Program} {w : World} : ∀ {ks : List Key} {us : List Value}, Vals (ks.map kV) us → ItemsAre (mixKind P w) ks us
  | [], _, r => by rw [List.map_nil] at r; cases r; exact .nil
  | k :: ks, _, r => by
    rw [List.map_cons] at r
    cases r with
    | cons h t => exact .cons (kV_is h) (items_are t)
abbrev KT (H : Hp) : List (List Key × V) → List (List Key × Addr × Value) → Prop := Paired fun p q => p.1 = q.1 ∧ H q.2.1 = some (.tup (p.1.map kV)) ∧ RelV p.2 q.2.2
theorem KT.val {H : Hp} {kvs : List (List Key × V)} {xs : List (List Key × Addr × Value)} (r : KT H kvs xs) (k : List Key) : RelO (valV kvs k) ((atKey xs k).map (·.2)) := by
  induction r with
  | nil => exact True.intro
  | @cons p q ps qs h t ih =>
    obtain ⟨h1, _, h2⟩ := h
    by_cases e : p.1 = k
    · have e' : q.1 = k := h1.symm.trans e
      have b : atKey (q :: qs) k = some q.2 := by simp [atKey, List.find?_cons, e']
      rw [valV_pos e, b]; exact h2
    · have e' : ¬ q.1 = k := fun z => e (h1.trans z)
      have b : atKey (q :: qs) k = atKey qs k := by simp [atKey, List.find?_cons, e']
      rw [valV_neg e, b]; exact ih
theorem KT.repl {H : Hp} {kvs : List (List Key × V)} {xs : List (List Key × Addr × Value)} (r : KT H kvs xs) (k : List Key) {y : V} {u : Value} (ry : RelV y u) :
    KT H (kvs.map fun kv => if kv.1 = k then (kv.1, y) else kv) (xs.map (putAt k u)) := by
  induction r with
  | nil => exact .nil
  | @cons p q ps qs h t ih =>
    rw [List.map_cons, List.map_cons]
    refine .cons ?_ ih
    obtain ⟨h1, h2, h3⟩ := h
    unfold putAt
    by_cases e : p.1 = k
    · rw [if_pos e, if_pos (h1.symm.trans e)]; exact ⟨h1, h2, ry⟩
    · rw [if_neg e, if_neg (fun z => e (h1.trans z))]; exact ⟨h1, h2, h3⟩
theorem KT.put {H : Hp} {kvs : List (List Key × V)} {xs : List (List Key × Addr × Value)} (r : KT H kvs xs) (k : List Key) {b : Addr} {y : V} {u : Value} (hb : H b = some (.tup (k.map kV))) (ry : RelV y u) :
    KT H (putK kvs k y) (storedH xs k b u) := by
  have e : (kvs.any fun kv => decide (kv.1 = k)) = (atKey xs k).isSome := by
    rw [valV_any, (r.val k).isSome_eq, Option.isSome_map]
  unfold putK storedH
  rw [e]
  by_cases q : (atKey xs k).isSome = true
  · rw [if_pos q, if_pos q]; exact r.repl k ry
  · rw [if_neg q, if_neg q]; exact Paired.snoc r ⟨rfl, hb, ry⟩
theorem KT.keeps {H H' : Hp} {kvs : List (List Key × V)} {xs : List (List Key × Addr × Value)} (r : KT H kvs xs) (ht : ∀ b ys, H b = some (.tup ys) → H' b = some (.tup ys)) : KT H' kvs xs :=
  Paired.mapP r fun _ _ z => ⟨z.1, ht _ _ z.2.1, z.2.2⟩
section
variable {P : Program} {w : World} {H : Hp} {h : Heap} {a : Addr}
theorem rd_of {u : HO} (ok : HOk P w H h) (e : Rd H a u) : ObjOk P w H h a u := e.ok ok
theorem dk_rd {kvs : List (Key × V)} (ok : HOk P w H h) (e : Rd H a (.dK kvs)) : kvs.length ≤ sizeLine ∧ (a == sysModules) = false ∧ ∃ vs, KV kvs vs ∧ h.DictOf (mixKind P w) a vs :=
  show ObjOk P w H h a (.dK kvs) from rd_of ok e
theorem dk_of {kvs : List (Key × V)} (ok : HOk P w H h) (e : H a = some (.dK kvs)) : kvs.length ≤ sizeLine ∧ (a == sysModules) = false ∧ ∃ vs, KV kvs vs ∧ h.DictOf (mixKind P w) a vs := dk_rd ok (.inl e)
theorem key_of {ks : List Key} (ok : HOk P w H h) (e : H a = some (.tup (ks.map kV))) : (tupleKind (mixKind P w)).is h ks a := by
  obtain ⟨_, its, r, o, h1, h2, n, h3⟩ := (show ObjOk P w H h a (.tup (ks.map kV)) from ok a _ e)
  exact ⟨o, its.toArray, n, h1, h2, h3, by simpa using items_are r⟩
theorem dt_rd {kvs : List (List Key × V)} (ok : HOk P w H h) (e : Rd H a (.dT kvs)) : kvs.length ≤ sizeLine ∧ (a == sysModules) = false ∧
    ∃ xs, KT H kvs xs ∧ h.DictOfH (tupleKind (mixKind P w)) a xs := by
  obtain ⟨z, y, xs, r, o, es, ep, h1, h2, h3, h4, h5⟩ := (show ObjOk P w H h a (.dT kvs) from rd_of ok e)
  refine ⟨z, y, xs, r, o, es, ep, h1, h2, h3, h4, fun x hx => ?_, h5⟩
  have all : ∀ {l : List (List Key × V)} {m : List (List Key × Addr × Value)}, KT H l m → ∀ x ∈ m, (tupleKind (mixKind P w)).is h x.1 x.2.1 := by
    intro l m q
    induction q with
    | nil => intro x hx; exact nomatch hx
    | @cons p q ps qs hq t ih =>
      intro x hx
      rcases List.mem_cons.mp hx with e | hx
      · subst e
        exact key_of ok (by rw [← hq.1]; exact hq.2.1)
      · exact ih x hx
  exact all r x hx
theorem dt_of {kvs : List (List Key × V)} (ok : HOk P w H h) (e : H a = some (.dT kvs)) : kvs.length ≤ sizeLine ∧ (a == sysModules) = false ∧
    ∃ xs, KT H kvs xs ∧ h.DictOfH (tupleKind (mixKind P w)) a xs := dt_rd ok (.inl e)
end
def DGet (H : Hp) (a : Addr) (y : V) (r : Option V) : Prop :=
  (∃ kvs k, Rd H a (.dK kvs) ∧ y = kV k ∧ r = valV kvs k) ∨ ∃ kvs k b, Rd H a (.dT kvs) ∧ y = .ref b ∧ H b = some (.tup (k.map kV)) ∧ r = valV kvs k
def DPut (H : Hp) (a : Addr) (y v : V) (H' : Hp) : Prop :=
  (∃ kvs k, H a = some (.dK kvs) ∧ y = kV k ∧ kvs.length < sizeLine ∧ H' = upd H a (.dK (putK kvs k v))) ∨
  ∃ kvs k b, H a = some (.dT kvs) ∧ y = .ref b ∧ H b = some (.tup (k.map kV)) ∧ kvs.length < sizeLine ∧ H' = upd H a (.dT (putK kvs k v))
theorem DGet.k {H : Hp} {a : Addr} {kvs : List (Key × V)} {k : Key} (e : H a = some (.dK kvs)) : DGet H a (kV k) (valV kvs k) := .inl ⟨kvs, k, .inl e, rfl, rfl⟩
theorem DGet.t {H : Hp} {a b : Addr} {kvs : List (List Key × V)} {k : List Key} (e : H a = some (.dT kvs)) (eb : H b = some (.tup (k.map kV))) : DGet H a (.ref b) (valV kvs k) := .inr ⟨kvs, k, b, .inl e, rfl, eb, rfl⟩
theorem DPut.k {H : Hp} {a : Addr} {kvs : List (Key × V)} {k : Key} {v : V} (e : H a = some (.dK kvs)) (hl : kvs.length < sizeLine) : DPut H a (kV k) v (upd H a (.dK (putK kvs k v))) := .inl ⟨kvs, k, e, rfl, hl, rfl⟩
theorem DPut.t {H : Hp} {a b : Addr} {kvs : List (List Key × V)} {k : List Key} {v : V} (e : H a = some (.dT kvs)) (eb : H b = some (.tup (k.map kV))) (hl : kvs.length < sizeLine) :
    DPut H a (.ref b) v (upd H a (.dT (putK kvs k v))) := .inr ⟨kvs, k, b, e, rfl, eb, hl, rfl⟩
section
variable {X : Cx} {pins : List (Addr × Obj)} {σ : St} {H : Hp} {s : Shared} {a : Addr} {y v : V} {u r : Value} {o : Option V} {A : Around} {E : Value → Shared → Prop}
theorem Inv.big (I : Inv X pins σ H s) : sysModules < s.heap.objs.size := by
  have h : mainGlobals < s.heap.objs.size := (I.mod.glob.keeps I.bk).lt
  exact Nat.lt_trans (by decide) h
theorem d_getItem {Q : Value → Shared → Prop} (hu : A.units + 1 < cLine) (I : Inv X pins σ H s) (g : DGet H a y (some v)) (ry : RelV y u) (h : ∀ w' s', Inv X pins σ H s' → RelV v w' → Q w' s') :
    wpAny (model X.prog X.w) A (getItem (.ref a) u) Q E s := by
  rcases g with ⟨kvs, k, e, ey, l⟩ | ⟨kvs, k, b, e, ey, eb, l⟩
  · subst ey
    obtain ⟨z, hd, vs, rel, dd⟩ := dk_rd I.hok e
    obtain ⟨w', hw, rw'⟩ := RelO.some_of (v := v) (o := valueAt vs k) (by rw [l]; exact rel.val k)
    exact wpAny_getItem_of (kV_is ry) dd.mapOf hw (h w' _ (I.tok _) rw')
  · subst ey
    cases (show u = Value.ref b from ry)
    obtain ⟨z, hd, xs, rel, dd⟩ := dt_rd I.hok e
    obtain ⟨w', hw, rw'⟩ := RelO.some_of (v := v) (o := (atKey xs k).map (·.2)) (by rw [l]; exact rel.val k)
    obtain ⟨p, hp, hp2⟩ := Option.map_eq_some_iff.mp hw
    refine wpAny_getItem_heap (tupleKind_room_in1 hu) (key_of I.hok eb) dd hp ?_
    rw [hp2]
    exact h w' _ (I.tok _) rw'
theorem d_in {Q : Value → Shared → Prop} (hu : A.units + 1 < cLine) (I : Inv X pins σ H s) (g : DGet H a y o) (ry : RelV y u) (h : ∀ s', Inv X pins σ H s' → Q (.bool o.isSome) s') :
    wpAny (model X.prog X.w) A (compareOp .In u (.ref a)) Q E s := by
  rcases g with ⟨kvs, k, e, ey, l⟩ | ⟨kvs, k, b, e, ey, eb, l⟩
  · subst ey
    obtain ⟨z, hd, vs, rel, dd⟩ := dk_rd I.hok e
    refine wpAny_in_of (kV_is ry) hd dd.mapOf ?_
    rw [← (rel.val k).isSome_eq, ← l]
    exact h _ (I.tok _)
  · subst ey
    cases (show u = Value.ref b from ry)
    obtain ⟨z, hd, xs, rel, dd⟩ := dt_rd I.hok e
    refine wpAny_in_heap (tupleKind_room_in1 hu) (key_of I.hok eb) hd dd ?_
    have q := (rel.val k).isSome_eq
    rw [Option.isSome_map] at q
    rw [← q, ← l]
    exact h _ (I.tok _)
theorem d_notIn {Q : Value → Shared → Prop} (hu : A.units + 1 < cLine) (I : Inv X pins σ H s) (g : DGet H a y o) (ry : RelV y u) (h : ∀ s', Inv X pins σ H s' → Q (.bool (!o.isSome)) s') :
    wpAny (model X.prog X.w) A (compareOp .NotIn u (.ref a)) Q E s := by
  rcases g with ⟨kvs, k, e, ey, l⟩ | ⟨kvs, k, b, e, ey, eb, l⟩
  · subst ey
    obtain ⟨z, hd, vs, rel, dd⟩ := dk_rd I.hok e
    refine wpAny_notIn_of (kV_is ry) hd dd.mapOf ?_
    rw [← (rel.val k).isSome_eq, ← l]
    exact h _ (I.tok _)
  · subst ey
    cases (show u = Value.ref b from ry)
    obtain ⟨z, hd, xs, rel, dd⟩ := dt_rd I.hok e
    refine wpAny_notIn_heap (tupleKind_room_in1 hu) (key_of I.hok eb) hd dd ?_
    have q := (rel.val k).isSome_eq
    rw [Option.isSome_map] at q
    rw [← q, ← l]
    exact h _ (I.tok _)
theorem d_write {h' : Heap} {t' : Nat} {ob : HO} (I : Inv X pins σ H s) (mu : Mut (H a)) (hs : Heap.SameBut a s.heap h') (he : ∃ q, h'.get? a = some q) (new : ObjOk X.prog X.w (upd H a ob) h' a ob) :
    Inv X pins σ (upd H a ob) { s with heap := h', toks := t' } :=
  I.write (x := a) (e := a) mu (.inl rfl) (fun b q hb z => (hs.2 b hb).trans z) he new
theorem dk_new {P : Program} {w : World} {H' : Hp} {h' : Heap} {kvs : List (Key × V)} {vs : List (Key × Value)} (z : kvs.length ≤ sizeLine) (hd : (a == sysModules) = false) (rel : KV kvs vs) (dd : h'.DictOf (mixKind P w) a vs) :
    ObjOk P w H' h' a (.dK kvs) := ⟨z, hd, vs, rel, dd⟩
theorem d_setItem {H' : Hp} {Q : Unit → Shared → Prop} (hu : A.units + 1 < cLine) (I : Inv X pins σ H s) (g : DPut H a y v H') (ry : RelV y u) (rv : RelV v r) (h : ∀ s', Inv X pins σ H' s' → Q () s') :
    wpAny (model X.prog X.w) A (setItem (.ref a) u r) Q E s := by
  rcases g with ⟨kvs, k, e, ey, l, eH⟩ | ⟨kvs, k, b, e, ey, eb, l, eH⟩
  · subst ey eH
    obtain ⟨z, hd, vs, rel, dd⟩ := dk_of I.hok e
    have hz : vs.length ≤ sizeLine := by rw [← rel.length]; exact z
    have hl : (putK kvs k v).length ≤ sizeLine := by have := length_putK kvs k v; omega
    refine wpAny_setItem_pairs (hsz := hz) (kV_is ry) dd fun h' dd' hs => h _ ?_
    have he : ∃ q, h'.get? a = some q := let ⟨q, _, _, hq, _⟩ := dd'; ⟨q, hq⟩
    exact d_write I (by rw [e]; exact True.intro) hs he (dk_new hl hd (rel.put k rv) dd')
  · subst ey eH
    cases (show u = Value.ref b from ry)
    obtain ⟨z, hd, xs, rel, dd⟩ := dt_of I.hok e
    have hz : xs.length ≤ sizeLine := by rw [← Paired.length rel]; exact z
    have hl : (putK kvs k v).length ≤ sizeLine := by have := length_putK kvs k v; omega
    refine wpAny_setItem_heap (hsz := hz) (tupleKind_room_in1 hu) (key_of I.hok eb) dd fun h' dd' hs => h _ ?_
    obtain ⟨q, es, ep, hq, h2, h3, h4, _, h5⟩ := dd'
    refine d_write I (by rw [e]; exact True.intro) hs ⟨q, hq⟩ ⟨hl, hd, _, (rel.put k eb rv).keeps fun c ys ec => ?_, q, es, ep, hq, h2, h3, h4, h5⟩
    rw [upd_ne (ne_of ec e (fun z => nomatch z))]
    exact ec
end
section
variable {X : Cx} {pins : List (Addr × Obj)} {σ : St} {H : Hp} {s : Shared} {a : Addr} {kvs : List (Key × V)} {k : Key} {u : Value} {A : Around} {E : Value → Shared → Prop}
theorem d_delItem {Q : Unit → Shared → Prop} (I : Inv X pins σ H s) (e : H a = some (.dK kvs)) (ry : RelV (kV k) u) (l : (valV kvs k).isSome = true) (h : ∀ s', Inv X pins σ (upd H a (.dK (dropK kvs k))) s' → Q () s') :
    wpAny (model X.prog X.w) A (delItem (.ref a) u) Q E s := by
  obtain ⟨z, hd, vs, rel, dd⟩ := dk_of I.hok e
  refine wpAny_delItem_slot dd.typeIs (by decide) PySem.F.slot_dict_delitem
    (call_meetsIn PySem.F.slot_dict_delitem dd.typeIs PySem.F.entry_dict_delitem (PySem.F.args_dict_delitem_2 _ _) (meets_dict_delitem_pairs (mixKind X.prog X.w) a (kV_is ry)) ⟨vs, dd, by rw [← rel.length]; exact z, by rw [← (rel.val k).isSome_eq]; exact l, fun h' dd' hs => h _ ?_⟩)
  have he : ∃ q, h'.get? a = some q := let ⟨q, _, _, hq, _⟩ := dd'; ⟨q, hq⟩
  exact d_write I (by rw [e]; exact True.intro) hs he (dk_new (Nat.le_trans (dropK_le kvs k) z) hd (rel.drop k) dd')
theorem d_pop {v : V} {more : List Value} {Q : Value → Shared → Prop} (I : Inv X pins σ H s) (e : H a = some (.dK kvs)) (ry : RelV (kV k) u) (l : valV kvs k = some v) (hm : more = [] ∨ ∃ x, more = [x])
    (h : ∀ w' s', Inv X pins σ (upd H a (.dK (dropK kvs k))) s' → RelV v w' → Q w' s') : wpAny (model X.prog X.w) A (call (.builtin "dict.pop") (.ref a :: u :: more)) Q E s := by
  obtain ⟨z, hd, vs, rel, dd⟩ := dk_of I.hok e
  obtain ⟨w', hw, rw'⟩ := RelO.some_of (v := v) (o := valueAt vs k) (by rw [← l]; exact rel.val k)
  have hp : (keyPart u).isSome = true := by
    cases k with
    | inl i => obtain ⟨t, q⟩ := (show ∃ t, u = Value.int i t from ry); subst q; rfl
    | inr x => obtain ⟨t, q⟩ := (show ∃ t, u = Value.str x t from ry); subst q; rfl
  have ha : argsOk "dict.pop" ⟨.ref a :: u :: more, []⟩ := by
    rcases hm with q | ⟨x, q⟩
    · subst q; exact PySem.F.args_dict_pop_2 _ _
    · subst q; exact PySem.F.args_dict_pop_3 _ _ _
  refine call_meetsIn PySem.F.slot_dict_pop dd.typeIs PySem.F.entry_dict_pop ha (meets_dict_pop_there (mixKind X.prog X.w) a (kV_is ry) more hm hp)
    ⟨vs, w', dd, by rw [← rel.length]; exact z, hw, fun h' dd' hs => h w' _ ?_ rw'⟩
  have he : ∃ q, h'.get? a = some q := let ⟨q, _, _, hq, _⟩ := dd'; ⟨q, hq⟩
  exact d_write I (by rw [e]; exact True.intro) hs he (dk_new (Nat.le_trans (dropK_le kvs k) z) hd (rel.drop k) dd')
theorem d_popD {r : Value} {Q : Value → Shared → Prop} (I : Inv X pins σ H s) (e : H a = some (.dK kvs)) (ry : RelV (kV k) u) (l : valV kvs k = none) (h : ∀ s', Inv X pins σ H s' → Q r s') :
    wpAny (model X.prog X.w) A (call (.builtin "dict.pop") [.ref a, u, r]) Q E s := by
  obtain ⟨z, hd, vs, rel, dd⟩ := dk_of I.hok e
  have hn : valueAt vs k = none := RelO.none_of (by rw [← l]; exact rel.val k)
  have hp : (keyPart u).isSome = true := by
    cases k with
    | inl i => obtain ⟨t, q⟩ := (show ∃ t, u = Value.int i t from ry); subst q; rfl
    | inr x => obtain ⟨t, q⟩ := (show ∃ t, u = Value.str x t from ry); subst q; rfl
  exact call_meetsIn PySem.F.slot_dict_pop dd.typeIs PySem.F.entry_dict_pop (PySem.F.args_dict_pop_3 _ _ _) (meets_dict_pop_default (mixKind X.prog X.w) a (kV_is ry) hd hp r) ⟨vs, dd, hn, h _ (I.tok _)⟩
theorem d_clear {Q : Value → Shared → Prop} (I : Inv X pins σ H s) (e : H a = some (.dK kvs)) (h : ∀ s', Inv X pins σ (upd H a (.dK [])) s' → Q .none s') : wpAny (model X.prog X.w) A (call (.builtin "dict.clear") [.ref a]) Q E s := by
  obtain ⟨z, hd, vs, rel, dd⟩ := dk_of I.hok e
  refine call_meetsIn PySem.F.slot_dict_clear dd.typeIs PySem.F.entry_dict_clear (PySem.F.args_dict_clear_1 _) (meets_dict_clear (mixKind X.prog X.w) a) ⟨vs, dd, by rw [← rel.length]; exact z, fun h' dd' hs => h _ ?_⟩
  have he : ∃ q, h'.get? a = some q := let ⟨q, _, _, hq, _⟩ := dd'; ⟨q, hq⟩
  exact d_write (t' := s.toks) I (by rw [e]; exact True.intro) hs he (dk_new (Nat.zero_le _) hd .nil dd')
theorem d_len {Q : Value → Shared → Prop} (I : Inv X pins σ H s) (e : Rd H a (.dK kvs)) (h : ∀ t s', Inv X pins σ H s' → Q (.int kvs.length t) s') : wpAny (model X.prog X.w) A (call (.builtin "len") [.ref a]) Q E s := by
  obtain ⟨z, hd, vs, rel, dd⟩ := dk_rd I.hok e
  refine call_len_dict hd dd (by rw [← rel.length]; rw [sizeLine_eq] at z; omega) ?_
  rw [← rel.length]
  exact h _ _ (I.tok _)
theorem d_truth {Q : Bool → Shared → Prop} (I : Inv X pins σ H s) (e : Rd H a (.dK kvs)) (h : ∀ s', Inv X pins σ H s' → Q (!kvs.isEmpty) s') : wpAny (model X.prog X.w) A (truthy (.ref a)) Q E s := by
  obtain ⟨z, hd, vs, rel, dd⟩ := dk_rd I.hok e
  refine wpAny_truthy_dict hd dd (by rw [← rel.length]; rw [sizeLine_eq] at z; omega) ?_
  have q : kvs.isEmpty = vs.isEmpty := by cases rel <;> rfl
  rw [← q]
  exact h _ (I.tok _)
end
def NoSl (i : Expr) : Prop := ∀ ov iv, subscripted i false ov iv = operate [ov, iv] (getItem ov iv)
theorem subD_of {prog : Program} {w : World} {A : Around} {E : Value → Shared → Prop} {s : Shared} {env : Env} {value slice : Expr} {pos : Pos} {T id : String} {Q : Value → Shared → Prop}
    (hl : typeLookup (.type T) "__getitem__" = pure (some (.builtin id))) (hs : NoSl slice)
    (h : wpAny (model prog w) A (eval value env) (fun o s₁ => wpAny (model prog w) A (eval slice env) (fun i s₂ => s₂.TypeIs o T ∧ wpAny (model prog w) A (getItem o i) Q E s₂) E s₁) E s) :
    wpAny (model prog w) A (eval (.Subscript value slice pos) env) Q E s := by
  refine Subscript_ (wpAny_mono h (fun o s₁ h₁ => wpAny_mono h₁ (fun i s₂ h₂ => ?_) fun _ _ x => x) fun _ _ x => x)
  obtain ⟨hT, h₂⟩ := h₂
  unfold subscriptTail
  refine wpAny_bind ?_
  rw [getitemInPython_of_ne hT.not_modules]
  refine wpAny_bind (wpAny_specialOf hT hl ?_)
  have fin : wpAny (model prog w) A (subscripted slice false o i) (fun r s₃ => wpAny (model prog w) A (letTemporaryGo value o r >>= fun _ => pure r) Q E s₃) E s₂ := by
    rw [hs o i]
    exact wpAny_operating (wpAny_mono h₂ (fun r s₃ h₃ => wpAny_bind (wpAny_letTemporaryGo (wpAny_pure h₃))) fun _ _ x => x)
  first
    | exact wpAny_pure (wpAny_bind fin)
    | exact wpAny_bind (wpAny_pure (wpAny_bind fin))
    | exact wpAny_bind fin
theorem dict_typeIs {X : Cx} {pins : List (Addr × Obj)} {σ : St} {H : Hp} {s : Shared} {a : Addr} {y : V} {o : Option V} (I : Inv X pins σ H s) (g : DGet H a y o) : s.TypeIs (.ref a) "dict" := by
  rcases g with ⟨kvs, k, e, _, _⟩ | ⟨kvs, k, b, e, _, _, _⟩
  · obtain ⟨_, _, vs, _, dd⟩ := dk_rd I.hok e
    exact dd.typeIs
  · obtain ⟨_, _, xs, _, dd⟩ := dt_rd I.hok e
    exact dd.typeIs
theorem dict_noDict {X : Cx} {pins : List (Addr × Obj)} {σ : St} {H : Hp} {s : Shared} {a : Addr} {y : V} {o : Option V} (I : Inv X pins σ H s) (g : DGet H a y o) :
    ∀ b, Value.ref a = .ref b → ∃ ob, s.heap.get? b = some ob ∧ ob.dict = none := fun b q => by
  cases q
  rcases g with ⟨kvs, k, e, _, _⟩ | ⟨kvs, k, b, e, _, _, _⟩
  · obtain ⟨_, _, vs, _, ob, _, _, h1, h2, _⟩ := dk_rd I.hok e
    exact ⟨ob, h1, h2.2.1⟩
  · obtain ⟨_, _, xs, _, ob, _, _, h1, h2, _⟩ := dt_rd I.hok e
    exact ⟨ob, h1, h2.2.1⟩
def tDGet (td ty : TE) : TE := fun σ H Q => td σ H fun x H1 => ty σ H1 fun y H2 => ∃ a v, x = .ref a ∧ DGet H2 a y (some v) ∧ Q v H2
def tDIn (ty td : TE) : TE := fun σ H Q => ty σ H fun y H1 => td σ H1 fun x H2 => ∃ a o, x = .ref a ∧ DGet H2 a y o ∧ Q (.bl o.isSome) H2
def tDNotIn (ty td : TE) : TE := fun σ H Q => ty σ H fun y H1 => td σ H1 fun x H2 => ∃ a o, x = .ref a ∧ DGet H2 a y o ∧ Q (.bl (!o.isSome)) H2
def sDPut (td ty tv : TE) : TS := fun D σ H => tv σ H fun v H1 => td σ H1 fun x H2 => ty σ H2 fun y H3 => ∃ a H4, x = .ref a ∧ DPut H3 a y v H4 ∧ D.nx σ H4
def sDAug (td ty tv : TE) (rd : V → V → Hp → VK → Prop) : TS := fun D σ H => td σ H fun x H1 => ty σ H1 fun y H2 => ∃ a v, x = .ref a ∧ DGet H2 a y (some v) ∧
  tv σ H2 fun y2 H3 => rd v y2 H3 fun z H4 => ∃ H5, DPut H4 a y z H5 ∧ D.nx σ H5
def sDDel (td ty : TE) : TS := fun D σ H => td σ H fun x H1 => ty σ H1 fun y H2 => ∃ a kvs k, x = .ref a ∧ H2 a = some (.dK kvs) ∧ y = kV k ∧ (valV kvs k).isSome = true ∧ D.nx σ (upd H2 a (.dK (dropK kvs k)))
section
variable {X : Cx} {o i e value : Expr} {pos pos' tpos : Pos} {td ty tv : TE}
theorem pe_dget (hu : X.A.units + 1 < cLine) (ho : PE X o td) (hi : PE X i ty) (hs : NoSl i) : PE X (.Subscript o i pos) (tDGet td ty) := by
  intro pins s σ H Q I h
  refine subD_of PySem.F.slot_dict_getitem.lookup hs (thn (ho pins s σ H _ I h) fun u s1 ⟨x, H1, I1, rx, q1⟩ => thn (hi pins s1 σ H1 _ I1 q1) fun iv s2 ⟨y, H2, I2, ry, a, v, ex, g, q2⟩ => ?_)
  subst ex
  obtain rfl : u = Value.ref a := rx
  exact ⟨dict_typeIs I2 g, d_getItem hu I2 g ry fun w' s3 I3 rw' => ⟨v, H2, I3, rw', q2⟩⟩
theorem pc_din (hu : X.A.units + 1 < cLine) (hi : PE X i ty) (ho : PE X o td) : PC X .In i o (tDIn ty td) := by
  intro pins s σ H Q I h
  refine thn (hi pins s σ H _ I h) fun iv s1 ⟨y, H1, I1, ry, q1⟩ => thn (ho pins s1 σ H1 _ I1 q1) fun u s2 ⟨x, H2, I2, rx, a, ov, ex, g, q2⟩ => ?_
  subst ex
  obtain rfl : u = Value.ref a := rx
  exact d_in hu I2 g ry fun s3 I3 => ⟨.bl ov.isSome, H2, I3, rfl, q2⟩
theorem pc_dnotin (hu : X.A.units + 1 < cLine) (hi : PE X i ty) (ho : PE X o td) : PC X .NotIn i o (tDNotIn ty td) := by
  intro pins s σ H Q I h
  refine thn (hi pins s σ H _ I h) fun iv s1 ⟨y, H1, I1, ry, q1⟩ => thn (ho pins s1 σ H1 _ I1 q1) fun u s2 ⟨x, H2, I2, rx, a, ov, ex, g, q2⟩ => ?_
  subst ex
  obtain rfl : u = Value.ref a := rx
  exact d_notIn hu I2 g ry fun s3 I3 => ⟨.bl (!ov.isSome), H2, I3, rfl, q2⟩
theorem ps_dput (hu : X.A.units + 1 < cLine) (ho : PE X o td) (hi : PE X i ty) (hv : PE X value tv) (hs : swapsWith value (some (.Subscript o i pos')) pos.line X.env = pure false) :
    PS X (.Assign [.Subscript o i pos'] value pos) (sDPut td ty tv) := by
  intro pins s σ H D I h
  refine wpAny_Assign_Subscript (thn (hv pins s σ H _ I h) fun r s1 ⟨v, H1, I1, rv, q1⟩ => thn (ho pins s1 σ H1 _ I1 q1) fun u s2 ⟨x, H2, I2, rx, q2⟩ => thn (hi pins s2 σ H2 _ I2 q2) fun iv s3 ⟨y, H3, I3, ry, a, H4, ex, g, q3⟩ => ?_) hs
  subst ex
  obtain rfl : u = Value.ref a := rx
  exact d_setItem hu I3 g ry rv fun s4 I4 => ⟨σ, H4, I4, q3⟩
theorem ps_daug {op : Operator} {rd : V → V → Hp → VK → Prop} (hu : X.A.units + 1 < cLine) (ho : PE X o td) (hi : PE X i ty) (hv : PE X value tv) (hop : InOp X op rd)
    (ha : ∀ ov iv new, augStore i ov iv new = (do holding [new, ov, iv] (setItem ov iv new); release [new, ov, iv] []; pure .next)) : PS X (.AugAssign (.Subscript o i tpos) op value pos) (sDAug td ty tv rd) := by
  intro pins s σ H D I h
  refine wpAny_AugAssign_SubscriptAny (thn (ho pins s σ H _ I h) fun u s1 ⟨x, H1, I1, rx, q1⟩ => thn (hi pins s1 σ H1 _ I1 q1) fun iv s2 ⟨y, H2, I2, ry, a, v, ex, g, q2⟩ => ?_) ha
  subst ex
  obtain rfl : u = Value.ref a := rx
  refine d_getItem hu I2 g ry fun w' s3 I3 rw' => thn (hv pins s3 σ H2 _ I3 q2) fun w2 s4 ⟨y2, H3, I4, ry2, q3⟩ => thn (hop pins s4 σ H3 v y2 w' w2 _ I4 rw' ry2 q3) fun w3 s5 ⟨z, H4, I5, rz, H5, g5, q4⟩ => ?_
  exact d_setItem hu I5 g5 ry rz fun s6 I6 => ⟨σ, H5, I6, q4⟩
theorem ps_ddel (ho : PE X o td) (hi : PE X i ty) : PS X (.Delete [.Subscript o i tpos] pos) (sDDel td ty) := by
  intro pins s σ H D I h
  refine wpAny_Delete (wpAny_deleteEach_cons (wpAny_delete_Subscript (thn (ho pins s σ H _ I h) fun u s1 ⟨x, H1, I1, rx, q1⟩ => thn (hi pins s1 σ H1 _ I1 q1) fun iv s2 ⟨y, H2, I2, ry, a, kvs, k, ex, e, ey, l, q2⟩ => ?_)))
  subst ex ey
  obtain rfl : u = Value.ref a := rx
  exact d_delItem I2 e ry l fun s3 I3 => wpAny_deleteEach_nil ⟨σ, _, I3, q2⟩
end
theorem dk_empty {P : Program} {w : World} {H : Hp} (h : Heap) (hb : sysModules < h.objs.size) : ObjOk P w H (h.push { cls := .type "dict", data := .dict #[] }) h.objs.size (.dK []) :=
  ⟨Nat.zero_le _, beq_eq_false_iff_ne.mpr (Ne.symm (Nat.ne_of_lt hb)), [], .nil, Heap.DictOf.new h⟩
theorem dt_empty {P : Program} {w : World} {H : Hp} (h : Heap) (hb : sysModules < h.objs.size) : ObjOk P w H (h.push { cls := .type "dict", data := .dict #[] }) h.objs.size (.dT []) :=
  ⟨Nat.zero_le _, beq_eq_false_iff_ne.mpr (Ne.symm (Nat.ne_of_lt hb)), [], .nil, _, #[], 0, Heap.get?_push_size _ rfl, ⟨rfl, rfl, rfl⟩, rfl, rfl, List.nodup_nil⟩
def tDNewK : TE := fun _ H Q => ∀ p, H p = none → Q (.ref p) (upd H p (.dK []))
def tDNewT : TE := fun _ H Q => ∀ p, H p = none → Q (.ref p) (upd H p (.dT []))
section
variable {X : Cx} {pos : Pos}
theorem pe_dnewK : PE X (.Dict [] [] pos) tDNewK := fun pins s σ H Q I h =>
  wpAny_Dict_empty ⟨.ref s.heap.objs.size, _, I.laid (a := s.heap.objs.size) (o := .dK []) (t' := s.toks) (fun _ _ q => Heap.get?_push_of_some _ q) (Nat.le_refl _) (dk_empty s.heap I.big), rfl, h _ (I.hok.fresh (Nat.le_refl _))⟩
theorem pe_dnewT : PE X (.Dict [] [] pos) tDNewT := fun pins s σ H Q I h =>
  wpAny_Dict_empty ⟨.ref s.heap.objs.size, _, I.laid (a := s.heap.objs.size) (o := .dT []) (t' := s.toks) (fun _ _ q => Heap.get?_push_of_some _ q) (Nat.le_refl _) (dt_empty s.heap I.big), rfl, h _ (I.hok.fresh (Nat.le_refl _))⟩
end
def tPairs : List (TE × TE) → St → Hp → (List (V × V) → Hp → Prop) → Prop
  | [], _, H, Q => Q [] H
  | (tk, tv) :: r, σ, H, Q => tk σ H fun x H1 => tv σ H1 fun y H2 => tPairs r σ H2 fun ps H3 => Q ((x, y) :: ps) H3
abbrev VV : List (V × V) → List (Value × Value) → Prop := Paired fun p q => RelV p.1 q.1 ∧ RelV p.2 q.2
def PPs (X : Cx) (pos : Pos) (keys : List (Option Expr)) (values : List Expr) (trs : List (TE × TE)) : Prop :=
  ∀ (pins : List (Addr × Obj)) (s : Shared) (σ : St) (H : Hp) (Q : List (V × V) → Hp → Prop), Inv X pins σ H s → tPairs trs σ H Q →
    wpAny (model X.prog X.w) X.A (evalPairs (pairTrees keys values X.env pos)) (fun vs s' => ∃ ps H', Inv X pins σ H' s' ∧ VV ps vs ∧ Q ps H') X.xe s
theorem pps_nil {X : Cx} {pos : Pos} : PPs X pos [] [] [] := fun pins s σ H Q I h => pairTrees_nil_walk ⟨[], H, I, .nil, h⟩
theorem pps_cons {X : Cx} {pos : Pos} {k v : Expr} {ks : List (Option Expr)} {vs : List Expr} {tk tv : TE} {trs : List (TE × TE)} (hk : PE X k tk) (hv : PE X v tv) (hr : PPs X pos ks vs trs) :
    PPs X pos (some k :: ks) (v :: vs) ((tk, tv) :: trs) := fun pins s σ H Q I h =>
  pairTrees_cons_walk (thn (hk pins s σ H _ I h) fun u s1 ⟨x, H1, I1, rx, q1⟩ => thn (hv pins s1 σ H1 _ I1 q1) fun w2 s2 ⟨y, H2, I2, ry, q2⟩ =>
    thn (hr pins s2 σ H2 _ I2 q2) fun ws s3 ⟨ps, H3, I3, rel, q3⟩ => ⟨(x, y) :: ps, H3, I3, .cons ⟨rx, ry⟩ rel, q3⟩)
def mergeK (kvs more : List (Key × V)) : List (Key × V) := more.foldl (fun acc kv => putK acc kv.1 kv.2) kvs
theorem KV.merge : ∀ {more : List (Key × V)} {rs : List (Key × Value)} {kvs : List (Key × V)} {vs : List (Key × Value)}, KV more rs → KV kvs vs → KV (mergeK kvs more) (merged vs rs) := by
  intro more rs kvs vs r
  unfold KV at r
  induction r generalizing kvs vs with
  | nil => intro q; exact q
  | @cons p q ps qs h t ih =>
    intro r0
    have e : KV (putK kvs p.1 p.2) (stored vs q.1 q.2) := by
      have := r0.put p.1 h.2
      rw [← h.1]; exact this
    exact ih e
theorem length_mergeK : ∀ (more kvs : List (Key × V)), (mergeK kvs more).length ≤ kvs.length + more.length
  | [], kvs => by show kvs.length ≤ kvs.length + 0; omega
  | p :: r, kvs => by
    have h1 := length_mergeK r (putK kvs p.1 p.2)
    have h2 := length_putK kvs p.1 p.2
    show (mergeK (putK kvs p.1 p.2) r).length ≤ _
    rw [List.length_cons]; omega
theorem carries_of {P : Program} {w : World} : ∀ {kvs : List (Key × V)} {ws : List (Value × Value)}, VV (kvs.map fun kv => (kV kv.1, kv.2)) ws → ∃ rs, Carries (mixKind P w) ws rs ∧ KV kvs rs
  | [], _, r => by rw [List.map_nil] at r; cases r; exact ⟨[], True.intro, .nil⟩
  | p :: kvs, _, r => by
    rw [List.map_cons] at r
    cases r with
    | @cons a b as bs h t =>
      obtain ⟨rs, c, q⟩ := carries_of (P := P) (w := w) t
      obtain ⟨b1, b2⟩ := b
      exact ⟨(p.1, b2) :: rs, ⟨kV_is h.1, rfl, c⟩, .cons ⟨rfl, h.2⟩ q⟩
def tDisp (trs : List (TE × TE)) : TE := fun σ H Q => ∀ p, H p = none → tPairs trs σ (upd H p (.dK [])) fun ps H2 => H2 p = some (.dK []) ∧ ∃ kvs : List (Key × V), ps = kvs.map (fun kv => (kV kv.1, kv.2)) ∧ kvs.length ≤ 15 ∧ Q (.ref p) (upd H2 p (.dK (mergeK [] kvs)))
theorem pe_disp {X : Cx} {pos : Pos} {keys : List (Option Expr)} {values : List Expr} {trs : List (TE × TE)} (h : PPs X pos keys values trs) (hall : keys.all (·.isSome) = true) (hl : keys.length = values.length) (h0 : keys ≠ [])
    (h15 : keys.length ≤ 15) : PE X (.Dict keys values pos) (tDisp trs) := by
  intro pins s σ H Q I q
  have hn := I.hok.fresh (Nat.le_refl s.heap.objs.size)
  have I1 := I.laid (a := s.heap.objs.size) (o := .dK []) (h' := s.heap.push { cls := .type "dict", data := .dict #[] }) (t' := s.toks) (fun _ _ q => Heap.get?_push_of_some _ q) (Nat.le_refl _) (dk_empty s.heap I.big)
  refine wpAny_Dict_walk (knd := mixKind X.prog X.w) hall hl h0 h15 (thn (h pins _ σ _ _ I1 (q _ hn)) fun ws s2 ⟨ps, H2, I2, rel, e, kvs, ep, lk, q2⟩ => ?_)
  subst ep
  obtain ⟨rs, c, rk⟩ := carries_of (P := X.prog) (w := X.w) rel
  obtain ⟨z, hd, vs0, r0, dd⟩ := dk_of I2.hok e
  cases r0
  refine ⟨rs, c, dd, fun h' dd' hs => ⟨.ref s.heap.objs.size, _, ?_, rfl, q2⟩⟩
  have hz : (mergeK [] kvs).length ≤ sizeLine := by
    have h1 := length_mergeK kvs []
    rw [List.length_nil] at h1
    rw [sizeLine_eq]; omega
  have he : ∃ q, h'.get? s.heap.objs.size = some q := let ⟨q, _, _, hq, _⟩ := dd'; ⟨q, hq⟩
  exact d_write I2 (by rw [e]; exact True.intro) hs he (dk_new hz hd (rk.merge .nil) dd')
structure M1 (X : Cx) (o : Expr) (m : Str) (apos : Pos) (e : Expr) (cpos : Pos) : Prop where
  base : attributeBase o m X.env (eval o X.env) = eval o X.env
  few : ((backTo cpos (starEach [e] X.env)).all (fun x => !x.1) && (backToKw cpos (keywordEach [] X.env)).all (fun x => x.1.isSome)
    && decide (([e] : List Expr).length + ([] : List Keyword).length + (if ([] : List Keyword).isEmpty then 0 else 1) < 30)) = true
  line : (apos.endLine == cpos.line) = true
  trees : backTo cpos (starEach [e] X.env) = [(false, eval e X.env)]
structure M2 (X : Cx) (o : Expr) (m : Str) (apos : Pos) (e f : Expr) (cpos : Pos) : Prop where
  base : attributeBase o m X.env (eval o X.env) = eval o X.env
  few : ((backTo cpos (starEach [e, f] X.env)).all (fun x => !x.1) && (backToKw cpos (keywordEach [] X.env)).all (fun x => x.1.isSome)
    && decide (([e, f] : List Expr).length + ([] : List Keyword).length + (if ([] : List Keyword).isEmpty then 0 else 1) < 30)) = true
  line : (apos.endLine == cpos.line) = true
  trees : backTo cpos (starEach [e, f] X.env) = [(false, eval e X.env), (false, eval f X.env)]
def IsD (H : Hp) (a : Addr) : Prop := (∃ kvs, Rd H a (.dK kvs)) ∨ ∃ kvs, Rd H a (.dT kvs)
theorem isD_at {X : Cx} {pins : List (Addr × Obj)} {σ : St} {H : Hp} {s : Shared} {a : Addr} (I : Inv X pins σ H s) (d : IsD H a) :
    s.TypeIs (.ref a) "dict" ∧ (∀ b, Value.ref a = .ref b → ∃ ob, s.heap.get? b = some ob ∧ ob.dict = none) ∧ (a == sysModules) = false := by
  rcases d with ⟨kvs, e⟩ | ⟨kvs, e⟩
  · obtain ⟨_, hd, vs, _, dd⟩ := dk_rd I.hok e
    refine ⟨dd.typeIs, fun b q => ?_, hd⟩
    cases q
    obtain ⟨ob, _, _, h1, h2, _⟩ := dd
    exact ⟨ob, h1, h2.2.1⟩
  · obtain ⟨_, hd, xs, _, dd⟩ := dt_rd I.hok e
    refine ⟨dd.typeIs, fun b q => ?_, hd⟩
    cases q
    obtain ⟨ob, _, _, h1, h2, _⟩ := dd
    exact ⟨ob, h1, h2.2.1⟩
section
variable {X : Cx} {pins : List (Addr × Obj)} {σ : St} {H : Hp} {s : Shared} {a : Addr} {y d : V} {u r : Value} {o : Option V} {A : Around} {E : Value → Shared → Prop}
theorem d_get1 {Q : Value → Shared → Prop} (hu : A.units + 1 < cLine) (I : Inv X pins σ H s) (g : DGet H a y o) (ry : RelV y u) (h : ∀ w' s', Inv X pins σ H s' → RelV (o.getD .non) w' → Q w' s') :
    wpAny (model X.prog X.w) A (call (.builtin "dict.get") [.ref a, u]) Q E s := by
  rcases g with ⟨kvs, k, e, ey, l⟩ | ⟨kvs, k, b, e, ey, eb, l⟩
  · subst ey
    obtain ⟨z, hd, vs, rel, dd⟩ := dk_rd I.hok e
    refine call_meetsIn PySem.F.slot_dict_get dd.typeIs PySem.F.entry_dict_get (PySem.F.args_dict_get_2 _ _) (meets_dict_get (mixKind X.prog X.w) a (kV_is ry) hd) ⟨_, dd.mapOf, h _ _ (I.tok _) ?_⟩
    rw [l]
    exact (rel.val k).getD rfl
  · subst ey
    cases (show u = Value.ref b from ry)
    obtain ⟨z, hd, xs, rel, dd⟩ := dt_rd I.hok e
    refine call_meetsIn PySem.F.slot_dict_get dd.typeIs PySem.F.entry_dict_get (PySem.F.args_dict_get_2 _ _) (meetsH_dict_get (tupleKind (mixKind X.prog X.w)) a b hd) ⟨tupleKind_room_in1 hu, k, xs, key_of I.hok eb, dd, h _ _ (I.tok _) ?_⟩
    rw [l]
    exact (rel.val k).getD rfl
theorem d_get2 {Q : Value → Shared → Prop} (hu : A.units + 1 < cLine) (I : Inv X pins σ H s) (g : DGet H a y o) (ry : RelV y u) (rd : RelV d r) (h : ∀ w' s', Inv X pins σ H s' → RelV (o.getD d) w' → Q w' s') :
    wpAny (model X.prog X.w) A (call (.builtin "dict.get") [.ref a, u, r]) Q E s := by
  rcases g with ⟨kvs, k, e, ey, l⟩ | ⟨kvs, k, b, e, ey, eb, l⟩
  · subst ey
    obtain ⟨z, hd, vs, rel, dd⟩ := dk_rd I.hok e
    refine call_meetsIn PySem.F.slot_dict_get dd.typeIs PySem.F.entry_dict_get (PySem.F.args_dict_get_3 _ _ _) (meets_dict_get_default (mixKind X.prog X.w) a (kV_is ry) hd r) ⟨_, dd.mapOf, h _ _ (I.tok _) ?_⟩
    rw [l]
    exact (rel.val k).getD rd
  · subst ey
    cases (show u = Value.ref b from ry)
    obtain ⟨z, hd, xs, rel, dd⟩ := dt_rd I.hok e
    refine call_meetsIn PySem.F.slot_dict_get dd.typeIs PySem.F.entry_dict_get (PySem.F.args_dict_get_3 _ _ _) (meetsH_dict_get_default (tupleKind (mixKind X.prog X.w)) a b hd r) ⟨tupleKind_room_in1 hu, k, xs, key_of I.hok eb, dd, h _ _ (I.tok _) ?_⟩
    rw [l]
    exact (rel.val k).getD rd
end
def tDGet1 (td ty : TE) : TE := fun σ H Q => td σ H fun x H1 => ∃ a, x = .ref a ∧ IsD H1 a ∧ ty σ H1 fun y H2 => ∃ o, DGet H2 a y o ∧ Q (o.getD .non) H2
def tDGet2 (td ty tx : TE) : TE := fun σ H Q => td σ H fun x H1 => ∃ a, x = .ref a ∧ IsD H1 a ∧ ty σ H1 fun y H2 => tx σ H2 fun z H3 => ∃ o, DGet H3 a y o ∧ Q (o.getD z) H3
def tDPop1 (td ty : TE) : TE := fun σ H Q => td σ H fun x H1 => ∃ a, x = .ref a ∧ IsD H1 a ∧ ty σ H1 fun y H2 => ∃ kvs k v, H2 a = some (.dK kvs) ∧ y = kV k ∧ valV kvs k = some v ∧ Q v (upd H2 a (.dK (dropK kvs k)))
def tDPop2 (td ty tx : TE) : TE := fun σ H Q => td σ H fun x H1 => ∃ a, x = .ref a ∧ IsD H1 a ∧ ty σ H1 fun y H2 => tx σ H2 fun z H3 => ∃ kvs k, H3 a = some (.dK kvs) ∧ y = kV k ∧
  (∀ v, valV kvs k = some v → Q v (upd H3 a (.dK (dropK kvs k)))) ∧ (valV kvs k = none → Q z H3)
section
variable {X : Cx} {o e f : Expr} {apos cpos : Pos} {td ty tx : TE}
theorem pe_dget1 (hu : X.A.units + 1 < cLine) (ho : PE X o td) (he : PE X e ty) (m : M1 X o "get" apos e cpos) : PE X (.Call (.Attribute o "get" apos) [e] [] cpos) (tDGet1 td ty) := by
  intro pins s σ H Q I h
  refine wpAny_Call_method m.base m.few m.line PySem.F.plainAttrs_dict PySem.F.slot_dict_get PySem.F.type_dict_get (thn (ho pins s σ H _ I h) fun u s1 ⟨x, H1, I1, rx, a, ex, d, q1⟩ => ?_)
  subst ex
  obtain rfl : u = Value.ref a := rx
  obtain ⟨t1, t2, _⟩ := isD_at I1 d
  refine ⟨t1, t2, ?_⟩
  rw [m.trees]
  refine Calls.callWith_builtin rfl (Calls.evalArgs_plain (Calls.spliced_cons (thn (he pins s1 σ H1 _ I1 q1) fun iv s2 ⟨y, H2, I2, ry, ov, g, q2⟩ => Calls.spliced_nil ?_)))
  exact d_get1 hu I2 g ry fun w' s3 I3 rw' => ⟨_, H2, I3, rw', q2⟩
theorem pe_dget2 (hu : X.A.units + 1 < cLine) (ho : PE X o td) (he : PE X e ty) (hf : PE X f tx) (m : M2 X o "get" apos e f cpos) : PE X (.Call (.Attribute o "get" apos) [e, f] [] cpos) (tDGet2 td ty tx) := by
  intro pins s σ H Q I h
  refine wpAny_Call_method m.base m.few m.line PySem.F.plainAttrs_dict PySem.F.slot_dict_get PySem.F.type_dict_get (thn (ho pins s σ H _ I h) fun u s1 ⟨x, H1, I1, rx, a, ex, d, q1⟩ => ?_)
  subst ex
  obtain rfl : u = Value.ref a := rx
  obtain ⟨t1, t2, _⟩ := isD_at I1 d
  refine ⟨t1, t2, ?_⟩
  rw [m.trees]
  refine Calls.callWith_builtin rfl (Calls.evalArgs_plain (Calls.spliced_cons (thn (he pins s1 σ H1 _ I1 q1) fun iv s2 ⟨y, H2, I2, ry, q2⟩ =>
    Calls.spliced_cons (thn (hf pins s2 σ H2 _ I2 q2) fun fv s3 ⟨z, H3, I3, rz, ov, g, q3⟩ => Calls.spliced_nil ?_))))
  exact d_get2 hu I3 g ry rz fun w' s4 I4 rw' => ⟨_, H3, I4, rw', q3⟩
theorem pe_dpop1 (ho : PE X o td) (he : PE X e ty) (m : M1 X o "pop" apos e cpos) : PE X (.Call (.Attribute o "pop" apos) [e] [] cpos) (tDPop1 td ty) := by
  intro pins s σ H Q I h
  refine wpAny_Call_method m.base m.few m.line PySem.F.plainAttrs_dict PySem.F.slot_dict_pop PySem.F.type_dict_pop (thn (ho pins s σ H _ I h) fun u s1 ⟨x, H1, I1, rx, a, ex, d, q1⟩ => ?_)
  subst ex
  obtain rfl : u = Value.ref a := rx
  obtain ⟨t1, t2, _⟩ := isD_at I1 d
  refine ⟨t1, t2, ?_⟩
  rw [m.trees]
  refine Calls.callWith_builtin rfl (Calls.evalArgs_plain (Calls.spliced_cons (thn (he pins s1 σ H1 _ I1 q1) fun iv s2 ⟨y, H2, I2, ry, kvs, k, v, ea, ey, l, q2⟩ => Calls.spliced_nil ?_)))
  subst ey
  exact d_pop I2 ea ry l (.inl rfl) fun w' s3 I3 rw' => ⟨v, _, I3, rw', q2⟩
theorem pe_dpop2 (ho : PE X o td) (he : PE X e ty) (hf : PE X f tx) (m : M2 X o "pop" apos e f cpos) : PE X (.Call (.Attribute o "pop" apos) [e, f] [] cpos) (tDPop2 td ty tx) := by
  intro pins s σ H Q I h
  refine wpAny_Call_method m.base m.few m.line PySem.F.plainAttrs_dict PySem.F.slot_dict_pop PySem.F.type_dict_pop (thn (ho pins s σ H _ I h) fun u s1 ⟨x, H1, I1, rx, a, ex, d, q1⟩ => ?_)
  subst ex
  obtain rfl : u = Value.ref a := rx
  obtain ⟨t1, t2, _⟩ := isD_at I1 d
  refine ⟨t1, t2, ?_⟩
  rw [m.trees]
  refine Calls.callWith_builtin rfl (Calls.evalArgs_plain (Calls.spliced_cons (thn (he pins s1 σ H1 _ I1 q1) fun iv s2 ⟨y, H2, I2, ry, q2⟩ =>
    Calls.spliced_cons (thn (hf pins s2 σ H2 _ I2 q2) fun fv s3 ⟨z, H3, I3, rz, kvs, k, ea, ey, q3, q4⟩ => Calls.spliced_nil ?_))))
  subst ey
  cases l : valV kvs k with
  | some v => exact d_pop I3 ea ry l (.inr ⟨fv, rfl⟩) fun w' s4 I4 rw' => ⟨v, _, I4, rw', q3 v l⟩
  | none => exact d_popD I3 ea ry l fun s4 I4 => ⟨z, H3, I4, rz, q4 l⟩
end
section
variable {X : Cx} {pins : List (Addr × Obj)} {σ : St} {H : Hp} {s : Shared} {a : Addr} {kvs : List (Key × V)} {A : Around} {E : Value → Shared → Prop}
theorem d_copyOf {Q : Value → Shared → Prop} (I : Inv X pins σ H s) (e : Rd H a (.dK kvs)) (h : ∀ p s', H p = none → Inv X pins σ (upd H p (.dK kvs)) s' → Q (.ref p) s') : wpAny (model X.prog X.w) A (call (.type "dict") [.ref a]) Q E s := by
  obtain ⟨z, hd, vs, rel, dd⟩ := dk_rd I.hok e
  refine kt_call_dict hd dd (by rw [← rel.length]; exact z) fun h' dd' hs => ?_
  refine h _ _ (I.hok.fresh (Nat.le_refl _)) (I.laid (a := s.heap.objs.size) (o := .dK kvs) (t' := s.toks) (fun b q hq => ?_) (Nat.le_refl _) (dk_new z (beq_eq_false_iff_ne.mpr (Ne.symm (Nat.ne_of_lt I.big))) rel dd'))
  exact (hs.2 b (Nat.ne_of_lt (Heap.lt_size hq))).trans (Heap.get?_push_of_some _ hq)
end
section
variable {X : Cx} {pins : List (Addr × Obj)} {σ : St} {H : Hp} {s : Shared} {a : Addr} {y : V} {u : Value} {A : Around} {E : Value → Shared → Prop}
theorem d_missing {Q : Value → Shared → Prop} (hu : A.units + 1 < cLine) (hh : A.handled = none) (I : Inv X pins σ H s) (g : DGet H a y none) (ry : RelV y u)
    (h : ∀ h' e t', Heap.NewExc s.heap h' e "KeyError" → E (.ref e) { s with heap := h', toks := t' }) : wpAny (model X.prog X.w) A (getItem (.ref a) u) Q E s := by
  rcases g with ⟨kvs, k, e, ey, l⟩ | ⟨kvs, k, b, e, ey, eb, l⟩
  · subst ey
    obtain ⟨z, hd, vs, rel, dd⟩ := dk_rd I.hok e
    have hn : valueAt vs k = none := RelO.none_of (by rw [l]; exact rel.val k)
    exact wpAny_getItem_missing_of (kV_is ry) hd hh dd.mapOf hn fun h' ex ne => h h' ex _ ne
  · subst ey
    cases (show u = Value.ref b from ry)
    obtain ⟨z, hd, xs, rel, dd⟩ := dt_rd I.hok e
    have hn : (atKey xs k).map (·.2) = none := RelO.none_of (by rw [l]; exact rel.val k)
    exact wpAny_getItem_missing_heap (tupleKind_room_in1 hu) (key_of I.hok eb) hd hh dd (Option.map_eq_none_iff.mp hn) fun h' ex ne => h h' ex _ ne
end
end L2
namespace HT
open PySem PyProof.Rows
def lexLt : List Int → List Int → Bool
  | [], [] => false
  | [], _ :: _ => true
  | _ :: _, [] => false
  | x :: xs, y :: ys => if x = y then lexLt xs ys else decide (x < y)
theorem lexLt_cons (x y : Int) (xs ys : List Int) : lexLt (x :: xs) (y :: ys) = if x = y then lexLt xs ys else decide (x < y) := rfl
theorem lexLt_nil_nil : lexLt [] [] = false := rfl
theorem lexLt_nil_cons (y : Int) (ys : List Int) : lexLt [] (y :: ys) = true := rfl
theorem lexLt_cons_nil (x : Int) (xs : List Int) : lexLt (x :: xs) [] = false := rfl
theorem eqAt_int (A : Around) (s : Shared) (a : Int) (t : Tok) (c : Int) (u : Tok) : ∃ e, SeqAt.EqAt A s (.int a t) (.int c u) e ∧ (e = true ↔ a = c) :=
  ⟨(a == c), SeqAt.EqAt.int_int a t c u, by simp⟩
theorem rcLt_int (A : Around) (s : Shared) (a : Int) (t : Tok) (c : Int) (u : Tok) (prog : Program) (w : World) (E : Value → Shared → Prop) (Q : Value → Shared → Prop) (h : Q (.bool (decide (a < c))) s) :
    wpAny (model prog w) A (richCompare .Lt (.int a t) (.int c u)) Q E s :=
  (PyProof.Rows.lt_int h : wpAny (model prog w) A (compareOp .Lt (.int a t) (.int c u)) Q E s)
section
open PySem.SeqAt
open PySem.AutoSeq1 (wpAny_loadPart')
open PySem.MeetsSeq PySem.MeetsSeq2 PySem.MeetsSeq3
theorem tuple_lt_ints (l b : Addr) (items items2 : Array Value) (n n2 : Nat) (dd dd2 : Option Addr) (sl sl2 : Array (Option Value)) (ns ms : List Int) (hi : IntsAre items.toList ns) (hj : IntsAre items2.toList ms) :
    Meets (Builtin.«tuple.__lt__» ⟨[.ref l, .ref b], []⟩)
      (fun _ R s => s.heap.get? l = some { cls := .type "tuple", dict := dd, data := .seq items n, slots := sl } ∧ s.heap.get? b = some { cls := .type "tuple", dict := dd2, data := .seq items2 n2, slots := sl2 } ∧
        R (.ok (.ret (.bool (lexLt ns ms)))) s) :=
  .of_wp fun prog w A R s h => by
    obtain ⟨hp, g, d, tk, os⟩ := s; obtain ⟨hl, hb, h⟩ := h
    have f2 := AutoSeq1.sub_tuple_tuple
    have z1 : items.size = ns.length := by rw [← hi.length]; simp
    have z2 : items2.size = ms.length := by rw [← hj.length]; simp
    wp_walk using wpAny_loadPart' hl, wpAny_loadPart' hb, wpAny_forIn_list _ (fun rest b s' => b.1 = none ∧ s' = ⟨hp, g, d, tk, os⟩ ∧ ∃ (vs ws : List Value) (ns' ms' : List Int), rest = vs.zip ws ∧
      IntsAre vs ns' ∧ IntsAre ws ms' ∧ ns'.length + items2.size = ms'.length + items.size ∧ R (.ok (.ret (.bool (lexLt ns' ms')))) ⟨hp, g, d, tk, os⟩) _
    case turn =>
      rintro ⟨y, x⟩ rest b s' ⟨hb', rfl, vs, ws, ns', ms', hz, hvi, hwi, hlen, hR⟩
      cases hvi with
      | nil => rw [List.zip_nil_left] at hz; cases hz
      | cons a t hvi' =>
        cases hwi with
        | nil => rw [List.zip_nil_right] at hz; cases hz
        | cons c u hwi' =>
          rw [List.zip_cons_cons] at hz
          injection hz with hyx hrest
          injection hyx with hy hx
          subst hy hx
          rw [lexLt_cons] at hR
          simp only [List.length_cons] at hlen
          obtain ⟨e, he, hiff⟩ := eqAt_int A.in1 ⟨hp, g, d, tk, os⟩ a t c u
          refine wpAny_bind (he prog w _ _ ?_)
          cases e with
          | true =>
            rw [if_pos (hiff.mp rfl)] at hR
            wp_walk
            exact ⟨rfl, rfl, _, _, _, _, hrest, hvi', hwi', by omega, hR⟩
          | false =>
            rw [if_neg (fun q => absurd (hiff.mpr q) Bool.false_ne_true)] at hR
            have hri := rcLt_int A.in1 ⟨hp, g, d, tk, os⟩ a t c u prog w
            wp_walk using hri
            exact ⟨_, rfl, by simpa using hR⟩
    case fin =>
      rintro ⟨b1, b2⟩ s' ⟨hb', rfl, vs, ws, ns', ms', hz, hvi, hwi, hlen, hR⟩
      simp only at hb'
      subst hb'
      have hv : lexLt ns' ms' = decide (items.size < items2.size) := by
        cases hvi with
        | nil =>
          cases hwi with
          | nil =>
            simp only [List.length_nil] at hlen
            rw [lexLt_nil_nil]
            exact (decide_eq_false (by omega)).symm
          | cons c u hw =>
            simp only [List.length_nil, List.length_cons] at hlen
            rw [lexLt_nil_cons]
            exact (decide_eq_true (by omega)).symm
        | cons a t hv =>
          cases hwi with
          | nil =>
            simp only [List.length_nil, List.length_cons] at hlen
            rw [lexLt_cons_nil]
            exact (decide_eq_false (by omega)).symm
          | cons c u hw =>
            rw [List.zip_cons_cons] at hz
            cases hz
      rw [hv] at hR
      wp_walk
      exact ⟨_, rfl, by simpa [Builtin.Tuple.tupleCompareSizes] using hR⟩
    case h =>
      exact ⟨rfl, rfl, items.toList, items2.toList, ns, ms, rfl, hi, hj, by omega, h⟩
end
section
variable {prog : Program} {w : World} {A : Around} {E : Value → Shared → Prop} {s : Shared}
theorem lt_tupInts {l b : Addr} {items items2 : Array Value} {ns ms : List Int} {Q : Value → Shared → Prop} (hl : IsTup s.heap l items) (hb : IsTup s.heap b items2) (hi : IntsAre items.toList ns) (hj : IntsAre items2.toList ms)
    (hu : A.units < cLine) (h : Q (.bool (lexLt ns ms)) s) : wpAny (model prog w) A (compareOp .Lt (.ref l) (.ref b)) Q E s := by
  obtain ⟨⟨cls, dd, data, sl⟩, ho, hc, n, hd⟩ := id hl
  obtain ⟨⟨cls2, dd2, data2, sl2⟩, ho2, hc2, n2, hd2⟩ := id hb
  simp only at hc hd hc2 hd2
  subst hc hd hc2 hd2
  exact richCompare_meets_room (op := .Lt) ⟨_, ho, rfl⟩ ⟨_, ho2, rfl⟩ PySem.F.slot_tuple_lt PySem.F.entry_tuple_lt (PySem.F.args_tuple_lt_2 _ _) (tuple_lt_ints l b items items2 n n2 dd dd2 sl sl2 ns ms hi hj)
    ⟨ho, ho2, show Value.bool (lexLt ns ms) ≠ Value.notImplemented ∧ Q (.bool (lexLt ns ms)) s from ⟨(fun x => nomatch x), h⟩⟩ hu
theorem cat_tup {t b : Addr} {vs ws : List Value} {Q : Value → Shared → Prop} (ht : IsTup s.heap t vs.toArray) (hb : IsTup s.heap b ws.toArray) (hv : vs ≠ [])
    (h1 : ws = [] → Q (.ref t) s) (h2 : ws ≠ [] → Q (.ref s.heap.objs.size) { s with heap := s.heap.push { cls := .type "tuple", data := .seq (vs ++ ws).toArray } })
    (hsz : vs.length + ws.length ≤ sizeLine) : wpAny (model prog w) A (binaryOp .Add (.ref t) (.ref b)) Q E s := by
  obtain ⟨⟨cls, dd, data, sl⟩, ho, hc, n, hd⟩ := id ht
  obtain ⟨⟨cls2, dd2, data2, sl2⟩, ho2, hc2, n2, hd2⟩ := id hb
  simp only at hc hd hc2 hd2
  subst hc hd hc2 hd2
  have e : vs.toArray ++ ws.toArray = (vs ++ ws).toArray := by simp
  by_cases hw : ws = []
  · exact concat_meets ⟨_, ho, rfl⟩ ⟨_, ho2, rfl⟩ noFill_tuple_add seq_tuple_add PySem.F.slot_tuple_add PySem.F.entry_tuple_add (PySem.F.args_tuple_add_2 _ _)
      (tuple_addW1 t b vs.toArray ws.toArray n n2 dd dd2 sl sl2 (by simpa using hv) (by simp [hw])) ⟨ho, ho2, h1 hw⟩
  · refine concat_meets ⟨_, ho, rfl⟩ ⟨_, ho2, rfl⟩ noFill_tuple_add seq_tuple_add PySem.F.slot_tuple_add PySem.F.entry_tuple_add (PySem.F.args_tuple_add_2 _ _)
      (tuple_addW2 t b vs.toArray ws.toArray n n2 dd dd2 sl sl2 (by simpa using hv) (by simpa using hw) (by rw [List.size_toArray, List.size_toArray]; exact hsz)) ⟨ho, ho2, ?_⟩
    rw [e]
    exact h2 hw
def sIx (n d : Nat) : Option Int → Nat
  | none => d
  | some v => if v < 0 then (v + (n : Int)).toNat else min v.toNat n
theorem sIx_none (n d : Nat) : sIx n d none = d := rfl
theorem sIx_nat (n d k : Nat) : sIx n d (some (k : Int)) = min k n := by
  show (if (k : Int) < 0 then ((k : Int) + (n : Int)).toNat else min (k : Int).toNat n) = min k n
  rw [if_neg (by omega), Int.toNat_natCast]
theorem sIx_le (n d : Nat) (hd : d ≤ n) (o : Option Int) : sIx n d o ≤ n := by
  cases o with
  | none => exact hd
  | some v =>
    show (if v < 0 then (v + (n : Int)).toNat else min v.toNat n) ≤ n
    by_cases hv : v < 0
    · rw [if_pos hv]; omega
    · rw [if_neg hv]; exact Nat.min_le_right _ _
theorem clip_eq (v : Int) (n d : Nat) : (if v < 0 then max (v + (n : Int)) 0 else min v (n : Int)) = ((sIx n d (some v) : Nat) : Int) := by
  show (if v < 0 then max (v + (n : Int)) 0 else min v (n : Int)) = (((if v < 0 then (v + (n : Int)).toNat else min v.toNat n) : Nat) : Int)
  by_cases hv : v < 0
  · simp only [if_pos hv]; omega
  · simp only [if_neg hv]; omega
theorem adjust_gen (lo hi : Option Int) (n : Nat) : Builtin.Slice.sliceAdjust lo hi 1 (n : Int) = (((sIx n 0 lo : Nat) : Int), ((sIx n n hi : Nat) : Int)) := by
  have h1 : ¬ ((1 : Int) < 0) := by omega
  unfold Builtin.Slice.sliceAdjust
  simp only [h1, if_false]
  refine Prod.ext ?_ ?_
  · cases lo with
    | none => rfl
    | some v => exact clip_eq v n 0
  · cases hi with
    | none => rfl
    | some v => exact clip_eq v n n
theorem places_gen (i j : Nat) : Builtin.Slice.slicePlaces (i : Int) (j : Int) 1 = j - i := by
  unfold Builtin.Slice.slicePlaces
  have h1 : (1 : Int) > 0 := by omega
  simp only [h1, if_true, Int.ediv_one]
  split <;> omega
theorem slicePart_ {v : Value} {o : Option Int} {Q : Option Int → Shared → Prop} (p : IsPart v o) (h : Q o s) : wpAny (model prog w) A (Builtin.Slice.slicePartIndex v) Q E s := by
  cases p with
  | none => exact slicePart_none h
  | int i t => exact slicePart_int h
theorem sliceApplied_gen {sl : Addr} {vl vu : Value} {lo hi : Option Int} {n : Nat} {Q : Int × Int × Nat → Shared → Prop} (hs : s.heap.IsSliceOf sl vl vu .none) (pl : IsPart vl lo) (pu : IsPart vu hi)
    (h : Q (((sIx n 0 lo : Nat) : Int), 1, sIx n n hi - sIx n 0 lo) s) : wpAny (model prog w) A (Builtin.Slice.sliceApplied (.ref sl) (pure (n : Int))) Q E s := by
  obtain ⟨os, hos, hcs, hds⟩ := id hs
  unfold Builtin.Slice.sliceApplied Builtin.Slice.sliceFields
  refine wpAny_bind (wpAny_bind (wpAny_field hos hds (x := vl) rfl (wpAny_bind (wpAny_field hos hds (x := vu) rfl (wpAny_bind (wpAny_field hos hds (x := .none) rfl (wpAny_pure ?_)))))))
  refine wpAny_bind (slicePart_none ?_)
  show wpAny _ _ (if ((1 : Int) == 0) = true then _ else _) _ _ s
  rw [if_neg (by decide)]
  refine wpAny_bind (slicePart_ pl (wpAny_bind (slicePart_ pu (wpAny_bind (wpAny_pure ?_)))))
  show wpAny _ _ (match Builtin.Slice.sliceAdjust lo hi 1 (n : Int) with | (lo, hi) => pure (lo, (1 : Int), Builtin.Slice.slicePlaces lo hi 1)) _ _ s
  rw [adjust_gen lo hi n]
  show wpAny _ _ (pure (((sIx n 0 lo : Nat) : Int), (1 : Int), Builtin.Slice.slicePlaces ((sIx n 0 lo : Nat) : Int) ((sIx n n hi : Nat) : Int) 1)) _ _ s
  rw [places_gen]
  exact wpAny_pure h
theorem pick_gen (xs : Array Value) (i k : Nat) : ((List.range k).filterMap fun (m : Nat) => xs[((i : Int) + (m : Int) * 1).toNat]?).toArray = ((xs.toList.drop i).take k).toArray := by
  have e : (fun (m : Nat) => xs[((i : Int) + (m : Int) * 1).toNat]?) = fun m => xs[i + m]? := by
    funext m
    have : ((i : Int) + (m : Int) * 1).toNat = i + m := by omega
    rw [this]
  rw [e]
  have := pick_run xs i k
  rw [List.filterMap_map] at this
  have e2 : ((fun x => xs[x]?) ∘ fun x => i + x) = fun m => xs[i + m]? := rfl
  rw [e2] at this
  rw [this]
theorem getItem_tuple_cut {t sl : Addr} {items : Array Value} {vl vu : Value} {lo hi : Option Int} {Q : Value → Shared → Prop} (ht : IsTup s.heap t items) (hs : s.heap.IsSliceOf sl vl vu .none) (pl : IsPart vl lo) (pu : IsPart vu hi)
    (hw : ¬ (sIx items.size 0 lo = 0 ∧ sIx items.size items.size hi = items.size))
    (h : Q (.ref s.heap.objs.size) { s with heap := s.heap.push { cls := .type "tuple", data := .seq ((items.toList.drop (sIx items.size 0 lo)).take (sIx items.size items.size hi - sIx items.size 0 lo)).toArray } })
    (hsz : items.size ≤ sizeLine) : wpAny (model prog w) A (getItem (.ref t) (.ref sl)) Q E s := by
  have htake : sizeOk (.seq ((items.toList.drop (sIx items.size 0 lo)).take (sIx items.size items.size hi - sIx items.size 0 lo)).toArray) := by
    show ((items.toList.drop (sIx items.size 0 lo)).take (sIx items.size items.size hi - sIx items.size 0 lo)).toArray.size ≤ sizeLine
    rw [List.size_toArray, List.length_take, List.length_drop, Array.length_toList]
    omega
  have hj : sIx items.size items.size hi ≤ items.size := sIx_le _ _ (Nat.le_refl _) hi
  obtain ⟨os, hos, hcs, hds⟩ := id hs
  have hTs : s.TypeIs (.ref sl) "slice" := ⟨os, hos, hcs⟩
  unfold getItem
  try with_reducible refine wpAny_holding ?_
  first | refine wpAny_bind (wpAny_pure ?_) | skip
  refine wpAny_bind (wpAny_sequenceKey ht.typeIs (by decide) ?_)
  refine wpAny_bind (wpAny_callSpecial?_slot (name := Str.ofString "__getitem__") ht.typeIs PyProof.Rows.slot_tuple_getitem
    (wpAny_call_entry PyProof.Rows.slot_tuple_getitem ht.typeIs entry_tuple_getitem ?_ (args_tuple_getitem _ _)))
  show wpAny _ _ (Builtin.Tuple.tupleItemsOf (.ref t) >>= _) _ _ s
  refine wpAny_bind (tupleItemsOf_ ht ?_)
  refine wpAny_bind (wpAny_typeOf hTs ?_)
  rw [if_pos (by decide)]
  refine wpAny_bind (sliceApplied_gen hs pl pu ?_)
  have hno : ¬ ((((sIx items.size 0 lo : Nat) : Int) == 0 && (1 : Int) == 1 && (sIx items.size items.size hi - sIx items.size 0 lo) == items.size) = true) := by
    intro q
    rw [Bool.and_eq_true, Bool.and_eq_true] at q
    have q1 : ((sIx items.size 0 lo : Nat) : Int) = 0 := eq_of_beq q.1.1
    have q2 : sIx items.size items.size hi - sIx items.size 0 lo = items.size := eq_of_beq q.2
    exact hw ⟨by omega, by omega⟩
  show wpAny _ _ (if (((sIx items.size 0 lo : Nat) : Int) == 0 && (1 : Int) == 1 && (sIx items.size items.size hi - sIx items.size 0 lo) == items.size) = true then _ else _) _ _ s
  rw [if_neg hno, pick_gen]
  first
    | exact wpAny_bind (m := Builtin.Tuple.tupleExact _) (wpAny_newObj_type (wpAny_pure ⟨_, rfl, wpAny_pure h⟩) htake)
    | exact wpAny_bind (m := Builtin.Tuple.tupleExact _) (wpAny_newObj_type (wpAny_bind (wpAny_pure (wpAny_pure ⟨_, rfl, wpAny_pure h⟩))) htake)
    | exact wpAny_bind (wpAny_bind (m := Builtin.Tuple.tupleExact _) (wpAny_newObj_type (wpAny_pure (wpAny_pure ⟨_, rfl, wpAny_pure h⟩)) htake))
    | exact wpAny_bind (wpAny_bind (m := Builtin.Tuple.tupleExact _) (wpAny_newObj_type (wpAny_pure ⟨_, rfl, wpAny_pure h⟩) htake))
end
end HT
namespace L2
open PySem PySem.Spec PyProof.Rows
abbrev TO := St → Hp → (Option Int → Hp → Prop) → Prop
def PO (X : Cx) (e : Option Expr) (t : TO) : Prop :=
  ∀ (pins : List (Addr × Obj)) (s : Shared) (σ : St) (H : Hp) (Q : Option Int → Hp → Prop), Inv X pins σ H s → t σ H Q →
    wpAny (model X.prog X.w) X.A (evalPart e X.env) (fun u s' => ∃ o H', Inv X pins σ H' s' ∧ IsPart u o ∧ Q o H') X.xe s
def tNoPart : TO := fun _ H Q => Q none H
def tPart (t : TE) : TO := fun σ H Q => t σ H fun x H1 => ∃ i, x = .int i ∧ Q (some i) H1
theorem intsAre_of {ns : List Int} : ∀ {us : List Value}, Vals (ns.map V.int) us → IntsAre us ns := by
  induction ns with
  | nil => intro us r; rw [List.map_nil] at r; cases r; exact .nil
  | cons n ns ih =>
    intro us r
    rw [List.map_cons] at r
    cases r with
    | cons r1 r2 =>
      obtain ⟨t, e⟩ := r1
      subst e
      exact .cons n t (ih r2)
section
variable {X : Cx} {e : Expr} {te : TE} {lo hi : Option Expr} {tl th : TO} {pos p2 : Pos}
theorem po_none : PO X none tNoPart := by
  intro pins s σ H Q I h
  rw [evalPart_none]
  exact wpAny_pure ⟨none, H, I, .none, h⟩
theorem po_some (h : PE X e te) : PO X (some e) (tPart te) := by
  intro pins s σ H Q I hw
  rw [evalPart_some]
  refine thn (h pins s σ H _ I hw) fun u s1 ⟨x, H1, I1, r1, q1⟩ => ?_
  obtain ⟨i, rfl, q⟩ := q1
  obtain ⟨t, rfl⟩ := r1
  exact ⟨some i, H1, I1, .int i t, q⟩
def SlR (X : Cx) (r : V → Option Int → Option Int → Hp → VK → Prop) : Prop :=
  ∀ (pins : List (Addr × Obj)) (s : Shared) (σ : St) (H : Hp) (x : V) (v vl vu : Value) (lo hi : Option Int) (sl : Addr) (Q : VK), Inv X pins σ H s → RelV x v → s.heap.IsSliceOf sl vl vu .none → IsPart vl lo → IsPart vu hi → r x lo hi H Q →
    ∃ T id, typeLookup (.type T) "__getitem__" = pure (some (.builtin id)) ∧ s.TypeIs v T ∧ wpAny (model X.prog X.w) X.A (getItem v (.ref sl)) (EP X pins σ Q) X.xe s
theorem SlR.or {r r' : V → Option Int → Option Int → Hp → VK → Prop} (h : SlR X r) (h' : SlR X r') : SlR X (fun x lo hi H Q => r x lo hi H Q ∨ r' x lo hi H Q) := by
  intro pins s σ H x v vl vu lo hi sl Q I rx hs pl pu q
  rcases q with q | q
  · exact h pins s σ H x v vl vu lo hi sl Q I rx hs pl pu q
  · exact h' pins s σ H x v vl vu lo hi sl Q I rx hs pl pu q
def tSl (r : V → Option Int → Option Int → Hp → VK → Prop) (te : TE) (tl th : TO) : TE := fun σ H Q => te σ H fun x H1 => tl σ H1 fun l H2 => th σ H2 fun u H3 => r x l u H3 Q
theorem pe_slice {r : V → Option Int → Option Int → Hp → VK → Prop} (hr : SlR X r) (he : PE X e te) (hl : PO X lo tl) (hu : PO X hi th) : PE X (.Subscript e (.Slice lo hi none p2) pos) (tSl r te tl th) := by
  intro pins s σ H Q I h
  refine Subscript_ (thn (he pins s σ H _ I h) fun v s1 ⟨x, H1, I1, r1, q1⟩ => ?_)
  refine wpAny_Slice (thn (hl pins s1 σ H1 _ I1 q1) fun vl s2 ⟨l, H2, I2, pl, q2⟩ => thn (hu pins s2 σ H2 _ I2 q2) fun vu s3 ⟨u, H3, I3, pu, q3⟩ => ?_)
  rw [evalPart_none]
  refine wpAny_pure ?_
  have I4 : Inv X pins σ H3 { s3 with heap := s3.heap.push { cls := .type "slice", data := .fields #[vl, vu, .none] } } := I3.kept (t' := s3.toks) fun b ob q => Heap.get?_push_of_some _ q
  obtain ⟨T, id, hT, ht, hg⟩ := hr pins { s3 with heap := s3.heap.push { cls := .type "slice", data := .fields #[vl, vu, .none] } } σ H3 x v vl vu l u s3.heap.objs.size Q I4 r1 (Heap.IsSliceOf.new ..) pl pu q3
  show wpAny (model X.prog X.w) X.A (subscriptTail e (.Slice lo hi none p2) v (.ref s3.heap.objs.size)) (EP X pins σ Q) X.xe { s3 with heap := s3.heap.push { cls := .type "slice", data := .fields #[vl, vu, .none] } }
  exact tail_any (ops := [.ref s3.heap.objs.size, v]) ht hT hg (by with_unfolding_all rfl)
def cutV (xs : List V) (lo hi : Option Int) : List V := (xs.drop (HT.sIx xs.length 0 lo)).take (HT.sIx xs.length xs.length hi - HT.sIx xs.length 0 lo)
theorem cutV_length (xs : List V) (lo hi : Option Int) : (cutV xs lo hi).length ≤ xs.length := by
  unfold cutV
  rw [List.length_take, List.length_drop]
  omega
def rSlT (K : PySem.W.Frag) : V → Option Int → Option Int → Hp → VK → Prop := fun x lo hi H Q => ∃ a xs, x = .ref a ∧ SqT K H a xs ∧
  ¬ (HT.sIx xs.length 0 lo = 0 ∧ HT.sIx xs.length xs.length hi = xs.length) ∧ ∀ p, H p = none → Q (.ref p) (upd H p (.tup (cutV xs lo hi)))
theorem sl_tup : SlR X (rSlT X.K) := by
  intro pins s σ H x v vl vu lo hi sl Q I rx hs pl pu h
  obtain ⟨a, xs, rfl, hx, hw, q⟩ := h
  cases rx
  obtain ⟨its, r, ht, hz⟩ := I.tuple hx
  have hlen : its.toArray.size = xs.length := by rw [List.size_toArray]; exact r.length.symm
  refine ⟨"tuple", _, PyProof.Rows.slot_tuple_getitem.lookup, ht.typeIs, ?_⟩
  refine HT.getItem_tuple_cut ht hs pl pu (by rw [hlen]; exact hw) ?_ (by rw [hlen]; exact hz)
  rw [hlen]
  refine ⟨.ref s.heap.objs.size, _, I.laid (t' := s.toks) (o := .tup (cutV xs lo hi)) (fun b ob q => Heap.get?_push_of_some _ q) (Nat.le_refl _) ?_, rfl, q _ (I.hok.fresh (Nat.le_refl _))⟩
  exact ⟨Nat.le_trans (cutV_length xs lo hi) hz, _, (r.drop (HT.sIx xs.length 0 lo)).take (HT.sIx xs.length xs.length hi - HT.sIx xs.length 0 lo), IsTup.new _ _⟩
def rLtT (K : PySem.W.Frag) : R2 := fun x y H Q => ∃ a b ns ms, x = .ref a ∧ y = .ref b ∧ SqT K H a (ns.map V.int) ∧ SqT K H b (ms.map V.int) ∧ Q (.bl (HT.lexLt ns ms)) H
theorem op_ltT (hu : X.A.units < cLine) : OpR X (compareOp .Lt) (rLtT X.K) := by
  intro pins s σ H x y v u Q I rx ry h
  obtain ⟨a, b, ns, ms, rfl, rfl, ha, hb, q⟩ := h
  cases rx
  cases ry
  obtain ⟨its, r1, p1, _⟩ := I.tuple ha
  obtain ⟨its2, r2, p2, _⟩ := I.tuple hb
  have i1 : IntsAre its.toArray.toList ns := intsAre_of r1
  have i2 : IntsAre its2.toArray.toList ms := intsAre_of r2
  exact HT.lt_tupInts p1 p2 i1 i2 hu ⟨.bl (HT.lexLt ns ms), H, I, rfl, q⟩
def rCatT (K : PySem.W.Frag) : R2 := fun x y H Q => ∃ a b xs ys, x = .ref a ∧ y = .ref b ∧ SqT K H a xs ∧ SqT K H b ys ∧ xs ≠ [] ∧ xs.length + ys.length ≤ sizeLine ∧
  (ys = [] → Q (.ref a) H) ∧ (ys ≠ [] → ∀ p, H p = none → Q (.ref p) (upd H p (.tup (xs ++ ys))))
theorem Vals.nil_iff {xs : List V} {us : List Value} (r : Vals xs us) : us = [] ↔ xs = [] := by
  cases r with
  | nil => simp
  | cons _ _ => simp
theorem op_catT : OpR X (binaryOp .Add) (rCatT X.K) := by
  intro pins s σ H x y v u Q I rx ry h
  obtain ⟨a, b, xs, ys, rfl, rfl, ha, hb, hx, hz, q1, q2⟩ := h
  cases rx
  cases ry
  obtain ⟨its, r1, p1, _⟩ := I.tuple ha
  obtain ⟨its2, r2, p2, _⟩ := I.tuple hb
  refine HT.cat_tup p1 p2 (fun z => hx (r1.nil_iff.mp z)) (fun z => ⟨.ref a, H, I, rfl, q1 (r2.nil_iff.mp z)⟩) (fun z => ?_) (by rw [← r1.length, ← r2.length]; exact hz)
  refine ⟨.ref s.heap.objs.size, _, I.laid (t' := s.toks) (o := .tup (xs ++ ys)) (fun b ob q => Heap.get?_push_of_some _ q) (Nat.le_refl _) ?_, rfl, q2 (fun w => z (r2.nil_iff.mpr w)) _ (I.hok.fresh (Nat.le_refl _))⟩
  exact ⟨by rw [List.length_append]; exact hz, _, r1.append r2, IsTup.new _ _⟩
theorem call_tupleT : CallR X (.type "tuple") (fun xs H Q => ∃ a ys, xs = [.ref a] ∧ SqT X.K H a ys ∧ Q (.ref a) H) := by
  intro pins s σ H xs us Q I r h
  obtain ⟨a, ys, rfl, ha, q⟩ := h
  obtain ⟨u, rfl, ru⟩ := vals1 r
  cases ru
  obtain ⟨its, _, p1, _⟩ := I.tuple ha
  exact call_tuple_same (items := its.toArray) p1 ⟨.ref a, H, I, rfl, q⟩
end
end L2
namespace L2
open PySem PySem.Spec PyProof.Rows
def ixN (n : Nat) (i : Int) : Option Nat := if 0 ≤ i then (if i < n then some i.toNat else none) else if -(n : Int) ≤ i then some (i + n).toNat else none
def atI {α : Type} (xs : List α) (i : Int) : Option α := (ixN xs.length i).bind fun j => xs[j]?
theorem ixN_seq {n : Nat} {i : Int} {j : Nat} (h : ixN n i = some j) : seqIndex? i n = some j ∧ j < n ∧ -(n : Int) ≤ i ∧ i < n := by
  unfold ixN at h
  by_cases h0 : 0 ≤ i
  · rw [if_pos h0] at h
    by_cases h1 : i < n
    · rw [if_pos h1] at h
      have e : i.toNat = j := Option.some.inj h
      exact ⟨by rw [seqIndex_of h0 h1, e], by omega, by omega, h1⟩
    · rw [if_neg h1] at h; cases h
  · rw [if_neg h0] at h
    by_cases h1 : -(n : Int) ≤ i
    · rw [if_pos h1] at h
      have e : (i + n).toNat = j := Option.some.inj h
      exact ⟨by rw [seqIndex_neg (by omega) h1, e], by omega, h1, by omega⟩
    · rw [if_neg h1] at h; cases h
theorem atI_get {α : Type} {xs : List α} {i : Int} {v : α} (h : atI xs i = some v) : ∃ j, seqIndex? i xs.length = some j ∧ xs[j]? = some v ∧ j < xs.length ∧ -(xs.length : Int) ≤ i ∧ i < xs.length := by
  unfold atI at h
  cases e : ixN xs.length i with
  | none => rw [e] at h; cases h
  | some j =>
    rw [e] at h
    obtain ⟨h1, h2, h3, h4⟩ := ixN_seq e
    exact ⟨j, h1, h, h2, h3, h4⟩
theorem atI_nat {α : Type} {xs : List α} {j : Nat} {v : α} (h : xs[j]? = some v) : atI xs (j : Int) = some v := by
  have hj : j < xs.length := (List.getElem?_eq_some_iff.mp h).1
  have e : ixN xs.length (j : Int) = some j := by
    unfold ixN
    rw [if_pos (by omega), if_pos (by omega)]; simp
  unfold atI; rw [e]; exact h
theorem atI_last {α : Type} (xs : List α) (v : α) : atI (xs ++ [v]) (-1) = some v := by
  have hl : (xs ++ [v]).length = xs.length + 1 := by simp
  have e : ixN (xs ++ [v]).length (-1) = some xs.length := by
    unfold ixN
    rw [hl, if_neg (by decide), if_pos (by omega)]
    congr 1
    omega
  unfold atI
  rw [e]
  show (xs ++ [v])[xs.length]? = some v
  simp
def PlainIx (b : Expr) : Prop := ∀ o i, subscripted b false o i = operate [o, i] (getItem o i)
def IxR (X : Cx) (r : R2) : Prop :=
  ∀ (value slice : Expr) (pins : List (Addr × Obj)) (s : Shared) (σ : St) (H : Hp) (x y : V) (v u : Value) (Q : VK), Inv X pins σ H s → RelV x v → RelV y u → r x y H Q →
    subscripted slice false v u = operate [v, u] (getItem v u) → wpAny (model X.prog X.w) X.A (subscriptTail value slice v u) (EP X pins σ Q) X.xe s
def MtR (X : Cx) (id : String) (r : V → List V → Hp → VK → Prop) : Prop :=
  ∀ (pins : List (Addr × Obj)) (s : Shared) (σ : St) (H : Hp) (x : V) (xs : List V) (v : Value) (us : List Value) (Q : VK), Inv X pins σ H s → RelV x v → Vals xs us → r x xs H Q →
    wpAny (model X.prog X.w) X.A (call (.builtin id) (v :: us)) (EP X pins σ Q) X.xe s
section
variable {X : Cx} {a b : Expr} {ta tb : TE} {pos : Pos}
theorem IxR.or {r r' : R2} (h : IxR X r) (h' : IxR X r') : IxR X (fun x y H Q => r x y H Q ∨ r' x y H Q) := by
  intro value slice pins s σ H x y v u Q I rx ry q hs
  rcases q with q | q
  · exact h value slice pins s σ H x y v u Q I rx ry q hs
  · exact h' value slice pins s σ H x y v u Q I rx ry q hs
theorem MtR.or {id : String} {r r' : V → List V → Hp → VK → Prop} (h : MtR X id r) (h' : MtR X id r') : MtR X id (fun x xs H Q => r x xs H Q ∨ r' x xs H Q) := by
  intro pins s σ H x xs v us Q I rx rs q
  rcases q with q | q
  · exact h pins s σ H x xs v us Q I rx rs q
  · exact h' pins s σ H x xs v us Q I rx rs q
theorem pe_ix {r : R2} (hr : IxR X r) (ha : PE X a ta) (hb : PE X b tb) (hs : PlainIx b) : PE X (.Subscript a b pos) (tOp r ta tb) := by
  intro pins s σ H Q I h
  exact Subscript_ (binT ha hb I h fun v u s2 x y H2 I2 rx ry q => hr a b pins s2 σ H2 x y v u Q I2 rx ry q (hs _ _))
def rIxL (K : PySem.W.Frag) : R2 := fun x y H Q => ∃ p xs i v, x = .ref p ∧ y = .int i ∧ SqL K H p xs ∧ atI xs i = some v ∧ Q v H
def rIxT (K : PySem.W.Frag) : R2 := fun x y H Q => ∃ p xs i v, x = .ref p ∧ y = .int i ∧ SqT K H p xs ∧ atI xs i = some v ∧ Q v H
def rIxS : R2 := fun x y H Q => ∃ z i c, x = .str z ∧ y = .int i ∧ z.length ≤ sizeLine ∧ atI z.cps.toList i = some c ∧ Q (.str ⟨#[c]⟩) H
theorem ix_list : IxR X (rIxL X.K) := by
  intro value slice pins s σ H x y v u Q I rx ry h hs
  obtain ⟨p, xs, i, z, rfl, rfl, hq, he, q⟩ := h
  cases rx
  obtain ⟨t, rfl⟩ := ry
  obtain ⟨its, r, pl, hz⟩ := I.list hq
  obtain ⟨j, h1, h2, h3, h4, h5⟩ := atI_get he
  obtain ⟨w, ew, rw'⟩ := r.get h2
  have hl := r.length
  have hn := line63
  have fin : EP X pins σ Q w s := ⟨z, H, I, rw', q⟩
  by_cases h0 : 0 ≤ i
  · have hj : i.toNat = j := by
      rw [seqIndex_of h0 h5] at h1
      exact Option.some.inj h1
    exact item_listR pl.isList h0 (by omega) (by rw [hj]; simpa using ew) fin hs
  · have hj : (i + (its.toArray.size : Int)).toNat = j := by
      rw [seqIndex_neg (by omega) h4] at h1
      rw [List.size_toArray, ← hl]
      exact Option.some.inj h1
    exact subscriptTail_builtinR (x := w) pl.isList.typeIs slot_list_getitem.lookup
      (wpAny_getItem_list_neg (Q := fun r s' => r = w ∧ EP X pins σ Q r s') pl.isList (by omega) (by rw [List.size_toArray] <;> omega) (by omega) (by rw [hj]; simpa using ew) ⟨rfl, fin⟩) hs
theorem ix_tup : IxR X (rIxT X.K) := by
  intro value slice pins s σ H x y v u Q I rx ry h hs
  obtain ⟨p, xs, i, z, rfl, rfl, hq, he, q⟩ := h
  cases rx
  obtain ⟨t, rfl⟩ := ry
  obtain ⟨its, r, pl, hz⟩ := I.tuple hq
  obtain ⟨j, h1, h2, h3, h4, h5⟩ := atI_get he
  obtain ⟨w, ew, rw'⟩ := r.get h2
  have hl := r.length
  have hn := line63
  have fin : EP X pins σ Q w s := ⟨z, H, I, rw', q⟩
  exact subscriptTail_builtinR (x := w) pl.typeIs slot_tuple_getitem.lookup
    (getItem_tuple (j := j) (Q := fun r s' => r = w ∧ EP X pins σ Q r s') pl (by omega) (by omega) (by rw [List.size_toArray, ← hl]; exact h1) (by simpa using ew) ⟨rfl, fin⟩) hs
theorem ix_str : IxR X rIxS := by
  intro value slice pins s σ H x y v u Q I rx ry h hs
  obtain ⟨z, i, c, rfl, rfl, hz, he, q⟩ := h
  obtain ⟨t, rfl⟩ := rx
  obtain ⟨t', rfl⟩ := ry
  obtain ⟨j, h1, h2, h3, h4, h5⟩ := atI_get he
  have hl : z.cps.toList.length = z.length := by simp [Str.length]
  rw [hl] at h1 h4 h5
  have hn := line63
  exact tail_any (typeIs_str s z t) slot_str_getitem.lookup (getItem_str (c := c) (by
    have e1 : decide (i < -(2 ^ 63 : Int)) = false := decide_eq_false (by omega)
    have e2 : decide (i ≥ 2 ^ 63) = false := decide_eq_false (by omega)
    rw [e1, e2, Bool.or_false]) (by rw [h1]; simpa using h2) ⟨.str ⟨#[c]⟩, H, I.tok _, ⟨_, rfl⟩, q⟩) hs
def rIx (K : PySem.W.Frag) : R2 := fun x y H Q => rIxL K x y H Q ∨ rIxT K x y H Q ∨ rIxS x y H Q
theorem ix_seq : IxR X (rIx X.K) := ix_list.or (ix_tup.or ix_str)
theorem mapSeq_set (its : List Value) (n j : Nat) (u : Value) : Obj.mapSeq (·.setIfInBounds j u) { cls := .type "list", data := .seq its.toArray n } = { cls := .type "list", data := .seq (its.set j u).toArray n } := by
  simp [Obj.mapSeq]
theorem Inv.lst {pins : List (Addr × Obj)} {σ : St} {H : Hp} {s : Shared} {p : Addr} {xs : List V} (I : Inv X pins σ H s) (h : H p = some (.lst xs)) :
    ∃ (its : List Value) (n : Nat), Vals xs its ∧ s.heap.get? p = some { cls := .type "list", data := .seq its.toArray n } ∧ xs.length ≤ sizeLine := by
  obtain ⟨z, its, n, r, e⟩ := I.hok p _ h
  exact ⟨its, n, r, e, z⟩
theorem Inv.lstUpd {pins : List (Addr × Obj)} {σ : St} {H : Hp} {s : Shared} {p : Addr} {xs ys : List V} {its its' : List Value} {n n' : Nat} {f : Obj → Obj} (I : Inv X pins σ H s) (h : H p = some (.lst xs))
    (ho : s.heap.get? p = some { cls := .type "list", data := .seq its.toArray n }) (hf : f { cls := .type "list", data := .seq its.toArray n } = { cls := .type "list", data := .seq its'.toArray n' }) (r : Vals ys its') (hz : ys.length ≤ sizeLine) (t : Nat) :
    Inv X pins σ (upd H p (.lst ys)) { s with heap := s.heap.update p f, toks := t } := by
  have e : (s.heap.update p f).get? p = some { cls := .type "list", data := .seq its'.toArray n' } := by
    rw [Heap.get?_update_self f ho (by rw [hf] <;> rfl), hf]
  refine I.write (x := p) (e := p) (by rw [h]; trivial) (.inl rfl) (fun b u hb q => (Heap.get?_update_other _ _ (Ne.symm hb)).trans q) ⟨_, e⟩ ?_
  exact ⟨hz, its', n', r, e⟩
def rSetL : V → V → V → Hp → (Hp → Prop) → Prop := fun o i v H Q => ∃ p xs k j, o = .ref p ∧ i = .int k ∧ H p = some (.lst xs) ∧ ixN xs.length k = some j ∧ Q (upd H p (.lst (xs.set j v)))
theorem set_list : PSet X rSetL := by
  intro pins s σ H o i v ov iv u Q I ro ri rv h
  obtain ⟨p, xs, k, j, rfl, rfl, hp, hj, q⟩ := h
  cases ro
  obtain ⟨t, rfl⟩ := ri
  obtain ⟨its, n, r, ho, hz⟩ := I.lst hp
  obtain ⟨h1, h2, h3, h4⟩ := ixN_seq hj
  have hl := r.length
  have hn := line63
  have I' : Inv X pins σ (upd H p (.lst (xs.set j v))) { s with heap := s.heap.update p (Obj.mapSeq (·.setIfInBounds j u)) } :=
    I.lstUpd hp ho (mapSeq_set its n j u) (r.set rv j) (by rw [List.length_set]; exact hz) s.toks
  by_cases h0 : 0 ≤ k
  · have hk : k.toNat = j := by
      rw [seqIndex_of h0 h4] at h1
      exact Option.some.inj h1
    exact PySem.W.ki_setAt ho h0 (by omega) (by rw [List.size_toArray, ← hl]; exact h4) (by rw [hk]; exact ⟨_, I', q⟩)
  · have hk : (k + (its.toArray.size : Int)).toNat = j := by
      rw [seqIndex_neg (by omega) h3] at h1
      rw [List.size_toArray, ← hl]
      exact Option.some.inj h1
    exact PySem.W.ki_setBack ho (by omega) (by rw [List.size_toArray, ← hl]; exact h3) (by omega) (by rw [hk]; exact ⟨_, I', q⟩)
theorem slice_bounds (lo hi : Option Int) (n : Nat) : (sliceBounds lo hi none n).1 = ((HT.sIx n 0 lo : Nat) : Int) ∧ (sliceBounds lo hi none n).2.1 = ((HT.sIx n n hi : Nat) : Int) ∧ (sliceBounds lo hi none n).2.2 = 1 := by
  refine ⟨?_, ?_, rfl⟩
  · cases lo with
    | none => simp [sliceBounds, HT.sIx]
    | some i =>
      simp only [sliceBounds, HT.sIx, Option.getD_none, show (1 : Int) > 0 by decide, if_true]
      by_cases h : i < 0
      · simp only [h, if_true] <;> omega
      · simp only [h, if_false] <;> omega
  · cases hi with
    | none => simp [sliceBounds, HT.sIx]
    | some i =>
      simp only [sliceBounds, HT.sIx, Option.getD_none, show (1 : Int) > 0 by decide, if_true]
      by_cases h : i < 0
      · simp only [h, if_true] <;> omega
      · simp only [h, if_false] <;> omega
theorem slicePick_cut (its : List Value) (lo hi : Option Int) : slicePick its.toArray lo hi none = ((its.drop (HT.sIx its.length 0 lo)).take (HT.sIx its.length its.length hi - HT.sIx its.length 0 lo)).toArray := by
  obtain ⟨h1, h2, h3⟩ := slice_bounds lo hi its.toArray.size
  unfold slicePick
  rw [h1, h2, h3]
  simp only [sliceRange_one, pick_run, List.size_toArray] <;> rfl
def rSlL (K : PySem.W.Frag) : V → Option Int → Option Int → Hp → VK → Prop := fun x lo hi H Q => ∃ a xs, x = .ref a ∧ SqL K H a xs ∧ ∀ p, H p = none → Q (.ref p) (upd H p (.lst (cutV xs lo hi)))
theorem sl_list : SlR X (rSlL X.K) := by
  intro pins s σ H x v vl vu lo hi sl Q I rx hs pl pu h
  obtain ⟨a, xs, rfl, hx, q⟩ := h
  cases rx
  obtain ⟨its, r, ht, hz⟩ := I.list hx
  have hlen := r.length
  refine ⟨"list", _, slot_list_getitem.lookup, ht.isList.typeIs, ?_⟩
  refine wpAny_getItem_list_slice ht.isList hs pl pu .none (by simp) ?_ (by rw [List.size_toArray] <;> omega)
  rw [slicePick_cut, ← hlen]
  refine ⟨.ref s.heap.objs.size, _, I.laid (t' := s.toks) (o := .lst (cutV xs lo hi)) (fun b ob q => Heap.get?_push_of_some _ q) (Nat.le_refl _) ?_, rfl, q _ (I.hok.fresh (Nat.le_refl _))⟩
  exact ⟨Nat.le_trans (cutV_length xs lo hi) hz, _, 0, (r.drop (HT.sIx xs.length 0 lo)).take (HT.sIx xs.length xs.length hi - HT.sIx xs.length 0 lo), Heap.get?_push_size _ rfl⟩
def flatV : V → Bool
  | .non => true
  | .bl _ => true
  | .int _ => true
  | .str _ => true
  | _ => false
def eqV : V → V → Bool
  | .non, .non => true
  | .bl a, .bl b => a == b
  | .bl a, .int b => (if a then 1 else 0) == b
  | .int a, .bl b => a == (if b then 1 else 0)
  | .int a, .int b => a == b
  | .str a, .str b => a == b
  | _, _ => false
theorem eqAt_V {A : Around} {s : Shared} {y x : V} {u v : Value} (ry : RelV y u) (rx : RelV x v) (fy : flatV y = true) (fx : flatV x = true) : SeqAt.EqAt A s u v (eqV y x) := by
  cases y with
  | non =>
    cases ry
    cases x with
    | non => cases rx; exact SeqAt.EqAt.same _
    | bl b => cases rx; exact SeqAt.EqAt.none_bool b
    | int b => obtain ⟨t, rfl⟩ := rx; exact SeqAt.EqAt.none_int b t
    | str b => obtain ⟨t, rfl⟩ := rx; exact SeqAt.EqAt.none_str b t
    | _ => exact absurd (show false = true from fx) Bool.false_ne_true
  | bl a =>
    cases ry
    cases x with
    | non => cases rx; exact SeqAt.EqAt.bool_none a
    | bl b => cases rx; exact SeqAt.EqAt.bool_bool a b
    | int b => obtain ⟨t, rfl⟩ := rx; exact SeqAt.EqAt.bool_int a b t
    | str b => obtain ⟨t, rfl⟩ := rx; exact SeqAt.EqAt.bool_str a b t
    | _ => exact absurd (show false = true from fx) Bool.false_ne_true
  | int a =>
    obtain ⟨t', rfl⟩ := ry
    cases x with
    | non => cases rx; exact SeqAt.EqAt.int_none a t'
    | bl b => cases rx; exact SeqAt.EqAt.int_bool a t' b
    | int b => obtain ⟨t, rfl⟩ := rx; exact SeqAt.EqAt.int_int a t' b t
    | str b => obtain ⟨t, rfl⟩ := rx; exact SeqAt.EqAt.int_str a t' b t
    | _ => exact absurd (show false = true from fx) Bool.false_ne_true
  | str a =>
    obtain ⟨t', rfl⟩ := ry
    cases x with
    | non => cases rx; exact SeqAt.EqAt.str_none a t'
    | bl b => cases rx; exact SeqAt.EqAt.str_bool a t' b
    | int b => obtain ⟨t, rfl⟩ := rx; exact SeqAt.EqAt.str_int a t' b t
    | str b => obtain ⟨t, rfl⟩ := rx; exact SeqAt.EqAt.str_str a t' b t
    | _ => exact absurd (show false = true from fx) Bool.false_ne_true
  | _ => exact absurd (show false = true from fy) Bool.false_ne_true
def eqU (x : V) (u : Value) : Bool := match u with
  | .none => eqV .non x
  | .bool b => eqV (.bl b) x
  | .int i _ => eqV (.int i) x
  | .str z _ => eqV (.str z) x
  | _ => false
theorem eqU_of {x y : V} {u : Value} (r : RelV y u) (f : flatV y = true) : eqU x u = eqV y x := by
  cases y with
  | non => cases r; rfl
  | bl b => cases r; rfl
  | int i => obtain ⟨t, rfl⟩ := r; rfl
  | str z => obtain ⟨t, rfl⟩ := r; rfl
  | _ => exact absurd (show false = true from f) Bool.false_ne_true
theorem any_eqU {x : V} : ∀ {xs : List V} {us : List Value}, Vals xs us → xs.all flatV = true → us.any (eqU x) = xs.any fun y => eqV y x
  | _, _, .nil, _ => rfl
  | y :: xs, u :: us, .cons r t, f => by
    rw [List.all_cons, Bool.and_eq_true] at f
    rw [List.any_cons, List.any_cons, eqU_of r f.1, any_eqU t f.2]
theorem mem_eqAt {A : Around} {s : Shared} {x : V} {v : Value} (rx : RelV x v) (fx : flatV x = true) : ∀ {xs : List V} {us : List Value}, Vals xs us → xs.all flatV = true → ∀ u ∈ us, SeqAt.EqAt A s u v (eqU x u)
  | _, _, .nil, _ => fun u hu => by cases hu
  | y :: xs, u :: us, .cons r t, f => fun u' hu => by
    rw [List.all_cons, Bool.and_eq_true] at f
    rcases List.mem_cons.mp hu with rfl | hu
    · rw [eqU_of r f.1]; exact eqAt_V r rx f.1 fx
    · exact mem_eqAt rx fx t f.2 u' hu
def inV (x : V) (xs : List V) : Bool := xs.any fun y => eqV y x
def rIn (K : PySem.W.Frag) (neg : Bool) : R2 := fun x y H Q => ∃ p xs, y = .ref p ∧ (SqL K H p xs ∨ SqT K H p xs) ∧ flatV x = true ∧ xs.all flatV = true ∧ Q (.bl (if neg then !inV x xs else inV x xs)) H
theorem op_in_seq : OpR X (compareOp .In) (rIn X.K false) := by
  intro pins s σ H x y v u Q I rx ry h
  obtain ⟨p, xs, rfl, hq, fx, fs, q⟩ := h
  cases ry
  rcases hq with hq | hq
  · obtain ⟨its, r, pl, hz⟩ := I.list hq
    refine SeqAt.in_listAt (eqU x) pl.isList (fun w hw => mem_eqAt rx fx r fs w (by simpa using hw)) ⟨.bl _, H, I, rfl, ?_⟩
    rw [show its.toArray.any (eqU x) = its.any (eqU x) by simp, any_eqU r fs]
    exact q
  · obtain ⟨its, r, pl, hz⟩ := I.tuple hq
    refine SeqAt.in_tupleAt (eqU x) pl (fun w hw => mem_eqAt rx fx r fs w (by simpa using hw)) ⟨.bl _, H, I, rfl, ?_⟩
    rw [show its.toArray.any (eqU x) = its.any (eqU x) by simp, any_eqU r fs]
    exact q
theorem op_notIn_seq : OpR X (compareOp .NotIn) (rIn X.K true) := by
  intro pins s σ H x y v u Q I rx ry h
  obtain ⟨p, xs, rfl, hq, fx, fs, q⟩ := h
  cases ry
  rcases hq with hq | hq
  · obtain ⟨its, r, pl, hz⟩ := I.list hq
    refine SeqAt.notIn_listAt (eqU x) pl.isList (fun w hw => mem_eqAt rx fx r fs w (by simpa using hw)) ⟨.bl _, H, I, rfl, ?_⟩
    rw [show its.toArray.any (eqU x) = its.any (eqU x) by simp, any_eqU r fs]
    exact q
  · obtain ⟨its, r, pl, hz⟩ := I.tuple hq
    refine SeqAt.notIn_tupleAt (eqU x) pl (fun w hw => mem_eqAt rx fx r fs w (by simpa using hw)) ⟨.bl _, H, I, rfl, ?_⟩
    rw [show its.toArray.any (eqU x) = its.any (eqU x) by simp, any_eqU r fs]
    exact q
theorem op_notIn_str : OpR X (compareOp .NotIn) (fun x y H Q => ∃ i j, x = .str i ∧ y = .str j ∧ Q (.bl (!(!(Builtin.Str.occurrences j i 0 j.length 1).isEmpty))) H) := by
  intro pins s σ H x y v u Q I rx ry h
  obtain ⟨i, j, rfl, rfl, q⟩ := h
  obtain ⟨t, rfl⟩ := rx
  obtain ⟨t', rfl⟩ := ry
  exact notIn_str ⟨.bl _, H, I, rfl, q⟩
theorem call_len_seq : CallR X (.builtin "len") (fun xs H Q => ∃ p ys, xs = [.ref p] ∧ (SqL X.K H p ys ∨ SqT X.K H p ys) ∧ Q (.int ys.length) H) := by
  intro pins s σ H xs us Q I r h
  obtain ⟨p, ys, rfl, hq, q⟩ := h
  obtain ⟨u, rfl, rx⟩ := vals1 r
  cases rx
  have hn := line63
  rcases hq with hq | hq
  · obtain ⟨its, r', pl, hz⟩ := I.list hq
    have hlen := r'.length
    exact Calls.call_len_list pl.isList (by simp only [List.size_toArray] <;> omega) ⟨.int ys.length, H, I.tok _, ⟨s.toks + 1, by rw [List.size_toArray, hlen]⟩, q⟩
  · obtain ⟨its, r', pl, hz⟩ := I.tuple hq
    have hlen := r'.length
    exact len_tuple pl (by simp only [List.size_toArray] <;> omega) ⟨.int ys.length, H, I.tok _, ⟨s.toks + 1, by rw [List.size_toArray, hlen]⟩, q⟩
theorem call_len_str : CallR X (.builtin "len") (fun xs H Q => ∃ z, xs = [.str z] ∧ z.length ≤ sizeLine ∧ Q (.int z.length) H) := by
  intro pins s σ H xs us Q I r h
  obtain ⟨z, rfl, hz, q⟩ := h
  obtain ⟨u, rfl, t, rfl⟩ := vals1 r
  have hn := line63
  exact len_str (by omega) ⟨.int z.length, H, I.tok _, ⟨_, rfl⟩, q⟩
theorem CallR.or {f : Value} {r r' : List V → Hp → VK → Prop} (h : CallR X f r) (h' : CallR X f r') : CallR X f (fun xs H Q => r xs H Q ∨ r' xs H Q) := by
  intro pins s σ H xs us Q I rs q
  rcases q with q | q
  · exact h pins s σ H xs us Q I rs q
  · exact h' pins s σ H xs us Q I rs q
theorem call_list_of : CallR X (.type "list") (fun xs H Q => ∃ p ys, xs = [.ref p] ∧ (SqL X.K H p ys ∨ SqT X.K H p ys) ∧ ∀ l, H l = none → Q (.ref l) (upd H l (.lst ys))) := by
  intro pins s σ H xs us Q I r h
  obtain ⟨p, ys, rfl, hq, q⟩ := h
  obtain ⟨u, rfl, rx⟩ := vals1 r
  cases rx
  have fin : ∀ (its : List Value), Vals ys its → ys.length ≤ sizeLine → ∀ (h' : Heap) (c' : Nat), (∀ b o', s.heap.get? b = some o' → h'.get? b = some o') →
      h'.get? s.heap.objs.size = some { cls := .type "list", dict := none, data := .seq its.toArray c', slots := #[] } → EP X pins σ Q (.ref s.heap.objs.size) { s with heap := h' } := fun its r' hz h' c' kp e =>
    ⟨.ref s.heap.objs.size, _, I.laid (t' := s.toks) kp (Nat.le_refl _) (show ObjOk X.prog X.w _ h' _ (.lst ys) from ⟨hz, its, c', r', e⟩), rfl, q _ (I.hok.fresh (Nat.le_refl _))⟩
  rcases hq with hq | hq
  · obtain ⟨its, r', pl, hz⟩ := I.list hq
    have hlen := r'.length
    obtain ⟨o, ho, hc, n, hd⟩ := pl.isList
    exact call_list_seq p (.inl rfl) ho hc hd (fun h' c' kp e => fin its r' hz h' c' kp e) (by simp only [List.size_toArray] <;> omega)
  · obtain ⟨its, r', pl, hz⟩ := I.tuple hq
    have hlen := r'.length
    obtain ⟨o, ho, hc, n, hd⟩ := pl
    exact call_list_seq p (.inr rfl) ho hc hd (fun h' c' kp e => fin its r' hz h' c' kp e) (by simp only [List.size_toArray] <;> omega)
theorem call_tuple_of : CallR X (.type "tuple") (fun xs H Q => ∃ p ys, xs = [.ref p] ∧ ((SqL X.K H p ys ∧ ∀ l, H l = none → Q (.ref l) (upd H l (.tup ys))) ∨ (SqT X.K H p ys ∧ Q (.ref p) H))) := by
  intro pins s σ H xs us Q I r h
  obtain ⟨p, ys, rfl, h⟩ := h
  obtain ⟨u, rfl, rx⟩ := vals1 r
  cases rx
  rcases h with ⟨hq, q⟩ | ⟨hq, q⟩
  · obtain ⟨its, r', pl, hz⟩ := I.list hq
    have hlen := r'.length
    refine call_tuple_list pl.isList (fun h' kp => ?_) (by simp only [List.size_toArray] <;> omega)
    have I1 : Inv X pins σ H { s with heap := h' } := I.kept (t' := s.toks) kp
    have I2 : Inv X pins σ (upd H h'.objs.size (.tup ys)) { s with heap := h'.push { cls := .type "tuple", data := .seq its.toArray } } :=
      I1.laid (t' := s.toks) (fun b o e => Heap.get?_push_of_some _ e) (Nat.le_refl _) (show ObjOk X.prog X.w _ _ _ (.tup ys) from ⟨hz, its, r', IsTup.new _ _⟩)
    exact ⟨.ref h'.objs.size, _, I2, rfl, q _ (I1.hok.fresh (Nat.le_refl _))⟩
  · obtain ⟨its, r', pl, hz⟩ := I.tuple hq
    exact call_tuple_same pl ⟨.ref p, H, I, rfl, q⟩
def tyV (K : PySem.W.Frag) (T : String) (x : V) (H : Hp) : Prop := match x with
  | .str _ => T = "str"
  | .int _ => T = "int"
  | .ref p => (T = "list" ∧ ∃ xs, SqL K H p xs) ∨ (T = "tuple" ∧ ∃ o, K.lookup p = some o ∧ o.cls = .type "tuple" ∧ o.dict = none) ∨
      (T = "dict" ∧ ((∃ kvs, H p = some (.dK kvs)) ∨ ∃ kvs, H p = some (.dT kvs))) ∨ (T = "set" ∧ ∃ S n, H p = some (.set S n))
  | _ => False
theorem tyV_is {pins : List (Addr × Obj)} {σ : St} {H : Hp} {s : Shared} {T : String} {x : V} {v : Value} (I : Inv X pins σ H s) (r : RelV x v) (ty : tyV X.K T x H) :
    s.TypeIs v T ∧ ∀ a, v = .ref a → ∃ ob, s.heap.get? a = some ob ∧ ob.dict = none := by
  cases x with
  | str z =>
    obtain ⟨t, rfl⟩ := r
    cases (show T = "str" from ty)
    exact ⟨typeIs_str s z t, fun _ e => nomatch e⟩
  | int i =>
    obtain ⟨t, rfl⟩ := r
    cases (show T = "int" from ty)
    exact ⟨typeIs_int s i t, fun _ e => nomatch e⟩
  | ref p =>
    cases r
    rcases ty with ⟨rfl, xs, hq⟩ | ⟨rfl, o, hk, hc, hd⟩ | ⟨rfl, hk⟩ | ⟨rfl, S, n, hk⟩
    · obtain ⟨its, _, pl, _⟩ := I.list hq
      refine ⟨pl.isList.typeIs, fun a e => ?_⟩
      cases e
      obtain ⟨o, n, e, c, hd, _⟩ := pl
      exact ⟨o, e, hd⟩
    · refine ⟨⟨o, I.kIn p o hk, hc⟩, fun a e => ?_⟩
      cases e
      exact ⟨o, I.kIn _ o hk, hd⟩
    · have z : ∃ o, s.heap.get? p = some o ∧ o.ExactDict := by
        rcases hk with ⟨kvs, hk⟩ | ⟨kvs, hk⟩
        · obtain ⟨_, _, _, _, o, _, _, e, ex, _⟩ := I.hok p _ hk
          exact ⟨o, e, ex⟩
        · obtain ⟨_, _, _, _, o, _, _, e, ex, _⟩ := I.hok p _ hk
          exact ⟨o, e, ex⟩
      obtain ⟨o, e, ex⟩ := z
      refine ⟨⟨o, e, ex.1⟩, fun a e2 => ?_⟩
      cases e2
      exact ⟨o, e, ex.2.1⟩
    · obtain ⟨o, _, _, _, e, ex, _⟩ := I.hok p _ hk
      refine ⟨⟨o, e, ex.1⟩, fun a e2 => ?_⟩
      cases e2
      exact ⟨o, e, ex.2.1⟩
  | _ => exact False.elim ty
def tBM0 (K : PySem.W.Frag) (T : String) (r : V → List V → Hp → VK → Prop) (to : TE) : TE := fun σ H Q => to σ H fun x H1 => tyV K T x H1 ∧ r x [] H1 Q
def tBM (K : PySem.W.Frag) (T : String) (r : V → List V → Hp → VK → Prop) (to : TE) (t : TA) : TE := fun σ H Q => to σ H fun x H1 => tyV K T x H1 ∧ t σ H1 fun xs H2 => r x xs H2 Q
variable {o e : Expr} {es : List Expr} {to : TE} {t : TA} {name : Str} {apos cpos : Pos} {T id : String} {r : V → List V → Hp → VK → Prop}
theorem pe_bm0 (pa : PlainAttrs T) (slot : Slot T name id) (hty : typeOf (.builtin id) = pure (.type "method_descriptor")) (hm : MtR X id r) (ho : PE X o to)
    (hbase : attributeBase o name X.env (eval o X.env) = eval o X.env := by rfl) (hline : (apos.endLine == cpos.line) = true := by rfl) : PE X (.Call (.Attribute o name apos) [] [] cpos) (tBM0 X.K T r to) := by
  intro pins s σ H Q I h
  refine wpAny_Call_method0_late hbase hline (thn (ho pins s σ H _ I h) fun v s1 ⟨x, H1, I1, r1, ty, q1⟩ => ?_)
  obtain ⟨h1, h2⟩ := tyV_is I1 r1 ty
  exact ⟨T, id, pa, slot, hty, h1, h2, Calls.callWith_builtin rfl (PySem.evalArgs_none (hm pins s1 σ H1 x [] v [] Q I1 r1 .nil q1))⟩
theorem pe_bm (pa : PlainAttrs T) (slot : Slot T name id) (hty : typeOf (.builtin id) = pure (.type "method_descriptor")) (hm : MtR X id r) (ho : PE X o to) (ha : PA X (e :: es) t)
    (hbase : attributeBase o name X.env (eval o X.env) = eval o X.env := by rfl)
    (hfew : ((backTo cpos (starEach (e :: es) X.env)).all (fun x => !x.1) && (backToKw cpos (keywordEach [] X.env)).all (fun x => x.1.isSome)
      && decide ((e :: es).length + ([] : List Keyword).length + (if ([] : List Keyword).isEmpty then 0 else 1) < 30)) = true := by rfl)
    (hline : (apos.endLine == cpos.line) = true := by rfl) (hs : starEach (e :: es) X.env = (false, eval e X.env) :: starEach es X.env := by rfl) (hplain : (backTo cpos (starEach es X.env)).any (·.1) = false := by rfl) :
    PE X (.Call (.Attribute o name apos) (e :: es) [] cpos) (tBM X.K T r to t) := by
  intro pins s σ H Q I h
  refine wpAny_Call_method_late hbase hfew hline rfl (thn (ho pins s σ H _ I h) fun v s1 ⟨x, H1, I1, r1, ty, q1⟩ => ?_)
  obtain ⟨h1, h2⟩ := tyV_is I1 r1 ty
  refine ⟨T, id, pa, slot, hty, h1, h2, ?_⟩
  have hA := ha cpos pins s1 σ H1 _ I1 q1
  rw [hs] at hA ⊢
  refine Calls.callWith_builtin (by show (false || (backTo cpos (starEach es X.env)).any (·.1)) = false; rw [hplain] <;> rfl) (Calls.evalArgs_plain ?_)
  exact thn hA fun us s2 ⟨vs, H2, I2, r2, q2⟩ => hm pins s2 σ H2 x vs v us Q I2 r1 r2 q2
end
end L2
namespace L2
open PySem PySem.Spec PyProof.Rows
def MtM (X : Cx) (id : String) (r : V → List V → Hp → VK → Prop) : Prop :=
  ∀ (pins : List (Addr × Obj)) (s : Shared) (σ : St) (H : Hp) (x : V) (xs : List V) (v : Value) (us : List Value) (Q : VK), Inv X pins σ H s → RelV x v → Vals xs us → r x xs H Q →
    wpAny (model X.prog X.w) X.A (call (.builtin id) (v :: us)) (EP X pins σ Q) X.xe s
theorem Vals.one : ∀ {x : V} {us : List Value}, Vals [x] us → ∃ u, us = [u] ∧ RelV x u
  | _, _, .cons r .nil => ⟨_, rfl, r⟩
theorem Vals.two : ∀ {x y : V} {us : List Value}, Vals [x, y] us → ∃ u v, us = [u, v] ∧ RelV x u ∧ RelV y v
  | _, _, _, .cons r (.cons q .nil) => ⟨_, _, rfl, r, q⟩
theorem Vals.zero : ∀ {us : List Value}, Vals [] us → us = []
  | _, .nil => rfl
theorem Vals.dropLast {xs : List V} {us : List Value} (h : Vals xs us) : Vals xs.dropLast us.dropLast := by
  induction h with
  | nil => exact .nil
  | cons r t ih =>
    cases t with
    | nil => exact .nil
    | cons q t' => exact .cons r ih
theorem Vals.eraseIdx : ∀ {xs : List V} {us : List Value} (i : Nat), Vals xs us → Vals (xs.eraseIdx i) (us.eraseIdx i)
  | _, _, _, .nil => .nil
  | _, _, 0, .cons _ t => t
  | _, _, i + 1, .cons r t => .cons r (Vals.eraseIdx i t)
theorem Vals.reverse {xs : List V} {us : List Value} (h : Vals xs us) : Vals xs.reverse us.reverse := by
  induction h with
  | nil => exact .nil
  | cons r t ih => rw [List.reverse_cons, List.reverse_cons]; exact Vals.append ih (.cons r .nil)
theorem Vals.rep {xs : List V} {us : List Value} (h : Vals xs us) : ∀ k : Nat, Vals (List.replicate k xs).flatten (List.replicate k us).flatten
  | 0 => .nil
  | k + 1 => by
    rw [List.replicate_succ, List.replicate_succ, List.flatten_cons, List.flatten_cons]
    exact Vals.append h (Vals.rep h k)
theorem erase_last {α : Type} (l : List α) : l.eraseIdx (l.length - 1) = l.dropLast := by
  induction l with
  | nil => rfl
  | cons a r ih =>
    cases r with
    | nil => rfl
    | cons b r =>
      have e : (a :: b :: r).length - 1 = ((b :: r).length - 1) + 1 := by
        have h1 : (a :: b :: r).length = r.length + 2 := rfl
        have h2 : (b :: r).length = r.length + 1 := rfl
        omega
      rw [e, List.eraseIdx_cons_succ, ih]
      all_goals rfl
theorem len_erase {α : Type} : ∀ (l : List α) (i : Nat), (l.eraseIdx i).length ≤ l.length
  | [], _ => Nat.le_refl _
  | _ :: _, 0 => Nat.le_succ _
  | _ :: r, i + 1 => Nat.succ_le_succ (len_erase r i)
theorem foldl_rep (its : List Value) : ∀ (k : Nat) (acc : List Value),
    List.foldl (fun x1 x2 => x1 ++ x2) acc.toArray (List.replicate k its.toArray) = (acc ++ (List.replicate k its).flatten).toArray
  | 0, acc => by simp
  | k + 1, acc => by
    have e : acc.toArray ++ its.toArray = (acc ++ its).toArray := by simp
    have e2 : (acc ++ its) ++ (List.replicate k its).flatten = acc ++ (List.replicate (k + 1) its).flatten := by
      rw [List.replicate_succ, List.flatten_cons, List.append_assoc]
    rw [← e2, ← foldl_rep its k (acc ++ its), ← e, List.replicate_succ, List.foldl_cons]
section
variable {X : Cx} {pins : List (Addr × Obj)} {σ : St} {H : Hp} {s : Shared} {l b : Addr} {xs ys zs : List V}
theorem Inv.lset {its its' : List Value} {n : Nat} {f : Array Value → Array Value} {t' : Nat} (I : Inv X pins σ H s) (hH : H l = some (.lst xs))
    (e : s.heap.get? l = some { cls := .type "list", data := .seq its.toArray n }) (hf : f its.toArray = its'.toArray) (hv : Vals ys its') (hz : ys.length ≤ sizeLine) :
    Inv X pins σ (upd H l (.lst ys)) { s with heap := s.heap.update l (Obj.mapSeq f), toks := t' } := by
  have q := PySem.IsL.update e f
  rw [hf] at q
  refine I.write (x := l) (e := l) (by rw [hH]; exact trivial) (.inl rfl) (fun b' u hb hu => (Heap.get?_update_other s.heap (Obj.mapSeq f) (Ne.symm hb)).trans hu) ⟨_, q⟩ ?_
  exact ⟨hz, its', _, hv, q⟩
theorem Inv.lnew {its : List Value} {t' : Nat} (I : Inv X pins σ H s) (hv : Vals ys its) (hz : ys.length ≤ sizeLine) :
    Inv X pins σ (upd H s.heap.objs.size (.lst ys)) { s with heap := s.heap.push { cls := .type "list", data := .seq its.toArray }, toks := t' } :=
  I.laid (fun _ _ q => Heap.get?_push_of_some _ q) (Nat.le_refl _) ⟨hz, its, 0, hv, Heap.get?_push_size _ rfl⟩
theorem Inv.fresh (I : Inv X pins σ H s) : H s.heap.objs.size = none := I.hok.fresh (Nat.le_refl _)
theorem Inv.lstM (I : Inv X pins σ H s) (hH : H l = some (.lst xs)) : xs.length ≤ sizeLine ∧ ∃ (its : List Value) (n : Nat), Vals xs its ∧ xs.length = its.length ∧ s.heap.get? l = some { cls := .type "list", data := .seq its.toArray n } := by
  obtain ⟨z, its, n, r, e⟩ := I.hok l _ hH
  exact ⟨z, its, n, r, r.length, e⟩
theorem notLongL {n : Nat} (h : n ≤ sizeLine) : Builtin.List.listTooLong n = false := by
  unfold Builtin.List.listTooLong
  exact decide_eq_false (by omega)
end
section
variable {X : Cx}
def rAppend : V → List V → Hp → VK → Prop := fun x vs H Q => ∃ l xs y, x = .ref l ∧ vs = [y] ∧ H l = some (.lst xs) ∧ xs.length < sizeLine ∧ Q .non (upd H l (.lst (xs ++ [y])))
theorem mt_append : MtM X "list.append" rAppend := by
  intro pins s σ H x vs v us Q I rx rv h
  obtain ⟨l, xs, y, rfl, rfl, hH, hz, q⟩ := h
  cases rx
  obtain ⟨u, rfl, ru⟩ := rv.one
  obtain ⟨z, its, n, r, hl, e⟩ := I.lstM hH
  refine call_meets F.slot_list_append ⟨_, e, rfl⟩ F.entry_list_append (F.args_list_append_2 _ _) (PySem.list_append l its.toArray n u (by rw [List.size_toArray]; omega)) ⟨e, ?_⟩
  refine ⟨.non, _, I.lset (its' := its ++ [u]) hH e (by simp) (r.append (.cons ru .nil)) ?_, rfl, q⟩
  rw [List.length_append, List.length_singleton]
  omega
def rExtend : V → List V → Hp → VK → Prop := fun x vs H Q => ∃ l b xs zs, x = .ref l ∧ vs = [.ref b] ∧ H l = some (.lst xs) ∧ H b = some (.lst zs) ∧ xs.length + zs.length ≤ sizeLine ∧ Q .non (upd H l (.lst (xs ++ zs)))
theorem mt_extend : MtM X "list.extend" rExtend := by
  intro pins s σ H x vs v us Q I rx rv h
  obtain ⟨l, b, xs, zs, rfl, rfl, hH, hB, hz, q⟩ := h
  cases rx
  obtain ⟨u, rfl, ru⟩ := rv.one
  cases ru
  obtain ⟨z, its, n, r, hl, e⟩ := I.lstM hH
  obtain ⟨z2, its2, n2, r2, hl2, e2⟩ := I.lstM hB
  have hsz : its.toArray.size + its2.toArray.size ≤ sizeLine := by rw [List.size_toArray, List.size_toArray]; omega
  have hlong : ¬ (!its.toArray.isEmpty && Builtin.List.listTooLong (its.toArray.size + its2.toArray.size)) = true := by
    rw [notLongL hsz, Bool.and_false]
    exact Bool.false_ne_true
  refine call_meets F.slot_list_extend ⟨_, e, rfl⟩ F.entry_list_extend (F.args_list_extend_2 _ _)
    (AutoSeq1.list_extend_list_list_0 l its.toArray n b its2.toArray n2 hlong (by rw [List.size_toArray]; omega) (by omega)) ⟨e, e2, ?_⟩
  refine ⟨.non, _, I.lset (its' := its ++ its2) hH e (by simp) (r.append r2) ?_, rfl, q⟩
  rw [List.length_append]
  omega
def rPop : V → List V → Hp → VK → Prop := fun x vs H Q => ∃ l xs y, x = .ref l ∧ vs = [] ∧ H l = some (.lst xs) ∧ xs[xs.length - 1]? = some y ∧ Q y (upd H l (.lst xs.dropLast))
theorem mt_pop : MtM X "list.pop" rPop := by
  intro pins s σ H x vs v us Q I rx rv h
  obtain ⟨l, xs, y, rfl, rfl, hH, hy, q⟩ := h
  cases rx
  have hus := rv.zero
  subst hus
  obtain ⟨z, its, n, r, hl, e⟩ := I.lstM hH
  obtain ⟨u, hu, ru⟩ := r.get hy
  have hy' : its.toArray[its.toArray.size - 1]? = some u := by
    show its.toArray[its.length - 1]? = some u
    rw [← Array.getElem?_toList, ← hl]
    exact hu
  refine call_meets F.slot_list_pop ⟨_, e, rfl⟩ F.entry_list_pop (F.args_list_pop_1 _) (MeetsSeq.list_pop_last l its.toArray n u hy' (by rw [List.size_toArray]; omega)) ⟨e, ?_⟩
  refine ⟨y, _, I.lset (its' := its.dropLast) hH e ?_ r.dropLast ?_, ru, q⟩
  · show its.toArray.eraseIdxIfInBounds (its.toArray.size - 1) = its.dropLast.toArray
    rw [List.size_toArray, List.eraseIdxIfInBounds_toArray, erase_last]
  · rw [List.length_dropLast]
    omega
def rPopAt : V → List V → Hp → VK → Prop := fun x vs H Q => ∃ l xs i k y, x = .ref l ∧ vs = [.int i] ∧ H l = some (.lst xs) ∧ -(2 ^ 63) ≤ i ∧ i < 2 ^ 63 ∧ seqIndex? i xs.length = some k ∧ xs[k]? = some y ∧ Q y (upd H l (.lst (xs.eraseIdx k)))
theorem mt_popAt : MtM X "list.pop" rPopAt := by
  intro pins s σ H x vs v us Q I rx rv h
  obtain ⟨l, xs, i, k, y, rfl, rfl, hH, h1, h2, hk, hy, q⟩ := h
  cases rx
  obtain ⟨u, rfl, ru⟩ := rv.one
  obtain ⟨t, rfl⟩ := ru
  obtain ⟨z, its, n, r, hl, e⟩ := I.lstM hH
  obtain ⟨w, hw, rw'⟩ := r.get hy
  refine call_meets F.slot_list_pop ⟨_, e, rfl⟩ F.entry_list_pop (F.args_list_pop_2 _ _)
    (MeetsSeq.list_pop_at l its.toArray n i t k w (fitsIndex_both h1 h2) (by rw [List.size_toArray, ← hl]; exact hk) (by rw [← Array.getElem?_toList]; exact hw) (by rw [List.size_toArray]; omega)) ⟨e, ?_⟩
  refine ⟨y, _, I.lset (its' := its.eraseIdx k) hH e ?_ (r.eraseIdx k) ?_, rw', q⟩
  · show its.toArray.eraseIdxIfInBounds k = (its.eraseIdx k).toArray
    rw [List.eraseIdxIfInBounds_toArray]
  · have := len_erase xs k
    omega
def rReverse : V → List V → Hp → VK → Prop := fun x vs H Q => ∃ l xs, x = .ref l ∧ vs = [] ∧ H l = some (.lst xs) ∧ Q .non (upd H l (.lst xs.reverse))
theorem mt_reverse : MtM X "list.reverse" rReverse := by
  intro pins s σ H x vs v us Q I rx rv h
  obtain ⟨l, xs, rfl, rfl, hH, q⟩ := h
  cases rx
  have hus := rv.zero
  subst hus
  obtain ⟨z, its, n, r, hl, e⟩ := I.lstM hH
  refine call_meets F.slot_list_reverse ⟨_, e, rfl⟩ F.entry_list_reverse (F.args_list_reverse_1 _) (AutoSeq1.list_reverse_list_0 l its.toArray n (by rw [List.size_toArray]; omega)) ⟨e, ?_⟩
  refine ⟨.non, _, I.lset (its' := its.reverse) hH e (by simp) r.reverse ?_, rfl, q⟩
  rw [List.length_reverse]
  omega
def rClear : V → List V → Hp → VK → Prop := fun x vs H Q => ∃ l xs, x = .ref l ∧ vs = [] ∧ H l = some (.lst xs) ∧ Q .non (upd H l (.lst []))
theorem mt_clear : MtM X "list.clear" rClear := by
  intro pins s σ H x vs v us Q I rx rv h
  obtain ⟨l, xs, rfl, rfl, hH, q⟩ := h
  cases rx
  have hus := rv.zero
  subst hus
  obtain ⟨z, its, n, r, hl, e⟩ := I.lstM hH
  refine call_meets F.slot_list_clear ⟨_, e, rfl⟩ F.entry_list_clear (F.args_list_clear_1 _) (AutoSeq1.list_clear_list_0 l its.toArray n (by rw [List.size_toArray]; omega)) ⟨e, ?_⟩
  exact ⟨.non, _, I.lset (its' := []) (ys := []) hH e rfl .nil (Nat.zero_le _), rfl, q⟩
def rCat : R2 := fun x y H Q => ∃ l b xs zs, x = .ref l ∧ y = .ref b ∧ H l = some (.lst xs) ∧ H b = some (.lst zs) ∧ xs.length + zs.length ≤ sizeLine ∧ ∀ p, H p = none → Q (.ref p) (upd H p (.lst (xs ++ zs)))
theorem op_cat : OpR X (binaryOp .Add) rCat := by
  intro pins s σ H x y v u Q I rx ry h
  obtain ⟨l, b, xs, zs, rfl, rfl, hH, hB, hz, q⟩ := h
  cases rx
  cases ry
  obtain ⟨z, its, n, r, hl, e⟩ := I.lstM hH
  obtain ⟨z2, its2, n2, r2, hl2, e2⟩ := I.lstM hB
  refine PySem.P.add_list e e2 ?_ (by rw [List.size_toArray, List.size_toArray]; omega)
  have ea : its.toArray ++ its2.toArray = (its ++ its2).toArray := by simp
  rw [ea]
  exact ⟨.ref _, _, I.lnew (t' := s.toks) (r.append r2) (by rw [List.length_append]; omega), rfl, q _ I.fresh⟩
def rRep : R2 := fun x y H Q => ∃ l k xs, x = .ref l ∧ y = .int k ∧ H l = some (.lst xs) ∧ -(2 ^ 63) ≤ k ∧ k < 2 ^ 63 ∧ xs.length * k.toNat ≤ sizeLine ∧
  ∀ p, H p = none → Q (.ref p) (upd H p (.lst (List.replicate k.toNat xs).flatten))
theorem len_rep {α : Type} (xs : List α) (k : Nat) : (List.replicate k xs).flatten.length = k * xs.length := by
  induction k with
  | zero => simp
  | succ k ih => rw [List.replicate_succ, List.flatten_cons, List.length_append, ih, Nat.succ_mul, Nat.add_comm]
theorem op_rep : OpR X (binaryOp .Mult) rRep := by
  intro pins s σ H x y v u Q I rx ry h
  obtain ⟨l, k, xs, rfl, rfl, hH, h1, h2, hz, q⟩ := h
  cases rx
  obtain ⟨t, rfl⟩ := ry
  obtain ⟨z, its, n, r, hl, e⟩ := I.lstM hH
  have hlen : its.toArray.size * k.toNat ≤ sizeLine := by rw [List.size_toArray, ← hl]; exact hz
  have hcap : ¬ its.toArray.size * k.toNat > (2 ^ 63 - 1) / 8 := by
    have : (sizeLine : Nat) ≤ (2 ^ 63 - 1) / 8 := by decide
    omega
  have hfit : ¬ (!Builtin.List.listFitsIndex k) = true := by
    rw [fitsIndex_both h1 h2]
    exact Bool.false_ne_true
  have hlong : ¬ Builtin.List.listTooLong (its.toArray.size * k.toNat) = true := by
    rw [notLongL hlen]
    exact Bool.false_ne_true
  have hnew : List.foldl (fun x1 x2 => x1 ++ x2) #[] (List.replicate (if its.toArray.isEmpty = true then 0 else k.toNat) its.toArray) = (List.replicate k.toNat its).flatten.toArray := by
    have f0 : ∀ m : Nat, List.foldl (fun x1 x2 => x1 ++ x2) #[] (List.replicate m its.toArray) = (List.replicate m its).flatten.toArray := fun m => by
      have := foldl_rep its m []
      rw [List.nil_append] at this
      exact this
    rw [f0]
    cases its with
    | nil => simp
    | cons a r' => rw [if_neg (by simp)]
  refine wpAny_binaryOp_repeat_ref (T := "list") (U := "int") (by decide) ⟨_, e, rfl⟩ (fun s' => typeIs_int s' k t) noFill_list_mul F.fills_int_mul F.slot_int_rmul repeat_list F.slot_int_index.lookup
    (call_meets F.slot_int_rmul (typeIs_int s k t) F.entry_int_rmul (F.args_int_rmul_2 _ _) (int___rmul___int_list k t l its.toArray n)
      ⟨e, rfl, ⟨_, e, rfl⟩, call_meets F.slot_list_mul ⟨_, e, rfl⟩ F.entry_list_mul (F.args_list_mul_2 _ _) (AutoListH.list___mul___list_int_3 l its.toArray n k t hfit hcap hlong) ⟨e, ?_⟩⟩)
  rw [hnew]
  exact ⟨.ref _, _, I.lnew (t' := s.toks) (r.rep k.toNat) (by rw [len_rep, Nat.mul_comm]; exact hz), rfl, q _ I.fresh⟩
theorem del_list {pins : List (Addr × Obj)} {s : Shared} {σ : St} {H : Hp} {l : Addr} {xs : List V} {i : Int} {t : Tok} {k : Nat} {Q : Unit → Shared → Prop} (I : Inv X pins σ H s) (hH : H l = some (.lst xs))
    (h1 : -(2 ^ 63) ≤ i) (h2 : i < 2 ^ 63) (hk : seqIndex? i xs.length = some k) (h : ∀ s', Inv X pins σ (upd H l (.lst (xs.eraseIdx k))) s' → Q () s') :
    wpAny (model X.prog X.w) X.A (delItem (.ref l) (.int i t)) Q X.xe s := by
  obtain ⟨z, its, n, r, hl, e⟩ := I.lstM hH
  refine PySem.P.delItem_list (k := k) e (fitsIndex_both h1 h2) (by rw [List.size_toArray, ← hl]; exact hk) (h _ ?_) (by rw [List.size_toArray]; omega)
  refine I.lset (its' := its.eraseIdx k) (t' := s.toks) hH e ?_ (r.eraseIdx k) ?_
  · show its.toArray.eraseIdxIfInBounds k = (its.eraseIdx k).toArray
    rw [List.eraseIdxIfInBounds_toArray]
  · have := len_erase xs k
    omega
end
section
variable {prog : Program} {w : World} {A : Around} {E : Value → Shared → Prop} {s : Shared}
theorem splice_eq (its its2 : List Value) (a c : Nat) : its.toArray.extract 0 a ++ its2.toArray ++ its.toArray.extract c its.toArray.size = (its.take a ++ its2 ++ its.drop c).toArray := by
  apply Array.toList_inj.mp
  first
    | (simp
       exact List.take_of_length_le (by simp))
    | simp [List.take_of_length_le]
    | simp
theorem bounds_run {a c n : Nat} (hac : a ≤ c) (hc : c ≤ n) : sliceBounds (some (a : Int)) (some (c : Int)) none n = ((a : Int), (c : Int), 1) := by
  simp only [sliceBounds, Option.getD_none]
  have h1 : ¬ ((a : Int) < 0) := by omega
  have h2 : ¬ ((c : Int) < 0) := by omega
  simp only [h1, h2, if_false, show (1 : Int) > 0 by decide, if_true]
  congr 1
  · omega
  · congr 1; omega
set_option maxRecDepth 100000 in
theorem setItem_slice {l b sl : Addr} {items new : Array Value} {n n2 : Nat} {vl vu : Value} {a c : Nat} {Q : Unit → Shared → Prop}
    (e : s.heap.get? l = some { cls := .type "list", data := .seq items n }) (e2 : s.heap.get? b = some { cls := .type "list", data := .seq new n2 }) (hne : l ≠ b)
    (hs : s.heap.IsSliceOf sl vl vu .none) (pl : IsPart vl (some (a : Int))) (pu : IsPart vu (some (c : Int))) (hac : a ≤ c) (hc : c ≤ items.size)
    (hsz : items.size + new.size ≤ sizeLine) (h : Q () { s with heap := s.heap.update l (Obj.mapSeq fun xs => xs.extract 0 a ++ new ++ xs.extract c xs.size) }) :
    wpAny (model prog w) A (setItem (.ref l) (.ref sl) (.ref b)) Q E s := by
  have hl : s.heap.IsList l items := PySem.IsL.isList e
  have hb : s.heap.IsList b new := PySem.IsL.isList e2
  obtain ⟨os, hos, hcs, hds⟩ := id hs
  have hTs : s.TypeIs (.ref sl) "slice" := ⟨os, hos, hcs⟩
  have hstep : ¬ ((rawPart none == rawInt 0) = true) := Bool.false_ne_true
  have hsame : Builtin.List.listSameRef (.ref l) (.ref b) = false := by
    unfold Builtin.List.listSameRef
    exact beq_eq_false_iff_ne.mpr hne
  have hmax : (max (a : Int) (c : Int)).toNat = c := by omega
  have hz' : ((fun xs : Array Value => xs.extract 0 a ++ new ++ xs.extract c xs.size) items).size ≤ sizeLine + 1 := by
    simp only [Array.size_append, Array.size_extract]
    omega
  unfold setItem
  try with_reducible refine wpAny_holding ?_
  first | refine wpAny_bind (wpAny_pure ?_) | skip
  refine wpAny_bind (wpAny_sequenceKey hl.typeIs (by decide) ?_)
  refine wpAny_bind (wpAny_callSpecial?_slot (name := Str.ofString "__setitem__") hl.typeIs slot_list_setitem
    (wpAny_call_entry slot_list_setitem hl.typeIs entry_list_setitem ?_ (args_list_setitem _ _ _)))
  show wpAny _ _ (Builtin.List.listSubscript? (.ref sl) >>= _) _ _ s
  refine wpAny_bind ?_
  unfold Builtin.List.listSubscript?
  refine wpAny_bind (wpAny_specialOf hTs slice_no_index ?_)
  simp only [Option.isNone_none, if_true]
  refine wpAny_pure ?_
  show wpAny _ _ (typeOf (.ref sl) >>= _) _ _ s
  refine wpAny_bind (wpAny_typeOf hTs ?_)
  first
    | rw [if_neg (by decide)]
    | refine PySem.W.KFB.if_not (by decide) ?_
  rw [listSliceParts_eq]
  refine wpAny_bind (wpAny_bind (wpAny_field hos hds (x := .none) rfl (wpAny_bind (wpAny_listPart .none ?_))))
  rw [if_neg hstep]
  refine wpAny_bind (wpAny_field hos hds (x := vl) rfl (wpAny_bind (wpAny_listPart pl ?_)))
  refine wpAny_bind (wpAny_field hos hds (x := vu) rfl (wpAny_bind (wpAny_listPart pu (wpAny_pure ?_))))
  first
    | simp only [hsame, Bool.false_eq_true, if_false]
    | refine PySem.W.KFB.if_not hsame ?_
    | (dsimp only
       rw [if_neg (by rw [hsame]; exact Bool.false_ne_true)])
  refine wpAny_bind (m := Builtin.List.listAllItems (.ref b) "must assign iterable to extended slice") ?_
  unfold Builtin.List.listAllItems
  refine wpAny_bind (wpAny_typeOf hb.typeIs ?_)
  first
    | refine PySem.W.KFB.if_so (by decide) ?_
    | rw [if_pos (by decide)]
    | simp only [beq_self_eq_true, Bool.true_or, if_true]
  unfold Builtin.List.listItems
  refine wpAny_bind (wpAny_seqItems e2 rfl (wpAny_pure ?_))
  refine wpAny_bind (wpAny_bind (wpAny_seqItems e rfl (wpAny_pure ?_)))
  refine wpAny_bind (wpAny_of_eq ((sliceIndices_raw (some (a : Int)) (some (c : Int)) none items.size (by simp)).trans (congrArg (pure : Int × Int × Int → Sem (Int × Int × Int)) (bounds_run hac hc))) ?_)
  show wpAny _ _ (if ((1 : Int) == 1) = true then _ else _) _ _ s
  rw [if_pos (by decide)]
  refine wpAny_bind (wpAny_rule ?_)
  first
    | simp only [notLongL hsz, Bool.false_eq_true, if_false]
    | refine PySem.W.KFB.if_not (notLongL hsz) ?_
  first | refine wpAny_bind (wpAny_pure ?_) | skip
  show wpAny _ _ (updateSeq l (fun xs => xs.extract 0 ((a : Int)).toNat ++ new ++ xs.extract (max (a : Int) (c : Int)).toNat xs.size) >>= _) _ _ s
  rw [hmax, Int.toNat_natCast]
  refine wpAny_bind (wpAny_updateSeq (hz := Nat.le_trans (Nat.le_add_right _ _) hsz) (_hz' := hz') e rfl ?_)
  refine wpAny_bind (wpAny_letGo ?_)
  first
    | exact wpAny_bind (wpAny_pure (wpAny_pure ⟨.none, rfl, wpAny_pure h⟩))
    | exact wpAny_pure ⟨.none, rfl, wpAny_pure h⟩
end
section
variable {X : Cx}
theorem set_slice {pins : List (Addr × Obj)} {s : Shared} {σ : St} {H : Hp} {l b sl : Addr} {xs ys : List V} {a c : Int} {vl vu : Value} {Q : Unit → Shared → Prop} (I : Inv X pins σ H s)
    (hH : H l = some (.lst xs)) (hB : H b = some (.lst ys)) (hne : l ≠ b) (hs : s.heap.IsSliceOf sl vl vu .none) (ra : RelV (.int a) vl) (rc : RelV (.int c) vu) (h0 : 0 ≤ a) (hac : a ≤ c) (hc : c ≤ xs.length)
    (hz : xs.length + ys.length ≤ sizeLine) (h : ∀ s', Inv X pins σ (upd H l (.lst (xs.take a.toNat ++ ys ++ xs.drop c.toNat))) s' → Q () s') :
    wpAny (model X.prog X.w) X.A (setItem (.ref l) (.ref sl) (.ref b)) Q X.xe s := by
  obtain ⟨ta, rfl⟩ := ra
  obtain ⟨tc, rfl⟩ := rc
  obtain ⟨z, its, n, r, hl, e⟩ := I.lstM hH
  obtain ⟨z2, its2, n2, r2, hl2, e2⟩ := I.lstM hB
  obtain ⟨a', rfl⟩ := Int.eq_ofNat_of_zero_le h0
  obtain ⟨c', rfl⟩ := Int.eq_ofNat_of_zero_le (Int.le_trans h0 hac)
  simp only [Int.toNat_natCast] at h
  refine setItem_slice (a := a') (c := c') e e2 hne hs (.int _ _) (.int _ _) (by omega) (by rw [List.size_toArray]; omega) (by rw [List.size_toArray, List.size_toArray]; omega) (h _ ?_)
  refine I.lset (its' := its.take a' ++ its2 ++ its.drop c') (t' := s.toks) hH e ?_ (Vals.append (Vals.append (r.take _) r2) (r.drop _)) ?_
  · exact splice_eq its its2 a' c'
  · rw [List.length_append, List.length_append, List.length_take, List.length_drop]
    omega
end
end L2
namespace Att
open PySem PySem.W PySem.Calls PyProof.Rows
theorem ints_of_wellAll {P : Params} {h : Heap} : ∀ (ns : List Int) (vs : List Value), WellAll P h vs (ns.map WData.int) → IntsAre vs ns := by
  intro ns
  induction ns with
  | nil =>
    intro vs w
    rw [List.map_nil] at w
    cases w
    exact .nil
  | cons n ns ih =>
    intro vs w
    rw [List.map_cons] at w
    cases w with
    | cons a b =>
      cases a
      exact .cons _ _ (ih _ b)
theorem script_of {l : OpenLaw} {n : Nat} (hn : l.most = some n) {P : Params} {h : Heap} {args : List WData} {vals : List Value}
    (hpre : l.row.toRowW.claim.pre args = true) (hwl : WellAll P h vals args) :
    ∃ a vs ns, vals = [Value.ref a] ∧ args = [WData.list (ns.map WData.int)] ∧ h.get? a = some { cls := .type "list", data := .seq vs.toArray } ∧ IntsAre vs ns ∧ ns.length ≤ n := by
  have hsh : WShape.hasAll [] args [.list .int] = true := (pre_splitW hpre).1
  have hc : l.pre.holds [] { args := args } = true := (pre_splitW hpre).2
  obtain ⟨d, r, rfl, h1, h2⟩ := hasAllW_cons hsh
  obtain rfl := hasAllW_nil h2
  obtain ⟨xs, rfl, h3⟩ := hasW_list h1
  obtain ⟨ns, rfl⟩ := items_int h3
  have hlen : ns.length ≤ n := by
    unfold OpenLaw.pre at hc
    have h4 : (WTm.not (.lt (.lit (.int (n : Int))) (.len (.arg 0)))).holds [] { args := [.list (ns.map .int)] } = true := by
      have h4 := (holds_andW hc).1
      rw [hn] at h4
      exact h4
    have h5 := condW_of h4 (w_not (w_lt w_lit (w_len_list (w_arg rfl))))
    rw [List.length_map] at h5
    refine Nat.le_of_not_lt fun q => ?_
    have q' : (n : Int) < ((ns.length : Nat) : Int) := by omega
    first
      | (rw [decide_eq_true q'] at h5; exact absurd h5 (by decide))
      | (simp at h5; omega)
  cases hwl with
  | cons w1 w2 =>
    cases w2
    cases w1 with
    | list ho hall => exact ⟨_, _, ns, rfl, rfl, ho, ints_of_wellAll ns _ hall, hlen⟩
theorem post_true (l : OpenLaw) (args : List WData) : l.row.toRowW.claim.post args (.bool true) args = true :=
  postW_of (r := l.row.toRowW) (X := (true == true))
    (show WShape.has [] (.bool true) .bool = true by first | rfl | decide | simp [WShape.has, WShape.arms, WShape.armsAll])
    (show (WTm.eq .res (.lit (.bool true))).value [] { args := args, res := some (.bool true), after := args } = some (.bool (true == true)) from w_eq_bool (w_res rfl) w_lit) rfl
theorem attach {l : OpenLaw} {n : Nat} {q : Program} {loose : List Str} {XP : (Str → Option Value) → Heap → Prop} {YP : World → Heap → Prop} {d : DefRec} {x : Str}
    (hn : l.most = some n) (hdf : d.params.defaults = [])
    (hbind : ∀ pm cd doc v : Value, bindArgs (docDef d.name d.params d.body d.scope pm cd doc) ⟨[v], []⟩ = pure [(x, v)])
    (hx : d.scope.names.lookup x = some .local ∨ d.scope.names.lookup x = some .cell)
    (hk : d.scope.kind = .function) (hco : d.scope.isCoroutine = false) (hgen : d.scope.isGenerator = false)
    (body : ∀ (w : World) (s₀ s₁ s : Shared) (mg mb : Str → Option Value) (fa : Addr) (o : Obj) (pm cd doc : Value) (a : Addr) (vs : List Value) (ns : List Int),
      Ground q loose [] XP w s₀ mg mb s₁.heap → YP w s₁.heap →
      s₁.heap.get? fa = some o → o.data = .func (docDef d.name d.params d.body d.scope pm cd doc) → s₁.heap.CodeRec cd d.name → mg d.name = some (.ref fa) →
      s₁.heap.get? a = some { cls := .type "list", data := .seq vs.toArray } → IntsAre vs ns → ns.length ≤ n →
      s.gens = #[] → s.os = s₁.os →
      Fr s₁.heap s₁.heap.objs.size s.heap (bindL (envOfC d.name d.scope s₁.heap.objs.size fa cd).kindOf [(x, .ref a)] fun _ => none) →
      Cl s₁.heap.objs.size (cellsFrom (s₁.heap.objs.size + 1) d.scope.names []) s.heap (bindC (envOfC d.name d.scope s₁.heap.objs.size fa cd).kindOf [(x, .ref a)] fun _ => none) →
      wpAny (model l.prog w) (callerA.deeper (envOfC d.name d.scope s₁.heap.objs.size fa cd)) (execs d.body (envOfC d.name d.scope s₁.heap.objs.size fa cd))
        (fun f s' => f = .ret (.bool true) ∧ OldK s₁.heap s'.heap ∧ s'.os = s₁.os ∧ AllBare s'.gens) (fun _ _ => False) s) :
    WalkO q loose XP YP l.row.toRowW d [] (fun f vs => PySem.call f vs) := by
  intro w s₀ s₁ mg mb G Y fa o pm cd doc dV kV ho hd hcd hD hmg hg args vals as hpre hlay hrd hwl hlo
  obtain rfl : dV = .none := Dflts.none hD hdf
  obtain rfl : kV = .none := Dflts.noKw hD
  obtain ⟨a, vs, ns, rfl, rfl, hobj, hints, hlen⟩ := script_of hn hpre hwl
  refine enter_call ?_
  refine call_cells_ret (o := o) (by rw [depth_caller]; decide) ho (fd_plain hd) G.T.nolimit hcd (hbind pm cd doc (.ref a)) (fun y hy => ?_) (fun h₁ tk F X => ?_) hco hgen hk
  · obtain rfl : y = (x, Value.ref a) := List.mem_singleton.mp hy
    rcases hx with e | e
    · exact .inl e
    · exact .inr ⟨e, cellsFrom_some _ _ _ (.inl e)⟩
  · refine wpAny_mono (body w s₀ s₁ { s₁ with heap := h₁, toks := tk } mg mb fa o pm cd doc a vs ns G Y ho (fd_plain hd) hcd hmg hobj hints hlen hg rfl F X) (fun f s' hq => ?_) (fun _ _ hq => hq)
    obtain ⟨rfl, h2, h3, h4⟩ := hq
    exact ⟨.inl ⟨.bool true, .bool true, [], rfl, fun _ => rfl, .bool true, post_true l _, fun _ => ⟨List.Pairwise.nil, fun _ hm => (nomatch hm)⟩⟩, h2, h3, h4⟩
theorem attach_call {l : OpenLaw} {n : Nat} {q : Program} {loose : List Str} {XP : (Str → Option Value) → Heap → Prop} {YP : World → Heap → Prop} {d : DefRec}
    (hn : l.most = some n) (hdf : d.params.defaults = [])
    (call : ∀ (w : World) (s₀ s₁ : Shared) (mg mb : Str → Option Value) (fa : Addr) (o : Obj) (pm cd doc : Value) (a : Addr) (vs : List Value) (ns : List Int),
      Ground q loose [] XP w s₀ mg mb s₁.heap → YP w s₁.heap →
      s₁.heap.get? fa = some o → o.data = .func (docDef d.name d.params d.body d.scope pm cd doc) → s₁.heap.CodeRec cd d.name → mg d.name = some (.ref fa) →
      s₁.heap.get? a = some { cls := .type "list", data := .seq vs.toArray } → IntsAre vs ns → ns.length ≤ n → s₁.gens = #[] →
      codeAny (model l.prog w) callerA (.call (.ref fa) ⟨[.ref a], []⟩) (fun r s' => r = .ok (.ret (.bool true)) ∧ OldK s₁.heap s'.heap ∧ s'.os = s₁.os ∧ AllBare s'.gens) s₁) :
    WalkO q loose XP YP l.row.toRowW d [] (fun f vs => PySem.call f vs) := by
  intro w s₀ s₁ mg mb G Y fa o pm cd doc dV kV ho hd hcd hD hmg hg args vals as hpre hlay hrd hwl hlo
  obtain rfl : dV = .none := Dflts.none hD hdf
  obtain rfl : kV = .none := Dflts.noKw hD
  obtain ⟨a, vs, ns, rfl, rfl, hobj, hints, hlen⟩ := script_of hn hpre hwl
  refine enter_call (codeAny_mono (call w s₀ s₁ mg mb fa o pm cd doc a vs ns G Y ho (fd_plain hd) hcd hmg hobj hints hlen hg) fun r s' hq => ?_)
  obtain ⟨rfl, h2, h3, h4⟩ := hq
  exact ⟨.inl ⟨.bool true, .bool true, [], rfl, fun _ => rfl, .bool true, post_true l _, fun _ => ⟨List.Pairwise.nil, fun _ hm => (nomatch hm)⟩⟩, h2, h3, h4⟩
theorem attachN {l : OpenLaw} {n : Nat} {q : Program} {loose : List Str} {XP : (Str → Option Value) → Heap → Prop} {YP : World → Heap → Prop} {d : DefRec} {x : Str}
    (hn : l.most = some n) (hdf : d.params.defaults = [])
    (hbind : ∀ pm cd doc v : Value, bindArgs (docDef d.name d.params d.body d.scope pm cd doc) ⟨[v], []⟩ = pure [(x, v)])
    (hx : d.scope.names.lookup x = some .local ∨ d.scope.names.lookup x = some .cell)
    (hk : d.scope.kind = .function) (hco : d.scope.isCoroutine = false) (hgen : d.scope.isGenerator = false)
    (body : ∀ (w : World) (s₀ s₁ s : Shared) (mg mb : Str → Option Value) (fa : Addr) (o : Obj) (pm cd doc : Value) (a : Addr) (vs : List Value) (ns : List Int),
      Ground q loose [] XP w s₀ mg mb s₁.heap → YP w s₁.heap →
      s₁.heap.get? fa = some o → o.data = .func (docDef d.name d.params d.body d.scope pm cd doc) → s₁.heap.CodeRec cd d.name → mg d.name = some (.ref fa) →
      s₁.heap.get? a = some { cls := .type "list", data := .seq vs.toArray } → IntsAre vs ns → ns.length ≤ n →
      s.gens = #[] → s.os = s₁.os →
      Fr s₁.heap s₁.heap.objs.size s.heap (bindL (envOfC d.name d.scope s₁.heap.objs.size fa cd).kindOf [(x, .ref a)] fun _ => none) →
      Cl s₁.heap.objs.size (cellsFrom (s₁.heap.objs.size + 1) d.scope.names []) s.heap (bindC (envOfC d.name d.scope s₁.heap.objs.size fa cd).kindOf [(x, .ref a)] fun _ => none) →
      wpAny (model l.prog w) (callerA.deeper (envOfC d.name d.scope s₁.heap.objs.size fa cd)) (execs d.body (envOfC d.name d.scope s₁.heap.objs.size fa cd))
        (fun f s' => f = .ret (.bool true) ∧ (∀ b o, s₁.heap.get? b = some o → s'.heap.get? b = some o) ∧ s'.os = s₁.os ∧ s'.gens = #[]) (fun _ _ => False) s) :
    WalkN q loose XP YP l.row.toRowW d [] (fun f vs => PySem.call f vs) := by
  intro w s₀ s₁ mg mb G Y fa o pm cd doc dV kV ho hd hcd hD hmg hg args vals as hpre hlay hrd hwl hlo
  obtain rfl : dV = .none := Dflts.none hD hdf
  obtain rfl : kV = .none := Dflts.noKw hD
  obtain ⟨a, vs, ns, rfl, rfl, hobj, hints, hlen⟩ := script_of hn hpre hwl
  refine enter_callW ?_
  refine call_cells_ret (o := o) (by rw [depth_caller]; decide) ho (fd_plain hd) G.T.nolimit hcd (hbind pm cd doc (.ref a)) (fun y hy => ?_) (fun h₁ tk F X => ?_) hco hgen hk
  · obtain rfl : y = (x, Value.ref a) := List.mem_singleton.mp hy
    rcases hx with e | e
    · exact .inl e
    · exact .inr ⟨e, cellsFrom_some _ _ _ (.inl e)⟩
  · refine wpAny_mono (body w s₀ s₁ { s₁ with heap := h₁, toks := tk } mg mb fa o pm cd doc a vs ns G Y ho (fd_plain hd) hcd hmg hobj hints hlen hg rfl F X) (fun f s' hq => ?_) (fun _ _ hq => hq)
    obtain ⟨rfl, h2, h3, h4⟩ := hq
    exact ⟨.inl ⟨.bool true, .bool true, [], rfl, fun _ => rfl, .bool true, post_true l _, fun _ => ⟨List.Pairwise.nil, fun _ hm => (nomatch hm)⟩⟩, h2, h3, h4⟩
section
variable {prog : Program} {w : World} {A : Around} {E : Value → Shared → Prop} {s : Shared} {K : Frag}
theorem call_fn {R : Result → Shared → Prop} {name qual : Str} {params : Arguments} {body : List Stmt} {scope : Scope} {dV kV doc pm cdv ct oc : Value} {an od : Option Addr} {osl : Array (Option Value)} {f : Addr} {args : Args} {binds : List (Str × Value)}
    (X : K.In s.heap) (hlim : s.heap.NoLimit) (ho : K.lookup f = some ⟨oc, od, .func (fnOf name qual params body scope dV kV doc pm an cdv ct), osl⟩) (hcd : codeIn K cdv qual = true) (hroom : A.depth < recursionLimit)
    (hbind : BindsTo s (fnOf name qual params body scope dV kV doc pm an cdv ct) args binds)
    (hkind : (binds.all fun y => scope.names.lookup y.1 == some .local || scope.names.lookup y.1 == some .cell) = true)
    (h : ∀ s₁, InCallC s s.heap.objs.size (bindL (envOfC qual scope s.heap.objs.size f cdv).kindOf binds fun _ => none) (cellsFrom (s.heap.objs.size + 1) scope.names [])
        (bindC (envOfC qual scope s.heap.objs.size f cdv).kindOf binds fun _ => none) s₁ →
      wpAny (model prog w) (A.deeper (envOfC qual scope s.heap.objs.size f cdv)) (execs body (envOfC qual scope s.heap.objs.size f cdv))
        (fun fl s' => R (.ok (.ret (match fl with | .ret v => v | _ => .none))) s')
        (fun e s' => wpAny (model prog w) (A.deeper (envOfC qual scope s.heap.objs.size f cdv)) (leaving (envOfC qual scope s.heap.objs.size f cdv) e) (fun _ s'' => R (.error e) s'') (fun e' s'' => R (.error e') s'') s') s₁)
    (hco : scope.isCoroutine = false) (hgen : scope.isGenerator = false) (hk : scope.kind = .function) : codeAny (model prog w) A (.call (.ref f) args) R s := by
  refine codeAny_call_function hroom (X _ _ ho) rfl hco hgen rfl (codeRec_of X hcd) (hbind _ _ _ _ ?_)
  refine wpAny_newFunctionEnv_cells hk (kindsX hkind _) fun env he s₁ x => ?_
  subst he
  exact ⟨hlim.keeps x.toInCall.keep, codeAny_func (h s₁ x)⟩
theorem make_obj {R : Result → Shared → Prop} {C fI : Addr} {rest : List Value} {kw : List (Str × Value)}
    (X : K.In s.heap) (hm : makesIn K C = true) (hi : findIn K (.ref C) "__init__" = some (some (.ref fI))) (hf : isFn K (.ref fI) = true)
    (h : codeAny (model prog w) (A.under (.builtin "type.__call__" ⟨.ref C :: rest, kw⟩)) (.call (.ref fI) ⟨.ref (s.heap.objs.size + 1) :: rest, kw⟩) (InitBack (s.heap.objs.size + 1) R)
      { s with heap := (s.heap.push emptyDict).push (instObj C s.heap.objs.size) }) : codeAny (model prog w) A (.call (.ref C) ⟨rest, kw⟩) R s := by
  obtain ⟨hh, g, d, t, os⟩ := s
  exact make_core (makes_of X hm) (looks_findIn X hi) (fun self => bind_fn X self (beq_iff_eq.mp hf)) (.inl rfl) h
theorem get_field {x C : Addr} {ox : Obj} {es : List DictEntry} {n : Nat} {name : Str} {expr : Bool} {v : Value} {Q : Value → Shared → Prop}
    (X : K.In s.heap) (I : PySem.W.InstAt s.heap x ox C (some (dictOf es n))) (hg : plainGet K C name = true) (hh : hasDictIn K C = true) (ha : findIn K (.ref C) name = some none)
    (hl : getL name es = some (some v)) (hv : handedIn v = true) (h : Q v { s with toks := s.toks + 1 }) : wpAny (model prog w) A (getAttr (.ref x) name expr) Q E s :=
  get_value X I (plainGet_of hg).1 (findObj_own hh ha rfl hl) hv h
theorem get_method {x C f : Addr} {ox : Obj} {es : List DictEntry} {n : Nat} {name : Str} {pl : Sem Bool} {Q : Value × List Value → Shared → Prop}
    (X : K.In s.heap) (I : PySem.W.InstAt s.heap x ox C (some (dictOf es n))) (hg : plainGet K C name = true) (hf : findIn K (.ref C) name = some (some (.ref f))) (ht : isFn K (.ref f) = true)
    (hl : getL name es = some none) (h : Q (.ref f, [.ref x]) s) : wpAny (model prog w) A (getMethod (.ref x) name pl) Q E s :=
  method_fn X I (plainGet_of hg).1 (plainGet_of hg).2 hf (beq_iff_eq.mp ht) (by show (lookIn name (dictOf es n)).map _ = _; rw [lookIn_dict, hl]; rfl) h
def noObjs (h : Heap) : Heap := { h with objs := #[] }
theorem noObjs_get (h : Heap) (b : Addr) : (noObjs h).get? b = none := by
  cases e : (noObjs h).get? b with
  | none => rfl
  | some o => exact absurd (Heap.lt_size e) (Nat.not_lt_zero _)
def ledger (h : Heap) (L d : Addr) : List (Addr × Obj) := (List.range h.objs.size).filterMap fun a => if a = L ∨ a = d then none else (h.get? a).map fun o => (a, o)
theorem mem_ledger {h : Heap} {L d a : Addr} {o : Obj} : (a, o) ∈ ledger h L d ↔ a ≠ L ∧ a ≠ d ∧ h.get? a = some o := by
  unfold ledger
  rw [List.mem_filterMap]
  constructor
  · rintro ⟨b, _, e⟩
    split at e
    · cases e
    · rename_i hb
      obtain ⟨o', ho, e'⟩ := Option.map_eq_some_iff.mp e
      cases e'
      exact ⟨fun q => hb (.inl q), fun q => hb (.inr q), ho⟩
  · rintro ⟨n1, n2, ho⟩
    refine ⟨a, List.mem_range.mpr (Heap.lt_size ho), ?_⟩
    rw [if_neg (show ¬ (a = L ∨ a = d) from fun q => q.elim n1 n2), ho] <;> rfl
theorem news_ledger {h : Heap} {L d : Addr} {od : Obj} (hne : d ≠ L) (ho : h.get? d = some od) : News (noObjs h) L h ([] ++ (d, od) :: ledger h L d) := by
  rintro ⟨a, o⟩ hp
  rcases List.mem_cons.mp hp with e | hp
  · cases e
    exact ⟨ho, hne, noObjs_get _ _⟩
  · obtain ⟨n1, n2, e⟩ := mem_ledger.mp hp
    exact ⟨e, n1, noObjs_get _ _⟩
theorem fr_all {h : Heap} {L : Addr} {m : Str → Option Value} (n : h.Ns L m) : Fr (noObjs h) L h m :=
  ⟨n, fun b o e => (by rw [noObjs_get] at e; cases e), Nat.zero_le _⟩
theorem upd_ledger {h : Heap} {L d : Addr} {o o' : Obj} : Upd d o o' ((d, o) :: ledger h L d) ((d, o') :: ledger h L d) :=
  .head fun ⟨_, _⟩ hp => (mem_ledger.mp hp).2.1
theorem set_field {x C dx L : Addr} {ox : Obj} {m : Str → Option Value} {es es' : List DictEntry} {n n' : Nat} {name : Str} {v : Value} {Q : Unit → Shared → Prop}
    (X : K.In s.heap) (I : PySem.W.InstAt s.heap x ox C (some (dictOf es n))) (hd : ox.dict = some dx) (hL : s.heap.Ns L m) (hne : dx ≠ L)
    (hs : findIn K (.ref C) "__setattr__" = some (some (.builtin "object.__setattr__"))) (hp : plainOver K C = true) (ht : takerIn K C name = some none) (hh : hasDictIn K C = true) (hl : (getL name es).isSome = true)
    (e : (putL name (PyData.keyHash w.params name) (.str name (s.toks + 1)) v es, putN name es n) = (es', n')) (hz : es'.length ≤ 1000)
    (h : ∀ h' : Heap, h'.Ns L m → h'.get? dx = some (dictOf es' n') → (∀ b o, b ≠ dx → b ≠ L → s.heap.get? b = some o → h'.get? b = some o) → Q () { s with heap := h', toks := s.toks + 2 }) :
    wpAny (model prog w) A (setAttr (.ref x) name v) Q E s := by
  obtain ⟨e1, e2⟩ := Prod.mk.inj e
  have hdx : s.heap.get? dx = some (dictOf es n) := by
    have := I.dict
    rw [hd] at this
    exact this
  refine set_plain X I hs (osa_dict (s := { s with toks := s.toks + 1 }) (h₀ := noObjs s.heap) (L := L) (m := m) (od := dictOf es n) (od' := dictOf es' n') (es := es') (n := n') (pre := []) (post := ledger s.heap L dx)
    (fr_all hL) (news_ledger hne hdx) X I hd hp ht hh hl (fun _ q => nomatch q) (fun ⟨_, _⟩ q => (mem_ledger.mp q).2.1) (by rw [putName_dict, e1, e2]) rfl hz fun h' F' N' => ?_)
  exact h h' F'.ns (N'.get (List.Mem.head _)) fun b o n1 n2 ho => N'.get (List.Mem.tail _ (mem_ledger.mpr ⟨n2, n1, ho⟩))
end
end Att
namespace L2
open PySem PySem.Spec PyProof.Rows
theorem vals_ints : ∀ {vs : List Value} {ns : List Int}, IntsAre vs ns → Vals (ns.map V.int) vs
  | _, _, .nil => .nil
  | _, _, .cons n t h => .cons ⟨t, rfl⟩ (vals_ints h)
def Only (H : Hp) : Prop := ∀ b, H b = none ∨ ∃ o xs, H b = some (.frz o (.lst xs))
theorem law_call {P : Program} {w : World} {K : PySem.W.Frag} {mg mb : Str → Option Value} {CX : CXT} {k : Nat} {fa a : Addr} {fd : FuncData} {x : Str} {sp : Sp} {s₁ : Shared} {vs : List Value} {ns : List Int}
    (KX : K.In s₁.heap) (hns : s₁.heap.Ns mainGlobals mg) (hb : s₁.heap.Ns builtinsNs mb) (hbb : ∀ x : Str, x ≠ "__name__" → mb x = bootBuiltins x) (hlim : s₁.heap.NoLimit) (hg : s₁.gens = #[])
    (ha : s₁.heap.get? a = some { cls := .type "list", data := .seq vs.toArray }) (hi : IntsAre vs ns) (hl : ns.length ≤ sizeLine) (hr : Room k callerA)
    (F : ∀ base : Heap, K.In base → base.Ns mainGlobals mg → FnOk P w K mg base CX k fa fd [x] sp) (hbind : ∀ (s : Shared) (u : Value), BindsTo s fd ⟨[u], []⟩ [(x, u)])
    (hsp : ∀ H : Hp, Only H → SqL K H a (ns.map V.int) → sp [.ref a] H (fun v _ => v = .bl true) fun _ _ _ => False)
    (hCX : ∀ H e s', CX [] H s₁ (fun _ _ _ => False) e s' → False) :
    codeAny (model P w) callerA (.call (.ref fa) ⟨[.ref a], []⟩) (fun r s' => r = .ok (.ret (.bool true)) ∧ OldK s₁.heap s'.heap ∧ s'.os = s₁.os ∧ AllBare s'.gens) s₁ := by
  have rv := vals_ints hi
  have lenV := hi.length
  have core : ∀ H : Hp, Only H → SqL K H a (ns.map V.int) → HOk P w H s₁.heap → (∀ b, H b ≠ none → b = a) → (H a ≠ none → K.lookup a = none) →
      codeAny (model P w) callerA (.call (.ref fa) ⟨[.ref a], []⟩) (fun r s' => r = .ok (.ret (.bool true)) ∧ OldK s₁.heap s'.heap ∧ s'.os = s₁.os ∧ AllBare s'.gens) s₁ := by
    intro H hO hS hok hA hK
    have base_of : ∀ {b : Addr} {o : Obj}, s₁.heap.get? b = some o → H b = none → (hidT s₁.heap H).get? b = some o := fun e n => hidT_get e n
    have noA : ∀ {b : Addr} {o : Obj} {es : Array DictEntry} {ep : Nat}, s₁.heap.get? b = some o → o.data = .dict es ep → H b = none := fun {b o es ep} e d => by
      cases q : H b with
      | none => rfl
      | some u =>
        have e' : b = a := hA b (by rw [q]; simp)
        subst e'
        rw [ha] at e; cases e
        have d' : Data.seq vs.toArray _ = Data.dict es ep := d
        cases d'
    have nsK : ∀ {b : Addr} {m : Str → Option Value}, s₁.heap.Ns b m → (hidT s₁.heap H).Ns b m := fun {b m} ⟨o, es, ep, e, d, r⟩ => ⟨o, es, ep, base_of e (noA e d), d, r⟩
    have hKb : K.In (hidT s₁.heap H) := fun b o e => base_of (KX b o e) (by
      cases q : H b with
      | none => rfl
      | some u =>
        have e' : b = a := hA b (by rw [q]; simp)
        subst e'
        rw [hK (by rw [q]; simp)] at e; cases e)
    have hM : Mod K mg (hidT s₁.heap H) := ⟨hKb, nsK hns, ⟨mb, nsK hb, hbb⟩, let ⟨mc, h1, h2⟩ := hlim; ⟨mc, nsK h1, h2⟩⟩
    have e0 : Env0 P w K mg (hidT s₁.heap H) callerA [] s₁ H := ⟨rfl, hM, fun b o e => of_hidT e, Nat.le_of_eq (hidT_size _ _), trivial, fun b hb => absurd (show b ∈ ([] : List Addr) from hb) (by simp), hok, .of_eq hg⟩
    refine codeAny_mono ((F _ hKb (nsK hns)).run callerA [] s₁ H ⟨[.ref a], []⟩ [.ref a] [.ref a] _ _ hr e0 (hbind s₁ (.ref a)) (.cons rfl .nil) (hsp H hO hS)) fun r s' h => ?_
    cases r with
    | error e => exact (hCX H e s' h).elim
    | ok fl =>
      cases fl with
      | next => exact False.elim h
      | brk => exact False.elim h
      | cont => exact False.elim h
      | ret u =>
        obtain ⟨v, H', os, bare, un, hok', r', q⟩ := h
        have q' : v = .bl true := q
        subst q'
        obtain rfl : u = Value.bool true := r'
        refine ⟨rfl, OldK.of_keep fun b o e => ?_, os, bare⟩
        cases q : H b with
        | none => exact un.keep b o e q (by intro z; exact absurd (show b ∈ ([] : List Addr) from z) (by simp)) (by simp)
        | some u =>
          rcases hO b with z | ⟨ob, xs, z⟩
          · rw [q] at z; cases z
          · have z2 := un.frzs b ob _ z
            obtain ⟨e1, _⟩ := hok b _ z
            obtain ⟨e2, _⟩ := hok' b _ z2
            rw [e] at e1; cases e1
            exact e2
  cases hk : K.lookup a with
  | some o =>
    have e := KX a o hk
    rw [ha] at e
    cases e
    refine core (fun _ => none) (fun _ => .inl rfl) (.inr ⟨_, vs.toArray, _, hk, rfl, rfl, rfl, by rw [List.size_toArray, lenV]; exact hl, by simpa using rv⟩) (fun b u z => by have z' : (none : Option HO) = some u := z; cases z') (fun b z => absurd rfl z) fun z => absurd rfl z
  | none =>
    refine core (fun b => if b = a then some (.frz { cls := .type "list", data := .seq vs.toArray } (.lst (ns.map V.int))) else none) (fun b => ?_) (.inl (.inr ⟨{ cls := .type "list", data := .seq vs.toArray }, if_pos rfl⟩)) (fun b u z => ?_) (fun b z => ?_) fun _ => hk
    · by_cases hb : b = a
      · exact .inr ⟨_, _, if_pos hb⟩
      · exact .inl (if_neg hb)
    · by_cases hb : b = a
      · have z' := (if_pos hb).symm.trans z
        cases z'
        subst hb
        exact ⟨ha, by rw [List.length_map]; exact hl, vs, _, rv, ha⟩
      · have z' := (if_neg hb).symm.trans z
        cases z'
    · by_cases hb : b = a
      · exact hb
      · exact absurd (if_neg hb) z
end L2
namespace L2
open PySem PySem.Spec PyProof.Rows
abbrev KOf {K : PySem.W.Frag} {h : Heap} (_ : K.In h) : PySem.W.Frag := K
theorem walk_of {l : PySem.W.OpenLaw} {n k : Nat} {q : Program} {loose : List Str} {XP : (Str → Option Value) → Heap → Prop} {YP : World → Heap → Prop} {d : DefRec} {K : Params → PySem.W.Frag} {CX : World → CXT} {sp : World → Sp} {x : Str}
    (hn : l.most = some n) (hn2 : n ≤ sizeLine) (hdf : d.params.defaults = []) (hr : Room k callerA)
    (hY : ∀ (w : World) (h : Heap), YP w h → (K w.params).In h)
    (F : ∀ (w : World) (mg : Str → Option Value) (fa : Addr) (h : Heap), (K w.params).In h → h.Ns mainGlobals mg → mg d.name = some (.ref fa) →
      ∃ fd : FuncData, (∀ (s : Shared) (u : Value), BindsTo s fd ⟨[u], []⟩ [(x, u)]) ∧
        ∀ base : Heap, (K w.params).In base → base.Ns mainGlobals mg → FnOk l.prog w (K w.params) mg base (CX w) k fa fd [x] (sp w))
    (hsp : ∀ (w : World) (H : Hp) (a : Addr) (ns : List Int), ns.length ≤ n → Only H → SqL (K w.params) H a (ns.map V.int) → sp w [.ref a] H (fun v _ => v = .bl true) fun _ _ _ => False)
    (hCX : ∀ (w : World) (H : Hp) (s : Shared) (e : Value) (s' : Shared), CX w [] H s (fun _ _ _ => False) e s' → False) :
    PySem.W.WalkO q loose XP YP l.row.toRowW d [] (fun f vs => PySem.call f vs) := by
  refine Att.attach_call hn hdf fun w s₀ s₁ mg mb fa o pm cd doc a vs ns G Y ho hd hcd hmg hobj hints hlen hg => ?_
  have KX := hY w _ Y
  obtain ⟨fd, hb, hF⟩ := F w mg fa _ KX G.T.g hmg
  exact law_call KX G.T.g G.T.b G.T.builtins G.T.nolimit hg hobj hints (Nat.le_trans hlen hn2) hr hF hb (fun H hO hS => hsp w H a ns hlen hO hS) fun H e s' => hCX w H s₁ e s'
theorem walk_ofK {l : PySem.W.OpenLaw} {n k : Nat} {q : Program} {loose : List Str} {XP : (Str → Option Value) → Heap → Prop} {YP : World → Heap → Prop} {d : DefRec} {K : Params → PySem.W.Frag} {CX : CXT} {sp : PySem.W.Frag → Sp} {x : Str}
    (hn : l.most = some n) (hn2 : n ≤ sizeLine) (hdf : d.params.defaults = []) (hr : Room k callerA)
    (hY : ∀ (w : World) (h : Heap), YP w h → (K w.params).In h)
    (F : ∀ (w : World) (mg : Str → Option Value) (fa : Addr) (h : Heap), (K w.params).In h → h.Ns mainGlobals mg → mg d.name = some (.ref fa) →
      ∃ fd : FuncData, (∀ (s : Shared) (u : Value), BindsTo s fd ⟨[u], []⟩ [(x, u)]) ∧
        ∀ base : Heap, (K w.params).In base → base.Ns mainGlobals mg → FnOk l.prog w (K w.params) mg base CX k fa fd [x] (sp (K w.params)))
    (hsp : ∀ (K : PySem.W.Frag) (H : Hp) (a : Addr) (ns : List Int), ns.length ≤ n → Only H → SqL K H a (ns.map V.int) → sp K [.ref a] H (fun v _ => v = .bl true) fun _ _ _ => False)
    (hCX : ∀ (H : Hp) (s : Shared) (e : Value) (s' : Shared), CX [] H s (fun _ _ _ => False) e s' → False) :
    PySem.W.WalkO q loose XP YP l.row.toRowW d [] (fun f vs => PySem.call f vs) :=
  walk_of (K := K) (CX := fun _ => CX) (sp := fun w => sp (K w.params)) hn hn2 hdf hr hY F (fun w H a ns h1 h2 h3 => hsp (K w.params) H a ns h1 h2 h3) fun _ H s e s' => hCX H s e s'
end L2
namespace L2
open PySem PySem.Spec PyProof.Rows
def inClass (s : Stmt) (j : Nat) : Stmt := match s with
  | .ClassDef _ _ _ body _ _ _ _ _ _ _ => body.getD j (.Pass ⟨0, 0, 0, 0⟩)
  | _ => .Pass ⟨0, 0, 0, 0⟩
def defArgs (s : Stmt) : Arguments := match s with
  | .FunctionDef _ a _ _ _ _ _ _ _ _ => a
  | _ => { posonlyargs := [], args := [], vararg := none, kwonlyargs := [], kw_defaults := [], kwarg := none, defaults := [] }
def defBody (s : Stmt) : List Stmt := match s with
  | .FunctionDef _ _ b _ _ _ _ _ _ _ => b
  | _ => []
def defScope (s : Stmt) : Scope := match s with
  | .FunctionDef _ _ _ _ _ _ sc _ _ _ => sc
  | _ => { kind := .function, names := [], isGenerator := false, isCoroutine := false }
abbrev CX0 : CXT := fun _ _ _ _ _ _ => False
abbrev E0 : XK := fun _ _ _ => False
theorem pass0 {X : Cx} : Passes CX0 X E0 := fun _ _ _ _ _ _ _ h => h.elim
structure Fun (K : PySem.W.Frag) (x qual : Str) (st : Stmt) (f : Addr) (fd : FuncData) : Prop where
  ex : ∃ (oc : Value) (od : Option Addr) (kV doc pm : Value) (an : Option Addr) (cdv ct : Value) (osl : Array (Option Value)),
    fd = PySem.W.fnOf x qual (defArgs st) (defBody st) (defScope st) .none kV doc pm an cdv ct ∧ K.lookup f = some ⟨oc, od, .func fd, osl⟩ ∧ PySem.W.codeIn K cdv qual = true
  kp : PySem.W.keepIn K (.ref f) = true
section
variable {P : Program} {w : World} {K : PySem.W.Frag} {mg : Str → Option Value} {base : Heap}
theorem Fun.ok {x qual : Str} {st : Stmt} {f : Addr} {fd : FuncData} {N ps : List Str} {k : Nat} {sp : Sp} (F : Fun K x qual st f fd) (S : FnScope N ps (defScope st)) (len : ∀ vs H Q E, sp vs H Q E → vs.length = ps.length)
    (hbody : ∀ (cdv : Value) (A : Around) (outer : List Env) (s : Shared) (H : Hp) (vs : List V) (Q : VK) (E : XK), Room k (A.deeper (envOfC qual (defScope st) s.heap.objs.size f cdv)) → sp vs H Q E →
      ∃ t, PSs (cxOf CX0 P w K mg base N qual (defScope st) f cdv A outer s H E).nox (defBody st) t ∧ t { nx := fun _ H' => Q .non H', rt := Q } (start N vs) H) : FnOk P w K mg base CX0 (k + 1) f fd ps sp := by
  obtain ⟨oc, od, kV, doc, pm, an, cdv, ct, osl, rfl, lk, hcd⟩ := F.ex
  refine fn_of lk hcd S len fun A outer s H vs Q E hr hsp => ?_
  obtain ⟨t, h, q⟩ := hbody cdv A outer s H vs Q E hr hsp
  exact ⟨t, h.nox, q⟩
theorem Fun.binds {x qual : Str} {st : Stmt} {f : Addr} {fd : FuncData} {ps : List Str} (F : Fun K x qual st f fd)
    (h : ∀ (kV doc pm : Value) (an : Option Addr) (cdv ct : Value) (us : List Value), us.length = ps.length → bindArgs (PySem.W.fnOf x qual (defArgs st) (defBody st) (defScope st) .none kV doc pm an cdv ct) ⟨us, []⟩ = pure (ps.zip us)) : Binds K fd ps [] := by
  obtain ⟨oc, od, kV, doc, pm, an, cdv, ct, osl, rfl, lk, hcd⟩ := F.ex
  exact .all (h kV doc pm an cdv ct)
theorem fun_mk {x qual : Str} {st : Stmt} {f : Addr} {oc : Value} {od an : Option Addr} {osl : Array (Option Value)} {kV doc pm cdv ct : Value} (l : K.lookup f = some ⟨oc, od, .func (PySem.W.fnOf x qual (defArgs st) (defBody st) (defScope st) .none kV doc pm an cdv ct), osl⟩)
    (c : PySem.W.codeIn K cdv qual = true) (k : PySem.W.keepIn K (.ref f) = true) : Fun K x qual st f (PySem.W.fnOf x qual (defArgs st) (defBody st) (defScope st) .none kV doc pm an cdv ct) := ⟨⟨oc, od, kV, doc, pm, an, cdv, ct, osl, rfl, l, c⟩, k⟩
end
theorem hu_of {A : Around} {k : Nat} (hr : Room k A) : A.units + 1 < cLine := Nat.lt_of_le_of_lt (Nat.add_le_add_left (by decide : 1 ≤ 64) _) hr.units
theorem small1000 {n : Nat} (h : n ≤ 1000) : n < sizeLine := Nat.lt_of_le_of_lt h (by decide)
section
variable {X : Cx}
theorem pv (i : Nat) {x : Str} {pos : Pos} (hN : X.N[i]? = some x := by rfl) (hv : Vis X.env.scope x := by first | exact Or.inl rfl | exact Or.inr (Or.inl rfl) | exact Or.inr (Or.inr rfl)) (hd : (x == ("__debug__" : Str)) = false := by decide)
    (hcd : (x == ("__classdict__" : Str)) = false := by decide) : PE X (.Name x pos) (tVar i) := pe_var hN hv hd hcd
end
theorem iteF {A B : Prop} (h : B) : if false = true then A else B := by
  rw [if_neg Bool.false_ne_true]
  exact h
theorem iteT {A B : Prop} (h : A) : if true = true then A else B := by
  rw [if_pos rfl]
  exact h
theorem ite2 {c A B : Prop} [Decidable c] (h1 : c → A) (h2 : ¬ c → B) : if c then A else B := by
  by_cases h : c
  · rw [if_pos h]
    exact h1 h
  · rw [if_neg h]
    exact h2 h
theorem iteNS {c A B : Prop} [Decidable c] (hc : c) (h : B) : if (!decide c) = true then A else B := by
  rw [decide_eq_true hc]
  exact iteF h
def Same (H H' : Hp) : Prop := ∀ b o, H b = some o → H' b = some o
theorem Same.refl (H : Hp) : Same H H := fun _ _ h => h
theorem Same.trans {H H1 H2 : Hp} (a : Same H H1) (b : Same H1 H2) : Same H H2 := fun c o h => b c o (a c o h)
theorem Same.free {H H' : Hp} (e : Same H H') {l : Addr} (h : H' l = Option.none) : H l = Option.none := by
  cases q : H l with
  | none => rfl
  | some o =>
    rw [e l o q] at h
    cases h
theorem Same.seq {K : PySem.W.Frag} {H H' : Hp} {a : Addr} {xs : List V} (e : Same H H') (h : SqL K H a xs) : SqL K H' a xs := by
  rcases h with (h | ⟨o, h⟩) | h
  · exact .inl (.inl (e _ _ h))
  · exact .inl (.inr ⟨o, e _ _ h⟩)
  · exact .inr h
end L2
namespace L2
open PySem PySem.Spec PyProof.Rows
section
variable {X : Cx}
theorem call_lenD : CallR X (.builtin "len") (fun xs H Q => ∃ a kvs, xs = [V.ref a] ∧ H a = some (.dK kvs) ∧ Q (.int kvs.length) H) := by
  intro pins s σ H xs us Q I r h
  obtain ⟨a, kvs, rfl, ha, q⟩ := h
  obtain ⟨u, rfl, ru⟩ := vals1 r
  cases ru
  exact d_len I (.inl ha) fun t s' I' => ⟨.int kvs.length, H, I', ⟨t, rfl⟩, q⟩
end
section
variable {κ : Type} [DecidableEq κ]
theorem valV_not {kvs : List (κ × V)} {k : κ} (h : valV kvs k = none) : ¬ k ∈ kvs.map (·.1) := by
  intro m
  obtain ⟨p, hp, e⟩ := List.mem_map.mp m
  have q : (kvs.any fun kv => decide (kv.1 = k)) = true := List.any_eq_true.mpr ⟨p, hp, decide_eq_true e⟩
  rw [valV_any, h] at q
  exact absurd q (by simp)
theorem valV_in {kvs : List (κ × V)} {k : κ} {v : V} (h : valV kvs k = some v) : k ∈ kvs.map (·.1) := by
  have q : (kvs.any fun kv => decide (kv.1 = k)) = true := by
    rw [valV_any, h]
    all_goals rfl
  obtain ⟨p, hp, e⟩ := List.any_eq_true.mp q
  exact List.mem_map.mpr ⟨p, hp, of_decide_eq_true e⟩
theorem nd_snoc : ∀ {l : List κ} {k : κ}, l.Nodup → ¬ k ∈ l → (l ++ [k]).Nodup
  | [], k, _, _ => by simp
  | a :: r, k, h, hk => by
    obtain ⟨h1, h2⟩ := List.nodup_cons.mp h
    show (a :: (r ++ [k])).Nodup
    refine List.nodup_cons.mpr ⟨fun m => ?_, nd_snoc h2 fun m => hk (List.mem_cons.mpr (Or.inr m))⟩
    rcases List.mem_append.mp m with q | q
    · exact h1 q
    · exact hk (List.mem_cons.mpr (Or.inl (List.mem_singleton.mp q).symm))
theorem nd_putK {kvs : List (κ × V)} {k : κ} (v : V) (hn : (kvs.map (·.1)).Nodup) (h : valV kvs k = none) : ((putK kvs k v).map (·.1)).Nodup := by
  rw [putK_new v h, List.map_append]
  exact nd_snoc hn (valV_not h)
theorem dropK_pos {p : κ × V} {r : List (κ × V)} {k : κ} (e : p.1 = k) : dropK (p :: r) k = dropK r k := by
  unfold dropK
  rw [List.filter_cons, if_neg (by simp [e])]
theorem dropK_neg {p : κ × V} {r : List (κ × V)} {k : κ} (e : ¬ p.1 = k) : dropK (p :: r) k = p :: dropK r k := by
  unfold dropK
  rw [List.filter_cons, if_pos (by simp [e])]
theorem dropK_no : ∀ {kvs : List (κ × V)} {k : κ}, ¬ k ∈ kvs.map (·.1) → dropK kvs k = kvs
  | [], _, _ => rfl
  | p :: r, k, h => by
    have h' : ¬ k ∈ r.map (·.1) := fun m => by
      obtain ⟨q, hq, e⟩ := List.mem_map.mp m
      exact h (List.mem_map.mpr ⟨q, List.mem_cons.mpr (Or.inr hq), e⟩)
    rw [dropK_neg fun e => h (List.mem_map.mpr ⟨p, List.mem_cons.mpr (Or.inl rfl), e⟩), dropK_no h']
theorem dropK_mem {kvs : List (κ × V)} {k : κ} {p : κ × V} (h : p ∈ dropK kvs k) : p ∈ kvs := (List.mem_filter.mp h).1
theorem nd_dropK : ∀ {kvs : List (κ × V)} {k : κ}, (kvs.map (·.1)).Nodup → ((dropK kvs k).map (·.1)).Nodup
  | [], _, _ => List.nodup_nil
  | p :: r, k, h => by
    have h : (p.1 :: r.map (·.1)).Nodup := h
    obtain ⟨h1, h2⟩ := List.nodup_cons.mp h
    by_cases e : p.1 = k
    · rw [dropK_pos e]
      exact nd_dropK h2
    · rw [dropK_neg e]
      show (p.1 :: (dropK r k).map (·.1)).Nodup
      refine List.nodup_cons.mpr ⟨fun m => h1 ?_, nd_dropK h2⟩
      obtain ⟨q, hq, eq⟩ := List.mem_map.mp m
      exact List.mem_map.mpr ⟨q, dropK_mem hq, eq⟩
theorem dropK_len : ∀ {kvs : List (κ × V)} {k : κ}, (kvs.map (·.1)).Nodup → k ∈ kvs.map (·.1) → (dropK kvs k).length + 1 = kvs.length
  | [], _, _, m => by simp at m
  | p :: r, k, h, m => by
    have h : (p.1 :: r.map (·.1)).Nodup := h
    have m : k = p.1 ∨ k ∈ r.map (·.1) := List.mem_cons.mp m
    obtain ⟨h1, h2⟩ := List.nodup_cons.mp h
    by_cases e : p.1 = k
    · subst e
      rw [dropK_pos rfl, dropK_no h1]
      all_goals rfl
    · have m' : k ∈ r.map (·.1) := m.resolve_left fun z => e z.symm
      have q := dropK_len h2 m'
      rw [dropK_neg e, List.length_cons, List.length_cons]
      omega
end
end L2
end
section
set_option Elab.async false
set_option linter.all false
set_option maxRecDepth 100000
set_option maxHeartbeats 4000000
namespace L2
open PySem PySem.Spec PyProof.Rows
def clOf (env : Env) : List (Str × NameKind) → List (Str × Addr) → List (Str × Addr)
  | [], acc => acc
  | (n, k) :: r, acc => clOf env r (if (k == NameKind.free) = true then (n, (env.cells.lookup n).getD 0) :: acc else acc)
theorem closure_go {env : Env} : ∀ (l : List (Str × NameKind)) (acc : List (Str × Addr)), (∀ p ∈ l, p.2 = .free → ∃ c, env.cells.lookup p.1 = some c) →
    (forIn l acc fun (x : Str × NameKind) (cs : List (Str × Addr)) => (if (x.2 == NameKind.free) = true then do let a ← cellOf env x.1; pure (ForInStep.yield ((x.1, a) :: cs)) else pure (ForInStep.yield cs) : Sem (ForInStep (List (Str × Addr))))) = pure (clOf env l acc)
  | [], acc, _ => rfl
  | (n, k) :: r, acc, h => by
    rw [List.forIn_cons]
    by_cases hk : (k == NameKind.free) = true
    · obtain ⟨c, hc⟩ := h (n, k) List.mem_cons_self (by simpa using hk)
      have hc' : env.cells.lookup n = some c := hc
      have e1 : cellOf env n = pure c := by unfold cellOf; rw [hc']
      simp only [hk, if_true, e1]
      show (forIn r ((n, c) :: acc) _ : Sem _) = _
      have ih := closure_go (env := env) r ((n, c) :: acc) fun p hp => h p (List.mem_cons_of_mem _ hp)
      refine ih.trans ?_
      show _ = pure (clOf env r (if (k == NameKind.free) = true then (n, (env.cells.lookup n).getD 0) :: acc else acc))
      rw [if_pos hk, hc']
      rfl
    · have hk' : (k == NameKind.free) = false := by simpa using hk
      simp only [hk', Bool.false_eq_true, if_false]
      show (forIn r acc _ : Sem _) = _
      have ih := closure_go (env := env) r acc fun p hp => h p (List.mem_cons_of_mem _ hp)
      refine ih.trans ?_
      show _ = pure (clOf env r (if (k == NameKind.free) = true then (n, (env.cells.lookup n).getD 0) :: acc else acc))
      rw [if_neg hk]
theorem closure_eq {env : Env} {scope : Scope} (h : ∀ p ∈ scope.names, p.2 = .free → ∃ c, env.cells.lookup p.1 = some c) : closureFor scope env = pure (clOf env scope.names []) := by
  unfold closureFor
  have := closure_go (env := env) scope.names [] h
  show ((forIn scope.names ([] : List (Str × Addr)) (fun (x : Str × NameKind) (cs : List (Str × Addr)) => (if (x.2 == NameKind.free) = true then do let a ← cellOf env x.1; pure (ForInStep.yield ((x.1, a) :: cs)) else pure (ForInStep.yield cs) : Sem (ForInStep (List (Str × Addr))))) : Sem (List (Str × Addr))) >>= fun r => pure r) = _
  rw [this]
  rfl
theorem clOf_look {env : Env} {x : Str} {c : Addr} : ∀ {l : List (Str × NameKind)} {acc : List (Str × Addr)}, (∀ p ∈ l, p.2 = .free → ∃ c, env.cells.lookup p.1 = some c) → (∀ c, acc.lookup x = some c → env.cells.lookup x = some c) →
    (clOf env l acc).lookup x = some c → env.cells.lookup x = some c
  | [], acc, _, ha, h => ha c h
  | (n, k) :: r, acc, hl, ha, h => by
    refine clOf_look (l := r) (fun p hp => hl p (List.mem_cons_of_mem _ hp)) ?_ h
    intro c' hc'
    by_cases hk : (k == NameKind.free) = true
    · rw [if_pos hk] at hc'
      obtain ⟨c0, hc0⟩ := hl (n, k) List.mem_cons_self (by simpa using hk)
      have hc0 : env.cells.lookup n = some c0 := hc0
      rw [List.lookup_cons] at hc'
      cases hx : x == n with
      | true =>
        rw [hx] at hc'
        rw [hc0] at hc'
        have e : x = n := by simpa using hx
        rw [e, hc0]
        exact hc'
      | false =>
        rw [hx] at hc'
        exact ha c' hc'
    · rw [if_neg hk] at hc'
      exact ha c' hc'
theorem clOf_has {env : Env} {x : Str} : ∀ {l : List (Str × NameKind)} {acc : List (Str × Addr)}, ((x, NameKind.free) ∈ l ∨ ∃ c, acc.lookup x = some c) → ∃ c, (clOf env l acc).lookup x = some c
  | [], acc, h => by
    rcases h with h | h
    · exact nomatch h
    · exact h
  | (n, k) :: r, acc, h => by
    show ∃ c, (clOf env r (if (k == NameKind.free) = true then (n, (env.cells.lookup n).getD 0) :: acc else acc)).lookup x = some c
    refine clOf_has (l := r) ?_
    rcases h with h | ⟨c, h⟩
    · rcases List.mem_cons.mp h with e | h
      · injection e with e1 e2
        subst e1 e2
        right
        rw [if_pos (by rfl), List.lookup_cons]
        simp
      · exact .inl h
    · right
      by_cases hk : (k == NameKind.free) = true
      · rw [if_pos hk, List.lookup_cons]
        cases hx : x == n with
        | true => exact ⟨_, rfl⟩
        | false => exact ⟨c, h⟩
      · rw [if_neg hk]
        exact ⟨c, h⟩
def cxComp (X : Cx) (scope : Scope) (N : List Str) (C : Addr) (fp : List Addr) (s : Shared) (H : Hp) : Cx :=
  { X with N := N, s₀ := s, H₀ := H, env := compEnvC scope (clOf X.env scope.names []) C X.env, outer := X.stack, stack := X.stack, ex := fp, fn := fun _ => false, pn := [], xe := fun _ _ => False }
def capSt (cap : List (Option Nat)) (σ : St) : St := cap.map fun o => match o with
  | some i => (σ[i]?).join
  | none => none
structure CompOk (X : Cx) (scope : Scope) (N : List Str) (cap : List (Option Nat)) : Prop where
  kind : scope.kind = .function
  nocell : ∀ y ∈ scope.names, y.2 ≠ .cell
  names : ∀ y ∈ scope.names, y.2 = .local → scope.names.lookup y.1 = some .local
  free : ∀ y ∈ scope.names, y.2 = .free → (X.env.kindOf y.1 = some .cell ∨ X.env.kindOf y.1 = some .free)
  len : cap.length = N.length
  cap : ∀ (j : Nat) (x : Str) (i : Nat), N[j]? = some x → cap[j]? = some (some i) → X.N[i]? = some x ∧ (x, NameKind.free) ∈ scope.names ∧ scope.names.lookup x = some .free
theorem relabel_look {env : Env} : ∀ {names : List (Str × NameKind)} {x : Str} {k : NameKind}, names.lookup x = some k →
    (names.map fun (n, k) => if (k == NameKind.free && env.scope.kind == .function && env.kindOf n == some .cell) then (n, NameKind.cell) else (n, k)).lookup x = some k ∨ (k = .free ∧
      (names.map fun (n, k) => if (k == NameKind.free && env.scope.kind == .function && env.kindOf n == some .cell) then (n, NameKind.cell) else (n, k)).lookup x = some .cell)
  | [], _, _, h => by simp at h
  | (n, k') :: r, x, k, h => by
    have ih := @relabel_look env r x k
    show List.lookup x ((if (k' == NameKind.free && env.scope.kind == .function && env.kindOf n == some .cell) = true then (n, NameKind.cell) else (n, k')) :: _) = _ ∨ _ ∧ List.lookup x ((if (k' == NameKind.free && env.scope.kind == .function && env.kindOf n == some .cell) = true then (n, NameKind.cell) else (n, k')) :: _) = _
    cases hx : x == n with
    | true =>
      simp only [List.lookup_cons, hx] at h
      cases h
      by_cases hc : (k' == NameKind.free && env.scope.kind == .function && env.kindOf n == some .cell) = true
      · right
        rw [if_pos hc]
        simp only [Bool.and_eq_true] at hc
        exact ⟨by simpa using hc.1.1, by simp only [List.lookup_cons, hx]⟩
      · left
        rw [if_neg hc]
        simp only [List.lookup_cons, hx]
    | false =>
      simp only [List.lookup_cons, hx] at h
      by_cases hc : (k' == NameKind.free && env.scope.kind == .function && env.kindOf n == some .cell) = true
      · rw [if_pos hc]; simp only [List.lookup_cons, hx]; exact ih h
      · rw [if_neg hc]; simp only [List.lookup_cons, hx]; exact ih h
theorem HOk.but {P : Program} {w : World} {H : Hp} {h h' : Heap} {C : Addr} (ok : HOk P w H h) (hn : H C = none) (hs : Heap.SameBut C h h') : HOk P w H h' := fun b u e => by
  refine (ok b u e).stay (fun c v hc q => (hs.2 c ?_).trans q) (fun _ q => q) fun _ _ q => q
  rintro rfl
  rcases hc with rfl | hc
  · rw [hn] at e; cases e
  · rw [hn] at hc; cases hc
def PIfs (X : Cx) (ifs : List Expr) (t : TT) : Prop :=
  ∀ (pins : List (Addr × Obj)) (s : Shared) (σ : St) (H : Hp) (Q : Bool → Hp → Prop), Inv X pins σ H s → t σ H Q →
    wpAny (model X.prog X.w) X.A (forIn ifs true fun c r => if r = true then do let ok ← isTrue c X.env (eval c X.env); pure (ForInStep.yield ok) else pure (ForInStep.yield r)) (TP X pins σ Q) X.xe s
def tTrue : TT := fun _ H Q => Q true H
theorem pifs_nil {X : Cx} : PIfs X [] tTrue := fun pins s σ H Q I h => wpAny_tests_nil ⟨H, I, h⟩
theorem pifs_one {X : Cx} {c : Expr} {t : TT} (h : PT X c t) : PIfs X [c] t := fun pins s σ H Q I hw => wpAny_tests_one (h pins s σ H Q I hw)
def compLoopR (J : It) (g : TG) (tt : TT) (te : TE) (acc : Addr) (Q : Hp → Prop) (σ : St) (H : Hp) : Prop :=
  ∃ W : Nat → Nat → List V → St → Hp → Prop, (∃ m, W 0 m [] σ H) ∧ ∀ i m ys σ' H', W i m ys σ' H' →
    (J.stop i H' ∧ Q H') ∨
    (J.go i H' ∧ ∀ x H2, J.yld i H' x H2 → g x σ' H2 fun σ3 H3 => tt σ3 H3 fun b H4 =>
      if b = true then te σ3 H4 fun y H5 => H5 acc = some (.lst ys) ∧ ys.length < sizeLine ∧ ∃ m', m' < m ∧ W (i + 1) m' (ys ++ [y]) σ3 (upd H5 acc (.lst (ys ++ [y])))
      else ∃ m', m' < m ∧ W (i + 1) m' ys σ3 H4)
def tComp (cap : List (Option Nat)) (wi : TI) (g : TG) (tt : TT) (te : TE) : TE := fun σ H Q =>
  wi σ H fun J H1 => ∀ acc, H1 acc = none → compLoopR J g tt te acc (Q (.ref acc)) (capSt cap σ) (upd H1 acc (.lst []))
theorem codeAny_compLoop_own {prog : Program} {w : World} {A : Around} {R : Result → Shared → Prop} {s : Shared} {elt target iter : Expr} {ifs : List Expr} {scope : Scope} {pos : Pos} {it acc : Value} {env : Env} (I : Nat → Shared → Prop)
    (turn : ∀ n s, I n s → wpAny (model prog w) A (pyNext it) (fun r s₁ => match r with
      | none => R (.ok .next) s₁
      | some v => wpAny (model prog w) A (letOwnedTupleGo target it v) (fun _ s₁' => wpAny (model prog w) A (assign target env v) (fun _ s₂ =>
          wpAny (model prog w) A (forIn ifs true fun c r => if r = true then do let ok ← isTrue c env (eval c env); pure (ForInStep.yield ok) else pure (ForInStep.yield r)) (fun ok s₃ =>
            if ok = true then wpAny (model prog w) A (eval elt env) (fun x s₄ =>
              wpAny (model prog w) A (call (.builtin "list.append") [acc, x]) (fun _ s₅ => ∃ m, m < n ∧ I m s₅) (fun _ _ => False) s₄) (fun _ _ => False) s₃
            else ∃ m, m < n ∧ I m s₃) (fun _ _ => False) s₂) (fun _ _ => False) s₁') (fun _ _ => False) s₁) (fun _ _ => False) s)
    (n : Nat) (h : I n s) :
    codeAny (model prog w) A (.compLoop (.ListComp elt [⟨target, iter, ifs, 0⟩] scope pos) 0 it acc env) R s := by
  refine codeAny_loop rfl I (fun n s hI => ?_) n h
  show wpAny _ A ((compTurn (.ListComp elt [⟨target, iter, ifs, 0⟩] scope pos) 0 it acc env).onRaise (fun x => do noteFrame x env; theTreesLotGoes x)) _ _ s
  refine wpAny_noted ?_
  rw [compTurn_list]
  refine wpAny_bind (wpAny_standAt (wpAny_bind (wpAny_mono (turn n s hI) (fun r s₁ h₁ => ?_) fun _ _ h' => h'.elim)))
  cases r with
  | none => exact wpAny_pure h₁
  | some v =>
    refine wpAny_bind (wpAny_mono h₁ (fun _ s₁' h₁' => ?_) fun _ _ h' => h'.elim)
    refine wpAny_bind (wpAny_mono h₁' (fun _ s₂ h₂ => wpAny_bind (wpAny_mono h₂ (fun ok s₃ h₃ => ?_) fun _ _ h' => h'.elim)) fun _ _ h' => h'.elim)
    cases ok with
    | false => exact wpAny_pure ⟨rfl, h₃⟩
    | true =>
      exact wpAny_bind (wpAny_bind (wpAny_mono h₃ (fun x s₄ h₄ => wpAny_bind (wpAny_mono h₄ (fun _ s₅ h₅ => wpAny_pure (wpAny_pure ⟨rfl, h₅⟩)) fun _ _ h' => h'.elim)) fun _ _ h' => h'.elim))
section
variable {X : Cx} {scope : Scope} {N : List Str} {cap : List (Option Nat)}
theorem CompOk.cells (ok : CompOk X scope N cap) (xo : X.Ok) : ∀ p ∈ scope.names, p.2 = .free → ∃ c, X.env.cells.lookup p.1 = some c := fun p hp e => xo.has p.1 (ok.free p hp e)
theorem comp_start {pins : List (Addr × Obj)} {σ : St} {H : Hp} {s : Shared} {fp : List Addr} {h1 : Heap} {tk : Nat} (co : CompOk X scope N cap) (I : Inv X pins σ H s) (hf : ∀ b ∈ fp, FpOk X pins H b) (hin : ∀ b ∈ fp, b < s.heap.objs.size)
    (hns : h1.Ns (s.heap.objs.size + 1) (fun _ => none)) (hk : ∀ b o, (s.heap.push { cls := .type "list", data := .seq ([] : List Value).toArray }).get? b = some o → h1.get? b = some o) :
    Inv (cxComp X scope N (s.heap.objs.size + 1) fp { s with heap := s.heap.push { cls := .type "list", data := .seq ([] : List Value).toArray } } (upd H s.heap.objs.size (.lst []))) [] (capSt cap σ) (upd H s.heap.objs.size (.lst []))
      { s with heap := h1, toks := tk } := by
  have cells := co.cells I.ok
  have look : ∀ x c, (clOf X.env scope.names []).lookup x = some c → X.env.cells.lookup x = some c := fun x c e => clOf_look cells (fun c h => by simp at h) e
  have I1 : Inv X pins σ (upd H s.heap.objs.size (.lst [])) { s with heap := s.heap.push { cls := .type "list", data := .seq ([] : List Value).toArray }, toks := s.toks } := I.lnew (t' := s.toks) .nil (Nat.zero_le _)
  have nacc : ∀ b o, s.heap.get? b = some o → b ≠ s.heap.objs.size := fun b o e => Nat.ne_of_lt (Heap.lt_size e)
  have fne : ∀ b ∈ frs X.stack, b ∈ X.env.locals :: X.fs := I.stkSub
  have pushsz : (s.heap.push { cls := .type "list", data := .seq ([] : List Value).toArray }).objs.size = s.heap.objs.size + 1 := Heap.size_push ..
  refine ⟨⟨I.ok.mod, co.kind, I.ok.glob, I.ok.blt, ?_, ?_, ?_, fun x c h => (nomatch h), I.ok.hd, I.ok.frames, .inl rfl, ?_, ?_, ?_, ?_, ?_, ?_, ?_⟩, rfl, I.bare, Un.kept hk, ?_, ?_, ?_, ?_, ?_, ?_, ?_⟩
  · show (s.heap.push { cls := .type "list", data := .seq ([] : List Value).toArray }).objs.size ≤ s.heap.objs.size + 1
    rw [pushsz]; exact Nat.le_refl _
  · intro x y c e1 e2
    exact I.ok.inj x y c (look x c e1) (look y c e2)
  · intro x hx
    refine clOf_has (.inl ?_)
    have hx : (relabel scope X.env).names.lookup x = some .cell ∨ (relabel scope X.env).names.lookup x = some .free := hx
    have key : ∀ (l : List (Str × NameKind)), (∀ y ∈ l, y.2 ≠ .cell) → ((l.map fun (n, k) => if (k == NameKind.free && X.env.scope.kind == .function && X.env.kindOf n == some .cell) then (n, NameKind.cell) else (n, k)).lookup x = some .cell ∨
        (l.map fun (n, k) => if (k == NameKind.free && X.env.scope.kind == .function && X.env.kindOf n == some .cell) then (n, NameKind.cell) else (n, k)).lookup x = some .free) → (x, NameKind.free) ∈ l := by
      intro l
      induction l with
      | nil => intro _ h; simp at h
      | cons p r ih =>
        obtain ⟨n, k⟩ := p
        intro hn h
        have hn' : ∀ y ∈ r, y.2 ≠ .cell := fun y hy => hn y (List.mem_cons_of_mem _ hy)
        have hkc : k ≠ .cell := hn (n, k) List.mem_cons_self
        rw [List.map_cons] at h
        by_cases hc : (k == NameKind.free && X.env.scope.kind == .function && X.env.kindOf n == some .cell) = true
        · dsimp only at h
          rw [if_pos hc] at h
          rw [List.lookup_cons] at h
          cases hx : x == n with
          | true =>
            have e : x = n := by simpa using hx
            simp only [Bool.and_eq_true] at hc
            have ek : k = .free := by simpa using hc.1.1
            rw [e, ek]
            exact List.mem_cons_self
          | false =>
            rw [hx] at h
            exact List.mem_cons_of_mem _ (ih hn' h)
        · dsimp only at h
          rw [if_neg hc] at h
          rw [List.lookup_cons] at h
          cases hx : x == n with
          | true =>
            rw [hx] at h
            have e : x = n := by simpa using hx
            rcases h with h | h
            · exact absurd (Option.some.inj h) hkc
            · have ek : k = .free := Option.some.inj h
              rw [e, ek]
              exact List.mem_cons_self
          | false =>
            rw [hx] at h
            exact List.mem_cons_of_mem _ (ih hn' h)
    exact key scope.names co.nocell hx
  · intro b hb
    obtain ⟨f0, f1, f2, f3, f4, f5⟩ := hf b hb
    exact ⟨Nat.ne_of_lt (Nat.lt_succ_of_lt (hin b hb)), fun x c e => f4 x c (look x c e)⟩
  · intro b o e
    exact I1.bs b o e
  · show X.base.objs.size ≤ (s.heap.push { cls := .type "list", data := .seq ([] : List Value).toArray }).objs.size
    rw [pushsz]
    exact Nat.le_succ_of_le (Nat.le_trans I.ok.bsz I.sz)
  · intro b o e hb
    obtain ⟨f0, f1, f2, f3, f4, f5⟩ := hf b hb
    rcases f3 with z | z
    · exact I.ok.noex b o e z
    · exact absurd (Nat.lt_of_lt_of_le (Heap.lt_size e) (Nat.le_trans I.ok.bsz z)) (Nat.lt_irrefl _)
  · intro b hb hm
    obtain ⟨f0, f1, f2, f3, f4, f5⟩ := hf b hb
    rcases List.mem_cons.mp (fne b hm) with z | z
    · exact f1 z
    · exact f2 z
  · exact I1.stack
  · exact I1.stkFree
  · refine ⟨fun _ => none, hns, fun j x v e1 e2 e3 => ?_⟩
    unfold capSt at e2
    rw [List.getElem?_map] at e2
    cases ec : cap[j]? with
    | none => rw [ec] at e2; cases e2
    | some o =>
      rw [ec] at e2
      cases o with
      | none => cases (Option.some.inj e2)
      | some i =>
        have e2' : (σ[i]?).join = some v := Option.some.inj e2
        have e2'' : σ[i]? = some (some v) := by
          cases q : σ[i]? with
          | none => rw [q] at e2'; cases e2'
          | some z => rw [q] at e2'; rw [show z = some v from e2']
        obtain ⟨c1, c2, c3⟩ := co.cap j x i e1 ec
        obtain ⟨m, hn, hl⟩ := I.loc
        have kx : X.env.kindOf x = some .cell ∨ X.env.kindOf x = some .free := co.free (x, .free) c2 rfl
        obtain ⟨u, ru, lk⟩ := hl i x v c1 e2'' (.inr kx)
        refine ⟨u, ru, ?_⟩
        rcases lk with ⟨k1, _⟩ | ⟨k1, c, hc, hcell⟩
        · rcases kx with z | z <;> (rw [k1] at z; cases z)
        · refine .inr ⟨?_, c, ?_, ?_⟩
          · rcases relabel_look (env := X.env) c3 with z | ⟨_, z⟩
            · exact .inr z
            · exact .inl z
          · obtain ⟨c', hc'⟩ := clOf_has (env := X.env) (x := x) (l := scope.names) (acc := []) (.inl c2)
            have := look x c' hc'
            rw [hc] at this
            cases this
            exact hc'
          · obtain ⟨oc, ho, hd⟩ := hcell
            exact ⟨oc, hk _ _ (Heap.get?_push_of_some _ ho), hd⟩
  · intro x c e
    obtain ⟨v, oc, ho, hd⟩ := I.cell x c (look x c e)
    exact ⟨v, oc, hk _ _ (Heap.get?_push_of_some _ ho), hd⟩
  · show upd H s.heap.objs.size (.lst []) (s.heap.objs.size + 1) = none
    rw [upd_ne (Nat.succ_ne_self _)]
    exact I.hok.fresh (Nat.le_succ _)
  · intro x c e
    exact I1.freeC x c (look x c e)
  · intro p hp
    exact absurd (show p ∈ ([] : List (Addr × Obj)) from hp) (by simp)
  · exact I1.hok.kept hk
  · show (capSt cap σ).length = N.length
    unfold capSt
    rw [List.length_map]
    exact co.len
theorem comp_back {pins : List (Addr × Obj)} {σ σ' : St} {H H' : Hp} {s s' : Shared} {fp : List Addr} {h2 : Heap} (I : Inv X pins σ H s) (hf : ∀ b ∈ fp, FpOk X pins H b)
    (J : Inv (cxComp X scope N (s.heap.objs.size + 1) fp { s with heap := s.heap.push { cls := .type "list", data := .seq ([] : List Value).toArray } } (upd H s.heap.objs.size (.lst []))) [] σ' H' s')
    (hs : Heap.SameBut (s.heap.objs.size + 1) s'.heap h2) : Inv X pins σ H' { s' with heap := h2 } := by
  have u1 : Un (frs X.stack) fp H (upd H s.heap.objs.size (.lst [])) s.heap (s.heap.push { cls := .type "list", data := .seq ([] : List Value).toArray }) :=
    Un.laid (fun b u e => Heap.get?_push_of_some _ e) (Nat.le_refl _) I.fresh
  have u2 : Un (frs X.stack) fp (upd H s.heap.objs.size (.lst [])) H' (s.heap.push { cls := .type "list", data := .seq ([] : List Value).toArray }) s'.heap := J.base
  have u3 := u1.trans u2
  have hn : H' (s.heap.objs.size + 1) = none := J.free
  have old : ∀ b o, s.heap.get? b = some o → h2.get? b = s'.heap.get? b := fun b o e => hs.2 b (Nat.ne_of_lt (Nat.lt_succ_of_lt (Heap.lt_size e)))
  refine I.call' (s' := { s' with heap := h2 }) (ch := fp) J.os ⟨fun b o e n h1 h2' => ?_, fun b o e n h1 h2' => ?_, u3.free, fun b o e h1 => ?_, u3.tups, u3.frzs, u3.tbls⟩ (J.hok.but hn hs) J.bare fun b hb => ?_
  · rw [show ({ s' with heap := h2 } : Shared).heap.get? b = h2.get? b from rfl, old b o e]
    exact u3.keep b o e n h1 h2'
  · obtain ⟨sl, q⟩ := u3.slot b o e n h1 h2'
    exact ⟨sl, by rw [show ({ s' with heap := h2 } : Shared).heap.get? b = h2.get? b from rfl, old b o e]; exact q⟩
  · obtain ⟨o', q⟩ := u3.there b o e h1
    exact ⟨o', by rw [show ({ s' with heap := h2 } : Shared).heap.get? b = h2.get? b from rfl, old b o e]; exact q⟩
  · obtain ⟨f0, f1, f2, f3, f4, f5⟩ := hf b hb
    exact ⟨f3, f1, f4, f5⟩
variable {elt iter tg : Expr} {ifs : List Expr} {wi : TI} {g : TG} {tt : TT} {te : TE} {pos : Pos}
theorem comp_run {pins : List (Addr × Obj)} {σ : St} {H : Hp} {s : Shared} {it : Addr} {fp : List Addr} {tn : Nat → Heap → Prop} {J : It} {Q : V → Hp → Prop} {RR : Value → Addr → Result → Shared → Prop}
    (co : CompOk X scope N cap) (hcalm : X.calm = true) (I : Inv X pins σ H s) (T : Turn X.prog X.w X.K tg J fp it tn) (st : tn 0 s.heap) (hf : ∀ b ∈ fp, FpOk X pins H b)
    (hg : ∀ C s0 H0, PG (cxComp X scope N C fp s0 H0) tg g) (hi : ∀ C s0 H0, PIfs (cxComp X scope N C fp s0 H0) ifs tt) (he : ∀ C s0 H0, PE (cxComp X scope N C fp s0 H0) elt te)
    (hw : ∀ acc, H acc = none → compLoopR J g tt te acc (Q (.ref acc)) (capSt cap σ) (upd H acc (.lst [])))
    (hR : ∀ (H' : Hp) (s' : Shared) (σ' : St), Inv (cxComp X scope N (s.heap.objs.size + 1) fp { s with heap := s.heap.push { cls := .type "list", data := .seq ([] : List Value).toArray } } (upd H s.heap.objs.size (.lst []))) [] σ' H' s' →
      Q (.ref s.heap.objs.size) H' → RR (.ref s.heap.objs.size) (s.heap.objs.size + 1) (.ok .next) s') :
    wpAny (model X.prog X.w) X.A (newList []) (fun acc s₃ => wpAny (model X.prog X.w) X.A (newFunctionEnv scope X.env.globals (clOf X.env scope.names []) [] X.env.qual none .none (some X.env)) (fun cenv s₄ =>
      codeAny (model X.prog X.w) X.A (.compStart (.ListComp elt [⟨tg, iter, ifs, 0⟩] scope pos) 0 (.ref it) acc { cenv with scope := relabel scope X.env }) (RR acc cenv.locals) s₄) X.xe s₃) X.xe s := by
  have hin : ∀ b ∈ fp, b < s.heap.objs.size := fun b hb => by
    obtain ⟨o, e, _⟩ := T.obj _ _ st b hb
    exact Heap.lt_size e
  refine wpAny_newObj_type (wpAny_newFunctionEnv co.nocell (by intro y hy; simp at hy) (fun h₁ hns₁ hsb₁ => ?_) co.kind)
  dsimp only at hns₁ hsb₁ ⊢
  have pushsz : (s.heap.push { cls := .type "list", data := .seq ([] : List Value).toArray }).objs.size = s.heap.objs.size + 1 := Heap.size_push ..
  rw [pushsz] at hns₁ hsb₁ ⊢
  have hk : ∀ b o, (s.heap.push { cls := .type "list", data := .seq ([] : List Value).toArray }).get? b = some o → h₁.get? b = some o := fun b o e =>
    hsb₁.extBut b o (by have := Heap.lt_size e; rw [pushsz] at this; exact Nat.ne_of_lt this) (Heap.get?_push_of_some _ e)
  have hk0 : ∀ b o, s.heap.get? b = some o → h₁.get? b = some o := fun b o e => hk b o (Heap.get?_push_of_some _ e)
  have st1 : tn 0 h₁ := T.keep _ _ _ st fun b _ o e => hk0 b o e
  have J1 := comp_start (tk := s.toks + ([] : List (Str × Value)).length) co I hf hin (h1 := h₁) (by simpa using hns₁) hk
  generalize hXc : cxComp X scope N (s.heap.objs.size + 1) fp { s with heap := s.heap.push { cls := .type "list", data := .seq ([] : List Value).toArray } } (upd H s.heap.objs.size (.lst [])) = Xc at J1 hR
  have eP : Xc.prog = X.prog := by rw [← hXc]; rfl
  have eW : Xc.w = X.w := by rw [← hXc]; rfl
  have eK : Xc.K = X.K := by rw [← hXc]; rfl
  have eA : Xc.A = X.A := by rw [← hXc]; rfl
  have ec : Xc.calm = true := by rw [← hXc]; exact hcalm
  have eE : Xc.env = compEnvC scope (clOf X.env scope.names []) (s.heap.objs.size + 1) X.env := by rw [← hXc]; rfl
  have ex : Xc.xe = fun _ _ => False := by rw [← hXc]; rfl
  have hg' : PG Xc tg g := by rw [← hXc]; exact hg _ _ _
  have hi' : PIfs Xc ifs tt := by rw [← hXc]; exact hi _ _ _
  have he' : PE Xc elt te := by rw [← hXc]; exact he _ _ _
  have stat : ∀ {H' : Hp}, (∀ b ∈ fp, H' b = none) → ∀ b ∈ fp, FpOk Xc [] H' b := fun {H'} hn b hb => by
    obtain ⟨f0, f1, f2, f3, f4, f5⟩ := hf b hb
    refine ⟨hn b hb, ?_, ?_, .inl ?_, ?_, ?_⟩
    · rw [eE]; exact Nat.ne_of_lt (Nat.lt_succ_of_lt (hin b hb))
    · rw [← hXc]
      show b ∉ frs X.stack
      intro hm
      rcases List.mem_cons.mp (I.stkSub b hm) with z | z
      · exact f1 z
      · exact f2 z
    · rw [← hXc]; exact hb
    · intro x c e
      rw [eE] at e
      exact f4 x c (clOf_look (co.cells I.ok) (fun c h => by simp at h) e)
    · intro p hp
      rw [← hXc] at hp
      exact absurd (show p ∈ ([] : List (Addr × Obj)) from hp) (by simp)
  obtain ⟨W, ⟨m0, w0⟩, turn⟩ := hw s.heap.objs.size I.fresh
  have fr0 : ∀ b ∈ fp, upd H s.heap.objs.size (.lst []) b = none := fun b hb => by
    rw [upd_ne (Nat.ne_of_lt (hin b hb))]
    exact (hf b hb).1
  have loop : ∀ sx : Shared, sx = { s with heap := h₁, toks := s.toks + ([] : List (Str × Value)).length } →
      codeAny (model X.prog X.w) X.A (.compLoop (.ListComp elt [⟨tg, iter, ifs, 0⟩] scope pos) 0 (.ref it) (.ref s.heap.objs.size) (compEnvC scope (clOf X.env scope.names []) (s.heap.objs.size + 1) X.env)) (RR (.ref s.heap.objs.size) (s.heap.objs.size + 1)) sx := by
    rintro sx rfl
    refine codeAny_compLoop_own (fun n s' => ∃ i ys σ' H', Inv Xc [] σ' H' s' ∧ tn i s'.heap ∧ (∀ b ∈ fp, H' b = none) ∧ W i n ys σ' H') ?_ m0 ⟨0, [], capSt cap σ, _, J1, st1, fr0, w0⟩
    rintro n s3 ⟨i, ys, σ3, H3, I3, st3, fr3, w3⟩
    rcases turn i n ys σ3 H3 w3 with ⟨stop, qn⟩ | ⟨go, step⟩
    · have := T.done Xc eP eW eK ec i [] s3 σ3 H3 (fun _ _ => False) I3 (stat fr3) st3 stop
      rw [eA] at this
      refine thn this fun r s4 ⟨hr, I4⟩ => ?_
      subst hr
      exact hR H3 s4 σ3 I4 qn
    · have := T.item Xc eP eW eK ec i [] s3 σ3 H3 (fun _ _ => False) I3 (stat fr3) st3 go
      rw [eA] at this
      refine thn this fun r s4 ⟨u, hr, h4⟩ => ?_
      subst hr
      refine thn h4 fun _ s5 ⟨x, H5, I5, r5, y5, st5, fr5⟩ => ?_
      have I5' := I5.pinned (stat fr5) (T.obj _ _ st5)
      have a1 := hg' _ s5 σ3 H5 x u _ I5' r5 (step x H5 y5)
      rw [eP, eW, eA, eE, ex] at a1
      refine thn a1 fun _ s6 ⟨σ6, H6, I6, q6⟩ => ?_
      have a2 := hi' _ s6 σ6 H6 _ I6 q6
      rw [eP, eW, eA, eE, ex] at a2
      refine thn a2 fun b s7 ⟨H7, I7, q7⟩ => ?_
      have again : ∀ {σ8 : St} {H8 : Hp} {s8 : Shared} {zs : List V}, Inv Xc ([] ++ pinsAt fp s5.heap) σ8 H8 s8 → (∃ m', m' < n ∧ W (i + 1) m' zs σ8 H8) → ∃ m, m < n ∧ ∃ i ys σ' H', Inv Xc [] σ' H' s8 ∧ tn i s8.heap ∧ (∀ b ∈ fp, H' b = none) ∧ W i m ys σ' H' := fun {σ8 H8 s8 zs} I8 ⟨m', hm, w8⟩ => by
        refine ⟨m', hm, i + 1, zs, σ8, H8, I8.unpinned, T.keep _ _ _ st5 fun b hb o e => (I8.pin (b, o) (List.mem_append_right _ (List.mem_append_right _ (mem_pinsAt hb e)))).1, fun b hb => ?_, w8⟩
        obtain ⟨o, e, d⟩ := T.obj _ _ st5 b hb
        exact (I8.pin (b, o) (List.mem_append_right _ (List.mem_append_right _ (mem_pinsAt hb e)))).2.1
      cases b with
      | false =>
        rw [if_neg Bool.false_ne_true] at q7 ⊢
        exact again I7 q7
      | true =>
        rw [if_pos rfl] at q7 ⊢
        have a3 := he' _ s7 σ6 H7 _ I7 q7
        rw [eP, eW, eA, eE, ex] at a3
        refine thn a3 fun v s8 ⟨y, H8, I8, r8, q1, q2, q3⟩ => ?_
        have a4 := mt_append (X := Xc) _ s8 σ6 H8 (.ref s.heap.objs.size) [y] (.ref s.heap.objs.size) [v] (fun _ H' => ∃ m', m' < n ∧ W (i + 1) m' (ys ++ [y]) σ6 H') I8 rfl (.cons r8 .nil) ⟨_, ys, y, rfl, rfl, q1, q2, q3⟩
        rw [eP, eW, eA, ex] at a4
        exact thn a4 fun _ s9 ⟨_, H9, I9, _, q9⟩ => again I9 q9
  exact codeAny_compStart_list (loop _ rfl) (T.self X.A 0 _ _ _ st1 (loop _ rfl))
theorem pe_comp (co : CompOk X scope N cap) (hcalm : X.calm = true) (hit : PI X tg iter wi)
    (hg : ∀ C fp s0 H0, PG (cxComp X scope N C fp s0 H0) tg g) (hi : ∀ C fp s0 H0, PIfs (cxComp X scope N C fp s0 H0) ifs tt) (he : ∀ C fp s0 H0, PE (cxComp X scope N C fp s0 H0) elt te)
    (hs : ∀ x, foldedSetIterable iter X.env x = pure x := by intro _; rfl) : PE X (.ListComp elt [⟨tg, iter, ifs, 0⟩] scope pos) (tComp cap wi g tt te) := by
  intro pins s σ H Q I h
  rw [eval_ListComp]
  refine wpAny_comprehension_free (use := none) rfl hs (closure_eq (co.cells I.ok)) co.kind co.names ?_
  refine thn (hit pins s σ H _ I h) fun v s1 h1 => thn h1 fun itv s2 h2 => ?_
  obtain ⟨it, fp, tn, J, H2, e, I2, T, st2, f2, w⟩ := h2
  subst e
  refine comp_run (RR := fun acc C => compPost (model X.prog X.w) X.A X.xe none (EP X pins σ Q) acc C) co hcalm I2 T st2 f2 (fun C => hg C fp) (fun C => hi C fp) (fun C => he C fp) w fun H' s' σ' J' q => ?_
  obtain ⟨m, hn, _⟩ := J'.loc
  exact ⟨m, hn, fun h' hs' => ⟨.ref _, H', comp_back I2 f2 J' hs', rfl, q⟩⟩
theorem ps_setComp {i : Nat} {y : Str} {py spos : Pos} (co : CompOk X scope N cap) (hcalm : X.calm = true) (hit : PI X tg iter wi)
    (hg : ∀ C fp s0 H0, PG (cxComp X scope N C fp s0 H0) tg g) (hi : ∀ C fp s0 H0, PIfs (cxComp X scope N C fp s0 H0) ifs tt) (he : ∀ C fp s0 H0, PE (cxComp X scope N C fp s0 H0) elt te)
    (hN : X.N.Nodup) (hy : X.N[i]? = some y) (hx : Loc X.env.scope y) (hsw : swapsWith (.ListComp elt [⟨tg, iter, ifs, 0⟩] scope pos) (some (.Name y py)) spos.line X.env = pure true)
    (hf : X.fn y = true ∨ X.env.scope.names.lookup y = some .local := by first | exact .inl rfl | exact .inr rfl | assumption)
    (hs : ∀ x, foldedSetIterable iter X.env x = pure x := by intro _; rfl) : PS X (.Assign [.Name y py] (.ListComp elt [⟨tg, iter, ifs, 0⟩] scope pos) spos) (tAsg (tComp cap wi g tt te) (gName i)) := by
  intro pins s σ H D I h
  rw [exec_Assign_Name_used _ _ _ _ hsw]
  refine wpAny_bind (wpAny_standAt (wpAny_bind ?_))
  show wpAny _ _ (do let _ ← comprehension (.ListComp elt [⟨tg, iter, ifs, 0⟩] scope pos) scope X.env _ (newList []) false (eval iter X.env) (some (assign (.Name y py) X.env))) _ _ s
  refine wpAny_bind (wpAny_mono (wpAny_comprehension_free (use := some (assign (.Name y py) X.env)) (Q := fun _ s' => SP X pins D .next s') rfl hs (closure_eq (co.cells I.ok)) co.kind co.names ?_) (fun _ s' hq => wpAny_pure (wpAny_pure hq)) fun _ _ e => e)
  refine thn (hit pins s σ H _ I h) fun v s1 h1 => thn h1 fun itv s2 h2 => ?_
  obtain ⟨it, fp, tn, J, H2, e, I2, T, st2, f2, w⟩ := h2
  subst e
  refine comp_run (Q := fun v H1 => gName i v σ H1 D.nx) (RR := fun acc C => compPost (model X.prog X.w) X.A X.xe (some (assign (.Name y py) X.env)) (fun _ s' => SP X pins D .next s') acc C) co hcalm I2 T st2 f2 (fun C => hg C fp) (fun C => hi C fp) (fun C => he C fp) w fun H' s' σ' J' q => ?_
  obtain ⟨m, hn, _⟩ := J'.loc
  have B := comp_back (h2 := s'.heap) I2 f2 J' (Heap.SameBut.refl ..)
  show wpAny _ _ (assign (.Name y py) X.env (.ref s2.heap.objs.size)) _ _ _
  have hnC : H' (s2.heap.objs.size + 1) = none := J'.free
  have hCL : s2.heap.objs.size + 1 ≠ X.env.locals := Nat.ne_of_gt (Nat.lt_succ_of_lt I2.lt)
  have hCc : ∀ x c, X.env.cells.lookup x = some c → c ≠ s2.heap.objs.size + 1 := fun x c e z => by
    obtain ⟨v, q'⟩ := I2.cell x c e
    have := q'.lt
    rw [z] at this
    exact absurd this (Nat.not_lt.mpr (Nat.le_succ _))
  refine wpAny_assign_Name (store_ok2 (s := { s' with heap := s'.heap }) B hN hy hx (v := .ref s2.heap.objs.size) rfl (fun s3 I3 ⟨a, hsb, ha⟩ => ?_) hf)
  have hCa : s2.heap.objs.size + 1 ≠ a := by
    rcases ha with z | z
    · rw [z]; exact hCL
    · exact fun e => hCc y a z e.symm
  refine ⟨m, hn.sameBut hsb hCa, fun h' hs' => ?_⟩
  refine ⟨_, H', I3.turned (t' := s3.toks) (it := s2.heap.objs.size + 1) (fun b o hb e => (hs'.2 b hb).trans e) hnC hCL (.inr (Nat.le_succ_of_le I2.sz)) hCc fun p hp z => ?_, q⟩
  have := Heap.lt_size (I2.pin p hp).1
  rw [z] at this
  exact absurd this (Nat.not_lt.mpr (Nat.le_succ _))
end
end L2
end
section
set_option Elab.async false
set_option linter.all false
set_option maxRecDepth 100000
set_option maxHeartbeats 4000000
namespace L2
open PySem PySem.Spec PyProof.Rows
structure XS (P : Program) (w : World) (outer : List Env) (H : Hp) (s : Shared) (e : Addr) (cls : Value) (H' : Hp) (s' : Shared) : Prop where
  os : s'.os = s.os
  bare : AllBare s'.gens
  fly : ∃ (B : Heap) (a0 : Value), Heap.FlyingW B outer e cls a0 s'.heap ∧ HOk P w H' B ∧ (∀ b o, s.heap.get? b = some o → H b = none → b ∉ frs outer → B.get? b = some o) ∧
    ∀ b o, s.heap.get? b = some o → b ∉ frs outer → ∃ o', B.get? b = some o'
  slot : ∀ b o, s.heap.get? b = some o → H b = none → b ∈ frs outer → ∃ sl, s'.heap.get? b = some { o with slots := sl }
  free : ∀ b o, s.heap.get? b = some o → H b = none → H' b = none
  tups : ∀ b xs, H b = some (.tup xs) → H' b = some (.tup xs)
  frzs : ∀ b o u, H b = some (.frz o u) → H' b = some (.frz o u)
  tbls : ∀ b ps, H b = some (.tbl ps) → ∃ more, H' b = some (.tbl (ps ++ more))
def CXo (P : Program) (w : World) : CXT := fun outer H s E ev s' => ∃ (e : Addr) (cls : Value) (H' : Hp), ev = .ref e ∧ XS P w outer H s e cls H' s' ∧ E cls none H'
theorem XS.un {P : Program} {w : World} {outer : List Env} {H H' : Hp} {s s' : Shared} {e : Addr} {cls : Value} (x : XS P w outer H s e cls H' s') : Un (frs outer) [] H H' s.heap s'.heap := by
  obtain ⟨B, a0, f, hok, k1, k2⟩ := x.fly
  refine ⟨fun b o q n hb _ => f.1 b o (k1 b o q n hb), fun b o q n hb _ => x.slot b o q n hb, fun b o q n _ => x.free b o q n, fun b o q _ => ?_, x.tups, x.frzs, x.tbls⟩
  by_cases hb : b ∈ frs outer
  · obtain ⟨_, o', ho, _⟩ := f.2.2.1.mem hb
    exact ⟨o', ho⟩
  · obtain ⟨o', ho⟩ := k2 b o q hb
    exact ⟨o', f.1 b o' ho⟩
theorem XS.hok {P : Program} {w : World} {outer : List Env} {H H' : Hp} {s s' : Shared} {e : Addr} {cls : Value} (x : XS P w outer H s e cls H' s') : HOk P w H' s'.heap := by
  obtain ⟨B, a0, f, hok, k1, k2⟩ := x.fly
  exact hok.kept fun b o q => f.1 b o q
theorem pass00 {P : Program} {w : World} {X : Cx} : Passes (CXo P w) X E0 := fun _ _ _ _ _ _ _ h => by
  obtain ⟨_, _, _, _, _, z⟩ := h
  exact z.elim
theorem pass_on {P : Program} {w : World} {K : PySem.W.Frag} {mg : Str → Option Value} {base : Heap} {N : List Str} {qual : Str} {scope : Scope} {f : Addr} {cd : Value} {A : Around} {outer : List Env} {s : Shared} {H : Hp} {E : XK} :
    Passes (CXo P w) (cxOf (CXo P w) P w K mg base N qual scope f cd A outer s H E) E := by
  intro pins σ H1 s1 ev s2 I h
  obtain ⟨e, cls, H2, rfl, x, q⟩ := h
  obtain ⟨B, a0, fl, hok, k1, k2⟩ := x.fly
  have hfr : (A.deeper (envOfC qual scope s.heap.objs.size f cd)).frames = some (envOfC qual scope s.heap.objs.size f cd :: outer) := I.ok.frames
  show wpAny (model P w) (A.deeper (envOfC qual scope s.heap.objs.size f cd)) (leaving (envOfC qual scope s.heap.objs.size f cd) (.ref e)) _ _ s2
  refine wpAny_leaves_onW hfr rfl fl fun h' fl' up => ?_
  have hL : ∀ b o, s.heap.get? b = some o → b ≠ s.heap.objs.size := fun b o q => Nat.ne_of_lt (Heap.lt_size q)
  have nf : ∀ b o, s.heap.get? b = some o → b ∉ frs outer → b ∉ frs (envOfC qual scope s.heap.objs.size f cd :: outer) := fun b o q hb hm => by
    unfold frs at hm
    rw [List.filterMap_cons] at hm
    rcases List.mem_cons.mp hm with z | z
    · exact hL b o q z
    · exact hb z
  have nx : ∀ b : Addr, b ∉ ([] : List Addr) := fun b z => by simp at z
  refine ⟨e, cls, H2, rfl, ⟨x.os.trans I.os, x.bare, ⟨B, a0, fl', hok, fun b o q n hb => ?_, fun b o q hb => ?_⟩, fun b o q n hb => ?_, fun b o q n => ?_, fun b xs q => x.tups b xs (I.base.tups b xs q), fun b o u q => x.frzs b o u (I.base.frzs b o u q), fun b ps q => ?_⟩, q⟩
  · exact k1 b o (I.base.keep b o q n hb (nx b)) (I.base.free b o q n (nx b)) (nf b o q hb)
  · obtain ⟨o1, q1⟩ := I.base.there b o q (nx b)
    exact k2 b o1 q1 (nf b o q hb)
  · obtain ⟨sl, q1⟩ := I.base.slot b o q n hb (nx b)
    have hm : b ∈ frs (envOfC qual scope s.heap.objs.size f cd :: outer) := by
      unfold frs
      rw [List.filterMap_cons]
      exact List.mem_cons_of_mem _ hb
    obtain ⟨sl2, q2⟩ := x.slot b _ q1 (I.base.free b o q n (nx b)) hm
    obtain ⟨_, o3, q3, hd3⟩ := fl.2.2.1.mem hm
    rw [q2] at q3
    cases q3
    obtain ⟨sl3, q4⟩ := up b _ q2 hd3
    exact ⟨sl3, q4⟩
  · obtain ⟨o1, q1⟩ := I.base.there b o q (nx b)
    exact x.free b o1 q1 (I.base.free b o q n (nx b))
  · obtain ⟨m1, e1⟩ := I.base.tbls b ps q
    obtain ⟨m2, e2⟩ := x.tbls b _ e1
    exact ⟨m1 ++ m2, by rw [e2, Array.append_assoc]⟩
structure Exn (K : PySem.W.Frag) (mg : Str → Option Value) (x : Str) (C : Addr) : Prop where
  name : mg x = some (.ref C)
  exc : PySem.W.excIn K C [.type "ValueError", .type "Exception", .type "BaseException", .type "object"] "ValueError.__new__" = true
theorem Exn.own {K : PySem.W.Frag} {mg : Str → Option Value} {x : Str} {C : Addr} {h : Heap} (X : Exn K mg x C) (KX : K.In h) : OwnCls x C [.type "ValueError", .type "Exception", .type "BaseException", .type "object"] "ValueError.__new__" mg h := by
  have q := X.exc
  refine ⟨X.name, ?_⟩
  unfold PySem.W.excIn at q
  split at q
  · rename_i dd cd sl ho
    split at q
    · rename_i C' bm k0 k1 k2 k3 n k5 hm hs
      simp only [Bool.and_eq_true, beq_iff_eq, Bool.not_eq_true'] at q
      obtain ⟨⟨⟨⟨⟨rfl, rfl⟩, hdel⟩, ht⟩, hok⟩, hni⟩ := q
      obtain ⟨nm, bs, mro, ns, qn, hd, sn, sub, ab, col, del⟩ := cd
      dsimp only at hm hdel hok hni
      subst hm hdel
      have hsl : sl = #[k0, k1, k2, k3, some (.builtin "ValueError.__new__"), k5] := by
        obtain ⟨l⟩ := sl
        simp only at hs
        rw [hs]
      subst hsl
      exact ⟨bm, ns, nm, qn, bs, hd, sn, sub, ab, col, dd, k0, k1, k2, k3, k5, _, KX _ _ ho, .of_isNs (PySem.W.isNs_of_in KX hok), PySem.W.nsMap_none_of_in KX hok hni, PySem.W.tail_of_in KX ht⟩
    · cases q
  · cases q
def tRaise (C : Addr) (E : XK) (ta : TA) : TS := fun D σ H => ta σ H fun vs H1 => vs.length ≤ sizeLine ∧ E (.ref C) none H1
theorem ps_raise {P : Program} {w : World} {K : PySem.W.Frag} {mg : Str → Option Value} {base : Heap} {N : List Str} {qual : Str} {scope : Scope} {f : Addr} {cd : Value} {A : Around} {outer : List Env} {s : Shared} {H : Hp} {E : XK}
    {x : Str} {C : Addr} {np cpos pos : Pos} {e₀ : Expr} {rest : List Expr} {ta : TA} (M : Exn K mg x C) (hh : (A.deeper (envOfC qual scope s.heap.objs.size f cd)).handled = none)
    (hg : Gl (cxOf (CXo P w) P w K mg base N qual scope f cd A outer s H E) x) (ha : PA (cxOf (CXo P w) P w K mg base N qual scope f cd A outer s H E) (e₀ :: rest) ta)
    (hd : (x == ("__debug__" : Str)) = false := by decide)
    (he : starEach (e₀ :: rest) (envOfC qual scope s.heap.objs.size f cd) = (false, eval e₀ (envOfC qual scope s.heap.objs.size f cd)) :: starEach rest (envOfC qual scope s.heap.objs.size f cd) := by rfl)
    (hpl : (backTo cpos (starEach rest (envOfC qual scope s.heap.objs.size f cd))).any (·.1) = false := by rfl) :
    PS (cxOf (CXo P w) P w K mg base N qual scope f cd A outer s H E) (.Raise (some (.Call (.Name x np) (e₀ :: rest) [] cpos)) none pos) (tRaise C E ta) := by
  intro pins s1 σ H1 D I h
  have O := M.own I.kIn
  obtain ⟨tl, Nn, nm, q, bs, hdct, sn, sub, ab, col, dd, k0, k1, k2, k3, k5, mN, hC, hN, hni, T⟩ := (M.own (I.ok.mod.kin)).obj
  have FB := PySem.F.excBase_ValueError
  have hplain : (backTo cpos (starEach (e₀ :: rest) (envOfC qual scope s.heap.objs.size f cd))).any (·.1) = false := by
    rw [he]; show (false || (backTo cpos (starEach rest (envOfC qual scope s.heap.objs.size f cd))).any (·.1)) = false; rw [hpl]; rfl
  refine wpAny_Raise_call_subT (C := C) (nm := nm) (q := q) (N := Nn) (bs := bs) (bm := tl) (hdct := hdct) (sn := sn) (sub := sub) (ab := ab) (col := col) (dd := dd) (k0 := k0) (k1 := k1) (k2 := k2) (k3 := k3) (k5 := k5)
    FB (mN := mN) (T.hasType FB.hasBase) hh hplain hni (ld_glob I hg M.name ⟨rfl, ?_⟩ hd)
  have hA := ha cpos pins s1 σ H1 _ I h
  have hA' := hA
  show wpAny (model P w) (A.deeper (envOfC qual scope s.heap.objs.size f cd)) (evalArgs (.ref C) true (backTo cpos (starEach (e₀ :: rest) (envOfC qual scope s.heap.objs.size f cd))) []) _ _ s1
  have hA2 : wpAny (model P w) (A.deeper (envOfC qual scope s.heap.objs.size f cd)) (spliced (backTo cpos (starEach (e₀ :: rest) (envOfC qual scope s.heap.objs.size f cd)))) (AP (cxOf (CXo P w) P w K mg base N qual scope f cd A outer s H E) pins σ _) _ s1 := hA
  rw [he] at hA2 ⊢
  refine Calls.evalArgs_plain (wpAny_mono hA2 (fun us s2 ⟨vs, H2, I2, r2, hlen, q2⟩ => ?_) fun _ _ y => y)
  refine ⟨rfl, by rw [← r2.length]; exact hlen, I2.bk _ _ hC, hN.keeps I2.bk, T.keeps I2.bk, fun h' e mk => ?_⟩
  have L0 : s.heap.objs.size < s2.heap.objs.size := I2.lt
  have hfr : (A.deeper (envOfC qual scope s.heap.objs.size f cd)).frames = some (envOfC qual scope s.heap.objs.size f cd :: outer) := I2.ok.frames
  have FF : s2.heap.FunFrames base (envOfC qual scope s.heap.objs.size f cd :: outer) := I2.stack
  have hin : ∀ env ∈ (envOfC qual scope s.heap.objs.size f cd :: outer), ∀ b, env.frame = some b → b ∈ frs (envOfC qual scope s.heap.objs.size f cd :: outer) := fun env he b hb => List.mem_filterMap.mpr ⟨env, he, hb⟩
  show wpAny (model P w) (A.deeper (envOfC qual scope s.heap.objs.size f cd)) (leaving (envOfC qual scope s.heap.objs.size f cd) (.ref e)) _ _ { s2 with heap := h' }
  refine wpAny_leaves_madeW (base := PySem.W.hideAll s2.heap (frs (envOfC qual scope s.heap.objs.size f cd :: outer))) hfr rfl (fun b o q => PySem.W.of_hideAll _ q) (PySem.W.funFrames_hide FF hin) mk fun h2 t x1 x2 x3 x4 => ?_
  have nx : ∀ b : Addr, b ∉ ([] : List Addr) := fun b z => by simp at z
  have hL : ∀ b o, s.heap.get? b = some o → b ≠ s.heap.objs.size := fun b o q => Nat.ne_of_lt (Heap.lt_size q)
  have nf : ∀ b o, s.heap.get? b = some o → b ∉ frs outer → b ∉ frs (envOfC qual scope s.heap.objs.size f cd :: outer) := fun b o q hb hm => by
    unfold frs at hm
    rw [List.filterMap_cons] at hm
    rcases List.mem_cons.mp hm with z | z
    · exact hL b o q z
    · exact hb z
  have trkf : ∀ b o, H2 b = some o → b ∉ frs (envOfC qual scope s.heap.objs.size f cd :: outer) := fun b o q hm => by
    have := I2.stkFree b hm
    rw [q] at this
    cases this
  have ownf : ∀ b y, H2 b = some (.own y) → b ∉ frs (envOfC qual scope s.heap.objs.size f cd :: outer) := fun b y q => trkf b _ q
  refine ⟨e, .ref C, H2, rfl, ⟨I2.os, I2.bare, ⟨_, .ref t, x1, fun b o q => ?_, fun b o q n hb => ?_, fun b o q hb => ?_⟩, fun b o q n hb => ?_, fun b o q n => I2.base.free b o q n (nx b), I2.base.tups, I2.base.frzs, I2.base.tbls⟩, q2⟩
  · refine (I2.hok b o q).stay (fun c v hc z => PySem.W.hideAll_get _ z ?_) (fun _ z => z) fun _ _ z => z
    rcases hc with rfl | hc
    · exact trkf _ _ q
    · exact trkf _ _ hc
  · exact PySem.W.hideAll_get _ (I2.base.keep b o q n hb (nx b)) (nf b o q hb)
  · obtain ⟨o', q'⟩ := I2.base.there b o q (nx b)
    exact ⟨o', PySem.W.hideAll_get _ q' (nf b o q hb)⟩
  · obtain ⟨sl, q1⟩ := I2.base.slot b o q n hb (nx b)
    have hm : b ∈ frs (envOfC qual scope s.heap.objs.size f cd :: outer) := by
      unfold frs
      rw [List.filterMap_cons]
      exact List.mem_cons_of_mem _ hb
    obtain ⟨_, o3, q3, hd3⟩ := FF.mem hm
    rw [q1] at q3
    cases q3
    obtain ⟨sl3, q4⟩ := x4 b _ (mk.keeps _ _ q1) hd3
    exact ⟨sl3, q4⟩
end L2
end
section
set_option Elab.async false
set_option linter.all false
set_option maxRecDepth 100000
set_option maxHeartbeats 4000000
namespace L2
open PySem PySem.Spec PyProof.Rows
def excO (e C : Addr) : HO := .ext fun h => ∃ ob vs, h.get? e = some ob ∧ ob.cls = .ref C ∧ ob.data = .fields vs
abbrev Cx.tr (X : Cx) (pn : List (Addr × Obj)) (E : Value → Shared → Prop) : Cx := { X with pn := pn, xe := E }
def PassesS (CX : CXT) (X : Cx) (Ex : St → XK) : Prop := ∀ (pins : List (Addr × Obj)) (σ : St) (H : Hp) (s : Shared) (e : Value) (s' : Shared), Inv X pins σ H s → CX X.stack H s (Ex σ) e s' → X.xe e s'
def tCallS (sp : Sp) (dvs : List V) (Ex : St → XK) (t : TA) : TE := fun σ H Q => t σ H fun vs H1 => sp (vs ++ dvs) H1 Q (Ex σ)
def tMakeS (C : Addr) (sp : Sp) (dvs : List V) (Ex : St → XK) (t : TA) : TE := fun σ H Q => t σ H fun vs H1 => ∀ x dx, H1 x = none → H1 dx = none → dx ≠ x →
  sp (.ref x :: (vs ++ dvs)) (upd (upd H1 dx (.own x)) x (.ins C dx [])) (fun v H2 => v = .non ∧ Q (.ref x) H2) (Ex σ)
def tMethS (C : Addr) (m : Str) (sp : Sp) (dvs : List V) (Ex : St → XK) (ta : TE) (t : TA) : TE := fun σ H Q => ta σ H fun x H1 => ∃ a dx fs, x = .ref a ∧ H1 a = some (.ins C dx fs) ∧ fs.lookup m = none ∧
  t σ H1 fun vs H2 => sp (x :: (vs ++ dvs)) H2 Q (Ex σ)
section
variable {X : Cx} {CX : CXT} {k : Nat} {f C : Addr} {fd : FuncData} {ps : List Str} {sp : Sp} {dvs : List V} {ds : List Value} {Ex : St → XK} {x m : Str} {p pos apos : Pos} {e o : Expr} {es : List Expr} {ta : TE} {t : TA}
theorem run_fnS {pins : List (Addr × Obj)} {σ : St} {H : Hp} {s : Shared} {Q : VK} {us : List Value} {vs : List V} (F : FnOk X.prog X.w X.K X.mg X.base CX k f fd ps sp) (hr : Room k X.A) (hb : Binds X.K fd ps ds) (hd : Vals dvs ds) (hx : PassesS CX X Ex)
    (I : Inv X pins σ H s) (r : Vals vs us) (h : sp (vs ++ dvs) H Q (Ex σ)) : wpAny (model X.prog X.w) X.A (call (.ref f) us) (EP X pins σ Q) X.xe s := by
  have r2 : Vals (vs ++ dvs) (us ++ ds) := r.append hd
  have hl : (us ++ ds).length = ps.length := by rw [← r2.length]; exact F.len _ _ _ _ h
  refine wpAny_call (codeAny_mono (F.run X.A X.stack s H ⟨us, []⟩ (us ++ ds) (vs ++ dvs) Q (Ex σ) hr I.env0 (hb s us I.kIn hl) r2 h) fun r s' hq => ?_)
  cases r with
  | error e => exact hx pins σ H s e s' I hq
  | ok fl =>
    cases fl with
    | ret u => exact I.after hq
    | next => exact False.elim hq
    | brk => exact False.elim hq
    | cont => exact False.elim hq
theorem pe_callS (F : FnOk X.prog X.w X.K X.mg X.base CX k f fd ps sp) (hr : Room k X.A) (hg : Gl X x) (hm : X.mg x = some (.ref f)) (hk : PySem.W.keepIn X.K (.ref f) = true) (hb : Binds X.K fd ps ds) (hd : Vals dvs ds) (hx : PassesS CX X Ex)
    (ha : PA X (e :: es) t) (hdb : (x == ("__debug__" : Str)) = false := by decide) (he : starEach (e :: es) X.env = (false, eval e X.env) :: starEach es X.env := by rfl) (hpl : (backTo pos (starEach es X.env)).any (·.1) = false := by rfl) :
    PE X (.Call (.Name x p) (e :: es) [] pos) (tCallS sp dvs Ex t) := by
  intro pins s σ H Q I h
  refine wpAny_Call_Name_kw (ld_glob I hg hm ?_ hdb)
  refine PySem.W.callWith_K (h₀ := X.base) I.ok.mod.kin hk (thn (ha pos pins s σ H _ I h) fun us s1 ⟨vs, H1, I1, r, q⟩ => ⟨I1.kIn, ?_⟩) he hpl
  exact run_fnS F hr hb hd hx I1 r q
theorem pe_methS {pl : Sem Bool} (he : PE X o ta) (c : Cls X.K C) (hm : Meth X.K C m f) (F : FnOk X.prog X.w X.K X.mg X.base CX k f fd ps sp) (hr : Room k X.A) (hb : Binds X.K fd ps ds) (hd : Vals dvs ds) (hx : PassesS CX X Ex) (ha : PA X (e :: es) t)
    (hst : starEach (e :: es) X.env = (false, eval e X.env) :: starEach es X.env := by rfl) (hpl : (backTo pos (starEach es X.env)).any (·.1) = false := by rfl)
    (ht : eval (.Call (.Attribute o m apos) (e :: es) [] pos) X.env = (do
      let ov ← eval o X.env
      standAt apos.atName
      let (f, first) ← holding [ov] (getMethod ov m pl)
      callWith pos f first (backTo pos (starEach (e :: es) X.env)) (backToKw pos (keywordEach [] X.env))) := by rfl) :
    PE X (.Call (.Attribute o m apos) (e :: es) [] pos) (tMethS C m sp dvs Ex ta t) := by
  intro pins s σ H Q I h
  refine PySem.W.methodCall_KW (pl := pl) (thn (he pins s σ H _ I h) fun u s1 ⟨x, H1, I1, rx, a, dx, fs, ex, ea, l, q⟩ => ?_) ht
  subst ex
  obtain rfl : u = Value.ref a := rx
  refine getmeth_ok I1 ea c hm l ?_
  refine PySem.W.callWith_K (first := [.ref a]) (h₀ := X.base) I.ok.mod.kin hm.kp (thn (ha pos pins s1 σ H1 _ I1 q) fun us s2 ⟨vs, H2, I2, r, q2⟩ => ⟨I2.kIn, ?_⟩) hst hpl
  exact run_fnS (us := .ref a :: us) (vs := .ref a :: vs) F hr hb hd hx I2 (.cons rfl r) q2
end
theorem XS.next {P : Program} {w : World} {outer : List Env} {H H' : Hp} {s s' : Shared} {e : Addr} {cls a0 : Value} {B h' : Heap} (x : XS P w outer H s e cls H' s')
    (f : Heap.FlyingW B outer e cls a0 s'.heap) (hok : HOk P w H' B) (k1 : ∀ b o, s.heap.get? b = some o → H b = none → b ∉ frs outer → B.get? b = some o) (k2 : ∀ b o, s.heap.get? b = some o → b ∉ frs outer → ∃ o', B.get? b = some o')
    (f' : Heap.FlyingW B outer e cls a0 h') (up : s'.heap.UpToSlots h') : XS P w outer H s e cls H' { s' with heap := h' } := by
  refine ⟨x.os, x.bare, ⟨B, a0, f', hok, k1, k2⟩, fun b o q n hb => ?_, x.free, x.tups, x.frzs, x.tbls⟩
  obtain ⟨sl, q1⟩ := x.slot b o q n hb
  obtain ⟨_, o3, q3, hd3⟩ := f.2.2.1.mem hb
  rw [q1] at q3
  cases q3
  obtain ⟨sl3, q4⟩ := up b _ q1 hd3
  exact ⟨sl3, q4⟩
theorem XS.caught {X : Cx} {pins : List (Addr × Obj)} {σ : St} {H H' : Hp} {s s' : Shared} {e C : Addr} (I : Inv X pins σ H s) (x : XS X.prog X.w X.stack H s e (.ref C) H' s') (hst : X.stack = X.env :: X.outer) (hdct : ∃ ob vs, s'.heap.get? e = some ob ∧ ob.cls = .ref C ∧ ob.data = .fields vs) :
    H' e = none ∧ Inv X pins σ (upd H' e (excO e C)) s' := by
  obtain ⟨B, a0, f, hok, k1, k2⟩ := id x.fly
  have hBe : B.get? e = none := f.2.1
  have hen : H' e = none := by
    cases q : H' e with
    | none => rfl
    | some u =>
      have h1 := hok.lt q
      have : ∃ o, B.get? e = some o := by
        have z := hok e u q
        cases u with
        | lst xs => obtain ⟨_, _, _, _, z⟩ := z; exact ⟨_, z⟩
        | tup xs => obtain ⟨_, _, _, o, z, _⟩ := z; exact ⟨_, z⟩
        | dK kvs => obtain ⟨_, _, _, _, o, _, _, z, _⟩ := z; exact ⟨_, z⟩
        | dT kvs => obtain ⟨_, _, _, _, o, _, _, z, _⟩ := z; exact ⟨_, z⟩
        | set S n => obtain ⟨o, _, _, _, z, _⟩ := z; exact ⟨_, z⟩
        | ins C dx fs => obtain ⟨_, _, _, z, _⟩ := z; exact ⟨_, z⟩
        | own y => obtain ⟨_, z⟩ := z; exact ⟨_, z⟩
        | xd fs => obtain ⟨_, ⟨_, _, _, z, _⟩, _⟩ := z; exact ⟨_, z⟩
        | rng lo hi => obtain ⟨_, _, _, z⟩ := z; exact ⟨_, z⟩
        | frz ob u => obtain ⟨z, _⟩ := z; exact ⟨_, z⟩
        | tbl ps => exact ⟨_, (show B.get? e = some _ from z)⟩
        | met f y => exact ⟨_, (show B.get? e = some _ from z)⟩
        | ext φ => obtain ⟨_, ⟨_, z⟩, _⟩ := z; exact ⟨_, z⟩
      obtain ⟨o, z⟩ := this
      rw [hBe] at z
      cases z
  obtain ⟨ob, vs, he, hc, hd⟩ := hdct
  have hnf : e ∉ frs X.stack := fun hm => by
    obtain ⟨_, o3, q3, hd3⟩ := f.2.2.1.mem hm
    rw [he] at q3
    cases q3
    exact hd3 vs hd
  have new : ∀ b o, s.heap.get? b = some o → b ≠ e := fun b o q z => by
    subst z
    obtain ⟨o', q'⟩ := k2 b o q hnf
    rw [hBe] at q'
    cases q'
  have trk : ∀ b o, H b = some o → b ≠ e := fun b o q => by
    have hlt : ∃ o', s.heap.get? b = some o' := by
      have z := I.hok b o q
      cases o with
      | lst xs => obtain ⟨_, _, _, _, z⟩ := z; exact ⟨_, z⟩
      | tup xs => obtain ⟨_, _, _, o, z, _⟩ := z; exact ⟨_, z⟩
      | dK kvs => obtain ⟨_, _, _, _, o, _, _, z, _⟩ := z; exact ⟨_, z⟩
      | dT kvs => obtain ⟨_, _, _, _, o, _, _, z, _⟩ := z; exact ⟨_, z⟩
      | set S n => obtain ⟨o, _, _, _, z, _⟩ := z; exact ⟨_, z⟩
      | ins C dx fs => obtain ⟨_, _, _, z, _⟩ := z; exact ⟨_, z⟩
      | own y => obtain ⟨_, z⟩ := z; exact ⟨_, z⟩
      | xd fs => obtain ⟨_, ⟨_, _, _, z, _⟩, _⟩ := z; exact ⟨_, z⟩
      | rng lo hi => obtain ⟨_, _, _, z⟩ := z; exact ⟨_, z⟩
      | frz ob u => obtain ⟨z, _⟩ := z; exact ⟨_, z⟩
      | tbl ps => exact ⟨_, (show s.heap.get? b = some _ from z)⟩
      | met f y => exact ⟨_, (show s.heap.get? b = some _ from z)⟩
      | ext φ => obtain ⟨_, ⟨_, z⟩, _⟩ := z; exact ⟨_, z⟩
    obtain ⟨o', z⟩ := hlt
    exact new b o' z
  have u := x.un
  refine ⟨hen, I.call' (ch := []) x.os ⟨u.keep, u.slot, fun b o q n z => ?_, u.there, fun b xs q => ?_, fun b o v q => ?_, fun b ps q => ?_⟩ (fun b o q => ?_) x.bare (fun b z => absurd z (by simp))⟩
  · rw [upd_ne (new b o q)]; exact u.free b o q n z
  · rw [upd_ne (trk b _ q)]; exact u.tups b xs q
  · rw [upd_ne (trk b _ q)]; exact u.frzs b o v q
  · obtain ⟨m, q'⟩ := u.tbls b ps q
    exact ⟨m, by rw [upd_ne (trk b _ q)]; exact q'⟩
  · have hok' := x.hok
    by_cases hb : b = e
    · subst hb
      rw [upd_same] at q
      cases q
      refine ⟨⟨ob, vs, he, hc, hd⟩, ⟨ob, he⟩, fun h1 h2 p k => ?_⟩
      obtain ⟨ob', vs', z1, z2, z3⟩ := p
      exact ⟨ob', vs', k _ z1, z2, z3⟩
    · rw [upd_ne hb] at q
      refine (hok' b o q).stay (fun _ _ _ z => z) (fun c z => ?_) fun c xs z => ?_
      · rw [upd_ne (fun zz => by rw [zz, hen] at z; cases z)]; exact z
      · rw [upd_ne (fun zz => by rw [zz, hen] at z; cases z)]; exact z
def ExTry (K : PySem.W.Frag) (Cb : Addr) (iy iN : Nat) (nx : St → Hp → Prop) : St → XK := fun σ cls _ H' => ∃ C, cls = .ref C ∧ PySem.W.exmOne K (.ref C) (.ref Cb) = some true ∧
  ∀ e, H' e = none → nx ((σ.set iy (some (.ref e))).set iN none) (upd H' e (excO e C))
section
variable {X : Cx}
theorem mark_frames (A : Around) (h : Option Value) : (A.mark h).frames = A.frames := rfl
def tTry (tb : TS) : TS := tb
theorem ps_try {x n y : Str} {Cb : Addr} {iy iN : Nat} {body : List Stmt} {np py pn2 apos hpos pos : Pos} {tb : (St → XK) → TS} {P : Program} {w : World} (eP : X.prog = P) (eW : X.w = w)
    (hst : X.stack = X.env :: X.outer) (hfr : X.env.frame = some X.env.locals) (hcalm : X.calm = true) (hN : X.N.Nodup)
    (hx : Gl X x) (hm : X.mg x = some (.ref Cb)) (hy : X.N[iy]? = some y) (ly : X.env.scope.names.lookup y = some .local) (hn : X.N[iN]? = some n) (ln : X.env.scope.names.lookup n = some .local)
    (hb : ∀ (pn : List (Addr × Obj)) (Et : Value → Shared → Prop) (Ex : St → XK), PassesS (CXo P w) (X.tr pn Et) Ex → PSs (X.tr pn Et) body (tb Ex))
    (hswap : swapsWith (.Name n pn2) (some (.Name y py)) apos.line X.env = pure false := by rfl) (hdx : (x == ("__debug__" : Str)) = false := by decide) (hdn : (n == ("__debug__" : Str)) = false := by decide) :
    PS X (.Try body [.ExceptHandler (some (.Name x np)) (some n) [.Assign [.Name y py] (.Name n pn2) apos] hpos] [] [] pos) (fun D σ H => tb (ExTry X.K Cb iy iN D.nx) D σ H) := by
  subst eP eW
  intro pins s σ H D I h
  refine wpAny_Try_except ?_
  have hkind := I.ok.kind
  have I0 : Inv (X.tr (X.pn ++ pins) (fun e s₁ => wpAny (model X.prog X.w) X.A (noteFrame e X.env) (fun _ s₂ => wpAny (model X.prog X.w) X.A (setFlight e none) (fun _ s₃ => wpAny (model X.prog X.w) X.A (handleBy e X.env [.ExceptHandler (some (.Name x np)) (some n) [.Assign [.Name y py] (.Name n pn2) apos] hpos]) (SP X pins D) X.xe s₃) X.xe s₂) X.xe s₁)) [] σ H s :=
    ⟨⟨I.ok.mod, I.ok.kind, I.ok.glob, I.ok.blt, I.ok.above, I.ok.inj, I.ok.has, I.ok.cab, I.ok.hd, I.ok.frames, I.ok.stk, I.ok.exf, I.ok.bs, I.ok.bsz, I.ok.noex, I.ok.exfs, I.ok.funs, I.ok.frf⟩, I.os, I.bare, I.base, I.loc, I.cell, I.free, I.freeC, fun p hp => I.pin p (by simpa using hp), I.hok, I.len⟩
  have back : ∀ {pins' : List (Addr × Obj)} {σ' : St} {H' : Hp} {s' : Shared} {Et : Value → Shared → Prop}, Inv (X.tr (X.pn ++ pins) Et) pins' σ' H' s' → Inv X pins σ' H' s' := fun {pins' σ' H' s' Et} J =>
    ⟨⟨J.ok.mod, J.ok.kind, J.ok.glob, J.ok.blt, J.ok.above, J.ok.inj, J.ok.has, J.ok.cab, J.ok.hd, J.ok.frames, J.ok.stk, J.ok.exf, J.ok.bs, J.ok.bsz, J.ok.noex, J.ok.exfs, J.ok.funs, J.ok.frf⟩, J.os, J.bare, J.base, J.loc, J.cell, J.free, J.freeC, fun p hp => J.pin p (List.mem_append_left _ hp), J.hok, J.len⟩
  refine wpAny_mono (hb (X.pn ++ pins) _ (ExTry X.K Cb iy iN D.nx) ?_ [] s σ H D I0 h) (fun f s1 q => ?_) fun _ _ z => z
  ·
    intro pins' σ1 H1 s1 ev s2 J1 q
    obtain ⟨e, cls, H2, rfl, x2, C, rfl, hex, qn⟩ := q
    have J1 := back J1
    obtain ⟨B, a0, fl, hok, k1, k2⟩ := id x2.fly
    have hfs : X.A.frames = some (X.env :: X.outer) := by rw [J1.ok.frames, hst]
    rw [show (X.tr (X.pn ++ pins) _).stack = X.env :: X.outer from hst] at fl k1 k2 x2
    show wpAny (model X.prog X.w) X.A (noteFrame (.ref e) X.env) _ _ s2
    refine wpAny_looks_onW hfs hfr fl fun h3 held up3 => ?_
    refine wpAny_landsW held fun h4 fl4 up4 => ?_
    have x4 := x2.next fl hok k1 k2 fl4 (up3.trans up4)
    have x4' : XS X.prog X.w X.stack H1 s1 e (.ref C) H2 { s2 with heap := h4 } := by rw [hst]; exact x4
    obtain ⟨oe, vs, he, hc, hd, _⟩ := fl4.first
    obtain ⟨_, J4⟩ := XS.caught J1 x4' hst ⟨oe, vs, he, hc, hd⟩
    refine wpAny_handleBy_cons (codeAny_handlers_test (Calls.Name_function_global J4.ok.kind hx (Calls.loadGlobal_global (by rw [J4.ok.glob]; exact J4.mod.glob.keeps J4.bk) hm ?_) hdx)) (by intro q; cases q)
    have LT : PySem.W.Looks (model X.prog X.w) h4 (typeOf (.ref e)) (.ref C) := by
      rw [← hc]
      exact (PySem.W.Looks.ld he).andThen .now
    refine PySem.W.Looks.here (PySem.W.exm_one J4.kIn LT hex) ?_
    rw [if_pos rfl]
    refine codeAny_handlers_suite_as ?_
    refine lands_againW fl4 fun h5 fl5 up5 => ?_
    have x5 := x4.next fl4 hok k1 k2 fl5 up5
    have x5' : XS X.prog X.w X.stack H1 s1 e (.ref C) H2 { s2 with heap := h5 } := by rw [hst]; exact x5
    obtain ⟨oe5, vs5, he5, hc5, hd5, _⟩ := fl5.first
    obtain ⟨hen, J5⟩ := XS.caught J1 x5' hst ⟨oe5, vs5, he5, hc5, hd5⟩
    refine store_ok J5 hN hn (.inl ln) (v := .ref e) rfl (fun s6 J6 => ?_) (.inr ln)
    refine wpAny_execs_cons (wpAny_Assign_Name ?_ hswap)
    obtain ⟨m6, hn6, hl6⟩ := J6.loc
    have hlen : iN < σ1.length := by rw [J1.len]; exact (List.getElem?_eq_some_iff.mp hn).1
    obtain ⟨u6, ru6, lk6⟩ := hl6 iN n (.ref e) hn (by rw [List.getElem?_set_self hlen]) (.inl ln)
    cases ru6
    have hm6 : m6 n = some (.ref e) := by
      rcases lk6 with ⟨_, z⟩ | ⟨k, _⟩
      · exact z
      · have ln' : X.env.kindOf n = some .local := ln
        rcases k with k | k <;> (rw [ln'] at k; cases k)
    refine wpAny_Name (wpAny_loadName_local hkind ln hn6 hm6 ?_) hdn
    refine store_ok J6 hN hy (.inl ly) (v := .ref e) rfl (fun s7 J7 => ?_) (.inr ly)
    refine wpAny_execs_nil ?_
    obtain ⟨m7, hn7, hl7⟩ := id J7.loc
    refine wpAny_nameGoes_keeps ln hn7 (by rw [hkind]; rfl) fun h8 v8 hn8 hs8 => ?_
    have J8 : Inv X pins ((σ1.set iy (some (.ref e))).set iN none) (upd H2 e (excO e C)) { s7 with heap := h8, toks := s7.toks + 1 } := by
      have K7 := J7.weak (σ' := (σ1.set iy (some (.ref e))).set iN none) (by simp) (fun i v hv => by
        by_cases hi : i = iN
        · subst hi
          rw [List.getElem?_set_self (by simpa using hlen)] at hv
          cases hv
        · rw [List.getElem?_set_ne (Ne.symm hi)] at hv
          by_cases hi2 : i = iy
          · subst hi2
            have l2 : i < σ1.length := by rw [J1.len]; exact (List.getElem?_eq_some_iff.mp hy).1
            rw [List.getElem?_set_self l2] at hv
            rw [List.getElem?_set_self (by simpa using l2)]
            exact hv
          · rw [List.getElem?_set_ne (Ne.symm hi2)] at hv
            rw [List.getElem?_set_ne (Ne.symm hi2), List.getElem?_set_ne (Ne.symm hi)]
            exact hv)
      obtain ⟨m, hnm, hlm⟩ := id K7.loc
      have em : m = m7 := by
        obtain ⟨o1, es1, ep1, ho1, hd1, _, f1⟩ := id hnm
        obtain ⟨o2, es2, ep2, ho2, hd2, _, f2⟩ := id hn7
        rw [ho1] at ho2
        cases ho2
        rw [hd1] at hd2
        injection hd2 with hd2 _
        subst hd2
        funext z
        rw [← f1 z, ← f2 z]
      subst em
      have tracked : HOk X.prog X.w (upd H2 e (excO e C)) h8 := K7.hok.but K7.free hs8
      refine ⟨K7.ok, K7.os, K7.bare, ⟨fun b o q n hb hx => ?_, fun b o q n hb hx => ?_, K7.base.free, fun b o q hx => ?_, K7.base.tups, K7.base.frzs, K7.base.tbls⟩, ⟨_, hn8, fun j z v e1 e2 e3 => ?_⟩, fun z c q => ?_, K7.free, K7.freeC, fun p hp => ?_, tracked, K7.len⟩
      · exact (hs8.2 b (Nat.ne_of_lt (Nat.lt_of_lt_of_le (Heap.lt_size q) K7.ok.above))).trans (K7.base.keep b o q n hb hx)
      · obtain ⟨sl, q1⟩ := K7.base.slot b o q n hb hx
        exact ⟨sl, (hs8.2 b (Nat.ne_of_lt (Nat.lt_of_lt_of_le (Heap.lt_size q) K7.ok.above))).trans q1⟩
      · obtain ⟨o', q1⟩ := K7.base.there b o q hx
        exact ⟨o', (hs8.2 b (Nat.ne_of_lt (Nat.lt_of_lt_of_le (Heap.lt_size q) K7.ok.above))).trans q1⟩
      · obtain ⟨u, ru, lk⟩ := hlm j z v e1 e2 e3
        refine ⟨u, ru, ?_⟩
        rcases lk with ⟨kk, mz⟩ | ⟨kk, c, hc', hcell⟩
        · refine .inl ⟨kk, ?_⟩
          have hz : z ≠ n := fun ez => by
            subst ez
            have := nodup_ix hN e1 hn
            subst this
            rw [List.getElem?_set_self (by simpa using hlen)] at e2
            cases e2
          show (if z = n then v8 else m z) = some u
          rw [if_neg hz]
          exact mz
        · exact .inr ⟨kk, c, hc', hcell.sameBut hs8 (K7.cne z c hc')⟩
      · obtain ⟨v, hcell⟩ := K7.cell z c q
        exact ⟨v, hcell.sameBut hs8 (K7.cne z c q)⟩
      · obtain ⟨q1, q2, q3, q4, q5⟩ := K7.pin p hp
        exact ⟨(hs8.2 p.1 q3).trans q1, q2, q3, q4, q5⟩
    exact ⟨_, _, J8, qn e hen⟩
  · cases f with
    | next =>
      obtain ⟨σ', H', J, qq⟩ := q
      exact wpAny_execs_nil ⟨σ', H', back J, qq⟩
    | brk => obtain ⟨σ', H', J, qq⟩ := q; exact ⟨σ', H', back J, qq⟩
    | cont => obtain ⟨σ', H', J, qq⟩ := q; exact ⟨σ', H', back J, qq⟩
    | ret v => obtain ⟨v', σ', H', J, r, qq⟩ := q; exact ⟨v', σ', H', back J, r, qq⟩
end
end L2
end
section
set_option Elab.async false
set_option linter.all false
set_option maxRecDepth 100000
set_option maxHeartbeats 4000000
namespace L2
open PySem PySem.Spec PyProof.Rows
inductive PV where
  | non | bl (b : Bool) | int (i : Int) | str (x : Str) | lst (xs : List PV) | tup (xs : List PV) | obj (n : Nat)
  | scr (ns : List Int)
mutual
def PV.bel (n : Nat) : PV → Bool
  | .lst xs => PV.bels n xs
  | .tup xs => PV.bels n xs
  | .obj m => decide (m < n)
  | .non => true
  | .bl _ => true
  | .int _ => true
  | .str _ => true
  | .scr _ => true
def PV.bels (n : Nat) : List PV → Bool
  | [] => true
  | x :: xs => PV.bel n x && PV.bels n xs
end
inductive MO where
  | gone
  | lst (xs : List PV)
  | dct (kvs : List (Key × PV))
  | dtp (kvs : List (List Key × PV))
  | ins (C : Addr) (fs : List (Str × PV))
  | exc (C : Addr)
abbrev Sto := List MO
abbrev Rho := List (Option PV)
abbrev lim : Nat := 16000000
theorem lim_line {n : Nat} (h : n ≤ lim) : n ≤ sizeLine := by rw [sizeLine_eq]; exact Nat.le_trans h (by decide)
theorem lim_lt {n : Nat} (h : n < lim) : n < sizeLine := by rw [sizeLine_eq]; exact Nat.lt_of_lt_of_le h (by decide)
section
variable (K : PySem.W.Frag) (ι : List Addr) (S : Hp)
mutual
def Rep : PV → V → Prop
  | .non, v => v = .non
  | .bl b, v => v = .bl b
  | .int i, v => v = .int i
  | .str x, v => v = .str x
  | .lst xs, v => ∃ a vs, v = .ref a ∧ S a = some (.lst vs) ∧ Reps xs vs
  | .tup xs, v => ∃ a vs, v = .ref a ∧ S a = some (.tup vs) ∧ Reps xs vs
  | .obj n, v => ∃ a, v = .ref a ∧ ι[n]? = some a
  | .scr ns, v => ∃ a, v = .ref a ∧ SqL K S a (ns.map V.int)
def Reps : List PV → List V → Prop
  | [], vs => vs = []
  | x :: xs, vs => ∃ v r, vs = v :: r ∧ Rep x v ∧ Reps xs r
end
def RepKs {κ : Type} (kvs : List (κ × PV)) (kus : List (κ × V)) : Prop := Paired (fun (p : κ × PV) (q : κ × V) => p.1 = q.1 ∧ Rep K ι S p.2 q.2) kvs kus
end
structure Up (ι : List Addr) (S : Hp) (ι' : List Addr) (S' : Hp) : Prop where
  ix : ∀ (n : Nat) (a : Addr), ι[n]? = some a → ι'[n]? = some a
  sm : Same S S'
structure Ext (ι : List Addr) (S H : Hp) (ι' : List Addr) (S' H' : Hp) : Prop extends Up ι S ι' S' where
  pre : ι'.take ι.length = ι
  fr : ∀ b u, H b = some u → b ∉ ι → S b = none → H' b = some u ∧ b ∉ ι' ∧ S' b = none
theorem Ext.refl {ι : List Addr} {S H : Hp} : Ext ι S H ι S H := ⟨⟨fun _ _ h => h, Same.refl S⟩, List.take_length, fun _ _ h1 h2 h3 => ⟨h1, h2, h3⟩⟩
theorem Ext.trans {ι ι1 ι2 : List Addr} {S S1 S2 H H1 H2 : Hp} (a : Ext ι S H ι1 S1 H1) (b : Ext ι1 S1 H1 ι2 S2 H2) : Ext ι S H ι2 S2 H2 :=
  ⟨⟨fun n x h => b.ix n x (a.ix n x h), a.sm.trans b.sm⟩, by
    have h1 := a.pre
    have h2 := b.pre
    have hl : ι.length ≤ ι1.length := by rw [← h1]; simp; omega
    rw [← h2, List.take_take, Nat.min_eq_left hl] at h1
    exact h1, fun c u h1 h2 h3 => by
    obtain ⟨k1, k2, k3⟩ := a.fr c u h1 h2 h3
    exact b.fr c u k1 k2 k3⟩
theorem Up.push {ι : List Addr} {S : Hp} (a : Addr) : Up ι S (ι ++ [a]) S := by
  refine ⟨fun n x h => ?_, Same.refl S⟩
  have hl : n < ι.length := (List.getElem?_eq_some_iff.mp h).1
  rw [List.getElem?_append_left hl]; exact h
theorem Rd.mono {S S' : Hp} (h : Same S S') {a : Addr} {u : HO} (r : Rd S a u) : Rd S' a u := by
  rcases r with r | ⟨o, r⟩
  · exact .inl (h _ _ r)
  · exact .inr ⟨o, h _ _ r⟩
theorem SqL.mono {K : PySem.W.Frag} {S S' : Hp} (h : Same S S') {a : Addr} {vs : List V} (q : SqL K S a vs) : SqL K S' a vs := by
  rcases q with q | q
  · exact .inl (q.mono h)
  · exact .inr q
theorem SqT.mono {K : PySem.W.Frag} {S S' : Hp} (h : Same S S') {a : Addr} {vs : List V} (q : SqT K S a vs) : SqT K S' a vs := by
  rcases q with q | q
  · exact .inl (q.mono h)
  · exact .inr q
section
variable {K : PySem.W.Frag}
mutual
theorem Rep.mono' {ι ι' : List Addr} {S S' : Hp} (hi : ∀ (n : Nat) (a : Addr), ι[n]? = some a → ι'[n]? = some a) (hs : Same S S') : ∀ (x : PV) (v : V), Rep K ι S x v → Rep K ι' S' x v
  | .non, v, h => by simpa [Rep] using h
  | .bl b, v, h => by simpa [Rep] using h
  | .int i, v, h => by simpa [Rep] using h
  | .str x, v, h => by simpa [Rep] using h
  | .lst xs, v, h => by
    rw [Rep] at h ⊢
    obtain ⟨a, vs, e, q, r⟩ := h
    exact ⟨a, vs, e, hs _ _ q, Reps.mono' hi hs xs vs r⟩
  | .tup xs, v, h => by
    rw [Rep] at h ⊢
    obtain ⟨a, vs, e, q, r⟩ := h
    exact ⟨a, vs, e, hs _ _ q, Reps.mono' hi hs xs vs r⟩
  | .obj n, v, h => by
    rw [Rep] at h ⊢
    obtain ⟨a, e, q⟩ := h
    exact ⟨a, e, hi _ _ q⟩
  | .scr ns, v, h => by
    rw [Rep] at h ⊢
    obtain ⟨a, e, q⟩ := h
    exact ⟨a, e, q.mono hs⟩
theorem Reps.mono' {ι ι' : List Addr} {S S' : Hp} (hi : ∀ (n : Nat) (a : Addr), ι[n]? = some a → ι'[n]? = some a) (hs : Same S S') : ∀ (xs : List PV) (vs : List V), Reps K ι S xs vs → Reps K ι' S' xs vs
  | [], vs, h => by simpa [Reps] using h
  | x :: xs, vs, h => by
    rw [Reps] at h ⊢
    obtain ⟨v, r, e, h1, h2⟩ := h
    exact ⟨v, r, e, Rep.mono' hi hs x v h1, Reps.mono' hi hs xs r h2⟩
end
theorem Rep.up {ι ι' : List Addr} {S S' : Hp} (e : Up ι S ι' S') {x : PV} {v : V} (h : Rep K ι S x v) : Rep K ι' S' x v := Rep.mono' e.ix e.sm x v h
theorem Rep.mono {ι ι' : List Addr} {S S' H H' : Hp} (e : Ext ι S H ι' S' H') {x : PV} {v : V} (h : Rep K ι S x v) : Rep K ι' S' x v := Rep.mono' e.ix e.sm x v h
theorem Reps.up {ι ι' : List Addr} {S S' : Hp} (e : Up ι S ι' S') {xs : List PV} {vs : List V} (h : Reps K ι S xs vs) : Reps K ι' S' xs vs := Reps.mono' e.ix e.sm xs vs h
theorem Reps.mono {ι ι' : List Addr} {S S' H H' : Hp} (e : Ext ι S H ι' S' H') {xs : List PV} {vs : List V} (h : Reps K ι S xs vs) : Reps K ι' S' xs vs := Reps.mono' e.ix e.sm xs vs h
theorem RepKs.up {κ : Type} {ι ι' : List Addr} {S S' : Hp} (e : Up ι S ι' S') {kvs : List (κ × PV)} {kus : List (κ × V)} (h : RepKs K ι S kvs kus) : RepKs K ι' S' kvs kus :=
  Paired.mapP h fun _ _ z => ⟨z.1, z.2.up e⟩
theorem RepKs.mono {κ : Type} {ι ι' : List Addr} {S S' H H' : Hp} (e : Ext ι S H ι' S' H') {kvs : List (κ × PV)} {kus : List (κ × V)} (h : RepKs K ι S kvs kus) : RepKs K ι' S' kvs kus :=
  Paired.mapP h fun _ _ z => ⟨z.1, z.2.mono e⟩
mutual
theorem Rep.bel {ι : List Addr} {S : Hp} : ∀ (x : PV) (v : V), Rep K ι S x v → PV.bel ι.length x = true
  | .non, v, h => rfl
  | .bl b, v, h => rfl
  | .int i, v, h => rfl
  | .str x, v, h => rfl
  | .lst xs, v, h => by
    rw [Rep] at h
    obtain ⟨a, vs, e, q, r⟩ := h
    rw [PV.bel]; exact Reps.bels xs vs r
  | .tup xs, v, h => by
    rw [Rep] at h
    obtain ⟨a, vs, e, q, r⟩ := h
    rw [PV.bel]; exact Reps.bels xs vs r
  | .obj n, v, h => by
    rw [Rep] at h
    obtain ⟨a, e, q⟩ := h
    rw [PV.bel]
    exact decide_eq_true (List.getElem?_eq_some_iff.mp q).1
  | .scr ns, v, h => rfl
theorem Reps.bels {ι : List Addr} {S : Hp} : ∀ (xs : List PV) (vs : List V), Reps K ι S xs vs → PV.bels ι.length xs = true
  | [], vs, h => rfl
  | x :: xs, vs, h => by
    rw [Reps] at h
    obtain ⟨v, r, e, h1, h2⟩ := h
    rw [PV.bels, Rep.bel x v h1, Reps.bels xs r h2]; rfl
end
mutual
theorem Rep.cut {ι : List Addr} {S : Hp} {n : Nat} : ∀ (x : PV) (v : V), PV.bel n x = true → Rep K ι S x v → Rep K (ι.take n) S x v
  | .non, v, b, h => by simpa [Rep] using h
  | .bl _, v, b, h => by simpa [Rep] using h
  | .int i, v, b, h => by simpa [Rep] using h
  | .str x, v, b, h => by simpa [Rep] using h
  | .lst xs, v, b, h => by
    rw [Rep] at h ⊢
    rw [PV.bel] at b
    obtain ⟨a, vs, e, q, r⟩ := h
    exact ⟨a, vs, e, q, Reps.cut xs vs b r⟩
  | .tup xs, v, b, h => by
    rw [Rep] at h ⊢
    rw [PV.bel] at b
    obtain ⟨a, vs, e, q, r⟩ := h
    exact ⟨a, vs, e, q, Reps.cut xs vs b r⟩
  | .obj m, v, b, h => by
    rw [Rep] at h ⊢
    rw [PV.bel] at b
    obtain ⟨a, e, q⟩ := h
    exact ⟨a, e, by rw [List.getElem?_take_of_lt (of_decide_eq_true b)]; exact q⟩
  | .scr ns, v, b, h => by
    rw [Rep] at h ⊢
    exact h
theorem Reps.cut {ι : List Addr} {S : Hp} {n : Nat} : ∀ (xs : List PV) (vs : List V), PV.bels n xs = true → Reps K ι S xs vs → Reps K (ι.take n) S xs vs
  | [], vs, b, h => by simpa [Reps] using h
  | x :: xs, vs, b, h => by
    rw [Reps] at h ⊢
    rw [PV.bels, Bool.and_eq_true] at b
    obtain ⟨v, r, e, h1, h2⟩ := h
    exact ⟨v, r, e, Rep.cut x v b.1 h1, Reps.cut xs r b.2 h2⟩
end
variable {ι : List Addr} {S : Hp}
theorem Reps.nil : Reps K ι S [] [] := by rw [Reps]
theorem Reps.cons {x : PV} {xs : List PV} {v : V} {vs : List V} (h : Rep K ι S x v) (t : Reps K ι S xs vs) : Reps K ι S (x :: xs) (v :: vs) := by
  rw [Reps]; exact ⟨v, vs, rfl, h, t⟩
theorem Reps.uncons {x : PV} {xs : List PV} {vs : List V} (h : Reps K ι S (x :: xs) vs) : ∃ v r, vs = v :: r ∧ Rep K ι S x v ∧ Reps K ι S xs r := by
  rw [Reps] at h; exact h
theorem Reps.length : ∀ {xs : List PV} {vs : List V}, Reps K ι S xs vs → xs.length = vs.length
  | [], vs, h => by rw [Reps] at h; subst h; rfl
  | x :: xs, vs, h => by
    obtain ⟨v, r, rfl, _, h2⟩ := h.uncons
    simp [Reps.length h2]
theorem Reps.get : ∀ {xs : List PV} {vs : List V} {i : Nat} {x : PV}, Reps K ι S xs vs → xs[i]? = some x → ∃ v, vs[i]? = some v ∧ Rep K ι S x v
  | [], vs, i, x, h, e => by simp at e
  | y :: xs, vs, i, x, h, e => by
    obtain ⟨v, r, rfl, h1, h2⟩ := h.uncons
    cases i with
    | zero => simp at e; subst e; exact ⟨v, rfl, h1⟩
    | succ i =>
      obtain ⟨w, q1, q2⟩ := Reps.get (i := i) h2 (by simpa using e)
      exact ⟨w, by simpa using q1, q2⟩
theorem Reps.get' : ∀ {xs : List PV} {vs : List V} {i : Nat} {v : V}, Reps K ι S xs vs → vs[i]? = some v → ∃ x, xs[i]? = some x ∧ Rep K ι S x v := fun {xs vs i v} h e => by
  have hl := h.length
  have hi : i < xs.length := by rw [hl]; exact (List.getElem?_eq_some_iff.mp e).1
  obtain ⟨w, q1, q2⟩ := h.get (List.getElem?_eq_getElem hi)
  rw [e] at q1; cases q1
  exact ⟨_, List.getElem?_eq_getElem hi, q2⟩
theorem Reps.append : ∀ {xs ys : List PV} {vs ws : List V}, Reps K ι S xs vs → Reps K ι S ys ws → Reps K ι S (xs ++ ys) (vs ++ ws)
  | [], ys, vs, ws, h, t => by rw [Reps] at h; subst h; exact t
  | x :: xs, ys, vs, ws, h, t => by
    obtain ⟨v, r, rfl, h1, h2⟩ := h.uncons
    exact .cons h1 (Reps.append h2 t)
theorem Reps.one {x : PV} {v : V} (h : Rep K ι S x v) : Reps K ι S [x] [v] := .cons h .nil
theorem Reps.set : ∀ {xs : List PV} {vs : List V} {x : PV} {v : V} (i : Nat), Rep K ι S x v → Reps K ι S xs vs → Reps K ι S (xs.set i x) (vs.set i v)
  | [], vs, x, v, i, h, t => by rw [Reps] at t; subst t; exact .nil
  | y :: xs, vs, x, v, i, h, t => by
    obtain ⟨w, r, rfl, h1, h2⟩ := t.uncons
    cases i with
    | zero => exact .cons h h2
    | succ i => exact .cons h1 (Reps.set i h h2)
theorem Reps.drop : ∀ {xs : List PV} {vs : List V} (n : Nat), Reps K ι S xs vs → Reps K ι S (xs.drop n) (vs.drop n)
  | xs, vs, 0, h => h
  | [], vs, n + 1, h => by rw [Reps] at h; subst h; exact .nil
  | x :: xs, vs, n + 1, h => by
    obtain ⟨v, r, rfl, h1, h2⟩ := h.uncons
    exact Reps.drop n h2
theorem Reps.take : ∀ {xs : List PV} {vs : List V} (n : Nat), Reps K ι S xs vs → Reps K ι S (xs.take n) (vs.take n)
  | xs, vs, 0, h => by simp; exact .nil
  | [], vs, n + 1, h => by rw [Reps] at h; subst h; exact .nil
  | x :: xs, vs, n + 1, h => by
    obtain ⟨v, r, rfl, h1, h2⟩ := h.uncons
    exact .cons h1 (Reps.take n h2)
theorem Reps.reverse : ∀ {xs : List PV} {vs : List V}, Reps K ι S xs vs → Reps K ι S xs.reverse vs.reverse
  | [], vs, h => by rw [Reps] at h; subst h; exact .nil
  | x :: xs, vs, h => by
    obtain ⟨v, r, rfl, h1, h2⟩ := h.uncons
    rw [List.reverse_cons, List.reverse_cons]
    exact (Reps.reverse h2).append (.one h1)
theorem Reps.dropLast {xs : List PV} {vs : List V} (h : Reps K ι S xs vs) : Reps K ι S xs.dropLast vs.dropLast := by
  rw [List.dropLast_eq_take, List.dropLast_eq_take, h.length]; exact h.take _
theorem Reps.eraseIdx : ∀ {xs : List PV} {vs : List V} (i : Nat), Reps K ι S xs vs → Reps K ι S (xs.eraseIdx i) (vs.eraseIdx i)
  | [], vs, i, h => by rw [Reps] at h; subst h; exact .nil
  | x :: xs, vs, i, h => by
    obtain ⟨v, r, rfl, h1, h2⟩ := h.uncons
    cases i with
    | zero => exact h2
    | succ i => exact .cons h1 (Reps.eraseIdx i h2)
theorem Reps.rep {xs : List PV} {vs : List V} (h : Reps K ι S xs vs) : ∀ k : Nat, Reps K ι S (List.replicate k xs).flatten (List.replicate k vs).flatten
  | 0 => .nil
  | k + 1 => by
    rw [List.replicate_succ, List.replicate_succ, List.flatten_cons, List.flatten_cons]
    exact h.append (Reps.rep h k)
theorem RepKs.keys {κ : Type} {kvs : List (κ × PV)} {kus : List (κ × V)} (h : RepKs K ι S kvs kus) : kvs.map (·.1) = kus.map (·.1) := by
  induction h with
  | nil => rfl
  | cons r _ ih => rw [List.map_cons, List.map_cons, r.1, ih]
theorem RepKs.length {κ : Type} {kvs : List (κ × PV)} {kus : List (κ × V)} (h : RepKs K ι S kvs kus) : kvs.length = kus.length := Paired.length h
theorem RepKs.vals {κ : Type} {kvs : List (κ × PV)} {kus : List (κ × V)} (h : RepKs K ι S kvs kus) : Reps K ι S (kvs.map (·.2)) (kus.map (·.2)) := by
  induction h with
  | nil => exact .nil
  | cons r _ ih => exact .cons r.2 ih
theorem Rep.non_iff {v : V} : Rep K ι S .non v ↔ v = .non := by rw [Rep]
theorem Rep.bl_iff {b : Bool} {v : V} : Rep K ι S (.bl b) v ↔ v = .bl b := by rw [Rep]
theorem Rep.int_iff {i : Int} {v : V} : Rep K ι S (.int i) v ↔ v = .int i := by rw [Rep]
theorem Rep.str_iff {x : Str} {v : V} : Rep K ι S (.str x) v ↔ v = .str x := by rw [Rep]
theorem Rep.lst_iff {xs : List PV} {v : V} : Rep K ι S (.lst xs) v ↔ ∃ a vs, v = .ref a ∧ S a = some (.lst vs) ∧ Reps K ι S xs vs := by rw [Rep]
theorem Rep.tup_iff {xs : List PV} {v : V} : Rep K ι S (.tup xs) v ↔ ∃ a vs, v = .ref a ∧ S a = some (.tup vs) ∧ Reps K ι S xs vs := by rw [Rep]
theorem Rep.scr_iff {ns : List Int} {v : V} : Rep K ι S (.scr ns) v ↔ ∃ a, v = .ref a ∧ SqL K S a (ns.map V.int) := by rw [Rep]
theorem Rep.obj_iff {n : Nat} {v : V} : Rep K ι S (.obj n) v ↔ ∃ a, v = .ref a ∧ ι[n]? = some a := by rw [Rep]
end
theorem nodup_inj {α : Type} : ∀ {l : List α}, l.Nodup → ∀ {n m : Nat} (h1 : n < l.length) (h2 : m < l.length), l[n] = l[m] → n = m
  | [], _, n, m, h1, h2, e => by simp at h1
  | x :: l, nd, n, m, h1, h2, e => by
    rw [List.nodup_cons] at nd
    cases n with
    | zero =>
      cases m with
      | zero => rfl
      | succ m =>
        simp only [List.getElem_cons_zero, List.getElem_cons_succ] at e
        exact absurd (e ▸ List.getElem_mem _) nd.1
    | succ n =>
      cases m with
      | zero =>
        simp only [List.getElem_cons_zero, List.getElem_cons_succ] at e
        exact absurd (e ▸ List.getElem_mem _) nd.1
      | succ m =>
        simp only [List.getElem_cons_succ] at e
        rw [nodup_inj nd.2 (by simpa using h1) (by simpa using h2) e]
def MoOk (K : PySem.W.Frag) (ι : List Addr) (S H : Hp) (a : Addr) : MO → Prop
  | .gone => ∃ o, H a = some o
  | .lst xs => S a = none ∧ ∃ vs, H a = some (.lst vs) ∧ Reps K ι S xs vs
  | .dct kvs => S a = none ∧ ∃ kus, H a = some (.dK kus) ∧ RepKs K ι S kvs kus
  | .dtp kvs => S a = none ∧ ∃ kus, H a = some (.dT kus) ∧ RepKs K ι S kvs kus
  | .ins C fs => S a = none ∧ ∃ dx fvs, H a = some (.ins C dx fvs) ∧ RepKs K ι S fs fvs
  | .exc C => S a = none ∧ H a = some (excO a C)
structure SimH (K : PySem.W.Frag) (ι : List Addr) (S : Hp) (M : Sto) (H : Hp) : Prop where
  sub : Same S H
  len : ι.length = M.length
  nd : ι.Nodup
  ob : ∀ (n : Nat) (a : Addr) (o : MO), ι[n]? = some a → M[n]? = some o → MoOk K ι S H a o
def Slots (K : PySem.W.Frag) (ι : List Addr) (S : Hp) (ρ : Rho) (σ : St) : Prop :=
  ρ.length = σ.length ∧ ∀ (i : Nat) (x : PV), ρ[i]? = some (some x) → ∃ v, σ[i]? = some (some v) ∧ Rep K ι S x v
section
variable {K : PySem.W.Frag} {ι ι' : List Addr} {S S' H H' : Hp} {M M' : Sto} {ρ : Rho} {σ : St}
theorem MoOk.there {a : Addr} {o : MO} (h : MoOk K ι S H a o) : ∃ u, H a = some u := by
  cases o with
  | gone => exact h
  | lst xs => obtain ⟨_, vs, e, _⟩ := h; exact ⟨_, e⟩
  | dct xs => obtain ⟨_, vs, e, _⟩ := h; exact ⟨_, e⟩
  | dtp xs => obtain ⟨_, vs, e, _⟩ := h; exact ⟨_, e⟩
  | ins C fs => obtain ⟨_, dx, vs, e, _⟩ := h; exact ⟨_, e⟩
  | exc C => obtain ⟨_, e⟩ := h; exact ⟨_, e⟩
theorem MoOk.up {a : Addr} {o : MO} (h : MoOk K ι S H a o) (e : Up ι S ι' S') (hs : S a = none → S' a = none) (hh : H' a = H a) : MoOk K ι' S' H' a o := by
  cases o with
  | gone => obtain ⟨u, q⟩ := h; exact ⟨u, hh.trans q⟩
  | lst xs => obtain ⟨z, vs, q, r⟩ := h; exact ⟨hs z, vs, hh.trans q, r.up e⟩
  | dct xs => obtain ⟨z, vs, q, r⟩ := h; exact ⟨hs z, vs, hh.trans q, r.up e⟩
  | dtp xs => obtain ⟨z, vs, q, r⟩ := h; exact ⟨hs z, vs, hh.trans q, r.up e⟩
  | ins C fs => obtain ⟨z, dx, vs, q, r⟩ := h; exact ⟨hs z, dx, vs, hh.trans q, r.up e⟩
  | exc C => obtain ⟨z, q⟩ := h; exact ⟨hs z, hh.trans q⟩
theorem Slots.mono (s : Slots K ι S ρ σ) (e : Ext ι S H ι' S' H') : Slots K ι' S' ρ σ := ⟨s.1, fun i x h => by
  obtain ⟨v, h1, h2⟩ := s.2 i x h
  exact ⟨v, h1, h2.mono e⟩⟩
theorem Slots.set (s : Slots K ι S ρ σ) {x : PV} {v : V} (h : Rep K ι S x v) (i : Nat) : Slots K ι S (ρ.set i (some x)) (σ.set i (some v)) := by
  refine ⟨by simp [s.1], fun j y hj => ?_⟩
  by_cases hij : i = j
  · subst hij
    have hl : i < (ρ.set i (some x)).length := (List.getElem?_eq_some_iff.mp hj).1
    rw [List.length_set] at hl
    rw [List.getElem?_set_self hl] at hj
    cases hj
    exact ⟨v, by rw [List.getElem?_set_self (by rw [← s.1]; exact hl)], h⟩
  · rw [List.getElem?_set_ne hij] at hj
    obtain ⟨w, h1, h2⟩ := s.2 j y hj
    exact ⟨w, by rw [List.getElem?_set_ne hij]; exact h1, h2⟩
theorem SimH.addr (s : SimH K ι S M H) {n : Nat} {a : Addr} (h : ι[n]? = some a) : ∃ o, M[n]? = some o ∧ MoOk K ι S H a o := by
  have hl : n < M.length := by rw [← s.len]; exact (List.getElem?_eq_some_iff.mp h).1
  exact ⟨M[n], List.getElem?_eq_getElem hl, s.ob n a _ h (List.getElem?_eq_getElem hl)⟩
theorem SimH.at (s : SimH K ι S M H) {n : Nat} {o : MO} (h : M[n]? = some o) : ∃ a, ι[n]? = some a ∧ MoOk K ι S H a o := by
  have hl : n < ι.length := by rw [s.len]; exact (List.getElem?_eq_some_iff.mp h).1
  exact ⟨ι[n], List.getElem?_eq_getElem hl, s.ob n _ o (List.getElem?_eq_getElem hl) h⟩
theorem SimH.fresh (s : SimH K ι S M H) {p : Addr} (h : H p = none) : p ∉ ι := fun hm => by
  obtain ⟨n, hn, e⟩ := List.getElem_of_mem hm
  obtain ⟨o, _, q⟩ := s.addr (List.getElem?_eq_some_iff.mpr ⟨hn, e⟩)
  obtain ⟨u, z⟩ := q.there
  rw [h] at z; cases z
theorem SimH.freshS (s : SimH K ι S M H) {p : Addr} (h : H p = none) : S p = none := s.sub.free h
theorem SimH.tree (s : SimH K ι S M H) {p : Addr} {o : HO} (h : H p = none) : SimH K ι (upd S p o) M (upd H p o) ∧ Ext ι S H ι (upd S p o) (upd H p o) := by
  have hS := s.freshS h
  have sm : Same S (upd S p o) := fun b u q => by rw [upd_ne (ne_of_none q hS)]; exact q
  have up : Up ι S ι (upd S p o) := ⟨fun _ _ h => h, sm⟩
  refine ⟨⟨fun b u q => ?_, s.len, s.nd, fun n a u h1 h2 => ?_⟩, ⟨up, List.take_length, fun b u h1 h2 h3 => ?_⟩⟩
  · by_cases hb : b = p
    · subst hb; rw [upd_same] at q ⊢; exact q
    · rw [upd_ne hb] at q ⊢; exact s.sub b u q
  · have hne : a ≠ p := fun z => s.fresh h (z ▸ List.mem_of_getElem? h1)
    exact (s.ob n a u h1 h2).up up (fun z => by rw [upd_ne hne]; exact z) (upd_ne hne)
  · have hne := ne_of_none h1 h
    exact ⟨by rw [upd_ne hne]; exact h1, h2, by rw [upd_ne hne]; exact h3⟩
theorem SimH.side (s : SimH K ι S M H) {p : Addr} {o : HO} (h : H p = none) : SimH K ι S M (upd H p o) ∧ Ext ι S H ι S (upd H p o) := by
  refine ⟨⟨fun b u q => ?_, s.len, s.nd, fun n a u h1 h2 => ?_⟩, ⟨⟨fun _ _ h => h, Same.refl S⟩, List.take_length, fun b u h1 h2 h3 => ?_⟩⟩
  · rw [upd_ne (ne_of_none (s.sub b u q) h)]; exact s.sub b u q
  · have hne : a ≠ p := fun z => s.fresh h (z ▸ List.mem_of_getElem? h1)
    exact (s.ob n a u h1 h2).up ⟨fun _ _ h => h, Same.refl S⟩ (fun z => z) (upd_ne hne)
  · have hne := ne_of_none h1 h
    exact ⟨by rw [upd_ne hne]; exact h1, h2, h3⟩
theorem SimH.enter (s : SimH K ι S M H) {p : Addr} {o : MO} (hp : p ∉ ι) (h : MoOk K ι S H p o) : SimH K (ι ++ [p]) S (M ++ [o]) H := by
  refine ⟨s.sub, by simp [s.len], ?_, fun n a u h1 h2 => ?_⟩
  · rw [List.nodup_append]
    refine ⟨s.nd, by simp, fun a ha b hb => ?_⟩
    rw [List.mem_singleton] at hb
    subst hb
    exact fun z => hp (z ▸ ha)
  · by_cases hn : n < ι.length
    · rw [List.getElem?_append_left hn] at h1
      rw [List.getElem?_append_left (by rw [← s.len]; exact hn)] at h2
      exact (s.ob n a u h1 h2).up (.push p) (fun z => z) rfl
    · have e1 : n = ι.length := by
        have := (List.getElem?_eq_some_iff.mp h1).1
        simp at this; omega
      subst e1
      simp at h1
      rw [s.len] at h2
      simp at h2
      subst h1; subst h2
      exact h.up (.push _) (fun z => z) rfl
theorem SimH.new (s : SimH K ι S M H) {p : Addr} {u : HO} {o : MO} (h : H p = none) (ho : MoOk K ι S (upd H p u) p o) : SimH K (ι ++ [p]) S (M ++ [o]) (upd H p u) ∧ Ext ι S H (ι ++ [p]) S (upd H p u) := by
  refine ⟨(s.side h).1.enter (s.fresh h) ho, ⟨.push p, by simp, fun b v h1 h2 h3 => ?_⟩⟩
  have hne := ne_of_none h1 h
  exact ⟨by rw [upd_ne hne]; exact h1, by simp [h2, hne], h3⟩
theorem SimH.inj (s : SimH K ι S M H) {n m : Nat} {a : Addr} (h1 : ι[n]? = some a) (h2 : ι[m]? = some a) : n = m := by
  obtain ⟨l1, e1⟩ := List.getElem?_eq_some_iff.mp h1
  obtain ⟨l2, e2⟩ := List.getElem?_eq_some_iff.mp h2
  exact nodup_inj s.nd l1 l2 (e1.trans e2.symm)
theorem SimH.put (s : SimH K ι S M H) {n : Nat} {a : Addr} {u : HO} {o : MO} (h : ι[n]? = some a) (hS : S a = none) (ho : MoOk K ι S (upd H a u) a o) : SimH K ι S (M.set n o) (upd H a u) ∧ Ext ι S H ι S (upd H a u) := by
  refine ⟨⟨fun b v q => ?_, by simp [s.len], s.nd, fun m b v h1 h2 => ?_⟩, ⟨⟨fun _ _ h => h, Same.refl S⟩, List.take_length, fun b v h1 h2 h3 => ?_⟩⟩
  · rw [upd_ne (ne_of_none q hS)]; exact s.sub b v q
  · by_cases hm : n = m
    · subst hm
      rw [h] at h1; cases h1
      have hl : n < M.length := by
        have := (List.getElem?_eq_some_iff.mp h2).1
        simpa using this
      rw [List.getElem?_set_self hl] at h2
      cases h2
      exact ho
    · rw [List.getElem?_set_ne hm] at h2
      have hne : b ≠ a := fun z => hm (s.inj h (z ▸ h1))
      exact (s.ob m b v h1 h2).up ⟨fun _ _ h => h, Same.refl S⟩ (fun z => z) (upd_ne hne)
  · have hne : b ≠ a := fun z => h2 (z ▸ List.mem_of_getElem? h)
    exact ⟨by rw [upd_ne hne]; exact h1, h2, h3⟩
theorem SimH.freeze (s : SimH K ι S M H) {n : Nat} {a : Addr} {xs : List PV} (h : ι[n]? = some a) (hM : M[n]? = some (.lst xs)) :
    ∃ S', SimH K ι S' (M.set n .gone) H ∧ Ext ι S H ι S' H ∧ Rep K ι S' (.lst xs) (.ref a) := by
  obtain ⟨hS, vs, hH, hr⟩ := s.ob n a _ h hM
  have sm : Same S (upd S a (.lst vs)) := fun b u q => by rw [upd_ne (ne_of_none q hS)]; exact q
  have up : Up ι S ι (upd S a (.lst vs)) := ⟨fun _ _ h => h, sm⟩
  refine ⟨upd S a (.lst vs), ⟨fun b u q => ?_, by simp [s.len], s.nd, fun m b v h1 h2 => ?_⟩, ⟨up, List.take_length, fun b v h1 h2 h3 => ?_⟩, Rep.lst_iff.mpr ⟨a, vs, rfl, upd_same, hr.up up⟩⟩
  · by_cases hb : b = a
    · subst hb; rw [upd_same] at q; cases q; exact hH
    · rw [upd_ne hb] at q; exact s.sub b u q
  · by_cases hm : n = m
    · subst hm
      rw [h] at h1; cases h1
      have hl : n < M.length := (List.getElem?_eq_some_iff.mp hM).1
      rw [List.getElem?_set_self hl] at h2
      cases h2
      exact ⟨_, hH⟩
    · rw [List.getElem?_set_ne hm] at h2
      have hne : b ≠ a := fun z => hm (s.inj h (z ▸ h1))
      exact (s.ob m b v h1 h2).up up (fun z => by rw [upd_ne hne]; exact z) rfl
  · have hne : b ≠ a := fun z => h2 (z ▸ List.mem_of_getElem? h)
    exact ⟨h1, h2, by rw [upd_ne hne]; exact h3⟩
end
inductive Res (α : Type) where
  | ok (a : α) (M : Sto)
  | exc (c : Addr) (M : Sto)
  | bad
def Res.bind {α β : Type} : Res α → (α → Sto → Res β) → Res β
  | .ok a M, f => f a M
  | .exc c M, _ => .exc c M
  | .bad, _ => .bad
@[simp] theorem Res.bind_ok {α β : Type} {a : α} {M : Sto} {f : α → Sto → Res β} : (Res.ok a M).bind f = f a M := rfl
@[simp] theorem Res.bind_exc {α β : Type} {c : Addr} {M : Sto} {f : α → Sto → Res β} : (Res.exc c M : Res α).bind f = .exc c M := rfl
@[simp] theorem Res.bind_bad {α β : Type} {f : α → Sto → Res β} : (Res.bad : Res α).bind f = .bad := rfl
def Res.opt {α : Type} (o : Option α) (M : Sto) : Res α := match o with
  | some a => .ok a M
  | none => .bad
@[simp] theorem Res.opt_some {α : Type} {a : α} {M : Sto} : Res.opt (some a) M = .ok a M := rfl
@[simp] theorem Res.opt_none {α : Type} {M : Sto} : Res.opt (none : Option α) M = .bad := rfl
def Want {α β : Type} (K : PySem.W.Frag) (Rp : List Addr → Hp → α → β → Prop) (Ex : XK) (ι : List Addr) (S H : Hp) (Q : β → Hp → Prop) : Res α → Prop
  | .ok x M' => ∀ ι' S' H' v, Ext ι S H ι' S' H' → SimH K ι' S' M' H' → Rp ι' S' x v → Q v H'
  | .exc c M' => ∀ ι' S' H', Ext ι S H ι' S' H' → SimH K ι' S' M' H' → Ex (.ref c) none H'
  | .bad => False
section
variable {α β γ δ : Type} {K : PySem.W.Frag} {Rp : List Addr → Hp → α → β → Prop} {Rq : List Addr → Hp → γ → δ → Prop} {Ex : XK} {ι ι' : List Addr} {S S' H H' : Hp} {Q Q' : β → Hp → Prop} {P : δ → Hp → Prop} {r : Res α}
theorem Want.up (h : Want K Rp Ex ι S H Q r) (e : Ext ι S H ι' S' H') : Want K Rp Ex ι' S' H' Q r := by
  cases r with
  | ok x M => exact fun ι1 S1 H1 v e1 s1 r1 => h ι1 S1 H1 v (e.trans e1) s1 r1
  | exc c M => exact fun ι1 S1 H1 e1 s1 => h ι1 S1 H1 (e.trans e1) s1
  | bad => exact h
theorem Want.imp (h : Want K Rp Ex ι S H Q r) (f : ∀ v H, Q v H → Q' v H) : Want K Rp Ex ι S H Q' r := by
  cases r with
  | ok x M => exact fun ι1 S1 H1 v e1 s1 r1 => f _ _ (h ι1 S1 H1 v e1 s1 r1)
  | exc c M => exact h
  | bad => exact h
theorem Want.bind {f : α → Sto → Res γ} (h : Want K Rq Ex ι S H P (r.bind f))
    (g : ∀ ι1 S1 M1 H1 x v, Ext ι S H ι1 S1 H1 → SimH K ι1 S1 M1 H1 → Rp ι1 S1 x v → Want K Rq Ex ι1 S1 H1 P (f x M1) → Q v H1) : Want K Rp Ex ι S H Q r := by
  cases r with
  | ok x M => exact fun ι1 S1 H1 v e1 s1 r1 => g ι1 S1 M H1 x v e1 s1 r1 (Want.up h e1)
  | exc c M => exact h
  | bad => exact h
end
def tG {α β : Type} (K : PySem.W.Frag) (Rp : List Addr → Hp → α → β → Prop) (Ex : St → XK) (d : Rho → Sto → Res α) (σ : St) (H : Hp) (Q : β → Hp → Prop) : Prop :=
  ∃ ι S M ρ, SimH K ι S M H ∧ Slots K ι S ρ σ ∧ Want K Rp (Ex σ) ι S H Q (d ρ M)
abbrev DE := Rho → Sto → Res PV
abbrev DA := Rho → Sto → Res (List PV)
abbrev DT := Rho → Sto → Res Bool
abbrev RpE (K : PySem.W.Frag) : List Addr → Hp → PV → V → Prop := fun ι S x v => Rep K ι S x v
abbrev RpA (K : PySem.W.Frag) : List Addr → Hp → List PV → List V → Prop := fun ι S x v => Reps K ι S x v
abbrev RpB : List Addr → Hp → Bool → Bool → Prop := fun _ _ x v => v = x
def VE (X : Cx) (Ex : St → XK) (e : Expr) (d : DE) : Prop := PE X e (tG X.K (RpE X.K) Ex d)
def VT (X : Cx) (Ex : St → XK) (e : Expr) (d : DT) : Prop := PT X e (tG X.K RpB Ex d)
def VW (X : Cx) (Ex : St → XK) (e : Expr) (d : DT) : Prop := PW X e (tG X.K RpB Ex d)
def VA (X : Cx) (Ex : St → XK) (es : List Expr) (d : DA) : Prop := PA X es (tG X.K (RpA X.K) Ex d)
theorem PE.imp {X : Cx} {e : Expr} {t t' : TE} (h : PE X e t) (i : ∀ σ H Q, t' σ H Q → t σ H Q) : PE X e t' := fun pins s σ H Q I hw => h pins s σ H Q I (i σ H Q hw)
theorem PT.imp {X : Cx} {e : Expr} {t t' : TT} (h : PT X e t) (i : ∀ σ H Q, t' σ H Q → t σ H Q) : PT X e t' := fun pins s σ H Q I hw => h pins s σ H Q I (i σ H Q hw)
theorem PW.imp {X : Cx} {e : Expr} {t t' : TT} (h : PW X e t) (i : ∀ σ H Q, t' σ H Q → t σ H Q) : PW X e t' := fun w pins s σ H Q I hw => h w pins s σ H Q I (i σ H Q hw)
theorem PA.imp {X : Cx} {es : List Expr} {t t' : TA} (h : PA X es t) (i : ∀ σ H Q, t' σ H Q → t σ H Q) : PA X es t' := fun pos pins s σ H Q I hw => h pos pins s σ H Q I (i σ H Q hw)
theorem VW.vt {X : Cx} {Ex : St → XK} {e : Expr} {d : DT} (h : VW X Ex e d) : VT X Ex e d := PW.pt h
end L2
end
section
set_option Elab.async false
set_option linter.all false
set_option maxRecDepth 100000
set_option maxHeartbeats 4000000
namespace L2
open PySem PySem.Spec PyProof.Rows
section
variable {X : Cx} {Ex : St → XK} {a b c e : Expr} {es : List Expr} {da db dc d : DE} {ds : List DE} {pos : Pos}
def dVar (i : Nat) : DE := fun ρ M => match ρ[i]? with
  | some (some x) => .ok x M
  | _ => .bad
theorem ve_var (i : Nat) {x : Str} (hN : X.N[i]? = some x := by rfl) (hv : Vis X.env.scope x := by first | exact Or.inl rfl | exact Or.inr (Or.inl rfl) | exact Or.inr (Or.inr rfl))
    (hd : (x == ("__debug__" : Str)) = false := by decide) (hcd : (x == ("__classdict__" : Str)) = false := by decide) : VE X Ex (.Name x pos) (dVar i) := by
  refine PE.imp (pe_var hN hv hd hcd) fun σ H Q h => ?_
  obtain ⟨ι, S, M, ρ, sim, sl, w⟩ := h
  unfold dVar at w
  cases q : ρ[i]? with
  | none => rw [q] at w; exact w.elim
  | some o =>
    cases o with
    | none => rw [q] at w; exact w.elim
    | some y =>
      rw [q] at w
      obtain ⟨v, h1, h2⟩ := sl.2 i y q
      exact ⟨v, h1, w ι S H v .refl sim h2⟩
def dC (x : PV) : DE := fun _ M => .ok x M
theorem ve_c {x : PV} {v : V} (h : PE X e (tC v)) (r : ∀ ι S, Rep X.K ι S x v) : VE X Ex e (dC x) := by
  refine PE.imp h fun σ H Q hh => ?_
  obtain ⟨ι, S, M, ρ, sim, sl, w⟩ := hh
  exact w ι S H v .refl sim (r ι S)
theorem ve_int {i : Int} {j} : VE X Ex (.Constant (.int i) j pos) (dC (.int i)) := ve_c pe_int fun _ _ => Rep.int_iff.mpr rfl
theorem ve_bl {b : Bool} {j} : VE X Ex (.Constant (.bool b) j pos) (dC (.bl b)) := ve_c pe_bl fun _ _ => Rep.bl_iff.mpr rfl
theorem ve_non {j} : VE X Ex (.Constant .none j pos) (dC .non) := ve_c pe_non fun _ _ => Rep.non_iff.mpr rfl
theorem ve_str {x : Str} {j} : VE X Ex (.Constant (.str x) j pos) (dC (.str x)) := ve_c pe_str fun _ _ => Rep.str_iff.mpr rfl
theorem ve_globI {x : Str} {i : Int} {t : Tok} (hm : X.mg x = some (.int i t)) (hg : Gl X x := by rfl) (hd : (x == ("__debug__" : Str)) = false := by decide) : VE X Ex (.Name x pos) (dC (.int i)) :=
  ve_c (pe_glob hg hm (v := .int i) ⟨t, rfl⟩ hd) fun _ _ => Rep.int_iff.mpr rfl
def dArgs : List DE → DA
  | [] => fun _ M => .ok [] M
  | d :: ds => fun ρ M => (d ρ M).bind fun x M1 => (dArgs ds ρ M1).bind fun xs M2 => .ok (x :: xs) M2
abbrev RpN (K : PySem.W.Frag) (n : Nat) : List Addr → Hp → List PV → List V → Prop := fun ι S x v => Reps K ι S x v ∧ x.length = n
def VN (X : Cx) (Ex : St → XK) (es : List Expr) (ds : List DE) : Prop := PA X es (tG X.K (RpN X.K ds.length) Ex (dArgs ds))
theorem vn_nil : VN X Ex [] [] := by
  refine PA.imp pa_nil fun σ H Q h => ?_
  obtain ⟨ι, S, M, ρ, sim, sl, w⟩ := h
  exact w ι S H [] .refl sim ⟨.nil, rfl⟩
theorem vn_cons (ha : VE X Ex e d) (hr : VN X Ex es ds) (hs : starEach (e :: es) X.env = (false, eval e X.env) :: starEach es X.env := by rfl) : VN X Ex (e :: es) (d :: ds) := by
  refine PA.imp (pa_cons ha hr hs) fun σ H Q h => ?_
  obtain ⟨ι, S, M, ρ, sim, sl, w⟩ := h
  refine ⟨ι, S, M, ρ, sim, sl, Want.bind (Rp := RpE X.K) w fun ι1 S1 M1 H1 x v e1 s1 r1 w1 => ?_⟩
  refine ⟨ι1, S1, M1, ρ, s1, sl.mono e1, Want.bind (Rp := RpN X.K ds.length) w1 fun ι2 S2 M2 H2 xs vs e2 s2 r2 w2 => ?_⟩
  exact w2 ι2 S2 H2 (v :: vs) .refl s2 ⟨.cons (Rep.mono e2 r1) r2.1, by simp [r2.2]⟩
def mkL (live : Bool) (xs : List PV) (M : Sto) : Res PV := if xs.length ≤ lim then (if live = true then .ok (.obj M.length) (M ++ [.lst xs]) else .ok (.lst xs) M) else .bad
theorem mkL_want {ι : List Addr} {S H : Hp} {M : Sto} {E : XK} {Q : VK} {live : Bool} {xs : List PV} {vs : List V} {K : PySem.W.Frag} (sim : SimH K ι S M H) (r : Reps K ι S xs vs) (w : Want K (RpE K) E ι S H Q (mkL live xs M)) :
    vs.length ≤ sizeLine ∧ ∀ p, H p = none → Q (.ref p) (upd H p (.lst vs)) := by
  unfold mkL at w
  split at w
  · rename_i hl
    refine ⟨by rw [← r.length]; exact lim_line hl, fun p hp => ?_⟩
    split at w
    · have hS := sim.freshS hp
      obtain ⟨s2, e2⟩ := sim.new (u := .lst vs) (o := .lst xs) hp ⟨hS, vs, upd_same, r⟩
      refine w _ _ _ _ e2 s2 (Rep.obj_iff.mpr ⟨p, rfl, ?_⟩)
      rw [← sim.len]; simp
    · obtain ⟨s2, e2⟩ := sim.tree (o := .lst vs) hp
      exact w _ _ _ _ e2 s2 (Rep.lst_iff.mpr ⟨p, vs, rfl, upd_same, r.mono e2⟩)
  · exact w.elim
@[simp] theorem mkL_tree {xs : List PV} {M : Sto} (h : xs.length ≤ lim) : mkL false xs M = .ok (.lst xs) M := by unfold mkL; rw [if_pos h, if_neg (by decide)]
@[simp] theorem mkL_live {xs : List PV} {M : Sto} (h : xs.length ≤ lim) : mkL true xs M = .ok (.obj M.length) (M ++ [.lst xs]) := by unfold mkL; rw [if_pos h, if_pos rfl]
def dTup (ds : List DE) : DE := fun ρ M => (dArgs ds ρ M).bind fun xs M1 => .ok (.tup xs) M1
def dLst (live : Bool) (ds : List DE) : DE := fun ρ M => (dArgs ds ρ M).bind fun xs M1 => mkL live xs M1
theorem ve_tup {x1} (h : VN X Ex es ds) (hn : ds.length ≤ 1000 := by decide) : VE X Ex (.Tuple es x1 pos) (dTup ds) := by
  refine PE.imp (pe_tup h) fun σ H Q hh => ?_
  obtain ⟨ι, S, M, ρ, sim, sl, w⟩ := hh
  refine ⟨ι, S, M, ρ, sim, sl, Want.bind (Rp := RpN X.K ds.length) w fun ι1 S1 M1 H1 xs vs e1 s1 r1 w1 => ?_⟩
  refine ⟨by rw [← r1.1.length, r1.2]; exact Nat.le_of_lt (small1000 hn), fun p hp => ?_⟩
  obtain ⟨s2, e2⟩ := s1.tree (o := .tup vs) hp
  exact w1 _ _ _ _ e2 s2 (Rep.tup_iff.mpr ⟨p, vs, rfl, upd_same, r1.1.mono e2⟩)
theorem ve_lst (live : Bool) (h : VN X Ex es ds) : VE X Ex (.List es pos) (dLst live ds) := by
  refine PE.imp (pe_lst h) fun σ H Q hh => ?_
  obtain ⟨ι, S, M, ρ, sim, sl, w⟩ := hh
  refine ⟨ι, S, M, ρ, sim, sl, Want.bind (Rp := RpN X.K ds.length) w fun ι1 S1 M1 H1 xs vs e1 s1 r1 w1 => ?_⟩
  exact mkL_want s1 r1.1 w1
def seqL (M : Sto) : PV → Option (List PV)
  | .lst xs => some xs
  | .obj n => match M[n]? with
    | some (.lst xs) => some xs
    | _ => none
  | _ => none
@[simp] theorem seqL_lst {M : Sto} {xs : List PV} : seqL M (.lst xs) = some xs := rfl
@[simp] theorem seqL_tup {M : Sto} {xs : List PV} : seqL M (.tup xs) = none := rfl
@[simp] theorem seqL_obj {M : Sto} {n : Nat} : seqL M (.obj n) = (match M[n]? with | some (.lst xs) => some xs | _ => none) := rfl
theorem seqL_rep {K : PySem.W.Frag} {ι : List Addr} {S H : Hp} {M : Sto} {x : PV} {xs : List PV} {v : V} (sim : SimH K ι S M H) (r : Rep K ι S x v) (h : seqL M x = some xs) : ∃ p vs, v = .ref p ∧ H p = some (.lst vs) ∧ Reps K ι S xs vs := by
  cases x with
  | lst ys =>
    cases h
    obtain ⟨p, vs, rfl, e, q⟩ := Rep.lst_iff.mp r
    exact ⟨p, vs, rfl, sim.sub _ _ e, q⟩
  | obj n =>
    obtain ⟨p, rfl, e⟩ := Rep.obj_iff.mp r
    obtain ⟨o, e2, q⟩ := sim.addr e
    simp only [seqL_obj, e2] at h
    cases o with
    | lst ys =>
      cases h
      obtain ⟨_, vs, h1, h2⟩ := q
      exact ⟨p, vs, rfl, h1, h2⟩
    | _ => cases h
  | _ => cases h
def seqA (M : Sto) (x : PV) : Option (List PV) := match x with
  | .tup xs => some xs
  | .scr ns => some (ns.map .int)
  | x => seqL M x
@[simp] theorem seqA_lst {M : Sto} {xs : List PV} : seqA M (.lst xs) = some xs := rfl
@[simp] theorem seqA_tup {M : Sto} {xs : List PV} : seqA M (.tup xs) = some xs := rfl
@[simp] theorem seqA_scr {M : Sto} {ns : List Int} : seqA M (.scr ns) = some (ns.map .int) := rfl
@[simp] theorem seqA_obj {M : Sto} {n : Nat} : seqA M (.obj n) = (match M[n]? with | some (.lst xs) => some xs | _ => none) := rfl
theorem Reps.ints {K : PySem.W.Frag} {ι : List Addr} {S : Hp} : ∀ ns : List Int, Reps K ι S (ns.map PV.int) (ns.map V.int)
  | [] => .nil
  | n :: ns => .cons (Rep.int_iff.mpr rfl) (Reps.ints ns)
theorem seqA_rep {K : PySem.W.Frag} {ι : List Addr} {S H : Hp} {M : Sto} {x : PV} {xs : List PV} {v : V} (sim : SimH K ι S M H) (r : Rep K ι S x v) (h : seqA M x = some xs) :
    ∃ p vs, v = .ref p ∧ (SqL K H p vs ∨ SqT K H p vs) ∧ Reps K ι S xs vs := by
  cases x with
  | tup ys =>
    cases h
    obtain ⟨p, vs, rfl, e, q⟩ := Rep.tup_iff.mp r
    exact ⟨p, vs, rfl, .inr (.of (sim.sub _ _ e)), q⟩
  | scr ns =>
    cases h
    obtain ⟨p, rfl, e⟩ := Rep.scr_iff.mp r
    exact ⟨p, _, rfl, .inl (e.mono sim.sub), .ints ns⟩
  | lst ys =>
    obtain ⟨p, vs, e1, e2, q⟩ := seqL_rep sim r h
    exact ⟨p, vs, e1, .inl (.of e2), q⟩
  | obj n =>
    obtain ⟨p, vs, e1, e2, q⟩ := seqL_rep sim r h
    exact ⟨p, vs, e1, .inl (.of e2), q⟩
  | _ => cases h
abbrev D2 := PV → PV → Sto → Res PV
def rP (K : PySem.W.Frag) (f : D2) : R2 := fun x y H Q => ∃ E ι S M p q, SimH K ι S M H ∧ Rep K ι S p x ∧ Rep K ι S q y ∧ Want K (RpE K) E ι S H Q (f p q M)
def dOp (f : D2) (da db : DE) : DE := fun ρ M => (da ρ M).bind fun x M1 => (db ρ M1).bind fun y M2 => f x y M2
theorem dOp_t {f : D2} {K : PySem.W.Frag} {σ : St} {H : Hp} {Q : VK} (h : tG K (RpE K) Ex (dOp f da db) σ H Q) : tOp (rP K f) (tG K (RpE K) Ex da) (tG K (RpE K) Ex db) σ H Q := by
  obtain ⟨ι, S, M, ρ, sim, sl, w⟩ := h
  refine ⟨ι, S, M, ρ, sim, sl, Want.bind (Rp := RpE K) w fun ι1 S1 M1 H1 x v e1 s1 r1 w1 => ?_⟩
  refine ⟨ι1, S1, M1, ρ, s1, sl.mono e1, Want.bind (Rp := RpE K) w1 fun ι2 S2 M2 H2 y u e2 s2 r2 w2 => ?_⟩
  exact ⟨_, ι2, S2, M2, x, y, s2, Rep.mono e2 r1, r2, w2⟩
theorem ve_op {op : Operator} {f : D2} (ho : OpR X (binaryOp op) (rP X.K f)) (ha : VE X Ex a da) (hb : VE X Ex b db) : VE X Ex (.BinOp a op b pos) (dOp f da db) :=
  PE.imp (pe_op ho ha hb) fun _ _ _ h => dOp_t h
theorem OpR.imp {f : Value → Value → Sem Value} {r r' : R2} (h : OpR X f r) (i : ∀ x y H Q, r' x y H Q → r x y H Q) : OpR X f r' := fun pins s σ H x y v u Q I rx ry q => h pins s σ H x y v u Q I rx ry (i x y H Q q)
theorem OpR.absurd {f : Value → Value → Sem Value} {r : R2} (i : ∀ x y H Q, ¬ r x y H Q) : OpR X f r := fun pins s σ H x y v u Q I rx ry q => (i x y H Q q).elim
def intP (C : Int → Int → Bool) (g : Int → Int → PV) : D2 := fun x y M => match x, y with
  | .int i, .int j => if C i j = true then .ok (g i j) M else .bad
  | _, _ => .bad
@[simp] theorem intP_int {C : Int → Int → Bool} {g : Int → Int → PV} {i j : Int} {M : Sto} (h : C i j = true) : intP C g (.int i) (.int j) M = .ok (g i j) M := by unfold intP; simp [h]
theorem intP_inv {K : PySem.W.Frag} {C : Int → Int → Bool} {g : Int → Int → PV} {x y : V} {H : Hp} {Q : VK} (h : rP K (intP C g) x y H Q) :
    ∃ i j, x = .int i ∧ y = .int j ∧ C i j = true ∧ ∃ ι S M, SimH K ι S M H ∧ ∀ v, Rep K ι S (g i j) v → Q v H := by
  obtain ⟨E, ι, S, M, p, q, sim, rx, ry, w⟩ := h
  cases p with
  | int i =>
    cases q with
    | int j =>
      have hx := Rep.int_iff.mp rx
      have hy := Rep.int_iff.mp ry
      simp only [intP] at w
      split at w
      · rename_i hc
        exact ⟨i, j, hx, hy, hc, ι, S, M, sim, fun v hv => w ι S H v .refl sim hv⟩
      · exact w.elim
    | _ => exact w.elim
  | _ => exact w.elim
def subP : D2 := intP (fun _ _ => true) fun i j => .int (i - j)
def fdivP : D2 := intP (fun _ j => decide (0 < j ∧ j < 1073741824)) fun i j => .int (i / j)
def modP : D2 := intP (fun _ j => decide (0 < j)) fun i j => .int (i % j)
theorem op_subP : OpR X (binaryOp .Sub) (rP X.K subP) := op_sub.imp fun x y H Q h => by
  obtain ⟨i, j, rfl, rfl, _, ι, S, M, sim, k⟩ := intP_inv h
  exact ⟨i, j, rfl, rfl, k _ (Rep.int_iff.mpr rfl)⟩
theorem op_fdivP : OpR X (binaryOp .FloorDiv) (rP X.K fdivP) := op_fdiv.imp fun x y H Q h => by
  obtain ⟨i, j, rfl, rfl, hc, ι, S, M, sim, k⟩ := intP_inv h
  exact ⟨i, j, rfl, rfl, (show 0 < j ∧ j < 1073741824 from of_decide_eq_true hc), k _ (Rep.int_iff.mpr rfl)⟩
theorem op_modP : OpR X (binaryOp .Mod) (rP X.K modP) := op_mod.imp fun x y H Q h => by
  obtain ⟨i, j, rfl, rfl, hc, ι, S, M, sim, k⟩ := intP_inv h
  exact ⟨i, j, rfl, rfl, of_decide_eq_true hc, k _ (Rep.int_iff.mpr rfl)⟩
def small (i : Int) : Bool := decide (-(2 ^ 64) < i ∧ i < 2 ^ 64)
def addP (live : Bool) : D2 := fun x y M => match x, y with
  | .int i, .int j => .ok (.int (i + j)) M
  | .tup xs, .tup ys => if xs.isEmpty = false ∧ xs.length + ys.length ≤ lim then .ok (.tup (xs ++ ys)) M else .bad
  | x, y => match seqL M x, seqL M y with
    | some xs, some ys => mkL live (xs ++ ys) M
    | _, _ => .bad
@[simp] theorem addP_int {live : Bool} {i j : Int} {M : Sto} : addP live (.int i) (.int j) M = .ok (.int (i + j)) M := rfl
@[simp] theorem addP_lst {live : Bool} {xs ys : List PV} {M : Sto} : addP live (.lst xs) (.lst ys) M = mkL live (xs ++ ys) M := rfl
theorem addP_cases {K : PySem.W.Frag} {live : Bool} {x y : V} {H : Hp} {Q : VK} (h : rP K (addP live) x y H Q) :
    (∃ i j, x = .int i ∧ y = .int j ∧ Q (.int (i + j)) H) ∨ rCatT K x y H Q ∨ rCat x y H Q := by
  obtain ⟨E, ι, S, M, p, q, sim, rx, ry, w⟩ := h
  have lists : (∀ {xs ys : List PV}, seqL M p = some xs → seqL M q = some ys → Want K (RpE K) E ι S H Q (mkL live (xs ++ ys) M) → rCat x y H Q) := fun {xs ys} h1 h2 w => by
    obtain ⟨l, vs, rfl, e1, r1⟩ := seqL_rep sim rx h1
    obtain ⟨b, us, rfl, e2, r2⟩ := seqL_rep sim ry h2
    obtain ⟨w1, w2⟩ := mkL_want sim (r1.append r2) w
    exact ⟨l, b, vs, us, rfl, rfl, e1, e2, by simpa using w1, w2⟩
  have other : (addP live p q M = match seqL M p, seqL M q with | some xs, some ys => mkL live (xs ++ ys) M | _, _ => .bad) → rCat x y H Q := fun e => by
    rw [e] at w
    cases h1 : seqL M p with
    | none => rw [h1] at w; exact w.elim
    | some xs =>
      cases h2 : seqL M q with
      | none => rw [h1, h2] at w; exact w.elim
      | some ys => rw [h1, h2] at w; exact lists h1 h2 w
  cases p with
  | int i =>
    cases q with
    | int j => exact .inl ⟨i, j, Rep.int_iff.mp rx, Rep.int_iff.mp ry, w ι S H _ .refl sim (Rep.int_iff.mpr rfl)⟩
    | _ => exact .inr (.inr (other rfl))
  | tup xs =>
    cases q with
    | tup ys =>
      refine .inr (.inl ?_)
      simp only [addP] at w
      split at w
      · rename_i hc
        obtain ⟨l, vs, rfl, e1, r1⟩ := Rep.tup_iff.mp rx
        obtain ⟨b, us, rfl, e2, r2⟩ := Rep.tup_iff.mp ry
        refine ⟨l, b, vs, us, rfl, rfl, .of (sim.sub _ _ e1), .of (sim.sub _ _ e2), fun z => ?_, ?_, fun z => ?_, fun _ p hp => ?_⟩
        · subst z
          have := r1.length
          cases xs with
          | nil => cases hc.1
          | cons _ _ => simp at this
        · rw [← r1.length, ← r2.length]; exact lim_line hc.2
        · subst z
          have := r2.length
          cases ys with
          | nil =>
            rw [List.append_nil] at w
            exact w ι S H _ .refl sim rx
          | cons _ _ => simp at this
        · obtain ⟨s2, e2⟩ := sim.tree (o := .tup (vs ++ us)) hp
          exact w _ _ _ _ e2 s2 (Rep.tup_iff.mpr ⟨p, _, rfl, upd_same, (r1.append r2).mono e2⟩)
      · exact w.elim
    | _ => exact .inr (.inr (other rfl))
  | _ => exact .inr (.inr (other (by cases q <;> rfl)))
theorem op_addP (live : Bool) : OpR X (binaryOp .Add) (rP X.K (addP live)) := (op_add.or (op_catT.or op_cat)).imp fun x y H Q h => by
  rcases addP_cases h with ⟨i, j, hx, hy, q⟩ | h | h
  · exact .inl ⟨i, j, hx, hy, q⟩
  · exact .inr (.inl h)
  · exact .inr (.inr h)
def mulP (live : Bool) : D2 := fun x y M => match x, y with
  | .int i, .int j => if (small i || small j) = true then .ok (.int (i * j)) M else .bad
  | x, .int k => match seqL M x with
    | some xs => if small k = true ∧ k < 2 ^ 62 ∧ -(2 ^ 62) < k ∧ xs.length * k.toNat ≤ lim then mkL live (List.replicate k.toNat xs).flatten M else .bad
    | none => .bad
  | _, _ => .bad
@[simp] theorem mulP_int {live : Bool} {i j : Int} {M : Sto} (h : (small i || small j) = true) : mulP live (.int i) (.int j) M = .ok (.int (i * j)) M := by unfold mulP; simp only [if_pos h]
theorem op_mulP (live : Bool) : OpR X (binaryOp .Mult) (rP X.K (mulP live)) := (op_mul.or op_rep).imp fun x y H Q h => by
  obtain ⟨E, ι, S, M, p, q, sim, rx, ry, w⟩ := h
  have rep : ∀ {k : Int}, q = .int k → (mulP live p q M = match seqL M p with
    | some xs => if small k = true ∧ k < 2 ^ 62 ∧ -(2 ^ 62) < k ∧ xs.length * k.toNat ≤ lim then mkL live (List.replicate k.toNat xs).flatten M else .bad
    | none => .bad) → rRep x y H Q := fun {k} e1 e2 => by
    subst e1
    rw [e2] at w
    cases h1 : seqL M p with
    | none => rw [h1] at w; exact w.elim
    | some xs =>
      rw [h1] at w
      obtain ⟨l, vs, rfl, e3, r1⟩ := seqL_rep sim rx h1
      dsimp only at w
      split at w
      · rename_i hc
        obtain ⟨w1, w2⟩ := mkL_want sim (r1.rep k.toNat) w
        have hy := Rep.int_iff.mp ry
        subst hy
        refine ⟨l, k, vs, rfl, rfl, e3, ?_, ?_, ?_, w2⟩
        · have := hc.2.2.1; omega
        · have := hc.2.1; omega
        · rw [← r1.length]; exact lim_line hc.2.2.2
      · exact w.elim
  cases q with
  | int j =>
    cases p with
    | int i =>
      left
      simp only [mulP] at w
      split at w
      · rename_i hc
        refine ⟨i, j, Rep.int_iff.mp rx, Rep.int_iff.mp ry, ?_, w ι S H _ .refl sim (Rep.int_iff.mpr rfl)⟩
        rcases Bool.or_eq_true_iff.mp hc with z | z
        · exact .inl (of_decide_eq_true z)
        · exact .inr (of_decide_eq_true z)
      · exact w.elim
    | _ => exact .inr (rep rfl rfl)
  | _ => cases p <;> exact w.elim
end
end L2
end
section
set_option Elab.async false
set_option linter.all false
set_option maxRecDepth 100000
set_option maxHeartbeats 4000000
namespace L2
open PySem PySem.Spec PyProof.Rows
def mapO {α β : Type} (f : α → Option β) : List α → Option (List β)
  | [] => some []
  | x :: xs => match f x, mapO f xs with
    | some y, some ys => some (y :: ys)
    | _, _ => none
def leaf : PV → Option PyData
  | .non => some .none
  | .bl b => some (.bool b)
  | .int i => some (.int i)
  | .str x => if PyData.canLay0 (.str x) = true then some (.str x) else none
  | _ => none
def flat (M : Sto) : Nat → PV → Option PyData
  | 0, x => leaf x
  | k + 1, x => match x with
    | .lst xs => (mapO (flat M k) xs).map .list
    | .tup xs => (mapO (flat M k) xs).map .tuple
    | .obj n => match M[n]? with
      | some (.lst xs) => (mapO (flat M k) xs).map .list
      | _ => none
    | x => leaf x
theorem leaf_ok {K : PySem.W.Frag} {ι : List Addr} {S : Hp} {h : Heap} {x : PV} {v : V} {u : Value} {d : PyData} (r : Rep K ι S x v) (ru : RelV v u) (e : leaf x = some d) : Reads h u d [] ∧ d.canLay0 = true ∧ d.depth = 0 := by
  cases x with
  | non =>
    cases e
    cases Rep.non_iff.mp r
    cases ru
    exact ⟨.none, rfl, rfl⟩
  | bl b =>
    cases e
    cases Rep.bl_iff.mp r
    cases ru
    exact ⟨.bool b, rfl, rfl⟩
  | int i =>
    cases e
    cases Rep.int_iff.mp r
    obtain ⟨t, rfl⟩ := ru
    exact ⟨.int i t, rfl, rfl⟩
  | str z =>
    simp only [leaf] at e
    split at e
    · rename_i hc
      cases e
      cases Rep.str_iff.mp r
      obtain ⟨t, rfl⟩ := ru
      exact ⟨.str z t, hc, rfl⟩
    · cases e
  | _ => cases e
theorem flats_ok {K : PySem.W.Frag} {ι : List Addr} {S : Hp} {h : Heap} {k : Nat} {f : PV → Option PyData}
    (ih : ∀ x v u d, Rep K ι S x v → RelV v u → f x = some d → (∃ as, Reads h u d as) ∧ d.canLay0 = true ∧ d.depth ≤ k) :
    ∀ (xs : List PV) (vs : List V) (us : List Value) (ds : List PyData), Reps K ι S xs vs → Vals vs us → mapO f xs = some ds → (∃ as, ReadsAll h us ds as) ∧ PyData.canLayAll0 ds = true ∧ PyData.depthAll ds ≤ k
  | [], vs, us, ds, r, ru, e => by
    rw [Reps] at r
    subst r
    cases ru
    cases e
    exact ⟨⟨_, .nil⟩, rfl, Nat.zero_le _⟩
  | x :: xs, vs, us, ds, r, ru, e => by
    obtain ⟨v, r', rfl, h1, h2⟩ := r.uncons
    cases ru with
    | cons q1 q2 =>
      rw [mapO] at e
      cases e1 : f x with
      | none => rw [e1] at e; cases e
      | some y =>
        cases e2 : mapO f xs with
        | none => rw [e1, e2] at e; cases e
        | some ys =>
          rw [e1, e2] at e
          cases e
          obtain ⟨⟨as, a1⟩, a2, a3⟩ := ih x v _ y h1 q1 e1
          obtain ⟨⟨bs, b1⟩, b2, b3⟩ := flats_ok ih xs r' _ ys h2 q2 e2
          refine ⟨⟨_, .cons a1 b1⟩, ?_, ?_⟩
          · rw [PyData.canLayAll0, a2, b2]; rfl
          · rw [PyData.depthAll]; exact Nat.max_le.mpr ⟨a3, b3⟩
theorem flat_ok {P : Program} {w : World} {K : PySem.W.Frag} {ι : List Addr} {S H : Hp} {M : Sto} {h : Heap} (sim : SimH K ι S M H) (hok : HOk P w H h) :
    ∀ (k : Nat) (x : PV) (v : V) (u : Value) (d : PyData), Rep K ι S x v → RelV v u → flat M k x = some d → (∃ as, Reads h u d as) ∧ d.canLay0 = true ∧ d.depth ≤ k
  | 0, x, v, u, d, r, ru, e => by
    obtain ⟨h1, h2, h3⟩ := leaf_ok (h := h) r ru e
    exact ⟨⟨_, h1⟩, h2, Nat.le_of_eq h3⟩
  | k + 1, x, v, u, d, r, ru, e => by
    have ih := flat_ok sim hok k
    have lst : ∀ {a : Addr} {xs : List PV} {vs : List V}, v = .ref a → H a = some (.lst vs) → Reps K ι S xs vs → (mapO (flat M k) xs).map .list = some d → (∃ as, Reads h u d as) ∧ d.canLay0 = true ∧ d.depth ≤ k + 1 := fun {a xs vs} ev eH hr e => by
      subst ev
      cases ru
      obtain ⟨_, its, n, hv, hg⟩ := hok a _ eH
      cases e2 : mapO (flat M k) xs with
      | none => rw [e2] at e; cases e
      | some ds =>
        rw [e2] at e
        cases e
        obtain ⟨⟨as, a1⟩, a2, a3⟩ := flats_ok ih xs vs its ds hr hv e2
        exact ⟨⟨_, .list hg rfl rfl (by simpa using a1)⟩, by rw [PyData.canLay0]; exact a2, by rw [PyData.depth]; exact Nat.succ_le_succ a3⟩
    cases x with
    | lst xs =>
      obtain ⟨a, vs, ev, eS, hr⟩ := Rep.lst_iff.mp r
      exact lst ev (sim.sub _ _ eS) hr e
    | tup xs =>
      obtain ⟨a, vs, rfl, eS, hr⟩ := Rep.tup_iff.mp r
      cases ru
      obtain ⟨_, its, hv, o, hg, hc, n, hd⟩ := hok a _ (sim.sub _ _ eS)
      have e : (mapO (flat M k) xs).map PyData.tuple = some d := e
      cases e2 : mapO (flat M k) xs with
      | none => rw [e2] at e; cases e
      | some ds =>
        rw [e2] at e
        cases e
        obtain ⟨⟨as, a1⟩, a2, a3⟩ := flats_ok ih xs vs its ds hr hv e2
        exact ⟨⟨_, .tuple hg hc hd (by simpa using a1)⟩, by rw [PyData.canLay0]; exact a2, by rw [PyData.depth]; exact Nat.succ_le_succ a3⟩
    | obj n =>
      obtain ⟨a, ev, ei⟩ := Rep.obj_iff.mp r
      obtain ⟨o, eM, mo⟩ := sim.addr ei
      simp only [flat, eM] at e
      cases o with
      | lst xs =>
        obtain ⟨_, vs, eH, hr⟩ := mo
        exact lst ev eH hr e
      | _ => cases e
    | _ =>
      obtain ⟨h1, h2, h3⟩ := leaf_ok (h := h) r ru e
      exact ⟨⟨_, h1⟩, h2, by omega⟩
abbrev deep : Nat := 10
section
variable {X : Cx} {Ex : St → XK} {a b c e : Expr} {es : List Expr} {da db dc d : DE} {ds : List DE} {pos : Pos}
def eqP (neg : Bool) : D2 := fun x y M => match flat M deep x, flat M deep y with
  | some p, some q => .ok (.bl (if neg then !PyData.eqv p q else PyData.eqv p q)) M
  | _, _ => .bad
theorem eqP_inv {K : PySem.W.Frag} {neg : Bool} {x y : V} {H : Hp} {Q : VK} (h : rP K (eqP neg) x y H Q) :
    ∃ ι S M p q d1 d2, SimH K ι S M H ∧ Rep K ι S p x ∧ Rep K ι S q y ∧ flat M deep p = some d1 ∧ flat M deep q = some d2 ∧ Q (.bl (if neg then !PyData.eqv d1 d2 else PyData.eqv d1 d2)) H := by
  obtain ⟨E, ι, S, M, p, q, sim, rx, ry, w⟩ := h
  unfold eqP at w
  cases e1 : flat M deep p with
  | none => rw [e1] at w; exact w.elim
  | some d1 =>
    cases e2 : flat M deep q with
    | none => rw [e1, e2] at w; exact w.elim
    | some d2 =>
      rw [e1, e2] at w
      exact ⟨ι, S, M, p, q, d1, d2, sim, rx, ry, e1, e2, w ι S H _ .refl sim (Rep.bl_iff.mpr rfl)⟩
theorem op_eqP (hu : X.A.units + 64 < cLine) : OpR X (compareOp .Eq) (rP X.K (eqP false)) := by
  intro pins s σ H x y v u Q I rx ry h
  obtain ⟨ι, S, M, p, q, d1, d2, sim, px, py, e1, e2, w⟩ := eqP_inv h
  obtain ⟨⟨as, a1⟩, a2, a3⟩ := flat_ok sim I.hok deep p x v d1 px rx e1
  obtain ⟨⟨bs, b1⟩, b2, b3⟩ := flat_ok sim I.hok deep q y u d2 py ry e2
  exact SeqAt.compareEq_reads a1 b1 a2 b2 (by have := Nat.min_le_left d1.depth d2.depth; have : d1.depth ≤ 10 := a3; omega) ⟨.bl _, H, I, rfl, w⟩
theorem op_neP (hu : X.A.units + 64 < cLine) : OpR X (compareOp .NotEq) (rP X.K (eqP true)) := by
  intro pins s σ H x y v u Q I rx ry h
  obtain ⟨ι, S, M, p, q, d1, d2, sim, px, py, e1, e2, w⟩ := eqP_inv h
  obtain ⟨⟨as, a1⟩, a2, a3⟩ := flat_ok sim I.hok deep p x v d1 px rx e1
  obtain ⟨⟨bs, b1⟩, b2, b3⟩ := flat_ok sim I.hok deep q y u d2 py ry e2
  exact SeqAt.compareNe_reads a1 b1 a2 b2 (by have := Nat.min_le_left d1.depth d2.depth; have : d1.depth ≤ 10 := a3; omega) ⟨.bl _, H, I, rfl, w⟩
def keyP : PV → Option Key
  | .int i => some (.inl i)
  | .str x => some (.inr x)
  | _ => none
def keysP : PV → Option (List Key)
  | .tup xs => mapO keyP xs
  | _ => none
def valP {κ : Type} [DecidableEq κ] (kvs : List (κ × PV)) (k : κ) : Option PV := (kvs.find? fun kv => decide (kv.1 = k)).map (·.2)
def putP {κ : Type} [DecidableEq κ] (kvs : List (κ × PV)) (k : κ) (v : PV) : List (κ × PV) :=
  if kvs.any (fun kv => decide (kv.1 = k)) then kvs.map (fun kv => if kv.1 = k then (kv.1, v) else kv) else kvs ++ [(k, v)]
def dropP {κ : Type} [DecidableEq κ] (kvs : List (κ × PV)) (k : κ) : List (κ × PV) := kvs.filter fun kv => decide (kv.1 ≠ k)
theorem keyP_rep {K : PySem.W.Frag} {ι : List Addr} {S : Hp} {x : PV} {v : V} {k : Key} (r : Rep K ι S x v) (e : keyP x = some k) : v = kV k := by
  cases x with
  | int i => cases e; exact Rep.int_iff.mp r
  | str z => cases e; exact Rep.str_iff.mp r
  | _ => cases e
theorem keysP_rep {K : PySem.W.Frag} {ι : List Addr} {S : Hp} : ∀ {xs : List PV} {vs : List V} {ks : List Key}, Reps K ι S xs vs → mapO keyP xs = some ks → vs = ks.map kV
  | [], vs, ks, r, e => by rw [Reps] at r; subst r; cases e; rfl
  | x :: xs, vs, ks, r, e => by
    obtain ⟨v, r', rfl, h1, h2⟩ := r.uncons
    rw [mapO] at e
    cases e1 : keyP x with
    | none => rw [e1] at e; cases e
    | some k =>
      cases e2 : mapO keyP xs with
      | none => rw [e1, e2] at e; cases e
      | some ks' =>
        rw [e1, e2] at e
        cases e
        rw [List.map_cons, ← keyP_rep h1 e1, ← keysP_rep h2 e2]
theorem RepKs.val {K : PySem.W.Frag} {ι : List Addr} {S : Hp} {κ : Type} [DecidableEq κ] {kvs : List (κ × PV)} {kus : List (κ × V)} (h : RepKs K ι S kvs kus) (k : κ) :
    (valP kvs k = none ∧ valV kus k = none) ∨ ∃ x v, valP kvs k = some x ∧ valV kus k = some v ∧ Rep K ι S x v := by
  induction h with
  | nil => exact .inl ⟨rfl, rfl⟩
  | @cons p q kvs kus r t ih =>
    obtain ⟨r1, r2⟩ := r
    by_cases e : p.1 = k
    · refine .inr ⟨p.2, q.2, by simp [valP, List.find?_cons, e], by rw [valV_pos (r1 ▸ e)], r2⟩
    · have e' : ¬ q.1 = k := r1 ▸ e
      have h1 : valP (p :: kvs) k = valP kvs k := by simp [valP, List.find?_cons, e]
      rw [h1, valV_neg e']
      exact ih
theorem RepKs.any {K : PySem.W.Frag} {ι : List Addr} {S : Hp} {κ : Type} [DecidableEq κ] {kvs : List (κ × PV)} {kus : List (κ × V)} (h : RepKs K ι S kvs kus) (k : κ) : kvs.any (fun kv => decide (kv.1 = k)) = kus.any (fun kv => decide (kv.1 = k)) := by
  induction h with
  | nil => rfl
  | cons r t ih => rw [List.any_cons, List.any_cons, r.1, ih]
theorem RepKs.put {K : PySem.W.Frag} {ι : List Addr} {S : Hp} {κ : Type} [DecidableEq κ] {kvs : List (κ × PV)} {kus : List (κ × V)} (h : RepKs K ι S kvs kus) (k : κ) {x : PV} {v : V} (r : Rep K ι S x v) : RepKs K ι S (putP kvs k x) (putK kus k v) := by
  unfold putP putK
  rw [h.any k]
  split
  · induction h with
    | nil => exact .nil
    | @cons p q kvs kus r' t ih =>
      rw [List.map_cons, List.map_cons]
      refine .cons ?_ ?_
      · by_cases e : p.1 = k
        · rw [if_pos e, if_pos (r'.1 ▸ e)]; exact ⟨r'.1, r⟩
        · rw [if_neg e, if_neg (r'.1 ▸ e)]; exact r'
      · rename_i hq
        clear ih hq
        induction t with
        | nil => exact .nil
        | @cons p q kvs kus r' t ih =>
          rw [List.map_cons, List.map_cons]
          refine .cons ?_ ih
          by_cases e : p.1 = k
          · rw [if_pos e, if_pos (r'.1 ▸ e)]; exact ⟨r'.1, r⟩
          · rw [if_neg e, if_neg (r'.1 ▸ e)]; exact r'
  · induction h with
    | nil => exact .cons ⟨rfl, r⟩ .nil
    | cons r' t ih =>
      rename_i hq
      refine .cons r' (ih ?_)
      intro z
      exact hq (by rw [List.any_cons, z, Bool.or_true])
theorem RepKs.drop {K : PySem.W.Frag} {ι : List Addr} {S : Hp} {κ : Type} [DecidableEq κ] {kvs : List (κ × PV)} {kus : List (κ × V)} (h : RepKs K ι S kvs kus) (k : κ) : RepKs K ι S (dropP kvs k) (dropK kus k) := by
  unfold dropP dropK
  induction h with
  | nil => exact .nil
  | @cons p q kvs kus r t ih =>
    rw [List.filter_cons, List.filter_cons, ← r.1]
    split
    · exact .cons r ih
    · exact ih
def getD (M : Sto) (x k : PV) : Option (Option PV) := match x with
  | .obj n => match M[n]? with
    | some (.dct kvs) => (keyP k).map (valP kvs)
    | some (.dtp kvs) => (keysP k).map (valP kvs)
    | _ => none
  | _ => none
theorem getD_rep {K : PySem.W.Frag} {ι : List Addr} {S H : Hp} {M : Sto} {x k : PV} {v y : V} {o : Option PV} (sim : SimH K ι S M H) (r : Rep K ι S x v) (ry : Rep K ι S k y) (h : getD M x k = some o) :
    ∃ p ov, v = .ref p ∧ IsD H p ∧ DGet H p y ov ∧ ((o = none ∧ ov = none) ∨ ∃ z w, o = some z ∧ ov = some w ∧ Rep K ι S z w) := by
  cases x with
  | obj n =>
    obtain ⟨p, rfl, ei⟩ := Rep.obj_iff.mp r
    obtain ⟨mo, eM, q⟩ := sim.addr ei
    simp only [getD, eM] at h
    cases mo with
    | dct kvs =>
      obtain ⟨_, kus, eH, rk⟩ := q
      dsimp only at h
      cases ek : keyP k with
      | none => rw [ek] at h; cases h
      | some kk =>
        rw [ek] at h
        cases h
        have := keyP_rep ry ek
        subst this
        refine ⟨p, valV kus kk, rfl, .inl ⟨kus, .inl eH⟩, DGet.k eH, ?_⟩
        rcases rk.val kk with ⟨h1, h2⟩ | ⟨z, w, h1, h2, h3⟩
        · exact .inl ⟨h1, h2⟩
        · exact .inr ⟨z, w, h1, h2, h3⟩
    | dtp kvs =>
      obtain ⟨_, kus, eH, rk⟩ := q
      dsimp only at h
      cases k with
      | tup xs =>
        obtain ⟨b, vs, rfl, eS, hr⟩ := Rep.tup_iff.mp ry
        simp only [keysP] at h
        cases ek : mapO keyP xs with
        | none => rw [ek] at h; cases h
        | some kk =>
          rw [ek] at h
          cases h
          have := keysP_rep hr ek
          subst this
          refine ⟨p, valV kus kk, rfl, .inr ⟨kus, .inl eH⟩, DGet.t eH (sim.sub _ _ eS), ?_⟩
          rcases rk.val kk with ⟨h1, h2⟩ | ⟨z, w, h1, h2, h3⟩
          · exact .inl ⟨h1, h2⟩
          · exact .inr ⟨z, w, h1, h2, h3⟩
      | _ => cases h
    | _ => cases h
  | _ => cases h
def inP (neg : Bool) : D2 := fun x y M => match seqA M y with
  | some ys => match flat M deep x, mapO (flat M deep) ys with
    | some p, some qs => .ok (.bl (if neg then !qs.any (fun q => PyData.eqv q p) else qs.any (fun q => PyData.eqv q p))) M
    | _, _ => .bad
  | none => match getD M y x with
    | some o => .ok (.bl (if neg then !o.isSome else o.isSome)) M
    | none => .bad
theorem inP_ok (neg : Bool) (hu : X.A.units + 64 < cLine) {op : CmpOp}
    (hL : ∀ {s : Shared} {c x : Value} {xs : List PyData} {d : PyData} {as bs : List Addr} {Q : Value → Shared → Prop} (rc : Reads s.heap c (.list xs) as) (rx : Reads s.heap x d bs) (hxs : PyData.canLayAll0 xs = true) (hd : d.canLay0 = true)
      (hu : X.A.units + 1 + min (PyData.depthAll xs) d.depth < cLine) (h : Q (.bool (if neg then !xs.any (fun y => PyData.eqv y d) else xs.any fun y => PyData.eqv y d)) s), wpAny (model X.prog X.w) X.A (compareOp op x c) Q X.xe s)
    (hT : ∀ {s : Shared} {c x : Value} {xs : List PyData} {d : PyData} {as bs : List Addr} {Q : Value → Shared → Prop} (rc : Reads s.heap c (.tuple xs) as) (rx : Reads s.heap x d bs) (hxs : PyData.canLayAll0 xs = true) (hd : d.canLay0 = true)
      (hu : X.A.units + 1 + min (PyData.depthAll xs) d.depth < cLine) (h : Q (.bool (if neg then !xs.any (fun y => PyData.eqv y d) else xs.any fun y => PyData.eqv y d)) s), wpAny (model X.prog X.w) X.A (compareOp op x c) Q X.xe s)
    (hD : ∀ {pins : List (Addr × Obj)} {s : Shared} {σ : St} {H : Hp} {p : Addr} {y : V} {u : Value} {o : Option V} {Q : Value → Shared → Prop}, Inv X pins σ H s → DGet H p y o → RelV y u → (∀ s', Inv X pins σ H s' → Q (.bool (if neg then !o.isSome else o.isSome)) s') →
      wpAny (model X.prog X.w) X.A (compareOp op u (.ref p)) Q X.xe s) : OpR X (compareOp op) (rP X.K (inP neg)) := by
  intro pins s σ H x y v u Q I rx ry h
  obtain ⟨E, ι, S, M, p, q, sim, px, py, w⟩ := h
  unfold inP at w
  cases e1 : seqA M q with
  | some ys =>
    rw [e1] at w
    dsimp only at w
    cases e2 : flat M deep p with
    | none => rw [e2] at w; exact w.elim
    | some d =>
      cases e3 : mapO (flat M deep) ys with
      | none => rw [e2, e3] at w; exact w.elim
      | some qs =>
        rw [e2, e3] at w
        have fin := w ι S H _ .refl sim (Rep.bl_iff.mpr rfl)
        obtain ⟨⟨as, a1⟩, a2, a3⟩ := flat_ok sim I.hok deep p x v d px rx e2
        obtain ⟨l, vs, rfl, hq, rs⟩ := seqA_rep sim py e1
        cases ry
        have room : X.A.units + 1 + min (PyData.depthAll qs) d.depth < cLine := by have := Nat.min_le_right (PyData.depthAll qs) d.depth; have : d.depth ≤ 10 := a3; omega
        rcases hq with hq | hq
        · obtain ⟨its, rv, pl, hz⟩ := I.list hq
          obtain ⟨⟨bs, b1⟩, b2, b3⟩ := flats_ok (flat_ok sim I.hok deep) ys vs its qs rs rv e3
          obtain ⟨o, n, ho, hc, _, hd⟩ := pl
          exact hL (.list ho hc hd (by simpa using b1)) a1 b2 a2 room ⟨.bl _, H, I, rfl, fin⟩
        · obtain ⟨its, rv, pl, hz⟩ := I.tuple hq
          obtain ⟨⟨bs, b1⟩, b2, b3⟩ := flats_ok (flat_ok sim I.hok deep) ys vs its qs rs rv e3
          obtain ⟨o, ho, hc, n, hd⟩ := pl
          exact hT (.tuple ho hc hd (by simpa using b1)) a1 b2 a2 room ⟨.bl _, H, I, rfl, fin⟩
  | none =>
    rw [e1] at w
    dsimp only at w
    cases e2 : getD M q p with
    | none => rw [e2] at w; exact w.elim
    | some o =>
      rw [e2] at w
      have fin := w ι S H _ .refl sim (Rep.bl_iff.mpr rfl)
      obtain ⟨l, ov, rfl, _, g, hh⟩ := getD_rep sim py px e2
      cases ry
      have eo : o.isSome = ov.isSome := by
        rcases hh with ⟨h1, h2⟩ | ⟨z, w', h1, h2, _⟩
        · rw [h1, h2]; rfl
        · rw [h1, h2]; rfl
      rw [eo] at fin
      exact hD I g rx fun s' I' => ⟨.bl _, H, I', rfl, fin⟩
theorem op_inP (hu : X.A.units + 64 < cLine) : OpR X (compareOp .In) (rP X.K (inP false)) :=
  inP_ok false hu (fun rc rx hxs hd hu h => SeqAt.in_list_reads rc rx hxs hd hu h) (fun rc rx hxs hd hu h => SeqAt.in_tuple_reads rc rx hxs hd hu h) fun I g ry h => d_in (by omega) I g ry h
theorem op_ninP (hu : X.A.units + 64 < cLine) : OpR X (compareOp .NotIn) (rP X.K (inP true)) :=
  inP_ok true hu (fun rc rx hxs hd hu h => SeqAt.notIn_list_reads rc rx hxs hd hu h) (fun rc rx hxs hd hu h => SeqAt.notIn_tuple_reads rc rx hxs hd hu h) fun I g ry h => d_notIn (by omega) I g ry h
def ltP : D2 := intP (fun _ _ => true) fun i j => .bl (decide (i < j))
def leP : D2 := intP (fun _ _ => true) fun i j => .bl (decide (i ≤ j))
def gtP : D2 := intP (fun _ _ => true) fun i j => .bl (decide (j < i))
def geP : D2 := intP (fun _ _ => true) fun i j => .bl (decide (j ≤ i))
theorem op_ltP : OpR X (compareOp .Lt) (rP X.K ltP) := op_lt.imp fun x y H Q h => by
  obtain ⟨i, j, rfl, rfl, _, ι, S, M, sim, k⟩ := intP_inv h
  exact ⟨i, j, rfl, rfl, k _ (Rep.bl_iff.mpr rfl)⟩
theorem op_leP : OpR X (compareOp .LtE) (rP X.K leP) := op_le.imp fun x y H Q h => by
  obtain ⟨i, j, rfl, rfl, _, ι, S, M, sim, k⟩ := intP_inv h
  exact ⟨i, j, rfl, rfl, k _ (Rep.bl_iff.mpr rfl)⟩
theorem op_gtP : OpR X (compareOp .Gt) (rP X.K gtP) := op_gt.imp fun x y H Q h => by
  obtain ⟨i, j, rfl, rfl, _, ι, S, M, sim, k⟩ := intP_inv h
  exact ⟨i, j, rfl, rfl, k _ (Rep.bl_iff.mpr rfl)⟩
theorem op_geP : OpR X (compareOp .GtE) (rP X.K geP) := op_ge.imp fun x y H Q h => by
  obtain ⟨i, j, rfl, rfl, _, ι, S, M, sim, k⟩ := intP_inv h
  exact ⟨i, j, rfl, rfl, k _ (Rep.bl_iff.mpr rfl)⟩
def isNon : PV → Bool
  | .non => true
  | _ => false
theorem isNon_rep {K : PySem.W.Frag} {ι : List Addr} {S : Hp} {x : PV} {v : V} (r : Rep K ι S x v) : decide (v = .non) = isNon x := by
  cases x with
  | non => cases Rep.non_iff.mp r; rfl
  | bl b => cases Rep.bl_iff.mp r; rfl
  | int i => cases Rep.int_iff.mp r; rfl
  | str z => cases Rep.str_iff.mp r; rfl
  | lst xs => obtain ⟨p, vs, rfl, _⟩ := Rep.lst_iff.mp r; rfl
  | tup xs => obtain ⟨p, vs, rfl, _⟩ := Rep.tup_iff.mp r; rfl
  | obj n => obtain ⟨p, rfl, _⟩ := Rep.obj_iff.mp r; rfl
  | scr n => obtain ⟨p, rfl, _⟩ := Rep.scr_iff.mp r; rfl
def isP (neg : Bool) : D2 := fun x y M => match y with
  | .non => .ok (.bl (if neg then !isNon x else isNon x)) M
  | _ => .bad
theorem op_isP : OpR X (compareOp .Is) (rP X.K (isP false)) := op_isN.imp fun x y H Q h => by
  obtain ⟨E, ι, S, M, p, q, sim, rx, ry, w⟩ := h
  cases q with
  | non =>
    refine ⟨Rep.non_iff.mp ry, ?_⟩
    rw [isNon_rep rx]
    exact w ι S H _ .refl sim (Rep.bl_iff.mpr rfl)
  | _ => exact w.elim
theorem op_isnP : OpR X (compareOp .IsNot) (rP X.K (isP true)) := op_notN.imp fun x y H Q h => by
  obtain ⟨E, ι, S, M, p, q, sim, rx, ry, w⟩ := h
  cases q with
  | non =>
    refine ⟨Rep.non_iff.mp ry, ?_⟩
    rw [isNon_rep rx]
    exact w ι S H _ .refl sim (Rep.bl_iff.mpr rfl)
  | _ => exact w.elim
theorem ve_cmp {op : CmpOp} {f : D2} (ho : OpR X (compareOp op) (rP X.K f)) (ha : VE X Ex a da) (hb : VE X Ex b db) (hm : behindInMarks op b = false := by rfl) : VE X Ex (.Compare a [op] [b] pos) (dOp f da db) :=
  PE.imp (pe_cmpR ho ha hb hm) fun _ _ _ h => dOp_t h
def truP (M : Sto) : PV → Option Bool
  | .non => some false
  | .bl b => some b
  | .int i => some (i != 0)
  | .str x => if x.length ≤ lim then some ((x.length : Int) != 0) else none
  | .lst xs => some !xs.isEmpty
  | .tup xs => some !xs.isEmpty
  | .scr ns => some !ns.isEmpty
  | .obj n => match M[n]? with
    | some (.lst xs) => some !xs.isEmpty
    | some (.dct kvs) => some !kvs.isEmpty
    | _ => none
theorem isEmpty_eq {α β : Type} {xs : List α} {ys : List β} (h : xs.length = ys.length) : xs.isEmpty = ys.isEmpty := by cases xs <;> cases ys <;> simp_all
theorem truP_rep {K : PySem.W.Frag} {ι : List Addr} {S H : Hp} {M : Sto} {x : PV} {v : V} {k : Bool} (sim : SimH K ι S M H) (r : Rep K ι S x v) (h : truP M x = some k) : TruV K v H k := by
  cases x with
  | non => cases Rep.non_iff.mp r; cases h; rfl
  | bl b => cases Rep.bl_iff.mp r; cases h; rfl
  | int i => cases Rep.int_iff.mp r; cases h; rfl
  | str z =>
    cases Rep.str_iff.mp r
    simp only [truP] at h
    split at h
    · cases h
      rename_i hl
      exact ⟨lim_line hl, rfl⟩
    · cases h
  | lst xs =>
    obtain ⟨p, vs, rfl, e, q⟩ := Rep.lst_iff.mp r
    cases h
    exact .inl ⟨vs, .of (sim.sub _ _ e), by rw [isEmpty_eq q.length]⟩
  | tup xs =>
    obtain ⟨p, vs, rfl, e, q⟩ := Rep.tup_iff.mp r
    cases h
    exact .inr (.inl ⟨vs, .of (sim.sub _ _ e), by rw [isEmpty_eq q.length]⟩)
  | scr ns =>
    obtain ⟨p, rfl, e⟩ := Rep.scr_iff.mp r
    cases h
    exact .inl ⟨_, e.mono sim.sub, by rw [isEmpty_eq (by simp : ns.length = (ns.map V.int).length)]⟩
  | obj n =>
    obtain ⟨p, rfl, e⟩ := Rep.obj_iff.mp r
    obtain ⟨o, eM, q⟩ := sim.addr e
    simp only [truP, eM] at h
    cases o with
    | lst xs =>
      cases h
      obtain ⟨_, vs, e, q⟩ := q
      exact .inl ⟨vs, .of e, by rw [isEmpty_eq q.length]⟩
    | dct xs =>
      cases h
      obtain ⟨_, vs, e, q⟩ := q
      exact .inr (.inr ⟨vs, e, by rw [isEmpty_eq q.length]⟩)
    | _ => cases h
def dTru (d : DE) : DT := fun ρ M => (d ρ M).bind fun x M1 => Res.opt (truP M1 x) M1
theorem vt_truth (ha : VE X Ex a da) (he : ∀ whole, isTrue a X.env whole = (do let v ← whole; standAt a.pos; holding [v] (truthy v)) := by intro _; rfl) : VT X Ex a (dTru da) := by
  refine PT.imp (pt_truth ha he) fun σ H Q h => ?_
  obtain ⟨ι, S, M, ρ, sim, sl, w⟩ := h
  refine ⟨ι, S, M, ρ, sim, sl, Want.bind (Rp := RpE X.K) w fun ι1 S1 M1 H1 x v e1 s1 r1 w1 => ?_⟩
  cases e : truP M1 x with
  | none => rw [e] at w1; exact w1.elim
  | some k =>
    rw [e] at w1
    exact ⟨k, truP_rep s1 r1 e, w1 ι1 S1 H1 k .refl s1 rfl⟩
def dTst (d : DE) : DT := fun ρ M => (d ρ M).bind fun x M1 => match x with
  | .bl k => .ok k M1
  | _ => .bad
theorem dTst_t {K : PySem.W.Frag} {σ : St} {H : Hp} {Q : Bool → Hp → Prop} {t : TE} (h : tG K RpB Ex (dTst d) σ H Q) (hd : ∀ Q', tG K (RpE K) Ex d σ H Q' → t σ H Q') : tTest t σ H Q := by
  obtain ⟨ι, S, M, ρ, sim, sl, w⟩ := h
  refine hd _ ⟨ι, S, M, ρ, sim, sl, ?_⟩
  refine Want.bind (Rp := RpE K) w fun ι1 S1 M1 H1 x v e1 s1 r1 w1 => ?_
  cases x with
  | bl k => exact ⟨k, Rep.bl_iff.mp r1, w1 ι1 S1 H1 k .refl s1 rfl⟩
  | _ => exact w1.elim
theorem vt_cmp {op : CmpOp} {f : D2} (ho : OpR X (compareOp op) (rP X.K f)) (ha : VE X Ex a da) (hb : VE X Ex b db) (hm : behindInMarks op b = false := by rfl) :
    VT X Ex (.Compare a [op] [b] pos) (dTst (dOp f da db)) :=
  PT.imp (pt_cmpR ho ha hb hm) fun σ H Q h => dTst_t h fun Q' h' => dOp_t h'
def dChain (f g : D2) (da db dc : DE) : DE := fun ρ M => (da ρ M).bind fun x M1 => (db ρ M1).bind fun y M2 => (f x y M2).bind fun z M3 => match z with
  | .bl true => (dc ρ M3).bind fun w M4 => g y w M4
  | .bl false => .ok (.bl false) M3
  | _ => .bad
theorem dChain_t {f g : D2} {K : PySem.W.Frag} {σ : St} {H : Hp} {Q : VK} (h : tG K (RpE K) Ex (dChain f g da db dc) σ H Q) : tChain (rP K f) (rP K g) (tG K (RpE K) Ex da) (tG K (RpE K) Ex db) (tG K (RpE K) Ex dc) σ H Q := by
  obtain ⟨ι, S, M, ρ, sim, sl, w⟩ := h
  refine ⟨ι, S, M, ρ, sim, sl, Want.bind (Rp := RpE K) w fun ι1 S1 M1 H1 x v e1 s1 r1 w1 => ?_⟩
  refine ⟨ι1, S1, M1, ρ, s1, sl.mono e1, Want.bind (Rp := RpE K) w1 fun ι2 S2 M2 H2 y u e2 s2 r2 w2 => ?_⟩
  refine ⟨_, ι2, S2, M2, x, y, s2, Rep.mono e2 r1, r2, Want.bind (Rp := RpE K) w2 fun ι3 S3 M3 H3 z t e3 s3 r3 w3 => ?_⟩
  cases z with
  | bl k =>
    refine ⟨k, Rep.bl_iff.mp r3, ?_⟩
    cases k with
    | false => exact iteF (w3 ι3 S3 H3 _ .refl s3 (Rep.bl_iff.mpr rfl))
    | true =>
      refine iteT ⟨ι3, S3, M3, ρ, s3, (sl.mono e1).mono (e2.trans e3), Want.bind (Rp := RpE K) w3 fun ι4 S4 M4 H4 c t4 e4 s4 r4 w4 => ?_⟩
      exact ⟨_, ι4, S4, M4, y, c, s4, Rep.mono (e3.trans e4) r2, r4, w4⟩
  | _ => exact w3.elim
theorem ve_chain {op op' : CmpOp} {f g : D2} (ho : OpR X (compareOp op) (rP X.K f)) (ho' : OpR X (compareOp op') (rP X.K g)) (ha : VE X Ex a da) (hb : VE X Ex b db) (hc : VE X Ex c dc)
    (hm : lastMarks [op, op'] [b, c] = false := by with_unfolding_all rfl) : VE X Ex (.Compare a [op, op'] [b, c] pos) (dChain f g da db dc) :=
  PE.imp (pe_chain ho ho' ha hb hc hm) fun _ _ _ h => dChain_t h
theorem vt_chain {op op' : CmpOp} {f g : D2} (ho : OpR X (compareOp op) (rP X.K f)) (ho' : OpR X (compareOp op') (rP X.K g)) (ha : VE X Ex a da) (hb : VE X Ex b db) (hc : VE X Ex c dc)
    (hm : lastMarks [op, op'] [b, c] = false := by with_unfolding_all rfl) : VT X Ex (.Compare a [op, op'] [b, c] pos) (dTst (dChain f g da db dc)) :=
  PT.imp (pt_chain ho ho' ha hb hc hm) fun σ H Q h => dTst_t h fun Q' h' => dChain_t h'
variable {ta tb tc : DT} {rest : List Expr}
def dAnd (ta tb : DT) : DT := fun ρ M => (ta ρ M).bind fun k M1 => if k = true then tb ρ M1 else .ok false M1
def dOr (ta tb : DT) : DT := fun ρ M => (ta ρ M).bind fun k M1 => if k = true then .ok true M1 else tb ρ M1
def dNot (ta : DT) : DT := fun ρ M => (ta ρ M).bind fun k M1 => .ok (!k) M1
theorem vw_and1 (h : VT X Ex a ta) : VW X Ex (.BoolOp .And [a] pos) ta := pw_and1 h
theorem vw_or1 (h : VT X Ex a ta) : VW X Ex (.BoolOp .Or [a] pos) ta := pw_or1 h
theorem vw_and (ha : VT X Ex a ta) (hb : VW X Ex (.BoolOp .And (b :: rest) pos) tb) : VW X Ex (.BoolOp .And (a :: b :: rest) pos) (dAnd ta tb) := by
  refine PW.imp (pw_and ha hb) fun σ H Q h => ?_
  obtain ⟨ι, S, M, ρ, sim, sl, w⟩ := h
  refine ⟨ι, S, M, ρ, sim, sl, Want.bind (Rp := RpB) w fun ι1 S1 M1 H1 x v e1 s1 r1 w1 => ?_⟩
  cases r1
  cases x with
  | false => exact iteF (w1 ι1 S1 H1 false .refl s1 rfl)
  | true => exact iteT ⟨ι1, S1, M1, ρ, s1, sl.mono e1, w1⟩
theorem vw_or (ha : VT X Ex a ta) (hb : VW X Ex (.BoolOp .Or (b :: rest) pos) tb) : VW X Ex (.BoolOp .Or (a :: b :: rest) pos) (dOr ta tb) := by
  refine PW.imp (pw_or ha hb) fun σ H Q h => ?_
  obtain ⟨ι, S, M, ρ, sim, sl, w⟩ := h
  refine ⟨ι, S, M, ρ, sim, sl, Want.bind (Rp := RpB) w fun ι1 S1 M1 H1 x v e1 s1 r1 w1 => ?_⟩
  cases r1
  cases x with
  | true => exact iteT (w1 ι1 S1 H1 true .refl s1 rfl)
  | false => exact iteF ⟨ι1, S1, M1, ρ, s1, sl.mono e1, w1⟩
theorem vt_not (ha : VT X Ex a ta) : VT X Ex (.UnaryOp .Not a pos) (dNot ta) := by
  refine PT.imp (pt_not ha) fun σ H Q h => ?_
  obtain ⟨ι, S, M, ρ, sim, sl, w⟩ := h
  refine ⟨ι, S, M, ρ, sim, sl, Want.bind (Rp := RpB) w fun ι1 S1 M1 H1 x v e1 s1 r1 w1 => ?_⟩
  cases r1
  exact w1 ι1 S1 H1 _ .refl s1 rfl
def dAndV (da db : DE) : DE := fun ρ M => (da ρ M).bind fun x M1 => match x with
  | .bl true => db ρ M1
  | .bl false => .ok (.bl false) M1
  | _ => .bad
def dOrV (da db : DE) : DE := fun ρ M => (da ρ M).bind fun x M1 => match x with
  | .bl false => db ρ M1
  | .bl true => .ok (.bl true) M1
  | _ => .bad
def dNotV (da : DE) : DE := fun ρ M => (da ρ M).bind fun x M1 => match x with
  | .bl k => .ok (.bl (!k)) M1
  | _ => .bad
theorem ve_one {op} (h : VE X Ex a da) : VE X Ex (.BoolOp op [a] pos) da := pe_one h
theorem ve_and (ha : VE X Ex a da) (hb : VE X Ex (.BoolOp .And (b :: rest) pos) db) : VE X Ex (.BoolOp .And (a :: b :: rest) pos) (dAndV da db) := by
  refine PE.imp (pe_and ha hb) fun σ H Q h => ?_
  obtain ⟨ι, S, M, ρ, sim, sl, w⟩ := h
  refine ⟨ι, S, M, ρ, sim, sl, Want.bind (Rp := RpE X.K) w fun ι1 S1 M1 H1 x v e1 s1 r1 w1 => ?_⟩
  cases x with
  | bl k =>
    refine ⟨k, Rep.bl_iff.mp r1, ?_⟩
    cases k with
    | false => exact iteF (w1 ι1 S1 H1 _ .refl s1 (Rep.bl_iff.mpr rfl))
    | true => exact iteT ⟨ι1, S1, M1, ρ, s1, sl.mono e1, w1⟩
  | _ => exact w1.elim
theorem ve_or (ha : VE X Ex a da) (hb : VE X Ex (.BoolOp .Or (b :: rest) pos) db) : VE X Ex (.BoolOp .Or (a :: b :: rest) pos) (dOrV da db) := by
  refine PE.imp (pe_or ha hb) fun σ H Q h => ?_
  obtain ⟨ι, S, M, ρ, sim, sl, w⟩ := h
  refine ⟨ι, S, M, ρ, sim, sl, Want.bind (Rp := RpE X.K) w fun ι1 S1 M1 H1 x v e1 s1 r1 w1 => ?_⟩
  cases x with
  | bl k =>
    refine ⟨k, Rep.bl_iff.mp r1, ?_⟩
    cases k with
    | true => exact iteT (w1 ι1 S1 H1 _ .refl s1 (Rep.bl_iff.mpr rfl))
    | false => exact iteF ⟨ι1, S1, M1, ρ, s1, sl.mono e1, w1⟩
  | _ => exact w1.elim
theorem ve_not (ha : VE X Ex a da) : VE X Ex (.UnaryOp .Not a pos) (dNotV da) := by
  refine PE.imp (pe_not ha) fun σ H Q h => ?_
  obtain ⟨ι, S, M, ρ, sim, sl, w⟩ := h
  refine ⟨ι, S, M, ρ, sim, sl, Want.bind (Rp := RpE X.K) w fun ι1 S1 M1 H1 x v e1 s1 r1 w1 => ?_⟩
  cases x with
  | bl k => exact ⟨k, Rep.bl_iff.mp r1, w1 ι1 S1 H1 _ .refl s1 (Rep.bl_iff.mpr rfl)⟩
  | _ => exact w1.elim
def dIf (tc : DT) (da db : DE) : DE := fun ρ M => (tc ρ M).bind fun k M1 => if k = true then da ρ M1 else db ρ M1
theorem ve_if (hc : VT X Ex c tc) (ha : VE X Ex a da) (hb : VE X Ex b db) : VE X Ex (.IfExp c a b pos) (dIf tc da db) := by
  refine PE.imp (pe_ifExp hc ha hb) fun σ H Q h => ?_
  obtain ⟨ι, S, M, ρ, sim, sl, w⟩ := h
  refine ⟨ι, S, M, ρ, sim, sl, Want.bind (Rp := RpB) w fun ι1 S1 M1 H1 x v e1 s1 r1 w1 => ?_⟩
  cases r1
  cases x with
  | true => exact iteT ⟨ι1, S1, M1, ρ, s1, sl.mono e1, w1⟩
  | false => exact iteF ⟨ι1, S1, M1, ρ, s1, sl.mono e1, w1⟩
end
end L2
end
section
set_option Elab.async false
set_option linter.all false
set_option maxRecDepth 100000
set_option maxHeartbeats 4000000
namespace L2
open PySem PySem.Spec PyProof.Rows
section
variable {X : Cx} {Ex : St → XK} {a b c e o : Expr} {es : List Expr} {da db dc d do' : DE} {ds : List DE} {pos apos cpos : Pos}
theorem ix_dict (hu : X.A.units + 64 < cLine) : IxR X (fun x y H Q => ∃ p v, x = .ref p ∧ DGet H p y (some v) ∧ Q v H) := by
  intro value slice pins s σ H x y v u Q I rx ry h hs
  obtain ⟨p, z, rfl, g, q⟩ := h
  cases rx
  exact tail_any (dict_typeIs I g) PySem.F.slot_dict_getitem.lookup (d_getItem (by omega) I g ry fun w' s3 I3 rw' => ⟨z, H, I3, rw', q⟩) hs
def ixP : D2 := fun x y M => match seqA M x with
  | some xs => match y with
    | .int i => Res.opt (atI xs i) M
    | _ => .bad
  | none => match getD M x y with
    | some (some z) => .ok z M
    | _ => .bad
theorem atI_reps {K : PySem.W.Frag} {ι : List Addr} {S : Hp} {xs : List PV} {vs : List V} {i : Int} {x : PV} (r : Reps K ι S xs vs) (h : atI xs i = some x) : ∃ v, atI vs i = some v ∧ Rep K ι S x v := by
  unfold atI at h ⊢
  rw [← r.length]
  cases e : ixN xs.length i with
  | none => rw [e] at h; cases h
  | some j =>
    rw [e] at h
    exact r.get h
theorem ix_P (hu : X.A.units + 64 < cLine) : IxR X (rP X.K ixP) := by
  have base := (ix_list (X := X)).or (ix_tup.or (ix_dict hu))
  intro value slice pins s σ H x y v u Q I rx ry h hs
  refine base value slice pins s σ H x y v u Q I rx ry ?_ hs
  obtain ⟨E, ι, S, M, p, q, sim, px, py, w⟩ := h
  unfold ixP at w
  cases e1 : seqA M p with
  | some xs =>
    rw [e1] at w
    dsimp only at w
    cases q with
    | int i =>
      dsimp only at w
      cases e2 : atI xs i with
      | none => rw [e2] at w; exact w.elim
      | some z =>
        rw [e2] at w
        obtain ⟨l, vs, rfl, hq, rs⟩ := seqA_rep sim px e1
        obtain ⟨z', h1, h2⟩ := atI_reps rs e2
        have fin := w ι S H z' .refl sim h2
        rcases hq with hq | hq
        · exact .inl ⟨l, vs, i, z', rfl, Rep.int_iff.mp py, hq, h1, fin⟩
        · exact .inr (.inl ⟨l, vs, i, z', rfl, Rep.int_iff.mp py, hq, h1, fin⟩)
    | _ => exact w.elim
  | none =>
    rw [e1] at w
    dsimp only at w
    cases e2 : getD M p q with
    | none => rw [e2] at w; exact w.elim
    | some oo =>
      cases oo with
      | none => rw [e2] at w; exact w.elim
      | some z =>
        rw [e2] at w
        obtain ⟨l, ov, rfl, _, g, hh⟩ := getD_rep sim px py e2
        rcases hh with ⟨h1, _⟩ | ⟨z', w', h1, h2, h3⟩
        · cases h1
        · cases h1
          subst h2
          exact .inr (.inr ⟨l, w', rfl, g, w ι S H w' .refl sim h3⟩)
theorem ve_ix (hu : X.A.units + 64 < cLine) (ha : VE X Ex a da) (hb : VE X Ex b db) (hs : PlainIx b := by intro _ _; rfl) : VE X Ex (.Subscript a b pos) (dOp ixP da db) :=
  PE.imp (pe_ix (ix_P hu) ha hb hs) fun _ _ _ h => dOp_t h
abbrev DO := Rho → Sto → Res (Option Int)
abbrev RpO : List Addr → Hp → Option Int → Option Int → Prop := fun _ _ x v => v = x
def VO (X : Cx) (Ex : St → XK) (e : Option Expr) (d : DO) : Prop := PO X e (tG X.K RpO Ex d)
theorem PO.imp {e : Option Expr} {t t' : TO} (h : PO X e t) (i : ∀ σ H Q, t' σ H Q → t σ H Q) : PO X e t' := fun pins s σ H Q I hw => h pins s σ H Q I (i σ H Q hw)
def dNoPart : DO := fun _ M => .ok none M
def dPart (d : DE) : DO := fun ρ M => (d ρ M).bind fun x M1 => match x with
  | .int i => .ok (some i) M1
  | _ => .bad
theorem vo_none : VO X Ex none dNoPart := by
  refine PO.imp po_none fun σ H Q h => ?_
  obtain ⟨ι, S, M, ρ, sim, sl, w⟩ := h
  exact w ι S H none .refl sim rfl
theorem vo_some (h : VE X Ex e d) : VO X Ex (some e) (dPart d) := by
  refine PO.imp (po_some h) fun σ H Q h => ?_
  obtain ⟨ι, S, M, ρ, sim, sl, w⟩ := h
  refine ⟨ι, S, M, ρ, sim, sl, Want.bind (Rp := RpE X.K) w fun ι1 S1 M1 H1 x v e1 s1 r1 w1 => ?_⟩
  cases x with
  | int i => exact ⟨i, Rep.int_iff.mp r1, w1 ι1 S1 H1 _ .refl s1 rfl⟩
  | _ => exact w1.elim
def cutP (xs : List PV) (lo hi : Option Int) : List PV := (xs.drop (HT.sIx xs.length 0 lo)).take (HT.sIx xs.length xs.length hi - HT.sIx xs.length 0 lo)
theorem Reps.cutP {K : PySem.W.Frag} {ι : List Addr} {S : Hp} {xs : List PV} {vs : List V} (r : Reps K ι S xs vs) (lo hi : Option Int) : Reps K ι S (cutP xs lo hi) (cutV vs lo hi) := by
  unfold L2.cutP cutV
  rw [r.length]
  exact (r.drop _).take _
def slP (live : Bool) (x : PV) (lo hi : Option Int) (M : Sto) : Res PV := match x with
  | .tup xs => if HT.sIx xs.length 0 lo = 0 ∧ HT.sIx xs.length xs.length hi = xs.length then .bad else .ok (.tup (cutP xs lo hi)) M
  | x => match seqL M x with
    | some xs => mkL live (cutP xs lo hi) M
    | none => .bad
def rSlP (K : PySem.W.Frag) (live : Bool) : V → Option Int → Option Int → Hp → VK → Prop := fun x lo hi H Q => ∃ E ι S M p, SimH K ι S M H ∧ Rep K ι S p x ∧ Want K (RpE K) E ι S H Q (slP live p lo hi M)
theorem SlR.imp {r r' : V → Option Int → Option Int → Hp → VK → Prop} (h : SlR X r) (i : ∀ x lo hi H Q, r' x lo hi H Q → r x lo hi H Q) : SlR X r' := fun pins s σ H x v vl vu lo hi sl Q I rx hs pl pu q => h pins s σ H x v vl vu lo hi sl Q I rx hs pl pu (i _ _ _ _ _ q)
theorem sl_P (live : Bool) : SlR X (rSlP X.K live) := (sl_list.or sl_tup).imp fun x lo hi H Q h => by
  obtain ⟨E, ι, S, M, p, sim, px, w⟩ := h
  have lists : ∀ {xs : List PV}, seqL M p = some xs → Want X.K (RpE X.K) E ι S H Q (mkL live (cutP xs lo hi) M) → rSlL X.K x lo hi H Q := fun {xs} h1 w => by
    obtain ⟨l, vs, rfl, e1, r1⟩ := seqL_rep sim px h1
    obtain ⟨w1, w2⟩ := mkL_want sim (r1.cutP lo hi) w
    exact ⟨l, vs, rfl, .of e1, w2⟩
  have other : (slP live p lo hi M = match seqL M p with | some xs => mkL live (cutP xs lo hi) M | none => .bad) → rSlL X.K x lo hi H Q := fun e => by
    rw [e] at w
    cases h1 : seqL M p with
    | none => rw [h1] at w; exact w.elim
    | some xs => rw [h1] at w; exact lists h1 w
  cases p with
  | tup xs =>
    right
    simp only [slP] at w
    split at w
    · exact w.elim
    · rename_i hc
      obtain ⟨l, vs, rfl, e1, r1⟩ := Rep.tup_iff.mp px
      refine ⟨l, vs, rfl, .of (sim.sub _ _ e1), by rw [← r1.length]; exact hc, fun p hp => ?_⟩
      obtain ⟨s2, e2⟩ := sim.tree (o := .tup (cutV vs lo hi)) hp
      exact w _ _ _ _ e2 s2 (Rep.tup_iff.mpr ⟨p, _, rfl, upd_same, (r1.cutP lo hi).mono e2⟩)
  | _ => exact .inl (other rfl)
def dSl (live : Bool) (da : DE) (dl dh : DO) : DE := fun ρ M => (da ρ M).bind fun x M1 => (dl ρ M1).bind fun lo M2 => (dh ρ M2).bind fun hi M3 => slP live x lo hi M3
theorem ve_sl (live : Bool) {lo hi : Option Expr} {dl dh : DO} {p2 : Pos} (he : VE X Ex e d) (hl : VO X Ex lo dl) (hh : VO X Ex hi dh) : VE X Ex (.Subscript e (.Slice lo hi none p2) pos) (dSl live d dl dh) := by
  refine PE.imp (pe_slice (sl_P live) he hl hh) fun σ H Q h => ?_
  obtain ⟨ι, S, M, ρ, sim, sl, w⟩ := h
  refine ⟨ι, S, M, ρ, sim, sl, Want.bind (Rp := RpE X.K) w fun ι1 S1 M1 H1 x v e1 s1 r1 w1 => ?_⟩
  refine ⟨ι1, S1, M1, ρ, s1, sl.mono e1, Want.bind (Rp := RpO) w1 fun ι2 S2 M2 H2 l l' e2 s2 r2 w2 => ?_⟩
  cases r2
  refine ⟨ι2, S2, M2, ρ, s2, sl.mono (e1.trans e2), Want.bind (Rp := RpO) w2 fun ι3 S3 M3 H3 h h' e3 s3 r3 w3 => ?_⟩
  cases r3
  exact ⟨_, ι3, S3, M3, x, s3, Rep.mono (e2.trans e3) r1, w3⟩
def frzP (x : PV) (M : Sto) : Res PV := match x with
  | .obj n => match M[n]? with
    | some (.lst xs) => .ok (.lst xs) (M.set n .gone)
    | _ => .ok x M
  | x => .ok x M
def dFrz (d : DE) : DE := fun ρ M => (d ρ M).bind fun x M1 => frzP x M1
theorem ve_frz (h : VE X Ex e d) : VE X Ex e (dFrz d) := by
  refine PE.imp h fun σ H Q hh => ?_
  obtain ⟨ι, S, M, ρ, sim, sl, w⟩ := hh
  refine ⟨ι, S, M, ρ, sim, sl, Want.bind (Rp := RpE X.K) w fun ι1 S1 M1 H1 x v e1 s1 r1 w1 => ?_⟩
  have keep : Want X.K (RpE X.K) (Ex σ) ι1 S1 H1 Q (.ok x M1) → Q v H1 := fun w => w ι1 S1 H1 v .refl s1 r1
  cases x with
  | obj n =>
    simp only [frzP] at w1
    cases eM : M1[n]? with
    | none => rw [eM] at w1; exact keep w1
    | some o =>
      rw [eM] at w1
      cases o with
      | lst xs =>
        obtain ⟨p, rfl, ei⟩ := Rep.obj_iff.mp r1
        obtain ⟨S', s2, e2, r2⟩ := s1.freeze ei eM
        exact w1 _ _ _ _ e2 s2 r2
      | _ => exact keep w1
  | _ => exact keep w1
abbrev D1 := List PV → Sto → Res PV
def rC (K : PySem.W.Frag) (f : D1) : List V → Hp → VK → Prop := fun vs H Q => ∃ E ι S M xs, SimH K ι S M H ∧ Reps K ι S xs vs ∧ Want K (RpE K) E ι S H Q (f xs M)
theorem CallR.imp {f : Value} {r r' : List V → Hp → VK → Prop} (h : CallR X f r) (i : ∀ xs H Q, r' xs H Q → r xs H Q) : CallR X f r' := fun pins s σ H xs us Q I rs q => h pins s σ H xs us Q I rs (i _ _ _ q)
def dCall (f : D1) (ds : List DE) : DE := fun ρ M => (dArgs ds ρ M).bind fun xs M1 => f xs M1
theorem dCall_t {f : D1} {K : PySem.W.Frag} {σ : St} {H : Hp} {Q : VK} (h : tG K (RpE K) Ex (dCall f ds) σ H Q) : tCB (rC K f) (tG K (RpN K ds.length) Ex (dArgs ds)) σ H Q := by
  obtain ⟨ι, S, M, ρ, sim, sl, w⟩ := h
  refine ⟨ι, S, M, ρ, sim, sl, Want.bind (Rp := RpN K ds.length) w fun ι1 S1 M1 H1 x v e1 s1 r1 w1 => ?_⟩
  exact ⟨_, ι1, S1, M1, x, s1, r1.1, w1⟩
theorem ve_callB {f : D1} {x : Str} {id : String} {p : Pos} (hc : CallR X (.builtin id) (rC X.K f)) (hm : X.mg x = none) (hv : bootBuiltins x = some (.builtin id)) (ha : VN X Ex (e :: es) ds) (hg : Gl X x := by rfl) (hn : x ≠ "__name__" := by decide) (hdb : (x == ("__debug__" : Str)) = false := by decide)
    (he : starEach (e :: es) X.env = (false, eval e X.env) :: starEach es X.env := by rfl) (hpl : (backTo pos (starEach es X.env)).any (·.1) = false := by rfl) : VE X Ex (.Call (.Name x p) (e :: es) [] pos) (dCall f ds) :=
  PE.imp (pe_callB hc hg hm hv ha hn hdb he hpl) fun _ _ _ h => dCall_t h
theorem ve_callTy {f : D1} {x : Str} {T : String} {p : Pos} (hc : CallR X (.type T) (rC X.K f)) (hm : X.mg x = none) (hv : bootBuiltins x = some (.type T)) (ha : VN X Ex (e :: es) ds) (hg : Gl X x := by rfl) (hn : x ≠ "__name__" := by decide) (hdb : (x == ("__debug__" : Str)) = false := by decide)
    (he : starEach (e :: es) X.env = (false, eval e X.env) :: starEach es X.env := by rfl) (hpl : (backTo pos (starEach es X.env)).any (·.1) = false := by rfl) : VE X Ex (.Call (.Name x p) (e :: es) [] pos) (dCall f ds) :=
  PE.imp (pe_callTy hc hg hm hv ha hn hdb he hpl) fun _ _ _ h => dCall_t h
theorem Reps.one_inv {K : PySem.W.Frag} {ι : List Addr} {S : Hp} {x : PV} {vs : List V} (h : Reps K ι S [x] vs) : ∃ v, vs = [v] ∧ Rep K ι S x v := by
  obtain ⟨v, r, rfl, h1, h2⟩ := h.uncons
  rw [Reps] at h2
  subst h2
  exact ⟨v, rfl, h1⟩
theorem Reps.two_inv {K : PySem.W.Frag} {ι : List Addr} {S : Hp} {x y : PV} {vs : List V} (h : Reps K ι S [x, y] vs) : ∃ v w, vs = [v, w] ∧ Rep K ι S x v ∧ Rep K ι S y w := by
  obtain ⟨v, r, rfl, h1, h2⟩ := h.uncons
  obtain ⟨w, rfl, h3⟩ := h2.one_inv
  exact ⟨v, w, rfl, h1, h3⟩
def lenP : D1 := fun xs M => match xs with
  | [x] => match seqA M x with
    | some ys => .ok (.int ys.length) M
    | none => match x with
      | .obj n => match M[n]? with
        | some (.dct kvs) => .ok (.int kvs.length) M
        | _ => .bad
      | _ => .bad
  | _ => .bad
theorem call_lenP : CallR X (.builtin "len") (rC X.K lenP) := (call_len_seq.or call_lenD).imp fun vs H Q h => by
  obtain ⟨E, ι, S, M, xs, sim, r, w⟩ := h
  unfold lenP at w
  match xs, r, w with
  | [], r, w => exact w.elim
  | x :: y :: z, r, w => exact w.elim
  | [x], r, w =>
    obtain ⟨v, rfl, r1⟩ := r.one_inv
    dsimp only at w
    cases e1 : seqA M x with
    | some ys =>
      rw [e1] at w
      obtain ⟨p, vs, rfl, hq, rs⟩ := seqA_rep sim r1 e1
      refine .inl ⟨p, vs, rfl, hq, ?_⟩
      rw [← rs.length]
      exact w ι S H _ .refl sim (Rep.int_iff.mpr rfl)
    | none =>
      rw [e1] at w
      dsimp only at w
      cases x with
      | obj n =>
        obtain ⟨p, rfl, ei⟩ := Rep.obj_iff.mp r1
        obtain ⟨o, eM, q⟩ := sim.addr ei
        simp only [eM] at w
        cases o with
        | dct kvs =>
          obtain ⟨_, kus, eH, rk⟩ := q
          refine .inr ⟨p, kus, rfl, eH, ?_⟩
          rw [← rk.length]
          exact w ι S H _ .refl sim (Rep.int_iff.mpr rfl)
        | _ => exact w.elim
      | _ => exact w.elim
def listP (live : Bool) : D1 := fun xs M => match xs with
  | [x] => match seqA M x with
    | some ys => mkL live ys M
    | none => .bad
  | _ => .bad
theorem call_listP (live : Bool) : CallR X (.type "list") (rC X.K (listP live)) := call_list_of.imp fun vs H Q h => by
  obtain ⟨E, ι, S, M, xs, sim, r, w⟩ := h
  unfold listP at w
  match xs, r, w with
  | [], r, w => exact w.elim
  | x :: y :: z, r, w => exact w.elim
  | [x], r, w =>
    obtain ⟨v, rfl, r1⟩ := r.one_inv
    dsimp only at w
    cases e1 : seqA M x with
    | none => rw [e1] at w; exact w.elim
    | some ys =>
      rw [e1] at w
      obtain ⟨p, vs, rfl, hq, rs⟩ := seqA_rep sim r1 e1
      exact ⟨p, vs, rfl, hq, (mkL_want sim rs w).2⟩
def tupleP : D1 := fun xs M => match xs with
  | [x] => match seqL M x with
    | some ys => .ok (.tup ys) M
    | none => match x with
      | .tup ys => .ok (.tup ys) M
      | _ => .bad
  | _ => .bad
theorem call_tupleP : CallR X (.type "tuple") (rC X.K tupleP) := call_tuple_of.imp fun vs H Q h => by
  obtain ⟨E, ι, S, M, xs, sim, r, w⟩ := h
  unfold tupleP at w
  match xs, r, w with
  | [], r, w => exact w.elim
  | x :: y :: z, r, w => exact w.elim
  | [x], r, w =>
    obtain ⟨v, rfl, r1⟩ := r.one_inv
    dsimp only at w
    cases e1 : seqL M x with
    | some ys =>
      rw [e1] at w
      obtain ⟨p, vs, rfl, eH, rs⟩ := seqL_rep sim r1 e1
      refine ⟨p, vs, rfl, .inl ⟨.of eH, fun l hl => ?_⟩⟩
      obtain ⟨s2, e2⟩ := sim.tree (o := .tup vs) hl
      exact w _ _ _ _ e2 s2 (Rep.tup_iff.mpr ⟨l, _, rfl, upd_same, rs.mono e2⟩)
    | none =>
      rw [e1] at w
      dsimp only at w
      cases x with
      | tup ys =>
        obtain ⟨p, vs, rfl, e, q⟩ := Rep.tup_iff.mp r1
        exact ⟨p, vs, rfl, .inr ⟨.of (sim.sub _ _ e), w ι S H _ .refl sim r1⟩⟩
      | _ => exact w.elim
def intoP : D1 := fun xs M => match xs with
  | [.int i] => .ok (.int i) M
  | [.bl b] => .ok (.int (if b then 1 else 0)) M
  | _ => .bad
theorem call_intoP : CallR X (.type "int") (rC X.K intoP) := call_int1.imp fun vs H Q h => by
  obtain ⟨E, ι, S, M, xs, sim, r, w⟩ := h
  unfold intoP at w
  split at w
  · obtain ⟨v, rfl, r1⟩ := r.one_inv
    cases Rep.int_iff.mp r1
    exact .inl ⟨_, rfl, w ι S H _ .refl sim (Rep.int_iff.mpr rfl)⟩
  · obtain ⟨v, rfl, r1⟩ := r.one_inv
    cases Rep.bl_iff.mp r1
    exact .inr ⟨_, rfl, w ι S H _ .refl sim (Rep.int_iff.mpr rfl)⟩
  · exact w.elim
def maxP : D1 := fun xs M => match xs with
  | [.int i, .int j] => .ok (.int (if j > i then j else i)) M
  | _ => .bad
def minP : D1 := fun xs M => match xs with
  | [.int i, .int j] => .ok (.int (if j < i then j else i)) M
  | _ => .bad
theorem call_maxP (hc : X.calm = true) : CallR X (.builtin "max") (rC X.K maxP) := (call_max2 hc).imp fun vs H Q h => by
  obtain ⟨E, ι, S, M, xs, sim, r, w⟩ := h
  unfold maxP at w
  split at w
  · obtain ⟨v, u, rfl, r1, r2⟩ := r.two_inv
    cases Rep.int_iff.mp r1
    cases Rep.int_iff.mp r2
    exact ⟨_, _, rfl, w ι S H _ .refl sim (Rep.int_iff.mpr rfl)⟩
  · exact w.elim
theorem call_minP (hc : X.calm = true) : CallR X (.builtin "min") (rC X.K minP) := (call_min2 hc).imp fun vs H Q h => by
  obtain ⟨E, ι, S, M, xs, sim, r, w⟩ := h
  unfold minP at w
  split at w
  · obtain ⟨v, u, rfl, r1, r2⟩ := r.two_inv
    cases Rep.int_iff.mp r1
    cases Rep.int_iff.mp r2
    exact ⟨_, _, rfl, w ι S H _ .refl sim (Rep.int_iff.mpr rfl)⟩
  · exact w.elim
abbrev DM := PV → List PV → Sto → Res PV
def rM (K : PySem.W.Frag) (f : DM) : V → List V → Hp → VK → Prop := fun v vs H Q => ∃ E ι S M x xs, SimH K ι S M H ∧ Rep K ι S x v ∧ Reps K ι S xs vs ∧ Want K (RpE K) E ι S H Q (f x xs M)
theorem MtR.imp {id : String} {r r' : V → List V → Hp → VK → Prop} (h : MtR X id r) (i : ∀ x xs H Q, r' x xs H Q → r x xs H Q) : MtR X id r' := fun pins s σ H x xs v us Q I rx rs q => h pins s σ H x xs v us Q I rx rs (i _ _ _ _ q)
def dMeth (f : DM) (do' : DE) (ds : List DE) : DE := fun ρ M => (do' ρ M).bind fun x M1 => match seqL M1 x with
  | some _ => (dArgs ds ρ M1).bind fun xs M2 => f x xs M2
  | none => .bad
theorem ve_lm {f : DM} {name : Str} {id : String} (slot : Slot "list" name id) (hty : typeOf (.builtin id) = pure (.type "method_descriptor")) (hm : MtR X id (rM X.K f)) (ho : VE X Ex o do') (ha : VN X Ex (e :: es) ds)
    (hbase : attributeBase o name X.env (eval o X.env) = eval o X.env := by rfl)
    (hfew : ((backTo cpos (starEach (e :: es) X.env)).all (fun x => !x.1) && (backToKw cpos (keywordEach [] X.env)).all (fun x => x.1.isSome)
      && decide ((e :: es).length + ([] : List Keyword).length + (if ([] : List Keyword).isEmpty then 0 else 1) < 30)) = true := by rfl)
    (hline : (apos.endLine == cpos.line) = true := by rfl) (hs : starEach (e :: es) X.env = (false, eval e X.env) :: starEach es X.env := by rfl) (hplain : (backTo cpos (starEach es X.env)).any (·.1) = false := by rfl) :
    VE X Ex (.Call (.Attribute o name apos) (e :: es) [] cpos) (dMeth f do' ds) := by
  refine PE.imp (pe_bm PySem.F.plainAttrs_list slot hty hm ho ha hbase hfew hline hs hplain) fun σ H Q h => ?_
  obtain ⟨ι, S, M, ρ, sim, sl, w⟩ := h
  refine ⟨ι, S, M, ρ, sim, sl, Want.bind (Rp := RpE X.K) w fun ι1 S1 M1 H1 x v e1 s1 r1 w1 => ?_⟩
  cases e2 : seqL M1 x with
  | none => rw [e2] at w1; exact w1.elim
  | some ys =>
    rw [e2] at w1
    obtain ⟨p, vs, rfl, eH, rs⟩ := seqL_rep s1 r1 e2
    refine ⟨.inl ⟨rfl, vs, .of eH⟩, ι1, S1, M1, ρ, s1, sl.mono e1, Want.bind (Rp := RpN X.K ds.length) w1 fun ι2 S2 M2 H2 xs us e3 s2 r2 w2 => ?_⟩
    exact ⟨_, ι2, S2, M2, x, xs, s2, Rep.mono e3 r1, r2.1, w2⟩
theorem ve_lm0 {f : DM} {name : Str} {id : String} (slot : Slot "list" name id) (hty : typeOf (.builtin id) = pure (.type "method_descriptor")) (hm : MtR X id (rM X.K f)) (ho : VE X Ex o do')
    (hbase : attributeBase o name X.env (eval o X.env) = eval o X.env := by rfl) (hline : (apos.endLine == cpos.line) = true := by rfl) : VE X Ex (.Call (.Attribute o name apos) [] [] cpos) (dMeth f do' []) := by
  refine PE.imp (pe_bm0 PySem.F.plainAttrs_list slot hty hm ho hbase hline) fun σ H Q h => ?_
  obtain ⟨ι, S, M, ρ, sim, sl, w⟩ := h
  refine ⟨ι, S, M, ρ, sim, sl, Want.bind (Rp := RpE X.K) w fun ι1 S1 M1 H1 x v e1 s1 r1 w1 => ?_⟩
  cases e2 : seqL M1 x with
  | none => rw [e2] at w1; exact w1.elim
  | some ys =>
    rw [e2] at w1
    obtain ⟨p, vs, rfl, eH, rs⟩ := seqL_rep s1 r1 e2
    exact ⟨.inl ⟨rfl, vs, .of eH⟩, ⟨_, ι1, S1, M1, x, [], s1, r1, .nil, w1⟩⟩
def onL (x : PV) (M : Sto) (k : Nat → List PV → Res PV) : Res PV := match x with
  | .obj n => match M[n]? with
    | some (.lst xs) => k n xs
    | _ => .bad
  | _ => .bad
theorem onL_inv {K : PySem.W.Frag} {E : XK} {ι : List Addr} {S H : Hp} {M : Sto} {x : PV} {v : V} {Q : VK} {k : Nat → List PV → Res PV} (sim : SimH K ι S M H) (r : Rep K ι S x v) (w : Want K (RpE K) E ι S H Q (onL x M k)) :
    ∃ n p xs vs, v = .ref p ∧ ι[n]? = some p ∧ M[n]? = some (.lst xs) ∧ H p = some (.lst vs) ∧ S p = none ∧ Reps K ι S xs vs ∧ Want K (RpE K) E ι S H Q (k n xs) := by
  cases x with
  | obj n =>
    obtain ⟨p, rfl, ei⟩ := Rep.obj_iff.mp r
    obtain ⟨o, eM, q⟩ := sim.addr ei
    simp only [onL, eM] at w
    cases o with
    | lst xs =>
      obtain ⟨hS, vs, eH, rs⟩ := q
      exact ⟨n, p, xs, vs, rfl, ei, eM, eH, hS, rs, w⟩
    | _ => exact w.elim
  | _ => exact w.elim
theorem put_lst {K : PySem.W.Frag} {ι : List Addr} {S H : Hp} {M : Sto} {n : Nat} {p : Addr} {ys : List PV} {us : List V} (sim : SimH K ι S M H) (hi : ι[n]? = some p) (hS : S p = none) (r : Reps K ι S ys us) : SimH K ι S (M.set n (.lst ys)) (upd H p (.lst us)) ∧ Ext ι S H ι S (upd H p (.lst us)) :=
  sim.put hi hS ⟨hS, us, upd_same, r⟩
def appendP : DM := fun x as M => match as with
  | [y] => onL x M fun n xs => if xs.length < lim then .ok .non (M.set n (.lst (xs ++ [y]))) else .bad
  | _ => .bad
theorem mt_appendP : MtR X "list.append" (rM X.K appendP) := MtR.imp (r := rAppend) mt_append fun v vs H Q h => by
  obtain ⟨E, ι, S, M, x, xs, sim, r, rs, w⟩ := h
  unfold appendP at w
  split at w
  · obtain ⟨u, rfl, r1⟩ := rs.one_inv
    obtain ⟨n, p, ys, us, rfl, hi, eM, eH, hS, rr, w⟩ := onL_inv sim r w
    split at w
    · rename_i hl
      refine ⟨p, us, u, rfl, rfl, eH, by rw [← rr.length]; exact lim_lt hl, ?_⟩
      obtain ⟨sp, ep⟩ := put_lst sim hi hS (rr.append (.one r1))
      exact w ι S _ _ ep sp (Rep.non_iff.mpr rfl)
    · exact w.elim
  · exact w.elim
def extendP : DM := fun x as M => match as with
  | [y] => onL x M fun n xs => match seqL M y with
    | some ys => if xs.length + ys.length ≤ lim then .ok .non (M.set n (.lst (xs ++ ys))) else .bad
    | none => .bad
  | _ => .bad
theorem mt_extendP : MtR X "list.extend" (rM X.K extendP) := MtR.imp (r := rExtend) mt_extend fun v vs H Q h => by
  obtain ⟨E, ι, S, M, x, xs, sim, r, rs, w⟩ := h
  unfold extendP at w
  split at w
  · obtain ⟨u, rfl, r1⟩ := rs.one_inv
    obtain ⟨n, p, ys, us, rfl, hi, eM, eH, hS, rr, w⟩ := onL_inv sim r w
    split at w
    · rename_i zs hz
      obtain ⟨b, ws, rfl, eb, rb⟩ := seqL_rep sim r1 hz
      split at w
      · rename_i hl
        refine ⟨p, b, us, ws, rfl, rfl, eH, eb, by rw [← rr.length, ← rb.length]; exact lim_line hl, ?_⟩
        obtain ⟨sp, ep⟩ := put_lst sim hi hS (rr.append rb)
        exact w ι S _ _ ep sp (Rep.non_iff.mpr rfl)
      · exact w.elim
    · exact w.elim
  · exact w.elim
def popP : DM := fun x as M => match as with
  | [] => onL x M fun n xs => match xs[xs.length - 1]? with
    | some y => .ok y (M.set n (.lst xs.dropLast))
    | none => .bad
  | _ => .bad
theorem mt_popP : MtR X "list.pop" (rM X.K popP) := MtR.imp (r := rPop) mt_pop fun v vs H Q h => by
  obtain ⟨E, ι, S, M, x, xs, sim, r, rs, w⟩ := h
  unfold popP at w
  split at w
  · rw [Reps] at rs
    subst rs
    obtain ⟨n, p, ys, us, rfl, hi, eM, eH, hS, rr, w⟩ := onL_inv sim r w
    split at w
    · rename_i y hy
      obtain ⟨z, h1, h2⟩ := rr.get hy
      rw [rr.length] at h1
      refine ⟨p, us, z, rfl, rfl, eH, h1, ?_⟩
      obtain ⟨sp, ep⟩ := put_lst sim hi hS rr.dropLast
      exact w ι S _ _ ep sp h2
    · exact w.elim
  · exact w.elim
end
end L2
end
section
set_option Elab.async false
set_option linter.all false
set_option maxRecDepth 100000
set_option maxHeartbeats 4000000
namespace L2
open PySem PySem.Spec PyProof.Rows
inductive Out where
  | nx (ρ : Rho) (M : Sto)
  | rt (x : PV) (M : Sto)
  | bk (ρ : Rho) (M : Sto)
  | ct (ρ : Rho) (M : Sto)
  | exc (c : Addr) (ρ : Rho) (M : Sto)
  | bad
abbrev DS := Rho → Sto → Out
def WantS (K : PySem.W.Frag) (Ex : St → XK) (ι : List Addr) (S H : Hp) (D : Ends) : Out → Prop
  | .nx ρ M => ∀ ι' S' H' σ', Ext ι S H ι' S' H' → SimH K ι' S' M H' → Slots K ι' S' ρ σ' → D.nx σ' H'
  | .bk ρ M => ∀ ι' S' H' σ', Ext ι S H ι' S' H' → SimH K ι' S' M H' → Slots K ι' S' ρ σ' → D.bk σ' H'
  | .ct ρ M => ∀ ι' S' H' σ', Ext ι S H ι' S' H' → SimH K ι' S' M H' → Slots K ι' S' ρ σ' → D.ct σ' H'
  | .exc c ρ M => ∀ ι' S' H' σ', Ext ι S H ι' S' H' → SimH K ι' S' M H' → Slots K ι' S' ρ σ' → Ex σ' (.ref c) none H'
  | .rt x M => ∀ ι' S' H' v, Ext ι S H ι' S' H' → SimH K ι' S' M H' → Rep K ι' S' x v → D.rt v H'
  | .bad => False
theorem WantS.up {K : PySem.W.Frag} {Ex : St → XK} {ι ι' : List Addr} {S H S' H' : Hp} {D : Ends} {o : Out} (h : WantS K Ex ι S H D o) (e : Ext ι S H ι' S' H') : WantS K Ex ι' S' H' D o := by
  cases o with
  | nx ρ M => exact fun ι1 S1 H1 σ1 e1 s1 l1 => h ι1 S1 H1 σ1 (e.trans e1) s1 l1
  | bk ρ M => exact fun ι1 S1 H1 σ1 e1 s1 l1 => h ι1 S1 H1 σ1 (e.trans e1) s1 l1
  | ct ρ M => exact fun ι1 S1 H1 σ1 e1 s1 l1 => h ι1 S1 H1 σ1 (e.trans e1) s1 l1
  | exc c ρ M => exact fun ι1 S1 H1 σ1 e1 s1 l1 => h ι1 S1 H1 σ1 (e.trans e1) s1 l1
  | rt x M => exact fun ι1 S1 H1 v e1 s1 l1 => h ι1 S1 H1 v (e.trans e1) s1 l1
  | bad => exact h
def tS (K : PySem.W.Frag) (Ex : St → XK) (d : DS) : TS := fun D σ H => ∃ ι S M ρ, SimH K ι S M H ∧ Slots K ι S ρ σ ∧ WantS K Ex ι S H D (d ρ M)
def VS (X : Cx) (Ex : St → XK) (st : Stmt) (d : DS) : Prop := PS X st (tS X.K Ex d)
def VSs (X : Cx) (Ex : St → XK) (st : List Stmt) (d : DS) : Prop := PSs X st (tS X.K Ex d)
theorem PS.imp {X : Cx} {st : Stmt} {t t' : TS} (h : PS X st t) (i : ∀ D σ H, t' D σ H → t D σ H) : PS X st t' := fun pins s σ H D I hw => h pins s σ H D I (i D σ H hw)
theorem PSs.imp {X : Cx} {st : List Stmt} {t t' : TS} (h : PSs X st t) (i : ∀ D σ H, t' D σ H → t D σ H) : PSs X st t' := fun pins s σ H D I hw => h pins s σ H D I (i D σ H hw)
def Res.out {α : Type} (r : Res α) (ρ : Rho) (f : α → Sto → Out) : Out := match r with
  | .ok x M => f x M
  | .exc c M => .exc c ρ M
  | .bad => .bad
@[simp] theorem Res.out_ok {α : Type} {x : α} {M : Sto} {ρ : Rho} {f : α → Sto → Out} : (Res.ok x M).out ρ f = f x M := rfl
@[simp] theorem Res.out_exc {α : Type} {c : Addr} {M : Sto} {ρ : Rho} {f : α → Sto → Out} : (Res.exc c M : Res α).out ρ f = .exc c ρ M := rfl
@[simp] theorem Res.out_bad {α : Type} {ρ : Rho} {f : α → Sto → Out} : (Res.bad : Res α).out ρ f = .bad := rfl
theorem WantS.res {α β : Type} {K : PySem.W.Frag} {Rp : List Addr → Hp → α → β → Prop} {Ex : St → XK} {ι : List Addr} {S H : Hp} {D : Ends} {ρ : Rho} {σ : St} {r : Res α} {f : α → Sto → Out} {Q : β → Hp → Prop} (sl : Slots K ι S ρ σ) (h : WantS K Ex ι S H D (r.out ρ f))
    (g : ∀ ι1 S1 M1 H1 x v, Ext ι S H ι1 S1 H1 → SimH K ι1 S1 M1 H1 → Rp ι1 S1 x v → WantS K Ex ι1 S1 H1 D (f x M1) → Q v H1) : Want K Rp (Ex σ) ι S H Q r := by
  cases r with
  | ok x M => exact fun ι1 S1 H1 v e1 s1 r1 => g ι1 S1 M H1 x v e1 s1 r1 (WantS.up h e1)
  | exc c M => exact fun ι1 S1 H1 e1 s1 => h ι1 S1 H1 σ e1 s1 (sl.mono e1)
  | bad => exact h
section
variable {X : Cx} {Ex : St → XK} {a b c e o : Expr} {es : List Expr} {da db dc d do' : DE} {ds : List DE} {pos pos' apos cpos : Pos} {st : Stmt} {rest : List Stmt} {s1 s2 : DS} {tc : DT}
def dNx : DS := fun ρ M => .nx ρ M
def dSeq (s1 s2 : DS) : DS := fun ρ M => match s1 ρ M with
  | .nx ρ' M' => s2 ρ' M'
  | o => o
theorem vss_nil : VSs X Ex [] dNx := PSs.imp pss_nil fun D σ H h => by
  obtain ⟨ι, S, M, ρ, sim, sl, w⟩ := h
  exact w ι S H σ .refl sim sl
theorem dSeq_t {K : PySem.W.Frag} {D : Ends} {σ : St} {H : Hp} (h : tS K Ex (dSeq s1 s2) D σ H) : tSeq (tS K Ex s1) (tS K Ex s2) D σ H := by
  obtain ⟨ι, S, M, ρ, sim, sl, w⟩ := h
  refine ⟨ι, S, M, ρ, sim, sl, ?_⟩
  unfold dSeq at w
  cases q : s1 ρ M with
  | nx ρ' M' =>
    rw [q] at w
    exact fun ι1 S1 H1 σ1 e1 s1 l1 => ⟨ι1, S1, M', ρ', s1, l1, WantS.up w e1⟩
  | _ => rw [q] at w; exact w
theorem vss_cons (h1 : VS X Ex st s1) (h2 : VSs X Ex rest s2) : VSs X Ex (st :: rest) (dSeq s1 s2) := PSs.imp (pss_cons h1 h2) fun _ _ _ h => dSeq_t h
theorem vss_one (h1 : VS X Ex st s1) : VSs X Ex [st] s1 := pss_one h1
theorem vs_pass : VS X Ex (.Pass pos) dNx := PS.imp ps_pass fun D σ H h => by
  obtain ⟨ι, S, M, ρ, sim, sl, w⟩ := h
  exact w ι S H σ .refl sim sl
def dBk : DS := fun ρ M => .bk ρ M
def dCt : DS := fun ρ M => .ct ρ M
def dDrop (d : DE) : DS := fun ρ M => (d ρ M).out ρ fun _ M1 => .nx ρ M1
theorem vs_expr (he : VE X Ex e d) (hs : swapsWith e none pos.line X.env = pure false := by rfl) : VS X Ex (.Expr e pos) (dDrop d) := PS.imp (ps_expr he hs) fun D σ H h => by
  obtain ⟨ι, S, M, ρ, sim, sl, w⟩ := h
  refine ⟨ι, S, M, ρ, sim, sl, WantS.res (Rp := RpE X.K) sl w fun ι1 S1 M1 H1 x v e1 s1 r1 w1 => ?_⟩
  exact w1 ι1 S1 H1 σ .refl s1 (sl.mono e1)
def dRet (d : DE) : DS := fun ρ M => (d ρ M).out ρ fun x M1 => .rt x M1
theorem vs_ret (he : VE X Ex e d) : VS X Ex (.Return (some e) pos) (dRet d) := PS.imp (ps_ret he) fun D σ H h => by
  obtain ⟨ι, S, M, ρ, sim, sl, w⟩ := h
  refine ⟨ι, S, M, ρ, sim, sl, WantS.res (Rp := RpE X.K) sl w fun ι1 S1 M1 H1 x v e1 s1 r1 w1 => ?_⟩
  exact w1 ι1 S1 H1 v .refl s1 r1
def dRetN : DS := fun _ M => .rt .non M
theorem vs_retN : VS X Ex (.Return none pos) dRetN := PS.imp ps_retN fun D σ H h => by
  obtain ⟨ι, S, M, ρ, sim, sl, w⟩ := h
  exact w ι S H _ .refl sim (Rep.non_iff.mpr rfl)
def dIfS (tc : DT) (s1 s2 : DS) : DS := fun ρ M => (tc ρ M).out ρ fun k M1 => if k = true then s1 ρ M1 else s2 ρ M1
theorem vs_if {xs ys : List Stmt} (hc : VT X Ex c tc) (h1 : VSs X Ex xs s1) (h2 : VSs X Ex ys s2) : VS X Ex (.If c xs ys pos) (dIfS tc s1 s2) := PS.imp (ps_if hc h1 h2) fun D σ H h => by
  obtain ⟨ι, S, M, ρ, sim, sl, w⟩ := h
  refine ⟨ι, S, M, ρ, sim, sl, WantS.res (Rp := RpB) sl w fun ι1 S1 M1 H1 x v e1 s1 r1 w1 => ?_⟩
  cases r1
  cases x with
  | true => exact iteT ⟨ι1, S1, M1, ρ, s1, sl.mono e1, w1⟩
  | false => exact iteF ⟨ι1, S1, M1, ρ, s1, sl.mono e1, w1⟩
abbrev DG := PV → Rho → Option Rho
def tgD (K : PySem.W.Frag) (g : DG) : TG := fun v σ H Q => ∃ ι S M ρ x ρ', SimH K ι S M H ∧ Slots K ι S ρ σ ∧ Rep K ι S x v ∧ g x ρ = some ρ' ∧ ∀ ι' S' H' σ', Ext ι S H ι' S' H' → SimH K ι' S' M H' → Slots K ι' S' ρ' σ' → Q σ' H'
def VG (X : Cx) (tg : Expr) (g : DG) : Prop := PG X tg (tgD X.K g)
theorem PG.imp {tg : Expr} {t t' : TG} (h : PG X tg t) (i : ∀ v σ H Q, t' v σ H Q → t v σ H Q) : PG X tg t' := fun pins s σ H v u Q I r hw => h pins s σ H v u Q I r (i v σ H Q hw)
def gN (i : Nat) : DG := fun x ρ => some (ρ.set i (some x))
theorem vg_name (i : Nat) {x : Str} (hN : X.N.Nodup) (hi : X.N[i]? = some x := by rfl) (hx : Loc X.env.scope x := by first | exact Or.inl rfl | exact Or.inr rfl)
    (hf : X.fn x = true ∨ X.env.scope.names.lookup x = some .local := by first | exact .inl rfl | exact .inr rfl | assumption) : VG X (.Name x pos) (gN i) := PG.imp (pg_name hN hi hx hf) fun v σ H Q h => by
  obtain ⟨ι, S, M, ρ, x, ρ', sim, sl, r, e, k⟩ := h
  cases e
  exact k ι S H _ .refl sim (sl.set r i)
abbrev DGs := List PV → Rho → Option Rho
def tgDs (K : PySem.W.Frag) (g : DGs) : TGs := fun vs σ H Q => ∃ ι S M ρ xs ρ', SimH K ι S M H ∧ Slots K ι S ρ σ ∧ Reps K ι S xs vs ∧ g xs ρ = some ρ' ∧ ∀ ι' S' H' σ', Ext ι S H ι' S' H' → SimH K ι' S' M H' → Slots K ι' S' ρ' σ' → Q σ' H'
def VGs (X : Cx) (ts : List Expr) (g : DGs) : Prop := PGs X ts (tgDs X.K g)
theorem PGs.imp {ts : List Expr} {t t' : TGs} (h : PGs X ts t) (i : ∀ v σ H Q, t' v σ H Q → t v σ H Q) : PGs X ts t' := fun pins s σ H v u Q I r hw => h pins s σ H v u Q I r (i v σ H Q hw)
def gsNil : DGs := fun xs ρ => match xs with
  | [] => some ρ
  | _ => none
def gsCons (g : DG) (gs : DGs) : DGs := fun xs ρ => match xs with
  | x :: r => (g x ρ).bind (gs r)
  | [] => none
theorem vgs_nil : VGs X [] gsNil := PGs.imp pgs_nil fun vs σ H Q h => by
  obtain ⟨ι, S, M, ρ, xs, ρ', sim, sl, r, e, k⟩ := h
  cases xs with
  | nil =>
    rw [Reps] at r
    cases e
    exact ⟨r, k ι S H _ .refl sim sl⟩
  | cons x xs => cases e
theorem vgs_cons {g : DG} {gs : DGs} (h1 : VG X e g) (h2 : VGs X es gs) (hs : (assignEach (e :: es) X.env).map (·.2) = assign e X.env :: (assignEach es X.env).map (·.2) := by rfl) : VGs X (e :: es) (gsCons g gs) :=
  PGs.imp (pgs_cons h1 h2 hs) fun vs σ H Q h => by
    obtain ⟨ι, S, M, ρ, xs, ρ', sim, sl, r, e, k⟩ := h
    cases xs with
    | nil => cases e
    | cons x xs =>
      obtain ⟨v, vr, rfl, r1, r2⟩ := r.uncons
      have e : (g x ρ).bind (gs xs) = some ρ' := e
      cases e1 : g x ρ with
      | none => rw [e1] at e; cases e
      | some ρ1 =>
        rw [e1] at e
        refine ⟨v, vr, rfl, ι, S, M, ρ, x, ρ1, sim, sl, r1, e1, fun ι1 S1 H1 σ1 ex1 s1 l1 => ?_⟩
        exact ⟨ι1, S1, M, ρ1, xs, ρ', s1, l1, r2.mono ex1, e, fun ι2 S2 H2 σ2 ex2 s2 l2 => k ι2 S2 H2 σ2 (ex1.trans ex2) s2 l2⟩
def gT (n : Nat) (gs : DGs) : DG := fun x ρ => match x with
  | .tup xs => if xs.length = n then gs xs ρ else none
  | _ => none
theorem vg_tup {k : Nat} {gs : DGs} {n : Nat} (hc : X.calm = true) (h : VGs X es gs) (hn : (assignEach es X.env).length = n := by rfl) (hst : (assignEach es X.env).findIdx? (·.1) = none := by rfl) : VG X (.Tuple es k pos) (gT n gs) :=
  PG.imp (pg_tup hc h hn hst) fun v σ H Q h => by
    obtain ⟨ι, S, M, ρ, x, ρ', sim, sl, r, e, k⟩ := h
    cases x with
    | tup xs =>
      simp only [gT] at e
      split at e
      · rename_i hl
        obtain ⟨p, vs, rfl, eS, rs⟩ := Rep.tup_iff.mp r
        exact ⟨p, vs, rfl, .of (sim.sub _ _ eS), by rw [← rs.length]; exact hl, ι, S, M, ρ, xs, ρ', sim, sl, rs, e, k⟩
      · cases e
    | _ => cases e
def dSet (i : Nat) (d : DE) : DS := fun ρ M => (d ρ M).out ρ fun x M1 => .nx (ρ.set i (some x)) M1
theorem vs_set (i : Nat) {x : Str} (hN : X.N.Nodup) (he : VE X Ex e d) (hi : X.N[i]? = some x := by rfl) (hx : Loc X.env.scope x := by first | exact Or.inl rfl | exact Or.inr rfl) (hs : swapsWith e (some (.Name x pos')) pos.line X.env = pure false := by rfl)
    (hf : X.fn x = true ∨ X.env.scope.names.lookup x = some .local := by first | exact .inl rfl | exact .inr rfl | assumption) : VS X Ex (.Assign [.Name x pos'] e pos) (dSet i d) := PS.imp (ps_set hN hi hx he hs hf) fun D σ H h => by
  obtain ⟨ι, S, M, ρ, sim, sl, w⟩ := h
  refine ⟨ι, S, M, ρ, sim, sl, WantS.res (Rp := RpE X.K) sl w fun ι1 S1 M1 H1 x v e1 s1 r1 w1 => ?_⟩
  exact w1 ι1 S1 H1 _ .refl s1 ((sl.mono e1).set r1 i)
def dAsg (d : DE) (g : DG) : DS := fun ρ M => (d ρ M).out ρ fun x M1 => match g x ρ with
  | some ρ' => .nx ρ' M1
  | none => .bad
theorem vs_asg {tg : Expr} {g : DG} (he : VE X Ex e d) (hg : VG X tg g) (hs : swapsWithSole [tg] e pos.line X.env = pure false := by rfl) (hw : swappedStores [tg] e X.env = pure none := by rfl)
    (h1 : (assignEach [tg] X.env).map (·.2) = [assign tg X.env] := by rfl) : VS X Ex (.Assign [tg] e pos) (dAsg d g) := PS.imp (ps_asg he hg hs hw h1) fun D σ H h => by
  obtain ⟨ι, S, M, ρ, sim, sl, w⟩ := h
  refine ⟨ι, S, M, ρ, sim, sl, WantS.res (Rp := RpE X.K) sl w fun ι1 S1 M1 H1 x v e1 s1 r1 w1 => ?_⟩
  cases e2 : g x ρ with
  | none => rw [e2] at w1; exact w1.elim
  | some ρ' =>
    rw [e2] at w1
    exact ⟨ι1, S1, M1, ρ, x, ρ', s1, sl.mono e1, r1, e2, w1⟩
def frzS (i : Nat) (s1 : DS) : DS := fun ρ M => match ρ[i]? with
  | some (some (.obj n)) => match M[n]? with
    | some (.lst xs) => s1 (ρ.set i (some (.lst xs))) (M.set n .gone)
    | _ => .bad
  | _ => .bad
theorem vss_frz (i : Nat) {sts : List Stmt} (h : VSs X Ex sts s1) : VSs X Ex sts (frzS i s1) := PSs.imp h fun D σ H h => by
  obtain ⟨ι, S, M, ρ, sim, sl, w⟩ := h
  unfold frzS at w
  split at w
  · rename_i n hn
    split at w
    · rename_i xs hM
      obtain ⟨v, hv, r⟩ := sl.2 i _ hn
      obtain ⟨p, rfl, ei⟩ := Rep.obj_iff.mp r
      obtain ⟨S', s2, e2, r2⟩ := sim.freeze ei hM
      have sl2 := (sl.mono e2).set r2 i
      have hs : σ.set i (some (V.ref p)) = σ := by
        apply List.ext_getElem?
        intro j
        by_cases hj : i = j
        · subst hj
          rw [List.getElem?_set_self (List.getElem?_eq_some_iff.mp hv).1, hv]
        · rw [List.getElem?_set_ne hj]
      rw [hs] at sl2
      exact ⟨ι, S', _, _, s2, sl2, WantS.up w e2⟩
    · exact w.elim
  · exact w.elim
end
end L2
end
section
set_option Elab.async false
set_option linter.all false
set_option maxRecDepth 100000
set_option maxHeartbeats 4000000
namespace L2
open PySem PySem.Spec PyProof.Rows
abbrev Wat := Option (Nat × MO)
def chk (w : Wat) (M : Sto) : Prop := match w with
  | none => True
  | some (n, o) => M[n]? = some o
@[simp] theorem chk_none {M : Sto} : chk none M := trivial
@[simp] theorem chk_some {n : Nat} {o : MO} {M : Sto} : chk (some (n, o)) M ↔ M[n]? = some o := Iff.rfl
def Walks (K : PySem.W.Frag) (J : It) (xs : List PV) (w : Wat) (ι : List Addr) (S : Hp) : Prop :=
  ∀ (i : Nat) ι' S' M' H', Up ι S ι' S' → SimH K ι' S' M' H' → chk w M' →
    (∀ x, xs[i]? = some x → J.go i H' ∧ ∀ v H2, J.yld i H' v H2 → ∃ ι2 S2, Ext ι' S' H' ι2 S2 H2 ∧ SimH K ι2 S2 M' H2 ∧ Rep K ι2 S2 x v) ∧ (xs.length ≤ i → J.stop i H')
abbrev DI := Rho → Sto → Res (List PV × Wat)
abbrev RpI (K : PySem.W.Frag) : List Addr → Hp → (List PV × Wat) → It → Prop := fun ι S r J => Walks K J r.1 r.2 ι S
def VI (X : Cx) (Ex : St → XK) (tg iter : Expr) (d : DI) : Prop := PI X tg iter (tG X.K (RpI X.K) Ex d)
theorem PI.imp {X : Cx} {tg iter : Expr} {t t' : TI} (h : PI X tg iter t) (i : ∀ σ H R, t' σ H R → t σ H R) : PI X tg iter t' := fun pins s σ H R I hw => h pins s σ H R I (i σ H R hw)
section
variable {X : Cx} {Ex : St → XK} {a b c e o : Expr} {es : List Expr} {da db dc d do' : DE} {ds : List DE} {pos pos' apos cpos : Pos} {st : Stmt} {rest : List Stmt} {s1 s2 : DS} {tc : DT} {tg iter : Expr} {di : DI} {g : DG}
def iL (d : DE) : DI := fun ρ M => (d ρ M).bind fun x M1 => match x with
  | .lst xs => .ok (xs, none) M1
  | .obj n => match M1[n]? with
    | some (.lst xs) => .ok (xs, some (n, .lst xs)) M1
    | _ => .bad
  | _ => .bad
theorem walks_list {K : PySem.W.Frag} {ι : List Addr} {S : Hp} {p : Addr} {xs : List PV} {w : Wat} (h : ∀ ι' S' M' H', Up ι S ι' S' → SimH K ι' S' M' H' → chk w M' → ∃ vs, SqL K H' p vs ∧ Reps K ι' S' xs vs) : Walks K (Itl K p) xs w ι S := by
  intro i ι' S' M' H' up sim hc
  obtain ⟨vs, hq, rs⟩ := h ι' S' M' H' up sim hc
  refine ⟨fun x hx => ?_, fun hl => ⟨vs, hq, by rw [← rs.length]; exact hl⟩⟩
  obtain ⟨v, hv, r⟩ := rs.get hx
  refine ⟨⟨vs, v, hq, hv⟩, fun u H2 y => ?_⟩
  obtain ⟨rfl, y⟩ := y
  have := y vs hq
  rw [hv] at this
  cases this
  exact ⟨ι', S', .refl, sim, r⟩
theorem vi_list (h : VE X Ex iter d) : VI X Ex tg iter (iL d) := by
  refine PI.imp (pi_list h) fun σ H R hh => ?_
  obtain ⟨ι, S, M, ρ, sim, sl, w⟩ := hh
  refine ⟨ι, S, M, ρ, sim, sl, Want.bind (Rp := RpE X.K) w fun ι1 S1 M1 H1 x v e1 s1 r1 w1 => ?_⟩
  cases x with
  | lst xs =>
    obtain ⟨p, vs, rfl, eS, rs⟩ := Rep.lst_iff.mp r1
    refine ⟨p, rfl, ⟨vs, .of (s1.sub _ _ eS)⟩, w1 ι1 S1 H1 _ .refl s1 (walks_list fun ι2 S2 M2 H2 up s2 _ => ?_)⟩
    exact ⟨vs, .of (s2.sub _ _ (up.sm _ _ eS)), rs.up up⟩
  | obj n =>
    obtain ⟨p, rfl, ei⟩ := Rep.obj_iff.mp r1
    obtain ⟨o, eM, q⟩ := s1.addr ei
    simp only [eM] at w1
    cases o with
    | lst xs =>
      obtain ⟨_, vs, eH, rs⟩ := q
      refine ⟨p, rfl, ⟨vs, .of eH⟩, w1 ι1 S1 H1 _ .refl s1 (walks_list fun ι2 S2 M2 H2 up s2 hc => ?_)⟩
      obtain ⟨_, vs2, eH2, rs2⟩ := s2.ob n p _ (up.ix _ _ ei) hc
      exact ⟨vs2, .of eH2, rs2⟩
    | _ => exact w1.elim
  | _ => exact w1.elim
def iT (d : DE) : DI := fun ρ M => (d ρ M).bind fun x M1 => match x with
  | .tup xs => .ok (xs, none) M1
  | _ => .bad
theorem vi_tup (h : VE X Ex iter d) : VI X Ex tg iter (iT d) := by
  refine PI.imp (pi_tup h) fun σ H R hh => ?_
  obtain ⟨ι, S, M, ρ, sim, sl, w⟩ := hh
  refine ⟨ι, S, M, ρ, sim, sl, Want.bind (Rp := RpE X.K) w fun ι1 S1 M1 H1 x v e1 s1 r1 w1 => ?_⟩
  cases x with
  | tup xs =>
    obtain ⟨p, vs, rfl, eS, rs⟩ := Rep.tup_iff.mp r1
    refine ⟨p, rfl, ⟨vs, .of (s1.sub _ _ eS)⟩, w1 ι1 S1 H1 _ .refl s1 fun i ι2 S2 M2 H2 up s2 _ => ?_⟩
    have hq : SqT X.K H2 p vs := .of (s2.sub _ _ (up.sm _ _ eS))
    have rs2 := rs.up up
    refine ⟨fun x hx => ?_, fun hl => ⟨vs, hq, by rw [← rs2.length]; exact hl⟩⟩
    obtain ⟨v, hv, r⟩ := rs2.get hx
    refine ⟨⟨vs, v, hq, hv⟩, fun u H3 y => ?_⟩
    obtain ⟨rfl, y⟩ := y
    have := y vs hq
    rw [hv] at this
    cases this
    exact ⟨ι2, S2, .refl, s2, r⟩
  | _ => exact w1.elim
def rng (lo : Int) (n : Nat) : List PV := (List.range n).map fun (k : Nat) => .int (lo + (k : Int))
theorem walks_rng {K : PySem.W.Frag} {ι : List Addr} {S : Hp} (lo : Int) (n : Nat) : Walks K (Itr lo n) (rng lo n) none ι S := by
  intro i ι' S' M' H' up sim _
  refine ⟨fun x hx => ?_, fun hl => by (have hl : n ≤ i := by simpa [rng] using hl); exact hl⟩
  unfold rng at hx
  rw [List.getElem?_map] at hx
  by_cases hi : i < n
  · rw [List.getElem?_range hi] at hx
    cases hx
    refine ⟨hi, fun v H2 y => ?_⟩
    obtain ⟨rfl, rfl⟩ := y
    exact ⟨ι', S', .refl, sim, Rep.int_iff.mpr rfl⟩
  · rw [List.getElem?_eq_none (by simpa using hi)] at hx
    cases hx
def iR1 (ds : List DE) : DI := fun ρ M => (dArgs ds ρ M).bind fun xs M1 => match xs with
  | [.int j] => if -(2 ^ 62) ≤ j ∧ j < 2 ^ 62 then .ok (rng 0 j.toNat, none) M1 else .bad
  | _ => .bad
theorem vi_range1 {p : Pos} (hm : X.mg "range" = none) (ha : VN X Ex [a] ds) (hg : Gl X "range" := by rfl) (hs : starEach [a] X.env = [(false, eval a X.env)] := by rfl) : VI X Ex tg (.Call (.Name "range" p) [a] [] pos) (iR1 ds) := by
  refine PI.imp (pi_range1 hg hm ha hs) fun σ H R hh => ?_
  obtain ⟨ι, S, M, ρ, sim, sl, w⟩ := hh
  refine ⟨ι, S, M, ρ, sim, sl, Want.bind (Rp := RpN X.K ds.length) w fun ι1 S1 M1 H1 xs vs e1 s1 r1 w1 => ?_⟩
  split at w1
  · rename_i j
    obtain ⟨v, rfl, r2⟩ := r1.1.one_inv
    cases Rep.int_iff.mp r2
    split at w1
    · rename_i hb
      exact ⟨j, rfl, hb.1, hb.2, w1 ι1 S1 H1 _ .refl s1 (walks_rng 0 _)⟩
    · exact w1.elim
  · exact w1.elim
def iR2 (ds : List DE) : DI := fun ρ M => (dArgs ds ρ M).bind fun xs M1 => match xs with
  | [.int i, .int j] => if -(2 ^ 62) ≤ i ∧ i < 2 ^ 62 ∧ -(2 ^ 62) ≤ j ∧ j < 2 ^ 62 then .ok (rng i (j - i).toNat, none) M1 else .bad
  | _ => .bad
theorem vi_range2 {p : Pos} (hm : X.mg "range" = none) (ha : VN X Ex [a, b] ds) (hg : Gl X "range" := by rfl) (hs : starEach [a, b] X.env = [(false, eval a X.env), (false, eval b X.env)] := by rfl) (hs2 : starEach [b] X.env = [(false, eval b X.env)] := by rfl) :
    VI X Ex tg (.Call (.Name "range" p) [a, b] [] pos) (iR2 ds) := by
  refine PI.imp (pi_range2 hg hm ha hs hs2) fun σ H R hh => ?_
  obtain ⟨ι, S, M, ρ, sim, sl, w⟩ := hh
  refine ⟨ι, S, M, ρ, sim, sl, Want.bind (Rp := RpN X.K ds.length) w fun ι1 S1 M1 H1 xs vs e1 s1 r1 w1 => ?_⟩
  split at w1
  · rename_i i j
    obtain ⟨v, u, rfl, r2, r3⟩ := r1.1.two_inv
    cases Rep.int_iff.mp r2
    cases Rep.int_iff.mp r3
    split at w1
    · rename_i hb
      exact ⟨i, j, rfl, hb, w1 ι1 S1 H1 _ .refl s1 (walks_rng i _)⟩
    · exact w1.elim
  · exact w1.elim
open Classical in
noncomputable def forD (w : Wat) (g : DG) (s1 : DS) : List PV → Rho → Sto → Out
  | [], ρ, M => .nx ρ M
  | x :: xs, ρ, M => match g x ρ with
    | none => .bad
    | some ρ1 => match s1 ρ1 M with
      | .nx ρ' M' => if chk w M' then forD w g s1 xs ρ' M' else .bad
      | .ct ρ' M' => if chk w M' then forD w g s1 xs ρ' M' else .bad
      | .bk ρ' M' => .nx ρ' M'
      | .rt x M' => .rt x M'
      | .exc c ρ' M' => .exc c ρ' M'
      | .bad => .bad
noncomputable def dFor (di : DI) (g : DG) (s1 : DS) : DS := fun ρ M => (di ρ M).out ρ fun r M1 => open Classical in if chk r.2 M1 then forD r.2 g s1 r.1 ρ M1 else .bad
theorem vs_for {body : List Stmt} (hp : PassesOwn (model X.prog X.w) X.A X.env X.xe) (hc : X.calm = true) (hi : VI X Ex tg iter di) (hg : VG X tg g) (hb : VSs X Ex body s1) (hs : ∀ x, foldedSetIterable iter X.env x = pure x := by intro _; rfl) :
    VS X Ex (.For tg iter body [] pos) (dFor di g s1) := by
  refine PS.imp (ps_for hp hc hi hg hb hs) fun D σ H h => ?_
  obtain ⟨ι, S, M, ρ, sim, sl, w⟩ := h
  refine ⟨ι, S, M, ρ, sim, sl, WantS.res (Rp := RpI X.K) sl w fun ι1 S1 M1 H1 r J e1 sim1 wk w1 => ?_⟩
  obtain ⟨xs, wt⟩ := r
  dsimp only at wk w1
  split at w1
  · rename_i hc1
    refine ⟨fun i m σ' H' => m = xs.length - i ∧ i ≤ xs.length ∧ ∃ ι' S' M' ρ', Ext ι1 S1 H1 ι' S' H' ∧ SimH X.K ι' S' M' H' ∧ Slots X.K ι' S' ρ' σ' ∧ chk wt M' ∧ WantS X.K Ex ι1 S1 H1 D (forD wt g s1 (xs.drop i) ρ' M'),
      ⟨xs.length, by simp, Nat.zero_le _, ι1, S1, M1, ρ, .refl, sim1, sl.mono e1, hc1, by simpa using w1⟩, ?_⟩
    rintro i m σ' H' ⟨rfl, hi', ι', S', M', ρ', ex, sim', sl', hck, ww⟩
    obtain ⟨wgo, wst⟩ := wk i ι' S' M' H' ex.toUp sim' hck
    by_cases hlt : i < xs.length
    · right
      obtain ⟨go, yl⟩ := wgo xs[i] (List.getElem?_eq_getElem hlt)
      rw [List.drop_eq_getElem_cons hlt, forD] at ww
      refine ⟨go, fun σ2 H2 => ∃ ι' S' M' ρ', Ext ι1 S1 H1 ι' S' H2 ∧ SimH X.K ι' S' M' H2 ∧ Slots X.K ι' S' ρ' σ2 ∧ chk wt M' ∧ WantS X.K Ex ι1 S1 H1 D (forD wt g s1 (xs.drop (i + 1)) ρ' M'), fun σ2 H2 q => ⟨xs.length - (i + 1), by omega, rfl, hlt, q⟩, fun v H2 y => ?_⟩
      obtain ⟨ι2, S2, ex2, sim2, r2⟩ := yl v H2 y
      cases eg : g xs[i] ρ' with
      | none => rw [eg] at ww; exact ww.elim
      | some ρ1 =>
        rw [eg] at ww
        refine ⟨ι2, S2, M', ρ', xs[i], ρ1, sim2, sl'.mono ex2, r2, eg, fun ι3 S3 H3 σ3 ex3 sim3 sl3 => ?_⟩
        refine ⟨ι3, S3, M', ρ1, sim3, sl3, ?_⟩
        have ex13 := ex.trans (ex2.trans ex3)
        dsimp only at ww
        cases eb : s1 ρ1 M' with
        | nx ρ4 M4 =>
          rw [eb] at ww
          dsimp only at ww
          split at ww
          · rename_i hc4
            exact fun ι4 S4 H4 σ4 ex4 sim4 sl4 => ⟨ι4, S4, M4, ρ4, ex13.trans ex4, sim4, sl4, hc4, ww⟩
          · exact ww.elim
        | ct ρ4 M4 =>
          rw [eb] at ww
          dsimp only at ww
          split at ww
          · rename_i hc4
            exact fun ι4 S4 H4 σ4 ex4 sim4 sl4 => ⟨ι4, S4, M4, ρ4, ex13.trans ex4, sim4, sl4, hc4, ww⟩
          · exact ww.elim
        | bk ρ4 M4 =>
          rw [eb] at ww
          exact fun ι4 S4 H4 σ4 ex4 sim4 sl4 => ww ι4 S4 H4 σ4 (ex13.trans ex4) sim4 sl4
        | rt x M4 =>
          rw [eb] at ww
          exact fun ι4 S4 H4 σ4 ex4 sim4 sl4 => ww ι4 S4 H4 σ4 (ex13.trans ex4) sim4 sl4
        | exc c ρ4 M4 =>
          rw [eb] at ww
          exact fun ι4 S4 H4 σ4 ex4 sim4 sl4 => ww ι4 S4 H4 σ4 (ex13.trans ex4) sim4 sl4
        | bad => rw [eb] at ww; exact ww.elim
    · left
      have e : i = xs.length := by omega
      subst e
      rw [List.drop_length, forD] at ww
      exact ⟨wst (Nat.le_refl _), ww ι' S' H' σ' ex sim' sl'⟩
  · exact w1.elim
def whileD (tc : DT) (s1 : DS) : Nat → Rho → Sto → Out
  | 0, _, _ => .bad
  | n + 1, ρ, M => (tc ρ M).out ρ fun k M1 => if k = true then (match s1 ρ M1 with
      | .nx ρ' M' => whileD tc s1 n ρ' M'
      | .ct ρ' M' => whileD tc s1 n ρ' M'
      | .bk ρ' M' => .nx ρ' M'
      | .rt x M' => .rt x M'
      | .exc c ρ' M' => .exc c ρ' M'
      | .bad => .bad) else .nx ρ M1
def Res.bindN {α β : Type} : Res α → (α → Sto → Res β) → Res β
  | .ok a M, f => f a M
  | .exc _ _, _ => .bad
  | .bad, _ => .bad
@[simp] theorem Res.bindN_ok {α β : Type} {a : α} {M : Sto} {f : α → Sto → Res β} : (Res.ok a M).bindN f = f a M := rfl
abbrev E00 : St → XK := fun _ _ _ _ => False
def capR (cap : List (Option Nat)) (ρ : Rho) : Rho := cap.map fun o => match o with
  | some i => (ρ[i]?).join
  | none => none
theorem Slots.cap {K : PySem.W.Frag} {ι : List Addr} {S : Hp} {ρ : Rho} {σ : St} (sl : Slots K ι S ρ σ) (cap : List (Option Nat)) : Slots K ι S (capR cap ρ) (capSt cap σ) := by
  refine ⟨by simp [capR, capSt], fun i x h => ?_⟩
  unfold capR at h
  unfold capSt
  rw [List.getElem?_map] at h ⊢
  cases ec : cap[i]? with
  | none => rw [ec] at h; cases h
  | some o =>
    rw [ec] at h
    cases o with
    | none => cases h
    | some j =>
      have h' : (ρ[j]?).join = some x := Option.some.inj h
      cases q : ρ[j]? with
      | none => rw [q] at h'; cases h'
      | some z =>
        rw [q] at h'
        have h'' : z = some x := h'
        subst h''
        obtain ⟨v, h1, h2⟩ := sl.2 j x q
        exact ⟨v, by simp [h1], h2⟩
open Classical in
noncomputable def compD (w : Wat) (g : DG) (tc : DT) (d : DE) : List PV → Rho → Sto → List PV → Res (List PV)
  | [], _, M, acc => .ok acc M
  | x :: xs, ρ, M, acc => match g x ρ with
    | none => .bad
    | some ρ1 => (tc ρ1 M).bindN fun k M1 => if k = true then (d ρ1 M1).bindN fun y M2 => if chk w M2 ∧ acc.length < lim then compD w g tc d xs ρ1 M2 (acc ++ [y]) else .bad
      else if chk w M1 then compD w g tc d xs ρ1 M1 acc else .bad
open Classical in
noncomputable def dComp (live : Bool) (cap : List (Option Nat)) (di : DI) (g : DG) (tc : DT) (d : DE) : DE := fun ρ M => (di ρ M).bind fun r M1 => if chk r.2 M1 then (compD r.2 g tc d r.1 (capR cap ρ) M1 []).bindN fun ys M2 => mkL live ys M2 else .bad
def VIfs (X : Cx) (ifs : List Expr) (t : DT) : Prop := PIfs X ifs (tG X.K RpB E00 t)
def dTT : DT := fun _ M => .ok true M
theorem PIfs.imp {ifs : List Expr} {t t' : TT} (h : PIfs X ifs t) (i : ∀ σ H Q, t' σ H Q → t σ H Q) : PIfs X ifs t' := fun pins s σ H Q I hw => h pins s σ H Q I (i σ H Q hw)
theorem vifs_nil : VIfs X [] dTT := PIfs.imp pifs_nil fun σ H Q h => by
  obtain ⟨ι, S, M, ρ, sim, sl, w⟩ := h
  exact w ι S H true .refl sim rfl
theorem vifs_one (h : VT X E00 c tc) : VIfs X [c] tc := pifs_one h
theorem mkL_there {ι ι' : List Addr} {S S' H H' : Hp} {M : Sto} {E : XK} {Q : VK} {live : Bool} {xs : List PV} {vs : List V} {K : PySem.W.Frag} {p : Addr} (h0 : H p = none) (ex : Ext ι S H ι' S' H') (sim : SimH K ι' S' M H') (hp : H' p = some (.lst vs)) (hi : p ∉ ι') (hS : S' p = none) (r : Reps K ι' S' xs vs)
    (w : Want K (RpE K) E ι S H Q (mkL live xs M)) : Q (.ref p) H' := by
  have ne : ∀ b u, H b = some u → b ≠ p := fun b u q => ne_of_none q h0
  unfold mkL at w
  split at w
  · split at w
    · refine w (ι' ++ [p]) S' H' _ ⟨⟨fun n a h => (Up.push (S := S') p).ix n a (ex.ix n a h), ex.sm⟩, ?_, fun b u q1 q2 q3 => ?_⟩ (sim.enter hi ⟨hS, vs, hp, r⟩) (Rep.obj_iff.mpr ⟨p, rfl, by rw [← sim.len]; simp⟩)
      · have h1 := ex.pre
        have hl : ι.length ≤ ι'.length := by rw [← h1]; simp; omega
        rw [List.take_append_of_le_length hl]; exact h1
      · obtain ⟨k1, k2, k3⟩ := ex.fr b u q1 q2 q3
        exact ⟨k1, by simp [k2, ne b u q1], k3⟩
    · have sm : Same S' (upd S' p (.lst vs)) := fun b u q => by rw [upd_ne (ne_of_none q hS)]; exact q
      have up : Up ι' S' ι' (upd S' p (.lst vs)) := ⟨fun _ _ h => h, sm⟩
      refine w ι' (upd S' p (.lst vs)) H' _ ⟨⟨ex.ix, ex.sm.trans sm⟩, ex.pre, fun b u q1 q2 q3 => ?_⟩ ⟨fun b u q => ?_, sim.len, sim.nd, fun n a u h1 h2 => ?_⟩ (Rep.lst_iff.mpr ⟨p, vs, rfl, upd_same, r.up up⟩)
      · obtain ⟨k1, k2, k3⟩ := ex.fr b u q1 q2 q3
        exact ⟨k1, k2, by rw [upd_ne (ne b u q1)]; exact k3⟩
      · by_cases hb : b = p
        · subst hb; rw [upd_same] at q; cases q; exact hp
        · rw [upd_ne hb] at q; exact sim.sub b u q
      · have hne : a ≠ p := fun z => hi (z ▸ List.mem_of_getElem? h1)
        exact (sim.ob n a u h1 h2).up up (fun z => by rw [upd_ne hne]; exact z) rfl
  · exact w.elim
variable {scope : Scope} {N : List Str} {cap : List (Option Nat)} {elt : Expr} {ifs : List Expr}
theorem dComp_t {K : PySem.W.Frag} {live : Bool} {σ : St} {H : Hp} {Q : VK} (h : tG K (RpE K) Ex (dComp live cap di g tc d) σ H Q) :
    tComp cap (tG K (RpI K) Ex di) (tgD K g) (tG K RpB E00 tc) (tG K (RpE K) E00 d) σ H Q := by
  obtain ⟨ι, S, M, ρ, sim, sl, w⟩ := h
  refine ⟨ι, S, M, ρ, sim, sl, Want.bind (Rp := RpI K) w fun ι1 S1 M1 H1 r J e1 sim1 wk w1 => ?_⟩
  obtain ⟨xs, wt⟩ := r
  dsimp only at wk w1
  split at w1
  · rename_i hc1
    intro acc hacc
    have hSa := sim1.freshS hacc
    have hia := sim1.fresh hacc
    obtain ⟨sim1', ex1'⟩ := sim1.side (o := .lst []) hacc
    refine ⟨fun i m ys σ' H' => m = xs.length - i ∧ i ≤ xs.length ∧ ∃ ι' S' M' ρ' pys, Ext ι1 S1 H1 ι' S' H' ∧ SimH K ι' S' M' H' ∧ Slots K ι' S' ρ' σ' ∧ H' acc = some (.lst ys) ∧ acc ∉ ι' ∧ S' acc = none ∧ Reps K ι' S' pys ys ∧ chk wt M' ∧
        Want K (RpE K) (Ex σ) ι1 S1 H1 Q ((compD wt g tc d (xs.drop i) ρ' M' pys).bindN fun ys M2 => mkL live ys M2),
      ⟨xs.length, by simp, Nat.zero_le _, ι1, S1, M1, capR cap ρ, [], ex1', sim1', (sl.mono e1).cap cap, upd_same, hia, hSa, .nil, hc1, by simpa using w1⟩, ?_⟩
    rintro i m ys σ' H' ⟨rfl, hi', ι', S', M', ρ', pys, ex, sim', sl', hl1, hl2, hl3, rs, hck, ww⟩
    obtain ⟨wgo, wst⟩ := wk i ι' S' M' H' ex.toUp sim' hck
    by_cases hlt : i < xs.length
    · right
      obtain ⟨go, yl⟩ := wgo xs[i] (List.getElem?_eq_getElem hlt)
      rw [List.drop_eq_getElem_cons hlt, compD] at ww
      refine ⟨go, fun v H2 y => ?_⟩
      obtain ⟨ι2, S2, ex2, sim2, r2⟩ := yl v H2 y
      cases eg : g xs[i] ρ' with
      | none => rw [eg] at ww; exact ww.elim
      | some ρ1 =>
        rw [eg] at ww
        refine ⟨ι2, S2, M', ρ', xs[i], ρ1, sim2, sl'.mono ex2, r2, eg, fun ι3 S3 H3 σ3 ex3 sim3 sl3 => ?_⟩
        have ex23 := ex2.trans ex3
        refine ⟨ι3, S3, M', ρ1, sim3, sl3, ?_⟩
        dsimp only at ww
        cases et : tc ρ1 M' with
        | exc c M4 => rw [et] at ww; exact ww.elim
        | bad => rw [et] at ww; exact ww.elim
        | ok k M4 =>
          rw [et] at ww
          intro ι4 S4 H4 k' ex4 sim4 rk
          cases rk
          have ex24 := ex23.trans ex4
          have ex14 := ex.trans ex24
          obtain ⟨f1, f2, f3⟩ := ex24.fr acc _ hl1 hl2 hl3
          have ww : Want K (RpE K) (Ex σ) ι1 S1 H1 Q ((if k = true then (d ρ1 M4).bindN fun y M2 => open Classical in if chk wt M2 ∧ pys.length < lim then compD wt g tc d (xs.drop (i + 1)) ρ1 M2 (pys ++ [y]) else .bad else open Classical in if chk wt M4 then compD wt g tc d (xs.drop (i + 1)) ρ1 M4 pys else .bad).bindN fun ys M2 => mkL live ys M2) := ww
          cases k with
          | false =>
            rw [if_neg Bool.false_ne_true] at ww
            refine iteF ⟨xs.length - (i + 1), by omega, rfl, hlt, ι4, S4, M4, ρ1, pys, ex14, sim4, sl3.mono ex4, f1, f2, f3, rs.mono ex24, ?_⟩
            split at ww
            · rename_i hc4; exact ⟨hc4, ww⟩
            · exact ww.elim
          | true =>
            rw [if_pos rfl] at ww
            refine iteT ⟨ι4, S4, M4, ρ1, sim4, sl3.mono ex4, ?_⟩
            cases ed : d ρ1 M4 with
            | exc c M5 => rw [ed] at ww; exact ww.elim
            | bad => rw [ed] at ww; exact ww.elim
            | ok yv M5 =>
              rw [ed] at ww
              intro ι5 S5 H5 u ex5 sim5 r5
              have ex25 := ex24.trans ex5
              have ex15 := ex.trans ex25
              obtain ⟨f1, f2, f3⟩ := ex25.fr acc _ hl1 hl2 hl3
              have ww : Want K (RpE K) (Ex σ) ι1 S1 H1 Q ((open Classical in if chk wt M5 ∧ pys.length < lim then compD wt g tc d (xs.drop (i + 1)) ρ1 M5 (pys ++ [yv]) else .bad).bindN fun ys M2 => mkL live ys M2) := ww
              split at ww
              · rename_i hc5
                refine ⟨f1, by rw [← rs.length]; exact lim_lt hc5.2, xs.length - (i + 1), by omega, rfl, hlt, ι5, S5, M5, ρ1, pys ++ [yv], ?_, ?_, sl3.mono (ex4.trans ex5), upd_same, f2, f3, (rs.mono ex25).append (.one r5), hc5.1, ww⟩
                · refine ⟨ex15.toUp, ex15.pre, fun b u q1 q2 q3 => ?_⟩
                  obtain ⟨k1, k2, k3⟩ := ex15.fr b u q1 q2 q3
                  exact ⟨by rw [upd_ne (ne_of_none q1 hacc)]; exact k1, k2, k3⟩
                · refine ⟨fun b v q => by rw [upd_ne (ne_of_none q f3)]; exact sim5.sub b v q, sim5.len, sim5.nd, fun n a v h1 h2 => ?_⟩
                  have hne : a ≠ acc := fun z => f2 (z ▸ List.mem_of_getElem? h1)
                  exact (sim5.ob n a v h1 h2).up ⟨fun _ _ h => h, Same.refl _⟩ (fun z => z) (upd_ne hne)
              · exact ww.elim
    · left
      have e : i = xs.length := by omega
      subst e
      rw [List.drop_length, compD] at ww
      exact ⟨wst (Nat.le_refl _), mkL_there hacc ex sim' hl1 hl2 hl3 rs ww⟩
  · exact w1.elim
theorem ve_comp (live : Bool) (co : CompOk X scope N cap) (hcalm : X.calm = true) (hit : VI X Ex tg iter di)
    (hg : ∀ C fp s0 H0, VG (cxComp X scope N C fp s0 H0) tg g) (hi : ∀ C fp s0 H0, VIfs (cxComp X scope N C fp s0 H0) ifs tc) (he : ∀ C fp s0 H0, VE (cxComp X scope N C fp s0 H0) E00 elt d)
    (hs : ∀ x, foldedSetIterable iter X.env x = pure x := by intro _; rfl) : VE X Ex (.ListComp elt [⟨tg, iter, ifs, 0⟩] scope pos) (dComp live cap di g tc d) :=
  PE.imp (pe_comp (g := tgD X.K g) (tt := tG X.K RpB E00 tc) (te := tG X.K (RpE X.K) E00 d) co hcalm hit hg hi he hs) fun _ _ _ h => dComp_t h
theorem vs_setComp (live : Bool) (i : Nat) {y : Str} {py spos : Pos} (co : CompOk X scope N cap) (hcalm : X.calm = true) (hN : X.N.Nodup) (hit : VI X Ex tg iter di)
    (hg : ∀ C fp s0 H0, VG (cxComp X scope N C fp s0 H0) tg g) (hi : ∀ C fp s0 H0, VIfs (cxComp X scope N C fp s0 H0) ifs tc) (he : ∀ C fp s0 H0, VE (cxComp X scope N C fp s0 H0) E00 elt d)
    (hsw : swapsWith (.ListComp elt [⟨tg, iter, ifs, 0⟩] scope pos) (some (.Name y py)) spos.line X.env = pure true)
    (hy : X.N[i]? = some y := by rfl) (hx : Loc X.env.scope y := by first | exact Or.inl rfl | exact Or.inr rfl)
    (hf : X.fn y = true ∨ X.env.scope.names.lookup y = some .local := by first | exact .inl rfl | exact .inr rfl | assumption)
    (hs : ∀ x, foldedSetIterable iter X.env x = pure x := by intro _; rfl) : VS X Ex (.Assign [.Name y py] (.ListComp elt [⟨tg, iter, ifs, 0⟩] scope pos) spos) (dSet i (dComp live cap di g tc d)) :=
  PS.imp (ps_setComp (g := tgD X.K g) (tt := tG X.K RpB E00 tc) (te := tG X.K (RpE X.K) E00 d) co hcalm hit hg hi he hN hy hx hsw hf hs) fun D σ H h => by
    obtain ⟨ι, S, M, ρ, sim, sl, w⟩ := h
    refine dComp_t ⟨ι, S, M, ρ, sim, sl, WantS.res (Rp := RpE X.K) sl w fun ι1 S1 M1 H1 x v e1 s1 r1 w1 => ?_⟩
    exact w1 ι1 S1 H1 _ .refl s1 ((sl.mono e1).set r1 i)
end
end L2
end
section
set_option Elab.async false
set_option linter.all false
set_option maxRecDepth 100000
set_option maxHeartbeats 4000000
namespace L2
open PySem PySem.Spec PyProof.Rows
def spD (K : PySem.W.Frag) (n : Nat) (g : D1) : Sp := fun vs H Q E => vs.length = n ∧ ∃ ι S M xs, SimH K ι S M H ∧ Reps K ι S xs vs ∧ Want K (RpE K) E ι S H Q (g xs M)
def Out.res : Out → Res PV
  | .nx _ M => .ok .non M
  | .rt x M => .ok x M
  | .exc c _ M => .exc c M
  | _ => .bad
@[simp] theorem Out.res_nx {ρ : Rho} {M : Sto} : (Out.nx ρ M).res = .ok .non M := rfl
@[simp] theorem Out.res_rt {x : PV} {M : Sto} : (Out.rt x M).res = .ok x M := rfl
@[simp] theorem Out.res_exc {c : Addr} {ρ : Rho} {M : Sto} : (Out.exc c ρ M).res = .exc c M := rfl
def dFn (n : Nat) (d : DS) : D1 := fun xs M => (d (xs.map some ++ List.replicate (n - xs.length) none) M).res
section
variable {P : Program} {w : World} {K : PySem.W.Frag} {mg : Str → Option Value} {base : Heap}
theorem slots_start {ι : List Addr} {S : Hp} {xs : List PV} {vs : List V} {N : List Str} (r : Reps K ι S xs vs) : Slots K ι S (xs.map some ++ List.replicate (N.length - xs.length) none) (start N vs) := by
  unfold start
  have hl := r.length
  refine ⟨by simp [hl], fun i x h => ?_⟩
  by_cases hi : i < xs.length
  · rw [List.getElem?_append_left (by simpa using hi), List.getElem?_map] at h
    rw [List.getElem?_append_left (by simpa [← hl] using hi), List.getElem?_map]
    cases e : xs[i]? with
    | none => rw [e] at h; cases h
    | some y =>
      rw [e] at h
      cases h
      obtain ⟨v, h1, h2⟩ := r.get e
      exact ⟨v, by rw [h1]; rfl, h2⟩
  · rw [List.getElem?_append_right (by simpa using hi)] at h
    rw [List.getElem?_replicate] at h
    split at h <;> cases h
theorem fn_den {x qual : Str} {st : Stmt} {f : Addr} {fd : FuncData} {N ps : List Str} {k : Nat} {d : DS} (F : Fun K x qual st f fd) (S : FnScope N ps (defScope st))
    (hb : ∀ (cdv : Value) (A : Around) (outer : List Env) (s : Shared) (H : Hp) (E : XK), Room k (A.deeper (envOfC qual (defScope st) s.heap.objs.size f cdv)) →
      VSs (cxOf (CXo P w) P w K mg base N qual (defScope st) f cdv A outer s H E) (fun _ => E) (defBody st) d) :
    FnOk P w K mg base (CXo P w) (k + 1) f fd ps (spD K ps.length (dFn N.length d)) := by
  obtain ⟨oc, od, kV, doc, pm, an, cdv, ct, osl, rfl, lk, hcd⟩ := F.ex
  refine fn_of lk hcd S (fun vs H Q E h => h.1) fun A outer s H vs Q E hr hsp => ⟨_, hb cdv A outer s H E hr, ?_⟩
  obtain ⟨hl, ι, S', M, xs, sim, r, w'⟩ := hsp
  refine ⟨ι, S', M, _, sim, slots_start r, ?_⟩
  unfold dFn at w'
  cases q : d (xs.map some ++ List.replicate (N.length - xs.length) none) M with
  | nx ρ M' => rw [q] at w'; exact fun ι1 S1 H1 σ1 e1 s1 _ => w' ι1 S1 H1 .non e1 s1 (Rep.non_iff.mpr rfl)
  | rt y M' => rw [q] at w'; exact fun ι1 S1 H1 v e1 s1 r1 => w' ι1 S1 H1 v e1 s1 r1
  | exc c ρ M' => rw [q] at w'; exact fun ι1 S1 H1 σ1 e1 s1 _ => w' ι1 S1 H1 e1 s1
  | bk ρ M' => rw [q] at w'; exact w'.elim
  | ct ρ M' => rw [q] at w'; exact w'.elim
  | bad => rw [q] at w'; exact w'.elim
def MO.bel (n : Nat) : MO → Bool
  | .gone => true
  | .lst xs => PV.bels n xs
  | .dct kvs => kvs.all fun kv => PV.bel n kv.2
  | .dtp kvs => kvs.all fun kv => PV.bel n kv.2
  | .ins _ fs => fs.all fun kv => PV.bel n kv.2
  | .exc _ => true
theorem RepKs.bel {κ : Type} {ι : List Addr} {S : Hp} {kvs : List (κ × PV)} {kus : List (κ × V)} (h : RepKs K ι S kvs kus) : (kvs.all fun kv => PV.bel ι.length kv.2) = true := by
  induction h with
  | nil => rfl
  | cons r t ih => rw [List.all_cons, ih, Rep.bel _ _ r.2]; rfl
theorem RepKs.cut {κ : Type} {ι : List Addr} {S : Hp} {n : Nat} {kvs : List (κ × PV)} {kus : List (κ × V)} (h : RepKs K ι S kvs kus) (hb : (kvs.all fun kv => PV.bel n kv.2) = true) : RepKs K (ι.take n) S kvs kus := by
  induction h with
  | nil => exact .nil
  | cons r t ih =>
    rw [List.all_cons, Bool.and_eq_true] at hb
    exact .cons ⟨r.1, Rep.cut _ _ hb.1 r.2⟩ (ih hb.2)
theorem MoOk.bel {ι : List Addr} {S H : Hp} {a : Addr} {o : MO} (h : MoOk K ι S H a o) : o.bel ι.length = true := by
  cases o with
  | gone => rfl
  | lst xs => obtain ⟨_, vs, _, r⟩ := h; exact Reps.bels _ _ r
  | dct kvs => obtain ⟨_, vs, _, r⟩ := h; exact r.bel
  | dtp kvs => obtain ⟨_, vs, _, r⟩ := h; exact r.bel
  | ins C fs => obtain ⟨_, dx, vs, _, r⟩ := h; exact r.bel
  | exc C => rfl
theorem MoOk.cut {ι : List Addr} {S H : Hp} {a : Addr} {o : MO} {n : Nat} (h : MoOk K ι S H a o) (hb : o.bel n = true) : MoOk K (ι.take n) S H a o := by
  cases o with
  | gone => exact h
  | lst xs => obtain ⟨z, vs, e, r⟩ := h; exact ⟨z, vs, e, Reps.cut _ _ hb r⟩
  | dct kvs => obtain ⟨z, vs, e, r⟩ := h; exact ⟨z, vs, e, r.cut hb⟩
  | dtp kvs => obtain ⟨z, vs, e, r⟩ := h; exact ⟨z, vs, e, r.cut hb⟩
  | ins C fs => obtain ⟨z, dx, vs, e, r⟩ := h; exact ⟨z, dx, vs, e, r.cut hb⟩
  | exc C => exact h
open Classical in
noncomputable def truR (M : Sto) : Res PV → Res PV
  | .ok x M' => if M'.take M.length = M ∧ PV.bel M.length x = true then .ok x M else .bad
  | .exc c M' => if M'.take M.length = M then .exc c M else .bad
  | .bad => .bad
noncomputable def trunc (g : D1) : D1 := fun xs M => truR M (g xs M)
theorem truR_ok {M M' : Sto} {x : PV} (h : M'.take M.length = M) (hb : PV.bel M.length x = true) : truR M (.ok x M') = .ok x M := by simp only [truR]; rw [if_pos ⟨h, hb⟩]
theorem truR_exc {M M' : Sto} {c : Addr} (h : M'.take M.length = M) : truR M (.exc c M') = .exc c M := by simp only [truR]; rw [if_pos h]
@[simp] theorem truR_same {M : Sto} {x : PV} (hb : PV.bel M.length x = true) : truR M (.ok x M) = .ok x M := truR_ok List.take_length hb
@[simp] theorem truR_exs {M : Sto} {c : Addr} : truR M (.exc c M) = .exc c M := truR_exc List.take_length
@[simp] theorem truR_bad {M : Sto} : truR M .bad = .bad := rfl
theorem cut_sim {ι ι' : List Addr} {S S' H H' : Hp} {M M' : Sto} (sim : SimH K ι S M H) (sim' : SimH K ι' S' M' H') (ex : Ext ι S H ι' S' H') (h : M'.take M.length = M) : SimH K ι S' M H' ∧ Ext ι S H ι S' H' := by
  refine ⟨⟨sim'.sub, sim.len, sim.nd, fun n a o h1 h2 => ?_⟩, ⟨⟨fun _ _ h => h, ex.sm⟩, List.take_length, fun b u q1 q2 q3 => ?_⟩⟩
  · have hn : n < M.length := (List.getElem?_eq_some_iff.mp h2).1
    have h2' : M'[n]? = some o := by rw [← h, List.getElem?_take_of_lt hn] at h2; exact h2
    have m1 := sim'.ob n a o (ex.ix n a h1) h2'
    have m2 := (sim.ob n a o h1 h2).bel
    have := m1.cut m2
    rw [ex.pre] at this
    exact this
  · obtain ⟨k1, k2, k3⟩ := ex.fr b u q1 q2 q3
    exact ⟨k1, q2, k3⟩
theorem spD_trunc {n : Nat} {g : D1} {vs : List V} {H : Hp} {Q : VK} {E : XK} (h : spD K n (trunc g) vs H Q E) : spD K n g vs H Q E := by
  obtain ⟨hl, ι, S, M, xs, sim, r, w'⟩ := h
  refine ⟨hl, ι, S, M, xs, sim, r, ?_⟩
  unfold trunc at w'
  cases q : g xs M with
  | bad => rw [q] at w'; exact w'
  | ok x M' =>
    rw [q] at w'
    simp only [truR] at w'
    split at w'
    · rename_i hc
      intro ι1 S1 H1 v e1 s1 r1
      obtain ⟨s2, e2⟩ := cut_sim sim s1 e1 hc.1
      refine w' ι S1 H1 v e2 s2 ?_
      have := Rep.cut (n := M.length) x v hc.2 r1
      rw [← sim.len, e1.pre] at this
      exact this
    · exact w'.elim
  | exc c M' =>
    rw [q] at w'
    simp only [truR] at w'
    split at w'
    · rename_i hc
      intro ι1 S1 H1 e1 s1
      obtain ⟨s2, e2⟩ := cut_sim sim s1 e1 hc
      exact w' ι S1 H1 e2 s2
    · exact w'.elim
end
structure FnV (P : Program) (w : World) (K : PySem.W.Frag) (mg : Str → Option Value) (base : Heap) (k : Nat) (x : Str) (n : Nat) (g : D1) : Prop where
  ex : ∃ f fd ps, FnOk P w K mg base (CXo P w) k f fd ps (spD K n g) ∧ mg x = some (.ref f) ∧ PySem.W.keepIn K (.ref f) = true ∧ Binds K fd ps []
section
variable {P : Program} {w : World} {K : PySem.W.Frag} {mg : Str → Option Value} {base : Heap}
theorem FnV.mono {j k : Nat} {x : Str} {n : Nat} {g : D1} (F : FnV P w K mg base j x n g) (h : j ≤ k) : FnV P w K mg base k x n g := by
  obtain ⟨f, fd, ps, F, r⟩ := F.ex
  exact ⟨f, fd, ps, F.mono h, r⟩
theorem FnV.trunc {k : Nat} {x : Str} {n : Nat} {g : D1} (F : FnV P w K mg base k x n g) : FnV P w K mg base k x n (trunc g) := by
  obtain ⟨f, fd, ps, F, r⟩ := F.ex
  exact ⟨f, fd, ps, F.imp fun _ _ _ _ h => spD_trunc h, r⟩
theorem FnV.imp {k : Nat} {x : Str} {n : Nat} {g g' : D1} (F : FnV P w K mg base k x n g) (h : ∀ xs M, g' xs M = .bad ∨ g xs M = g' xs M) : FnV P w K mg base k x n g' := by
  obtain ⟨f, fd, ps, F, r⟩ := F.ex
  refine ⟨f, fd, ps, F.imp fun vs H Q E hs => ?_, r⟩
  obtain ⟨hl, ι, S, M, xs, sim, rr, w'⟩ := hs
  refine ⟨hl, ι, S, M, xs, sim, rr, ?_⟩
  rcases h xs M with e | e
  · rw [e] at w'; exact w'.elim
  · rw [e]; exact w'
structure DefAt (K : PySem.W.Frag) (mg : Str → Option Value) (x : Str) (st : Stmt) (ps : List Str) : Prop where
  ex : ∃ f fd, Fun K x x st f fd ∧ mg x = some (.ref f) ∧ Binds K fd ps []
theorem FnV.of {x : Str} {st : Stmt} {N ps : List Str} {k : Nat} {d : DS} (D : DefAt K mg x st ps) (S : FnScope N ps (defScope st))
    (hb : ∀ (f : Addr) (cdv : Value) (A : Around) (outer : List Env) (s : Shared) (H : Hp) (E : XK), Room k (A.deeper (envOfC x (defScope st) s.heap.objs.size f cdv)) →
      VSs (cxOf (CXo P w) P w K mg base N x (defScope st) f cdv A outer s H E) (fun _ => E) (defBody st) d) : FnV P w K mg base (k + 1) x ps.length (dFn N.length d) := by
  obtain ⟨f, fd, F, hm, hB⟩ := D.ex
  exact ⟨f, fd, ps, fn_den F S (hb f), hm, F.kp, hB⟩
end
structure Good (X : Cx) (Ex : St → XK) : Prop where
  hu : X.A.units + 64 < cLine
  calm : X.calm = true
  ps : PassesS (CXo X.prog X.w) X Ex
  own : PassesOwn (model X.prog X.w) X.A X.env X.xe
  nd : X.N.Nodup
theorem good_fn {P : Program} {w : World} {K : PySem.W.Frag} {mg : Str → Option Value} {base : Heap} {N ps : List Str} {qual : Str} {scope : Scope} {f : Addr} {cd : Value} {A : Around} {outer : List Env} {s : Shared} {H : Hp} {E : XK} {k : Nat} (S : FnScope N ps scope)
    (hr : Room k (A.deeper (envOfC qual scope s.heap.objs.size f cd))) : Good (cxOf (CXo P w) P w K mg base N qual scope f cd A outer s H E) (fun _ => E) :=
  ⟨hr.units, rfl, fun pins σ H s e s' I h => pass_on pins σ H s e s' I h, PassesOwn.leaving, S.nd⟩
theorem good_comp {X : Cx} {Ex : St → XK} (G : Good X Ex) {scope : Scope} {N : List Str} {C : Addr} {fp : List Addr} {s : Shared} {H : Hp} (nd : N.Nodup) : Good (cxComp X scope N C fp s H) E00 :=
  ⟨G.hu, G.calm, fun pins σ H s e s' I h => by obtain ⟨_, _, _, _, _, z⟩ := h; exact z.elim, PassesOwn.never, nd⟩
section
variable {X : Cx} {Ex : St → XK} {a b c e o : Expr} {es : List Expr} {da db dc d do' : DE} {ds : List DE} {pos pos' apos cpos : Pos} {k n : Nat} {x m : Str} {g : D1}
theorem ve_call {p : Pos} (F : FnV X.prog X.w X.K X.mg X.base k x n g) (hr : Room k X.A) (G : Good X Ex) (ha : VN X Ex (e :: es) ds) (hg : Gl X x := by rfl) (hn : ds.length = n := by rfl) (hdb : (x == ("__debug__" : Str)) = false := by decide)
    (he : starEach (e :: es) X.env = (false, eval e X.env) :: starEach es X.env := by rfl) (hpl : (backTo pos (starEach es X.env)).any (·.1) = false := by rfl) : VE X Ex (.Call (.Name x p) (e :: es) [] pos) (dCall g ds) := by
  obtain ⟨f, fd, ps, F, hm, hk, hb⟩ := F.ex
  refine PE.imp (pe_callS F hr hg hm hk hb .nil G.ps ha hdb he hpl) fun σ H Q h => ?_
  obtain ⟨ι, S, M, ρ, sim, sl, w⟩ := h
  refine ⟨ι, S, M, ρ, sim, sl, Want.bind (Rp := RpN X.K ds.length) w fun ι1 S1 M1 H1 xs vs e1 s1 r1 w1 => ?_⟩
  rw [List.append_nil]
  exact ⟨by rw [← r1.1.length, r1.2, hn], ι1, S1, M1, xs, s1, r1.1, w1⟩
end
abbrev RpU : List Addr → Hp → Unit → Unit → Prop := fun _ _ _ _ => True
def dJ : List (Option DE) → Rho → Sto → Res Unit
  | [], _, M => .ok () M
  | none :: r, ρ, M => dJ r ρ M
  | some d :: r, ρ, M => (d ρ M).bind fun x M1 => match x with
    | .int i => if small i = true then dJ r ρ M1 else .bad
    | _ => .bad
def VJ (X : Cx) (Ex : St → XK) (es : List Expr) (ps : List (Option DE)) : Prop := ∀ (pins : List (Addr × Obj)) (s : Shared) (σ : St) (H : Hp) (Q : Unit → Hp → Prop) (acc : Str) (n : Nat), Inv X pins σ H s → tG X.K RpU Ex (dJ ps) σ H Q →
  acc.length + ps.length * 2000 ≤ n → n ≤ 1000000 → Joins (model X.prog X.w) X.A X.xe (evalEach es X.env) acc (fun out s₁ => out.length ≤ n ∧ ∃ H', Inv X pins σ H' s₁ ∧ Q () H') s
section
variable {X : Cx} {Ex : St → XK} {a b c e : Expr} {es : List Expr} {d : DE} {ds : List DE} {ps : List (Option DE)} {pos pos' cpos : Pos}
theorem vj_nil : VJ X Ex [] [] := fun pins s σ H Q acc n I h hl hn => by
  obtain ⟨ι, S, M, ρ, sim, sl, w⟩ := h
  exact ⟨by simpa using hl, H, I, w ι S H () .refl sim trivial⟩
theorem vj_str {x : Str} {j} (h : VJ X Ex es ps) (hx : x.length ≤ 2000 := by decide) (he : evalEach (.Constant (.str x) j pos :: es) X.env = eval (.Constant (.str x) j pos) X.env :: evalEach es X.env := by rfl) : VJ X Ex (.Constant (.str x) j pos :: es) (none :: ps) := fun pins s σ H Q acc n I hw hl hn => by
  rw [he]
  rw [List.length_cons] at hl
  have e1 : (acc ++ x).length = acc.length + x.length := strLen_append _ _
  refine Calls.Constant_str ⟨x, _, rfl, ?_, ?_⟩
  · rw [e1, sizeLine_eq]; omega
  · exact h pins _ σ H Q (acc ++ x) n (I.tok _) hw (by rw [e1]; omega) hn
theorem small_log {i : Int} (h : small i = true) : i.natAbs.log2 < 1920 := by
  have h := of_decide_eq_true h
  have hn : i.natAbs < 2 ^ 64 := by omega
  by_cases h0 : i.natAbs = 0
  · rw [h0]; decide
  · exact Nat.lt_of_lt_of_le ((Nat.log2_lt h0).mpr hn) (by decide)
theorem vj_int {v : Expr} (hv : VE X Ex v d) (h : VJ X Ex es ps) (he : evalEach (.FormattedValue v (-1) none pos :: es) X.env = eval (.FormattedValue v (-1) none pos) X.env :: evalEach es X.env := by rfl) : VJ X Ex (.FormattedValue v (-1) none pos :: es) (some d :: ps) := fun pins s σ H Q acc n I hw hl hn => by
  rw [he]
  rw [List.length_cons] at hl
  refine FormattedValue_plain ?_
  obtain ⟨ι, S, M, ρ, sim, sl, w⟩ := hw
  refine thn (hv pins s σ H (fun x H1 => ∃ i, x = .int i ∧ small i = true ∧ tG X.K RpU Ex (dJ ps) σ H1 Q) I ⟨ι, S, M, ρ, sim, sl, Want.bind (Rp := RpE X.K) w fun ι1 S1 M1 H1 x v e1 s1 r1 w1 => ?_⟩) fun u s1 ⟨x, H1, I1, rx, i, ex, hs, q⟩ => ?_
  · cases x with
    | int i =>
      dsimp only at w1
      split at w1
      · rename_i hs
        exact ⟨i, Rep.int_iff.mp r1, hs, ι1, S1, M1, ρ, s1, sl.mono e1, w1⟩
      · exact w1.elim
    | _ => exact w1.elim
  · subst ex
    obtain ⟨t, rfl⟩ := rx
    have hlog := small_log hs
    have hlen : (Str.ofString (toString i)).length ≤ 1921 := by rw [PySem.ofString_length]; exact int_text_length_le (by decide) hlog
    have e1 : (acc ++ Str.ofString (toString i)).length = acc.length + (Str.ofString (toString i)).length := strLen_append _ _
    refine formatField_int_small hlog ⟨Str.ofString (toString i), _, rfl, ?_, ?_⟩
    · rw [e1, sizeLine_eq]; omega
    · exact h pins _ σ H1 Q (acc ++ Str.ofString (toString i)) n (I1.tok _) q (by rw [e1]; omega) hn
theorem pe_join {v₁ v₂ : Expr} {rest : List Expr} (h : VJ X Ex (v₁ :: v₂ :: rest) ps) (hp : ps.length ≤ 100 := by decide) : PE X (.JoinedStr (v₁ :: v₂ :: rest) pos) (fun σ H Q => tG X.K RpU Ex (dJ ps) σ H fun _ H' => ∀ z, Q (.str z) H') := by
  intro pins s σ H Q I hw
  refine wpAny_JoinedStr ?_
  have := h pins s σ H _ Str.empty 1000000 I hw (by have : Str.empty.length = 0 := rfl; omega) (Nat.le_refl _)
  have mono : ∀ (parts : List (Sem Value)) (acc : Str) (s : Shared) (Q1 Q2 : Str → Shared → Prop), (∀ o s, Q1 o s → Q2 o s) → Joins (model X.prog X.w) X.A X.xe parts acc Q1 s → Joins (model X.prog X.w) X.A X.xe parts acc Q2 s := by
    intro parts
    induction parts with
    | nil => intro acc s Q1 Q2 hq h; exact hq _ _ h
    | cons p r ih =>
      intro acc s Q1 Q2 hq h
      exact thn h fun v s1 ⟨y, t, e1, e2, e3⟩ => ⟨y, t, e1, e2, ih _ _ _ _ hq e3⟩
  refine mono _ _ _ _ _ (fun o s1 ⟨h1, H', I1, q⟩ => ?_) this
  refine ⟨by rw [sizeLine_eq]; omega, .str o, H', I1.tok _, ⟨_, rfl⟩, q o⟩
end
def dRaiseJ (C : Addr) (ps : List (Option DE)) : DS := fun ρ M => (dJ ps ρ M).out ρ fun _ M1 => .exc C ρ M1
def dRaise (C : Addr) (ds : List DE) : DS := fun ρ M => (dArgs ds ρ M).out ρ fun _ M1 => .exc C ρ M1
section
variable {P : Program} {w : World} {K : PySem.W.Frag} {mg : Str → Option Value} {base : Heap} {N : List Str} {qual : Str} {scope : Scope} {f : Addr} {cd : Value} {A : Around} {outer : List Env} {s : Shared} {H : Hp} {E : XK} {x : Str} {C : Addr} {np cpos pos jpos : Pos} {k : Nat}
theorem vs_raiseJ {v₁ v₂ : Expr} {rest : List Expr} {ps : List (Option DE)} (M : Exn K mg x C) (hr : Room k (A.deeper (envOfC qual scope s.heap.objs.size f cd))) (h : VJ (cxOf (CXo P w) P w K mg base N qual scope f cd A outer s H E) (fun _ => E) (v₁ :: v₂ :: rest) ps)
    (hg : Gl (cxOf (CXo P w) P w K mg base N qual scope f cd A outer s H E) x := by rfl) (hp : ps.length ≤ 100 := by decide) (hd : (x == ("__debug__" : Str)) = false := by decide) :
    VS (cxOf (CXo P w) P w K mg base N qual scope f cd A outer s H E) (fun _ => E) (.Raise (some (.Call (.Name x np) [.JoinedStr (v₁ :: v₂ :: rest) jpos] [] cpos)) none pos) (dRaiseJ C ps) := by
  refine PS.imp (ps_raise M hr.hd hg (pa_cons (pe_join h hp) pa_nil) hd) fun D σ H h => ?_
  obtain ⟨ι, S, M, ρ, sim, sl, w'⟩ := h
  refine ⟨ι, S, M, ρ, sim, sl, WantS.res (Rp := RpU) sl w' fun ι1 S1 M1 H1 x v e1 s1 r1 w1 => ?_⟩
  intro z
  exact ⟨by show 1 ≤ sizeLine; rw [sizeLine_eq]; decide, w1 ι1 S1 H1 σ .refl s1 (sl.mono e1)⟩
theorem vs_raise {e₀ : Expr} {rest : List Expr} {ds : List DE} (M : Exn K mg x C) (hr : Room k (A.deeper (envOfC qual scope s.heap.objs.size f cd))) (h : VN (cxOf (CXo P w) P w K mg base N qual scope f cd A outer s H E) (fun _ => E) (e₀ :: rest) ds)
    (hg : Gl (cxOf (CXo P w) P w K mg base N qual scope f cd A outer s H E) x := by rfl) (hn : ds.length ≤ 1000 := by decide) (hd : (x == ("__debug__" : Str)) = false := by decide)
    (he : starEach (e₀ :: rest) (envOfC qual scope s.heap.objs.size f cd) = (false, eval e₀ (envOfC qual scope s.heap.objs.size f cd)) :: starEach rest (envOfC qual scope s.heap.objs.size f cd) := by rfl)
    (hpl : (backTo cpos (starEach rest (envOfC qual scope s.heap.objs.size f cd))).any (·.1) = false := by rfl) :
    VS (cxOf (CXo P w) P w K mg base N qual scope f cd A outer s H E) (fun _ => E) (.Raise (some (.Call (.Name x np) (e₀ :: rest) [] cpos)) none pos) (dRaise C ds) := by
  refine PS.imp (ps_raise M hr.hd hg h hd he hpl) fun D σ H h => ?_
  obtain ⟨ι, S, M, ρ, sim, sl, w'⟩ := h
  refine ⟨ι, S, M, ρ, sim, sl, WantS.res (Rp := RpN K ds.length) sl w' fun ι1 S1 M1 H1 x v e1 s1 r1 w1 => ?_⟩
  exact ⟨by rw [← r1.1.length, r1.2]; exact Nat.le_of_lt (small1000 hn), w1 ι1 S1 H1 σ .refl s1 (sl.mono e1)⟩
end
end L2
end
section
set_option Elab.async false
set_option linter.all false
set_option maxRecDepth 100000
set_option maxHeartbeats 4000000
namespace L2
open PySem PySem.Spec PyProof.Rows
theorem Inv.turnedT {X : Cx} {pins : List (Addr × Obj)} {σ : St} {H : Hp} {s : Shared} {h' : Heap} {t' : Nat} {fp : List Addr} {vs : List V} (I : Inv X pins σ H s) (hf : ∀ b ∈ fp, FpOk X pins H b)
    (k : ∀ b o, b ∉ fp → s.heap.get? b = some o → h'.get? b = some o) (kf : ∀ b ∈ fp, ∃ o, h'.get? b = some o) (new : ObjOk X.prog X.w (upd H s.heap.objs.size (.tup vs)) h' s.heap.objs.size (.tup vs)) :
    Inv X pins σ (upd H s.heap.objs.size (.tup vs)) { s with heap := h', toks := t' } := by
  have hp : H s.heap.objs.size = none := I.hok.fresh (Nat.le_refl _)
  have nit : ∀ b u, H b = some u → b ∉ fp := fun b u e z => by rw [(hf b z).1] at e; cases e
  have np : ∀ b o, s.heap.get? b = some o → b ≠ s.heap.objs.size := fun b o e => Nat.ne_of_lt (Heap.lt_size e)
  refine I.step (g' := s.gens) (d' := s.drawn) (ch := fp) (fun b hb => ?_) (fun b o _ _ hc e _ => k b o hc e) (fun b o _ _ hc e _ => ⟨o.slots, k b o hc e⟩) (fun b o hc e n => by rw [upd_ne (np b o e)]; exact n)
    (fun b o hc e => ⟨o, k b o hc e⟩) (fun b xs e => by rw [upd_ne (ne_of_none e hp)]; exact e) (fun b o u e => by rw [upd_ne (ne_of_none e hp)]; exact e) (fun b ps e => ⟨#[], by rw [upd_ne (ne_of_none e hp), e]; simp⟩) (fun m hm => ?_) (fun b u e => ?_) I.bare
  · obtain ⟨f0, f1, f2, f3, f4, f5⟩ := hf b hb
    exact ⟨f3, f1, f4, f5⟩
  · obtain ⟨o, es, ep, ho, r⟩ := hm
    exact ⟨o, es, ep, k _ o (fun z => (hf _ z).2.1 rfl) ho, r⟩
  · by_cases hb : b = s.heap.objs.size
    · subst hb
      rw [upd_same] at e
      cases e
      exact new
    · rw [upd_ne hb] at e
      refine (I.hok b u e).stay (fun c v hc q => k c v ?_ q) (fun c q => by rw [upd_ne (ne_of_none q hp)]; exact q) fun c xs q => by rw [upd_ne (ne_of_none q hp)]; exact q
      rcases hc with z | z
      · rw [z]; exact nit b u e
      · exact nit c _ z
theorem Inv.turnedL {X : Cx} {pins : List (Addr × Obj)} {σ : St} {H : Hp} {s : Shared} {h' : Heap} {t' : Nat} {fp : List Addr} (I : Inv X pins σ H s) (hf : ∀ b ∈ fp, FpOk X pins H b)
    (k : ∀ b o, b ∉ fp → s.heap.get? b = some o → h'.get? b = some o) : Inv X pins σ H { s with heap := h', toks := t' } := by
  have nit : ∀ b u, H b = some u → b ∉ fp := fun b u e z => by rw [(hf b z).1] at e; cases e
  refine I.step (g' := s.gens) (d' := s.drawn) (ch := fp) (fun b hb => ?_) (fun b o _ _ hc e _ => k b o hc e) (fun b o _ _ hc e _ => ⟨o.slots, k b o hc e⟩) (fun b o hc e n => n)
    (fun b o hc e => ⟨o, k b o hc e⟩) (fun b xs e => e) (fun b o u e => e) (fun b ps e => ⟨#[], by rw [e]; simp⟩) (fun m hm => ?_) (fun b u e => ?_) I.bare
  · obtain ⟨f0, f1, f2, f3, f4, f5⟩ := hf b hb
    exact ⟨f3, f1, f4, f5⟩
  · obtain ⟨o, es, ep, ho, r⟩ := hm
    exact ⟨o, es, ep, k _ o (fun z => (hf _ z).2.1 rfl) ho, r⟩
  · refine (I.hok b u e).stay (fun c v hc q => k c v ?_ q) (fun c q => q) fun c xs q => q
    rcases hc with z | z
    · rw [z]; exact nit b u e
    · exact nit c _ z
def Ite (K : PySem.W.Frag) (a : Addr) : It :=
  ⟨fun i H => ∃ xs x, SqL K H a xs ∧ xs[i]? = some x, fun i H v H' => ∃ p, H p = none ∧ v = .ref p ∧ ∀ xs, SqL K H a xs → ∃ x, xs[i]? = some x ∧ H' = upd H p (.tup [.int i, x]), fun i H => ∃ xs, SqL K H a xs ∧ xs.length ≤ i⟩
theorem turn_enum {P : Program} {w : World} {K : PySem.W.Frag} {elts : List Expr} {x1} {tpos : Pos} (a e it : Addr) (hne : e ≠ it) :
    Turn P w K (.Tuple elts x1 tpos) (Ite K a) [e, it] e (fun i h => ∃ old, IsEnum h e it (i : Nat) old ∧ h.IsListIter it a i) where
  mem := by simp
  obj := fun i h ⟨old, he, hit⟩ b hb => by
    rcases List.mem_cons.mp hb with rfl | hb
    · exact ⟨_, he, fun v z => by cases z⟩
    · have eb : b = it := by simpa using hb
      subst eb
      obtain ⟨o, e, c, d⟩ := hit
      exact ⟨o, e, fun v z => by rw [d] at z; cases z⟩
  keep := fun i h h' ⟨old, he, hit⟩ k => ⟨old, k e (by simp) _ he, hit.at fun o q => k it (by simp) o q⟩
  item := by
    intro X hP hw hK hc i pins s σ H E I hf st hg
    subst hP hw hK
    obtain ⟨old, he, hit⟩ := st
    obtain ⟨xs, x, hq, hx⟩ := hg
    obtain ⟨its, rv, p, hz⟩ := I.list hq
    obtain ⟨u, hu, ru⟩ := rv.get hx
    refine wpAny_pyNext_enum_item he hit p.isList (x := u) (by simpa using hu) hne fun h1 he1 hit1 ht1 hs1 k1 => ⟨_, rfl, wpAny_letOwnedTupleGo_enum he1 fun h2 he2 sb2 => ?_⟩
    have hel : e < s.heap.objs.size := Heap.lt_size he
    have sb2' : Heap.SameBut e h1 h2 := sb2
    have ht2 : h2.get? s.heap.objs.size = some { cls := .type "tuple", data := .seq #[.int i s.toks, u] } := (sb2'.2 _ (Nat.ne_of_gt hel)).trans ht1
    have I1 : Inv X pins σ (upd H s.heap.objs.size (.tup [.int i, x])) { s with heap := h2, toks := s.toks + 1 } := by
      refine I.turnedT (fp := [e, it]) hf (fun b o hb q => ?_) (fun b hb => ?_) ?_
      · have n1 : b ≠ e := fun z => hb (by simp [z])
        have n2 : b ≠ it := fun z => hb (by simp [z])
        exact (sb2'.2 b n1).trans (k1 b o n1 n2 q)
      · rcases List.mem_cons.mp hb with rfl | hb
        · exact ⟨_, he2⟩
        · have eb : b = it := by simpa using hb
          subst eb
          obtain ⟨o, q, _⟩ := hit1
          exact ⟨o, (sb2'.2 b (Ne.symm hne)).trans q⟩
      · exact ⟨by show 2 ≤ sizeLine; rw [sizeLine_eq]; decide, [.int i s.toks, u], .cons ⟨_, rfl⟩ (.cons ru .nil), ⟨_, ht2, rfl, _, rfl⟩⟩
    have hp := I.hok.fresh (Nat.le_refl s.heap.objs.size)
    refine ⟨.ref s.heap.objs.size, _, I1, rfl, ⟨s.heap.objs.size, hp, rfl, fun ys hy => ⟨x, by rw [I.list_inj hy hq]; exact hx, rfl⟩⟩, ⟨u, ?_, ?_⟩, fun b hb => ?_⟩
    · have : ((i + 1 : Nat) : Int) = (i : Int) + 1 := by push_cast; rfl
      rw [this]; exact he2
    · exact hit1.at fun o q => (sb2'.2 it (Ne.symm hne)).trans q
    · have : b ≠ s.heap.objs.size := by
        rcases List.mem_cons.mp hb with rfl | hb
        · exact Nat.ne_of_lt hel
        · have eb : b = it := by simpa using hb
          subst eb
          obtain ⟨o, q, _⟩ := hit
          exact Nat.ne_of_lt (Heap.lt_size q)
      rw [upd_ne this]
      exact (hf b hb).1
  done := by
    intro X hP hw hK hc i pins s σ H E I hf st hg
    subst hP hw hK
    obtain ⟨old, he, hit⟩ := st
    obtain ⟨xs, hq, hx⟩ := hg
    obtain ⟨its, rv, p, hz⟩ := I.list hq
    have hl := rv.length
    refine wpAny_pyNext_enum_end (I.ok.hd hc) he hit p.isList (by simp; omega) fun h' eb => ⟨rfl, ?_⟩
    exact I.turnedL (t' := s.toks) (fp := [e, it]) hf fun b o hb q => eb b o (fun z => hb (by simp [z])) q
  self := fun _ _ _ _ _ ⟨old, he, hit⟩ h => wpAny_pyIter_enum he h
section
variable {X : Cx} {Ex : St → XK} {a : Expr} {d : DE} {pos p tpos : Pos} {elts : List Expr} {x1 : Nat}
def enumP (xs : List PV) : List PV := (xs.zipIdx).map fun q => .tup [.int q.2, q.1]
theorem enumP_get {xs : List PV} {i : Nat} {y : PV} (h : (enumP xs)[i]? = some y) : ∃ x, xs[i]? = some x ∧ y = .tup [.int i, x] := by
  unfold enumP at h
  rw [List.getElem?_map, List.getElem?_zipIdx] at h
  cases e : xs[i]? with
  | none => rw [e] at h; cases h
  | some x => rw [e] at h; cases h; exact ⟨x, rfl, by simp⟩
def iE (d : DE) : DI := fun ρ M => (d ρ M).bind fun x M1 => match x with
  | .lst xs => .ok (enumP xs, none) M1
  | .obj n => match M1[n]? with
    | some (.lst xs) => .ok (enumP xs, some (n, .lst xs)) M1
    | _ => .bad
  | _ => .bad
theorem walks_enum {K : PySem.W.Frag} {ι : List Addr} {S : Hp} {q : Addr} {xs : List PV} {w : Wat} (h : ∀ ι' S' M' H', Up ι S ι' S' → SimH K ι' S' M' H' → chk w M' → ∃ vs, SqL K H' q vs ∧ Reps K ι' S' xs vs) : Walks K (Ite K q) (enumP xs) w ι S := by
  intro i ι' S' M' H' up sim hc
  obtain ⟨vs, hq, rs⟩ := h ι' S' M' H' up sim hc
  refine ⟨fun y hy => ?_, fun hl => ⟨vs, hq, by rw [← rs.length]; simpa [enumP] using hl⟩⟩
  obtain ⟨x, hx, rfl⟩ := enumP_get hy
  obtain ⟨v, hv, r⟩ := rs.get hx
  refine ⟨⟨vs, v, hq, hv⟩, fun u H2 y => ?_⟩
  obtain ⟨p, hp, rfl, y⟩ := y
  obtain ⟨z, hz, rfl⟩ := y vs hq
  rw [hv] at hz
  cases hz
  obtain ⟨s2, e2⟩ := sim.tree (o := .tup [.int i, v]) hp
  exact ⟨ι', _, e2, s2, Rep.tup_iff.mpr ⟨p, _, rfl, upd_same, .cons (Rep.int_iff.mpr rfl) (.one (r.mono e2))⟩⟩
theorem vi_enum (h : VE X Ex a d) (hm : X.mg "enumerate" = none) (hg : Gl X "enumerate" := by rfl) (hs : starEach [a] X.env = [(false, eval a X.env)] := by rfl) : VI X Ex (.Tuple elts x1 tpos) (.Call (.Name "enumerate" p) [a] [] pos) (iE d) := by
  intro pins s σ H R I hw
  obtain ⟨ι, S, M, ρ, sim, sl, w⟩ := hw
  have A1 : PA X [a] (tCons (tG X.K (RpE X.K) Ex d) tNil) := pa_cons h pa_nil (by rw [hs]; rfl)
  refine wpAny_Call_Name_kw (ld_blt I hg hm (u := .type "enumerate") (by first | rfl | decide) ?_ (by decide) (by decide))
  refine PyProof.Rows.callWith_type1 (thn (A1 pos pins s σ H (fun vs H1 => ∃ q, vs = [.ref q] ∧ (∃ xs, SqL X.K H1 q xs) ∧ R (Ite X.K q) H1) I ?_) fun us s1 ⟨vs, H1, I1, r1, q, ev, ⟨xs, hq⟩, k⟩ => ?_) (by rw [hs]; rfl) rfl
  · refine ⟨ι, S, M, ρ, sim, sl, Want.bind (Rp := RpE X.K) w fun ι1 S1 M1 H1 x v e1 s1 r1 w1 => ?_⟩
    cases x with
    | lst xs =>
      obtain ⟨q, vs, rfl, eS, rs⟩ := Rep.lst_iff.mp r1
      refine ⟨q, rfl, ⟨vs, .of (s1.sub _ _ eS)⟩, w1 ι1 S1 H1 _ .refl s1 (walks_enum fun ι2 S2 M2 H2 up s2 _ => ?_)⟩
      exact ⟨vs, .of (s2.sub _ _ (up.sm _ _ eS)), rs.up up⟩
    | obj n =>
      obtain ⟨q, rfl, ei⟩ := Rep.obj_iff.mp r1
      obtain ⟨o, eM, mo⟩ := s1.addr ei
      simp only [eM] at w1
      cases o with
      | lst xs =>
        obtain ⟨_, vs, eH, rs⟩ := mo
        refine ⟨q, rfl, ⟨vs, .of eH⟩, w1 ι1 S1 H1 _ .refl s1 (walks_enum fun ι2 S2 M2 H2 up s2 hc => ?_)⟩
        obtain ⟨_, vs2, eH2, rs2⟩ := s2.ob n q _ (up.ix _ _ ei) hc
        exact ⟨vs2, .of eH2, rs2⟩
      | _ => exact w1.elim
    | _ => exact w1.elim
  · subst ev
    obtain ⟨u, rfl, ru⟩ := vals1 r1
    cases ru
    obtain ⟨its, rv, pl, hz⟩ := I1.list hq
    refine call_enumerate_list pl.isList fun h' he hit hsz kp => ?_
    refine wpAny_pyIter_enum he ?_
    have hp := I1.hok.fresh (Nat.le_refl s1.heap.objs.size)
    have hp1 := I1.hok.fresh (Nat.le_succ s1.heap.objs.size)
    refine ⟨s1.heap.objs.size + 1, [s1.heap.objs.size + 1, s1.heap.objs.size], _, _, H1, rfl, I1.kept (t' := s1.toks) kp, turn_enum q _ _ (Nat.succ_ne_self _), ⟨.none, he, hit⟩, fun b hb => ?_, k⟩
    rcases List.mem_cons.mp hb with rfl | hb
    · exact I1.fpOk (Nat.le_succ _) hp1
    · have eb : b = s1.heap.objs.size := by simpa using hb
      subst eb
      exact I1.fpOk (Nat.le_refl _) hp
end
end L2
end
section
set_option Elab.async false
set_option linter.all false
set_option maxRecDepth 100000
set_option maxHeartbeats 4000000
namespace L2
open PySem PySem.Spec PyProof.Rows
def compChk (scope sc : Scope) (XN N : List Str) (cap : List (Option Nat)) : Bool :=
  decide (scope.kind = .function) && scope.names.all (fun y => !(y.2 == .cell)) && scope.names.all (fun y => !(y.2 == .local) || (scope.names.lookup y.1 == some .local)) &&
  scope.names.all (fun y => !(y.2 == .free) || (sc.names.lookup y.1 == some .cell) || (sc.names.lookup y.1 == some .free)) && decide (cap.length = N.length) &&
  (List.range N.length).all fun j => match N[j]?, cap[j]? with
    | some x, some (some i) => (XN[i]? == some x) && scope.names.any (fun y => y.1 == x && y.2 == .free) && (scope.names.lookup x == some .free)
    | _, _ => true
theorem CompOk.of {X : Cx} {scope sc : Scope} (XN N : List Str) (cap : List (Option Nat)) (hX : X.N = XN) (hk : ∀ x, X.env.kindOf x = sc.names.lookup x) (h : compChk scope sc XN N cap = true) : CompOk X scope N cap := by
  subst hX
  unfold compChk at h
  simp only [Bool.and_eq_true] at h
  obtain ⟨⟨⟨⟨⟨h1, h2⟩, h3⟩, h4⟩, h5⟩, h6⟩ := h
  refine ⟨of_decide_eq_true h1, fun y hy e => ?_, fun y hy e => ?_, fun y hy e => ?_, of_decide_eq_true h5, fun j x i e1 e2 => ?_⟩
  · have := List.all_eq_true.mp h2 y hy
    rw [e] at this
    simp at this
  · have := List.all_eq_true.mp h3 y hy
    rw [e] at this
    simpa using this
  · have := List.all_eq_true.mp h4 y hy
    rw [e] at this
    rw [hk]
    simpa [or_comm] using this
  · have hj : j < N.length := (List.getElem?_eq_some_iff.mp e1).1
    have := List.all_eq_true.mp h6 j (List.mem_range.mpr hj)
    rw [e1, e2] at this
    simp only [Bool.and_eq_true, beq_iff_eq, List.any_eq_true] at this
    obtain ⟨⟨a1, ⟨y, a2, a3⟩⟩, a4⟩ := this
    exact ⟨a1, by rw [← a3.1, ← a3.2]; exact a2, a4⟩
def relabS (scope sc : Scope) : Scope := { scope with names := scope.names.map fun (n, k) => if (k == NameKind.free && sc.names.lookup n == some .cell) then (n, NameKind.cell) else (n, k) }
theorem kind_comp {X : Cx} {scope sc : Scope} {N : List Str} {C : Addr} {fp : List Addr} {s : Shared} {H : Hp} (hk : ∀ x, X.env.kindOf x = sc.names.lookup x) (hf : X.env.scope.kind = .function) (x : Str) :
    (cxComp X scope N C fp s H).env.kindOf x = (relabS scope sc).names.lookup x := by
  show (relabel scope X.env).names.lookup x = _
  unfold relabel relabS
  simp only [hk, hf]
  simp only [show (ScopeKind.function == ScopeKind.function) = true from rfl, Bool.and_true]
section
variable {X : Cx} {Ex : St → XK} {a b c e o : Expr} {es : List Expr} {da db dc d do' : DE} {ds : List DE} {pos pos' apos cpos : Pos}
def dNeg (d : DE) : DE := fun ρ M => (d ρ M).bind fun x M1 => match x with
  | .int i => .ok (.int (-i)) M1
  | _ => .bad
theorem ve_neg (ha : VE X Ex a da) : VE X Ex (.UnaryOp .USub a pos) (dNeg da) := by
  refine PE.imp (pe_un un_neg ha) fun σ H Q h => ?_
  obtain ⟨ι, S, M, ρ, sim, sl, w⟩ := h
  refine ⟨ι, S, M, ρ, sim, sl, Want.bind (Rp := RpE X.K) w fun ι1 S1 M1 H1 x v e1 s1 r1 w1 => ?_⟩
  cases x with
  | int i => exact ⟨i, Rep.int_iff.mp r1, w1 ι1 S1 H1 _ .refl s1 (Rep.int_iff.mpr rfl)⟩
  | _ => exact w1.elim
theorem eq_items {X : Cx} {pins : List (Addr × Obj)} {σ : St} {H : Hp} {s : Shared} {ι : List Addr} {S : Hp} {M : Sto} {ys : List PV} {vs : List V} {its : List Value} {x : PV} {v : V} {u : Value} {d : PyData} {qs : List PyData} (hu : X.A.units + 64 < cLine) (I : Inv X pins σ H s) (sim : SimH X.K ι S M H)
    (rs : Reps X.K ι S ys vs) (rv : Vals vs its) (px : Rep X.K ι S x v) (rx : RelV v u) (e1 : flat M deep x = some d) (e2 : mapO (flat M deep) ys = some qs) :
    (∀ y, y ∈ its.toArray → SeqAt.EqAt X.A.in1 s y u (PyData.eqv (SeqAt.readOf s.heap y) d)) ∧ its.map (fun y => SeqAt.readOf s.heap y) = qs := by
  obtain ⟨⟨as, a1⟩, a2, a3⟩ := flat_ok sim I.hok deep x v u d px rx e1
  obtain ⟨⟨bs, b1⟩, b2, b3⟩ := flats_ok (flat_ok sim I.hok deep) ys vs its qs rs rv e2
  have b1' : ReadsAll s.heap its.toArray.toList qs bs := by simpa using b1
  refine ⟨SeqAt.items_eqAt b1' a1 b2 a2 (by have := Nat.min_le_right (PyData.depthAll qs) d.depth; have : d.depth ≤ 10 := a3; omega), ?_⟩
  exact SeqAt.readsAll_map qs its bs b2 b1
def countP : DM := fun x as M => match as with
  | [y] => match seqL M x, flat M deep y with
    | some xs, some d => match mapO (flat M deep) xs with
      | some qs => .ok (.int (qs.countP fun q => PyData.eqv q d)) M
      | none => .bad
    | _, _ => .bad
  | _ => .bad
theorem mt_countP (hu : X.A.units + 64 < cLine) : MtR X "list.count" (rM X.K countP) := by
  intro pins s σ H x xs v us Q I rx rs h
  obtain ⟨E, ι, S, M, p, ps, sim, r, rr, w⟩ := h
  unfold countP at w
  split at w
  · obtain ⟨z, rfl, r1⟩ := rr.one_inv
    obtain ⟨u, rfl, ru⟩ := vals1 rs
    split at w
    · rename_i ys d h1 h2
      split at w
      · rename_i qs h3
        obtain ⟨l, vs, rfl, eH, rl⟩ := seqL_rep sim r h1
        cases rx
        obtain ⟨its, rv, pl, hz⟩ := I.list (.of eH)
        obtain ⟨q1, q2⟩ := eq_items hu I sim rl rv r1 ru h2 h3
        obtain ⟨⟨cls, dd, data, sl⟩, n, ho, hc, hd0, hd⟩ := id pl
        simp only at hc hd hd0
        subst hc hd
        refine call_meets PySem.F.slot_list_count pl.isList.typeIs PySem.F.entry_list_count (PySem.F.args_list_count_2 _ _) (SeqAt.list_countAt l _ n dd sl u _) ⟨ho, q1, ?_⟩
        have e : (List.countP (fun y => PyData.eqv (SeqAt.readOf s.heap y) d) its.toArray.toList : Nat) = qs.countP fun q => PyData.eqv q d := by
          rw [← q2, List.countP_map]; rfl
        rw [e]
        exact ⟨.int _, H, I.tok _, ⟨_, rfl⟩, w ι S H _ .refl sim (Rep.int_iff.mpr rfl)⟩
      · exact w.elim
    · exact w.elim
  · exact w.elim
def indexP : DM := fun x as M => match as with
  | [y] => match seqL M x, flat M deep y with
    | some xs, some d => match mapO (flat M deep) xs with
      | some qs => match qs.findIdx? fun q => PyData.eqv q d with
        | some j => .ok (.int j) M
        | none => .bad
      | none => .bad
    | _, _ => .bad
  | _ => .bad
theorem mt_indexP (hu : X.A.units + 64 < cLine) : MtR X "list.index" (rM X.K indexP) := by
  intro pins s σ H x xs v us Q I rx rs h
  obtain ⟨E, ι, S, M, p, ps, sim, r, rr, w⟩ := h
  unfold indexP at w
  split at w
  · obtain ⟨z, rfl, r1⟩ := rr.one_inv
    obtain ⟨u, rfl, ru⟩ := vals1 rs
    split at w
    · rename_i ys d h1 h2
      split at w
      · rename_i qs h3
        split at w
        · rename_i j h4
          obtain ⟨l, vs, rfl, eH, rl⟩ := seqL_rep sim r h1
          cases rx
          obtain ⟨its, rv, pl, hz⟩ := I.list (.of eH)
          obtain ⟨q1, q2⟩ := eq_items hu I sim rl rv r1 ru h2 h3
          obtain ⟨⟨cls, dd, data, sl⟩, n, ho, hc, hd0, hd⟩ := id pl
          simp only at hc hd hd0
          subst hc hd
          obtain ⟨hj, ht, hno⟩ := List.findIdx?_eq_some_iff_getElem.mp h4
          have hlen : its.length = qs.length := by rw [← q2]; simp
          have hlv := rv.length
          have at' : ∀ (m : Nat) (h : m < its.length), PyData.eqv (SeqAt.readOf s.heap its[m]) d = PyData.eqv (qs[m]'(by omega)) d := fun m h => by
            have : qs[m]? = some (SeqAt.readOf s.heap its[m]) := by rw [← q2, List.getElem?_map, List.getElem?_eq_getElem h]; rfl
            rw [List.getElem?_eq_getElem (by omega)] at this
            rw [Option.some.inj this]
          refine call_meets PySem.F.slot_list_index pl.isList.typeIs PySem.F.entry_list_index (PySem.F.args_list_index_2 _ _) (SeqAt.list_indexAt l _ n dd sl u (fun y => PyData.eqv (SeqAt.readOf s.heap y) d) j (by simpa [hlen] using hj) ?_ ?_ ?_) ⟨ho, q1, ?_⟩
          · have := sizeLine_eq; omega
          · simp only [List.getElem_toArray]
            rw [at' j (by omega)]; exact ht
          · intro m hm hlt
            simp only [List.getElem_toArray]
            rw [at' m (by simpa using hm)]
            simpa using hno m hlt
          · exact ⟨.int _, H, I.tok _, ⟨_, rfl⟩, w ι S H _ .refl sim (Rep.int_iff.mpr rfl)⟩
        · exact w.elim
      · exact w.elim
    · exact w.elim
  · exact w.elim
end
theorem blt_len : bootBuiltins "len" = some (.builtin "len") := by decide +kernel
theorem blt_max : bootBuiltins "max" = some (.builtin "max") := by decide +kernel
theorem blt_min : bootBuiltins "min" = some (.builtin "min") := by decide +kernel
theorem blt_all : bootBuiltins "all" = some (.builtin "all") := by decide +kernel
theorem blt_any : bootBuiltins "any" = some (.builtin "any") := by decide +kernel
theorem blt_list : bootBuiltins "list" = some (.type "list") := by decide +kernel
theorem blt_tuple : bootBuiltins "tuple" = some (.type "tuple") := by decide +kernel
theorem blt_int : bootBuiltins "int" = some (.type "int") := by decide +kernel
theorem blt_set : bootBuiltins "set" = some (.type "set") := by decide +kernel
end L2
end
section
set_option Elab.async false
set_option linter.all false
set_option maxRecDepth 100000
set_option maxHeartbeats 4000000
namespace L2
open PySem PySem.Spec PyProof.Rows
structure FldOk (K : PySem.W.Frag) (C : Addr) (f : Str) : Prop where
  cl : Cls K C
  no : NoAttr K C f
def putFP (f : Str) (v : PV) : List (Str × PV) → List (Str × PV)
  | [] => [(f, v)]
  | (g, x) :: r => if g = f then (g, v) :: r else (g, x) :: putFP f v r
theorem RepKs.lookup {K : PySem.W.Frag} {ι : List Addr} {S : Hp} {fs : List (Str × PV)} {fvs : List (Str × V)} (h : RepKs K ι S fs fvs) (f : Str) :
    (fs.lookup f = none ∧ fvs.lookup f = none) ∨ ∃ x v, fs.lookup f = some x ∧ fvs.lookup f = some v ∧ Rep K ι S x v := by
  induction h with
  | nil => exact .inl ⟨rfl, rfl⟩
  | @cons p q fs fvs r t ih =>
    obtain ⟨r1, r2⟩ := r
    obtain ⟨p1, p2⟩ := p
    obtain ⟨q1, q2⟩ := q
    dsimp only at r1 r2
    subst r1
    rw [List.lookup_cons, List.lookup_cons]
    cases e : f == p1 with
    | true => exact .inr ⟨p2, q2, rfl, rfl, r2⟩
    | false => exact ih
theorem RepKs.putF {K : PySem.W.Frag} {ι : List Addr} {S : Hp} {fs : List (Str × PV)} {fvs : List (Str × V)} (h : RepKs K ι S fs fvs) (f : Str) {x : PV} {v : V} (r : Rep K ι S x v) : RepKs K ι S (putFP f x fs) (putF f v fvs) := by
  induction h with
  | nil => exact .cons ⟨rfl, r⟩ .nil
  | @cons p q fs fvs r' t ih =>
    obtain ⟨p1, p2⟩ := p
    obtain ⟨q1, q2⟩ := q
    obtain ⟨r1, r2⟩ := r'
    dsimp only at r1 r2
    subst r1
    show RepKs K ι S (if p1 = f then (p1, x) :: fs else (p1, p2) :: putFP f x fs) (if p1 = f then (p1, v) :: fvs else (p1, q2) :: L2.putF f v fvs)
    by_cases e : p1 = f
    · rw [if_pos e, if_pos e]; exact .cons ⟨rfl, r⟩ t
    · rw [if_neg e, if_neg e]; exact .cons ⟨rfl, r2⟩ ih
def onI (C : Addr) (x : PV) (M : Sto) : Option (Nat × List (Str × PV)) := match x with
  | .obj n => match M[n]? with
    | some (.ins C' fs) => if C' = C then some (n, fs) else none
    | _ => none
  | _ => none
theorem onI_obj {C : Addr} {n : Nat} {M : Sto} {fs : List (Str × PV)} (h : M[n]? = some (.ins C fs)) : onI C (.obj n) M = some (n, fs) := by simp [onI, h]
theorem onI_rep {K : PySem.W.Frag} {ι : List Addr} {S H : Hp} {M : Sto} {x : PV} {v : V} {C : Addr} {n : Nat} {fs : List (Str × PV)} (sim : SimH K ι S M H) (r : Rep K ι S x v) (h : onI C x M = some (n, fs)) :
    ∃ a dx fvs, v = .ref a ∧ ι[n]? = some a ∧ H a = some (.ins C dx fvs) ∧ S a = none ∧ RepKs K ι S fs fvs := by
  cases x with
  | obj m =>
    obtain ⟨p, rfl, ei⟩ := Rep.obj_iff.mp r
    obtain ⟨o, eM, q⟩ := sim.addr ei
    simp only [onI, eM] at h
    cases o with
    | ins C' gs =>
      dsimp only at h
      split at h
      · rename_i ec
        cases h
        subst ec
        obtain ⟨hS, dx, fvs, eH, rr⟩ := q
        exact ⟨p, dx, fvs, rfl, ei, eH, hS, rr⟩
      · cases h
    | _ => cases h
  | _ => cases h
section
variable {X : Cx} {Ex : St → XK} {a b c e o value : Expr} {es : List Expr} {da db dc d dv do' : DE} {ds : List DE} {pos pos' apos cpos : Pos} {C : Addr} {f : Str}
def dFld (C : Addr) (f : Str) (d : DE) : DE := fun ρ M => (d ρ M).bind fun x M1 => match onI C x M1 with
  | some (_, fs) => Res.opt (fs.lookup f) M1
  | none => .bad
theorem ve_fld (h : FldOk X.K C f) (ha : VE X Ex a da) (hb : attributeBase a f X.env (eval a X.env) = eval a X.env := by rfl) : VE X Ex (.Attribute a f pos) (dFld C f da) := by
  refine PE.imp (pe_fld ha hb) fun σ H Q hh => ?_
  obtain ⟨ι, S, M, ρ, sim, sl, w⟩ := hh
  refine ⟨ι, S, M, ρ, sim, sl, Want.bind (Rp := RpE X.K) w fun ι1 S1 M1 H1 x v e1 s1 r1 w1 => ?_⟩
  cases e2 : onI C x M1 with
  | none => rw [e2] at w1; exact w1.elim
  | some p =>
    obtain ⟨n, fs⟩ := p
    rw [e2] at w1
    dsimp only at w1
    obtain ⟨p, dx, fvs, rfl, ei, eH, hS, rr⟩ := onI_rep s1 r1 e2
    rcases rr.lookup f with ⟨k1, _⟩ | ⟨y, u, k1, k2, k3⟩
    · rw [k1] at w1; exact w1.elim
    · rw [k1] at w1
      exact ⟨p, C, dx, fvs, u, rfl, eH, h.cl, h.no, k2, w1 ι1 S1 H1 u .refl s1 k3⟩
def dPutF (C : Addr) (f : Str) (do' dv : DE) : DS := fun ρ M => (dv ρ M).out ρ fun y M1 => (do' ρ M1).out ρ fun x M2 => match onI C x M2 with
  | some (n, fs) => if fs.length < 1000 then .nx ρ (M2.set n (.ins C (putFP f y fs))) else .bad
  | none => .bad
theorem vs_putF (h : FldOk X.K C f) (ho : VE X Ex o do') (hv : VE X Ex value dv) (hs : swapsWith value (some (.Attribute o f pos')) pos.line X.env = pure false := by rfl) : VS X Ex (.Assign [.Attribute o f pos'] value pos) (dPutF C f do' dv) := by
  refine PS.imp (ps_fld ho hv hs) fun D σ H hh => ?_
  obtain ⟨ι, S, M, ρ, sim, sl, w⟩ := hh
  refine ⟨ι, S, M, ρ, sim, sl, WantS.res (Rp := RpE X.K) sl w fun ι1 S1 M1 H1 y u e1 s1 r1 w1 => ?_⟩
  refine ⟨ι1, S1, M1, ρ, s1, sl.mono e1, WantS.res (Rp := RpE X.K) (sl.mono e1) w1 fun ι2 S2 M2 H2 x v e2 s2 r2 w2 => ?_⟩
  cases e3 : onI C x M2 with
  | none => rw [e3] at w2; exact w2.elim
  | some p =>
    obtain ⟨n, fs⟩ := p
    rw [e3] at w2
    dsimp only at w2
    split at w2
    · rename_i hl
      obtain ⟨p, dx, fvs, rfl, ei, eH, hS, rr⟩ := onI_rep s2 r2 e3
      refine ⟨p, C, dx, fvs, rfl, eH, h.cl, h.no, by rw [← rr.length]; exact hl, ?_⟩
      obtain ⟨s3, e4⟩ := s2.put (u := .ins C dx (putF f u fvs)) (o := .ins C (putFP f y fs)) ei hS ⟨hS, dx, _, upd_same, rr.putF f (Rep.mono e2 r1)⟩
      exact w2 _ _ _ σ e4 s3 ((sl.mono (e1.trans e2)).mono e4)
    · exact w2.elim
end
structure MeV (P : Program) (w : World) (K : PySem.W.Frag) (mg : Str → Option Value) (base : Heap) (k : Nat) (C : Addr) (m : Str) (n : Nat) (g : D1) : Prop where
  ex : ∃ f fd ps, FnOk P w K mg base (CXo P w) k f fd ps (spD K n g) ∧ Meth K C m f ∧ Cls K C ∧ Binds K fd ps []
structure InV (P : Program) (w : World) (K : PySem.W.Frag) (mg : Str → Option Value) (base : Heap) (k : Nat) (x : Str) (C : Addr) (n : Nat) (g : D1) : Prop where
  ex : ∃ f fd ps, FnOk P w K mg base (CXo P w) k f fd ps (spD K n g) ∧ Mk K C f ∧ mg x = some (.ref C) ∧ Binds K fd ps []
section
variable {P : Program} {w : World} {K : PySem.W.Frag} {mg : Str → Option Value} {base : Heap} {C : Addr} {m x : Str} {n : Nat} {g g' : D1}
theorem MeV.mono {j k : Nat} (F : MeV P w K mg base j C m n g) (h : j ≤ k) : MeV P w K mg base k C m n g := by
  obtain ⟨f, fd, ps, F, r⟩ := F.ex
  exact ⟨f, fd, ps, F.mono h, r⟩
theorem MeV.trunc {k : Nat} (F : MeV P w K mg base k C m n g) : MeV P w K mg base k C m n (trunc g) := by
  obtain ⟨f, fd, ps, F, r⟩ := F.ex
  exact ⟨f, fd, ps, F.imp fun _ _ _ _ h => spD_trunc h, r⟩
theorem InV.mono {j k : Nat} (F : InV P w K mg base j x C n g) (h : j ≤ k) : InV P w K mg base k x C n g := by
  obtain ⟨f, fd, ps, F, r⟩ := F.ex
  exact ⟨f, fd, ps, F.mono h, r⟩
structure MetAt (K : PySem.W.Frag) (C : Addr) (m q : Str) (st : Stmt) (ps : List Str) : Prop where
  ex : ∃ f fd, Fun K m q st f fd ∧ Meth K C m f ∧ Cls K C ∧ Binds K fd ps []
structure IniAt (K : PySem.W.Frag) (mg : Str → Option Value) (x : Str) (C : Addr) (q : Str) (st : Stmt) (ps : List Str) : Prop where
  ex : ∃ f fd, Fun K "__init__" q st f fd ∧ Mk K C f ∧ mg x = some (.ref C) ∧ Binds K fd ps []
theorem MeV.of {q : Str} {st : Stmt} {N ps : List Str} {k : Nat} {d : DS} (D : MetAt K C m q st ps) (S : FnScope N ps (defScope st))
    (hb : ∀ (f : Addr) (cdv : Value) (A : Around) (outer : List Env) (s : Shared) (H : Hp) (E : XK), Room k (A.deeper (envOfC q (defScope st) s.heap.objs.size f cdv)) →
      VSs (cxOf (CXo P w) P w K mg base N q (defScope st) f cdv A outer s H E) (fun _ => E) (defBody st) d) : MeV P w K mg base (k + 1) C m ps.length (dFn N.length d) := by
  obtain ⟨f, fd, F, hm, hc, hB⟩ := D.ex
  exact ⟨f, fd, ps, fn_den F S (hb f), hm, hc, hB⟩
theorem InV.of {q : Str} {st : Stmt} {N ps : List Str} {k : Nat} {d : DS} (D : IniAt K mg x C q st ps) (S : FnScope N ps (defScope st))
    (hb : ∀ (f : Addr) (cdv : Value) (A : Around) (outer : List Env) (s : Shared) (H : Hp) (E : XK), Room k (A.deeper (envOfC q (defScope st) s.heap.objs.size f cdv)) →
      VSs (cxOf (CXo P w) P w K mg base N q (defScope st) f cdv A outer s H E) (fun _ => E) (defBody st) d) : InV P w K mg base (k + 1) x C ps.length (dFn N.length d) := by
  obtain ⟨f, fd, F, hm, hc, hB⟩ := D.ex
  exact ⟨f, fd, ps, fn_den F S (hb f), hm, hc, hB⟩
end
section
variable {X : Cx} {Ex : St → XK} {a b c e o : Expr} {es : List Expr} {da d do' : DE} {ds : List DE} {pos apos p : Pos} {C : Addr} {m x : Str} {n k : Nat} {g : D1}
def dMet (C : Addr) (m : Str) (g : D1) (do' : DE) (ds : List DE) : DE := fun ρ M => (do' ρ M).bind fun x M1 => match onI C x M1 with
  | some (_, fs) => match fs.lookup m with
    | some _ => .bad
    | none => (dArgs ds ρ M1).bind fun xs M2 => g (x :: xs) M2
  | none => .bad
theorem ve_met {pl : Sem Bool} (F : MeV X.prog X.w X.K X.mg X.base k C m n g) (hr : Room k X.A) (G : Good X Ex) (ho : VE X Ex o do') (ha : VN X Ex (e :: es) ds) (hn : ds.length + 1 = n := by rfl)
    (hst : starEach (e :: es) X.env = (false, eval e X.env) :: starEach es X.env := by rfl) (hpl : (backTo pos (starEach es X.env)).any (·.1) = false := by rfl)
    (ht : eval (.Call (.Attribute o m apos) (e :: es) [] pos) X.env = (do
      let ov ← eval o X.env
      standAt apos.atName
      let (f, first) ← holding [ov] (getMethod ov m pl)
      callWith pos f first (backTo pos (starEach (e :: es) X.env)) (backToKw pos (keywordEach [] X.env))) := by rfl) :
    VE X Ex (.Call (.Attribute o m apos) (e :: es) [] pos) (dMet C m g do' ds) := by
  obtain ⟨f, fd, ps, F, hm, hc, hb⟩ := F.ex
  refine PE.imp (pe_methS ho hc hm F hr hb .nil G.ps ha hst hpl ht) fun σ H Q h => ?_
  obtain ⟨ι, S, M, ρ, sim, sl, w⟩ := h
  refine ⟨ι, S, M, ρ, sim, sl, Want.bind (Rp := RpE X.K) w fun ι1 S1 M1 H1 x v e1 s1 r1 w1 => ?_⟩
  cases e2 : onI C x M1 with
  | none => rw [e2] at w1; exact w1.elim
  | some q =>
    obtain ⟨j, fs⟩ := q
    rw [e2] at w1
    dsimp only at w1
    obtain ⟨q, dx, fvs, rfl, ei, eH, hS, rr⟩ := onI_rep s1 r1 e2
    rcases rr.lookup m with ⟨k1, k2⟩ | ⟨y, u, k1, k2, k3⟩
    · rw [k1] at w1
      refine ⟨q, dx, fvs, rfl, eH, k2, ι1, S1, M1, ρ, s1, sl.mono e1, Want.bind (Rp := RpN X.K ds.length) w1 fun ι2 S2 M2 H2 xs vs e3 s2 r2 w2 => ?_⟩
      rw [List.append_nil]
      exact ⟨by rw [List.length_cons, ← r2.1.length, r2.2, hn], ι2, S2, M2, _, s2, .cons (Rep.mono e3 r1) r2.1, w2⟩
    · rw [k1] at w1; exact w1.elim
theorem pe_meth0S {CX : CXT} {f : Addr} {fd : FuncData} {ps : List Str} {sp : Sp} {Ex : St → XK} {ta : TE} {pl : Sem Bool} (he : PE X o ta) (c : Cls X.K C) (hm : Meth X.K C m f) (F : FnOk X.prog X.w X.K X.mg X.base CX k f fd ps sp) (hr : Room k X.A) (hb : Binds X.K fd ps []) (hx : PassesS CX X Ex)
    (ht : eval (.Call (.Attribute o m apos) [] [] pos) X.env = (do
      let ov ← eval o X.env
      standAt apos.atName
      let (f, first) ← holding [ov] (getMethod ov m pl)
      callWith pos f first (backTo pos (starEach [] X.env)) (backToKw pos (keywordEach [] X.env))) := by rfl) :
    PE X (.Call (.Attribute o m apos) [] [] pos) (tMethS C m sp [] Ex ta tNil) := by
  intro pins s σ H Q I h
  refine PySem.W.methodCall_KW (pl := pl) (thn (he pins s σ H _ I h) fun u s1 ⟨x, H1, I1, rx, a, dx, fs, ex, ea, l, q⟩ => ?_) ht
  subst ex
  obtain rfl : u = Value.ref a := rx
  refine getmeth_ok I1 ea c hm l ?_
  exact PySem.W.callWith_K0 (first := [.ref a]) I1.kIn hm.kp (run_fnS (us := [.ref a]) (vs := [.ref a]) F hr hb .nil hx I1 (.cons rfl .nil) q)
theorem ve_met0 {pl : Sem Bool} (F : MeV X.prog X.w X.K X.mg X.base k C m 1 g) (hr : Room k X.A) (G : Good X Ex) (ho : VE X Ex o do')
    (ht : eval (.Call (.Attribute o m apos) [] [] pos) X.env = (do
      let ov ← eval o X.env
      standAt apos.atName
      let (f, first) ← holding [ov] (getMethod ov m pl)
      callWith pos f first (backTo pos (starEach [] X.env)) (backToKw pos (keywordEach [] X.env))) := by rfl) :
    VE X Ex (.Call (.Attribute o m apos) [] [] pos) (dMet C m g do' []) := by
  obtain ⟨f, fd, ps, F, hm, hc, hb⟩ := F.ex
  refine PE.imp (pe_meth0S ho hc hm F hr hb G.ps ht) fun σ H Q h => ?_
  obtain ⟨ι, S, M, ρ, sim, sl, w⟩ := h
  refine ⟨ι, S, M, ρ, sim, sl, Want.bind (Rp := RpE X.K) w fun ι1 S1 M1 H1 x v e1 s1 r1 w1 => ?_⟩
  cases e2 : onI C x M1 with
  | none => rw [e2] at w1; exact w1.elim
  | some q =>
    obtain ⟨j, fs⟩ := q
    rw [e2] at w1
    dsimp only at w1
    obtain ⟨q, dx, fvs, rfl, ei, eH, hS, rr⟩ := onI_rep s1 r1 e2
    rcases rr.lookup m with ⟨k1, k2⟩ | ⟨y, u, k1, k2, k3⟩
    · rw [k1] at w1
      exact ⟨q, dx, fvs, rfl, eH, k2, rfl, ι1, S1, M1, _, s1, .one r1, w1⟩
    · rw [k1] at w1; exact w1.elim
def dMake (C : Addr) (g : D1) (ds : List DE) : DE := fun ρ M => (dArgs ds ρ M).bind fun xs M1 => (g (.obj M1.length :: xs) (M1 ++ [.ins C []])).bind fun r M2 => match r with
  | .non => .ok (.obj M1.length) M2
  | _ => .bad
theorem run_makeS {CX : CXT} {f : Addr} {fd : FuncData} {ps : List Str} {sp : Sp} {E : XK} {pins : List (Addr × Obj)} {σ : St} {H : Hp} {s : Shared} {Q : VK} {us : List Value} {vs : List V} (M : Mk X.K C f) (F : FnOk X.prog X.w X.K X.mg X.base CX k f fd ps sp) (hr : Room (k + 1) X.A) (hb : Binds X.K fd ps [])
    (hx : ∀ (pins : List (Addr × Obj)) (H : Hp) (s : Shared) (e : Value) (s' : Shared), Inv X pins σ H s → CX X.stack H s E e s' → X.xe e s') (I : Inv X pins σ H s) (r : Vals vs us)
    (h : ∀ x dx, H x = none → H dx = none → dx ≠ x → sp (.ref x :: vs) (upd (upd H dx (.own x)) x (.ins C dx [])) (fun v H2 => v = .non ∧ Q (.ref x) H2) E) :
    wpAny (model X.prog X.w) X.A (call (.ref C) us) (EP X pins σ Q) X.xe s := by
  have hq := h (s.heap.objs.size + 1) s.heap.objs.size (I.hok.fresh (Nat.le_succ _)) (I.hok.fresh (Nat.le_refl _)) (Nat.ne_of_lt (Nat.lt_succ_self _))
  have I2 := Inv.made (C := C) I
  have r2 : Vals (V.ref (s.heap.objs.size + 1) :: vs) (Value.ref (s.heap.objs.size + 1) :: us) := .cons rfl r
  have hl : (Value.ref (s.heap.objs.size + 1) :: us ++ []).length = ps.length := by
    have e := r2.length
    rw [F.len _ _ _ _ hq] at e
    rw [List.append_nil]
    exact e.symm
  have hbb := hb _ (Value.ref (s.heap.objs.size + 1) :: us) I2.kIn hl
  rw [List.append_nil] at hbb
  refine wpAny_call (make_map (f := f) I.kIn M.makes M.init (beq_iff_eq.mp M.fn) (codeAny_mono (F.run _ X.stack _ _ ⟨Value.ref (s.heap.objs.size + 1) :: us, []⟩ (Value.ref (s.heap.objs.size + 1) :: us) _ _ E (hr.make C us [])
    (I2.env0.make C us []) hbb r2 hq) fun r s' hq' => ?_))
  cases r with
  | error e => exact hx pins _ _ e s' I2 hq'
  | ok fl =>
    cases fl with
    | ret u =>
      obtain ⟨v, H', I3, rv, ev, q3⟩ := I2.after hq'
      subst ev
      exact ⟨rv, ⟨V.ref (s.heap.objs.size + 1), H', I3, rfl, q3⟩⟩
    | next => exact False.elim hq'
    | brk => exact False.elim hq'
    | cont => exact False.elim hq'
theorem make_want {K : PySem.W.Frag} {ι : List Addr} {S H : Hp} {M : Sto} {E : XK} {Q : VK} {xs : List PV} {vs : List V} (sim : SimH K ι S M H) (r : Reps K ι S xs vs) (hn : vs.length + 1 = n)
    (w : Want K (RpE K) E ι S H Q ((g (.obj M.length :: xs) (M ++ [.ins C []])).bind fun r M2 => match r with | .non => .ok (.obj M.length) M2 | _ => .bad)) :
    ∀ x dx, H x = none → H dx = none → dx ≠ x → spD K n g (.ref x :: vs) (upd (upd H dx (.own x)) x (.ins C dx [])) (fun v H2 => v = .non ∧ Q (.ref x) H2) E := by
  intro x dx hx hdx hne
  obtain ⟨s1, e1⟩ := sim.side (o := .own x) hdx
  have hx1 : upd H dx (.own x) x = none := by rw [upd_ne (Ne.symm hne)]; exact hx
  have hS := s1.freshS hx1
  obtain ⟨s2, e2⟩ := s1.new (u := .ins C dx []) (o := .ins C []) hx1 ⟨hS, dx, [], upd_same, .nil⟩
  have e12 := e1.trans e2
  have hi : (ι ++ [x])[M.length]? = some x := by rw [← sim.len]; simp
  refine ⟨by rw [List.length_cons, hn], ι ++ [x], S, _, _, s2, .cons (Rep.obj_iff.mpr ⟨x, rfl, hi⟩) (r.mono e12), Want.bind (Rp := RpE K) (w.up e12) fun ι1 S1 M1 H1 y v ex sm rp wk => ?_⟩
  cases y with
  | non => exact ⟨Rep.non_iff.mp rp, wk ι1 S1 H1 _ .refl sm (Rep.obj_iff.mpr ⟨x, rfl, ex.ix _ _ hi⟩)⟩
  | _ => exact wk.elim
theorem ve_make (F : InV X.prog X.w X.K X.mg X.base k x C n g) (hr : Room (k + 1) X.A) (G : Good X Ex) (ha : VN X Ex (e :: es) ds) (hg : Gl X x := by rfl) (hn : ds.length + 1 = n := by rfl) (hdb : (x == ("__debug__" : Str)) = false := by decide)
    (he : starEach (e :: es) X.env = (false, eval e X.env) :: starEach es X.env := by rfl) (hpl : (backTo pos (starEach es X.env)).any (·.1) = false := by rfl) : VE X Ex (.Call (.Name x p) (e :: es) [] pos) (dMake C g ds) := by
  obtain ⟨f, fd, ps, F, M, hm, hb⟩ := F.ex
  intro pins s σ H Q I h
  obtain ⟨ι, S, M', ρ, sim, sl, w⟩ := h
  refine wpAny_Call_Name_kw (ld_glob I hg hm ?_ hdb)
  refine PySem.W.callWith_K (h₀ := X.base) I.ok.mod.kin M.kp (thn (ha pos pins s σ H (fun vs H1 => ∀ x dx, H1 x = none → H1 dx = none → dx ≠ x → spD X.K n g (.ref x :: vs) (upd (upd H1 dx (.own x)) x (.ins C dx [])) (fun v H2 => v = .non ∧ Q (.ref x) H2) (Ex σ)) I ?_) fun us s1 ⟨vs, H1, I1, r, q⟩ => ⟨I1.kIn, ?_⟩) he hpl
  · refine ⟨ι, S, M', ρ, sim, sl, Want.bind (Rp := RpN X.K ds.length) w fun ι1 S1 M1 H1 xs vs e1 s1 r1 w1 => ?_⟩
    exact make_want s1 r1.1 (by rw [← r1.1.length, r1.2, hn]) w1
  · exact run_makeS M F hr hb (fun pins H s e s' I h => G.ps pins σ H s e s' I h) I1 r q
theorem ve_make0 (F : InV X.prog X.w X.K X.mg X.base k x C 1 g) (hr : Room (k + 1) X.A) (G : Good X Ex) (hg : Gl X x := by rfl) (hdb : (x == ("__debug__" : Str)) = false := by decide) : VE X Ex (.Call (.Name x p) [] [] pos) (dMake C g []) := by
  obtain ⟨f, fd, ps, F, M, hm, hb⟩ := F.ex
  intro pins s σ H Q I h
  obtain ⟨ι, S, M', ρ, sim, sl, w⟩ := h
  refine wpAny_Call_Name_kw (ld_glob I hg hm ?_ hdb)
  exact PySem.W.callWith_K0 I.kIn M.kp (run_makeS (us := []) M F hr hb (fun pins H s e s' I h => G.ps pins σ H s e s' I h) I .nil (make_want sim .nil rfl w))
end
section
variable {X : Cx} {Ex : St → XK} {a b c e o i value : Expr} {es : List Expr} {da db dc d dv di do' : DE} {ds : List DE} {pos pos' apos cpos : Pos}
theorem set_dict (hu : X.A.units + 1 < cLine) : PSet X (fun o i v H Q => ∃ a H', o = .ref a ∧ DPut H a i v H' ∧ Q H') := by
  intro pins s σ H o i v ov iv u Q I ro ri rv h
  obtain ⟨p, H', rfl, g, q⟩ := h
  cases ro
  exact d_setItem hu I g ri rv fun s' I' => ⟨H', I', q⟩
def putI (x k y : PV) (M : Sto) : Option Sto := match x with
  | .obj n => match M[n]? with
    | some (.lst xs) => match k with
      | .int j => (ixN xs.length j).map fun m => M.set n (.lst (xs.set m y))
      | _ => none
    | some (.dct kvs) => match keyP k with
      | some kk => if kvs.length < lim then some (M.set n (.dct (putP kvs kk y))) else none
      | none => none
    | some (.dtp kvs) => match keysP k with
      | some kk => if kvs.length < lim then some (M.set n (.dtp (putP kvs kk y))) else none
      | none => none
    | _ => none
  | _ => none
theorem putI_rep {K : PySem.W.Frag} {ι : List Addr} {S H : Hp} {M M' : Sto} {x k y : PV} {v kv u : V} {Q : Hp → Prop} (sim : SimH K ι S M H) (r : Rep K ι S x v) (rk : Rep K ι S k kv) (ry : Rep K ι S y u) (h : putI x k y M = some M')
    (hQ : ∀ H', SimH K ι S M' H' → Ext ι S H ι S H' → Q H') : rSetL v kv u H Q ∨ ∃ a H', v = .ref a ∧ DPut H a kv u H' ∧ Q H' := by
  cases x with
  | obj n =>
    obtain ⟨p, rfl, ei⟩ := Rep.obj_iff.mp r
    obtain ⟨o, eM, q⟩ := sim.addr ei
    simp only [putI, eM] at h
    cases o with
    | lst xs =>
      dsimp only at h
      cases k with
      | int j =>
        dsimp only at h
        obtain ⟨hS, vs, eH, rr⟩ := q
        cases e : ixN xs.length j with
        | none => rw [e] at h; cases h
        | some m =>
          rw [e] at h
          cases h
          obtain ⟨s2, e2⟩ := put_lst sim ei hS (rr.set m ry)
          exact .inl ⟨p, vs, j, m, rfl, Rep.int_iff.mp rk, eH, by rw [← rr.length]; exact e, hQ _ s2 e2⟩
      | _ => cases h
    | dct kvs =>
      dsimp only at h
      obtain ⟨hS, kus, eH, rr⟩ := q
      cases e : keyP k with
      | none => rw [e] at h; cases h
      | some kk =>
        rw [e] at h
        dsimp only at h
        split at h
        · rename_i hl
          cases h
          have := keyP_rep rk e
          subst this
          obtain ⟨s2, e2⟩ := sim.put (u := .dK (putK kus kk u)) (o := .dct (putP kvs kk y)) ei hS ⟨hS, _, upd_same, rr.put kk ry⟩
          exact .inr ⟨p, _, rfl, DPut.k eH (by rw [← rr.length]; exact lim_lt hl), hQ _ s2 e2⟩
        · cases h
    | dtp kvs =>
      dsimp only at h
      obtain ⟨hS, kus, eH, rr⟩ := q
      cases k with
      | tup ks =>
        obtain ⟨b, vs, rfl, eS, rs⟩ := Rep.tup_iff.mp rk
        simp only [keysP] at h
        cases e : mapO keyP ks with
        | none => rw [e] at h; cases h
        | some kk =>
          rw [e] at h
          dsimp only at h
          split at h
          · rename_i hl
            cases h
            have := keysP_rep rs e
            subst this
            obtain ⟨s2, e2⟩ := sim.put (u := .dT (putK kus kk u)) (o := .dtp (putP kvs kk y)) ei hS ⟨hS, _, upd_same, rr.put kk ry⟩
            exact .inr ⟨p, _, rfl, DPut.t eH (sim.sub _ _ eS) (by rw [← rr.length]; exact lim_lt hl), hQ _ s2 e2⟩
          · cases h
      | _ => cases h
    | _ => cases h
  | _ => cases h
def dPutI (do' di dv : DE) : DS := fun ρ M => (dv ρ M).out ρ fun y M1 => (do' ρ M1).out ρ fun x M2 => (di ρ M2).out ρ fun k M3 => match putI x k y M3 with
  | some M4 => .nx ρ M4
  | none => .bad
theorem PSet.or {t t' : TSet} (h : PSet X t) (h' : PSet X t') : PSet X (fun o i v H Q => t o i v H Q ∨ t' o i v H Q) := by
  intro pins s σ H o i v ov iv u Q I ro ri rv q
  rcases q with q | q
  · exact h pins s σ H o i v ov iv u Q I ro ri rv q
  · exact h' pins s σ H o i v ov iv u Q I ro ri rv q
theorem vs_putI (hu : X.A.units + 64 < cLine) (ho : VE X Ex o do') (hi : VE X Ex i di) (hv : VE X Ex value dv)
    (ha : ∀ v, assign (.Subscript o i pos') X.env v = (do
      let ov ← holding [v] (eval o X.env)
      let iv ← holding [v, ov] (eval i X.env)
      standAt pos'
      holding [v, ov, iv] (setItem ov iv v)
      release [v, ov, iv] []) := by intro _; rfl)
    (hs : swapsWithSole [.Subscript o i pos'] value pos.line X.env = pure false := by rfl) (hw : swappedStores [.Subscript o i pos'] value X.env = pure none := by rfl)
    (h1 : (assignEach [.Subscript o i pos'] X.env).map (·.2) = [assign (.Subscript o i pos') X.env] := by rfl) : VS X Ex (.Assign [.Subscript o i pos'] value pos) (dPutI do' di dv) := by
  refine PS.imp (ps_asg hv (pg_sub ho hi (set_list.or (set_dict (by omega))) ha) hs hw h1) fun D σ H hh => ?_
  obtain ⟨ι, S, M, ρ, sim, sl, w⟩ := hh
  refine ⟨ι, S, M, ρ, sim, sl, WantS.res (Rp := RpE X.K) sl w fun ι1 S1 M1 H1 y u e1 s1 r1 w1 => ?_⟩
  refine ⟨ι1, S1, M1, ρ, s1, sl.mono e1, WantS.res (Rp := RpE X.K) (sl.mono e1) w1 fun ι2 S2 M2 H2 x v e2 s2 r2 w2 => ?_⟩
  refine ⟨ι2, S2, M2, ρ, s2, sl.mono (e1.trans e2), WantS.res (Rp := RpE X.K) (sl.mono (e1.trans e2)) w2 fun ι3 S3 M3 H3 k kv e3 s3 r3 w3 => ?_⟩
  cases e4 : putI x k y M3 with
  | none => rw [e4] at w3; exact w3.elim
  | some M4 =>
    rw [e4] at w3
    exact putI_rep s3 (Rep.mono e3 r2) r3 (Rep.mono (e2.trans e3) r1) e4 fun H' s' e' => w3 _ _ _ σ e' s' ((sl.mono (e1.trans (e2.trans e3))).mono e')
end
end L2
end
section
set_option Elab.async false
set_option linter.all false
set_option maxRecDepth 100000
set_option maxHeartbeats 4000000
namespace L2
open PySem PySem.Spec PyProof.Rows
def bools : List PV → Option (List Bool)
  | [] => some []
  | .bl b :: r => (bools r).map (b :: ·)
  | _ :: _ => none
theorem bools_rep {K : PySem.W.Frag} {ι : List Addr} {S : Hp} : ∀ {xs : List PV} {vs : List V} {bs : List Bool}, Reps K ι S xs vs → bools xs = some bs → vs = bs.map V.bl
  | [], vs, bs, r, e => by rw [Reps] at r; subst r; cases e; rfl
  | x :: xs, vs, bs, r, e => by
    obtain ⟨v, r', rfl, h1, h2⟩ := r.uncons
    cases x with
    | bl b =>
      rw [bools] at e
      cases e2 : bools xs with
      | none => rw [e2] at e; cases e
      | some cs =>
        rw [e2] at e
        cases e
        rw [List.map_cons, bools_rep h2 e2, Rep.bl_iff.mp h1]
    | _ => cases e
theorem bools_map {α : Type} (f : α → Bool) (xs : List α) : bools (xs.map fun x => .bl (f x)) = some (xs.map f) := by
  induction xs with
  | nil => rfl
  | cons x xs ih => rw [List.map_cons, bools, ih]; rfl
section
variable {X : Cx} {Ex : St → XK} {a b c e o : Expr} {es : List Expr} {da db dc d do' : DE} {ds : List DE} {pos pos' apos cpos : Pos}
def allP : D1 := fun xs M => match xs with
  | [x] => match (seqL M x).bind bools with
    | some bs => .ok (.bl (bs.all id)) M
    | none => .bad
  | _ => .bad
def anyP : D1 := fun xs M => match xs with
  | [x] => match (seqL M x).bind bools with
    | some bs => .ok (.bl (bs.any id)) M
    | none => .bad
  | _ => .bad
theorem bools_at {bs : List Bool} {its : List Value} (rv : Vals (bs.map V.bl) its) (i : Nat) (v : Value) (h : its.toArray[i]? = some v) : v = .bool (bs.getD i false) := by
  have h' : its[i]? = some v := by simpa using h
  have hl := rv.length
  rw [List.length_map] at hl
  have hi : i < bs.length := by rw [hl]; exact (List.getElem?_eq_some_iff.mp h').1
  obtain ⟨u, h1, h2⟩ := rv.get (i := i) (x := .bl bs[i]) (by rw [List.getElem?_map, List.getElem?_eq_getElem hi]; rfl)
  rw [h'] at h1
  cases h1
  rw [List.getD_eq_getElem?_getD, List.getElem?_eq_getElem hi]
  exact h2
theorem range_all {bs : List Bool} : (List.range bs.length).all (fun i => bs.getD i false) = bs.all id := by
  induction bs with
  | nil => rfl
  | cons b bs ih =>
    rw [List.length_cons, List.range_succ_eq_map, List.all_cons, List.all_map, List.all_cons, ← ih]
    rfl
theorem range_any {bs : List Bool} : (List.range bs.length).any (fun i => bs.getD i false) = bs.any id := by
  induction bs with
  | nil => rfl
  | cons b bs ih =>
    rw [List.length_cons, List.range_succ_eq_map, List.any_cons, List.any_map, List.any_cons, ← ih]
    rfl
theorem allany {X : Cx} {pins : List (Addr × Obj)} {σ : St} {H : Hp} {s : Shared} {l : Addr} {bs : List Bool} (I : Inv X pins σ H s) (hc : X.calm = true) (eH : H l = some (.lst (bs.map V.bl))) {f : String} {k : Bool} {Q : VK}
    (call : ∀ {Q : Value → Shared → Prop}, wpAny (model X.prog X.w) X.A.in1 (pyIter (.ref l)) (fun it s₂ => ∃ I fp wr n P St tr, it = .ref I ∧ PySem.Walks X.prog X.w X.A.in1 I fp wr n P St ∧ St 0 s₂.heap ∧ TruthOf X.prog X.w X.A.in1 P tr ∧
      n = bs.length ∧ tr = (fun i => bs.getD i false) ∧ ∀ h' tk, (∀ b o, b ∉ wr → s₂.heap.get? b = some o → h'.get? b = some o) → Q (.bool k) { s₂ with heap := h', toks := tk }) X.xe s →
      wpAny (model X.prog X.w) X.A (call (.builtin f) [.ref l]) Q X.xe s) (q : Q (.bl k) H) : wpAny (model X.prog X.w) X.A (PySem.call (.builtin f) [.ref l]) (EP X pins σ Q) X.xe s := by
  obtain ⟨its, rv, pl, hz⟩ := I.list (.of eH)
  refine call (wpAny_pyIter_list pl.isList ?_)
  have hne : l ≠ s.heap.objs.size := by
    obtain ⟨o, n, ho, _⟩ := pl
    exact Nat.ne_of_lt (Heap.lt_size ho)
  have hlen : its.toArray.size = bs.length := by have := rv.length; simp at this; simp [this]
  refine ⟨s.heap.objs.size, _, _, _, _, _, fun i => bs.getD i false, rfl, PySem.Walks.list (A := X.A.in1) (I.ok.hd hc) s.heap.objs.size l hne its.toArray, ⟨⟨_, Heap.get?_push_size _ rfl, rfl, rfl⟩, pl.isList.at fun o e => Heap.get?_push_of_some _ e⟩, ?_, hlen, rfl, fun h' tk hk => ?_⟩
  · intro i v s2 Q' E' hP hQ
    have := bools_at rv i v hP
    subst this
    exact wpAny_truthy_bool hQ
  · refine ⟨.bl k, H, ?_, rfl, q⟩
    refine I.kept (t' := tk) fun b o e => hk b o ?_ (Heap.get?_push_of_some _ e)
    intro hb
    have : b = s.heap.objs.size := by simpa using hb
    exact Nat.ne_of_lt (Heap.lt_size e) this
theorem call_allP (hc : X.calm = true) : CallR X (.builtin "all") (rC X.K allP) := by
  intro pins s σ H xs us Q I rs h
  obtain ⟨E, ι, S, M, ys, sim, r, w⟩ := h
  unfold allP at w
  split at w
  · split at w
    · rename_i x bs hb
      obtain ⟨v, rfl, r1⟩ := r.one_inv
      obtain ⟨u, rfl, ru⟩ := vals1 rs
      obtain ⟨zs, h1, h2⟩ := Option.bind_eq_some_iff.mp hb
      obtain ⟨l, vs, rfl, eH, rr⟩ := seqL_rep sim r1 h1
      cases ru
      rw [bools_rep rr h2] at eH
      refine allany I hc eH (fun {Q} h => call_all_walk (wpAny_mono h (fun it s2 ⟨I1, fp, wr, n, P, St, tr, e1, e2, e3, e4, e5, e6, e7⟩ => ⟨I1, fp, wr, n, P, St, tr, e1, e2, e3, e4, fun h' tk hk => ?_⟩) fun _ _ z => z)) (w ι S H _ .refl sim (Rep.bl_iff.mpr rfl))
      subst e5 e6
      rw [range_all]
      exact e7 h' tk hk
    · exact w.elim
  · exact w.elim
theorem call_anyP (hc : X.calm = true) : CallR X (.builtin "any") (rC X.K anyP) := by
  intro pins s σ H xs us Q I rs h
  obtain ⟨E, ι, S, M, ys, sim, r, w⟩ := h
  unfold anyP at w
  split at w
  · split at w
    · rename_i x bs hb
      obtain ⟨v, rfl, r1⟩ := r.one_inv
      obtain ⟨u, rfl, ru⟩ := vals1 rs
      obtain ⟨zs, h1, h2⟩ := Option.bind_eq_some_iff.mp hb
      obtain ⟨l, vs, rfl, eH, rr⟩ := seqL_rep sim r1 h1
      cases ru
      rw [bools_rep rr h2] at eH
      refine allany I hc eH (fun {Q} h => call_any_walk (wpAny_mono h (fun it s2 ⟨I1, fp, wr, n, P, St, tr, e1, e2, e3, e4, e5, e6, e7⟩ => ⟨I1, fp, wr, n, P, St, tr, e1, e2, e3, e4, fun h' tk hk => ?_⟩) fun _ _ z => z)) (w ι S H _ .refl sim (Rep.bl_iff.mpr rfl))
      subst e5 e6
      rw [range_any]
      exact e7 h' tk hk
    · exact w.elim
  · exact w.elim
def tyP (M : Sto) : PV → Option String
  | .non => some "NoneType"
  | .bl _ => some "bool"
  | .int _ => some "int"
  | .str _ => some "str"
  | .lst _ => some "list"
  | .tup _ => some "tuple"
  | .scr _ => none
  | .obj n => match M[n]? with
    | some (.lst _) => some "list"
    | some (.dct _) => some "dict"
    | some (.dtp _) => some "dict"
    | _ => none
theorem tyP_rep {K : PySem.W.Frag} {ι : List Addr} {S H : Hp} {M : Sto} {x : PV} {v : V} {t : String} (sim : SimH K ι S M H) (r : Rep K ι S x v) (h : tyP M x = some t) : TyOf K H v (.type t) := by
  cases x with
  | non => cases Rep.non_iff.mp r; cases h; exact .non
  | bl b => cases Rep.bl_iff.mp r; cases h; exact .bl b
  | int i => cases Rep.int_iff.mp r; cases h; exact .int i
  | str z => cases Rep.str_iff.mp r; cases h; exact .str z
  | lst xs => obtain ⟨p, vs, rfl, e, q⟩ := Rep.lst_iff.mp r; cases h; exact .lst (sim.sub _ _ e)
  | tup xs => obtain ⟨p, vs, rfl, e, q⟩ := Rep.tup_iff.mp r; cases h; exact .tup (sim.sub _ _ e)
  | scr xs => cases h
  | obj n =>
    obtain ⟨p, rfl, e⟩ := Rep.obj_iff.mp r
    obtain ⟨o, eM, q⟩ := sim.addr e
    simp only [tyP, eM] at h
    cases o with
    | lst xs => cases h; obtain ⟨_, vs, e, q⟩ := q; exact .lst e
    | dct xs => cases h; obtain ⟨_, vs, e, q⟩ := q; exact .dK e
    | dtp xs => cases h; obtain ⟨_, vs, e, q⟩ := q; exact .dT e
    | _ => cases h
def subT (t c : String) : Option Bool :=
  if ["NoneType", "bool", "int", "str", "list", "tuple", "dict"].contains t && ["bool", "int", "list", "tuple"].contains c then some (t == c || (t == "bool" && c == "int")) else none
def dIsT (c : String) (d : DE) : DE := fun ρ M => (d ρ M).bind fun x M1 => match (tyP M1 x).bind (subT · c) with
  | some k => .ok (.bl k) M1
  | none => .bad
theorem kit_T {K : PySem.W.Frag} {t c : String} {k : Bool} (h : subT t c = some k) : PySem.W.kitOne K (.type t) (.type c) = some k := by
  unfold subT at h
  split at h
  · rename_i hc
    simp only [Bool.and_eq_true, List.contains_iff_mem, List.mem_cons, List.not_mem_nil, or_false] at hc
    obtain ⟨h1, h2⟩ := hc
    rcases h1 with rfl | rfl | rfl | rfl | rfl | rfl | rfl <;> rcases h2 with rfl | rfl | rfl | rfl <;> (cases h; with_unfolding_all rfl)
  · cases h
theorem ve_isT (T : String) {x : Str} {p q : Pos} (ha : VE X Ex a da) (hm1 : X.mg "isinstance" = none) (hm2 : X.mg x = none) (hv2 : bootBuiltins x = some (.type T)) (hg1 : Gl X "isinstance" := by rfl) (hg2 : Gl X x := by rfl)
    (hn : x ≠ "__name__" := by decide) (hd : (x == ("__debug__" : Str)) = false := by decide)
    (he : starEach [a, .Name x q] X.env = (false, eval a X.env) :: starEach [.Name x q] X.env := by rfl) (hpl : (backTo pos (starEach [.Name x q] X.env)).any (·.1) = false := by rfl) :
    VE X Ex (.Call (.Name "isinstance" p) [a, .Name x q] [] pos) (dIsT T da) := by
  have A1 : PA X [a, .Name x q] (tCons (tG X.K (RpE X.K) Ex da) (tCons (tC (.ty T)) tNil)) := pa_cons ha (pa_cons (pe_bltn hg2 hm2 hv2 (v := .ty T) rfl hn hd) pa_nil) he
  have hc : CallR X (.builtin "isinstance") (fun vs H Q => ∃ v t k, vs = [v, .ty T] ∧ TyOf X.K H v (.type t) ∧ subT t T = some k ∧ Q (.bl k) H) := by
    intro pins s σ H xs us Q I r h
    obtain ⟨v, t, k, rfl, ty, ek, q⟩ := h
    obtain ⟨u, w', rfl, r1, r2⟩ := vals2 r
    cases r2
    exact isinst_ok I r1 ty (kit_T ek) fun tk => ⟨.bl k, H, I.tok _, rfl, q⟩
  refine PE.imp (pe_callB hc hg1 hm1 (by decide +kernel) A1 (by decide) (by decide) he hpl) fun σ H Q h => ?_
  obtain ⟨ι, S, M, ρ, sim, sl, w⟩ := h
  refine ⟨ι, S, M, ρ, sim, sl, Want.bind (Rp := RpE X.K) w fun ι1 S1 M1 H1 y v e1 s1 r1 w1 => ?_⟩
  cases e2 : (tyP M1 y).bind (subT · T) with
  | none => rw [e2] at w1; exact w1.elim
  | some k =>
    rw [e2] at w1
    obtain ⟨t, h1, h2⟩ := Option.bind_eq_some_iff.mp e2
    exact ⟨v, t, k, rfl, tyP_rep s1 r1 h1, h2, w1 ι1 S1 H1 _ .refl s1 (Rep.bl_iff.mpr rfl)⟩
end
end L2
end
section
set_option Elab.async false
set_option linter.all false
set_option maxRecDepth 100000
set_option maxHeartbeats 4000000
namespace L2
open PySem PySem.Spec PyProof.Rows
def intsP : List PV → Option (List Int)
  | [] => some []
  | .int i :: r => (intsP r).map (i :: ·)
  | _ :: _ => none
theorem ints_map (ns : List Int) : intsP (ns.map .int) = some ns := by
  induction ns with
  | nil => rfl
  | cons n ns ih => rw [List.map_cons, intsP, ih]; rfl
theorem ints_rep {K : PySem.W.Frag} {ι : List Addr} {S : Hp} : ∀ {xs : List PV} {vs : List V} {ns : List Int}, Reps K ι S xs vs → intsP xs = some ns → vs = ns.map V.int
  | [], vs, bs, r, e => by rw [Reps] at r; subst r; cases e; rfl
  | x :: xs, vs, bs, r, e => by
    obtain ⟨v, r', rfl, h1, h2⟩ := r.uncons
    cases x with
    | int b =>
      rw [intsP] at e
      cases e2 : intsP xs with
      | none => rw [e2] at e; cases e
      | some cs =>
        rw [e2] at e
        cases e
        rw [List.map_cons, ints_rep h2 e2, Rep.int_iff.mp h1]
    | _ => cases e
def setN (ns : List Int) : Nat := (firstMet (fun i => ns.getD i 0) ns.length).length
section
variable {X : Cx} {Ex : St → XK} {a : Expr} {da : DE} {pos : Pos}
theorem intsAre_of2 : ∀ {ns : List Int} {its : List Value}, Vals (ns.map V.int) its → IntsAre its ns
  | [], _, r => by cases r; exact .nil
  | n :: ns, _, r => by
    cases r with
    | cons h t =>
      obtain ⟨k, rfl⟩ := h
      exact .cons n k (intsAre_of2 t)
theorem call_setI (hc : X.calm = true) : CallR X (.type "set") (fun xs H Q => ∃ p ns, xs = [V.ref p] ∧ SqL X.K H p (ns.map V.int) ∧ ns.length < 4000 ∧ ∀ q S, H q = none → Q (.ref q) (upd H q (.set S (setN ns)))) := by
  intro pins s σ H xs us Q I r h
  obtain ⟨p, ns, rfl, hq, hl, q⟩ := h
  obtain ⟨u, rfl, ru⟩ := vals1 r
  cases ru
  obtain ⟨its, rv, pl, hz⟩ := I.list hq
  have hlen := rv.length
  rw [List.length_map] at hlen
  refine PySem.call_set_list (items := its.toArray) (ns := ns) (I.ok.hd hc) pl.isList (by simpa using intsAre_of2 rv) (by unfold scanBound; simp only [List.size_toArray]; omega) fun h' tk hS hk => ?_
  have e1 : its.toArray.size = ns.length := by simp [hlen]
  rw [e1] at hS
  exact ⟨.ref s.heap.objs.size, _, I.laid (t' := tk) (fun b o e => hk b o (Heap.lt_size e) e) (Nat.le_refl _) (show ObjOk X.prog X.w _ _ _ (.set _ (setN ns)) from hS), rfl, q _ _ (I.hok.fresh (Nat.le_refl _))⟩
theorem call_lenI : CallR X (.builtin "len") (fun xs H Q => ∃ p S n, xs = [V.ref p] ∧ H p = some (.set S n) ∧ Q (.int n) H) := by
  intro pins s σ H xs us Q I r h
  obtain ⟨p, S, n, rfl, hp, q⟩ := h
  obtain ⟨u, rfl, ru⟩ := vals1 r
  cases ru
  obtain ⟨o, es, ep, t, ho, hex, hd, hel, _, hb, hf, hn⟩ := (show s.heap.SetOf (intKind X.prog X.w) p S n from I.hok p _ hp)
  subst hn
  unfold scanBound at hb
  exact PySem.call_len_set ho hex hd hf (by omega) ⟨.int es.size, H, I.tok _, ⟨_, rfl⟩, q⟩
def dLenSet (d : DE) : DE := fun ρ M => (d ρ M).bind fun x M1 => match (seqL M1 x).bind intsP with
  | some ns => if ns.length < 4000 then .ok (.int (setN ns)) M1 else .bad
  | none => .bad
theorem ve_lenSet {p q pos' : Pos} (hc : X.calm = true) (ha : VE X Ex a da) (hm1 : X.mg "len" = none) (hm2 : X.mg "set" = none) (hg1 : Gl X "len" := by rfl) (hg2 : Gl X "set" := by rfl)
    (he : starEach [a] X.env = (false, eval a X.env) :: starEach [] X.env := by rfl) (hpl : (backTo pos' (starEach [] X.env)).any (·.1) = false := by rfl) (hpl2 : (backTo pos (starEach [] X.env)).any (·.1) = false := by rfl) :
    VE X Ex (.Call (.Name "len" p) [.Call (.Name "set" q) [a] [] pos'] [] pos) (dLenSet da) := by
  have A1 : PA X [a] (tCons (tG X.K (RpE X.K) Ex da) tNil) := pa_cons ha pa_nil he
  have A2 := pe_callTy (p := q) (pos := pos') (call_setI hc) hg2 hm2 (by decide +kernel : bootBuiltins "set" = some (.type "set")) A1 (by decide) (by decide) he hpl
  refine PE.imp (pe_callB call_lenI hg1 hm1 (by decide +kernel) (pa_cons A2 pa_nil rfl) (by decide) (by decide) rfl hpl2) fun σ H Q h => ?_
  obtain ⟨ι, S, M, ρ, sim, sl, w⟩ := h
  refine ⟨ι, S, M, ρ, sim, sl, Want.bind (Rp := RpE X.K) w fun ι1 S1 M1 H1 y v e1 s1 r1 w1 => ?_⟩
  cases e2 : (seqL M1 y).bind intsP with
  | none => rw [e2] at w1; exact w1.elim
  | some ns =>
    rw [e2] at w1
    obtain ⟨zs, h1, h2⟩ := Option.bind_eq_some_iff.mp e2
    obtain ⟨l, vs, rfl, eH, rr⟩ := seqL_rep s1 r1 h1
    rw [ints_rep rr h2] at eH
    dsimp only at w1
    split at w1
    · rename_i hl
      refine ⟨l, ns, rfl, .of eH, hl, fun z S' hz => ⟨z, S', _, rfl, if_pos rfl, ?_⟩⟩
      obtain ⟨s2, x2⟩ := s1.side (o := .set S' (setN ns)) hz
      exact w1 ι1 S1 _ _ x2 s2 (Rep.int_iff.mpr rfl)
    · exact w1.elim
theorem blt_bool : bootBuiltins "bool" = some (.type "bool") := by decide +kernel
def dDic0 : DE := fun _ M => .ok (.obj M.length) (M ++ [.dct []])
def dDicT : DE := fun _ M => .ok (.obj M.length) (M ++ [.dtp []])
theorem simLen {K : PySem.W.Frag} {ι : List Addr} {S : Hp} {M : Sto} {H : Hp} (s : SimH K ι S M H) : ι.length = M.length := s.len
theorem ve_dic0 : VE X Ex (.Dict [] [] pos) dDic0 := PE.imp pe_dnewK fun σ H Q h p hp => by
  obtain ⟨ι, S, M, ρ, sim, sl, w⟩ := h
  obtain ⟨s1, x1⟩ := sim.new (u := .dK []) (o := .dct []) hp ⟨sim.freshS hp, [], if_pos rfl, .nil⟩
  exact w _ _ _ _ x1 s1 (Rep.obj_iff.mpr ⟨p, rfl, by rw [← sim.len, List.getElem?_append_right (Nat.le_refl _)]; simp⟩)
theorem ve_dicT : VE X Ex (.Dict [] [] pos) dDicT := PE.imp pe_dnewT fun σ H Q h p hp => by
  obtain ⟨ι, S, M, ρ, sim, sl, w⟩ := h
  obtain ⟨s1, x1⟩ := sim.new (u := .dT []) (o := .dtp []) hp ⟨sim.freshS hp, [], if_pos rfl, .nil⟩
  exact w _ _ _ _ x1 s1 (Rep.obj_iff.mpr ⟨p, rfl, by rw [← sim.len, List.getElem?_append_right (Nat.le_refl _)]; simp⟩)
end
end L2
end
section
set_option Elab.async false
set_option linter.all false
set_option maxRecDepth 100000
set_option maxHeartbeats 4000000
namespace Sb
open PySem L2
noncomputable def den_joints_of  : DS :=
    (dRet (dCall (listP false) [(dSl false (dVar 0) (dPart (dC (.int 1))) dNoPart)]))
noncomputable def dfn_joints_of  : D1 := dFn 1 (den_joints_of )
noncomputable def den_pieces_at (g_joints_of : D1) : DS :=
    (dRet (dComp false [none, none, some 1] (iE (dVar 0)) (gT 2 (gsCons (gN 0) (gsCons (gN 1) gsNil))) (dTst (dOp (inP false) (dVar 2) (dCall g_joints_of [(dVar 1)]))) (dVar 0)))
noncomputable def dfn_pieces_at (g_joints_of : D1) : D1 := dFn 2 (den_pieces_at g_joints_of)
noncomputable def den_piece_beyond (g_pieces_at : D1) : DS :=
    (dSeq (dFor (iL (dCall g_pieces_at [(dVar 0), (dVar 2)])) (gN 3)
    (dIfS (dTst (dOp (eqP true) (dVar 3) (dVar 1)))
    (dRet (dVar 3))
    dNx))
    (dRet (dC .non)))
noncomputable def dfn_piece_beyond (g_pieces_at : D1) : D1 := dFn 4 (den_piece_beyond g_pieces_at)
noncomputable def den_joints_out (g_joints_of : D1) : DS :=
    (dSeq (dIfS (dTst (dOp (eqP false) (dOp ixP (dVar 0) (dC (.int 0))) (dC (.str "plain"))))
    (dRet (dComp false [none, some 1] (iL (dCall g_joints_of [(dVar 0)])) (gN 0) (dTst (dOp (eqP true) (dVar 0) (dVar 1))) (dVar 0)))
    dNx)
    (dSeq (dIfS (dTst (dOp (eqP false) (dVar 1) (dOp ixP (dVar 0) (dC (.int 1)))))
    (dRet (dLst false [(dOp ixP (dVar 0) (dC (.int 2))), (dOp ixP (dVar 0) (dC (.int 3)))]))
    dNx)
    (dRet (dLst false [(dOp ixP (dVar 0) (dC (.int 1)))]))))
noncomputable def dfn_joints_out (g_joints_of : D1) : D1 := dFn 2 (den_joints_out g_joints_of)
noncomputable def den_check_yard (g_check_pieces : D1) (g_check_signals : D1) : DS :=
    (dSeq (dDrop (dCall g_check_pieces [(dVar 0)]))
    (dDrop (dCall g_check_signals [(dVar 0), (dVar 1)])))
noncomputable def dfn_check_yard (g_check_pieces : D1) (g_check_signals : D1) : D1 := dFn 2 (den_check_yard g_check_pieces g_check_signals)
noncomputable def den_check_pieces (cBadYard : Addr) (g_check_joints : D1) (g_joints_of : D1) : DS :=
    (dSeq (dIfS (dTst (dOp (eqP false) (dCall lenP [(dVar 0)]) (dC (.int 0))))
    (dRaise cBadYard [(dC (.str "a yard has at least one piece"))])
    dNx)
    (dSeq (dIfS (dTst (dOp gtP (dCall lenP [(dVar 0)]) (dC (.int 16))))
    (dRaiseJ cBadYard [none, some (dC (.int 16)), none])
    dNx)
    (dFor (iL (dVar 0)) (gN 1)
    (dDrop (dCall g_check_joints [(dVar 0), (dCall g_joints_of [(dVar 1)])])))))
noncomputable def dfn_check_pieces (cBadYard : Addr) (g_check_joints : D1) (g_joints_of : D1) : D1 := dFn 2 (den_check_pieces cBadYard g_check_joints g_joints_of)
noncomputable def den_check_joints (cBadYard : Addr) (g_pieces_at : D1) : DS :=
    (dFor (iL (dVar 1)) (gN 2)
    (dSeq (dIfS (dOr (dTst (dOp ltP (dVar 2) (dC (.int 0)))) (dTst (dOp gtP (dVar 2) (dC (.int 999)))))
    (dRaiseJ cBadYard [none, some (dVar 2), none, some (dC (.int 999))])
    dNx)
    (dSeq (dIfS (dTst (dOp gtP (dMeth countP (dVar 1) [(dVar 2)]) (dC (.int 1))))
    (dRaiseJ cBadYard [none, some (dVar 2), none])
    dNx)
    (dIfS (dTst (dOp gtP (dCall lenP [(dCall g_pieces_at [(dVar 0), (dVar 2)])]) (dC (.int 2))))
    (dRaiseJ cBadYard [none, some (dVar 2)])
    dNx))))
noncomputable def dfn_check_joints (cBadYard : Addr) (g_pieces_at : D1) : D1 := dFn 3 (den_check_joints cBadYard g_pieces_at)
noncomputable def den_check_signals (cBadYard : Addr) (g_joints_of : D1) : DS :=
    (dSeq (dIfS (dTst (dOp gtP (dCall lenP [(dVar 1)]) (dC (.int 16))))
    (dRaiseJ cBadYard [none, some (dC (.int 16)), none])
    dNx)
    (dFor (iL (dVar 1)) (gT 2 (gsCons (gN 2) (gsCons (gN 3) gsNil)))
    (dSeq (dIfS (dTst (dOp gtP (dMeth countP (dVar 1) [(dTup [(dVar 2), (dVar 3)])]) (dC (.int 1))))
    (dRaiseJ cBadYard [none, some (dVar 2), none, some (dVar 3)])
    dNx)
    (dSeq (dIfS (dOr (dTst (dOp ltP (dVar 3) (dC (.int 0)))) (dTst (dOp geP (dVar 3) (dCall lenP [(dVar 0)]))))
    (dRaiseJ cBadYard [none, some (dVar 3), none])
    dNx)
    (dIfS (dTst (dOp (inP true) (dVar 2) (dCall g_joints_of [(dOp ixP (dVar 0) (dVar 3))])))
    (dRaiseJ cBadYard [none, some (dVar 3), none, some (dVar 2)])
    dNx)))))
noncomputable def dfn_check_signals (cBadYard : Addr) (g_joints_of : D1) : D1 := dFn 4 (den_check_signals cBadYard g_joints_of)
noncomputable def den_routes (g_check_yard : D1) (g_ways_on : D1) : DS :=
    (dSeq (dDrop (dCall g_check_yard [(dVar 0), (dVar 1)]))
    (dSeq (dSet 2 (dLst true []))
    (dSeq (dFor (iE (dVar 1)) (gT 2 (gsCons (gN 3) (gsCons (gN 4) gsNil)))
    (dFor (iL (dCall g_ways_on [(dVar 0), (dVar 1), (dLst false []), (dOp ixP (dVar 4) (dC (.int 0))), (dOp ixP (dVar 4) (dC (.int 1)))])) (gN 5)
    (dDrop (dMeth appendP (dVar 2) [(dTup [(dVar 3), (dVar 5)])]))))
    (dRet (dFrz (dVar 2))))))
noncomputable def dfn_routes (g_check_yard : D1) (g_ways_on : D1) : D1 := dFn 6 (den_routes g_check_yard g_ways_on)
noncomputable def den_ways_on (g_joints_out : D1) (g_piece_beyond : D1) (g_ways_on : D1) : DS :=
    (dSeq (dIfS (dTst (dOp (inP false) (dVar 4) (dComp false [none] (iL (dVar 2)) (gN 0) dTT (dOp ixP (dVar 0) (dC (.int 0))))))
    (dRet (dLst false []))
    dNx)
    (dSeq (dSet 5 (dLst true []))
    (dSeq (dFor (iL (dCall g_joints_out [(dOp ixP (dVar 0) (dVar 4)), (dVar 3)])) (gN 6)
    (dSeq (dSet 7 (dOp (addP false) (dVar 2) (dLst false [(dTup [(dVar 4), (dVar 3), (dVar 6)])])))
    (dSeq (dSet 8 (dCall g_piece_beyond [(dVar 0), (dVar 4), (dVar 6)]))
    (dIfS (dOr (dTst (dOp (isP false) (dVar 8) (dC .non))) (dTst (dOp (inP false) (dTup [(dVar 6), (dVar 8)]) (dVar 1))))
    (dDrop (dMeth appendP (dVar 5) [(dVar 7)]))
    (dDrop (dMeth extendP (dVar 5) [(dCall g_ways_on [(dVar 0), (dVar 1), (dVar 7), (dVar 6), (dVar 8)])]))))))
    (dRet (dFrz (dVar 5))))))
noncomputable def dfn_ways_on (g_joints_out : D1) (g_piece_beyond : D1) (g_ways_on : D1) : D1 := dFn 9 (den_ways_on g_joints_out g_piece_beyond g_ways_on)
noncomputable def den_Yard_init (cYard : Addr) (g_routes : D1) : DS :=
    (dSeq (dPutF cYard "found" (dVar 0) (dCall g_routes [(dVar 1), (dVar 2)]))
    (dSeq (dPutF cYard "pieces" (dVar 0) (dCall (listP false) [(dVar 1)]))
    (dSeq (dPutF cYard "signals" (dVar 0) (dCall (listP false) [(dVar 2)]))
    (dSeq (dPutF cYard "wait" (dVar 0) (dVar 3))
    (dSeq (dPutF cYard "ticks" (dVar 0) (dC (.int 0)))
    (dSeq (dPutF cYard "locks" (dVar 0) dDic0)
    (dSeq (dPutF cYard "lying" (dVar 0) (dComp true [none] (iL (dVar 1)) (gN 0) dTT (dC (.str "straight"))))
    (dSeq (dPutF cYard "greens" (dVar 0) dDic0)
    (dSeq (dPutF cYard "falls" (dVar 0) dDic0)
    (dPutF cYard "trains" (dVar 0) dDic0))))))))))
noncomputable def dfn_Yard_init (cYard : Addr) (g_routes : D1) : D1 := dFn 4 (den_Yard_init cYard g_routes)
noncomputable def den_Yard_ways (cYard : Addr) : DS :=
    (dRet (dComp true [none, none] (iL (dFld cYard "found" (dVar 0))) (gT 2 (gsCons (gN 0) (gsCons (gN 1) gsNil))) dTT (dTup [(dVar 0), (dCall (listP true) [(dVar 1)])])))
noncomputable def dfn_Yard_ways (cYard : Addr) : D1 := dFn 1 (den_Yard_ways cYard)
noncomputable def den_l_cell  : DS :=
    (dSeq (dIfS (dTru (dVar 0))
    (dRet (dOp ixP (dVar 0) (dOp modP (dVar 1) (dCall lenP [(dVar 0)]))))
    dNx)
    (dRet (dC (.int 0))))
noncomputable def dfn_l_cell  : D1 := dFn 2 (den_l_cell )
noncomputable def den_l_mix (g_l_cell : D1) : DS :=
    (dSeq (dSet 2 (dOp modP (dOp (addP false) (dCall g_l_cell [(dVar 0), (dVar 1)]) (dOp (mulP false) (dC (.int 104729)) (dOp (addP false) (dVar 1) (dC (.int 1))))) (dC (.int 4294967291))))
    (dSeq (dSet 2 (dOp modP (dOp (mulP false) (dVar 2) (dC (.int 48271))) (dC (.int 4294967279))))
    (dRet (dOp modP (dOp (addP false) (dOp (mulP false) (dOp fdivP (dVar 2) (dC (.int 64))) (dC (.int 69621))) (dVar 2)) (dC (.int 4294967231))))))
noncomputable def dfn_l_mix (g_l_cell : D1) : D1 := dFn 3 (den_l_mix g_l_cell)
noncomputable def den_l_whole  : DS :=
    (dRet (dAndV (dIsT "int" (dVar 0)) (dNotV (dIsT "bool" (dVar 0)))))
noncomputable def dfn_l_whole  : D1 := dFn 1 (den_l_whole )
noncomputable def den_l_beyond  : DS :=
    (dSeq (dSet 3 (dComp false [none, some 1, some 2, some 0] (iR1 [(dCall lenP [(dVar 0)])]) (gN 0) (dAnd (dTst (dOp (eqP true) (dVar 0) (dVar 1))) (dTst (dOp (inP false) (dVar 2) (dSl false (dOp ixP (dVar 3) (dVar 0)) (dPart (dC (.int 1))) dNoPart)))) (dVar 0)))
    (dRet (dIf (dTru (dVar 3)) (dOp ixP (dVar 3) (dC (.int 0))) (dC .non))))
noncomputable def dfn_l_beyond  : D1 := dFn 4 (den_l_beyond )
noncomputable def den_l_pieces (g_l_mix : D1) : DS :=
    (dSeq (dSet 2 (dLst true []))
    (dSeq (dSet 3 (dLst false []))
    (dSeq (dSet 4 (dC (.int 0)))
    (dSeq (dFor (iR1 [(dOp (addP false) (dC (.int 1)) (dOp modP (dCall g_l_mix [(dVar 0), (dVar 1)]) (dC (.int 8))))]) (gN 5)
    (dSeq (dSet 6 (dCall g_l_mix [(dVar 0), (dOp (addP false) (dOp (addP false) (dVar 1) (dC (.int 1))) (dVar 5))]))
    (dSeq (dSet 7 (dLst true []))
    (dSeq (dFor (iR1 [(dOp (addP false) (dC (.int 2)) (dCall intoP [(dOp ltP (dOp modP (dVar 6) (dC (.int 5))) (dC (.int 3)))]))]) (gN 8)
    (dSeq (dSet 9 (dCall g_l_mix [(dVar 0), (dOp (addP false) (dOp (addP false) (dOp (addP false) (dVar 1) (dC (.int 10))) (dOp (mulP false) (dC (.int 3)) (dVar 5))) (dVar 8))]))
    (dSeq (dSet 10 (dComp false [none, some 7] (iL (dVar 3)) (gN 0) (dTst (dOp (inP true) (dVar 0) (dVar 1))) (dVar 0)))
    (dIfS (dAnd (dTru (dVar 10)) (dTst (dOp ltP (dOp modP (dVar 9) (dC (.int 8))) (dOp ixP (dLst false [(dC (.int 7)), (dC (.int 2)), (dC (.int 2))]) (dVar 8)))))
    (dDrop (dMeth appendP (dVar 7) [(dOp ixP (dVar 10) (dOp modP (dOp fdivP (dVar 9) (dC (.int 8))) (dCall minP [(dC (.int 4)), (dCall lenP [(dVar 10)])])))]))
    (dSeq (dDrop (dMeth appendP (dVar 7) [(dOp modP (dOp (addP false) (dCall g_l_mix [(dVar 0), (dOp (addP false) (dVar 1) (dC (.int 9)))]) (dOp (mulP false) (dC (.int 37)) (dVar 4))) (dC (.int 1000)))]))
    (dSet 4 (dOp (addP false) (dVar 4) (dC (.int 1)))))))))
    (dSeq (dSet 3 (dOp (addP false) (dComp false [none, some 3] (iL (dVar 7)) (gN 0) (dTst (dOp (inP true) (dVar 0) (dVar 1))) (dVar 0)) (dComp false [none, some 7] (iL (dVar 3)) (gN 0) (dTst (dOp (inP true) (dVar 0) (dVar 1))) (dVar 0))))
    (dDrop (dMeth appendP (dVar 2) [(dOp (addP false) (dTup [(dOp ixP (dLst false [(dC (.str "plain")), (dC (.str "points"))]) (dOp subP (dCall lenP [(dVar 7)]) (dC (.int 2))))]) (dCall tupleP [(dVar 7)]))])))))))
    (dRet (dFrz (dVar 2)))))))
noncomputable def dfn_l_pieces (g_l_mix : D1) : D1 := dFn 11 (den_l_pieces g_l_mix)
noncomputable def den_l_signals (g_l_mix : D1) (g_l_beyond : D1) : DS :=
    (dSeq (dSet 3 (dLst true []))
    (dSeq (dFor (iR1 [(dCall lenP [(dVar 2)])]) (gN 4)
    (dFor (iT (dSl false (dOp ixP (dVar 2) (dVar 4)) (dPart (dC (.int 1))) dNoPart)) (gN 5)
    (dSeq (dSet 6 (dCall g_l_mix [(dVar 0), (dOp (addP false) (dOp (addP false) (dVar 1) (dOp (mulP false) (dC (.int 3)) (dVar 4))) (dCall lenP [(dVar 3)]))]))
    (dSeq (dSet 7 (dOp (isP false) (dCall g_l_beyond [(dVar 2), (dVar 4), (dVar 5)]) (dC .non)))
    (dIfS (dOr (dTst (dOp (eqP false) (dOp modP (dVar 6) (dC (.int 3))) (dC (.int 0)))) (dAnd (dTru (dVar 7)) (dTst (dOp (eqP false) (dOp modP (dVar 6) (dC (.int 3))) (dC (.int 1))))))
    (dDrop (dMeth appendP (dVar 3) [(dTup [(dVar 5), (dVar 4)])]))
    dNx)))))
    (dSeq (dSet 8 (dOp modP (dCall g_l_mix [(dVar 0), (dOp (addP false) (dVar 1) (dC (.int 30)))]) (dOp (addP false) (dC (.int 1)) (dCall lenP [(dVar 3)]))))
    (dRet (dSl false (dOp (addP false) (dSl false (dVar 3) (dPart (dVar 8)) dNoPart) (dSl false (dVar 3) dNoPart (dPart (dVar 8)))) dNoPart (dPart (dC (.int 16))))))))
noncomputable def dfn_l_signals (g_l_mix : D1) (g_l_beyond : D1) : D1 := dFn 9 (den_l_signals g_l_mix g_l_beyond)
noncomputable def den_l_outs  : DS :=
    (dSeq (dIfS (dTst (dOp (eqP false) (dOp ixP (dVar 0) (dC (.int 0))) (dC (.str "plain"))))
    (dRet (dComp false [none, some 1] (iT (dSl false (dVar 0) (dPart (dC (.int 1))) dNoPart)) (gN 0) (dTst (dOp (eqP true) (dVar 0) (dVar 1))) (dVar 0)))
    dNx)
    (dRet (dIf (dTst (dOp (eqP false) (dVar 1) (dOp ixP (dVar 0) (dC (.int 1))))) (dLst false [(dOp ixP (dVar 0) (dC (.int 2))), (dOp ixP (dVar 0) (dC (.int 3)))]) (dLst false [(dOp ixP (dVar 0) (dC (.int 1)))]))))
noncomputable def dfn_l_outs  : D1 := dFn 2 (den_l_outs )
noncomputable def den_l_ways (g_l_outs : D1) (g_l_beyond : D1) (g_l_ways : D1) : DS :=
    (dSeq (dSet 5 (dLst true []))
    (dSeq (dIfS (dTst (dOp (inP false) (dVar 3) (dComp false [none] (iL (dVar 2)) (gN 0) dTT (dOp ixP (dVar 0) (dC (.int 0))))))
    (dRet (dFrz (dVar 5)))
    dNx)
    (dSeq (dFor (iL (dCall g_l_outs [(dOp ixP (dVar 0) (dVar 3)), (dVar 4)])) (gN 6)
    (dSeq (dSet 7 (dOp (addP false) (dVar 2) (dLst false [(dTup [(dVar 3), (dVar 4), (dVar 6)])])))
    (dSeq (dSet 8 (dCall g_l_beyond [(dVar 0), (dVar 3), (dVar 6)]))
    (dIfS (dOr (dTst (dOp (isP false) (dVar 8) (dC .non))) (dTst (dOp (inP false) (dTup [(dVar 6), (dVar 8)]) (dVar 1))))
    (dDrop (dMeth appendP (dVar 5) [(dVar 7)]))
    (dSet 5 (dOp (addP true) (dVar 5) (dCall g_l_ways [(dVar 0), (dVar 1), (dVar 7), (dVar 8), (dVar 6)])))))))
    (dRet (dFrz (dVar 5))))))
noncomputable def dfn_l_ways (g_l_outs : D1) (g_l_beyond : D1) (g_l_ways : D1) : D1 := dFn 9 (den_l_ways g_l_outs g_l_beyond g_l_ways)
noncomputable def den_l_routes (g_l_ways : D1) : DS :=
    (dSeq (dSet 2 (dLst false []))
    (dSeq (dFor (iR1 [(dCall lenP [(dVar 1)])]) (gN 3)
    (dSet 2 (dOp (addP false) (dVar 2) (dComp false [none, some 3] (iL (dCall g_l_ways [(dVar 0), (dVar 1), (dLst false []), (dOp ixP (dOp ixP (dVar 1) (dVar 3)) (dC (.int 1))), (dOp ixP (dOp ixP (dVar 1) (dVar 3)) (dC (.int 0)))])) (gN 0) dTT (dTup [(dVar 1), (dVar 0)])))))
    (dRet (dVar 2))))
noncomputable def dfn_l_routes (g_l_ways : D1) : D1 := dFn 4 (den_l_routes g_l_ways)
noncomputable def den_l_is_route (g_l_whole : D1) (g_l_beyond : D1) : DS :=
    (dSeq (dIfS (dOr (dNot (dTru (dIsT "tuple" (dVar 2)))) (dOr (dTst (dOp (eqP true) (dCall lenP [(dVar 2)]) (dC (.int 2)))) (dOr (dNot (dTru (dCall g_l_whole [(dOp ixP (dVar 2) (dC (.int 0)))]))) (dNot (dTru (dIsT "list" (dOp ixP (dVar 2) (dC (.int 1)))))))))
    (dRet (dC (.bl false)))
    dNx)
    (dSeq (dAsg (dOp ixP (dVar 1) (dOp ixP (dVar 2) (dC (.int 0)))) (gT 2 (gsCons (gN 3) (gsCons (gN 4) gsNil))))
    (dSeq (dFor (iR1 [(dCall lenP [(dOp ixP (dVar 2) (dC (.int 1)))])]) (gN 5)
    (dSeq (dSet 6 (dOp ixP (dOp ixP (dVar 2) (dC (.int 1))) (dVar 5)))
    (dSeq (dIfS (dOr (dNot (dTru (dIsT "tuple" (dVar 6)))) (dOr (dTst (dOp (eqP true) (dCall lenP [(dVar 6)]) (dC (.int 3)))) (dNot (dTru (dCall allP [(dComp false [none] (iT (dVar 6)) (gN 0) dTT (dCall g_l_whole [(dVar 0)]))])))))
    (dRet (dC (.bl false)))
    dNx)
    (dSeq (dIfS (dOr (dTst (dOp (eqP true) (dSl false (dVar 6) dNoPart (dPart (dC (.int 2)))) (dTup [(dVar 4), (dVar 3)]))) (dAnd (dTst (dOp gtP (dVar 5) (dC (.int 0)))) (dTst (dOp (inP false) (dTup [(dVar 3), (dVar 4)]) (dVar 1)))))
    (dRet (dC (.bl false)))
    dNx)
    (dSeq (dSet 7 (dSl false (dOp ixP (dVar 0) (dVar 4)) (dPart (dC (.int 1))) dNoPart))
    (dSeq (dIfS (dOr (dTst (dOp (eqP false) (dVar 3) (dOp ixP (dVar 6) (dC (.int 2))))) (dOr (dTst (dOp (inP true) (dOp ixP (dVar 6) (dC (.int 2))) (dVar 7))) (dAnd (dTst (dOp (eqP false) (dCall lenP [(dVar 7)]) (dC (.int 3)))) (dTst (dOp (inP true) (dOp ixP (dVar 7) (dC (.int 0))) (dTup [(dVar 3), (dOp ixP (dVar 6) (dC (.int 2)))]))))))
    (dRet (dC (.bl false)))
    dNx)
    (dSeq (dSet 3 (dOp ixP (dVar 6) (dC (.int 2))))
    (dSet 4 (dCall g_l_beyond [(dVar 0), (dVar 4), (dVar 3)])))))))))
    (dSeq (dSet 8 (dComp false [none] (iL (dOp ixP (dVar 2) (dC (.int 1)))) (gN 0) dTT (dOp ixP (dVar 0) (dC (.int 0)))))
    (dRet (dAndV (dChain (eqP false) gtP (dLenSet (dVar 8)) (dCall lenP [(dVar 8)]) (dC (.int 0))) (dOrV (dOp (isP false) (dVar 4) (dC .non)) (dOp (inP false) (dTup [(dVar 3), (dVar 4)]) (dVar 1)))))))))
noncomputable def dfn_l_is_route (g_l_whole : D1) (g_l_beyond : D1) : D1 := dFn 9 (den_l_is_route g_l_whole g_l_beyond)
noncomputable def den_law_k02 (cYard : Addr) (g_l_pieces : D1) (g_l_signals : D1) (g_routes : D1) (g_l_is_route : D1) (g_l_routes : D1) (g_Yard_init : D1) (g_Yard_ways : D1) : DS :=
    (dSeq (dSet 1 (dCall g_l_pieces [(dVar 0), (dC (.int 0))]))
    (dSeq (dSet 2 (dCall g_l_signals [(dVar 0), (dC (.int 40)), (dVar 1)]))
    (dSeq (dSet 3 (dTup [(dCall (listP false) [(dVar 1)]), (dCall (listP false) [(dVar 2)])]))
    (dSeq (dSet 4 (dCall g_routes [(dOp ixP (dVar 3) (dC (.int 0))), (dOp ixP (dVar 3) (dC (.int 1)))]))
    (dSeq (dIfS (dOr (dNot (dTru (dIsT "list" (dVar 4)))) (dNot (dTru (dCall allP [(dComp false [none, some 1, some 2] (iL (dVar 4)) (gN 0) dTT (dCall g_l_is_route [(dVar 1), (dVar 2), (dVar 0)]))]))))
    (dRet (dC (.bl false)))
    dNx)
    (dSeq (dIfS (dOr (dTst (dOp (eqP true) (dVar 4) (dCall g_l_routes [(dVar 1), (dVar 2)]))) (dTst (dOp (eqP true) (dVar 3) (dTup [(dVar 1), (dVar 2)]))))
    (dRet (dC (.bl false)))
    dNx)
    (dSeq (dSet 5 (dMake cYard g_Yard_init [(dVar 1), (dVar 2), (dC (.int 0))]))
    (dSeq (dSet 6 (dMet cYard "ways" g_Yard_ways (dVar 5) []))
    (dSeq (dIfS (dTst (dOp (eqP true) (dVar 6) (dVar 4)))
    (dRet (dC (.bl false)))
    dNx)
    (dSeq (dFor (iL (dVar 6)) (gN 7)
    (dDrop (dMeth appendP (dOp ixP (dVar 7) (dC (.int 1))) [(dTup [(dC (.int 0)), (dC (.int 0)), (dC (.int 0))])])))
    (dSeq (dDrop (dMeth appendP (dVar 6) [(dTup [(dC (.int 0)), (dLst false [])])]))
    (dRet (dOp (eqP false) (dMet cYard "ways" g_Yard_ways (dVar 5) []) (dVar 4))))))))))))))
noncomputable def dfn_law_k02 (cYard : Addr) (g_l_pieces : D1) (g_l_signals : D1) (g_routes : D1) (g_l_is_route : D1) (g_l_routes : D1) (g_Yard_init : D1) (g_Yard_ways : D1) : D1 := dFn 8 (den_law_k02 cYard g_l_pieces g_l_signals g_routes g_l_is_route g_l_routes g_Yard_init g_Yard_ways)
end Sb
end
section
set_option Elab.async false
set_option linter.all false
set_option maxRecDepth 100000
set_option maxHeartbeats 4000000
namespace L2
open PySem
section
variable {ρ : Rho} {M : Sto}
@[simp] theorem dVar_eq {i : Nat} : dVar i ρ M = (match ρ[i]? with | some (some x) => .ok x M | _ => .bad) := rfl
@[simp] theorem dC_eq {x : PV} : dC x ρ M = .ok x M := rfl
@[simp] theorem dArgs_nil : dArgs [] ρ M = .ok [] M := rfl
@[simp] theorem dArgs_cons {d : DE} {ds : List DE} : dArgs (d :: ds) ρ M = (d ρ M).bind fun x M1 => (dArgs ds ρ M1).bind fun xs M2 => .ok (x :: xs) M2 := rfl
@[simp] theorem dTup_eq {ds : List DE} : dTup ds ρ M = (dArgs ds ρ M).bind fun xs M1 => .ok (.tup xs) M1 := rfl
@[simp] theorem dLst_eq {l : Bool} {ds : List DE} : dLst l ds ρ M = (dArgs ds ρ M).bind fun xs M1 => mkL l xs M1 := rfl
@[simp] theorem dOp_eq {f : D2} {a b : DE} : dOp f a b ρ M = (a ρ M).bind fun x M1 => (b ρ M1).bind fun y M2 => f x y M2 := rfl
@[simp] theorem dCall_eq {f : D1} {ds : List DE} : dCall f ds ρ M = (dArgs ds ρ M).bind fun xs M1 => f xs M1 := rfl
@[simp] theorem dTru_eq {d : DE} : dTru d ρ M = (d ρ M).bind fun x M1 => Res.opt (truP M1 x) M1 := rfl
@[simp] theorem dTst_eq {d : DE} : dTst d ρ M = (d ρ M).bind fun x M1 => match x with | .bl b => .ok b M1 | _ => .bad := rfl
@[simp] theorem dAnd_eq {a b : DT} : dAnd a b ρ M = (a ρ M).bind fun k M1 => if k = true then b ρ M1 else .ok false M1 := rfl
@[simp] theorem dOr_eq {a b : DT} : dOr a b ρ M = (a ρ M).bind fun k M1 => if k = true then .ok true M1 else b ρ M1 := rfl
@[simp] theorem dNot_eq {a : DT} : dNot a ρ M = (a ρ M).bind fun k M1 => .ok (!k) M1 := rfl
@[simp] theorem dIf_eq {t : DT} {a b : DE} : dIf t a b ρ M = (t ρ M).bind fun k M1 => if k = true then a ρ M1 else b ρ M1 := rfl
@[simp] theorem dSl_eq {l : Bool} {d : DE} {dl dh : DO} : dSl l d dl dh ρ M = (d ρ M).bind fun x M1 => (dl ρ M1).bind fun lo M2 => (dh ρ M2).bind fun hi M3 => slP l x lo hi M3 := rfl
@[simp] theorem dNoPart_eq : dNoPart ρ M = .ok none M := rfl
@[simp] theorem dPart_eq {d : DE} : dPart d ρ M = (d ρ M).bind fun x M1 => match x with | .int i => .ok (some i) M1 | _ => .bad := rfl
@[simp] theorem dFrz_eq {d : DE} : dFrz d ρ M = (d ρ M).bind fun x M1 => frzP x M1 := rfl
@[simp] theorem dMeth_eq {f : DM} {d : DE} {ds : List DE} : dMeth f d ds ρ M = (d ρ M).bind fun x M1 => match seqL M1 x with | some _ => (dArgs ds ρ M1).bind fun xs M2 => f x xs M2 | none => .bad := rfl
@[simp] theorem dNx_eq : dNx ρ M = .nx ρ M := rfl
@[simp] theorem dSeq_eq {a b : DS} : dSeq a b ρ M = (match a ρ M with | .nx ρ' M' => b ρ' M' | o => o) := rfl
@[simp] theorem dDrop_eq {d : DE} : dDrop d ρ M = (d ρ M).out ρ fun _ M1 => .nx ρ M1 := rfl
@[simp] theorem dRet_eq {d : DE} : dRet d ρ M = (d ρ M).out ρ fun x M1 => .rt x M1 := rfl
@[simp] theorem dRetN_eq : dRetN ρ M = .rt .non M := rfl
@[simp] theorem dIfS_eq {t : DT} {a b : DS} : dIfS t a b ρ M = (t ρ M).out ρ fun k M1 => if k = true then a ρ M1 else b ρ M1 := rfl
@[simp] theorem dSet_eq {i : Nat} {d : DE} : dSet i d ρ M = (d ρ M).out ρ fun x M1 => .nx (ρ.set i (some x)) M1 := rfl
@[simp] theorem dAsg_eq {d : DE} {g : DG} : dAsg d g ρ M = (d ρ M).out ρ fun x M1 => match g x ρ with | some ρ' => .nx ρ' M1 | none => .bad := rfl
@[simp] theorem gN_eq {i : Nat} {x : PV} : gN i x ρ = some (ρ.set i (some x)) := rfl
@[simp] theorem dTT_eq : dTT ρ M = .ok true M := rfl
@[simp] theorem dRaise_eq {C : Addr} {ds : List DE} : dRaise C ds ρ M = (dArgs ds ρ M).out ρ fun _ M1 => .exc C ρ M1 := rfl
@[simp] theorem bind_ok {α β : Type} {x : α} {f : α → Sto → Res β} : (Res.ok x M).bind f = f x M := rfl
@[simp] theorem opt_some {α : Type} {x : α} : Res.opt (some x) M = .ok x M := rfl
@[simp] theorem opt_none {α : Type} : (Res.opt none M : Res α) = .bad := rfl
@[simp] theorem res_rt {x : PV} : (Out.rt x M).res = .ok x M := rfl
@[simp] theorem res_nx : (Out.nx ρ M).res = .ok .non M := rfl
@[simp] theorem res_exc {c : Addr} : (Out.exc c ρ M).res = .exc c M := rfl
end
def Pl : Nat → PV → Prop
  | 0, x => match x with
    | .non => True
    | .int _ => True
    | .str x => PyData.canLay0 (.str x) = true
    | _ => False
  | k + 1, x => match x with
    | .non => True
    | .int _ => True
    | .str x => PyData.canLay0 (.str x) = true
    | .lst xs => ∀ y ∈ xs, Pl k y
    | .tup xs => ∀ y ∈ xs, Pl k y
    | _ => False
theorem mapO_map {α β : Type} {f : α → Option β} {g : α → β} : ∀ {xs : List α}, (∀ x ∈ xs, f x = some (g x)) → mapO f xs = some (xs.map g)
  | [], _ => rfl
  | x :: xs, h => by
    unfold mapO
    rw [h x (by simp), mapO_map fun y hy => h y (List.mem_cons_of_mem _ hy)]
    rfl
def flatP (k : Nat) (x : PV) : PyData := (flat [] k x).getD .none
theorem flat_pl {M : Sto} : ∀ (k : Nat) (x : PV), Pl k x → flat M k x = some (flatP k x)
  | 0, x, h => by
    cases x <;> simp_all [Pl, flatP, flat, leaf]
  | k + 1, x, h => by
    cases x with
    | lst xs =>
      have h' : ∀ y ∈ xs, Pl k y := h
      have e : ∀ N : Sto, flat N (k + 1) (.lst xs) = some (.list (xs.map (flatP k))) := fun N => by
        simp only [flat]; rw [mapO_map fun y hy => flat_pl k y (h' y hy)]; rfl
      rw [e, flatP, e]; rfl
    | tup xs =>
      have h' : ∀ y ∈ xs, Pl k y := h
      have e : ∀ N : Sto, flat N (k + 1) (.tup xs) = some (.tuple (xs.map (flatP k))) := fun N => by
        simp only [flat]; rw [mapO_map fun y hy => flat_pl k y (h' y hy)]; rfl
      rw [e, flatP, e]; rfl
    | _ => simp_all [Pl, flatP, flat, leaf]
theorem flatP_lst {k : Nat} {xs : List PV} (h : ∀ y ∈ xs, Pl k y) : flatP (k + 1) (.lst xs) = .list (xs.map (flatP k)) := by
  have e : flat [] (k + 1) (.lst xs) = some (.list (xs.map (flatP k))) := by
    simp only [flat]; rw [mapO_map fun y hy => flat_pl k y (h y hy)]; rfl
  rw [flatP, e]; rfl
theorem flatP_tup {k : Nat} {xs : List PV} (h : ∀ y ∈ xs, Pl k y) : flatP (k + 1) (.tup xs) = .tuple (xs.map (flatP k)) := by
  have e : flat [] (k + 1) (.tup xs) = some (.tuple (xs.map (flatP k))) := by
    simp only [flat]; rw [mapO_map fun y hy => flat_pl k y (h y hy)]; rfl
  rw [flatP, e]; rfl
theorem eqvAll_pl {k : Nat} (ih : ∀ x y, Pl k x → Pl k y → (PyData.eqv (flatP k x) (flatP k y) = true ↔ x = y)) : ∀ xs ys : List PV, (∀ y ∈ xs, Pl k y) → (∀ y ∈ ys, Pl k y) → (PyData.eqvAll (xs.map (flatP k)) (ys.map (flatP k)) = true ↔ xs = ys)
  | [], [], _, _ => by simp [PyData.eqvAll]
  | [], y :: ys, _, _ => by simp [PyData.eqvAll]
  | x :: xs, [], _, _ => by simp [PyData.eqvAll]
  | x :: xs, y :: ys, hx, hy => by
    rw [List.map_cons, List.map_cons, PyData.eqvAll, Bool.and_eq_true, ih x y (hx x (by simp)) (hy y (by simp)), eqvAll_pl ih xs ys (fun z hz => hx z (by simp [hz])) (fun z hz => hy z (by simp [hz]))]
    simp
theorem flatP_non {k : Nat} : flatP k .non = .none := by cases k <;> rfl
theorem flatP_int {k : Nat} {i : Int} : flatP k (.int i) = .int i := by cases k <;> rfl
theorem flatP_str {k : Nat} {x : Str} (h : PyData.canLay0 (.str x) = true) : flatP k (.str x) = .str x := by cases k <;> simp [flatP, flat, leaf, h]
inductive Pk : Nat → PV → Prop
  | non {k : Nat} : Pk k .non
  | int {k : Nat} (i : Int) : Pk k (.int i)
  | str {k : Nat} {x : Str} (h : PyData.canLay0 (.str x) = true) : Pk k (.str x)
  | lst {k : Nat} {xs : List PV} (h : ∀ y ∈ xs, Pl k y) : Pk (k + 1) (.lst xs)
  | tup {k : Nat} {xs : List PV} (h : ∀ y ∈ xs, Pl k y) : Pk (k + 1) (.tup xs)
theorem Pl.pk {k : Nat} {x : PV} (h : Pl k x) : Pk k x := by
  cases k with
  | zero =>
    cases x with
    | non => exact .non
    | int i => exact .int i
    | str x => exact .str h
    | _ => exact h.elim
  | succ k =>
    cases x with
    | non => exact .non
    | int i => exact .int i
    | str x => exact .str h
    | lst xs => exact .lst h
    | tup xs => exact .tup h
    | _ => exact h.elim
theorem eqv_pl (k : Nat) : ∀ (x y : PV), Pl k x → Pl k y → (PyData.eqv (flatP k x) (flatP k y) = true ↔ x = y) := by
  induction k with
  | zero =>
    intro x y hx hy
    cases hx.pk with
    | non => cases hy.pk with
      | non => simp [flatP_non, PyData.eqv]
      | int j => simp [flatP_non, flatP_int, PyData.eqv]
      | str h => simp [flatP_non, flatP_str h, PyData.eqv]
    | int i => cases hy.pk with
      | non => simp [flatP_non, flatP_int, PyData.eqv]
      | int j => simp [flatP_int, PyData.eqv]
      | str h => simp [flatP_int, flatP_str h, PyData.eqv]
    | str h => cases hy.pk with
      | non => simp [flatP_non, flatP_str h, PyData.eqv]
      | int j => simp [flatP_int, flatP_str h, PyData.eqv]
      | str h' => simp [flatP_str h, flatP_str h', PyData.eqv]
  | succ k ih =>
    intro x y hx hy
    cases hx.pk with
    | non => cases hy.pk with
      | non => simp [flatP_non, PyData.eqv]
      | int j => simp [flatP_non, flatP_int, PyData.eqv]
      | str h => simp [flatP_non, flatP_str h, PyData.eqv]
      | lst h => simp [flatP_non, flatP_lst h, PyData.eqv]
      | tup h => simp [flatP_non, flatP_tup h, PyData.eqv]
    | int i => cases hy.pk with
      | non => simp [flatP_non, flatP_int, PyData.eqv]
      | int j => simp [flatP_int, PyData.eqv]
      | str h => simp [flatP_int, flatP_str h, PyData.eqv]
      | lst h => simp [flatP_int, flatP_lst h, PyData.eqv]
      | tup h => simp [flatP_int, flatP_tup h, PyData.eqv]
    | str h => cases hy.pk with
      | non => simp [flatP_non, flatP_str h, PyData.eqv]
      | int j => simp [flatP_int, flatP_str h, PyData.eqv]
      | str h' => simp [flatP_str h, flatP_str h', PyData.eqv]
      | lst h' => simp [flatP_str h, flatP_lst h', PyData.eqv]
      | tup h' => simp [flatP_str h, flatP_tup h', PyData.eqv]
    | lst h => cases hy.pk with
      | non => simp [flatP_non, flatP_lst h, PyData.eqv]
      | int j => simp [flatP_int, flatP_lst h, PyData.eqv]
      | str h' => simp [flatP_lst h, flatP_str h', PyData.eqv]
      | lst h' => rw [flatP_lst h, flatP_lst h', PyData.eqv, eqvAll_pl ih _ _ h h']; simp
      | tup h' => simp [flatP_lst h, flatP_tup h', PyData.eqv]
    | tup h => cases hy.pk with
      | non => simp [flatP_non, flatP_tup h, PyData.eqv]
      | int j => simp [flatP_int, flatP_tup h, PyData.eqv]
      | str h' => simp [flatP_tup h, flatP_str h', PyData.eqv]
      | lst h' => simp [flatP_tup h, flatP_lst h', PyData.eqv]
      | tup h' => rw [flatP_tup h, flatP_tup h', PyData.eqv, eqvAll_pl ih _ _ h h']; simp
theorem bool_of_iff {b : Bool} {p : Prop} [Decidable p] (h : b = true ↔ p) : b = decide p := by
  cases b <;> simp_all
theorem eqP_pl {neg : Bool} {x y : PV} {M : Sto} {p : Prop} [Decidable p] (hx : Pl deep x) (hy : Pl deep y) (h : x = y ↔ p) : eqP neg x y M = .ok (.bl (if neg then !decide p else decide p)) M := by
  unfold eqP
  rw [flat_pl deep x hx, flat_pl deep y hy]
  dsimp only
  rw [bool_of_iff ((eqv_pl deep x y hx hy).trans h)]
theorem inP_any {neg : Bool} {α : Type} {enc : α → PV} (hp : ∀ a, Pl deep (enc a)) (inj : ∀ a b, enc a = enc b → a = b) {a : α} {as : List α} [Decidable (a ∈ as)] {y : PV} {M : Sto} (hy : seqA M y = some (as.map enc)) :
    inP neg (enc a) y M = .ok (.bl (if neg then !decide (a ∈ as) else decide (a ∈ as))) M := by
  unfold inP
  rw [hy]
  dsimp only
  rw [flat_pl deep _ (hp a), mapO_map (g := flatP deep) fun z hz => by
    obtain ⟨b, _, rfl⟩ := List.mem_map.mp hz
    exact flat_pl deep _ (hp b)]
  dsimp only
  have : ((as.map enc).map (flatP deep)).any (fun q => PyData.eqv q (flatP deep (enc a))) = decide (a ∈ as) := by
    refine bool_of_iff ?_
    rw [List.any_eq_true]
    constructor
    · rintro ⟨q, hq, he⟩
      obtain ⟨z, hz, rfl⟩ := List.mem_map.mp hq
      obtain ⟨b, hb, rfl⟩ := List.mem_map.mp hz
      have := inj _ _ ((eqv_pl deep _ _ (hp b) (hp a)).mp he)
      subst this
      exact hb
    · intro hm
      exact ⟨_, List.mem_map.mpr ⟨_, List.mem_map.mpr ⟨a, hm, rfl⟩, rfl⟩, (eqv_pl deep _ _ (hp a) (hp a)).mpr rfl⟩
  rw [this]
theorem pl_int {k : Nat} (i : Int) : Pl k (.int i) := by cases k <;> trivial
theorem pl_non {k : Nat} : Pl k .non := by cases k <;> trivial
@[simp] theorem eqP_ints {neg : Bool} {i j : Int} {M : Sto} : eqP neg (.int i) (.int j) M = .ok (.bl (if neg then !decide (i = j) else decide (i = j))) M := eqP_pl (pl_int i) (pl_int j) (by simp)
@[simp] theorem inP_ints {neg : Bool} {i : Int} {ns : List Int} {M : Sto} : inP neg (.int i) (.lst (ns.map .int)) M = .ok (.bl (if neg then !decide (i ∈ ns) else decide (i ∈ ns))) M := inP_any (enc := PV.int) (fun a => pl_int a) (fun a b e => by cases e; rfl) rfl
@[simp] theorem inP_intt {neg : Bool} {i : Int} {ns : List Int} {M : Sto} : inP neg (.int i) (.tup (ns.map .int)) M = .ok (.bl (if neg then !decide (i ∈ ns) else decide (i ∈ ns))) M := inP_any (enc := PV.int) (fun a => pl_int a) (fun a b e => by cases e; rfl) rfl
theorem compD_pure {α : Type} {w : Wat} {g : DG} {tc : DT} {d : DE} {M : Sto} (enc : α → PV) (P : α → Bool) (f : α → PV) (R : Rho → Prop) (hc : chk w M) :
    ∀ (xs : List α) (ρ : Rho) (acc : List PV), R ρ → (∀ x ∈ xs, ∀ ρ, R ρ → ∃ ρ1, g (enc x) ρ = some ρ1 ∧ R ρ1 ∧ tc ρ1 M = .ok (P x) M ∧ (P x = true → d ρ1 M = .ok (f x) M)) → acc.length + xs.length ≤ lim →
      compD w g tc d (xs.map enc) ρ M acc = .ok (acc ++ (xs.filter P).map f) M
  | [], ρ, acc, _, _, _ => by simp [compD]
  | x :: xs, ρ, acc, hR, h, hl => by
    obtain ⟨ρ1, h1, h2, h3, h4⟩ := h x (by simp) ρ hR
    simp only [List.length_cons] at hl
    rw [List.map_cons, compD, h1]
    dsimp only
    rw [h3, Res.bindN_ok]
    cases hp : P x with
    | true =>
      rw [if_pos rfl, h4 hp, Res.bindN_ok, if_pos ⟨hc, by omega⟩, compD_pure enc P f R hc xs ρ1 _ h2 (fun y hy => h y (by simp [hy])) (by simp; omega), List.filter_cons_of_pos hp]
      simp
    | false =>
      rw [if_neg (by decide), if_pos hc, compD_pure enc P f R hc xs ρ1 _ h2 (fun y hy => h y (by simp [hy])) (by omega), List.filter_cons_of_neg (by simp [hp])]
theorem dComp_pure {α : Type} {live : Bool} {cap : List (Option Nat)} {di : DI} {g : DG} {tc : DT} {d : DE} {ρ : Rho} {M M' : Sto} {w : Wat} {xs : List α} (enc : α → PV) (P : α → Bool) (f : α → PV) (R : Rho → Prop)
    (hi : di ρ M = .ok (xs.map enc, w) M') (hc : chk w M') (hR : R (capR cap ρ)) (h : ∀ x ∈ xs, ∀ ρ, R ρ → ∃ ρ1, g (enc x) ρ = some ρ1 ∧ R ρ1 ∧ tc ρ1 M' = .ok (P x) M' ∧ (P x = true → d ρ1 M' = .ok (f x) M')) (hl : xs.length ≤ lim) :
    dComp live cap di g tc d ρ M = mkL live ((xs.filter P).map f) M' := by
  unfold dComp
  rw [hi, bind_ok, if_pos hc, compD_pure enc P f R hc xs _ _ hR h (by simpa using hl)]
  rfl
theorem forD_fold {α β : Type} {w : Wat} {g : DG} {s1 : DS} (enc : α → PV) (f : β → α → β) (R : β → Rho → Sto → Prop) : ∀ (xs : List α) (b : β) (ρ : Rho) (M : Sto), R b ρ M →
      (∀ b, ∀ x ∈ xs, ∀ ρ M, R b ρ M → ∃ ρ1 ρ' M', g (enc x) ρ = some ρ1 ∧ s1 ρ1 M = .nx ρ' M' ∧ chk w M' ∧ R (f b x) ρ' M') → ∃ ρ' M', forD w g s1 (xs.map enc) ρ M = .nx ρ' M' ∧ R (xs.foldl f b) ρ' M'
  | [], b, ρ, M, h, _ => ⟨ρ, M, rfl, h⟩
  | x :: xs, b, ρ, M, h, hs => by
    obtain ⟨ρ1, ρ', M', h1, h2, h3, h4⟩ := hs b x (by simp) ρ M h
    obtain ⟨ρ2, M2, e, r⟩ := forD_fold enc f R xs (f b x) ρ' M' h4 fun b y hy => hs b y (by simp [hy])
    refine ⟨ρ2, M2, ?_, r⟩
    rw [List.map_cons, forD, h1]
    dsimp only
    rw [h2]
    dsimp only
    rw [if_pos h3, e]
theorem dFor_eq {di : DI} {g : DG} {s1 : DS} {ρ : Rho} {M M' : Sto} {xs : List PV} {w : Wat} (hi : di ρ M = .ok (xs, w) M') (hc : chk w M') : dFor di g s1 ρ M = forD w g s1 xs ρ M' := by
  unfold dFor
  rw [hi, Res.out_ok, if_pos hc]
@[simp] theorem iL_lst {d : DE} {ρ : Rho} {M M' : Sto} {xs : List PV} (h : d ρ M = .ok (.lst xs) M') : iL d ρ M = .ok (xs, none) M' := by unfold iL; rw [h]; rfl
theorem iL_obj {d : DE} {ρ : Rho} {M M' : Sto} {n : Nat} {xs : List PV} (h : d ρ M = .ok (.obj n) M') (hn : M'[n]? = some (.lst xs)) : iL d ρ M = .ok (xs, some (n, .lst xs)) M' := by unfold iL; rw [h, bind_ok]; dsimp only; rw [hn]
theorem iT_tup {d : DE} {ρ : Rho} {M M' : Sto} {xs : List PV} (h : d ρ M = .ok (.tup xs) M') : iT d ρ M = .ok (xs, none) M' := by unfold iT; rw [h]; rfl
def Leaves (g : D1) (xs : List PV) (M : Sto) (x : PV) : Prop := ∃ G, g xs M = .ok x (M ++ G)
theorem Leaves.trunc {g : D1} {xs : List PV} {M : Sto} {x : PV} (h : Leaves g xs M x) (hb : PV.bel M.length x = true) : trunc g xs M = .ok x M := by
  obtain ⟨G, e⟩ := h
  unfold L2.trunc
  rw [e, truR_ok (by simp) hb]
end L2
end
section
set_option Elab.async false
set_option linter.all false
set_option maxRecDepth 100000
set_option maxHeartbeats 4000000
namespace L2
open PySem
section
variable {Q : Out → Prop} {ρ : Rho} {M : Sto} {s1 s2 : DS} {d : DE} {t : DT}
def Seq1 (Q : Out → Prop) (s2 : DS) : Out → Prop
  | .nx ρ M => Q (s2 ρ M)
  | o => Q o
theorem seq_w (h : Seq1 Q s2 (s1 ρ M)) : Q (dSeq s1 s2 ρ M) := by
  unfold dSeq
  cases e : s1 ρ M <;> rw [e] at h <;> exact h
theorem set_w {i : Nat} (x : PV) (M' : Sto) (h : d ρ M = .ok x M') (q : Q (.nx (ρ.set i (some x)) M')) : Q (dSet i d ρ M) := by
  unfold dSet; rw [h]; exact q
theorem sset_w {i : Nat} (x : PV) (M' : Sto) (h : d ρ M = .ok x M') (q : Q (s2 (ρ.set i (some x)) M')) : Q (dSeq (dSet i d) s2 ρ M) := seq_w (set_w x M' h q)
theorem if_w (k : Bool) (M' : Sto) (h : t ρ M = .ok k M') (q1 : k = true → Q (s1 ρ M')) (q2 : k = false → Q (s2 ρ M')) : Q (dIfS t s1 s2 ρ M) := by
  unfold dIfS; rw [h, Res.out_ok]
  cases k with
  | true => exact q1 rfl
  | false => exact q2 rfl
theorem if_t (M' : Sto) (h : t ρ M = .ok true M') (q1 : Q (s1 ρ M')) : Q (dIfS t s1 s2 ρ M) := if_w true M' h (fun _ => q1) nofun
theorem if_f (M' : Sto) (h : t ρ M = .ok false M') (q2 : Q (s2 ρ M')) : Q (dIfS t s1 s2 ρ M) := if_w false M' h nofun (fun _ => q2)
theorem ret_w (x : PV) (M' : Sto) (h : d ρ M = .ok x M') (q : Q (.rt x M')) : Q (dRet d ρ M) := by
  unfold dRet; rw [h]; exact q
theorem drop_w (x : PV) (M' : Sto) (h : d ρ M = .ok x M') (q : Q (.nx ρ M')) : Q (dDrop d ρ M) := by
  unfold dDrop; rw [h]; exact q
theorem asg_w {g : DG} (x : PV) (ρ' : Rho) (M' : Sto) (h : d ρ M = .ok x M') (hg : g x ρ = some ρ') (q : Q (.nx ρ' M')) : Q (dAsg d g ρ M) := by
  unfold dAsg; rw [h, Res.out_ok, hg]; exact q
theorem nx_w (q : Q (.nx ρ M)) : Q (dNx ρ M) := q
def Body (w : Wat) (R : Rho → Sto → Prop) (Q : Out → Prop) : Out → Prop
  | .nx ρ M => chk w M ∧ R ρ M
  | .ct ρ M => chk w M ∧ R ρ M
  | .bk ρ M => Q (.nx ρ M)
  | o => Q o
theorem forD_w {α : Type} {w : Wat} {g : DG} (enc : α → PV) (R : List α → Rho → Sto → Prop) (xs : List α) (k : ∀ ρ' M', R xs ρ' M' → Q (.nx ρ' M'))
    (hs : ∀ pre x post, xs = pre ++ x :: post → ∀ ρ M, R pre ρ M → ∃ ρ1, g (enc x) ρ = some ρ1 ∧ Body w (R (pre ++ [x])) Q (s1 ρ1 M)) :
    ∀ (post pre : List α) (ρ : Rho) (M : Sto), xs = pre ++ post → R pre ρ M → Q (forD w g s1 (post.map enc) ρ M)
  | [], pre, ρ, M, e, h => by rw [List.append_nil] at e; subst e; exact k ρ M h
  | x :: post, pre, ρ, M, e, h => by
    obtain ⟨ρ1, h1, h2⟩ := hs pre x post e ρ M h
    rw [List.map_cons, forD, h1]
    dsimp only
    cases e2 : s1 ρ1 M with
    | nx ρ' M' =>
      rw [e2] at h2
      dsimp only
      rw [if_pos h2.1]
      exact forD_w enc R xs k hs post (pre ++ [x]) ρ' M' (by rw [e]; simp) h2.2
    | ct ρ' M' =>
      rw [e2] at h2
      dsimp only
      rw [if_pos h2.1]
      exact forD_w enc R xs k hs post (pre ++ [x]) ρ' M' (by rw [e]; simp) h2.2
    | bk ρ' M' => rw [e2] at h2; exact h2
    | rt x M' => rw [e2] at h2; exact h2
    | exc c ρ' M' => rw [e2] at h2; exact h2
    | bad => rw [e2] at h2; exact h2
theorem for_w {α : Type} {di : DI} {g : DG} (enc : α → PV) (R : List α → Rho → Sto → Prop) (xs : List α) (w : Wat) (M1 : Sto) (hi : di ρ M = .ok (xs.map enc, w) M1) (hc : chk w M1) (h0 : R [] ρ M1)
    (hs : ∀ pre x post, xs = pre ++ x :: post → ∀ ρ M, R pre ρ M → ∃ ρ1, g (enc x) ρ = some ρ1 ∧ Body w (R (pre ++ [x])) Q (s1 ρ1 M)) (k : ∀ ρ' M', R xs ρ' M' → Q (.nx ρ' M')) : Q (dFor di g s1 ρ M) := by
  unfold dFor
  rw [hi, Res.out_ok, if_pos hc]
  exact forD_w enc R xs k hs xs [] ρ M1 rfl h0
def Fin (P : Res PV → Prop) (o : Out) : Prop := P o.res
theorem fn_w {n : Nat} {xs : List PV} {d : DS} {P : Res PV → Prop} (h : Fin P (d (xs.map some ++ List.replicate (n - xs.length) none) M)) : P (dFn n d xs M) := h
theorem fin_rt {P : Res PV → Prop} {x : PV} (h : P (.ok x M)) : Fin P (.rt x M) := h
theorem fin_nx {P : Res PV → Prop} (h : P (.ok .non M)) : Fin P (.nx ρ M) := h
theorem fin_exc {P : Res PV → Prop} {c : Addr} (h : P (.exc c M)) : Fin P (.exc c ρ M) := h
theorem seq1_nx (h : Q (s2 ρ M)) : Seq1 Q s2 (.nx ρ M) := h
theorem seq1_rt {x : PV} (h : Q (.rt x M)) : Seq1 Q s2 (.rt x M) := h
theorem seq1_exc {c : Addr} (h : Q (.exc c ρ M)) : Seq1 Q s2 (.exc c ρ M) := h
theorem body_nx {w : Wat} {R : Rho → Sto → Prop} (hc : chk w M) (h : R ρ M) : Body w R Q (.nx ρ M) := ⟨hc, h⟩
theorem body_rt {w : Wat} {R : Rho → Sto → Prop} {x : PV} (h : Q (.rt x M)) : Body w R Q (.rt x M) := h
theorem body_exc {w : Wat} {R : Rho → Sto → Prop} {c : Addr} (h : Q (.exc c ρ M)) : Body w R Q (.exc c ρ M) := h
end
@[simp] theorem get_last {M : Sto} {o : MO} : (M ++ [o])[M.length]? = some o := by simp
@[simp] theorem set_last {M : Sto} {o o' : MO} : (M ++ [o]).set M.length o' = M ++ [o'] := by simp
theorem bels_of {n : Nat} : ∀ {xs : List PV}, (∀ x ∈ xs, PV.bel n x = true) → PV.bels n xs = true
  | [], _ => by rw [PV.bels]
  | x :: xs, h => by rw [PV.bels, h x (by simp), bels_of fun y hy => h y (by simp [hy])]; rfl
theorem bel_lst {n : Nat} {xs : List PV} (h : ∀ x ∈ xs, PV.bel n x = true) : PV.bel n (.lst xs) = true := by rw [PV.bel]; exact bels_of h
theorem bel_tup {n : Nat} {xs : List PV} (h : ∀ x ∈ xs, PV.bel n x = true) : PV.bel n (.tup xs) = true := by rw [PV.bel]; exact bels_of h
@[simp] theorem bel_int {n : Nat} {i : Int} : PV.bel n (.int i) = true := by rw [PV.bel]
@[simp] theorem bel_non {n : Nat} : PV.bel n .non = true := by rw [PV.bel]
@[simp] theorem bel_str {n : Nat} {x : Str} : PV.bel n (.str x) = true := by rw [PV.bel]
@[simp] theorem bel_bl {n : Nat} {b : Bool} : PV.bel n (.bl b) = true := by rw [PV.bel]
end L2
end
section
set_option Elab.async false
set_option linter.all false
set_option maxRecDepth 100000
set_option maxHeartbeats 4000000
namespace L2
open PySem PySem.Spec PyProof.Rows
def spLaw (K : PySem.W.Frag) : Sp := fun vs H Q E => ∃ (a : Addr) (ns : List Int), vs = [V.ref a] ∧ SqL K H a (ns.map V.int) ∧ ∀ H', Q (.bl true) H'
theorem spLaw_of {K : PySem.W.Frag} {g : D1} (hg : ∀ ns M, ∃ M', g [.scr ns] M = .ok (.bl true) M') {vs : List V} {H : Hp} {Q : VK} {E : XK} (h : spLaw K vs H Q E) : spD K 1 g vs H Q E := by
  obtain ⟨a, ns, rfl, hS, q⟩ := h
  obtain ⟨M', e⟩ := hg ns []
  refine ⟨rfl, [], H, [], [.scr ns], ⟨Same.refl H, rfl, List.nodup_nil, fun n a o h => nomatch h⟩, .one (Rep.scr_iff.mpr ⟨a, rfl, hS⟩), ?_⟩
  rw [e]
  intro ι' S' H' v _ _ r
  rw [Rep.bl_iff.mp r]
  exact q H'
theorem FnV.bad {P : Program} {w : World} {K : PySem.W.Frag} {mg : Str → Option Value} {base : Heap} {x : Str} {st : Stmt} {N ps : List Str} {k : Nat} (D : DefAt K mg x st ps) (S : FnScope N ps (defScope st)) : FnV P w K mg base (k + 1) x ps.length (dFn N.length fun _ _ => .bad) :=
  FnV.of D S fun f cdv A outer s H E hr pins s1 σ H1 D I h => by
    obtain ⟨_, _, _, _, _, _, h⟩ := h
    exact h.elim
end L2
end
section
set_option Elab.async false
set_option linter.all false
set_option maxRecDepth 100000
set_option maxHeartbeats 4000000
namespace Sb
open PySem L2
inductive Pc where
  | pl (j k : Int)
  | pt (t s b : Int)
def Pc.js : Pc → List Int
  | .pl j k => [j, k]
  | .pt t s b => [t, s, b]
def Pc.enc : Pc → PV
  | .pl j k => .tup [.str "plain", .int j, .int k]
  | .pt t s b => .tup [.str "points", .int t, .int s, .int b]
abbrev Pcs := List Pc
abbrev encPs (ps : Pcs) : PV := .lst (ps.map Pc.enc)
abbrev Sg := Int × Nat
def encSg (s : Sg) : PV := .tup [.int s.1, .int s.2]
abbrev encSs (ss : List Sg) : PV := .lst (ss.map encSg)
abbrev Stp := Nat × Int × Int
def encSt (s : Stp) : PV := .tup [.int s.1, .int s.2.1, .int s.2.2]
abbrev encW (w : List Stp) : PV := .lst (w.map encSt)
abbrev Rt := Nat × List Stp
def encR (r : Rt) : PV := .tup [.int r.1, encW r.2]
abbrev encRs (rs : List Rt) : PV := .lst (rs.map encR)
def encO : Option Nat → PV
  | none => .non
  | some n => .int n
abbrev encI (ns : List Int) : PV := .lst (ns.map .int)
abbrev encN (ns : List Nat) : PV := .lst (ns.map fun (n : Nat) => PV.int (n : Int))
def Pc.at (ps : Pcs) (n : Nat) : Pc := ps.getD n (.pl 0 0)
def beyond (ps : Pcs) (a : Nat) (j : Int) : Option Nat := (List.range ps.length).find? fun k => decide (k ≠ a) && decide (j ∈ (Pc.at ps k).js)
def outs (p : Pc) (j : Int) : List Int := match p with
  | .pl a b => [a, b].filter fun o => decide (o ≠ j)
  | .pt t s b => if j = t then [s, b] else [t]
theorem pl_sg (s : Sg) : Pl deep (encSg s) := by
  intro y hy
  simp only [List.mem_cons, List.not_mem_nil, or_false] at hy
  rcases hy with rfl | rfl <;> exact pl_int _
theorem sg_inj (a b : Sg) (h : encSg a = encSg b) : a = b := by
  obtain ⟨a1, a2⟩ := a
  obtain ⟨b1, b2⟩ := b
  simp [encSg] at h
  obtain ⟨h1, h2⟩ := h
  subst h1
  have : a2 = b2 := by omega
  subst this
  rfl
@[simp] theorem in_sigs {neg : Bool} {j : Int} {n : Nat} {ss : List Sg} {M : Sto} : inP neg (.tup [.int j, .int n]) (encSs ss) M = .ok (.bl (if neg then !decide ((j, n) ∈ ss) else decide ((j, n) ∈ ss))) M := by
  show inP neg (encSg (j, n)) _ M = _
  exact inP_any (enc := encSg) pl_sg sg_inj (a := (j, n)) seqA_lst
@[simp] theorem s_joints_of (p : Pc) (M : Sto) : dfn_joints_of [p.enc] M = .ok (encI p.js) M := by cases p <;> rfl
@[simp] theorem eq_pp {M : Sto} : eqP false (.str "plain") (.str "plain") M = .ok (.bl true) M := by with_unfolding_all rfl
@[simp] theorem eq_sp {M : Sto} : eqP false (.str "points") (.str "plain") M = .ok (.bl false) M := by with_unfolding_all rfl
@[simp] theorem eq_ps {M : Sto} : eqP false (.str "plain") (.str "points") M = .ok (.bl false) M := by with_unfolding_all rfl
@[simp] theorem eq_ss {M : Sto} : eqP false (.str "points") (.str "points") M = .ok (.bl true) M := by with_unfolding_all rfl
theorem ix_tup {xs : List PV} {i : Nat} {x : PV} {M : Sto} (h : xs[i]? = some x) : ixP (.tup xs) (.int i) M = .ok x M := by
  have hl : i < xs.length := (List.getElem?_eq_some_iff.mp h).1
  simp only [ixP, seqA_tup, atI, ixN]
  rw [if_pos (by omega), if_pos (by omega)]
  simp [h]
theorem ix_lst {xs : List PV} {i : Nat} {x : PV} {M : Sto} (h : xs[i]? = some x) : ixP (.lst xs) (.int i) M = .ok x M := by
  have hl : i < xs.length := (List.getElem?_eq_some_iff.mp h).1
  simp only [ixP, seqA_lst, atI, ixN]
  rw [if_pos (by omega), if_pos (by omega)]
  simp [h]
@[simp] theorem ix_t0 {x : PV} {xs : List PV} {M : Sto} : ixP (.tup (x :: xs)) (.int 0) M = .ok x M := ix_tup (i := 0) rfl
@[simp] theorem ix_t1 {x y : PV} {xs : List PV} {M : Sto} : ixP (.tup (x :: y :: xs)) (.int 1) M = .ok y M := ix_tup (i := 1) rfl
@[simp] theorem ix_t2 {x y z : PV} {xs : List PV} {M : Sto} : ixP (.tup (x :: y :: z :: xs)) (.int 2) M = .ok z M := ix_tup (i := 2) rfl
@[simp] theorem ix_t3 {x y z u : PV} {xs : List PV} {M : Sto} : ixP (.tup (x :: y :: z :: u :: xs)) (.int 3) M = .ok u M := ix_tup (i := 3) rfl
@[simp] theorem mkL_lit {xs : List PV} {M : Sto} (h : xs.length ≤ 100) : mkL false xs M = .ok (.lst xs) M := mkL_tree (Nat.le_trans h (by decide))
theorem s_joints_out (p : Pc) (j : Int) (M : Sto) : dfn_joints_out dfn_joints_of [p.enc, .int j] M = .ok (encI (outs p j)) M := by
  cases p with
  | pl a b =>
    have e := s_joints_of (.pl a b) M
    simp only [Pc.enc] at e
    simp only [dfn_joints_out, den_joints_out, dFn, Pc.enc]
    simp
    rw [dComp_pure (xs := [a, b]) (w := none) (M' := M) PV.int (fun o => decide (o ≠ j)) PV.int (fun ρ => ∃ y, ρ = [y, some (.int j)]) (by simp [e]; rfl) trivial ⟨none, rfl⟩ (fun x _ ρ hρ => ?_) (Nat.le_trans (show 2 ≤ 3 by decide) (by decide))]
    · rw [mkL_lit (by simp; exact Nat.le_trans (List.length_filter_le _ _) (show 2 ≤ 100 by decide))]
      rfl
    · obtain ⟨y, rfl⟩ := hρ
      exact ⟨_, rfl, ⟨_, rfl⟩, by simp, fun _ => by simp⟩
  | pt t s b =>
    simp only [dfn_joints_out, den_joints_out, dFn, Pc.enc]
    simp
    by_cases h : j = t <;> simp [h, outs]
theorem at_some {ps : Pcs} {n : Nat} (h : n < ps.length) : ps[n]? = some (Pc.at ps n) := by
  unfold Pc.at
  rw [List.getD_eq_getElem?_getD, List.getElem?_eq_getElem h]
  rfl
theorem at_mem {ps : Pcs} {n : Nat} (h : n < ps.length) : Pc.at ps n ∈ ps := List.mem_of_getElem? (at_some h)
theorem ix_ps {ps : Pcs} {n : Nat} {M : Sto} (h : n < ps.length) : ixP (encPs ps) (.int n) M = .ok (Pc.at ps n).enc M := ix_lst (by rw [List.getElem?_map, at_some h]; rfl)
def atJ (ps : Pcs) (j : Int) : List Nat := (List.range ps.length).filter fun k => decide (j ∈ (Pc.at ps k).js)
theorem enum_map (ps : Pcs) : enumP (ps.map Pc.enc) = (List.range ps.length).map fun k => .tup [.int k, (Pc.at ps k).enc] := by
  refine List.ext_getElem? fun i => ?_
  unfold enumP
  rw [List.getElem?_map, List.getElem?_zipIdx, List.getElem?_map, List.getElem?_map]
  by_cases h : i < ps.length
  · rw [at_some h, List.getElem?_range h]
    simp
  · rw [List.getElem?_eq_none (by omega), List.getElem?_eq_none (by simp; omega)]
    rfl
theorem range_lim {n : Nat} (h : n ≤ 100) : (List.range n).length ≤ lim := by
  rw [List.length_range]; exact Nat.le_trans h (by decide)
theorem s_pieces_at (ps : Pcs) (j : Int) (M : Sto) (hl : ps.length ≤ 100) : dfn_pieces_at dfn_joints_of [encPs ps, .int j] M = .ok (encN (atJ ps j)) M := by
  simp only [dfn_pieces_at, den_pieces_at, dFn]
  simp
  rw [dComp_pure (xs := List.range ps.length) (w := none) (M' := M) (fun k => .tup [.int k, (Pc.at ps k).enc]) (fun k => decide (j ∈ (Pc.at ps k).js)) (fun (k : Nat) => .int k) (fun ρ => ∃ y z, ρ = [y, z, some (.int j)]) ?_ trivial ⟨none, none, rfl⟩ (fun x _ ρ hρ => ?_) (range_lim hl)]
  · rw [mkL_lit (by simp; exact Nat.le_trans (List.length_filter_le _ _) (by rw [List.length_range]; exact hl))]
    rfl
  · unfold iE; simp [enum_map]
  · obtain ⟨y, z, rfl⟩ := hρ
    exact ⟨_, rfl, ⟨_, _, rfl⟩, by simp, fun _ => by simp⟩
theorem s_piece_beyond (ps : Pcs) (n : Nat) (j : Int) (M : Sto) (hl : ps.length ≤ 100) : dfn_piece_beyond (dfn_pieces_at dfn_joints_of) [encPs ps, .int n, .int j] M = .ok (encO (beyond ps n j)) M := by
  have loop : ∀ (xs : List Nat) (y : Option PV), dSeq (forD none (gN 3) (dIfS (dTst (dOp (eqP true) (dVar 3) (dVar 1))) (dRet (dVar 3)) dNx) (xs.map fun (n : Nat) => PV.int (n : Int))) (dRet (dC .non)) [some (encPs ps), some (.int n), some (.int j), y] M = .rt (encO (xs.find? fun k => decide (k ≠ n))) M := by
    intro xs
    induction xs with
    | nil => intro y; rfl
    | cons x xs ih =>
      intro y
      by_cases h : x = n
      · subst h
        have := ih (some (.int x))
        simp [forD] at this ⊢
        exact this
      · have h' : ¬ (x : Int) = n := by omega
        simp [forD, h, h', encO]
  simp only [dfn_piece_beyond, den_piece_beyond, dFn]
  have := loop (atJ ps j) none
  simp only [dSeq_eq] at this ⊢
  rw [dFor_eq (w := none) (M' := M) (iL_lst (by simp; exact s_pieces_at ps j M hl)) trivial]
  simp
  simp at this
  rw [this]
  simp [atJ, beyond, Bool.and_comm]
end Sb
end
section
set_option Elab.async false
set_option linter.all false
set_option maxRecDepth 100000
set_option maxHeartbeats 4000000
namespace Sb
open PySem L2
theorem bel_st {n : Nat} (s : Stp) : PV.bel n (encSt s) = true := bel_tup fun x hx => by
  simp only [List.mem_cons, List.not_mem_nil, or_false] at hx
  rcases hx with rfl | rfl | rfl <;> simp
theorem bel_w {n : Nat} (w : List Stp) : PV.bel n (encW w) = true := bel_lst fun x hx => by
  obtain ⟨s, _, rfl⟩ := List.mem_map.mp hx
  exact bel_st s
theorem bel_r {n : Nat} (r : Rt) : PV.bel n (encR r) = true := bel_tup fun x hx => by
  simp only [List.mem_cons, List.not_mem_nil, or_false] at hx
  rcases hx with rfl | rfl
  · simp
  · exact bel_w _
theorem bel_map {n : Nat} {α : Type} {enc : α → PV} (h : ∀ a, PV.bel n (enc a) = true) (as : List α) : PV.bel n (.lst (as.map enc)) = true := bel_lst fun x hx => by
  obtain ⟨a, _, rfl⟩ := List.mem_map.mp hx
  exact h a
def waysF (ps : Pcs) (ss : List Sg) : Nat → List Stp → Int → Nat → List (List Stp)
  | 0, _, _, _ => []
  | n + 1, way, j, a => if a ∈ way.map (·.1) then [] else (outs (Pc.at ps a) j).flatMap fun o => match beyond ps a o with
    | none => [way ++ [(a, j, o)]]
    | some b => if (o, b) ∈ ss then [way ++ [(a, j, o)]] else waysF ps ss n (way ++ [(a, j, o)]) o b
theorem outs_len (p : Pc) (j : Int) : (outs p j).length ≤ 2 := by
  cases p with
  | pl a b => exact List.length_filter_le _ _
  | pt t s b => unfold outs; dsimp only; split <;> simp
theorem beyond_lt {ps : Pcs} {a b : Nat} {j : Int} (h : beyond ps a j = some b) : b < ps.length ∧ b ≠ a ∧ j ∈ (Pc.at ps b).js := by
  unfold beyond at h
  have h1 := List.mem_of_find?_eq_some h
  have h2 := List.find?_some h
  simp at h1 h2
  exact ⟨h1, h2.1, h2.2⟩
theorem flat_len {α β : Type} {f : α → List β} {k : Nat} : ∀ (xs : List α), (∀ x ∈ xs, (f x).length ≤ k) → (xs.flatMap f).length ≤ xs.length * k
  | [], _ => by simp
  | x :: xs, h => by
    have h1 := h x (by simp)
    have h2 := flat_len xs fun y hy => h y (by simp [hy])
    rw [List.flatMap_cons, List.length_append, List.length_cons, Nat.succ_mul]
    omega
def oneF (ps : Pcs) (ss : List Sg) (n : Nat) (way : List Stp) (j : Int) (a : Nat) (o : Int) : List (List Stp) := match beyond ps a o with
    | none => [way ++ [(a, j, o)]]
    | some b => if (o, b) ∈ ss then [way ++ [(a, j, o)]] else waysF ps ss n (way ++ [(a, j, o)]) o b
theorem waysF_succ (ps : Pcs) (ss : List Sg) (n : Nat) (way : List Stp) (j : Int) (a : Nat) : waysF ps ss (n + 1) way j a = if a ∈ way.map (·.1) then [] else (outs (Pc.at ps a) j).flatMap (oneF ps ss n way j a) := rfl
theorem waysF_len (ps : Pcs) (ss : List Sg) : ∀ (n : Nat) (way : List Stp) (j : Int) (a : Nat), (waysF ps ss n way j a).length ≤ 2 ^ n
  | 0, way, j, a => Nat.zero_le _
  | n + 1, way, j, a => by
    rw [waysF_succ]
    split
    · simp
    · have h : ∀ o ∈ outs (Pc.at ps a) j, (oneF ps ss n way j a o).length ≤ 2 ^ n := fun o _ => by
        have := Nat.one_le_two_pow (n := n)
        unfold oneF
        split
        · exact this
        · split
          · exact this
          · exact waysF_len ps ss n _ _ _
      have h1 := flat_len _ h
      have h2 := Nat.mul_le_mul_right (2 ^ n) (outs_len (Pc.at ps a) j)
      rw [Nat.pow_succ]
      omega
theorem oneF_len (ps : Pcs) (ss : List Sg) (n : Nat) (way : List Stp) (j : Int) (a : Nat) (o : Int) : (oneF ps ss n way j a o).length ≤ 2 ^ n := by
  have := Nat.one_le_two_pow (n := n)
  unfold oneF
  split
  · exact this
  · split
    · exact this
    · exact waysF_len ps ss n _ _ _
theorem pow_lim {n : Nat} (h : n ≤ 20) : 2 ^ n ≤ 1048576 := Nat.pow_le_pow_right (by decide) h
structure WayOk (ps : Pcs) (way : List Stp) (a : Nat) : Prop where
  few : ps.length ≤ 16
  lt : a < ps.length
  nd : (way.map (·.1)).Nodup
  all : ∀ s ∈ way, s.1 < ps.length
theorem WayOk.step {ps : Pcs} {way : List Stp} {a b : Nat} {j o : Int} (h : WayOk ps way a) (ha : a ∉ way.map (·.1)) (hb : beyond ps a o = some b) : WayOk ps (way ++ [(a, j, o)]) b := by
  refine ⟨h.few, (beyond_lt hb).1, ?_, fun s hs => ?_⟩
  · rw [List.map_append, List.nodup_append]
    refine ⟨h.nd, by simp, fun x hx y hy => ?_⟩
    simp at hy
    subst hy
    rintro rfl
    exact ha hx
  · rcases List.mem_append.mp hs with hs | hs
    · exact h.all s hs
    · simp at hs
      subst hs
      exact h.lt
theorem nodup_len : ∀ {n : Nat} {xs : List Nat}, xs.Nodup → (∀ x ∈ xs, x < n) → xs.length ≤ n
  | 0, xs, _, hl => by
    cases xs with
    | nil => simp
    | cons x xs => exact absurd (hl x (by simp)) (by omega)
  | n + 1, xs, h, hl => by
    have h1 : (xs.erase n).Nodup := h.erase n
    have h2 : ∀ x ∈ xs.erase n, x < n := fun x hx => by
      have h3 := hl x (List.mem_of_mem_erase hx)
      have h4 : x ≠ n := fun e => by subst e; exact (h.not_mem_erase) hx
      omega
    have h3 := nodup_len h1 h2
    have h4 := List.length_erase_le (a := n) (l := xs)
    by_cases hm : n ∈ xs
    · rw [List.length_erase_of_mem hm] at h3
      omega
    · rw [List.erase_of_not_mem hm] at h3
      omega
theorem WayOk.len {ps : Pcs} {way : List Stp} {a : Nat} (h : WayOk ps way a) : way.length ≤ ps.length := by
  have := nodup_len h.nd fun x hx => by
    obtain ⟨s, hs, rfl⟩ := List.mem_map.mp hx
    exact h.all s hs
  simpa using this
def WSpec (n : Nat) (g : D1) : Prop := ∀ ps ss way j a M, WayOk ps way a → ps.length + 1 ≤ way.length + n → n ≤ 20 → g [encPs ps, encSs ss, encW way, .int j, .int a] M = .ok (.lst ((waysF ps ss n way j a).map encW)) M
theorem in_way {way : List Stp} {a : Nat} {M : Sto} : inP false (.int a) (.lst (way.map fun s => PV.int s.1)) M = .ok (.bl (decide (a ∈ way.map (·.1)))) M := by
  have e : (way.map fun s => PV.int s.1) = (way.map fun s => ((s.1 : Nat) : Int)).map PV.int := by simp
  rw [e, inP_ints]
  have : ((a : Int) ∈ way.map fun s => ((s.1 : Nat) : Int)) ↔ a ∈ way.map (·.1) := by
    simp only [List.mem_map]
    constructor
    · rintro ⟨s, hs, h⟩; exact ⟨s, hs, by omega⟩
    · rintro ⟨s, hs, h⟩; exact ⟨s, hs, by omega⟩
  simp only [this]
  rfl
theorem firsts {ρ : Rho} {M : Sto} {way : List Stp} (i : Nat) (h : ρ[i]? = some (some (encW way))) (hl : way.length ≤ 100) : dComp false [none] (iL (dVar i)) (gN 0) dTT (dOp ixP (dVar 0) (dC (.int 0))) ρ M = .ok (.lst (way.map fun s => PV.int s.1)) M := by
  rw [dComp_pure (xs := way) (w := none) (M' := M) encSt (fun _ => true) (fun s => PV.int s.1) (fun ρ => ∃ y, ρ = [y]) (iL_lst (by rw [dVar_eq, h])) trivial ⟨none, rfl⟩ (fun x _ ρ hρ => ?_) (Nat.le_trans hl (by decide))]
  · rw [List.filter_eq_self.mpr (fun _ _ => rfl), mkL_lit (by rw [List.length_map]; exact hl)]
  · obtain ⟨y, rfl⟩ := hρ
    exact ⟨_, rfl, ⟨_, rfl⟩, rfl, fun _ => by simp [encSt]⟩
theorem w_step {n : Nat} {g : D1} (h : WSpec n g) : WSpec (n + 1) (trunc (dfn_ways_on (dfn_joints_out dfn_joints_of) (dfn_piece_beyond (dfn_pieces_at dfn_joints_of)) g)) := by
  intro ps ss way j a M ok hn hn2
  have hl := ok.len
  have hf := ok.few
  refine Leaves.trunc ?_ (bel_map bel_w _)
  refine fn_w (P := fun r => ∃ G, r = .ok _ (M ++ G)) ?_
  simp only [List.map_cons, List.map_nil, List.length_cons, List.length_nil, Nat.zero_add, Nat.reduceAdd, Nat.reduceSub, List.replicate, List.cons_append, List.nil_append]
  unfold den_ways_on
  have hin : dTst (dOp (inP false) (dVar 4) (dComp false [none] (iL (dVar 2)) (gN 0) dTT (dOp ixP (dVar 0) (dC (.int 0))))) [some (encPs ps), some (encSs ss), some (encW way), some (.int j), some (.int a), none, none, none, none] M = .ok (decide (a ∈ way.map (·.1))) M := by
    simp only [dTst_eq, dOp_eq, dVar_eq, List.getElem?_cons_succ, List.getElem?_cons_zero, bind_ok]
    rw [firsts (way := way) 2 rfl (by omega)]
    simp only [bind_ok, in_way]
  refine seq_w (if_w _ _ hin (fun ha => ?_) fun ha => ?_)
  · have ha' := of_decide_eq_true ha
    refine ret_w (.lst []) M (by simp) (seq1_rt (fin_rt ⟨[], ?_⟩))
    rw [waysF_succ, if_pos ha']
    simp
  · have ha' := of_decide_eq_false ha
    refine nx_w (seq1_nx (sset_w (.obj M.length) (M ++ [.lst []]) (by simp) ?_))
    dsimp only [List.set_cons_succ, List.set_cons_zero]
    refine seq_w (for_w PV.int (fun pre ρ M' => ∃ y6 y7 y8, ρ = [some (encPs ps), some (encSs ss), some (encW way), some (.int j), some (.int a), some (.obj M.length), y6, y7, y8] ∧ M' = M ++ [.lst ((pre.flatMap (oneF ps ss n way j a)).map encW)]) (outs (Pc.at ps a) j) none _
      (iL_lst (by simp [ix_ps ok.lt, s_joints_out])) trivial ⟨none, none, none, rfl, rfl⟩ ?_ ?_)
    · rintro pre o post hx ρ M' ⟨y6, y7, y8, rfl, rfl⟩
      have hpre : (pre.flatMap (oneF ps ss n way j a)).length ≤ 2 * 2 ^ n := by
        have h1 := flat_len pre fun o _ => oneF_len ps ss n way j a o
        have h2 : pre.length ≤ 2 := by
          have := outs_len (Pc.at ps a) j
          rw [hx] at this
          simp at this
          omega
        exact Nat.le_trans h1 (Nat.mul_le_mul_right _ h2)
      have hone := oneF_len ps ss n way j a o
      have hp2 := pow_lim (n := n) (by omega)
      refine ⟨_, rfl, ?_⟩
      dsimp only [List.set_cons_succ, List.set_cons_zero]
      refine sset_w (encW (way ++ [(a, j, o)])) (M ++ [.lst ((pre.flatMap (oneF ps ss n way j a)).map encW)]) (by simp [encSt]; rw [mkL_lit (by simp; omega)]; simp [encSt]) ?_
      dsimp only [List.set_cons_succ, List.set_cons_zero]
      refine sset_w (encO (beyond ps a o)) (M ++ [.lst ((pre.flatMap (oneF ps ss n way j a)).map encW)]) (by simp [s_piece_beyond _ _ _ _ (show ps.length ≤ 100 by omega)]) ?_
      dsimp only [List.set_cons_succ, List.set_cons_zero]
      rw [List.flatMap_append, List.flatMap_cons, List.flatMap_nil, List.append_nil]
      cases hb : beyond ps a o with
      | none =>
        refine if_t (M ++ [.lst ((pre.flatMap (oneF ps ss n way j a)).map encW)]) (by simp [encO, isP, isNon]) (drop_w .non (M ++ [.lst ((pre.flatMap (oneF ps ss n way j a) ++ [way ++ [(a, j, o)]]).map encW)]) (by simp [appendP, onL, lim, -List.length_flatMap]; omega) (body_nx trivial ⟨_, _, _, rfl, ?_⟩))
        simp [oneF, hb]
      | some b =>
        refine if_w (decide ((o, b) ∈ ss)) (M ++ [.lst ((pre.flatMap (oneF ps ss n way j a)).map encW)]) (by simp [encO, isP, isNon]) (fun hs => ?_) fun hs => ?_
        · have hs' := of_decide_eq_true hs
          refine drop_w .non (M ++ [.lst ((pre.flatMap (oneF ps ss n way j a) ++ [way ++ [(a, j, o)]]).map encW)]) (by simp [appendP, onL, lim, -List.length_flatMap]; omega) (body_nx trivial ⟨_, _, _, rfl, ?_⟩)
          simp [oneF, hb, hs']
        · have hs' := of_decide_eq_false hs
          have hg := h ps ss (way ++ [(a, j, o)]) o b (M ++ [.lst ((pre.flatMap (oneF ps ss n way j a)).map encW)]) (ok.step ha' hb) (by simp; omega) (by omega)
          simp only [oneF, hb, if_neg hs'] at hone ⊢
          refine drop_w .non (M ++ [.lst ((pre.flatMap (oneF ps ss n way j a) ++ waysF ps ss n (way ++ [(a, j, o)]) o b).map encW)]) ?_ (body_nx trivial ⟨_, _, _, rfl, rfl⟩)
          simp [encO, extendP, onL] at hg ⊢
          rw [hg]
          simp [lim, -List.length_flatMap]
          omega
    · rintro ρ' M' ⟨y6, y7, y8, rfl, rfl⟩
      refine seq1_nx (ret_w (.lst ((waysF ps ss (n + 1) way j a).map encW)) (M ++ [.gone]) ?_ (fin_rt ⟨[.gone], rfl⟩))
      rw [waysF_succ, if_neg ha']
      simp [frzP]
end Sb
end
section
set_option Elab.async false
set_option linter.all false
set_option maxRecDepth 100000
set_option maxHeartbeats 4000000
namespace Sb
open PySem L2
theorem rng0 (n : Nat) : rng 0 n = (List.range n).map fun (k : Nat) => PV.int k := by
  unfold rng
  refine List.map_congr_left fun k _ => ?_
  simp
theorem iR_eq {d : DE} {ρ : Rho} {M : Sto} {n : Nat} (h : d ρ M = .ok (.int n) M) (hn : n ≤ 100000) : iR1 [d] ρ M = .ok ((List.range n).map fun (k : Nat) => PV.int k, none) M := by
  have e : dArgs [d] ρ M = .ok [.int n] M := by rw [dArgs_cons, h]; rfl
  unfold iR1
  rw [e, bind_ok]
  dsimp only
  have h62 : (2 : Int) ^ 62 = 4611686018427387904 := by simp only [Int.reducePow]
  rw [h62, if_pos ⟨by omega, by omega⟩, Int.toNat_natCast, rng0]
theorem sl1 (p : Pc) (M : Sto) : slP false p.enc (some 1) none M = .ok (.tup (p.js.map .int)) M := by cases p <;> rfl
theorem s_l_outs (p : Pc) (j : Int) (M : Sto) : dfn_l_outs [p.enc, .int j] M = .ok (encI (outs p j)) M := by
  cases p with
  | pl a b =>
    simp only [dfn_l_outs, den_l_outs, dFn, Pc.enc]
    simp
    rw [dComp_pure (xs := [a, b]) (w := none) (M' := M) PV.int (fun o => decide (o ≠ j)) PV.int (fun ρ => ∃ y, ρ = [y, some (.int j)]) (iT_tup (sl1 (.pl a b) M)) trivial ⟨none, rfl⟩ (fun x _ ρ hρ => ?_) (Nat.le_trans (show 2 ≤ 3 by decide) (by decide))]
    · rw [mkL_lit (by simp; exact Nat.le_trans (List.length_filter_le _ _) (show 2 ≤ 100 by decide))]
      rfl
    · obtain ⟨y, rfl⟩ := hρ
      exact ⟨_, rfl, ⟨_, rfl⟩, by simp, fun _ => by simp⟩
  | pt t s b =>
    simp only [dfn_l_outs, den_l_outs, dFn, Pc.enc]
    simp
    by_cases h : j = t <;> simp [h, outs]
theorem s_l_beyond (ps : Pcs) (n : Nat) (j : Int) (M : Sto) (hl : ps.length ≤ 100) : dfn_l_beyond [encPs ps, .int n, .int j] M = .ok (encO (beyond ps n j)) M := by
  unfold dfn_l_beyond
  refine fn_w (P := fun r => r = .ok (encO (beyond ps n j)) M) ?_
  simp only [List.map_cons, List.map_nil, List.length_cons, List.length_nil, Nat.zero_add, Nat.reduceAdd, Nat.reduceSub, List.replicate, List.cons_append, List.nil_append]
  unfold den_l_beyond
  refine sset_w (encN ((List.range ps.length).filter fun k => decide (k ≠ n) && decide (j ∈ (Pc.at ps k).js))) M ?_ ?_
  · rw [dComp_pure (xs := List.range ps.length) (w := none) (M' := M) (fun (k : Nat) => PV.int k) (fun k => decide (k ≠ n) && decide (j ∈ (Pc.at ps k).js)) (fun (k : Nat) => PV.int k) (fun ρ => ∃ y, ρ = [y, some (.int n), some (.int j), some (encPs ps)])
      (iR_eq (by simp [lenP]) (by omega)) trivial ⟨none, rfl⟩ (fun x hx ρ hρ => ?_) (range_lim hl)]
    · rw [mkL_lit (by rw [List.length_map]; exact Nat.le_trans (List.length_filter_le _ _) (by rw [List.length_range]; exact hl))]
    · obtain ⟨y, rfl⟩ := hρ
      have hx' : x < ps.length := List.mem_range.mp hx
      refine ⟨_, rfl, ⟨_, rfl⟩, ?_, fun _ => by simp⟩
      by_cases e : x = n
      · simp [e]
      · have e' : ¬ (x : Int) = n := by omega
        simp [e, e', ix_ps hx', sl1]
  · dsimp only [List.set_cons_succ, List.set_cons_zero]
    refine ret_w (encO (beyond ps n j)) M ?_ (fin_rt rfl)
    have hb : beyond ps n j = ((List.range ps.length).filter fun k => decide (k ≠ n) && decide (j ∈ (Pc.at ps k).js)).head? := by
      unfold beyond
      rw [List.head?_filter]
    cases e : ((List.range ps.length).filter fun k => decide (k ≠ n) && decide (j ∈ (Pc.at ps k).js)) with
    | nil => rw [hb, e]; simp [truP, encO]
    | cons x xs =>
      rw [hb, e]
      simp [truP, encO]
      exact ix_lst (i := 0) rfl
def LSpec (n : Nat) (g : D1) : Prop := ∀ ps ss way j a M, WayOk ps way a → ps.length + 1 ≤ way.length + n → n ≤ 20 → g [encPs ps, encSs ss, encW way, .int a, .int j] M = .ok (.lst ((waysF ps ss n way j a).map encW)) M
def OutSpec (g : D1) : Prop := ∀ (p : Pc) (j : Int) (M : Sto), g [Pc.enc p, .int j] M = .ok (encI (outs p j)) M
def BeySpec (g : D1) : Prop := ∀ (ps : Pcs) (n : Nat) (j : Int) (M : Sto), ps.length ≤ 100 → g [encPs ps, .int n, .int j] M = .ok (encO (beyond ps n j)) M
theorem l_step {n : Nat} {go gb g : D1} (ho : OutSpec go) (hbe : BeySpec gb) (h : LSpec n g) : LSpec (n + 1) (trunc (dfn_l_ways go gb g)) := by
  intro ps ss way j a M ok hn hn2
  have hl := ok.len
  have hf := ok.few
  refine Leaves.trunc ?_ (bel_map bel_w _)
  unfold dfn_l_ways
  refine fn_w (P := fun r => ∃ G, r = .ok _ (M ++ G)) ?_
  simp only [List.map_cons, List.map_nil, List.length_cons, List.length_nil, Nat.zero_add, Nat.reduceAdd, Nat.reduceSub, List.replicate, List.cons_append, List.nil_append]
  unfold den_l_ways
  refine sset_w (.obj M.length) (M ++ [.lst []]) (by simp) ?_
  dsimp only [List.set_cons_succ, List.set_cons_zero]
  have hin : dTst (dOp (inP false) (dVar 3) (dComp false [none] (iL (dVar 2)) (gN 0) dTT (dOp ixP (dVar 0) (dC (.int 0))))) [some (encPs ps), some (encSs ss), some (encW way), some (.int a), some (.int j), some (.obj M.length), none, none, none] (M ++ [.lst []]) = .ok (decide (a ∈ way.map (·.1))) (M ++ [.lst []]) := by
    simp only [dTst_eq, dOp_eq, dVar_eq, List.getElem?_cons_succ, List.getElem?_cons_zero, bind_ok]
    rw [firsts (way := way) 2 rfl (by omega)]
    simp only [bind_ok, in_way]
  refine seq_w (if_w _ _ hin (fun ha => ?_) fun ha => ?_)
  · have ha' := of_decide_eq_true ha
    refine ret_w (.lst []) (M ++ [.gone]) (by simp [frzP]) (seq1_rt (fin_rt ⟨[.gone], ?_⟩))
    rw [waysF_succ, if_pos ha']
    simp
  · have ha' := of_decide_eq_false ha
    refine nx_w (seq1_nx (seq_w (for_w PV.int (fun pre ρ M' => ∃ y6 y7 y8 G, ρ = [some (encPs ps), some (encSs ss), some (encW way), some (.int a), some (.int j), some (.obj (M ++ G).length), y6, y7, y8] ∧ M' = (M ++ G) ++ [.lst ((pre.flatMap (oneF ps ss n way j a)).map encW)]) (outs (Pc.at ps a) j) none (M ++ [.lst []])
      (iL_lst (by simp [ix_ps ok.lt, ho (Pc.at ps a) j])) trivial ⟨none, none, none, [], by simp, by simp⟩ ?_ ?_)))
    · rintro pre o post hx ρ M' ⟨y6, y7, y8, G, rfl, rfl⟩
      have hpre : (pre.flatMap (oneF ps ss n way j a)).length ≤ 2 * 2 ^ n := by
        have h1 := flat_len pre fun o _ => oneF_len ps ss n way j a o
        have h2 : pre.length ≤ 2 := by
          have := outs_len (Pc.at ps a) j
          rw [hx] at this
          simp at this
          omega
        exact Nat.le_trans h1 (Nat.mul_le_mul_right _ h2)
      have hone := oneF_len ps ss n way j a o
      have hp2 := pow_lim (n := n) (by omega)
      refine ⟨_, rfl, ?_⟩
      generalize hM1 : M ++ G = M1
      dsimp only [List.set_cons_succ, List.set_cons_zero]
      refine sset_w (encW (way ++ [(a, j, o)])) (M1 ++ [.lst ((pre.flatMap (oneF ps ss n way j a)).map encW)]) (by simp [encSt]; rw [mkL_lit (by simp; omega)]; simp [encSt]) ?_
      dsimp only [List.set_cons_succ, List.set_cons_zero]
      refine sset_w (encO (beyond ps a o)) (M1 ++ [.lst ((pre.flatMap (oneF ps ss n way j a)).map encW)]) (by simp [hbe ps a o _ (by omega)]) ?_
      dsimp only [List.set_cons_succ, List.set_cons_zero]
      rw [List.flatMap_append, List.flatMap_cons, List.flatMap_nil, List.append_nil]
      cases hb : beyond ps a o with
      | none =>
        refine if_t (M1 ++ [.lst ((pre.flatMap (oneF ps ss n way j a)).map encW)]) (by simp [encO, isP, isNon]) (drop_w .non (M1 ++ [.lst ((pre.flatMap (oneF ps ss n way j a) ++ [way ++ [(a, j, o)]]).map encW)]) (by simp [appendP, onL, lim, -List.length_flatMap]; omega) (body_nx trivial ⟨_, _, _, G, by rw [hM1], ?_⟩))
        simp [oneF, hb, hM1]
      | some b =>
        refine if_w (decide ((o, b) ∈ ss)) (M1 ++ [.lst ((pre.flatMap (oneF ps ss n way j a)).map encW)]) (by simp [encO, isP, isNon]) (fun hs => ?_) fun hs => ?_
        · have hs' := of_decide_eq_true hs
          refine drop_w .non (M1 ++ [.lst ((pre.flatMap (oneF ps ss n way j a) ++ [way ++ [(a, j, o)]]).map encW)]) (by simp [appendP, onL, lim, -List.length_flatMap]; omega) (body_nx trivial ⟨_, _, _, G, by rw [hM1], ?_⟩)
          simp [oneF, hb, hs', hM1]
        · have hs' := of_decide_eq_false hs
          have hg := h ps ss (way ++ [(a, j, o)]) o b (M1 ++ [.lst ((pre.flatMap (oneF ps ss n way j a)).map encW)]) (ok.step ha' hb) (by simp; omega) (by omega)
          simp only [oneF, hb, if_neg hs'] at hone ⊢
          refine set_w (.obj (M1.length + 1)) ((M1 ++ [.lst ((pre.flatMap (oneF ps ss n way j a)).map encW)]) ++ [.lst ((pre.flatMap (oneF ps ss n way j a) ++ waysF ps ss n (way ++ [(a, j, o)]) o b).map encW)]) ?_ (body_nx trivial ⟨some (.int o), some (encW (way ++ [(a, j, o)])), some (encO (some b)), G ++ [.lst ((pre.flatMap (oneF ps ss n way j a)).map encW)], ?_, ?_⟩)
          · simp [encO] at hg ⊢
            rw [hg]
            simp [addP]
            rw [mkL_live (by simp [lim, -List.length_flatMap]; omega)]
            simp
          · rw [← List.append_assoc, hM1]
            simp
          · rw [← List.append_assoc, hM1]
    · rintro ρ' M' ⟨y6, y7, y8, G, rfl, rfl⟩
      refine seq1_nx (ret_w (.lst ((waysF ps ss (n + 1) way j a).map encW)) (M ++ G ++ [.gone]) ?_ (fin_rt ⟨G ++ [.gone], by rw [List.append_assoc]⟩))
      rw [waysF_succ, if_neg ha']
      generalize M ++ G = M1
      simp [frzP]
end Sb
end
section
set_option Elab.async false
set_option linter.all false
set_option maxRecDepth 100000
set_option maxHeartbeats 4000000
namespace L2
open PySem
theorem countP_any {α : Type} [BEq α] [LawfulBEq α] {enc : α → PV} (hp : ∀ a, Pl deep (enc a)) (inj : ∀ a b, enc a = enc b → a = b) {a : α} {as : List α} {M : Sto} : countP (.lst (as.map enc)) [enc a] M = .ok (.int (as.count a)) M := by
  unfold countP
  dsimp only
  rw [flat_pl deep _ (hp a), seqL_lst]
  dsimp only
  rw [mapO_map (g := flatP deep) fun z hz => by
    obtain ⟨b, _, rfl⟩ := List.mem_map.mp hz
    exact flat_pl deep _ (hp b)]
  dsimp only
  have : ((as.map enc).map (flatP deep)).countP (fun q => PyData.eqv q (flatP deep (enc a))) = as.count a := by
    rw [List.countP_map, List.countP_map]
    unfold List.count
    refine List.countP_congr fun b _ => ?_
    simp only [Function.comp]
    rw [eqv_pl deep _ _ (hp b) (hp a)]
    simp only [beq_iff_eq]
    exact ⟨fun e => inj _ _ e, fun e => by rw [e]⟩
  rw [this]
theorem gT2 {i j : Nat} {x y : PV} {ρ : Rho} : gT 2 (gsCons (gN i) (gsCons (gN j) gsNil)) (.tup [x, y]) ρ = some ((ρ.set i (some x)).set j (some y)) := rfl
end L2
namespace Sb
open PySem L2
structure GoodY (ps : Pcs) (ss : List Sg) : Prop where
  some1 : 1 ≤ ps.length
  few : ps.length ≤ 16
  rng : ∀ p ∈ ps, ∀ j ∈ p.js, 0 ≤ j ∧ j ≤ 999
  once : ∀ p ∈ ps, p.js.Nodup
  two : ∀ j, (atJ ps j).length ≤ 2
  fews : ss.length ≤ 16
  nd : ss.Nodup
  sg : ∀ s ∈ ss, s.2 < ps.length ∧ s.1 ∈ (Pc.at ps s.2).js
def PatSpec (g : D1) : Prop := ∀ (ps : Pcs) (j : Int) (M : Sto), ps.length ≤ 100 → g [encPs ps, .int j] M = .ok (encN (atJ ps j)) M
def JofSpec (g : D1) : Prop := ∀ (p : Pc) (M : Sto), g [p.enc] M = .ok (encI p.js) M
def OkSpec (g : D1) (xs : List PV) : Prop := ∀ M, g xs M = .ok .non M
theorem s_check_joints {c : Addr} {gp : D1} (hp : PatSpec gp) {ps : Pcs} (hl : ps.length ≤ 100) (h2 : ∀ j, (atJ ps j).length ≤ 2) {js : List Int} (hr : ∀ j ∈ js, 0 ≤ j ∧ j ≤ 999) (hn : js.Nodup) : OkSpec (dfn_check_joints c gp) [encPs ps, encI js] := by
  intro M
  unfold dfn_check_joints
  refine fn_w (P := fun r => r = .ok .non M) ?_
  simp only [List.map_cons, List.map_nil, List.length_cons, List.length_nil, Nat.zero_add, Nat.reduceAdd, Nat.reduceSub, List.replicate, List.cons_append, List.nil_append]
  unfold den_check_joints
  refine for_w PV.int (fun pre ρ M' => ∃ y2, ρ = [some (encPs ps), some (encI js), y2] ∧ M' = M) js none M (iL_lst rfl) trivial ⟨none, rfl, rfl⟩ ?_ ?_
  · rintro pre j post hx ρ M' ⟨y2, rfl, rfl⟩
    have hj : j ∈ js := by rw [hx]; simp
    obtain ⟨r1, r2⟩ := hr j hj
    have hc : js.count j ≤ 1 := List.nodup_iff_count.mp hn j
    refine ⟨_, rfl, ?_⟩
    dsimp only [List.set_cons_succ, List.set_cons_zero]
    refine seq_w (if_f M' ?_ (nx_w (seq1_nx (seq_w (if_f M' ?_ (nx_w (seq1_nx (if_f M' ?_ (nx_w (body_nx trivial ⟨_, rfl, rfl⟩))))))))))
    · simp [ltP, gtP]
      rw [if_neg (by omega)]
      simp [r2]
    · simp [gtP, countP_any (enc := PV.int) (fun a => pl_int a) (fun a b e => by cases e; rfl)]
      omega
    · simp [hp ps j _ hl, lenP, gtP]
      have := h2 j
      omega
  · rintro ρ' M' ⟨y2, rfl, rfl⟩
    exact fin_nx rfl
theorem s_check_pieces {c : Addr} {gc gj : D1} {ps : Pcs} {ss : List Sg} (hg : GoodY ps ss) (hc : ∀ p ∈ ps, OkSpec gc [encPs ps, encI p.js]) (hj : JofSpec gj) : OkSpec (dfn_check_pieces c gc gj) [encPs ps] := by
  intro M
  unfold dfn_check_pieces
  refine fn_w (P := fun r => r = .ok .non M) ?_
  simp only [List.map_cons, List.map_nil, List.length_cons, List.length_nil, Nat.zero_add, Nat.reduceAdd, Nat.reduceSub, List.replicate, List.cons_append, List.nil_append]
  unfold den_check_pieces
  have h1 := hg.some1
  have h2 := hg.few
  refine seq_w (if_f M ?_ (nx_w (seq1_nx (seq_w (if_f M ?_ (nx_w (seq1_nx ?_)))))))
  · simp [lenP]
    intro h
    rw [h] at h1
    simp at h1
  · simp [lenP, gtP]
    omega
  refine for_w Pc.enc (fun pre ρ M' => ∃ y2, ρ = [some (encPs ps), y2] ∧ M' = M) ps none M (iL_lst rfl) trivial ⟨none, rfl, rfl⟩ ?_ ?_
  · rintro pre p post hx ρ M' ⟨y2, rfl, rfl⟩
    refine ⟨_, rfl, ?_⟩
    dsimp only [List.set_cons_succ, List.set_cons_zero]
    refine drop_w .non M' ?_ (body_nx trivial ⟨_, rfl, rfl⟩)
    simp [hj p, hc p (by rw [hx]; simp) M']
  · rintro ρ' M' ⟨y2, rfl, rfl⟩
    exact fin_nx rfl
theorem s_check_signals {c : Addr} {gj : D1} {ps : Pcs} {ss : List Sg} (hg : GoodY ps ss) (hj : JofSpec gj) : OkSpec (dfn_check_signals c gj) [encPs ps, encSs ss] := by
  intro M
  unfold dfn_check_signals
  refine fn_w (P := fun r => r = .ok .non M) ?_
  simp only [List.map_cons, List.map_nil, List.length_cons, List.length_nil, Nat.zero_add, Nat.reduceAdd, Nat.reduceSub, List.replicate, List.cons_append, List.nil_append]
  unfold den_check_signals
  have h1 := hg.fews
  refine seq_w (if_f M ?_ (nx_w (seq1_nx ?_)))
  · simp [lenP, gtP]
    omega
  refine for_w encSg (fun pre ρ M' => ∃ y2 y3, ρ = [some (encPs ps), some (encSs ss), y2, y3] ∧ M' = M) ss none M (iL_lst rfl) trivial ⟨none, none, rfl, rfl⟩ ?_ ?_
  · rintro pre s post hx ρ M' ⟨y2, y3, rfl, rfl⟩
    have hs : s ∈ ss := by rw [hx]; simp
    obtain ⟨r1, r2⟩ := hg.sg s hs
    have hc : ss.count s ≤ 1 := List.nodup_iff_count.mp hg.nd s
    have hcc := countP_any (enc := encSg) pl_sg sg_inj (a := s) (as := ss) (M := M')
    obtain ⟨j, n⟩ := s
    refine ⟨_, rfl, ?_⟩
    dsimp only [List.set_cons_succ, List.set_cons_zero]
    refine seq_w (if_f M' ?_ (nx_w (seq1_nx (seq_w (if_f M' ?_ (nx_w (seq1_nx (if_f M' ?_ (nx_w (body_nx trivial ⟨_, _, rfl, rfl⟩))))))))))
    · simp [encSg] at hcc ⊢
      rw [hcc]
      simp [gtP]
      omega
    · dsimp only at r1
      simp [ltP, geP, lenP]
      rw [if_neg (by omega)]
      simp
      omega
    · simp [ix_ps r1, hj (Pc.at ps n)]
      exact r2
  · rintro ρ' M' ⟨y2, y3, rfl, rfl⟩
    exact fin_nx rfl
theorem s_check_yard {gp gs : D1} {x y : PV} (hp : OkSpec gp [x]) (hs : OkSpec gs [x, y]) : OkSpec (dfn_check_yard gp gs) [x, y] := by
  intro M
  unfold dfn_check_yard
  refine fn_w (P := fun r => r = .ok .non M) ?_
  unfold den_check_yard
  exact seq_w (drop_w .non M (by simp [hp M]) (seq1_nx (drop_w .non M (by simp [hs M]) (fin_nx rfl))))
end Sb
end
section
set_option Elab.async false
set_option linter.all false
set_option maxRecDepth 100000
set_option maxHeartbeats 4000000
namespace Sb
open PySem L2
def sgAt (ss : List Sg) (k : Nat) : Sg := ss.getD k (0, 0)
theorem sg_some {ss : List Sg} {n : Nat} (h : n < ss.length) : ss[n]? = some (sgAt ss n) := by
  unfold sgAt
  rw [List.getD_eq_getElem?_getD, List.getElem?_eq_getElem h]
  rfl
theorem sg_mem {ss : List Sg} {n : Nat} (h : n < ss.length) : sgAt ss n ∈ ss := List.mem_of_getElem? (sg_some h)
theorem ix_ss {ss : List Sg} {n : Nat} {M : Sto} (h : n < ss.length) : ixP (encSs ss) (.int n) M = .ok (encSg (sgAt ss n)) M := ix_lst (by rw [List.getElem?_map, sg_some h]; rfl)
def fuel : Nat := 17
def fromF (ps : Pcs) (ss : List Sg) (k : Nat) : List Rt := (waysF ps ss fuel [] (sgAt ss k).1 (sgAt ss k).2).map fun w => (k, w)
def routesF (ps : Pcs) (ss : List Sg) : List Rt := (List.range ss.length).flatMap (fromF ps ss)
theorem enum_sg (ss : List Sg) : enumP (ss.map encSg) = (List.range ss.length).map fun k => .tup [.int k, encSg (sgAt ss k)] := by
  refine List.ext_getElem? fun i => ?_
  unfold enumP
  rw [List.getElem?_map, List.getElem?_zipIdx, List.getElem?_map, List.getElem?_map]
  by_cases h : i < ss.length
  · rw [sg_some h, List.getElem?_range h]
    simp
  · rw [List.getElem?_eq_none (by omega), List.getElem?_eq_none (by simp; omega)]
    rfl
theorem fromF_len (ps : Pcs) (ss : List Sg) (k : Nat) : (fromF ps ss k).length ≤ 131072 := by
  unfold fromF
  rw [List.length_map]
  exact waysF_len ps ss fuel _ _ _
theorem way0 {ps : Pcs} {ss : List Sg} (hg : GoodY ps ss) {k : Nat} (hk : k < ss.length) : WayOk ps [] (sgAt ss k).2 := ⟨hg.few, (hg.sg _ (sg_mem hk)).1, by simp, by simp⟩
def RoutesSpec (g : D1) : Prop := ∀ ps ss M, GoodY ps ss → g [encPs ps, encSs ss] M = .ok (encRs (routesF ps ss)) M
theorem bel_rs {n : Nat} (rs : List Rt) : PV.bel n (encRs rs) = true := bel_map bel_r rs
theorem range_pre {n : Nat} {pre post : List Nat} {k : Nat} (h : List.range n = pre ++ k :: post) : k < n ∧ pre.length < n := by
  have h1 : k ∈ List.range n := by rw [h]; simp
  have h2 := congrArg List.length h
  simp at h1 h2
  omega
theorem s_routes {gc gw : D1} (hc : ∀ ps ss, GoodY ps ss → OkSpec gc [encPs ps, encSs ss]) (hw : WSpec fuel gw) : RoutesSpec (trunc (dfn_routes gc gw)) := by
  intro ps ss M hg
  refine Leaves.trunc ?_ (bel_rs _)
  unfold dfn_routes
  refine fn_w (P := fun r => ∃ G, r = .ok (encRs (routesF ps ss)) (M ++ G)) ?_
  simp only [List.map_cons, List.map_nil, List.length_cons, List.length_nil, Nat.zero_add, Nat.reduceAdd, Nat.reduceSub, List.replicate, List.cons_append, List.nil_append]
  unfold den_routes
  have hfs := hg.fews
  refine seq_w (drop_w .non M (by simp [hc ps ss hg M]) (seq1_nx (sset_w (.obj M.length) (M ++ [.lst []]) (by simp) ?_)))
  dsimp only [List.set_cons_succ, List.set_cons_zero]
  refine seq_w (for_w (fun (k : Nat) => PV.tup [.int k, encSg (sgAt ss k)]) (fun pre ρ M' => ∃ y3 y4 y5, ρ = [some (encPs ps), some (encSs ss), some (.obj M.length), y3, y4, y5] ∧ M' = M ++ [.lst ((pre.flatMap (fromF ps ss)).map encR)]) (List.range ss.length) none (M ++ [.lst []])
    (by unfold iE; simp [enum_sg]) trivial ⟨none, none, none, rfl, rfl⟩ ?_ ?_)
  · rintro pre k post hx ρ M' ⟨y3, y4, y5, rfl, rfl⟩
    obtain ⟨hk, hpl⟩ := range_pre hx
    have hpre : (pre.flatMap (fromF ps ss)).length ≤ 2097152 := by
      have h1 := flat_len pre fun k _ => fromF_len ps ss k
      omega
    refine ⟨_, gT2, ?_⟩
    dsimp only [List.set_cons_succ, List.set_cons_zero]
    have hww := hw ps ss [] (sgAt ss k).1 (sgAt ss k).2 (M ++ [.lst ((pre.flatMap (fromF ps ss)).map encR)]) (way0 hg hk) (by simp; have := hg.few; unfold fuel; omega) (by decide)
    refine for_w encW (fun pre2 ρ M' => ∃ y5, ρ = [some (encPs ps), some (encSs ss), some (.obj M.length), some (.int k), some (encSg (sgAt ss k)), y5] ∧ M' = M ++ [.lst ((pre.flatMap (fromF ps ss) ++ pre2.map fun w => (k, w)).map encR)])
      (waysF ps ss fuel [] (sgAt ss k).1 (sgAt ss k).2) none (M ++ [.lst ((pre.flatMap (fromF ps ss)).map encR)]) (iL_lst (by simp [encSg] at hww ⊢; exact hww)) trivial ⟨_, rfl, by simp⟩ ?_ ?_
    · rintro pre2 w post2 hx2 ρ M' ⟨y5, rfl, rfl⟩
      have hp2 : pre2.length ≤ 131072 := by
        have h1 := waysF_len ps ss fuel [] (sgAt ss k).1 (sgAt ss k).2
        rw [hx2] at h1
        simp [fuel] at h1
        omega
      refine ⟨_, rfl, ?_⟩
      dsimp only [List.set_cons_succ, List.set_cons_zero]
      refine drop_w .non (M ++ [.lst ((pre.flatMap (fromF ps ss) ++ (pre2 ++ [w]).map fun w => (k, w)).map encR)]) ?_ (body_nx trivial ⟨_, rfl, rfl⟩)
      simp [appendP, onL, encR, lim, -List.length_flatMap]
      omega
    · rintro ρ' M' ⟨y5, rfl, rfl⟩
      refine body_nx trivial ⟨_, _, _, rfl, ?_⟩
      rw [List.flatMap_append, List.flatMap_cons, List.flatMap_nil, List.append_nil]
      rfl
  · rintro ρ' M' ⟨y3, y4, y5, rfl, rfl⟩
    exact seq1_nx (ret_w (encRs (routesF ps ss)) (M ++ [.gone]) (by simp [frzP, routesF]) (fin_rt ⟨[.gone], rfl⟩))
theorem s_l_routes {gw : D1} (hw : LSpec fuel gw) : RoutesSpec (dfn_l_routes gw) := by
  intro ps ss M hg
  unfold dfn_l_routes
  refine fn_w (P := fun r => r = .ok (encRs (routesF ps ss)) M) ?_
  simp only [List.map_cons, List.map_nil, List.length_cons, List.length_nil, Nat.zero_add, Nat.reduceAdd, Nat.reduceSub, List.replicate, List.cons_append, List.nil_append]
  unfold den_l_routes
  have hfs := hg.fews
  refine sset_w (.lst []) M (by simp) ?_
  dsimp only [List.set_cons_succ, List.set_cons_zero]
  have hi : iR1 [(dCall lenP [(dVar 1)])] [some (encPs ps), some (encSs ss), some (.lst []), none] M = .ok ((List.range ss.length).map fun (k : Nat) => PV.int k, none) M := iR_eq (by simp [lenP]) (by omega)
  generalize iR1 [(dCall lenP [(dVar 1)])] = di at hi ⊢
  refine seq_w (for_w (fun (k : Nat) => PV.int k) (fun pre ρ M' => ∃ y3, ρ = [some (encPs ps), some (encSs ss), some (encRs (pre.flatMap (fromF ps ss))), y3] ∧ M' = M) (List.range ss.length) none M
    hi trivial ⟨none, rfl, rfl⟩ ?_ ?_)
  · rintro pre k post hx ρ M' ⟨y3, rfl, rfl⟩
    obtain ⟨hk, hpl⟩ := range_pre hx
    have hpre : (pre.flatMap (fromF ps ss)).length ≤ 2097152 := by
      have h1 := flat_len pre fun k _ => fromF_len ps ss k
      omega
    have hone := fromF_len ps ss k
    refine ⟨_, rfl, ?_⟩
    dsimp only [List.set_cons_succ, List.set_cons_zero]
    have hww := hw ps ss [] (sgAt ss k).1 (sgAt ss k).2 M' (way0 hg hk) (by simp; have := hg.few; unfold fuel; omega) (by decide)
    refine set_w (encRs ((pre ++ [k]).flatMap (fromF ps ss))) M' ?_ (body_nx trivial ⟨_, rfl, rfl⟩)
    rw [dOp_eq]
    simp only [dVar_eq, List.getElem?_cons_succ, List.getElem?_cons_zero, bind_ok]
    rw [dComp_pure (xs := waysF ps ss fuel [] (sgAt ss k).1 (sgAt ss k).2) (w := none) (M' := M') encW (fun _ => true) (fun w => encR (k, w)) (fun ρ => ∃ y, ρ = [y, some (.int k)]) (iL_lst (by simp [ix_ss hk, encSg] at hww ⊢; exact hww)) trivial ⟨none, rfl⟩ (fun x hx ρ hρ => ?_)
      (Nat.le_trans (waysF_len ps ss fuel _ _ _) (by decide))]
    · rw [List.filter_eq_self.mpr (fun _ _ => rfl), mkL_tree (by rw [List.length_map]; exact Nat.le_trans (waysF_len ps ss fuel _ _ _) (by decide)), bind_ok, addP_lst, mkL_tree (by simp [fromF, lim, -List.length_flatMap] at hone ⊢; omega)]
      simp [fromF]
    · obtain ⟨y, rfl⟩ := hρ
      exact ⟨_, rfl, ⟨_, rfl⟩, rfl, fun _ => by simp [encR]⟩
  · rintro ρ' M' ⟨y3, rfl, rfl⟩
    exact seq1_nx (ret_w (encRs (routesF ps ss)) M' (by simp [routesF]) (fin_rt rfl))
end Sb
end
section
set_option Elab.async false
set_option linter.all false
set_option maxRecDepth 100000
set_option maxHeartbeats 4000000
namespace L2
open PySem
theorem get_mid {M G : Sto} {o : MO} : (M ++ o :: G)[M.length]? = some o := by simp
theorem set_mid {M G : Sto} {o o' : MO} : (M ++ o :: G).set M.length o' = M ++ o' :: G := by simp
end L2
namespace Sb
open PySem L2
def cellI (ns : List Int) (k : Int) : Int := ns.getD (k % ns.length).toNat 0
def mixI (ns : List Int) (k : Int) : Int :=
  ((cellI ns k + 104729 * (k + 1)) % 4294967291 * 48271 % 4294967279 / 64 * 69621 + (cellI ns k + 104729 * (k + 1)) % 4294967291 * 48271 % 4294967279) % 4294967231
def CellSpec (g : D1) : Prop := ∀ ns k M, g [.scr ns, .int k] M = .ok (.int (cellI ns k)) M
def MixSpec (g : D1) : Prop := ∀ ns k M, g [.scr ns, .int k] M = .ok (.int (mixI ns k)) M
theorem s_l_cell : CellSpec dfn_l_cell := by
  intro ns k M
  unfold dfn_l_cell
  refine fn_w (P := fun r => r = .ok (.int (cellI ns k)) M) ?_
  unfold den_l_cell
  by_cases h : ns = []
  · subst h
    refine seq_w (if_f M (by simp [truP]) (nx_w (seq1_nx (ret_w (.int 0) M rfl (fin_rt ?_)))))
    simp [cellI]
  · have hl : 0 < ns.length := List.length_pos_iff.mpr h
    refine seq_w (if_t M (by simp [truP, h]) (ret_w (.int (cellI ns k)) M ?_ (seq1_rt (fin_rt rfl))))
    have h1 := Int.emod_nonneg k (b := ns.length) (by omega)
    have h2 := Int.emod_lt_of_pos k (b := ns.length) (by omega)
    simp [lenP, modP, intP, hl, ixP, atI, ixN]
    rw [if_pos h1, if_pos h2]
    have h3 : (k % (ns.length : Int)).toNat < ns.length := by omega
    simp [h3, cellI]
theorem s_l_mix {g : D1} (h : CellSpec g) : MixSpec (dfn_l_mix g) := by
  intro ns k M
  unfold dfn_l_mix
  refine fn_w (P := fun r => r = .ok (.int (mixI ns k)) M) ?_
  unfold den_l_mix
  refine sset_w (.int ((cellI ns k + 104729 * (k + 1)) % 4294967291)) M ?_ ?_
  · simp [h ns k M, modP, intP, mulP, small]
  refine sset_w (.int ((cellI ns k + 104729 * (k + 1)) % 4294967291 * 48271 % 4294967279)) M ?_ ?_
  · simp [modP, intP, mulP, small]
  refine ret_w (.int (mixI ns k)) M ?_ (fin_rt rfl)
  simp [modP, fdivP, intP, mulP, small, mixI]
theorem mix_nonneg (ns : List Int) (k : Int) : 0 ≤ mixI ns k := Int.emod_nonneg _ (by decide)
end Sb
end
section
set_option Elab.async false
set_option linter.all false
set_option maxRecDepth 100000
set_option maxHeartbeats 4000000
namespace Sb
open PySem L2
def cnt (ps : Pcs) (j : Int) : Nat := (ps.filter fun p => decide (j ∈ p.js)).length
theorem at_append {ps qs : Pcs} {k : Nat} (h : k < ps.length) : Pc.at (ps ++ qs) k = Pc.at ps k := by
  unfold Pc.at
  rw [List.getD_eq_getElem?_getD, List.getD_eq_getElem?_getD, List.getElem?_append_left h]
theorem at_last {ps : Pcs} {p : Pc} : Pc.at (ps ++ [p]) ps.length = p := by
  unfold Pc.at
  rw [List.getD_eq_getElem?_getD]
  simp
theorem atJ_len (ps : Pcs) (j : Int) : (atJ ps j).length = cnt ps j := by
  unfold atJ cnt
  have : ps = (List.range ps.length).map (Pc.at ps) := by
    refine List.ext_getElem? fun i => ?_
    rw [List.getElem?_map]
    by_cases h : i < ps.length
    · rw [at_some h, List.getElem?_range h]; rfl
    · rw [List.getElem?_eq_none (by omega), List.getElem?_eq_none (by simp; omega)]; rfl
  conv => rhs; rw [this]
  rw [List.filter_map, List.length_map]
  rfl
theorem cnt_push (ps : Pcs) (p : Pc) (j : Int) : cnt (ps ++ [p]) j = cnt ps j + if j ∈ p.js then 1 else 0 := by
  unfold cnt
  rw [List.filter_append, List.length_append]
  congr 1
  by_cases h : j ∈ p.js <;> simp [h]
def fresh (c : Int) (i : Nat) : Int := (c + 37 * i) % 1000
theorem fresh_rng (c : Int) (i : Nat) : 0 ≤ fresh c i ∧ fresh c i ≤ 999 := by
  unfold fresh
  omega
theorem fresh_inj (c : Int) {i k : Nat} (hi : i < 27) (hk : k < 27) (h : fresh c i = fresh c k) : i = k := by
  unfold fresh at h
  omega
structure InvP (c : Int) (ps : Pcs) (loose : List Int) (many : Nat) : Prop where
  few : many ≤ 3 * ps.length
  old : ∀ p ∈ ps, ∀ j ∈ p.js, ∃ i, i < many ∧ j = fresh c i
  once : ∀ p ∈ ps, p.js.Nodup
  two : ∀ j, cnt ps j ≤ 2
  lo : ∀ j ∈ loose, cnt ps j ≤ 1 ∧ ∃ i, i < many ∧ j = fresh c i
structure InvE (c : Int) (loose : List Int) (m0 many : Nat) (ends : List Int) : Prop where
  nd : ends.Nodup
  le : m0 ≤ many
  src : ∀ j ∈ ends, j ∈ loose ∨ ∃ i, m0 ≤ i ∧ i < many ∧ j = fresh c i
def mkPc : List Int → Pc
  | [j, k] => .pl j k
  | [t, s, b] => .pt t s b
  | _ => .pl 0 0
theorem mkPc_js {ends : List Int} (h : ends.length = 2 ∨ ends.length = 3) : (mkPc ends).js = ends := by
  rcases ends with _ | ⟨a, _ | ⟨b, _ | ⟨d, _ | ⟨e, r⟩⟩⟩⟩
  · simp at h
  · simp at h
  · rfl
  · rfl
  · simp at h
theorem cnt_zero {ps : Pcs} {j : Int} (h : ∀ p ∈ ps, j ∉ p.js) : cnt ps j = 0 := by
  unfold cnt
  rw [List.length_eq_zero_iff, List.filter_eq_nil_iff]
  intro p hp
  simp [h p hp]
theorem inv_step {c : Int} {ps : Pcs} {loose ends : List Int} {m0 many : Nat} (I : InvP c ps loose m0) (E : InvE c loose m0 many ends) (hm : many ≤ 3 * (ps.length + 1)) (h24 : many ≤ 24) (h : ends.length = 2 ∨ ends.length = 3) :
    InvP c (ps ++ [mkPc ends]) (ends.filter (fun j => decide (j ∉ loose)) ++ loose.filter (fun j => decide (j ∉ ends))) many := by
  have hj := mkPc_js h
  have frz : ∀ i, m0 ≤ i → i < many → cnt ps (fresh c i) = 0 := fun i h1 h2 => cnt_zero fun p hp hm => by
    obtain ⟨i', h3, h4⟩ := I.old p hp _ hm
    have := fresh_inj c (by omega) (by omega) h4
    omega
  refine ⟨by rw [List.length_append]; exact hm, fun p hp j hm => ?_, fun p hp => ?_, fun j => ?_, fun j hm => ?_⟩
  · rcases List.mem_append.mp hp with hp | hp
    · obtain ⟨i, h1, h2⟩ := I.old p hp j hm
      exact ⟨i, Nat.lt_of_lt_of_le h1 E.le, h2⟩
    · simp only [List.mem_cons, List.not_mem_nil, or_false] at hp
      subst hp
      rw [hj] at hm
      rcases E.src j hm with h1 | ⟨i, _, h1, h2⟩
      · obtain ⟨_, i, h2, h3⟩ := I.lo j h1
        exact ⟨i, Nat.lt_of_lt_of_le h2 E.le, h3⟩
      · exact ⟨i, h1, h2⟩
  · rcases List.mem_append.mp hp with hp | hp
    · exact I.once p hp
    · simp only [List.mem_cons, List.not_mem_nil, or_false] at hp
      subst hp
      rw [hj]
      exact E.nd
  · rw [cnt_push, hj]
    have := I.two j
    split
    · rename_i hm
      rcases E.src j hm with h1 | ⟨i, h0, h1, rfl⟩
      · have := (I.lo j h1).1
        omega
      · rw [frz i h0 h1]
        omega
    · omega
  · rw [cnt_push, hj]
    rcases List.mem_append.mp hm with hm | hm
    · obtain ⟨h1, h2⟩ := List.mem_filter.mp hm
      have h2 := of_decide_eq_true h2
      rcases E.src j h1 with h3 | ⟨i, h0, h3, rfl⟩
      · exact absurd h3 h2
      · rw [frz i h0 h3, if_pos h1]
        exact ⟨by omega, i, h3, rfl⟩
    · obtain ⟨h1, h2⟩ := List.mem_filter.mp hm
      have h2 := of_decide_eq_true h2
      rw [if_neg h2]
      obtain ⟨h3, i, h4, h5⟩ := I.lo j h1
      exact ⟨h3, i, Nat.lt_of_lt_of_le h4 E.le, h5⟩
theorem invE_old {c : Int} {loose ends : List Int} {m0 many : Nat} (E : InvE c loose m0 many ends) {j : Int} (h1 : j ∈ loose) (h2 : j ∉ ends) : InvE c loose m0 many (ends ++ [j]) := by
  refine ⟨?_, E.le, fun k hk => ?_⟩
  · rw [List.nodup_append]
    refine ⟨E.nd, by simp, fun a ha b hb => ?_⟩
    simp at hb
    subst hb
    rintro rfl
    exact h2 ha
  · rcases List.mem_append.mp hk with hk | hk
    · exact E.src k hk
    · simp at hk
      subst hk
      exact .inl h1
theorem invE_new {c : Int} {ps : Pcs} {loose ends : List Int} {m0 many : Nat} (I : InvP c ps loose m0) (E : InvE c loose m0 many ends) (h24 : many < 24) : InvE c loose m0 (many + 1) (ends ++ [fresh c many]) := by
  have hn : fresh c many ∉ ends := fun h => by
    rcases E.src _ h with h1 | ⟨i, h0, h1, h2⟩
    · obtain ⟨_, i, h2, h3⟩ := I.lo _ h1
      have := fresh_inj c (by omega) (by have := E.le; omega) h3
      have := E.le
      omega
    · have := fresh_inj c (by omega) (by omega) h2
      omega
  refine ⟨?_, Nat.le_succ_of_le E.le, fun k hk => ?_⟩
  · rw [List.nodup_append]
    refine ⟨E.nd, by simp, fun a ha b hb => ?_⟩
    simp at hb
    subst hb
    rintro rfl
    exact hn ha
  · rcases List.mem_append.mp hk with hk | hk
    · rcases E.src k hk with h1 | ⟨i, h0, h1, h2⟩
      · exact .inl h1
      · exact .inr ⟨i, h0, by omega, h2⟩
    · simp at hk
      subst hk
      exact .inr ⟨many, E.le, by omega, rfl⟩
structure GoodP (ps : Pcs) : Prop where
  some1 : 1 ≤ ps.length
  few : ps.length ≤ 8
  rng : ∀ p ∈ ps, ∀ j ∈ p.js, 0 ≤ j ∧ j ≤ 999
  once : ∀ p ∈ ps, p.js.Nodup
  two : ∀ j, (atJ ps j).length ≤ 2
theorem InvP.good {c : Int} {ps : Pcs} {loose : List Int} {many : Nat} (I : InvP c ps loose many) (h1 : 1 ≤ ps.length) (h8 : ps.length ≤ 8) : GoodP ps :=
  ⟨h1, h8, fun p hp j hj => by obtain ⟨i, _, rfl⟩ := I.old p hp j hj; exact fresh_rng c i, I.once, fun j => by rw [atJ_len]; exact I.two j⟩
end Sb
end
section
set_option Elab.async false
set_option linter.all false
set_option maxRecDepth 100000
set_option maxHeartbeats 4000000
namespace Sb
open PySem L2
theorem not_in {ρ : Rho} {M : Sto} {xs ys : List Int} {i k : Nat} {y : PV} (hi : ρ[i]? = some (some (encI xs))) (hk : ρ[k]? = some (some y)) (hy : seqA M y = some (ys.map .int)) (hl : xs.length ≤ 100) :
    dComp false [none, some k] (iL (dVar i)) (gN 0) (dTst (dOp (inP true) (dVar 0) (dVar 1))) (dVar 0) ρ M = .ok (encI (xs.filter fun j => decide (j ∉ ys))) M := by
  rw [dComp_pure (xs := xs) (w := none) (M' := M) PV.int (fun j => decide (j ∉ ys)) PV.int (fun ρ => ∃ z, ρ = [z, some y]) (iL_lst (by rw [dVar_eq, hi])) trivial ⟨none, by simp [capR, hk]⟩ (fun x _ ρ hρ => ?_) (Nat.le_trans hl (by decide))]
  · rw [mkL_lit (by rw [List.length_map]; exact Nat.le_trans (List.length_filter_le _ _) hl)]
  · obtain ⟨z, rfl⟩ := hρ
    refine ⟨_, rfl, ⟨_, rfl⟩, ?_, fun _ => by simp⟩
    simp [inP_any (neg := true) (enc := PV.int) (fun a => pl_int a) (fun a b e => by cases e; rfl) hy]
theorem not_inL {ρ : Rho} {M : Sto} {xs ys : List Int} {i k n : Nat} {y : PV} (hi : ρ[i]? = some (some (.obj n))) (hn : M[n]? = some (.lst (xs.map .int))) (hk : ρ[k]? = some (some y)) (hy : seqA M y = some (ys.map .int)) (hl : xs.length ≤ 100) :
    dComp false [none, some k] (iL (dVar i)) (gN 0) (dTst (dOp (inP true) (dVar 0) (dVar 1))) (dVar 0) ρ M = .ok (encI (xs.filter fun j => decide (j ∉ ys))) M := by
  rw [dComp_pure (xs := xs) (w := some (n, .lst (xs.map .int))) (M' := M) PV.int (fun j => decide (j ∉ ys)) PV.int (fun ρ => ∃ z, ρ = [z, some y]) (iL_obj (by rw [dVar_eq, hi]) hn) hn ⟨none, by simp [capR, hk]⟩ (fun x _ ρ hρ => ?_) (Nat.le_trans hl (by decide))]
  · rw [mkL_lit (by rw [List.length_map]; exact Nat.le_trans (List.length_filter_le _ _) hl)]
  · obtain ⟨z, rfl⟩ := hρ
    refine ⟨_, rfl, ⟨_, rfl⟩, ?_, fun _ => by simp⟩
    simp [inP_any (neg := true) (enc := PV.int) (fun a => pl_int a) (fun a b e => by cases e; rfl) hy]
theorem ix_pick {xs : List Int} {n : Int} {M : Sto} (h : xs ≠ []) (hn : 0 ≤ n) : ∃ j ∈ xs, ixP (encI xs) (.int (n % (if (xs.length : Int) < 4 then (xs.length : Int) else 4))) M = .ok (.int j) M := by
  have hl : 0 < xs.length := List.length_pos_iff.mpr h
  have hd : (0 : Int) < (if (xs.length : Int) < 4 then (xs.length : Int) else 4) := by split <;> omega
  have hle : (if (xs.length : Int) < 4 then (xs.length : Int) else 4) ≤ xs.length := by split <;> omega
  generalize (if (xs.length : Int) < 4 then (xs.length : Int) else 4) = d at hd hle
  have h1 := Int.emod_nonneg n (b := d) (by omega)
  have h2 := Int.emod_lt_of_pos n hd
  obtain ⟨i, hi⟩ := Int.eq_ofNat_of_zero_le h1
  rw [hi]
  have h3 : i < xs.length := by omega
  exact ⟨xs[i], List.getElem_mem h3, ix_lst (by rw [List.getElem?_map, List.getElem?_eq_getElem h3]; rfl)⟩
theorem kind_ix {ends : List Int} {M : Sto} (h : ends.length = 2 ∨ ends.length = 3) : ∃ z, ixP (.lst [.str "plain", .str "points"]) (.int ((ends.length : Int) - 2)) M = .ok z M ∧ (mkPc ends).enc = .tup (z :: ends.map .int) := by
  rcases ends with _ | ⟨a, _ | ⟨b, _ | ⟨d, _ | ⟨e, r⟩⟩⟩⟩
  · simp at h
  · simp at h
  · exact ⟨.str "plain", ix_lst (i := 0) rfl, rfl⟩
  · exact ⟨.str "points", ix_lst (i := 1) rfl, rfl⟩
  · simp at h
def PcsSpec (g : D1) : Prop := ∀ ns (b : Int) M, ∃ ps, GoodP ps ∧ g [.scr ns, .int b] M = .ok (encPs ps) M
theorem bel_ts {n : Nat} {xs : List Int} {z : Str} : PV.bel n (.tup (.str z :: xs.map .int)) = true := bel_tup fun x hx => by
  rcases List.mem_cons.mp hx with rfl | hx
  · simp
  · obtain ⟨i, _, rfl⟩ := List.mem_map.mp hx
    simp
theorem bel_pc {n : Nat} (p : Pc) : PV.bel n p.enc = true := by
  cases p with
  | pl j k => exact bel_ts (xs := [j, k])
  | pt t s b => exact bel_ts (xs := [t, s, b])
theorem s_l_pieces {gm : D1} (hm : MixSpec gm) : PcsSpec (trunc (dfn_l_pieces gm)) := by
  intro ns b M
  suffices h : ∃ ps G, GoodP ps ∧ dfn_l_pieces gm [.scr ns, .int b] M = .ok (encPs ps) (M ++ G) by
    obtain ⟨ps, G, hg, e⟩ := h
    exact ⟨ps, hg, Leaves.trunc ⟨G, e⟩ (bel_map bel_pc _)⟩
  unfold dfn_l_pieces
  refine fn_w (P := fun r => ∃ ps G, GoodP ps ∧ r = .ok (encPs ps) (M ++ G)) ?_
  simp only [List.map_cons, List.map_nil, List.length_cons, List.length_nil, Nat.zero_add, Nat.reduceAdd, Nat.reduceSub, List.replicate, List.cons_append, List.nil_append]
  unfold den_l_pieces
  refine sset_w (.obj M.length) (M ++ [.lst []]) (by simp) ?_
  dsimp only [List.set_cons_succ, List.set_cons_zero]
  refine sset_w (.lst []) (M ++ [.lst []]) (by simp) ?_
  dsimp only [List.set_cons_succ, List.set_cons_zero]
  refine sset_w (.int 0) (M ++ [.lst []]) (by simp) ?_
  dsimp only [List.set_cons_succ, List.set_cons_zero]
  obtain ⟨n, hn⟩ := Int.eq_ofNat_of_zero_le (show 0 ≤ 1 + mixI ns b % 8 by have := mix_nonneg ns b; omega)
  have hn8 : 1 ≤ n ∧ n ≤ 8 := by have := mix_nonneg ns b; omega
  have hi : iR1 [(dOp (addP false) (dC (.int 1)) (dOp modP (dCall gm [(dVar 0), (dVar 1)]) (dC (.int 8))))] [some (.scr ns), some (.int b), some (.obj M.length), some (.lst []), some (.int 0), none, none, none, none, none, none] (M ++ [.lst []])
      = .ok ((List.range n).map fun (k : Nat) => PV.int k, none) (M ++ [.lst []]) := iR_eq (by simp [hm ns b, modP, intP, hn]) (by omega)
  generalize iR1 [(dOp (addP false) (dC (.int 1)) (dOp modP (dCall gm [(dVar 0), (dVar 1)]) (dC (.int 8))))] = di at hi ⊢
  refine seq_w (for_w (fun (k : Nat) => PV.int k) (fun pre ρ M' => ∃ y5 y6 y7 y8 y9 y10 G ps loose many, ρ = [some (.scr ns), some (.int b), some (.obj M.length), some (encI loose), some (.int ((many : Nat) : Int)), y5, y6, y7, y8, y9, y10] ∧
      M' = M ++ .lst (ps.map Pc.enc) :: G ∧ ps.length = pre.length ∧ loose.length ≤ 3 * pre.length ∧ InvP (mixI ns (b + 9)) ps loose many) (List.range n) none (M ++ [.lst []]) hi trivial ?_ ?_ ?_)
  · exact ⟨none, none, none, none, none, none, [], [], [], 0, rfl, rfl, rfl, by simp, ⟨by simp, by simp, by simp, by simp [cnt], by simp⟩⟩
  · rintro pre k post hx ρ M' ⟨y5, y6, y7, y8, y9, y10, G, ps, loose, many, rfl, rfl, hpl, hll, I⟩
    obtain ⟨hk, hpl2⟩ := range_pre hx
    refine ⟨_, rfl, ?_⟩
    generalize hM1 : M ++ .lst (ps.map Pc.enc) :: G = M1
    dsimp only [List.set_cons_succ, List.set_cons_zero]
    refine sset_w (.int (mixI ns (b + 1 + k))) M1 (by simp [hm ns]) ?_
    dsimp only [List.set_cons_succ, List.set_cons_zero]
    refine sset_w (.obj M1.length) (M1 ++ [.lst []]) (by simp) ?_
    dsimp only [List.set_cons_succ, List.set_cons_zero]
    obtain ⟨n2, hn2, hn23⟩ : ∃ n2 : Nat, (2 : Int) + (if mixI ns (b + 1 + k) % 5 < 3 then 1 else 0) = n2 ∧ (n2 = 2 ∨ n2 = 3) := by
      split
      · exact ⟨3, rfl, .inr rfl⟩
      · exact ⟨2, rfl, .inl rfl⟩
    have hi2 : iR1 [(dOp (addP false) (dC (.int 2)) (dCall intoP [(dOp ltP (dOp modP (dVar 6) (dC (.int 5))) (dC (.int 3)))]))] [some (.scr ns), some (.int b), some (.obj M.length), some (encI loose), some (.int many), some (.int k), some (.int (mixI ns (b + 1 + k))), some (.obj M1.length), y8, y9, y10] (M1 ++ [.lst []])
        = .ok ((List.range n2).map fun (k : Nat) => PV.int k, none) (M1 ++ [.lst []]) := iR_eq (by
      simp [modP, ltP, intP, intoP]
      rw [← hn2]) (by omega)
    generalize iR1 [(dOp (addP false) (dC (.int 2)) (dCall intoP [(dOp ltP (dOp modP (dVar 6) (dC (.int 5))) (dC (.int 3)))]))] = di2 at hi2 ⊢
    refine seq_w (for_w (fun (k : Nat) => PV.int k) (fun pre2 ρ M' => ∃ y8 y9 y10 ends many', ρ = [some (.scr ns), some (.int b), some (.obj M.length), some (encI loose), some (.int ((many' : Nat) : Int)), some (.int k), some (.int (mixI ns (b + 1 + k))), some (.obj M1.length), y8, y9, y10] ∧
      M' = M1 ++ [.lst (ends.map .int)] ∧ ends.length = pre2.length ∧ many' ≤ many + pre2.length ∧ InvE (mixI ns (b + 9)) loose many many' ends) (List.range n2) none (M1 ++ [.lst []]) hi2 trivial ?_ ?_ ?_)
    · exact ⟨y8, y9, y10, [], many, rfl, rfl, rfl, Nat.le_refl _, ⟨by simp, Nat.le_refl _, by simp⟩⟩
    · rintro pre2 j post2 hx2 ρ M' ⟨z8, z9, z10, ends, many', rfl, rfl, hel, hmm, E⟩
      obtain ⟨hj, hpl3⟩ := range_pre hx2
      have hfew := I.few
      refine ⟨_, rfl, ?_⟩
      dsimp only [List.set_cons_succ, List.set_cons_zero]
      generalize hpick : mixI ns (b + 10 + 3 * k + j) = pick
      have hpn : 0 ≤ pick := by rw [← hpick]; exact mix_nonneg _ _
      refine sset_w (.int pick) (M1 ++ [.lst (ends.map .int)]) (by simp [hm ns, mulP, small, hpick]) ?_
      dsimp only [List.set_cons_succ, List.set_cons_zero]
      refine sset_w (encI (loose.filter fun j => decide (j ∉ ends))) (M1 ++ [.lst (ends.map .int)]) (not_in (ys := ends) rfl rfl (by simp) (by omega)) ?_
      obtain ⟨L, hLm⟩ : ∃ L, loose.filter (fun j => decide (j ∉ ends)) = L := ⟨_, rfl⟩
      rw [hLm]
      dsimp only [List.set_cons_succ, List.set_cons_zero]
      have hif : ∃ t, dAnd (dTru (dVar 10)) (dTst (dOp ltP (dOp modP (dVar 9) (dC (.int 8))) (dOp ixP (dLst false [(dC (.int 7)), (dC (.int 2)), (dC (.int 2))]) (dVar 8)))) [some (.scr ns), some (.int b), some (.obj M.length), some (encI loose), some (.int many'), some (.int k), some (.int (mixI ns (b + 1 + k))), some (.obj M1.length), some (.int j), some (.int pick), some (encI L)] (M1 ++ [.lst (ends.map .int)])
          = .ok t (M1 ++ [.lst (ends.map .int)]) ∧ (t = true → L ≠ []) := by
        have hj3 : j = 0 ∨ j = 1 ∨ j = 2 := by omega
        obtain ⟨v, hv⟩ : ∃ v : Int, ∀ M, ixP (.lst [.int 7, .int 2, .int 2]) (.int j) M = .ok (.int v) M := by
          rcases hj3 with rfl | rfl | rfl
          · exact ⟨7, fun M => ix_lst (i := 0) rfl⟩
          · exact ⟨2, fun M => ix_lst (i := 1) rfl⟩
          · exact ⟨2, fun M => ix_lst (i := 2) rfl⟩
        cases L with
        | nil => exact ⟨false, by simp [truP], nofun⟩
        | cons x xs => exact ⟨decide (pick % 8 < v), by simp [truP, modP, intP, ltP, hv], fun _ => by simp⟩
      obtain ⟨t, ht, hne⟩ := hif
      refine if_w t _ ht (fun ht => ?_) fun _ => ?_
      · obtain ⟨x, hx, hix⟩ := ix_pick (M := M1 ++ [.lst (ends.map .int)]) (hne ht) (n := pick / 8) (by omega)
        obtain ⟨hx1, hx2⟩ := List.mem_filter.mp (hLm ▸ hx)
        refine drop_w .non (M1 ++ [.lst ((ends ++ [x]).map .int)]) ?_ (body_nx trivial ⟨_, _, _, ends ++ [x], many', rfl, rfl, by simp [hel], by simp; omega, invE_old E hx1 (of_decide_eq_true hx2)⟩)
        have hd : (0 : Int) < (if (L.length : Int) < 4 then (L.length : Int) else 4) := by
          have := List.length_pos_iff.mpr (hne ht)
          split <;> omega
        simp [lenP, minP, fdivP, modP, intP]
        rw [if_pos hd, bind_ok, hix]
        simp [appendP, onL, lim]
        omega
      · refine seq_w (drop_w .non (M1 ++ [.lst ((ends ++ [fresh (mixI ns (b + 9)) many']).map .int)]) ?_ (seq1_nx (set_w (.int ((many' + 1 : Nat) : Int)) (M1 ++ [.lst ((ends ++ [fresh (mixI ns (b + 9)) many']).map .int)]) (by simp) (body_nx trivial ⟨_, _, _, ends ++ [fresh (mixI ns (b + 9)) many'], many' + 1, rfl, rfl, by simp [hel], by simp; omega, invE_new I E (by omega)⟩))))
        simp [hm ns, mulP, small, modP, intP, appendP, onL, fresh, lim]
        omega
    · rintro ρ' M' ⟨z8, z9, z10, ends, many', rfl, rfl, hel, hmm, E⟩
      rw [List.length_range] at hel hmm
      have hfew := I.few
      refine seq1_nx (sset_w (encI (ends.filter (fun j => decide (j ∉ loose)) ++ loose.filter (fun j => decide (j ∉ ends)))) (M1 ++ [.lst (ends.map .int)]) ?_ ?_)
      · rw [dOp_eq, not_inL (xs := ends) (ys := loose) (n := M1.length) rfl (by simp) rfl rfl (by omega), bind_ok, not_in (xs := loose) (ys := ends) rfl rfl (by simp) (by omega), bind_ok, addP_lst, ← List.map_append, mkL_lit]
        rw [List.length_map, List.length_append]
        have h1 := List.length_filter_le (fun j => decide (j ∉ loose)) ends
        have h2 := List.length_filter_le (fun j => decide (j ∉ ends)) loose
        omega
      · dsimp only [List.set_cons_succ, List.set_cons_zero]
        obtain ⟨z, hz1, hz2⟩ := kind_ix (M := M1 ++ [.lst (ends.map .int)]) (ends := ends) (by omega)
        refine drop_w .non (M ++ .lst ((ps ++ [mkPc ends]).map Pc.enc) :: (G ++ [.lst (ends.map .int)])) ?_ (body_nx trivial ⟨_, _, _, _, _, _, G ++ [.lst (ends.map .int)], ps ++ [mkPc ends], _, many', rfl, rfl, by simp [hpl], ?_, inv_step I E (by omega) (by omega) (by omega)⟩)
        · simp [lenP, subP, intP] at hz1 ⊢
          rw [hz1, hz2]
          subst hM1
          simp [tupleP, addP, appendP, onL, lim]
          rw [if_pos (by omega)]
          simp
          omega
        · rw [List.length_append]
          have h1 := List.length_filter_le (fun j => decide (j ∉ loose)) ends
          have h2 := List.length_filter_le (fun j => decide (j ∉ ends)) loose
          have h3 : (pre ++ [k]).length = pre.length + 1 := by simp
          omega
  · rintro ρ' M' ⟨y5, y6, y7, y8, y9, y10, G, ps, loose, many, rfl, rfl, hpl, hll, I⟩
    refine seq1_nx (ret_w (encPs ps) (M ++ .gone :: G) ?_ (fin_rt ⟨ps, .gone :: G, I.good ?_ ?_, rfl⟩))
    · simp [frzP]
    · rw [hpl]; simp; omega
    · rw [hpl]; simp; omega
end Sb
end
section
set_option Elab.async false
set_option linter.all false
set_option maxRecDepth 100000
set_option maxHeartbeats 4000000
namespace Sb
open PySem L2
theorem range_at {n : Nat} {pre post : List Nat} {k : Nat} (h : List.range n = pre ++ k :: post) : k = pre.length := by
  have h1 : (List.range n)[pre.length]? = some k := by rw [h]; simp
  have h2 := (range_pre h).2
  rw [List.getElem?_range h2] at h1
  exact (Option.some.inj h1).symm
theorem pc_js_len (p : Pc) : p.js.length ≤ 3 := by cases p <;> simp [Pc.js]
theorem bel_sg {n : Nat} (s : Sg) : PV.bel n (encSg s) = true := bel_tup fun x hx => by
  simp only [List.mem_cons, List.not_mem_nil, or_false] at hx
  rcases hx with rfl | rfl <;> simp
def SigSpec (g : D1) : Prop := ∀ ns (b : Int) ps M, GoodP ps → ∃ ss, GoodY ps ss ∧ g [.scr ns, .int b, encPs ps] M = .ok (encSs ss) M
theorem cut_lo {xs : List PV} {k : Nat} (h : k ≤ xs.length) : cutP xs (some k) none = xs.drop k := by
  unfold cutP
  rw [HT.sIx_nat, HT.sIx_none, Nat.min_eq_left h]
  exact List.take_of_length_le (by simp)
theorem cut_hi {xs : List PV} {k : Nat} : cutP xs none (some k) = xs.take k := by
  unfold cutP
  rw [HT.sIx_nat, HT.sIx_none]
  simp
theorem s_l_signals {gm gb : D1} (hm : MixSpec gm) (hb : BeySpec gb) : SigSpec (trunc (dfn_l_signals gm gb)) := by
  intro ns b ps M hg
  have hp8 := hg.few
  suffices h : ∃ ss G, GoodY ps ss ∧ dfn_l_signals gm gb [.scr ns, .int b, encPs ps] M = .ok (encSs ss) (M ++ G) by
    obtain ⟨ss, G, hg, e⟩ := h
    exact ⟨ss, hg, Leaves.trunc ⟨G, e⟩ (bel_map bel_sg _)⟩
  unfold dfn_l_signals
  refine fn_w (P := fun r => ∃ ss G, GoodY ps ss ∧ r = .ok (encSs ss) (M ++ G)) ?_
  simp only [List.map_cons, List.map_nil, List.length_cons, List.length_nil, Nat.zero_add, Nat.reduceAdd, Nat.reduceSub, List.replicate, List.cons_append, List.nil_append]
  unfold den_l_signals
  refine sset_w (.obj M.length) (M ++ [.lst []]) (by simp) ?_
  dsimp only [List.set_cons_succ, List.set_cons_zero]
  have hi : iR1 [(dCall lenP [(dVar 2)])] [some (.scr ns), some (.int b), some (encPs ps), some (.obj M.length), none, none, none, none, none] (M ++ [.lst []]) = .ok ((List.range ps.length).map fun (k : Nat) => PV.int k, none) (M ++ [.lst []]) := iR_eq (by simp [lenP]) (by omega)
  generalize iR1 [(dCall lenP [(dVar 2)])] = di at hi ⊢
  refine seq_w (for_w (fun (k : Nat) => PV.int k) (fun pre ρ M' => ∃ y4 y5 y6 y7 ss, ρ = [some (.scr ns), some (.int b), some (encPs ps), some (.obj M.length), y4, y5, y6, y7, none] ∧ M' = M ++ [.lst (ss.map encSg)] ∧ ss.length ≤ 3 * pre.length ∧ ss.Nodup ∧
    ∀ s ∈ ss, s.2 < pre.length ∧ s.1 ∈ (Pc.at ps s.2).js) (List.range ps.length) none (M ++ [.lst []]) hi trivial ⟨none, none, none, none, [], rfl, rfl, by simp, by simp, by simp⟩ ?_ ?_)
  · rintro pre k post hx ρ M' ⟨y4, y5, y6, y7, ss, rfl, rfl, hl, hnd, hs⟩
    obtain ⟨hk, hpl⟩ := range_pre hx
    have hkp := range_at hx
    have hjl := pc_js_len (Pc.at ps k)
    refine ⟨_, rfl, ?_⟩
    dsimp only [List.set_cons_succ, List.set_cons_zero]
    refine for_w PV.int (fun pre2 ρ M' => ∃ y5 y6 y7 ss, ρ = [some (.scr ns), some (.int b), some (encPs ps), some (.obj M.length), some (.int k), y5, y6, y7, none] ∧ M' = M ++ [.lst (ss.map encSg)] ∧ ss.length ≤ 3 * pre.length + pre2.length ∧ ss.Nodup ∧
      ∀ s ∈ ss, (s.2 < pre.length ∧ s.1 ∈ (Pc.at ps s.2).js) ∨ (s.2 = k ∧ s.1 ∈ pre2)) (Pc.at ps k).js none (M ++ [.lst (ss.map encSg)]) (iT_tup (by simp [ix_ps hk, sl1])) trivial ⟨y5, y6, y7, ss, rfl, rfl, by simp; exact hl, hnd, fun s h => .inl (hs s h)⟩ ?_ ?_
    · rintro pre2 j post2 hx2 ρ M' ⟨z5, z6, z7, tt, rfl, rfl, htl, htn, hts⟩
      have hnj : (Pc.at ps k).js.Nodup := hg.once _ (at_mem hk)
      have hjn : j ∉ pre2 := by
        rw [hx2, List.nodup_append] at hnj
        exact fun h => hnj.2.2 j h j (by simp) rfl
      have hp2l : pre2.length < 3 := by
        have := congrArg List.length hx2
        simp at this
        omega
      refine ⟨_, rfl, ?_⟩
      dsimp only [List.set_cons_succ, List.set_cons_zero]
      generalize hnum : mixI ns (b + 3 * k + tt.length) = num
      refine sset_w (.int num) (M ++ [.lst (tt.map encSg)]) (by simp [hm ns, lenP, mulP, small, hnum]) ?_
      dsimp only [List.set_cons_succ, List.set_cons_zero]
      refine sset_w (.bl (isNon (encO (beyond ps k j)))) (M ++ [.lst (tt.map encSg)]) (by simp [hb ps k j _ (by omega), isP]) ?_
      dsimp only [List.set_cons_succ, List.set_cons_zero]
      have hnew : (tt ++ [(j, k)]).Nodup := by
        rw [List.nodup_append]
        refine ⟨htn, by simp, fun s hs1 s2 hs2 => ?_⟩
        simp only [List.mem_cons, List.not_mem_nil, or_false] at hs2
        subst hs2
        rintro rfl
        rcases hts _ hs1 with h | h
        · omega
        · exact hjn h.2
      have hif : ∃ t, dOr (dTst (dOp (eqP false) (dOp modP (dVar 6) (dC (.int 3))) (dC (.int 0)))) (dAnd (dTru (dVar 7)) (dTst (dOp (eqP false) (dOp modP (dVar 6) (dC (.int 3))) (dC (.int 1))))) [some (.scr ns), some (.int b), some (encPs ps), some (.obj M.length), some (.int k), some (.int j), some (.int num), some (.bl (isNon (encO (beyond ps k j)))), none] (M ++ [.lst (tt.map encSg)]) = .ok t (M ++ [.lst (tt.map encSg)]) := by
        by_cases h1 : num % 3 = 0
        · exact ⟨true, by simp [modP, intP, h1]⟩
        · by_cases h2 : isNon (encO (beyond ps k j)) = true
          · exact ⟨decide (num % 3 = 1), by simp [modP, intP, truP, h1, h2]⟩
          · exact ⟨false, by simp [modP, intP, truP, h1, h2]⟩
      obtain ⟨t, ht⟩ := hif
      refine if_w t _ ht (fun _ => ?_) fun _ => ?_
      · refine drop_w .non (M ++ [.lst ((tt ++ [(j, k)]).map encSg)]) ?_ (body_nx trivial ⟨_, _, _, tt ++ [(j, k)], rfl, rfl, by simp; omega, hnew, fun s hs => ?_⟩)
        · simp [appendP, onL, lim, encSg]
          omega
        · rcases List.mem_append.mp hs with h | h
          · rcases hts s h with h | h
            · exact .inl h
            · exact .inr ⟨h.1, by simp [h.2]⟩
          · simp only [List.mem_cons, List.not_mem_nil, or_false] at h
            subst h
            exact .inr ⟨rfl, by simp⟩
      · refine nx_w (body_nx trivial ⟨_, _, _, tt, rfl, rfl, by simp; omega, htn, fun s hs => ?_⟩)
        rcases hts s hs with h | h
        · exact .inl h
        · exact .inr ⟨h.1, by simp [h.2]⟩
    · rintro ρ' M' ⟨z5, z6, z7, tt, rfl, rfl, htl, htn, hts⟩
      refine body_nx trivial ⟨_, _, _, _, tt, rfl, rfl, by simp; omega, htn, fun s hs => ?_⟩
      rw [List.length_append, List.length_singleton]
      rcases hts s hs with h | h
      · exact ⟨by omega, h.2⟩
      · rw [h.1]
        exact ⟨by omega, h.2⟩
  · rintro ρ' M' ⟨y4, y5, y6, y7, ss, rfl, rfl, hl, hnd, hs⟩
    rw [List.length_range] at hl hs
    obtain ⟨sh, hsh⟩ := Int.eq_ofNat_of_zero_le (Int.emod_nonneg (mixI ns (b + 30)) (b := 1 + (ss.length : Int)) (by omega))
    have hsl : sh ≤ ss.length := by have := Int.emod_lt_of_pos (mixI ns (b + 30)) (b := 1 + (ss.length : Int)) (by omega); omega
    refine seq1_nx (sset_w (.int sh) (M ++ [.lst (ss.map encSg)]) ?_ ?_)
    · simp [hm ns, lenP, modP, intP]
      rw [if_pos (by omega), hsh]
    · dsimp only [List.set_cons_succ, List.set_cons_zero]
      have hperm : (ss.drop sh ++ ss.take sh).Perm ss := by
        have := List.perm_append_comm (l₁ := ss.drop sh) (l₂ := ss.take sh)
        rwa [List.take_append_drop] at this
      refine ret_w (encSs ((ss.drop sh ++ ss.take sh).take 16)) (M ++ [.lst (ss.map encSg)]) ?_ (fin_rt ⟨_, [.lst (ss.map encSg)], ⟨hg.some1, by omega, hg.rng, hg.once, hg.two, ?_, ?_, fun s h => ?_⟩, rfl⟩)
      · have e1 : ∀ M : Sto, slP false (.obj M.length) (some (sh : Int)) none (M ++ [.lst (ss.map encSg)]) = .ok (encSs (ss.drop sh)) (M ++ [.lst (ss.map encSg)]) := fun M => by
          simp only [slP, seqL_obj, get_last]
          rw [cut_lo (by simp; exact hsl), ← List.map_drop, mkL_lit (by simp; omega)]
        have e2 : ∀ M : Sto, slP false (.obj M.length) none (some (sh : Int)) (M ++ [.lst (ss.map encSg)]) = .ok (encSs (ss.take sh)) (M ++ [.lst (ss.map encSg)]) := fun M => by
          simp only [slP, seqL_obj, get_last]
          rw [cut_hi, ← List.map_take, mkL_lit (by simp; omega)]
        have e3 : ∀ (M : Sto) (xs : List Sg), xs.length ≤ 100 → slP false (encSs xs) none (some 16) M = .ok (encSs (xs.take 16)) M := fun M xs hx => by
          simp only [slP, seqL_lst]
          rw [show (some (16 : Int)) = some ((16 : Nat) : Int) from rfl, cut_hi, ← List.map_take, mkL_lit (by simp; omega)]
        simp only [dSl_eq, dOp_eq, dVar_eq, dPart_eq, dNoPart_eq, dC_eq, bind_ok, List.getElem?_cons_succ, List.getElem?_cons_zero, e1, e2, addP_lst]
        rw [← List.map_append, mkL_lit (by simp; omega), bind_ok, e3 _ _ (by simp; omega)]
      · rw [List.length_take]; omega
      · exact ((hperm.nodup_iff).mpr hnd).sublist (List.take_sublist _ _)
      · exact hs s (hperm.mem_iff.mp (List.mem_of_mem_take h))
end Sb
end
section
set_option Elab.async false
set_option linter.all false
set_option maxRecDepth 100000
set_option maxHeartbeats 4000000
namespace Sb
open PySem L2 PyProof.Rows
theorem dedup_nodup : ∀ (ns acc : List Int), (acc ++ ns).Nodup → ns.foldl step_dedup acc = acc ++ ns
  | [], acc, _ => by simp
  | n :: ns, acc, h => by
    have h1 : n ∉ acc := by
      rw [List.nodup_append] at h
      exact fun hm => h.2.2 n hm n (by simp) rfl
    have h2 : step_dedup acc n = acc ++ [n] := by
      unfold step_dedup
      rw [if_neg]
      simp only [List.any_eq_true, beq_iff_eq]
      rintro ⟨x, hx, rfl⟩
      exact h1 hx
    rw [List.foldl_cons, h2, dedup_nodup ns (acc ++ [n]) (by simpa using h)]
    simp
theorem setN_nodup {ns : List Int} (h : ns.Nodup) : setN ns = ns.length := by
  unfold setN firstMet
  have : (List.range ns.length).map (fun i => ns.getD i 0) = ns := by
    refine List.ext_getElem? fun i => ?_
    rw [List.getElem?_map]
    by_cases hi : i < ns.length
    · rw [List.getElem?_range hi]
      simp [hi]
    · rw [List.getElem?_eq_none (by simp; omega), List.getElem?_eq_none (by omega)]
      rfl
  rw [this, dedup_nodup ns [] (by simpa using h)]
  simp
structure OutOk (p : Pc) (j o : Int) : Prop where
  ne : o ≠ j
  mem : o ∈ p.js
  tip : p.js.length = 3 → p.js.headD 0 = j ∨ p.js.headD 0 = o
theorem outs_ok {p : Pc} {j o : Int} (hn : p.js.Nodup) (h : o ∈ outs p j) : OutOk p j o := by
  cases p with
  | pl a b =>
    obtain ⟨h1, h2⟩ := List.mem_filter.mp h
    exact ⟨of_decide_eq_true h2, h1, by simp [Pc.js]⟩
  | pt t s b =>
    simp only [Pc.js, List.nodup_cons, List.mem_cons, List.not_mem_nil, or_false, not_or] at hn
    unfold outs at h
    dsimp only at h
    split at h
    · rename_i e
      subst e
      simp only [List.mem_cons, List.not_mem_nil, or_false] at h
      refine ⟨?_, by rcases h with rfl | rfl <;> simp [Pc.js], fun _ => .inl rfl⟩
      rcases h with rfl | rfl
      · exact fun e => hn.1.1 e.symm
      · exact fun e => hn.1.2 e.symm
    · rename_i e
      simp only [List.mem_cons, List.not_mem_nil, or_false] at h
      subst h
      exact ⟨fun z => e z.symm, by simp [Pc.js], fun _ => .inr rfl⟩
def Chain (ps : Pcs) (ss : List Sg) : Bool → Int → Option Nat → List Stp → Prop
  | _, j, a, [] => ∀ b, a = some b → (j, b) ∈ ss
  | f, j, a, (a', j', o) :: r => a = some a' ∧ j' = j ∧ (f = false → (j, a') ∉ ss) ∧ a' < ps.length ∧ OutOk (Pc.at ps a') j o ∧ Chain ps ss false o (beyond ps a' o) r
theorem ways_chain {ps : Pcs} {ss : List Sg} (hn : ∀ p ∈ ps, p.js.Nodup) : ∀ (n : Nat) (way w : List Stp) (j : Int) (a : Nat) (f : Bool), WayOk ps way a → (f = false → (j, a) ∉ ss) → w ∈ waysF ps ss n way j a →
    ∃ r, w = way ++ r ∧ r ≠ [] ∧ Chain ps ss f j (some a) r ∧ (w.map (·.1)).Nodup ∧ w.length ≤ ps.length
  | 0, way, w, j, a, f, ok, hf, h => by simp [waysF] at h
  | n + 1, way, w, j, a, f, ok, hf, h => by
    rw [waysF_succ] at h
    split at h
    · simp at h
    rename_i ha
    obtain ⟨o, ho, hw⟩ := List.mem_flatMap.mp h
    have hoo := outs_ok (hn _ (at_mem ok.lt)) ho
    have hnd : ((way ++ [(a, j, o)]).map (·.1)).Nodup := by
      rw [List.map_append, List.nodup_append]
      refine ⟨ok.nd, by simp, fun x hx y hy => ?_⟩
      simp at hy
      subst hy
      rintro rfl
      exact ha hx
    have hlen : (way ++ [(a, j, o)]).length ≤ ps.length := by
      have := nodup_len (n := ps.length) hnd fun x hx => by
        obtain ⟨s, hs, rfl⟩ := List.mem_map.mp hx
        rcases List.mem_append.mp hs with hs | hs
        · exact ok.all s hs
        · simp at hs
          subst hs
          exact ok.lt
      simpa using this
    unfold oneF at hw
    cases hb : beyond ps a o with
    | none =>
      rw [hb] at hw
      simp only [List.mem_cons, List.not_mem_nil, or_false] at hw
      subst hw
      exact ⟨[(a, j, o)], rfl, by simp, ⟨rfl, rfl, hf, ok.lt, hoo, by rw [hb]; exact nofun⟩, hnd, hlen⟩
    | some b =>
      rw [hb] at hw
      dsimp only at hw
      split at hw
      · rename_i hs
        simp only [List.mem_cons, List.not_mem_nil, or_false] at hw
        subst hw
        exact ⟨[(a, j, o)], rfl, by simp, ⟨rfl, rfl, hf, ok.lt, hoo, by rw [hb]; intro b' e; cases e; exact hs⟩, hnd, hlen⟩
      · rename_i hs
        obtain ⟨r, e, hr, hc, h1, h2⟩ := ways_chain hn n (way ++ [(a, j, o)]) w o b false (ok.step ha hb) (fun _ => hs) hw
        exact ⟨(a, j, o) :: r, by rw [e]; simp, by simp, ⟨rfl, rfl, hf, ok.lt, hoo, by rw [hb]; exact hc⟩, h1, h2⟩
structure RouteOk (ps : Pcs) (ss : List Sg) (r : Rt) : Prop where
  lt : r.1 < ss.length
  ne : r.2 ≠ []
  chain : Chain ps ss true (sgAt ss r.1).1 (some (sgAt ss r.1).2) r.2
  nd : (r.2.map (·.1)).Nodup
  len : r.2.length ≤ ps.length
theorem route_ok {ps : Pcs} {ss : List Sg} (hg : GoodY ps ss) {r : Rt} (h : r ∈ routesF ps ss) : RouteOk ps ss r := by
  obtain ⟨k, hk, h⟩ := List.mem_flatMap.mp h
  have hk := List.mem_range.mp hk
  obtain ⟨w, hw, rfl⟩ := List.mem_map.mp h
  obtain ⟨r, e, h1, h2, h3, h4⟩ := ways_chain hg.once fuel [] w (sgAt ss k).1 (sgAt ss k).2 true (way0 hg hk) nofun hw
  rw [List.nil_append] at e
  subst e
  exact ⟨hk, h1, h2, h3, h4⟩
end Sb
end
section
set_option Elab.async false
set_option linter.all false
set_option maxRecDepth 100000
set_option maxHeartbeats 4000000
namespace L2
open PySem
theorem dIsT_ok {c t : String} {d : DE} {ρ : Rho} {M M' : Sto} {x : PV} {k : Bool} (h : d ρ M = .ok x M') (ht : tyP M' x = some t) (hk : subT t c = some k) : dIsT c d ρ M = .ok (.bl k) M' := by
  unfold dIsT
  rw [h, bind_ok, ht]
  simp [hk]
@[simp] theorem dAndV_eq {a b : DE} {ρ : Rho} {M : Sto} : dAndV a b ρ M = (a ρ M).bind fun x M1 => match x with | .bl k => if k = true then b ρ M1 else .ok (.bl false) M1 | _ => .bad := by
  unfold dAndV
  cases a ρ M with
  | ok x M1 => simp only [bind_ok]; cases x with
    | bl k => cases k <;> rfl
    | _ => rfl
  | exc c M1 => rfl
  | bad => rfl
@[simp] theorem dOrV_eq {a b : DE} {ρ : Rho} {M : Sto} : dOrV a b ρ M = (a ρ M).bind fun x M1 => match x with | .bl k => if k = true then .ok (.bl true) M1 else b ρ M1 | _ => .bad := by
  unfold dOrV
  cases a ρ M with
  | ok x M1 => simp only [bind_ok]; cases x with
    | bl k => cases k <;> rfl
    | _ => rfl
  | exc c M1 => rfl
  | bad => rfl
@[simp] theorem dNotV_eq {a : DE} {ρ : Rho} {M : Sto} : dNotV a ρ M = (a ρ M).bind fun x M1 => match x with | .bl k => .ok (.bl !k) M1 | _ => .bad := rfl
@[simp] theorem dChain_eq {f g : D2} {a b c : DE} {ρ : Rho} {M : Sto} : dChain f g a b c ρ M = (a ρ M).bind fun x M1 => (b ρ M1).bind fun y M2 => (f x y M2).bind fun z M3 => match z with | .bl k => if k = true then (c ρ M3).bind fun u M4 => g y u M4 else .ok (.bl false) M3 | _ => .bad := by
  unfold dChain
  congr 1; funext x M1; congr 1; funext y M2; congr 1; funext z M3
  cases z with
  | bl k => cases k <;> rfl
  | _ => rfl
end L2
namespace Sb
open PySem L2
def WholeSpec (g : D1) : Prop := ∀ (i : Int) M, g [.int i] M = .ok (.bl true) M
theorem s_l_whole : WholeSpec dfn_l_whole := by
  intro i M
  unfold dfn_l_whole
  refine fn_w (P := fun r => r = .ok (.bl true) M) ?_
  unfold den_l_whole
  refine ret_w (.bl true) M ?_ (fin_rt rfl)
  rw [dAndV_eq, dIsT_ok (x := .int i) (t := "int") (k := true) rfl rfl (by decide)]
  simp only [bind_ok, if_true, dNotV_eq]
  rw [dIsT_ok (x := .int i) (t := "int") (k := false) rfl rfl (by decide)]
  rfl
def RouteSpec (g : D1) : Prop := ∀ ps ss r M, GoodY ps ss → RouteOk ps ss r → g [encPs ps, encSs ss, encR r] M = .ok (.bl true) M
theorem ix_w {w : List Stp} {k : Nat} {s : Stp} {M : Sto} (h : w[k]? = some s) : ixP (encW w) (.int k) M = .ok (encSt s) M := ix_lst (by rw [List.getElem?_map, h]; rfl)
theorem s_l_is_route {gw gb : D1} (hw : WholeSpec gw) (hb : BeySpec gb) : RouteSpec (dfn_l_is_route gw gb) := by
  intro ps ss r M hg hr
  obtain ⟨n, w⟩ := r
  have hlt : n < ss.length := hr.lt
  have hlen : w.length ≤ ps.length := hr.len
  have hf := hg.few
  unfold dfn_l_is_route
  refine fn_w (P := fun r => r = .ok (.bl true) M) ?_
  simp only [List.map_cons, List.map_nil, List.length_cons, List.length_nil, Nat.zero_add, Nat.reduceAdd, Nat.reduceSub, List.replicate, List.cons_append, List.nil_append, encR]
  unfold den_l_is_route
  refine seq_w (if_f M ?_ (nx_w (seq1_nx (seq_w (asg_w (encSg (sgAt ss n)) [some (encPs ps), some (encSs ss), some (.tup [.int n, encW w]), some (.int (sgAt ss n).1), some (.int (sgAt ss n).2), none, none, none, none] M ?_ ?_ (seq1_nx ?_))))))
  · simp only [dOr_eq, dNot_eq, dTru_eq]
    rw [dIsT_ok (x := .tup [.int n, encW w]) (t := "tuple") (k := true) rfl rfl (by decide)]
    simp only [bind_ok, truP, opt_some, Bool.not_true, Bool.false_eq_true, if_false]
    simp [lenP, hw n]
    rw [dIsT_ok (x := encW w) (M' := M) (t := "list") (k := true) (by simp) rfl (by decide)]
    simp [truP]
  · simp [ix_ss hlt]
  · rfl
  have hi : iR1 [(dCall lenP [(dOp ixP (dVar 2) (dC (.int 1)))])] [some (encPs ps), some (encSs ss), some (.tup [.int n, encW w]), some (.int (sgAt ss n).1), some (.int (sgAt ss n).2), none, none, none, none] M = .ok ((List.range w.length).map fun (k : Nat) => PV.int k, none) M := iR_eq (by simp [lenP]) (by omega)
  generalize iR1 [(dCall lenP [(dOp ixP (dVar 2) (dC (.int 1)))])] = di at hi ⊢
  refine seq_w (for_w (fun (k : Nat) => PV.int k) (fun pre ρ M' => ∃ j a y5 y6 y7, ρ = [some (encPs ps), some (encSs ss), some (.tup [.int n, encW w]), some (.int j), some (encO a), y5, y6, y7, none] ∧ M' = M ∧ Chain ps ss (decide (pre.length = 0)) j a (w.drop pre.length)) (List.range w.length) none M hi trivial
    ⟨_, some (sgAt ss n).2, none, none, none, rfl, rfl, hr.chain⟩ ?_ ?_)
  · rintro pre k post hx ρ M' ⟨j, a, y5, y6, y7, rfl, rfl, hc⟩
    obtain ⟨hk, hpl⟩ := range_pre hx
    have hkp := range_at hx
    obtain ⟨s, hs⟩ : ∃ s, w[k]? = some s := ⟨w[k], List.getElem?_eq_getElem hk⟩
    rw [← hkp, List.drop_eq_getElem_cons hk] at hc
    have hs' : w[k] = s := by rw [List.getElem?_eq_getElem hk] at hs; exact Option.some.inj hs
    rw [hs'] at hc
    obtain ⟨a', j', o⟩ := s
    obtain ⟨rfl, rfl, hc1, hc2, hc3, hc4⟩ := hc
    refine ⟨_, rfl, ?_⟩
    dsimp only [List.set_cons_succ, List.set_cons_zero]
    refine sset_w (encSt (a', j', o)) M' (by simp [ix_w hs]) ?_
    dsimp only [List.set_cons_succ, List.set_cons_zero, encSt, encO]
    refine seq_w (if_f M' ?_ (nx_w (seq1_nx ?_)))
    · simp only [dOr_eq, dNot_eq, dTru_eq]
      rw [dIsT_ok (x := .tup [.int a', .int j', .int o]) (M' := M') (t := "tuple") (k := true) rfl rfl (by decide)]
      simp only [bind_ok, truP, opt_some, Bool.not_true, Bool.false_eq_true, if_false]
      simp [lenP]
      rw [dComp_pure (xs := [(a' : Int), j', o]) (w := none) (M' := M') PV.int (fun _ => true) (fun _ => .bl true) (fun ρ => ∃ y, ρ = [y]) (iT_tup rfl) trivial ⟨none, rfl⟩ (fun x _ ρ hρ => by
        obtain ⟨y, rfl⟩ := hρ
        exact ⟨_, rfl, ⟨_, rfl⟩, rfl, fun _ => by simp [hw x]⟩) (Nat.le_trans (show 3 ≤ 3 by decide) (by decide))]
      simp [allP, bools, truP]
    refine seq_w (if_f M' ?_ (nx_w (seq1_nx ?_)))
    · have e1 : slP false (.tup [.int a', .int j', .int o]) none (some 2) M' = .ok (.tup [.int a', .int j']) M' := rfl
      have e2 : eqP true (.tup [.int a', .int j']) (.tup [.int a', .int j']) M' = .ok (.bl false) M' := by
        have hpl : Pl deep (.tup [.int a', .int j']) := by
          intro y hy
          simp only [List.mem_cons, List.not_mem_nil, or_false] at hy
          rcases hy with rfl | rfl <;> exact pl_int _
        rw [eqP_pl (p := True) hpl hpl (by simp)]
        rfl
      simp [e1, e2, gtP]
      by_cases h0 : k = 0
      · simp [h0]
      · have h1 : (0 : Int) < k := by omega
        intro _
        exact hc1 (by simp [h0])
    refine sset_w (.tup ((Pc.at ps a').js.map .int)) M' (by simp [ix_ps hc2, sl1]) ?_
    dsimp only [List.set_cons_succ, List.set_cons_zero]
    refine seq_w (if_f M' ?_ (nx_w (seq1_nx ?_)))
    · have h1 : ¬ j' = o := fun e => hc3.ne e.symm
      simp [h1, hc3.mem, lenP]
      by_cases h3 : (Pc.at ps a').js.length = 3
      · obtain ⟨t, ts, ht⟩ : ∃ t ts, (Pc.at ps a').js = t :: ts := by
          cases e : (Pc.at ps a').js with
          | nil => rw [e] at h3; cases h3
          | cons t ts => exact ⟨t, ts, rfl⟩
        have h4 := hc3.tip h3
        rw [ht] at h4 h3
        have h5 : t = j' ∨ t = o := by simpa using h4
        rw [ht]
        have e3 : inP true (.int t) (.tup [.int j', .int o]) M' = .ok (.bl false) M' := by
          rw [show (PV.tup [.int j', .int o]) = .tup ([j', o].map .int) from rfl, inP_intt]
          simp [h5]
        have h6 : ((ts.length : Int) + 1 = 3) := by simp at h3; omega
        simp [h6, e3]
      · have h6 : ¬ (((Pc.at ps a').js.length : Int) = 3) := by omega
        simp [h6]
    refine sset_w (.int o) M' (by simp) ?_
    dsimp only [List.set_cons_succ, List.set_cons_zero]
    refine set_w (encO (beyond ps a' o)) M' (by simp [hb ps a' o _ (by omega)]) (body_nx trivial ⟨o, beyond ps a' o, _, _, _, rfl, rfl, ?_⟩)
    rw [List.length_append, List.length_singleton, ← hkp]
    simpa using hc4
  · rintro ρ' M' ⟨j, a, y5, y6, y7, rfl, rfl, hc⟩
    rw [List.length_range, List.drop_length] at hc
    refine seq1_nx (sset_w (.lst (w.map fun s => PV.int s.1)) M' ?_ ?_)
    · rw [dComp_pure (xs := w) (w := none) (M' := M') encSt (fun _ => true) (fun s => PV.int s.1) (fun ρ => ∃ y, ρ = [y]) (iL_lst (by simp)) trivial ⟨none, rfl⟩ (fun x _ ρ hρ => ?_) (Nat.le_trans hlen (Nat.le_trans hf (by decide)))]
      · rw [List.filter_eq_self.mpr (fun _ _ => rfl), mkL_lit (by rw [List.length_map]; omega)]
      · obtain ⟨y, rfl⟩ := hρ
        exact ⟨_, rfl, ⟨_, rfl⟩, rfl, fun _ => by simp [encSt]⟩
    dsimp only [List.set_cons_succ, List.set_cons_zero]
    have hnd : (w.map fun s => ((s.1 : Nat) : Int)).Nodup := by
      have h1 := hr.nd
      dsimp only at h1
      rw [show (w.map fun s => ((s.1 : Nat) : Int)) = (w.map (·.1)).map (fun n : Nat => (n : Int)) by simp]
      exact List.Pairwise.map _ (fun a b h e => h (by omega)) h1
    have hls : dLenSet (dVar 8) [some (encPs ps), some (encSs ss), some (.tup [.int n, encW w]), some (.int j), some (encO a), y5, y6, y7, some (.lst (w.map fun s => PV.int s.1))] M' = .ok (.int w.length) M' := by
      unfold dLenSet
      simp only [dVar_eq, List.getElem?_cons_succ, List.getElem?_cons_zero, bind_ok, seqL_lst]
      rw [show (w.map fun s => PV.int s.1) = (w.map fun s => ((s.1 : Nat) : Int)).map PV.int by simp]
      simp only [Option.bind_some, ints_map]
      rw [if_pos (by rw [List.length_map]; omega), setN_nodup hnd, List.length_map]
    have hwl : 0 < w.length := List.length_pos_iff.mpr hr.ne
    refine ret_w (.bl true) M' ?_ (fin_rt rfl)
    rw [dAndV_eq, dChain_eq, hls]
    simp [lenP, gtP, intP, hwl]
    cases a with
    | none => simp [encO, isP, isNon]
    | some b =>
      have := hc b rfl
      simp [encO, isP, isNon, this]
end Sb
end
section
set_option Elab.async false
set_option linter.all false
set_option maxRecDepth 100000
set_option maxHeartbeats 4000000
namespace L2
open PySem
theorem putF_w {Q : Out → Prop} {C : Addr} {f : Str} {do' dv : DE} {ρ : Rho} {M : Sto} (y : PV) (M1 : Sto) (n : Nat) (fs fs' : List (Str × PV)) (h : dv ρ M = .ok y M1) (ho : do' ρ M1 = .ok (.obj n) M1) (hn : M1[n]? = some (.ins C fs)) (hl : fs.length < 1000) (hf : putFP f y fs = fs')
    (q : Q (.nx ρ (M1.set n (.ins C fs')))) : Q (dPutF C f do' dv ρ M) := by
  unfold dPutF
  rw [h, Res.out_ok, ho, Res.out_ok, onI_obj hn]
  dsimp only
  rw [if_pos hl, hf]
  exact q
theorem putF_y {Q : Out → Prop} {c : Addr} {f : Str} {dv : DE} {ρ : Rho} {M G G' : Sto} {fs : List (Str × PV)} {s2 : DS} (y : PV) (fs' : List (Str × PV)) (h0 : ρ[0]? = some (some (.obj M.length))) (h : dv ρ (M ++ .ins c fs :: G) = .ok y (M ++ .ins c fs :: G')) (hl : fs.length < 1000) (hf : putFP f y fs = fs')
    (q : Q (.nx ρ (M ++ .ins c fs' :: G'))) : Q (dPutF c f (dVar 0) dv ρ (M ++ .ins c fs :: G)) := by
  refine putF_w y _ M.length fs fs' h (by rw [dVar_eq, h0]) (by simp) hl hf ?_
  rw [set_mid]
  exact q
theorem compD_grow {α : Type} {g : DG} {tc : DT} {d : DE} (enc : α → PV) (f : Nat → α → PV) (o : α → MO) (R : Rho → Prop) :
    ∀ (xs : List α) (ρ : Rho) (M : Sto) (acc : List PV), R ρ → (∀ x ∈ xs, ∀ ρ M, R ρ → ∃ ρ1, g (enc x) ρ = some ρ1 ∧ R ρ1 ∧ tc ρ1 M = .ok true M ∧ d ρ1 M = .ok (f M.length x) (M ++ [o x])) → acc.length + xs.length ≤ lim →
      compD none g tc d (xs.map enc) ρ M acc = .ok (acc ++ (xs.zipIdx M.length).map fun q => f q.2 q.1) (M ++ xs.map o)
  | [], ρ, M, acc, _, _, _ => by simp [compD]
  | x :: xs, ρ, M, acc, hR, h, hl => by
    obtain ⟨ρ1, h1, h2, h3, h4⟩ := h x (by simp) ρ M hR
    simp only [List.length_cons] at hl
    rw [List.map_cons, compD, h1]
    dsimp only
    rw [h3, Res.bindN_ok, if_pos rfl, h4, Res.bindN_ok, if_pos ⟨trivial, by omega⟩, compD_grow enc f o R xs ρ1 _ _ h2 (fun y hy => h y (by simp [hy])) (by simp; omega)]
    simp
theorem dComp_grow {α : Type} {live : Bool} {cap : List (Option Nat)} {di : DI} {g : DG} {tc : DT} {d : DE} {ρ : Rho} {M M' : Sto} {xs : List α} (enc : α → PV) (f : Nat → α → PV) (o : α → MO) (R : Rho → Prop)
    (hi : di ρ M = .ok (xs.map enc, none) M') (hR : R (capR cap ρ)) (h : ∀ x ∈ xs, ∀ ρ M, R ρ → ∃ ρ1, g (enc x) ρ = some ρ1 ∧ R ρ1 ∧ tc ρ1 M = .ok true M ∧ d ρ1 M = .ok (f M.length x) (M ++ [o x])) (hl : xs.length ≤ lim) :
    dComp live cap di g tc d ρ M = mkL live ((xs.zipIdx M'.length).map fun q => f q.2 q.1) (M' ++ xs.map o) := by
  unfold dComp
  rw [hi, bind_ok, if_pos (show chk none M' from trivial), compD_grow enc f o R xs _ _ _ hR h (by simpa using hl)]
  simp
end L2
namespace Sb
open PySem L2
def yardFs (L : Nat) (ps : Pcs) (ss : List Sg) (rs : List Rt) (wait : Int) : List (Str × PV) :=
  [("found", encRs rs), ("pieces", encPs ps), ("signals", encSs ss), ("wait", .int wait), ("ticks", .int 0), ("locks", .obj (L + 1)), ("lying", .obj (L + 2)), ("greens", .obj (L + 3)), ("falls", .obj (L + 4)), ("trains", .obj (L + 5))]
def yardNew (c : Addr) (L : Nat) (ps : Pcs) (ss : List Sg) (rs : List Rt) (wait : Int) : Sto :=
  [.ins c (yardFs L ps ss rs wait), .dct [], .lst (ps.map fun _ => .str "straight"), .dct [], .dct [], .dct []]
theorem s_Yard_init {c : Addr} {gr : D1} (hr : RoutesSpec gr) {ps : Pcs} {ss : List Sg} (hg : GoodY ps ss) (wait : Int) (M : Sto) : dfn_Yard_init c gr [.obj M.length, encPs ps, encSs ss, .int wait] (M ++ [.ins c []]) = .ok .non (M ++ yardNew c M.length ps ss (routesF ps ss) wait) := by
  have hps := hg.few
  have hss := hg.fews
  unfold dfn_Yard_init
  refine fn_w (P := fun r => r = .ok .non (M ++ yardNew c M.length ps ss (routesF ps ss) wait)) ?_
  simp only [List.map_cons, List.map_nil, List.length_cons, List.length_nil, Nat.zero_add, Nat.reduceAdd, Nat.reduceSub, List.replicate, List.cons_append, List.nil_append, List.append_nil]
  unfold den_Yard_init
  generalize hrs : routesF ps ss = rs
  have hly : ∀ N : Sto, dComp true [none] (iL (dVar 1)) (gN 0) dTT (dC (.str "straight")) [some (.obj M.length), some (encPs ps), some (encSs ss), some (.int wait)] N = .ok (.obj N.length) (N ++ [.lst (ps.map fun _ => .str "straight")]) := fun N => by
    rw [dComp_pure (xs := ps) (w := none) (M' := N) Pc.enc (fun _ => true) (fun _ => .str "straight") (fun ρ => ∃ y, ρ = [y]) (iL_lst (by simp)) trivial ⟨none, rfl⟩ (fun x _ ρ hρ => by
      obtain ⟨y, rfl⟩ := hρ
      exact ⟨_, rfl, ⟨_, rfl⟩, rfl, fun _ => rfl⟩) (Nat.le_trans hps (by decide)), List.filter_eq_self.mpr (fun _ _ => rfl), mkL_live (by rw [List.length_map]; exact Nat.le_trans hps (by decide))]
  refine seq_w (putF_y (M := M) (G' := []) (s2 := dNx) (encRs rs) [("found", encRs rs)] rfl (by simp [hr ps ss _ hg, hrs]) (by show 0 < 1000; decide) (by with_unfolding_all rfl) (seq1_nx ?_))
  refine seq_w (putF_y (M := M) (G' := []) (s2 := dNx) (encPs ps) [("found", encRs rs), ("pieces", encPs ps)] rfl (by simp [listP]; exact mkL_lit (by simp; omega)) (by show 1 < 1000; decide) (by with_unfolding_all rfl) (seq1_nx ?_))
  refine seq_w (putF_y (M := M) (G' := []) (s2 := dNx) (encSs ss) [("found", encRs rs), ("pieces", encPs ps), ("signals", encSs ss)] rfl (by simp [listP]; exact mkL_lit (by simp; omega)) (by show 2 < 1000; decide) (by with_unfolding_all rfl) (seq1_nx ?_))
  refine seq_w (putF_y (M := M) (G' := []) (s2 := dNx) (.int wait) [("found", encRs rs), ("pieces", encPs ps), ("signals", encSs ss), ("wait", .int wait)] rfl (rfl) (by show 3 < 1000; decide) (by with_unfolding_all rfl) (seq1_nx ?_))
  refine seq_w (putF_y (M := M) (G' := []) (s2 := dNx) (.int 0) [("found", encRs rs), ("pieces", encPs ps), ("signals", encSs ss), ("wait", .int wait), ("ticks", .int 0)] rfl (rfl) (by show 4 < 1000; decide) (by with_unfolding_all rfl) (seq1_nx ?_))
  refine seq_w (putF_y (M := M) (G' := [.dct []]) (s2 := dNx) (.obj (M.length + 1)) [("found", encRs rs), ("pieces", encPs ps), ("signals", encSs ss), ("wait", .int wait), ("ticks", .int 0), ("locks", .obj (M.length + 1))] rfl (by simp [dDic0]) (by show 5 < 1000; decide) (by with_unfolding_all rfl) (seq1_nx ?_))
  refine seq_w (putF_y (M := M) (G' := [.dct [], .lst (ps.map fun _ => .str "straight")]) (s2 := dNx) (.obj (M.length + 2)) [("found", encRs rs), ("pieces", encPs ps), ("signals", encSs ss), ("wait", .int wait), ("ticks", .int 0), ("locks", .obj (M.length + 1)), ("lying", .obj (M.length + 2))] rfl (by rw [hly]; simp) (by show 6 < 1000; decide) (by with_unfolding_all rfl) (seq1_nx ?_))
  refine seq_w (putF_y (M := M) (G' := [.dct [], .lst (ps.map fun _ => .str "straight"), .dct []]) (s2 := dNx) (.obj (M.length + 3)) [("found", encRs rs), ("pieces", encPs ps), ("signals", encSs ss), ("wait", .int wait), ("ticks", .int 0), ("locks", .obj (M.length + 1)), ("lying", .obj (M.length + 2)), ("greens", .obj (M.length + 3))] rfl (by simp [dDic0]) (by show 7 < 1000; decide) (by with_unfolding_all rfl) (seq1_nx ?_))
  refine seq_w (putF_y (M := M) (G' := [.dct [], .lst (ps.map fun _ => .str "straight"), .dct [], .dct []]) (s2 := dNx) (.obj (M.length + 4)) [("found", encRs rs), ("pieces", encPs ps), ("signals", encSs ss), ("wait", .int wait), ("ticks", .int 0), ("locks", .obj (M.length + 1)), ("lying", .obj (M.length + 2)), ("greens", .obj (M.length + 3)), ("falls", .obj (M.length + 4))] rfl (by simp [dDic0]) (by show 8 < 1000; decide) (by with_unfolding_all rfl) (seq1_nx ?_))
  exact putF_y (M := M) (G' := [.dct [], .lst (ps.map fun _ => .str "straight"), .dct [], .dct [], .dct []]) (s2 := dNx) (.obj (M.length + 5)) [("found", encRs rs), ("pieces", encPs ps), ("signals", encSs ss), ("wait", .int wait), ("ticks", .int 0), ("locks", .obj (M.length + 1)), ("lying", .obj (M.length + 2)), ("greens", .obj (M.length + 3)), ("falls", .obj (M.length + 4)), ("trains", .obj (M.length + 5))] rfl (by simp [dDic0]) (by show 9 < 1000; decide) (by with_unfolding_all rfl) (fin_nx rfl)
def toldP (L : Nat) (rs : List Rt) : List PV := (rs.zipIdx L).map fun q => .tup [.int q.1.1, .obj q.2]
def toldM (rs : List Rt) : Sto := rs.map fun r => .lst (r.2.map encSt)
theorem s_Yard_ways {c : Addr} {M : Sto} {n : Nat} {fs : List (Str × PV)} {rs : List Rt} (hn : M[n]? = some (.ins c fs)) (hf : fs.lookup (Str.ofString "found") = some (encRs rs)) (hl : rs.length ≤ 2097152) (hw : ∀ r ∈ rs, r.2.length ≤ 100) :
    dfn_Yard_ways c [.obj n] M = .ok (.obj (M.length + rs.length)) (M ++ toldM rs ++ [.lst (toldP M.length rs)]) := by
  unfold dfn_Yard_ways
  refine fn_w (P := fun r => r = .ok (.obj (M.length + rs.length)) (M ++ toldM rs ++ [.lst (toldP M.length rs)])) ?_
  unfold den_Yard_ways
  refine ret_w (.obj (M.length + rs.length)) (M ++ toldM rs ++ [.lst (toldP M.length rs)]) ?_ (fin_rt rfl)
  rw [dComp_grow (xs := rs) (M' := M) encR (fun L r => .tup [.int r.1, .obj L]) (fun r => .lst (r.2.map encSt)) (fun ρ => ∃ y z, ρ = [y, z]) (iL_lst (by
    unfold dFld
    simp [onI, hn, hf])) ⟨none, none, rfl⟩ (fun r hr ρ M hρ => ?_) (Nat.le_trans hl (by decide))]
  · rw [mkL_live (by simp; exact Nat.le_trans hl (by decide))]
    simp [toldM, toldP]
  · obtain ⟨y, z, rfl⟩ := hρ
    refine ⟨_, gT2, ⟨_, _, rfl⟩, rfl, ?_⟩
    simp [listP]
    rw [mkL_live (by simp; exact Nat.le_trans (hw r hr) (by decide))]
    rfl
theorem flat_tupS {M : Sto} {k : Nat} {xs : List PV} : flat M (k + 1) (.tup xs) = (mapO (flat M k) xs).map .tuple := rfl
theorem flat_objS {M : Sto} {k n : Nat} {xs : List PV} (h : M[n]? = some (.lst xs)) : flat M (k + 1) (.obj n) = (mapO (flat M k) xs).map .list := by simp only [flat, h]
theorem flat_intS {M : Sto} {k : Nat} {i : Int} : flat M k (.int i) = some (.int i) := by cases k <;> rfl
theorem told_flat {M : Sto} : ∀ (rs : List Rt) (L : Nat), (∀ i r, rs[i]? = some r → M[L + i]? = some (.lst (r.2.map encSt))) → mapO (flat M 9) (toldP L rs) = some ((rs.map encR).map (flatP 9))
  | [], L, _ => rfl
  | r :: rs, L, h => by
    have ih := told_flat rs (L + 1) fun i r' hi => by
      have := h (i + 1) r' (by simpa using hi)
      rwa [show L + (i + 1) = L + 1 + i by omega] at this
    have h0 := h 0 r rfl
    unfold toldP at ih ⊢
    rw [List.zipIdx_cons, List.map_cons, mapO, ih]
    have hst : ∀ k, ∀ s ∈ r.2.map encSt, Pl (k + 1) s := fun k s hs => by
      obtain ⟨t, _, rfl⟩ := List.mem_map.mp hs
      intro y hy
      simp only [List.mem_cons, List.not_mem_nil, or_false] at hy
      rcases hy with rfl | rfl | rfl <;> exact pl_int _
    have e1 : flat M 9 (.tup [.int r.1, .obj L]) = some (flatP 9 (encR r)) := by
      have hpl : ∀ y ∈ [PV.int r.1, encW r.2], Pl 8 y := fun y hy => by
        simp only [List.mem_cons, List.not_mem_nil, or_false] at hy
        rcases hy with rfl | rfl
        · exact pl_int _
        · exact hst 6
      unfold encR
      rw [flatP_tup hpl]
      rw [flat_tupS (k := 8), mapO, mapO, mapO, flat_intS, flat_objS (k := 7) (show M[L]? = _ from h0), mapO_map (g := flatP 7) fun s hs => flat_pl 7 s (hst 6 s hs)]
      simp [flatP_int, flatP_lst (hst 6)]
    rw [e1]
    rfl
theorem pl_rs (rs : List Rt) : Pl deep (encRs rs) := by
  intro r hr
  obtain ⟨r, _, rfl⟩ := List.mem_map.mp hr
  intro y hy
  simp only [List.mem_cons, List.not_mem_nil, or_false] at hy
  rcases hy with rfl | rfl
  · exact pl_int _
  · intro s hs
    obtain ⟨t, _, rfl⟩ := List.mem_map.mp hs
    intro y hy
    simp only [List.mem_cons, List.not_mem_nil, or_false] at hy
    rcases hy with rfl | rfl | rfl <;> exact pl_int _
theorem told_eq {neg : Bool} {M : Sto} {rs : List Rt} {n L : Nat} (hn : M[n]? = some (.lst (toldP L rs))) (h : ∀ i r, rs[i]? = some r → M[L + i]? = some (.lst (r.2.map encSt))) : eqP neg (.obj n) (encRs rs) M = .ok (.bl (!neg)) M := by
  have h1 : flat M deep (.obj n) = some (flatP deep (encRs rs)) := by
    rw [flat_objS (k := 9) hn, told_flat rs L h, flatP_lst (fun y hy => pl_rs rs y hy)]
    rfl
  unfold eqP
  rw [h1, flat_pl deep _ (pl_rs rs)]
  dsimp only
  rw [(eqv_pl deep _ _ (pl_rs rs) (pl_rs rs)).mpr rfl]
  cases neg <;> rfl
end Sb
end
section
set_option Elab.async false
set_option linter.all false
set_option maxRecDepth 100000
set_option maxHeartbeats 4000000
namespace Sb
open PySem L2
theorem pl_ps (ps : Pcs) {k : Nat} : Pl (k + 2) (encPs ps) := by
  intro r hr
  obtain ⟨p, _, rfl⟩ := List.mem_map.mp hr
  cases p with
  | pl a b =>
    intro y hy
    simp only [List.mem_cons, List.not_mem_nil, or_false] at hy
    rcases hy with rfl | rfl | rfl
    · cases k <;> (show PyData.canLay0 (.str "plain") = true; decide +kernel)
    · exact pl_int _
    · exact pl_int _
  | pt a b c =>
    intro y hy
    simp only [List.mem_cons, List.not_mem_nil, or_false] at hy
    rcases hy with rfl | rfl | rfl | rfl
    · cases k <;> (show PyData.canLay0 (.str "points") = true; decide +kernel)
    · exact pl_int _
    · exact pl_int _
    · exact pl_int _
theorem pl_ss (ss : List Sg) {k : Nat} : Pl (k + 2) (encSs ss) := by
  intro r hr
  obtain ⟨p, _, rfl⟩ := List.mem_map.mp hr
  intro y hy
  simp only [List.mem_cons, List.not_mem_nil, or_false] at hy
  rcases hy with rfl | rfl <;> exact pl_int _
theorem eq_self {neg : Bool} {x : PV} {M : Sto} (h : Pl deep x) : eqP neg x x M = .ok (.bl (!neg)) M := by
  rw [eqP_pl (p := True) h h (by simp)]
  cases neg <;> rfl
def InitSpec (c : Addr) (g : D1) : Prop := ∀ ps ss (wait : Int) (M : Sto), GoodY ps ss → g [.obj M.length, encPs ps, encSs ss, .int wait] (M ++ [.ins c []]) = .ok .non (M ++ yardNew c M.length ps ss (routesF ps ss) wait)
def WaysSpec (c : Addr) (g : D1) : Prop := ∀ (M : Sto) (n : Nat) (fs : List (Str × PV)) (rs : List Rt), M[n]? = some (.ins c fs) → fs.lookup (Str.ofString "found") = some (encRs rs) → rs.length ≤ 2097152 → (∀ r ∈ rs, r.2.length ≤ 100) →
  g [.obj n] M = .ok (.obj (M.length + rs.length)) (M ++ toldM rs ++ [.lst (toldP M.length rs)])
theorem met0_ok {c : Addr} {m : Str} {g : D1} {d : DE} {ρ : Rho} {M M' : Sto} {n : Nat} {fs : List (Str × PV)} {x : PV} (hd : d ρ M = .ok (.obj n) M) (hn : M[n]? = some (.ins c fs)) (hf : fs.lookup m = none) (hg : g [.obj n] M = .ok x M') : dMet c m g d [] ρ M = .ok x M' := by
  unfold dMet
  rw [hd, bind_ok, onI_obj hn]
  dsimp only
  rw [hf]
  simp [hg]
theorem routes_len (ps : Pcs) (ss : List Sg) (h : ss.length ≤ 16) : (routesF ps ss).length ≤ 2097152 := by
  have h1 := flat_len (List.range ss.length) fun k _ => fromF_len ps ss k
  rw [List.length_range] at h1
  unfold routesF
  omega
theorem s_law_k02 {c : Addr} {gp gs gr gir glr gin gw : D1} (hp : PcsSpec gp) (hs : SigSpec gs) (hr : RoutesSpec gr) (hir : RouteSpec gir) (hlr : RoutesSpec glr) (hin : InitSpec c gin) (hw : WaysSpec c gw) (ns : List Int) (M : Sto) :
    ∃ M', dfn_law_k02 c gp gs gr gir glr gin gw [.scr ns] M = .ok (.bl true) M' := by
  obtain ⟨ps, hgp, ep⟩ := hp ns 0 M
  obtain ⟨ss, hg, es⟩ := hs ns 40 ps M hgp
  have hps := hg.few
  have hss := hg.fews
  have hrl := routes_len ps ss hss
  have hrw : ∀ r ∈ routesF ps ss, r.2.length ≤ 100 := fun r h => by have := (route_ok hg h).len; omega
  unfold dfn_law_k02
  refine fn_w (P := fun r => ∃ M', r = .ok (.bl true) M') ?_
  simp only [List.map_cons, List.map_nil, List.length_cons, List.length_nil, Nat.zero_add, Nat.reduceAdd, Nat.reduceSub, List.replicate, List.cons_append, List.nil_append]
  unfold den_law_k02
  refine sset_w (encPs ps) M (by simp [ep]) ?_
  dsimp only [List.set_cons_succ, List.set_cons_zero]
  refine sset_w (encSs ss) M (by simp [es]) ?_
  dsimp only [List.set_cons_succ, List.set_cons_zero]
  refine sset_w (.tup [encPs ps, encSs ss]) M ?_ ?_
  · have e1 : listP false [encPs ps] M = .ok (encPs ps) M := by simp [listP]; exact mkL_lit (by simp; omega)
    have e2 : listP false [encSs ss] M = .ok (encSs ss) M := by simp [listP]; exact mkL_lit (by simp; omega)
    simp [e1, e2]
  dsimp only [List.set_cons_succ, List.set_cons_zero]
  refine sset_w (encRs (routesF ps ss)) M (by simp [hr ps ss M hg]) ?_
  dsimp only [List.set_cons_succ, List.set_cons_zero]
  have hok := fun r h => route_ok (r := r) hg h
  have hin' := hin ps ss 0 M hg
  have hlr' := hlr ps ss M hg
  clear hr hin hlr hp hs
  generalize hrs : routesF ps ss = rs at *
  refine seq_w (if_f M ?_ (nx_w (seq1_nx ?_)))
  · simp only [dOr_eq, dNot_eq, dTru_eq]
    rw [dIsT_ok (x := encRs rs) (M' := M) (t := "list") (k := true) rfl rfl (by decide)]
    simp only [bind_ok, truP, opt_some, Bool.not_true, Bool.false_eq_true, if_false]
    simp only [dCall_eq, dArgs_cons, dArgs_nil]
    rw [dComp_pure (xs := rs) (w := none) (M' := M) encR (fun _ => true) (fun _ => .bl true) (fun ρ => ∃ y, ρ = [y, some (encPs ps), some (encSs ss)]) (iL_lst (by simp)) trivial ⟨none, rfl⟩ (fun x hx ρ hρ => by
      obtain ⟨y, rfl⟩ := hρ
      exact ⟨_, rfl, ⟨_, rfl⟩, rfl, fun _ => by simp [hir ps ss x _ hg (hok x hx)]⟩) (Nat.le_trans hrl (by decide)), List.filter_eq_self.mpr (fun _ _ => rfl), mkL_tree (by rw [List.length_map]; exact Nat.le_trans hrl (by decide))]
    have : bools (rs.map fun _ => PV.bl true) = some (rs.map fun _ => true) := bools_map (fun _ => true) rs
    simp [allP, this, truP]
  refine seq_w (if_f M ?_ (nx_w (seq1_nx ?_)))
  · have e1 : eqP true (encRs rs) (encRs rs) M = .ok (.bl false) M := eq_self (pl_rs rs)
    have e2 : eqP true (.tup [encPs ps, encSs ss]) (.tup [encPs ps, encSs ss]) M = .ok (.bl false) M := eq_self (by
      intro y hy
      simp only [List.mem_cons, List.not_mem_nil, or_false] at hy
      rcases hy with rfl | rfl
      · exact pl_ps ps
      · exact pl_ss ss)
    simp [hlr', e1, e2]
  refine sset_w (.obj M.length) (M ++ yardNew c M.length ps ss rs 0) ?_ ?_
  · unfold dMake
    simp [hin']
  dsimp only [List.set_cons_succ, List.set_cons_zero]
  have hM1 : (M ++ yardNew c M.length ps ss rs 0)[M.length]? = some (.ins c (yardFs M.length ps ss rs 0)) := by simp [yardNew]
  have hle : M.length < (M ++ yardNew c M.length ps ss rs 0).length := by simp [yardNew]
  generalize M ++ yardNew c M.length ps ss rs 0 = M1 at hM1 hle ⊢
  have hfo : (yardFs M.length ps ss rs 0).lookup (Str.ofString "found") = some (encRs rs) := by with_unfolding_all rfl
  have hwa : (yardFs M.length ps ss rs 0).lookup (Str.ofString "ways") = none := by with_unfolding_all rfl
  generalize yardFs M.length ps ss rs 0 = fs at hM1 hfo hwa
  generalize M.length = y at hM1 hle ⊢
  refine sset_w (.obj (M1.length + rs.length)) (M1 ++ toldM rs ++ [MO.lst (toldP M1.length rs)]) (met0_ok rfl hM1 hwa (hw M1 y fs rs hM1 hfo hrl hrw)) ?_
  dsimp only [List.set_cons_succ, List.set_cons_zero]
  have htl : (toldM rs).length = rs.length := by simp [toldM]
  have hlast : ∀ (T : Sto) (o : MO), T.length = rs.length → (M1 ++ T ++ [o])[M1.length + rs.length]? = some o := fun T o h => by
    rw [← h, ← List.length_append, get_last]
  refine seq_w (if_f _ (by
    simp only [dTst_eq, dOp_eq, dVar_eq, List.getElem?_cons_succ, List.getElem?_cons_zero, bind_ok]
    rw [told_eq (hlast _ _ htl) fun i r hi => ?_]
    · rfl
    · rw [List.append_assoc, List.getElem?_append_right (by omega), Nat.add_sub_cancel_left, List.getElem?_append_left (by rw [htl]; exact (List.getElem?_eq_some_iff.mp hi).1)]
      simp [toldM, hi]) (nx_w (seq1_nx ?_)))
  refine seq_w (for_w (fun q : Rt × Nat => .tup [.int q.1.1, .obj q.2]) (fun pre ρ M' => ∃ (y7 : Option PV) (T : Sto), ρ = [some (.scr ns), some (encPs ps), some (encSs ss), some (.tup [encPs ps, encSs ss]), some (encRs rs), some (.obj y), some (.obj (M1.length + rs.length)), y7] ∧
    M' = M1 ++ T ++ [MO.lst (toldP M1.length rs)] ∧ T.length = rs.length ∧ ∀ i, pre.length ≤ i → T[i]? = (toldM rs)[i]?) (rs.zipIdx M1.length) (some (M1.length + rs.length, MO.lst (toldP M1.length rs))) (M1 ++ toldM rs ++ [MO.lst (toldP M1.length rs)])
    (iL_obj rfl (hlast _ _ htl)) (hlast _ _ htl) ⟨none, toldM rs, rfl, rfl, htl, fun _ _ => rfl⟩ ?_ ?_)
  · rintro pre q post hx ρ M' ⟨y7, T, rfl, rfl, hT, hTi⟩
    have hq : (rs.zipIdx M1.length)[pre.length]? = some q := by rw [hx]; simp
    rw [List.getElem?_zipIdx] at hq
    obtain ⟨r, hr, rfl⟩ := Option.map_eq_some_iff.mp hq
    have hpl : pre.length < rs.length := (List.getElem?_eq_some_iff.mp hr).1
    have hTr : T[pre.length]? = some (MO.lst (r.2.map encSt)) := by rw [hTi _ (Nat.le_refl _)]; simp [toldM, hr]
    have hMr : (M1 ++ T ++ [MO.lst (toldP M1.length rs)])[M1.length + pre.length]? = some (MO.lst (r.2.map encSt)) := by
      rw [List.append_assoc, List.getElem?_append_right (by omega), Nat.add_sub_cancel_left, List.getElem?_append_left (by omega)]
      exact hTr
    have hset : ∀ o, (M1 ++ T ++ [MO.lst (toldP M1.length rs)]).set (M1.length + pre.length) o = M1 ++ T.set pre.length o ++ [MO.lst (toldP M1.length rs)] := fun o => by
      rw [List.append_assoc, List.set_append_right _ _ (by omega), Nat.add_sub_cancel_left, List.set_append_left _ _ (by omega), List.append_assoc]
    have hrl2 := hrw r (List.mem_of_getElem? hr)
    refine ⟨_, rfl, ?_⟩
    dsimp only [List.set_cons_succ, List.set_cons_zero]
    refine drop_w .non (M1 ++ T.set pre.length (MO.lst (r.2.map encSt ++ [PV.tup [.int 0, .int 0, .int 0]])) ++ [MO.lst (toldP M1.length rs)]) ?_ (body_nx (hlast _ _ (by simp [hT])) ⟨_, T.set pre.length (MO.lst (r.2.map encSt ++ [PV.tup [.int 0, .int 0, .int 0]])), rfl, rfl, by simp [hT], fun i hi => ?_⟩)
    · simp only [dMeth_eq, dOp_eq, dVar_eq, dC_eq, List.getElem?_cons_succ, List.getElem?_cons_zero, bind_ok, ix_t1, seqL_obj, hMr, dArgs_cons, dArgs_nil, dTup_eq, appendP, onL]
      rw [if_pos (by rw [List.length_map]; exact Nat.lt_of_le_of_lt hrl2 (by decide)), hset]
    · rw [List.length_append, List.length_singleton] at hi
      rw [List.getElem?_set_ne (by omega)]
      exact hTi i (by omega)
  · rintro ρ' M' ⟨y7, T, rfl, rfl, hT, hTi⟩
    refine seq1_nx (seq_w (drop_w .non (M1 ++ T ++ [MO.lst (toldP M1.length rs ++ [PV.tup [.int 0, .lst []]])]) ?_ (seq1_nx ?_)))
    · have hset : (M1 ++ T ++ [MO.lst (toldP M1.length rs)]).set (M1.length + rs.length) (MO.lst (toldP M1.length rs ++ [PV.tup [.int 0, .lst []]])) = M1 ++ T ++ [MO.lst (toldP M1.length rs ++ [PV.tup [.int 0, .lst []]])] := by
        rw [← hT, ← List.length_append, set_last]
      have htp : (toldP M1.length rs).length < lim := by
        simp [toldP]
        exact Nat.lt_of_le_of_lt hrl (by decide)
      simp only [dMeth_eq, dVar_eq, dC_eq, List.getElem?_cons_succ, List.getElem?_cons_zero, bind_ok, seqL_obj, hlast _ _ hT, dArgs_cons, dArgs_nil, dTup_eq, dLst_eq, appendP, onL]
      rw [mkL_lit (by decide)]
      simp only [bind_ok, hlast _ _ hT, hset]
      rw [if_pos htp]
    · generalize hM3 : M1 ++ T ++ [MO.lst (toldP M1.length rs ++ [PV.tup [.int 0, .lst []]])] = M3
      have hn3 : M3[y]? = some (.ins c fs) := by
        rw [← hM3, List.append_assoc, List.getElem?_append_left hle]
        exact hM1
      refine ret_w (.bl true) (M3 ++ toldM rs ++ [MO.lst (toldP M3.length rs)]) ?_ (fin_rt ⟨_, rfl⟩)
      rw [dOp_eq, met0_ok rfl hn3 hwa (hw M3 y fs rs hn3 hfo hrl hrw)]
      simp only [bind_ok, dVar_eq, List.getElem?_cons_succ, List.getElem?_cons_zero]
      rw [told_eq (neg := false) (by rw [← htl, ← List.length_append, get_last]) fun i r hi => ?_]
      · rfl
      · rw [List.append_assoc, List.getElem?_append_right (by omega), Nat.add_sub_cancel_left, List.getElem?_append_left (by rw [htl]; exact (List.getElem?_eq_some_iff.mp hi).1)]
        simp [toldM, hi]
end Sb
end
section
set_option Elab.async false
set_option linter.all false
set_option maxRecDepth 100000
set_option maxHeartbeats 4000000
namespace Rw
open PySem L2 Sb
def top (i : Nat) : Stmt := PySem.Challenge.pw_signalbox_k02_whole_routes.main.body.getD i (.Pass ⟨0, 0, 0, 0⟩)
section
variable {P : Program} {w : World} {K : PySem.W.Frag} {mg : Str → Option Value} {base : Heap}
abbrev s_joints_of : Stmt := top 8
theorem sc_joints_of : FnScope ["piece"] ["piece"] (defScope s_joints_of) := ⟨rfl, rfl, rfl, by decide +kernel, rfl, by decide +kernel, by decide +kernel⟩
theorem dv_joints_of {k : Nat}   (D : DefAt K mg "joints_of" s_joints_of ["piece"]) (h_list : mg "list" = none)
     :
    FnV P w K mg base (k + 1) "joints_of" 1 (dfn_joints_of ) :=
  FnV.of D sc_joints_of fun f cdv A outer s H E hr => by
  have G := good_fn (P := P) (w := w) (K := K) (mg := mg) (base := base) (outer := outer) (H := H) (E := E) sc_joints_of hr
  exact
    (vss_one (vs_ret (ve_callTy (call_listP false) h_list blt_list (vn_cons (ve_sl false (ve_var 0) (vo_some ve_int) vo_none) vn_nil))))
abbrev s_pieces_at : Stmt := top 9
theorem sc_pieces_at : FnScope ["pieces", "joint"] ["pieces", "joint"] (defScope s_pieces_at) := ⟨rfl, rfl, rfl, by decide +kernel, rfl, by decide +kernel, by decide +kernel⟩
theorem nd_pieces_at_0 : (["number", "piece", "joint"] : List Str).Nodup := by decide +kernel
theorem dv_pieces_at {k : Nat}  {g_joints_of : D1} (D : DefAt K mg "pieces_at" s_pieces_at ["pieces", "joint"]) (h_enumerate : mg "enumerate" = none)
    (F_joints_of : FnV P w K mg base k "joints_of" 1 g_joints_of) :
    FnV P w K mg base (k + 1) "pieces_at" 2 (dfn_pieces_at g_joints_of) :=
  FnV.of D sc_pieces_at fun f cdv A outer s H E hr => by
  have G := good_fn (P := P) (w := w) (K := K) (mg := mg) (base := base) (outer := outer) (H := H) (E := E) sc_pieces_at hr
  exact
    (vss_one (vs_ret (ve_comp false (CompOk.of (sc := (defScope s_pieces_at)) ["pieces", "joint"] ["number", "piece", "joint"] [none, none, some 1] rfl (fun _ => rfl) (by decide +kernel)) G.calm (vi_enum (ve_var 0) h_enumerate) (fun _ _ _ _ => (vg_tup (good_comp G nd_pieces_at_0).calm (vgs_cons (vg_name 0 (good_comp G nd_pieces_at_0).nd) (vgs_cons (vg_name 1 (good_comp G nd_pieces_at_0).nd) vgs_nil)))) (fun _ _ _ _ => (vifs_one (vt_cmp (op_inP (good_comp G nd_pieces_at_0).hu) (ve_var 2) (ve_call F_joints_of hr (good_comp G nd_pieces_at_0) (vn_cons (ve_var 1) vn_nil))))) (fun _ _ _ _ => (ve_var 0)))))
abbrev s_piece_beyond : Stmt := top 10
theorem sc_piece_beyond : FnScope ["pieces", "number", "joint", "other"] ["pieces", "number", "joint"] (defScope s_piece_beyond) := ⟨rfl, rfl, rfl, by decide +kernel, rfl, by decide +kernel, by decide +kernel⟩
theorem dv_piece_beyond {k : Nat}  {g_pieces_at : D1} (D : DefAt K mg "piece_beyond" s_piece_beyond ["pieces", "number", "joint"])
    (F_pieces_at : FnV P w K mg base k "pieces_at" 2 g_pieces_at) :
    FnV P w K mg base (k + 1) "piece_beyond" 3 (dfn_piece_beyond g_pieces_at) :=
  FnV.of D sc_piece_beyond fun f cdv A outer s H E hr => by
  have G := good_fn (P := P) (w := w) (K := K) (mg := mg) (base := base) (outer := outer) (H := H) (E := E) sc_piece_beyond hr
  exact
    (vss_cons (vs_for G.own G.calm (vi_list (ve_call F_pieces_at hr G (vn_cons (ve_var 0) (vn_cons (ve_var 2) vn_nil)))) (vg_name 3 G.nd)
    (vss_one (vs_if (vt_cmp (op_neP G.hu) (ve_var 3) (ve_var 1))
    (vss_one (vs_ret (ve_var 3)))
    vss_nil)))
    (vss_one (vs_ret ve_non)))
abbrev s_joints_out : Stmt := top 11
theorem sc_joints_out : FnScope ["piece", "joint"] ["piece", "joint"] (defScope s_joints_out) := ⟨rfl, rfl, rfl, by decide +kernel, rfl, by decide +kernel, by decide +kernel⟩
theorem nd_joints_out_0 : (["other", "joint"] : List Str).Nodup := by decide +kernel
theorem dv_joints_out {k : Nat}  {g_joints_of : D1} (D : DefAt K mg "joints_out" s_joints_out ["piece", "joint"])
    (F_joints_of : FnV P w K mg base k "joints_of" 1 g_joints_of) :
    FnV P w K mg base (k + 1) "joints_out" 2 (dfn_joints_out g_joints_of) :=
  FnV.of D sc_joints_out fun f cdv A outer s H E hr => by
  have G := good_fn (P := P) (w := w) (K := K) (mg := mg) (base := base) (outer := outer) (H := H) (E := E) sc_joints_out hr
  exact
    (vss_cons (vs_if (vt_cmp (op_eqP G.hu) (ve_ix G.hu (ve_var 0) ve_int) ve_str)
    (vss_one (vs_ret (ve_comp false (CompOk.of (sc := (defScope s_joints_out)) ["piece", "joint"] ["other", "joint"] [none, some 1] rfl (fun _ => rfl) (by decide +kernel)) G.calm (vi_list (ve_call F_joints_of hr G (vn_cons (ve_var 0) vn_nil))) (fun _ _ _ _ => (vg_name 0 (good_comp G nd_joints_out_0).nd)) (fun _ _ _ _ => (vifs_one (vt_cmp (op_neP (good_comp G nd_joints_out_0).hu) (ve_var 0) (ve_var 1)))) (fun _ _ _ _ => (ve_var 0)))))
    vss_nil)
    (vss_cons (vs_if (vt_cmp (op_eqP G.hu) (ve_var 1) (ve_ix G.hu (ve_var 0) ve_int))
    (vss_one (vs_ret (ve_lst false (vn_cons (ve_ix G.hu (ve_var 0) ve_int) (vn_cons (ve_ix G.hu (ve_var 0) ve_int) vn_nil)))))
    vss_nil)
    (vss_one (vs_ret (ve_lst false (vn_cons (ve_ix G.hu (ve_var 0) ve_int) vn_nil))))))
abbrev s_check_yard : Stmt := top 12
theorem sc_check_yard : FnScope ["pieces", "signals"] ["pieces", "signals"] (defScope s_check_yard) := ⟨rfl, rfl, rfl, by decide +kernel, rfl, by decide +kernel, by decide +kernel⟩
theorem dv_check_yard {k : Nat}  {g_check_pieces : D1} {g_check_signals : D1} (D : DefAt K mg "check_yard" s_check_yard ["pieces", "signals"])
    (F_check_pieces : FnV P w K mg base k "check_pieces" 1 g_check_pieces) (F_check_signals : FnV P w K mg base k "check_signals" 2 g_check_signals) :
    FnV P w K mg base (k + 1) "check_yard" 2 (dfn_check_yard g_check_pieces g_check_signals) :=
  FnV.of D sc_check_yard fun f cdv A outer s H E hr => by
  have G := good_fn (P := P) (w := w) (K := K) (mg := mg) (base := base) (outer := outer) (H := H) (E := E) sc_check_yard hr
  exact
    (vss_cons (vs_expr (ve_call F_check_pieces hr G (vn_cons (ve_var 0) vn_nil)))
    (vss_one (vs_expr (ve_call F_check_signals hr G (vn_cons (ve_var 0) (vn_cons (ve_var 1) vn_nil))))))
abbrev s_check_pieces : Stmt := top 13
theorem sc_check_pieces : FnScope ["pieces", "piece"] ["pieces"] (defScope s_check_pieces) := ⟨rfl, rfl, rfl, by decide +kernel, rfl, by decide +kernel, by decide +kernel⟩
theorem dv_check_pieces {k : Nat} {cBadYard : Addr} {g_check_joints : D1} {g_joints_of : D1} (D : DefAt K mg "check_pieces" s_check_pieces ["pieces"]) (h_BadYard : Exn K mg "BadYard" cBadYard) (h_len : mg "len" = none) {t_MOST_PIECES : Tok} (h_MOST_PIECES : mg "MOST_PIECES" = some (.int 16 t_MOST_PIECES))
    (F_check_joints : FnV P w K mg base k "check_joints" 2 g_check_joints) (F_joints_of : FnV P w K mg base k "joints_of" 1 g_joints_of) :
    FnV P w K mg base (k + 1) "check_pieces" 1 (dfn_check_pieces cBadYard g_check_joints g_joints_of) :=
  FnV.of D sc_check_pieces fun f cdv A outer s H E hr => by
  have G := good_fn (P := P) (w := w) (K := K) (mg := mg) (base := base) (outer := outer) (H := H) (E := E) sc_check_pieces hr
  exact
    (vss_cons (vs_if (vt_cmp (op_eqP G.hu) (ve_callB call_lenP h_len blt_len (vn_cons (ve_var 0) vn_nil)) ve_int)
    (vss_one (vs_raise h_BadYard hr (vn_cons ve_str vn_nil)))
    vss_nil)
    (vss_cons (vs_if (vt_cmp op_gtP (ve_callB call_lenP h_len blt_len (vn_cons (ve_var 0) vn_nil)) (ve_globI h_MOST_PIECES))
    (vss_one (vs_raiseJ h_BadYard hr (vj_str (vj_int (ve_globI h_MOST_PIECES) (vj_str vj_nil)))))
    vss_nil)
    (vss_one (vs_for G.own G.calm (vi_list (ve_var 0)) (vg_name 1 G.nd)
    (vss_one (vs_expr (ve_call F_check_joints hr G (vn_cons (ve_var 0) (vn_cons (ve_call F_joints_of hr G (vn_cons (ve_var 1) vn_nil)) vn_nil)))))))))
abbrev s_check_joints : Stmt := top 14
theorem sc_check_joints : FnScope ["pieces", "joints", "joint"] ["pieces", "joints"] (defScope s_check_joints) := ⟨rfl, rfl, rfl, by decide +kernel, rfl, by decide +kernel, by decide +kernel⟩
theorem dv_check_joints {k : Nat} {cBadYard : Addr} {g_pieces_at : D1} (D : DefAt K mg "check_joints" s_check_joints ["pieces", "joints"]) (h_BadYard : Exn K mg "BadYard" cBadYard) (h_len : mg "len" = none) {t_LAST_JOINT : Tok} (h_LAST_JOINT : mg "LAST_JOINT" = some (.int 999 t_LAST_JOINT))
    (F_pieces_at : FnV P w K mg base k "pieces_at" 2 g_pieces_at) :
    FnV P w K mg base (k + 1) "check_joints" 2 (dfn_check_joints cBadYard g_pieces_at) :=
  FnV.of D sc_check_joints fun f cdv A outer s H E hr => by
  have G := good_fn (P := P) (w := w) (K := K) (mg := mg) (base := base) (outer := outer) (H := H) (E := E) sc_check_joints hr
  exact
    (vss_one (vs_for G.own G.calm (vi_list (ve_var 1)) (vg_name 2 G.nd)
    (vss_cons (vs_if (VW.vt (vw_or (vt_cmp op_ltP (ve_var 2) ve_int) (vw_or1 (vt_cmp op_gtP (ve_var 2) (ve_globI h_LAST_JOINT)))))
    (vss_one (vs_raiseJ h_BadYard hr (vj_str (vj_int (ve_var 2) (vj_str (vj_int (ve_globI h_LAST_JOINT) vj_nil))))))
    vss_nil)
    (vss_cons (vs_if (vt_cmp op_gtP (ve_lm PySem.F.slot_list_count PySem.F.type_list_count (mt_countP G.hu) (ve_var 1) (vn_cons (ve_var 2) vn_nil)) ve_int)
    (vss_one (vs_raiseJ h_BadYard hr (vj_str (vj_int (ve_var 2) (vj_str vj_nil)))))
    vss_nil)
    (vss_one (vs_if (vt_cmp op_gtP (ve_callB call_lenP h_len blt_len (vn_cons (ve_call F_pieces_at hr G (vn_cons (ve_var 0) (vn_cons (ve_var 2) vn_nil))) vn_nil)) ve_int)
    (vss_one (vs_raiseJ h_BadYard hr (vj_str (vj_int (ve_var 2) vj_nil))))
    vss_nil))))))
abbrev s_check_signals : Stmt := top 15
theorem sc_check_signals : FnScope ["pieces", "signals", "joint", "number"] ["pieces", "signals"] (defScope s_check_signals) := ⟨rfl, rfl, rfl, by decide +kernel, rfl, by decide +kernel, by decide +kernel⟩
theorem dv_check_signals {k : Nat} {cBadYard : Addr} {g_joints_of : D1} (D : DefAt K mg "check_signals" s_check_signals ["pieces", "signals"]) (h_BadYard : Exn K mg "BadYard" cBadYard) (h_len : mg "len" = none) {t_MOST_SIGNALS : Tok} (h_MOST_SIGNALS : mg "MOST_SIGNALS" = some (.int 16 t_MOST_SIGNALS))
    (F_joints_of : FnV P w K mg base k "joints_of" 1 g_joints_of) :
    FnV P w K mg base (k + 1) "check_signals" 2 (dfn_check_signals cBadYard g_joints_of) :=
  FnV.of D sc_check_signals fun f cdv A outer s H E hr => by
  have G := good_fn (P := P) (w := w) (K := K) (mg := mg) (base := base) (outer := outer) (H := H) (E := E) sc_check_signals hr
  exact
    (vss_cons (vs_if (vt_cmp op_gtP (ve_callB call_lenP h_len blt_len (vn_cons (ve_var 1) vn_nil)) (ve_globI h_MOST_SIGNALS))
    (vss_one (vs_raiseJ h_BadYard hr (vj_str (vj_int (ve_globI h_MOST_SIGNALS) (vj_str vj_nil)))))
    vss_nil)
    (vss_one (vs_for G.own G.calm (vi_list (ve_var 1)) (vg_tup G.calm (vgs_cons (vg_name 2 G.nd) (vgs_cons (vg_name 3 G.nd) vgs_nil)))
    (vss_cons (vs_if (vt_cmp op_gtP (ve_lm PySem.F.slot_list_count PySem.F.type_list_count (mt_countP G.hu) (ve_var 1) (vn_cons (ve_tup (vn_cons (ve_var 2) (vn_cons (ve_var 3) vn_nil))) vn_nil)) ve_int)
    (vss_one (vs_raiseJ h_BadYard hr (vj_str (vj_int (ve_var 2) (vj_str (vj_int (ve_var 3) vj_nil))))))
    vss_nil)
    (vss_cons (vs_if (VW.vt (vw_or (vt_cmp op_ltP (ve_var 3) ve_int) (vw_or1 (vt_cmp op_geP (ve_var 3) (ve_callB call_lenP h_len blt_len (vn_cons (ve_var 0) vn_nil))))))
    (vss_one (vs_raiseJ h_BadYard hr (vj_str (vj_int (ve_var 3) (vj_str vj_nil)))))
    vss_nil)
    (vss_one (vs_if (vt_cmp (op_ninP G.hu) (ve_var 2) (ve_call F_joints_of hr G (vn_cons (ve_ix G.hu (ve_var 0) (ve_var 3)) vn_nil)))
    (vss_one (vs_raiseJ h_BadYard hr (vj_str (vj_int (ve_var 3) (vj_str (vj_int (ve_var 2) vj_nil))))))
    vss_nil)))))))
abbrev s_routes : Stmt := top 17
theorem sc_routes : FnScope ["pieces", "signals", "told", "number", "signal", "way"] ["pieces", "signals"] (defScope s_routes) := ⟨rfl, rfl, rfl, by decide +kernel, rfl, by decide +kernel, by decide +kernel⟩
theorem dv_routes {k : Nat}  {g_check_yard : D1} {g_ways_on : D1} (D : DefAt K mg "routes" s_routes ["pieces", "signals"]) (h_enumerate : mg "enumerate" = none)
    (F_check_yard : FnV P w K mg base k "check_yard" 2 g_check_yard) (F_ways_on : FnV P w K mg base k "ways_on" 5 g_ways_on) :
    FnV P w K mg base (k + 1) "routes" 2 (dfn_routes g_check_yard g_ways_on) :=
  FnV.of D sc_routes fun f cdv A outer s H E hr => by
  have G := good_fn (P := P) (w := w) (K := K) (mg := mg) (base := base) (outer := outer) (H := H) (E := E) sc_routes hr
  exact
    (vss_cons (vs_expr (ve_call F_check_yard hr G (vn_cons (ve_var 0) (vn_cons (ve_var 1) vn_nil))))
    (vss_cons (vs_set 2 G.nd (ve_lst true vn_nil))
    (vss_cons (vs_for G.own G.calm (vi_enum (ve_var 1) h_enumerate) (vg_tup G.calm (vgs_cons (vg_name 3 G.nd) (vgs_cons (vg_name 4 G.nd) vgs_nil)))
    (vss_one (vs_for G.own G.calm (vi_list (ve_call F_ways_on hr G (vn_cons (ve_var 0) (vn_cons (ve_var 1) (vn_cons (ve_lst false vn_nil) (vn_cons (ve_ix G.hu (ve_var 4) ve_int) (vn_cons (ve_ix G.hu (ve_var 4) ve_int) vn_nil))))))) (vg_name 5 G.nd)
    (vss_one (vs_expr (ve_lm PySem.F.slot_list_append PySem.F.type_list_append mt_appendP (ve_var 2) (vn_cons (ve_tup (vn_cons (ve_var 3) (vn_cons (ve_var 5) vn_nil))) vn_nil)))))))
    (vss_one (vs_ret (ve_frz (ve_var 2)))))))
abbrev s_ways_on : Stmt := top 18
theorem sc_ways_on : FnScope ["pieces", "signals", "way", "joint", "piece", "found", "out", "longer", "beyond"] ["pieces", "signals", "way", "joint", "piece"] (defScope s_ways_on) := ⟨rfl, rfl, rfl, by decide +kernel, rfl, by decide +kernel, by decide +kernel⟩
theorem nd_ways_on_0 : (["step"] : List Str).Nodup := by decide +kernel
theorem dv_ways_on {k : Nat}  {g_joints_out : D1} {g_piece_beyond : D1} {g_ways_on : D1} (D : DefAt K mg "ways_on" s_ways_on ["pieces", "signals", "way", "joint", "piece"])
    (F_joints_out : FnV P w K mg base k "joints_out" 2 g_joints_out) (F_piece_beyond : FnV P w K mg base k "piece_beyond" 3 g_piece_beyond) (F_ways_on : FnV P w K mg base k "ways_on" 5 g_ways_on) :
    FnV P w K mg base (k + 1) "ways_on" 5 (dfn_ways_on g_joints_out g_piece_beyond g_ways_on) :=
  FnV.of D sc_ways_on fun f cdv A outer s H E hr => by
  have G := good_fn (P := P) (w := w) (K := K) (mg := mg) (base := base) (outer := outer) (H := H) (E := E) sc_ways_on hr
  exact
    (vss_cons (vs_if (vt_cmp (op_inP G.hu) (ve_var 4) (ve_comp false (CompOk.of (sc := (defScope s_ways_on)) ["pieces", "signals", "way", "joint", "piece", "found", "out", "longer", "beyond"] ["step"] [none] rfl (fun _ => rfl) (by decide +kernel)) G.calm (vi_list (ve_var 2)) (fun _ _ _ _ => (vg_name 0 (good_comp G nd_ways_on_0).nd)) (fun _ _ _ _ => vifs_nil) (fun _ _ _ _ => (ve_ix (good_comp G nd_ways_on_0).hu (ve_var 0) ve_int))))
    (vss_one (vs_ret (ve_lst false vn_nil)))
    vss_nil)
    (vss_cons (vs_set 5 G.nd (ve_lst true vn_nil))
    (vss_cons (vs_for G.own G.calm (vi_list (ve_call F_joints_out hr G (vn_cons (ve_ix G.hu (ve_var 0) (ve_var 4)) (vn_cons (ve_var 3) vn_nil)))) (vg_name 6 G.nd)
    (vss_cons (vs_set 7 G.nd (ve_op (op_addP false) (ve_var 2) (ve_lst false (vn_cons (ve_tup (vn_cons (ve_var 4) (vn_cons (ve_var 3) (vn_cons (ve_var 6) vn_nil)))) vn_nil))))
    (vss_cons (vs_set 8 G.nd (ve_call F_piece_beyond hr G (vn_cons (ve_var 0) (vn_cons (ve_var 4) (vn_cons (ve_var 6) vn_nil)))))
    (vss_one (vs_if (VW.vt (vw_or (vt_cmp op_isP (ve_var 8) ve_non) (vw_or1 (vt_cmp (op_inP G.hu) (ve_tup (vn_cons (ve_var 6) (vn_cons (ve_var 8) vn_nil))) (ve_var 1)))))
    (vss_one (vs_expr (ve_lm PySem.F.slot_list_append PySem.F.type_list_append mt_appendP (ve_var 5) (vn_cons (ve_var 7) vn_nil))))
    (vss_one (vs_expr (ve_lm PySem.F.slot_list_extend PySem.F.type_list_extend mt_extendP (ve_var 5) (vn_cons (ve_call F_ways_on hr G (vn_cons (ve_var 0) (vn_cons (ve_var 1) (vn_cons (ve_var 7) (vn_cons (ve_var 6) (vn_cons (ve_var 8) vn_nil)))))) vn_nil)))))))))
    (vss_one (vs_ret (ve_frz (ve_var 5)))))))
abbrev s_Yard_init : Stmt := inClass (top 20) 0
theorem sc_Yard_init : FnScope ["self", "pieces", "signals", "wait"] ["self", "pieces", "signals", "wait"] (defScope s_Yard_init) := ⟨rfl, rfl, rfl, by decide +kernel, rfl, by decide +kernel, by decide +kernel⟩
theorem nd_Yard_init_0 : (["piece"] : List Str).Nodup := by decide +kernel
theorem dv_Yard_init {k : Nat} {cYard : Addr} {g_routes : D1} (D : IniAt K mg "Yard" cYard "Yard.__init__" s_Yard_init ["self", "pieces", "signals", "wait"]) (h_Yard_falls : FldOk K cYard "falls") (h_Yard_found : FldOk K cYard "found") (h_Yard_greens : FldOk K cYard "greens") (h_Yard_locks : FldOk K cYard "locks") (h_Yard_lying : FldOk K cYard "lying") (h_Yard_pieces : FldOk K cYard "pieces") (h_Yard_signals : FldOk K cYard "signals") (h_Yard_ticks : FldOk K cYard "ticks") (h_Yard_trains : FldOk K cYard "trains") (h_Yard_wait : FldOk K cYard "wait") (h_list : mg "list" = none)
    (F_routes : FnV P w K mg base k "routes" 2 g_routes) :
    InV P w K mg base (k + 1) "Yard" cYard 4 (dfn_Yard_init cYard g_routes) :=
  InV.of D sc_Yard_init fun f cdv A outer s H E hr => by
  have G := good_fn (P := P) (w := w) (K := K) (mg := mg) (base := base) (outer := outer) (H := H) (E := E) sc_Yard_init hr
  exact
    (vss_cons (vs_putF h_Yard_found (ve_var 0) (ve_call F_routes hr G (vn_cons (ve_var 1) (vn_cons (ve_var 2) vn_nil))))
    (vss_cons (vs_putF h_Yard_pieces (ve_var 0) (ve_callTy (call_listP false) h_list blt_list (vn_cons (ve_var 1) vn_nil)))
    (vss_cons (vs_putF h_Yard_signals (ve_var 0) (ve_callTy (call_listP false) h_list blt_list (vn_cons (ve_var 2) vn_nil)))
    (vss_cons (vs_putF h_Yard_wait (ve_var 0) (ve_var 3))
    (vss_cons (vs_putF h_Yard_ticks (ve_var 0) ve_int)
    (vss_cons (vs_putF h_Yard_locks (ve_var 0) ve_dic0)
    (vss_cons (vs_putF h_Yard_lying (ve_var 0) (ve_comp true (CompOk.of (sc := (defScope s_Yard_init)) ["self", "pieces", "signals", "wait"] ["piece"] [none] rfl (fun _ => rfl) (by decide +kernel)) G.calm (vi_list (ve_var 1)) (fun _ _ _ _ => (vg_name 0 (good_comp G nd_Yard_init_0).nd)) (fun _ _ _ _ => vifs_nil) (fun _ _ _ _ => ve_str)))
    (vss_cons (vs_putF h_Yard_greens (ve_var 0) ve_dic0)
    (vss_cons (vs_putF h_Yard_falls (ve_var 0) ve_dic0)
    (vss_one (vs_putF h_Yard_trains (ve_var 0) ve_dic0)))))))))))
abbrev s_Yard_ways : Stmt := inClass (top 20) 1
theorem sc_Yard_ways : FnScope ["self"] ["self"] (defScope s_Yard_ways) := ⟨rfl, rfl, rfl, by decide +kernel, rfl, by decide +kernel, by decide +kernel⟩
theorem nd_Yard_ways_0 : (["signal", "way"] : List Str).Nodup := by decide +kernel
theorem dv_Yard_ways {k : Nat} {cYard : Addr}  (D : MetAt K cYard "ways" "Yard.ways" s_Yard_ways ["self"]) (h_Yard_found : FldOk K cYard "found") (h_list : mg "list" = none)
     :
    MeV P w K mg base (k + 1) cYard "ways" 1 (dfn_Yard_ways cYard) :=
  MeV.of D sc_Yard_ways fun f cdv A outer s H E hr => by
  have G := good_fn (P := P) (w := w) (K := K) (mg := mg) (base := base) (outer := outer) (H := H) (E := E) sc_Yard_ways hr
  exact
    (vss_one (vs_ret (ve_comp true (CompOk.of (sc := (defScope s_Yard_ways)) ["self"] ["signal", "way"] [none, none] rfl (fun _ => rfl) (by decide +kernel)) G.calm (vi_list (ve_fld h_Yard_found (ve_var 0))) (fun _ _ _ _ => (vg_tup (good_comp G nd_Yard_ways_0).calm (vgs_cons (vg_name 0 (good_comp G nd_Yard_ways_0).nd) (vgs_cons (vg_name 1 (good_comp G nd_Yard_ways_0).nd) vgs_nil)))) (fun _ _ _ _ => vifs_nil) (fun _ _ _ _ => (ve_tup (vn_cons (ve_var 0) (vn_cons (ve_callTy (call_listP true) h_list blt_list (vn_cons (ve_var 1) vn_nil)) vn_nil)))))))
abbrev s_l_cell : Stmt := top 22
theorem sc_l_cell : FnScope ["_law_script", "_law_k"] ["_law_script", "_law_k"] (defScope s_l_cell) := ⟨rfl, rfl, rfl, by decide +kernel, rfl, by decide +kernel, by decide +kernel⟩
theorem dv_l_cell {k : Nat}   (D : DefAt K mg "_law_cell" s_l_cell ["_law_script", "_law_k"]) (h_len : mg "len" = none)
     :
    FnV P w K mg base (k + 1) "_law_cell" 2 (dfn_l_cell ) :=
  FnV.of D sc_l_cell fun f cdv A outer s H E hr => by
  have G := good_fn (P := P) (w := w) (K := K) (mg := mg) (base := base) (outer := outer) (H := H) (E := E) sc_l_cell hr
  exact
    (vss_cons (vs_if (vt_truth (ve_var 0))
    (vss_one (vs_ret (ve_ix G.hu (ve_var 0) (ve_op op_modP (ve_var 1) (ve_callB call_lenP h_len blt_len (vn_cons (ve_var 0) vn_nil))))))
    vss_nil)
    (vss_one (vs_ret ve_int)))
abbrev s_l_mix : Stmt := top 23
theorem sc_l_mix : FnScope ["_law_script", "_law_k", "_law_number"] ["_law_script", "_law_k"] (defScope s_l_mix) := ⟨rfl, rfl, rfl, by decide +kernel, rfl, by decide +kernel, by decide +kernel⟩
theorem dv_l_mix {k : Nat}  {g_l_cell : D1} (D : DefAt K mg "_law_mix" s_l_mix ["_law_script", "_law_k"])
    (F_l_cell : FnV P w K mg base k "_law_cell" 2 g_l_cell) :
    FnV P w K mg base (k + 1) "_law_mix" 2 (dfn_l_mix g_l_cell) :=
  FnV.of D sc_l_mix fun f cdv A outer s H E hr => by
  have G := good_fn (P := P) (w := w) (K := K) (mg := mg) (base := base) (outer := outer) (H := H) (E := E) sc_l_mix hr
  exact
    (vss_cons (vs_set 2 G.nd (ve_op op_modP (ve_op (op_addP false) (ve_call F_l_cell hr G (vn_cons (ve_var 0) (vn_cons (ve_var 1) vn_nil))) (ve_op (op_mulP false) ve_int (ve_op (op_addP false) (ve_var 1) ve_int))) ve_int))
    (vss_cons (vs_set 2 G.nd (ve_op op_modP (ve_op (op_mulP false) (ve_var 2) ve_int) ve_int))
    (vss_one (vs_ret (ve_op op_modP (ve_op (op_addP false) (ve_op (op_mulP false) (ve_op op_fdivP (ve_var 2) ve_int) ve_int) (ve_var 2)) ve_int)))))
abbrev s_l_whole : Stmt := top 24
theorem sc_l_whole : FnScope ["_law_found"] ["_law_found"] (defScope s_l_whole) := ⟨rfl, rfl, rfl, by decide +kernel, rfl, by decide +kernel, by decide +kernel⟩
theorem dv_l_whole {k : Nat}   (D : DefAt K mg "_law_whole" s_l_whole ["_law_found"]) (h_bool : mg "bool" = none) (h_int : mg "int" = none) (h_isinstance : mg "isinstance" = none)
     :
    FnV P w K mg base (k + 1) "_law_whole" 1 (dfn_l_whole ) :=
  FnV.of D sc_l_whole fun f cdv A outer s H E hr => by
  have G := good_fn (P := P) (w := w) (K := K) (mg := mg) (base := base) (outer := outer) (H := H) (E := E) sc_l_whole hr
  exact
    (vss_one (vs_ret (ve_and (ve_isT "int" (ve_var 0) h_isinstance h_int blt_int) (ve_one (ve_not (ve_isT "bool" (ve_var 0) h_isinstance h_bool blt_bool))))))
abbrev s_l_beyond : Stmt := top 25
theorem sc_l_beyond : FnScope ["_law_pieces_here", "_law_at", "_law_joint", "_law_found"] ["_law_pieces_here", "_law_at", "_law_joint"] (defScope s_l_beyond) := ⟨rfl, rfl, rfl, by decide +kernel, rfl, by decide +kernel, by decide +kernel⟩
theorem nd_l_beyond_0 : (["_law_k", "_law_at", "_law_joint", "_law_pieces_here"] : List Str).Nodup := by decide +kernel
theorem dv_l_beyond {k : Nat}   (D : DefAt K mg "_law_beyond" s_l_beyond ["_law_pieces_here", "_law_at", "_law_joint"]) (h_len : mg "len" = none) (h_range : mg "range" = none)
     :
    FnV P w K mg base (k + 1) "_law_beyond" 3 (dfn_l_beyond ) :=
  FnV.of D sc_l_beyond fun f cdv A outer s H E hr => by
  have G := good_fn (P := P) (w := w) (K := K) (mg := mg) (base := base) (outer := outer) (H := H) (E := E) sc_l_beyond hr
  exact
    (vss_cons (vs_setComp false 3 (CompOk.of (sc := (defScope s_l_beyond)) ["_law_pieces_here", "_law_at", "_law_joint", "_law_found"] ["_law_k", "_law_at", "_law_joint", "_law_pieces_here"] [none, some 1, some 2, some 0] rfl (fun _ => rfl) (by decide +kernel)) G.calm G.nd (vi_range1 h_range (vn_cons (ve_callB call_lenP h_len blt_len (vn_cons (ve_var 0) vn_nil)) vn_nil)) (fun _ _ _ _ => (vg_name 0 (good_comp G nd_l_beyond_0).nd)) (fun _ _ _ _ => (vifs_one (VW.vt (vw_and (vt_cmp (op_neP (good_comp G nd_l_beyond_0).hu) (ve_var 0) (ve_var 1)) (vw_and1 (vt_cmp (op_inP (good_comp G nd_l_beyond_0).hu) (ve_var 2) (ve_sl false (ve_ix (good_comp G nd_l_beyond_0).hu (ve_var 3) (ve_var 0)) (vo_some ve_int) vo_none))))))) (fun _ _ _ _ => (ve_var 0)) (by with_unfolding_all rfl))
    (vss_one (vs_ret (ve_if (vt_truth (ve_var 3)) (ve_ix G.hu (ve_var 3) ve_int) ve_non))))
abbrev s_l_pieces : Stmt := top 26
theorem sc_l_pieces : FnScope ["_law_script", "_law_base", "_law_pieces_here", "_law_loose", "_law_many", "_law_k", "_law_number", "_law_ends", "_law_j", "_law_pick", "_law_others"] ["_law_script", "_law_base"] (defScope s_l_pieces) := ⟨rfl, rfl, rfl, by decide +kernel, rfl, by decide +kernel, by decide +kernel⟩
theorem nd_l_pieces_0 : (["_law_joint", "_law_ends"] : List Str).Nodup := by decide +kernel
theorem nd_l_pieces_1 : (["_law_joint", "_law_loose"] : List Str).Nodup := by decide +kernel
theorem nd_l_pieces_2 : (["_law_joint", "_law_ends"] : List Str).Nodup := by decide +kernel
theorem dv_l_pieces {k : Nat}  {g_l_mix : D1} (D : DefAt K mg "_law_pieces" s_l_pieces ["_law_script", "_law_base"]) (h_int : mg "int" = none) (h_len : mg "len" = none) (h_min : mg "min" = none) (h_range : mg "range" = none) (h_tuple : mg "tuple" = none)
    (F_l_mix : FnV P w K mg base k "_law_mix" 2 g_l_mix) :
    FnV P w K mg base (k + 1) "_law_pieces" 2 (dfn_l_pieces g_l_mix) :=
  FnV.of D sc_l_pieces fun f cdv A outer s H E hr => by
  have G := good_fn (P := P) (w := w) (K := K) (mg := mg) (base := base) (outer := outer) (H := H) (E := E) sc_l_pieces hr
  exact
    (vss_cons (vs_set 2 G.nd (ve_lst true vn_nil))
    (vss_cons (vs_set 3 G.nd (ve_lst false vn_nil))
    (vss_cons (vs_set 4 G.nd ve_int)
    (vss_cons (vs_for G.own G.calm (vi_range1 h_range (vn_cons (ve_op (op_addP false) ve_int (ve_op op_modP (ve_call F_l_mix hr G (vn_cons (ve_var 0) (vn_cons (ve_var 1) vn_nil))) ve_int)) vn_nil)) (vg_name 5 G.nd)
    (vss_cons (vs_set 6 G.nd (ve_call F_l_mix hr G (vn_cons (ve_var 0) (vn_cons (ve_op (op_addP false) (ve_op (op_addP false) (ve_var 1) ve_int) (ve_var 5)) vn_nil))))
    (vss_cons (vs_set 7 G.nd (ve_lst true vn_nil))
    (vss_cons (vs_for G.own G.calm (vi_range1 h_range (vn_cons (ve_op (op_addP false) ve_int (ve_callTy call_intoP h_int blt_int (vn_cons (ve_cmp op_ltP (ve_op op_modP (ve_var 6) ve_int) ve_int) vn_nil))) vn_nil)) (vg_name 8 G.nd)
    (vss_cons (vs_set 9 G.nd (ve_call F_l_mix hr G (vn_cons (ve_var 0) (vn_cons (ve_op (op_addP false) (ve_op (op_addP false) (ve_op (op_addP false) (ve_var 1) ve_int) (ve_op (op_mulP false) ve_int (ve_var 5))) (ve_var 8)) vn_nil))))
    (vss_cons (vs_setComp false 10 (CompOk.of (sc := (defScope s_l_pieces)) ["_law_script", "_law_base", "_law_pieces_here", "_law_loose", "_law_many", "_law_k", "_law_number", "_law_ends", "_law_j", "_law_pick", "_law_others"] ["_law_joint", "_law_ends"] [none, some 7] rfl (fun _ => rfl) (by decide +kernel)) G.calm G.nd (vi_list (ve_var 3)) (fun _ _ _ _ => (vg_name 0 (good_comp G nd_l_pieces_0).nd)) (fun _ _ _ _ => (vifs_one (vt_cmp (op_ninP (good_comp G nd_l_pieces_0).hu) (ve_var 0) (ve_var 1)))) (fun _ _ _ _ => (ve_var 0)) (by with_unfolding_all rfl))
    (vss_one (vs_if (VW.vt (vw_and (vt_truth (ve_var 10)) (vw_and1 (vt_cmp op_ltP (ve_op op_modP (ve_var 9) ve_int) (ve_ix G.hu (ve_lst false (vn_cons ve_int (vn_cons ve_int (vn_cons ve_int vn_nil)))) (ve_var 8))))))
    (vss_one (vs_expr (ve_lm PySem.F.slot_list_append PySem.F.type_list_append mt_appendP (ve_var 7) (vn_cons (ve_ix G.hu (ve_var 10) (ve_op op_modP (ve_op op_fdivP (ve_var 9) ve_int) (ve_callB (call_minP G.calm) h_min blt_min (vn_cons ve_int (vn_cons (ve_callB call_lenP h_len blt_len (vn_cons (ve_var 10) vn_nil)) vn_nil))))) vn_nil))))
    (vss_cons (vs_expr (ve_lm PySem.F.slot_list_append PySem.F.type_list_append mt_appendP (ve_var 7) (vn_cons (ve_op op_modP (ve_op (op_addP false) (ve_call F_l_mix hr G (vn_cons (ve_var 0) (vn_cons (ve_op (op_addP false) (ve_var 1) ve_int) vn_nil))) (ve_op (op_mulP false) ve_int (ve_var 4))) ve_int) vn_nil)))
    (vss_one (vs_set 4 G.nd (ve_op (op_addP false) (ve_var 4) ve_int)))))))))
    (vss_cons (vs_set 3 G.nd (ve_op (op_addP false) (ve_comp false (CompOk.of (sc := (defScope s_l_pieces)) ["_law_script", "_law_base", "_law_pieces_here", "_law_loose", "_law_many", "_law_k", "_law_number", "_law_ends", "_law_j", "_law_pick", "_law_others"] ["_law_joint", "_law_loose"] [none, some 3] rfl (fun _ => rfl) (by decide +kernel)) G.calm (vi_list (ve_var 7)) (fun _ _ _ _ => (vg_name 0 (good_comp G nd_l_pieces_1).nd)) (fun _ _ _ _ => (vifs_one (vt_cmp (op_ninP (good_comp G nd_l_pieces_1).hu) (ve_var 0) (ve_var 1)))) (fun _ _ _ _ => (ve_var 0))) (ve_comp false (CompOk.of (sc := (defScope s_l_pieces)) ["_law_script", "_law_base", "_law_pieces_here", "_law_loose", "_law_many", "_law_k", "_law_number", "_law_ends", "_law_j", "_law_pick", "_law_others"] ["_law_joint", "_law_ends"] [none, some 7] rfl (fun _ => rfl) (by decide +kernel)) G.calm (vi_list (ve_var 3)) (fun _ _ _ _ => (vg_name 0 (good_comp G nd_l_pieces_2).nd)) (fun _ _ _ _ => (vifs_one (vt_cmp (op_ninP (good_comp G nd_l_pieces_2).hu) (ve_var 0) (ve_var 1)))) (fun _ _ _ _ => (ve_var 0)))))
    (vss_one (vs_expr (ve_lm PySem.F.slot_list_append PySem.F.type_list_append mt_appendP (ve_var 2) (vn_cons (ve_op (op_addP false) (ve_tup (vn_cons (ve_ix G.hu (ve_lst false (vn_cons ve_str (vn_cons ve_str vn_nil))) (ve_op op_subP (ve_callB call_lenP h_len blt_len (vn_cons (ve_var 7) vn_nil)) ve_int)) vn_nil)) (ve_callTy call_tupleP h_tuple blt_tuple (vn_cons (ve_var 7) vn_nil))) vn_nil)))))))))
    (vss_one (vs_ret (ve_frz (ve_var 2))))))))
abbrev s_l_signals : Stmt := top 27
theorem sc_l_signals : FnScope ["_law_script", "_law_base", "_law_pieces_here", "_law_found", "_law_at", "_law_joint", "_law_number", "_law_border", "_law_shift"] ["_law_script", "_law_base", "_law_pieces_here"] (defScope s_l_signals) := ⟨rfl, rfl, rfl, by decide +kernel, rfl, by decide +kernel, by decide +kernel⟩
theorem dv_l_signals {k : Nat}  {g_l_mix : D1} {g_l_beyond : D1} (D : DefAt K mg "_law_signals" s_l_signals ["_law_script", "_law_base", "_law_pieces_here"]) (h_len : mg "len" = none) (h_range : mg "range" = none)
    (F_l_mix : FnV P w K mg base k "_law_mix" 2 g_l_mix) (F_l_beyond : FnV P w K mg base k "_law_beyond" 3 g_l_beyond) :
    FnV P w K mg base (k + 1) "_law_signals" 3 (dfn_l_signals g_l_mix g_l_beyond) :=
  FnV.of D sc_l_signals fun f cdv A outer s H E hr => by
  have G := good_fn (P := P) (w := w) (K := K) (mg := mg) (base := base) (outer := outer) (H := H) (E := E) sc_l_signals hr
  exact
    (vss_cons (vs_set 3 G.nd (ve_lst true vn_nil))
    (vss_cons (vs_for G.own G.calm (vi_range1 h_range (vn_cons (ve_callB call_lenP h_len blt_len (vn_cons (ve_var 2) vn_nil)) vn_nil)) (vg_name 4 G.nd)
    (vss_one (vs_for G.own G.calm (vi_tup (ve_sl false (ve_ix G.hu (ve_var 2) (ve_var 4)) (vo_some ve_int) vo_none)) (vg_name 5 G.nd)
    (vss_cons (vs_set 6 G.nd (ve_call F_l_mix hr G (vn_cons (ve_var 0) (vn_cons (ve_op (op_addP false) (ve_op (op_addP false) (ve_var 1) (ve_op (op_mulP false) ve_int (ve_var 4))) (ve_callB call_lenP h_len blt_len (vn_cons (ve_var 3) vn_nil))) vn_nil))))
    (vss_cons (vs_set 7 G.nd (ve_cmp op_isP (ve_call F_l_beyond hr G (vn_cons (ve_var 2) (vn_cons (ve_var 4) (vn_cons (ve_var 5) vn_nil)))) ve_non))
    (vss_one (vs_if (VW.vt (vw_or (vt_cmp (op_eqP G.hu) (ve_op op_modP (ve_var 6) ve_int) ve_int) (vw_or1 (VW.vt (vw_and (vt_truth (ve_var 7)) (vw_and1 (vt_cmp (op_eqP G.hu) (ve_op op_modP (ve_var 6) ve_int) ve_int)))))))
    (vss_one (vs_expr (ve_lm PySem.F.slot_list_append PySem.F.type_list_append mt_appendP (ve_var 3) (vn_cons (ve_tup (vn_cons (ve_var 5) (vn_cons (ve_var 4) vn_nil))) vn_nil))))
    vss_nil)))))))
    (vss_cons (vs_set 8 G.nd (ve_op op_modP (ve_call F_l_mix hr G (vn_cons (ve_var 0) (vn_cons (ve_op (op_addP false) (ve_var 1) ve_int) vn_nil))) (ve_op (op_addP false) ve_int (ve_callB call_lenP h_len blt_len (vn_cons (ve_var 3) vn_nil)))))
    (vss_one (vs_ret (ve_sl false (ve_op (op_addP false) (ve_sl false (ve_var 3) (vo_some (ve_var 8)) vo_none) (ve_sl false (ve_var 3) vo_none (vo_some (ve_var 8)))) vo_none (vo_some ve_int)))))))
abbrev s_l_outs : Stmt := top 28
theorem sc_l_outs : FnScope ["_law_piece", "_law_joint"] ["_law_piece", "_law_joint"] (defScope s_l_outs) := ⟨rfl, rfl, rfl, by decide +kernel, rfl, by decide +kernel, by decide +kernel⟩
theorem nd_l_outs_0 : (["_law_one", "_law_joint"] : List Str).Nodup := by decide +kernel
theorem dv_l_outs {k : Nat}   (D : DefAt K mg "_law_outs" s_l_outs ["_law_piece", "_law_joint"])
     :
    FnV P w K mg base (k + 1) "_law_outs" 2 (dfn_l_outs ) :=
  FnV.of D sc_l_outs fun f cdv A outer s H E hr => by
  have G := good_fn (P := P) (w := w) (K := K) (mg := mg) (base := base) (outer := outer) (H := H) (E := E) sc_l_outs hr
  exact
    (vss_cons (vs_if (vt_cmp (op_eqP G.hu) (ve_ix G.hu (ve_var 0) ve_int) ve_str)
    (vss_one (vs_ret (ve_comp false (CompOk.of (sc := (defScope s_l_outs)) ["_law_piece", "_law_joint"] ["_law_one", "_law_joint"] [none, some 1] rfl (fun _ => rfl) (by decide +kernel)) G.calm (vi_tup (ve_sl false (ve_var 0) (vo_some ve_int) vo_none)) (fun _ _ _ _ => (vg_name 0 (good_comp G nd_l_outs_0).nd)) (fun _ _ _ _ => (vifs_one (vt_cmp (op_neP (good_comp G nd_l_outs_0).hu) (ve_var 0) (ve_var 1)))) (fun _ _ _ _ => (ve_var 0)))))
    vss_nil)
    (vss_one (vs_ret (ve_if (vt_cmp (op_eqP G.hu) (ve_var 1) (ve_ix G.hu (ve_var 0) ve_int)) (ve_lst false (vn_cons (ve_ix G.hu (ve_var 0) ve_int) (vn_cons (ve_ix G.hu (ve_var 0) ve_int) vn_nil))) (ve_lst false (vn_cons (ve_ix G.hu (ve_var 0) ve_int) vn_nil))))))
abbrev s_l_ways : Stmt := top 29
theorem sc_l_ways : FnScope ["_law_pieces_here", "_law_signals_here", "_law_way", "_law_at", "_law_joint", "_law_found", "_law_out", "_law_here", "_law_behind"] ["_law_pieces_here", "_law_signals_here", "_law_way", "_law_at", "_law_joint"] (defScope s_l_ways) := ⟨rfl, rfl, rfl, by decide +kernel, rfl, by decide +kernel, by decide +kernel⟩
theorem nd_l_ways_0 : (["_law_step"] : List Str).Nodup := by decide +kernel
theorem dv_l_ways {k : Nat}  {g_l_outs : D1} {g_l_beyond : D1} {g_l_ways : D1} (D : DefAt K mg "_law_ways" s_l_ways ["_law_pieces_here", "_law_signals_here", "_law_way", "_law_at", "_law_joint"])
    (F_l_outs : FnV P w K mg base k "_law_outs" 2 g_l_outs) (F_l_beyond : FnV P w K mg base k "_law_beyond" 3 g_l_beyond) (F_l_ways : FnV P w K mg base k "_law_ways" 5 g_l_ways) :
    FnV P w K mg base (k + 1) "_law_ways" 5 (dfn_l_ways g_l_outs g_l_beyond g_l_ways) :=
  FnV.of D sc_l_ways fun f cdv A outer s H E hr => by
  have G := good_fn (P := P) (w := w) (K := K) (mg := mg) (base := base) (outer := outer) (H := H) (E := E) sc_l_ways hr
  exact
    (vss_cons (vs_set 5 G.nd (ve_lst true vn_nil))
    (vss_cons (vs_if (vt_cmp (op_inP G.hu) (ve_var 3) (ve_comp false (CompOk.of (sc := (defScope s_l_ways)) ["_law_pieces_here", "_law_signals_here", "_law_way", "_law_at", "_law_joint", "_law_found", "_law_out", "_law_here", "_law_behind"] ["_law_step"] [none] rfl (fun _ => rfl) (by decide +kernel)) G.calm (vi_list (ve_var 2)) (fun _ _ _ _ => (vg_name 0 (good_comp G nd_l_ways_0).nd)) (fun _ _ _ _ => vifs_nil) (fun _ _ _ _ => (ve_ix (good_comp G nd_l_ways_0).hu (ve_var 0) ve_int))))
    (vss_one (vs_ret (ve_frz (ve_var 5))))
    vss_nil)
    (vss_cons (vs_for G.own G.calm (vi_list (ve_call F_l_outs hr G (vn_cons (ve_ix G.hu (ve_var 0) (ve_var 3)) (vn_cons (ve_var 4) vn_nil)))) (vg_name 6 G.nd)
    (vss_cons (vs_set 7 G.nd (ve_op (op_addP false) (ve_var 2) (ve_lst false (vn_cons (ve_tup (vn_cons (ve_var 3) (vn_cons (ve_var 4) (vn_cons (ve_var 6) vn_nil)))) vn_nil))))
    (vss_cons (vs_set 8 G.nd (ve_call F_l_beyond hr G (vn_cons (ve_var 0) (vn_cons (ve_var 3) (vn_cons (ve_var 6) vn_nil)))))
    (vss_one (vs_if (VW.vt (vw_or (vt_cmp op_isP (ve_var 8) ve_non) (vw_or1 (vt_cmp (op_inP G.hu) (ve_tup (vn_cons (ve_var 6) (vn_cons (ve_var 8) vn_nil))) (ve_var 1)))))
    (vss_one (vs_expr (ve_lm PySem.F.slot_list_append PySem.F.type_list_append mt_appendP (ve_var 5) (vn_cons (ve_var 7) vn_nil))))
    (vss_one (vs_set 5 G.nd (ve_op (op_addP true) (ve_var 5) (ve_call F_l_ways hr G (vn_cons (ve_var 0) (vn_cons (ve_var 1) (vn_cons (ve_var 7) (vn_cons (ve_var 8) (vn_cons (ve_var 6) vn_nil))))))))))))))
    (vss_one (vs_ret (ve_frz (ve_var 5)))))))
abbrev s_l_routes : Stmt := top 30
theorem sc_l_routes : FnScope ["_law_pieces_here", "_law_signals_here", "_law_found", "_law_k"] ["_law_pieces_here", "_law_signals_here"] (defScope s_l_routes) := ⟨rfl, rfl, rfl, by decide +kernel, rfl, by decide +kernel, by decide +kernel⟩
theorem nd_l_routes_0 : (["_law_way", "_law_k"] : List Str).Nodup := by decide +kernel
theorem dv_l_routes {k : Nat}  {g_l_ways : D1} (D : DefAt K mg "_law_routes" s_l_routes ["_law_pieces_here", "_law_signals_here"]) (h_len : mg "len" = none) (h_range : mg "range" = none)
    (F_l_ways : FnV P w K mg base k "_law_ways" 5 g_l_ways) :
    FnV P w K mg base (k + 1) "_law_routes" 2 (dfn_l_routes g_l_ways) :=
  FnV.of D sc_l_routes fun f cdv A outer s H E hr => by
  have G := good_fn (P := P) (w := w) (K := K) (mg := mg) (base := base) (outer := outer) (H := H) (E := E) sc_l_routes hr
  exact
    (vss_cons (vs_set 2 G.nd (ve_lst false vn_nil))
    (vss_cons (vs_for G.own G.calm (vi_range1 h_range (vn_cons (ve_callB call_lenP h_len blt_len (vn_cons (ve_var 1) vn_nil)) vn_nil)) (vg_name 3 G.nd)
    (vss_one (vs_set 2 G.nd (ve_op (op_addP false) (ve_var 2) (ve_comp false (CompOk.of (sc := (defScope s_l_routes)) ["_law_pieces_here", "_law_signals_here", "_law_found", "_law_k"] ["_law_way", "_law_k"] [none, some 3] rfl (fun _ => rfl) (by decide +kernel)) G.calm (vi_list (ve_call F_l_ways hr G (vn_cons (ve_var 0) (vn_cons (ve_var 1) (vn_cons (ve_lst false vn_nil) (vn_cons (ve_ix G.hu (ve_ix G.hu (ve_var 1) (ve_var 3)) ve_int) (vn_cons (ve_ix G.hu (ve_ix G.hu (ve_var 1) (ve_var 3)) ve_int) vn_nil))))))) (fun _ _ _ _ => (vg_name 0 (good_comp G nd_l_routes_0).nd)) (fun _ _ _ _ => vifs_nil) (fun _ _ _ _ => (ve_tup (vn_cons (ve_var 1) (vn_cons (ve_var 0) vn_nil)))))))))
    (vss_one (vs_ret (ve_var 2)))))
abbrev s_l_is_route : Stmt := top 31
theorem sc_l_is_route : FnScope ["_law_pieces_here", "_law_signals_here", "_law_one", "_law_joint", "_law_at", "_law_k", "_law_step", "_law_ends", "_law_places"] ["_law_pieces_here", "_law_signals_here", "_law_one"] (defScope s_l_is_route) := ⟨rfl, rfl, rfl, by decide +kernel, rfl, by decide +kernel, by decide +kernel⟩
theorem nd_l_is_route_0 : (["_law_number"] : List Str).Nodup := by decide +kernel
theorem nd_l_is_route_1 : (["_law_step"] : List Str).Nodup := by decide +kernel
theorem dv_l_is_route {k : Nat}  {g_l_whole : D1} {g_l_beyond : D1} (D : DefAt K mg "_law_is_route" s_l_is_route ["_law_pieces_here", "_law_signals_here", "_law_one"]) (h_all : mg "all" = none) (h_isinstance : mg "isinstance" = none) (h_len : mg "len" = none) (h_list : mg "list" = none) (h_range : mg "range" = none) (h_set : mg "set" = none) (h_tuple : mg "tuple" = none)
    (F_l_whole : FnV P w K mg base k "_law_whole" 1 g_l_whole) (F_l_beyond : FnV P w K mg base k "_law_beyond" 3 g_l_beyond) :
    FnV P w K mg base (k + 1) "_law_is_route" 3 (dfn_l_is_route g_l_whole g_l_beyond) :=
  FnV.of D sc_l_is_route fun f cdv A outer s H E hr => by
  have G := good_fn (P := P) (w := w) (K := K) (mg := mg) (base := base) (outer := outer) (H := H) (E := E) sc_l_is_route hr
  exact
    (vss_cons (vs_if (VW.vt (vw_or (vt_not (vt_truth (ve_isT "tuple" (ve_var 2) h_isinstance h_tuple blt_tuple))) (vw_or (vt_cmp (op_neP G.hu) (ve_callB call_lenP h_len blt_len (vn_cons (ve_var 2) vn_nil)) ve_int) (vw_or (vt_not (vt_truth (ve_call F_l_whole hr G (vn_cons (ve_ix G.hu (ve_var 2) ve_int) vn_nil)))) (vw_or1 (vt_not (vt_truth (ve_isT "list" (ve_ix G.hu (ve_var 2) ve_int) h_isinstance h_list blt_list))))))))
    (vss_one (vs_ret ve_bl))
    vss_nil)
    (vss_cons (vs_asg (ve_ix G.hu (ve_var 1) (ve_ix G.hu (ve_var 2) ve_int)) (vg_tup G.calm (vgs_cons (vg_name 3 G.nd) (vgs_cons (vg_name 4 G.nd) vgs_nil))))
    (vss_cons (vs_for G.own G.calm (vi_range1 h_range (vn_cons (ve_callB call_lenP h_len blt_len (vn_cons (ve_ix G.hu (ve_var 2) ve_int) vn_nil)) vn_nil)) (vg_name 5 G.nd)
    (vss_cons (vs_set 6 G.nd (ve_ix G.hu (ve_ix G.hu (ve_var 2) ve_int) (ve_var 5)))
    (vss_cons (vs_if (VW.vt (vw_or (vt_not (vt_truth (ve_isT "tuple" (ve_var 6) h_isinstance h_tuple blt_tuple))) (vw_or (vt_cmp (op_neP G.hu) (ve_callB call_lenP h_len blt_len (vn_cons (ve_var 6) vn_nil)) ve_int) (vw_or1 (vt_not (vt_truth (ve_callB (call_allP G.calm) h_all blt_all (vn_cons (ve_comp false (CompOk.of (sc := (defScope s_l_is_route)) ["_law_pieces_here", "_law_signals_here", "_law_one", "_law_joint", "_law_at", "_law_k", "_law_step", "_law_ends", "_law_places"] ["_law_number"] [none] rfl (fun _ => rfl) (by decide +kernel)) G.calm (vi_tup (ve_var 6)) (fun _ _ _ _ => (vg_name 0 (good_comp G nd_l_is_route_0).nd)) (fun _ _ _ _ => vifs_nil) (fun _ _ _ _ => (ve_call F_l_whole hr (good_comp G nd_l_is_route_0) (vn_cons (ve_var 0) vn_nil)))) vn_nil))))))))
    (vss_one (vs_ret ve_bl))
    vss_nil)
    (vss_cons (vs_if (VW.vt (vw_or (vt_cmp (op_neP G.hu) (ve_sl false (ve_var 6) vo_none (vo_some ve_int)) (ve_tup (vn_cons (ve_var 4) (vn_cons (ve_var 3) vn_nil)))) (vw_or1 (VW.vt (vw_and (vt_cmp op_gtP (ve_var 5) ve_int) (vw_and1 (vt_cmp (op_inP G.hu) (ve_tup (vn_cons (ve_var 3) (vn_cons (ve_var 4) vn_nil))) (ve_var 1))))))))
    (vss_one (vs_ret ve_bl))
    vss_nil)
    (vss_cons (vs_set 7 G.nd (ve_sl false (ve_ix G.hu (ve_var 0) (ve_var 4)) (vo_some ve_int) vo_none))
    (vss_cons (vs_if (VW.vt (vw_or (vt_cmp (op_eqP G.hu) (ve_var 3) (ve_ix G.hu (ve_var 6) ve_int)) (vw_or (vt_cmp (op_ninP G.hu) (ve_ix G.hu (ve_var 6) ve_int) (ve_var 7)) (vw_or1 (VW.vt (vw_and (vt_cmp (op_eqP G.hu) (ve_callB call_lenP h_len blt_len (vn_cons (ve_var 7) vn_nil)) ve_int) (vw_and1 (vt_cmp (op_ninP G.hu) (ve_ix G.hu (ve_var 7) ve_int) (ve_tup (vn_cons (ve_var 3) (vn_cons (ve_ix G.hu (ve_var 6) ve_int) vn_nil)))))))))))
    (vss_one (vs_ret ve_bl))
    vss_nil)
    (vss_cons (vs_set 3 G.nd (ve_ix G.hu (ve_var 6) ve_int))
    (vss_one (vs_set 4 G.nd (ve_call F_l_beyond hr G (vn_cons (ve_var 0) (vn_cons (ve_var 4) (vn_cons (ve_var 3) vn_nil)))))))))))))
    (vss_cons (vs_setComp false 8 (CompOk.of (sc := (defScope s_l_is_route)) ["_law_pieces_here", "_law_signals_here", "_law_one", "_law_joint", "_law_at", "_law_k", "_law_step", "_law_ends", "_law_places"] ["_law_step"] [none] rfl (fun _ => rfl) (by decide +kernel)) G.calm G.nd (vi_list (ve_ix G.hu (ve_var 2) ve_int)) (fun _ _ _ _ => (vg_name 0 (good_comp G nd_l_is_route_1).nd)) (fun _ _ _ _ => vifs_nil) (fun _ _ _ _ => (ve_ix (good_comp G nd_l_is_route_1).hu (ve_var 0) ve_int)) (by with_unfolding_all rfl))
    (vss_one (vs_ret (ve_and (ve_chain (op_eqP G.hu) op_gtP (ve_lenSet G.calm (ve_var 8) h_len h_set) (ve_callB call_lenP h_len blt_len (vn_cons (ve_var 8) vn_nil)) ve_int) (ve_one (ve_or (ve_cmp op_isP (ve_var 4) ve_non) (ve_one (ve_cmp (op_inP G.hu) (ve_tup (vn_cons (ve_var 3) (vn_cons (ve_var 4) vn_nil))) (ve_var 1))))))))))))
abbrev s_law_k02 : Stmt := top 32
theorem sc_law_k02 : FnScope ["_law_script", "_law_pieces_here", "_law_signals_here", "_law_handed", "_law_found", "_law_yard", "_law_told", "_law_one"] ["_law_script"] (defScope s_law_k02) := ⟨rfl, rfl, rfl, by decide +kernel, rfl, by decide +kernel, by decide +kernel⟩
theorem nd_law_k02_0 : (["_law_one", "_law_pieces_here", "_law_signals_here"] : List Str).Nodup := by decide +kernel
theorem dv_law_k02 {k : Nat} {cYard : Addr} {g_l_pieces : D1} {g_l_signals : D1} {g_routes : D1} {g_l_is_route : D1} {g_l_routes : D1} {g_Yard_init : D1} {g_Yard_ways : D1} {f : Addr} {fd : FuncData} (D : Fun K "law" "law" s_law_k02 f fd) (h_all : mg "all" = none) (h_isinstance : mg "isinstance" = none) (h_list : mg "list" = none)
    (F_l_pieces : FnV P w K mg base (k + 1) "_law_pieces" 2 g_l_pieces) (F_l_signals : FnV P w K mg base (k + 1) "_law_signals" 3 g_l_signals) (F_routes : FnV P w K mg base (k + 1) "routes" 2 g_routes) (F_l_is_route : FnV P w K mg base (k + 1) "_law_is_route" 3 g_l_is_route) (F_l_routes : FnV P w K mg base (k + 1) "_law_routes" 2 g_l_routes) (F_Yard_init : InV P w K mg base k "Yard" cYard 4 g_Yard_init) (m_Yard_ways : MeV P w K mg base (k + 1) cYard "ways" 1 g_Yard_ways) :
    FnOk P w K mg base (CXo P w) (k + 2) f fd ["_law_script"] (spD K 1 (dfn_law_k02 cYard g_l_pieces g_l_signals g_routes g_l_is_route g_l_routes g_Yard_init g_Yard_ways)) :=
  fn_den D sc_law_k02 fun cdv A outer s H E hr => by
  have G := good_fn (P := P) (w := w) (K := K) (mg := mg) (base := base) (outer := outer) (H := H) (E := E) sc_law_k02 hr
  exact
    (vss_cons (vs_set 1 G.nd (ve_call F_l_pieces hr G (vn_cons (ve_var 0) (vn_cons ve_int vn_nil))))
    (vss_cons (vs_set 2 G.nd (ve_call F_l_signals hr G (vn_cons (ve_var 0) (vn_cons ve_int (vn_cons (ve_var 1) vn_nil)))))
    (vss_cons (vs_set 3 G.nd (ve_tup (vn_cons (ve_callTy (call_listP false) h_list blt_list (vn_cons (ve_var 1) vn_nil)) (vn_cons (ve_callTy (call_listP false) h_list blt_list (vn_cons (ve_var 2) vn_nil)) vn_nil))))
    (vss_cons (vs_set 4 G.nd (ve_call F_routes hr G (vn_cons (ve_ix G.hu (ve_var 3) ve_int) (vn_cons (ve_ix G.hu (ve_var 3) ve_int) vn_nil))))
    (vss_cons (vs_if (VW.vt (vw_or (vt_not (vt_truth (ve_isT "list" (ve_var 4) h_isinstance h_list blt_list))) (vw_or1 (vt_not (vt_truth (ve_callB (call_allP G.calm) h_all blt_all (vn_cons (ve_comp false (CompOk.of (sc := (defScope s_law_k02)) ["_law_script", "_law_pieces_here", "_law_signals_here", "_law_handed", "_law_found", "_law_yard", "_law_told", "_law_one"] ["_law_one", "_law_pieces_here", "_law_signals_here"] [none, some 1, some 2] rfl (fun _ => rfl) (by decide +kernel)) G.calm (vi_list (ve_var 4)) (fun _ _ _ _ => (vg_name 0 (good_comp G nd_law_k02_0).nd)) (fun _ _ _ _ => vifs_nil) (fun _ _ _ _ => (ve_call F_l_is_route hr (good_comp G nd_law_k02_0) (vn_cons (ve_var 1) (vn_cons (ve_var 2) (vn_cons (ve_var 0) vn_nil)))))) vn_nil)))))))
    (vss_one (vs_ret ve_bl))
    vss_nil)
    (vss_cons (vs_if (VW.vt (vw_or (vt_cmp (op_neP G.hu) (ve_var 4) (ve_call F_l_routes hr G (vn_cons (ve_var 1) (vn_cons (ve_var 2) vn_nil)))) (vw_or1 (vt_cmp (op_neP G.hu) (ve_var 3) (ve_tup (vn_cons (ve_var 1) (vn_cons (ve_var 2) vn_nil)))))))
    (vss_one (vs_ret ve_bl))
    vss_nil)
    (vss_cons (vs_set 5 G.nd (ve_make F_Yard_init hr G (vn_cons (ve_var 1) (vn_cons (ve_var 2) (vn_cons ve_int vn_nil)))))
    (vss_cons (vs_set 6 G.nd (ve_met0 m_Yard_ways hr G (ve_var 5)))
    (vss_cons (vs_if (vt_cmp (op_neP G.hu) (ve_var 6) (ve_var 4))
    (vss_one (vs_ret ve_bl))
    vss_nil)
    (vss_cons (vs_for G.own G.calm (vi_list (ve_var 6)) (vg_name 7 G.nd)
    (vss_one (vs_expr (ve_lm PySem.F.slot_list_append PySem.F.type_list_append mt_appendP (ve_ix G.hu (ve_var 7) ve_int) (vn_cons (ve_tup (vn_cons ve_int (vn_cons ve_int (vn_cons ve_int vn_nil)))) vn_nil)))))
    (vss_cons (vs_expr (ve_lm PySem.F.slot_list_append PySem.F.type_list_append mt_appendP (ve_var 6) (vn_cons (ve_tup (vn_cons ve_int (vn_cons (ve_lst false vn_nil) vn_nil))) vn_nil)))
    (vss_one (vs_ret (ve_cmp (op_eqP G.hu) (ve_met0 m_Yard_ways hr G (ve_var 5)) (ve_var 4)))))))))))))))
end
end Rw
end
section
set_option Elab.async false
set_option linter.all false
set_option maxRecDepth 100000
set_option maxHeartbeats 4000000
namespace Rw
open PySem L2 Sb
structure Top (K : PySem.W.Frag) (mg : Str → Option Value) (cBadYard cYard : Addr) : Prop where
  h_BadYard : Exn K mg "BadYard" cBadYard
  h_Yard_falls : FldOk K cYard "falls"
  h_Yard_found : FldOk K cYard "found"
  h_Yard_greens : FldOk K cYard "greens"
  h_Yard_locks : FldOk K cYard "locks"
  h_Yard_lying : FldOk K cYard "lying"
  h_Yard_pieces : FldOk K cYard "pieces"
  h_Yard_signals : FldOk K cYard "signals"
  h_Yard_ticks : FldOk K cYard "ticks"
  h_Yard_trains : FldOk K cYard "trains"
  h_Yard_wait : FldOk K cYard "wait"
  h_all : mg "all" = none
  h_bool : mg "bool" = none
  h_enumerate : mg "enumerate" = none
  h_int : mg "int" = none
  h_isinstance : mg "isinstance" = none
  h_len : mg "len" = none
  h_list : mg "list" = none
  h_min : mg "min" = none
  h_range : mg "range" = none
  h_set : mg "set" = none
  h_tuple : mg "tuple" = none
  h_LAST_JOINT : ∃ t : Tok, mg "LAST_JOINT" = some (.int 999 t)
  h_MOST_PIECES : ∃ t : Tok, mg "MOST_PIECES" = some (.int 16 t)
  h_MOST_SIGNALS : ∃ t : Tok, mg "MOST_SIGNALS" = some (.int 16 t)
  D_joints_of : DefAt K mg "joints_of" s_joints_of ["piece"]
  D_pieces_at : DefAt K mg "pieces_at" s_pieces_at ["pieces", "joint"]
  D_piece_beyond : DefAt K mg "piece_beyond" s_piece_beyond ["pieces", "number", "joint"]
  D_joints_out : DefAt K mg "joints_out" s_joints_out ["piece", "joint"]
  D_check_yard : DefAt K mg "check_yard" s_check_yard ["pieces", "signals"]
  D_check_pieces : DefAt K mg "check_pieces" s_check_pieces ["pieces"]
  D_check_joints : DefAt K mg "check_joints" s_check_joints ["pieces", "joints"]
  D_check_signals : DefAt K mg "check_signals" s_check_signals ["pieces", "signals"]
  D_routes : DefAt K mg "routes" s_routes ["pieces", "signals"]
  D_ways_on : DefAt K mg "ways_on" s_ways_on ["pieces", "signals", "way", "joint", "piece"]
  D_Yard_init : IniAt K mg "Yard" cYard "Yard.__init__" s_Yard_init ["self", "pieces", "signals", "wait"]
  D_Yard_ways : MetAt K cYard "ways" "Yard.ways" s_Yard_ways ["self"]
  D_l_cell : DefAt K mg "_law_cell" s_l_cell ["_law_script", "_law_k"]
  D_l_mix : DefAt K mg "_law_mix" s_l_mix ["_law_script", "_law_k"]
  D_l_whole : DefAt K mg "_law_whole" s_l_whole ["_law_found"]
  D_l_beyond : DefAt K mg "_law_beyond" s_l_beyond ["_law_pieces_here", "_law_at", "_law_joint"]
  D_l_pieces : DefAt K mg "_law_pieces" s_l_pieces ["_law_script", "_law_base"]
  D_l_signals : DefAt K mg "_law_signals" s_l_signals ["_law_script", "_law_base", "_law_pieces_here"]
  D_l_outs : DefAt K mg "_law_outs" s_l_outs ["_law_piece", "_law_joint"]
  D_l_ways : DefAt K mg "_law_ways" s_l_ways ["_law_pieces_here", "_law_signals_here", "_law_way", "_law_at", "_law_joint"]
  D_l_routes : DefAt K mg "_law_routes" s_l_routes ["_law_pieces_here", "_law_signals_here"]
  D_l_is_route : DefAt K mg "_law_is_route" s_l_is_route ["_law_pieces_here", "_law_signals_here", "_law_one"]
section
variable {P : Program} {w : World} {K : PySem.W.Frag} {mg : Str → Option Value} {base : Heap} {cBadYard cYard : Addr}
theorem ways_at (T : Top K mg cBadYard cYard) : ∀ n, ∃ g, FnV P w K mg base (3 + n) "ways_on" 5 g ∧ WSpec n g
  | 0 => ⟨_, FnV.bad T.D_ways_on sc_ways_on, fun ps ss way j a M ok hn _ => by have := ok.len; omega⟩
  | n + 1 => by
    obtain ⟨g, F, S⟩ := ways_at T n
    have F1 : FnV P w K mg base 1 "joints_of" 1 _ := dv_joints_of T.D_joints_of T.h_list
    have F2 : FnV P w K mg base 2 "pieces_at" 2 _ := dv_pieces_at T.D_pieces_at T.h_enumerate F1
    have F3 : FnV P w K mg base 3 "piece_beyond" 3 _ := dv_piece_beyond T.D_piece_beyond F2
    have F4 : FnV P w K mg base 2 "joints_out" 2 _ := dv_joints_out T.D_joints_out F1
    exact ⟨_, (dv_ways_on T.D_ways_on (F4.mono (by omega)) (F3.mono (by omega)) F).trunc, w_step S⟩
theorem lways_at (T : Top K mg cBadYard cYard) : ∀ n, ∃ g, FnV P w K mg base (3 + n) "_law_ways" 5 g ∧ LSpec n g
  | 0 => ⟨_, FnV.bad T.D_l_ways sc_l_ways, fun ps ss way j a M ok hn _ => by have := ok.len; omega⟩
  | n + 1 => by
    obtain ⟨g, F, S⟩ := lways_at T n
    have F1 : FnV P w K mg base 1 "_law_outs" 2 _ := dv_l_outs T.D_l_outs
    have F2 : FnV P w K mg base 1 "_law_beyond" 3 _ := dv_l_beyond T.D_l_beyond T.h_len T.h_range
    exact ⟨_, (dv_l_ways T.D_l_ways (F1.mono (by omega)) (F2.mono (by omega)) F).trunc, l_step (fun p j M => Sb.s_l_outs p j M) (fun ps n j M h => Sb.s_l_beyond ps n j M h) S⟩
theorem law_ok (T : Top K mg cBadYard cYard) {f : Addr} {fd : FuncData} (F : Fun K "law" "law" s_law_k02 f fd) : FnOk P w K mg base (CXo P w) 40 f fd ["_law_script"] (spLaw K) := by
  obtain ⟨t1, h1⟩ := T.h_MOST_PIECES
  obtain ⟨t2, h2⟩ := T.h_MOST_SIGNALS
  obtain ⟨t3, h3⟩ := T.h_LAST_JOINT
  obtain ⟨gw, Fw, Sw⟩ := ways_at (P := P) (w := w) (base := base) T fuel
  obtain ⟨gl, Fl, Sl⟩ := lways_at (P := P) (w := w) (base := base) T fuel
  have F1 : FnV P w K mg base 1 "joints_of" 1 _ := dv_joints_of T.D_joints_of T.h_list
  have F2 : FnV P w K mg base 2 "pieces_at" 2 _ := dv_pieces_at T.D_pieces_at T.h_enumerate F1
  have F5 : FnV P w K mg base 3 "check_joints" 2 _ := dv_check_joints T.D_check_joints T.h_BadYard T.h_len h3 F2
  have F6 : FnV P w K mg base 4 "check_pieces" 1 _ := dv_check_pieces T.D_check_pieces T.h_BadYard T.h_len h1 F5 (F1.mono (by omega))
  have F7 : FnV P w K mg base 2 "check_signals" 2 _ := dv_check_signals T.D_check_signals T.h_BadYard T.h_len h2 F1
  have F8 : FnV P w K mg base 5 "check_yard" 2 _ := dv_check_yard T.D_check_yard F6 (F7.mono (by omega))
  have F9 : FnV P w K mg base 21 "routes" 2 _ := (dv_routes T.D_routes T.h_enumerate (F8.mono (by omega)) (Fw.mono (by decide))).trunc
  have hj : JofSpec dfn_joints_of := fun p M => Sb.s_joints_of p M
  have hc : ∀ ps ss, GoodY ps ss → OkSpec (dfn_check_yard (dfn_check_pieces cBadYard (dfn_check_joints cBadYard (dfn_pieces_at dfn_joints_of)) dfn_joints_of) (dfn_check_signals cBadYard dfn_joints_of)) [encPs ps, encSs ss] := fun ps ss hg =>
    Sb.s_check_yard (Sb.s_check_pieces hg (fun p hp => Sb.s_check_joints (fun ps j M h => Sb.s_pieces_at ps j M h) (by have := hg.few; omega) hg.two (hg.rng p hp) (hg.once p hp)) hj) (Sb.s_check_signals hg hj)
  have S9 := Sb.s_routes hc Sw
  have I1 : InV P w K mg base 22 "Yard" cYard 4 _ := dv_Yard_init T.D_Yard_init T.h_Yard_falls T.h_Yard_found T.h_Yard_greens T.h_Yard_locks T.h_Yard_lying T.h_Yard_pieces T.h_Yard_signals T.h_Yard_ticks T.h_Yard_trains T.h_Yard_wait T.h_list F9
  have M1 : MeV P w K mg base 1 cYard "ways" 1 _ := dv_Yard_ways T.D_Yard_ways T.h_Yard_found T.h_list
  have L1 : FnV P w K mg base 1 "_law_cell" 2 _ := dv_l_cell T.D_l_cell T.h_len
  have L2' : FnV P w K mg base 2 "_law_mix" 2 _ := dv_l_mix T.D_l_mix L1
  have L3 : FnV P w K mg base 1 "_law_whole" 1 _ := dv_l_whole T.D_l_whole T.h_bool T.h_int T.h_isinstance
  have L4 : FnV P w K mg base 1 "_law_beyond" 3 _ := dv_l_beyond T.D_l_beyond T.h_len T.h_range
  have L5 : FnV P w K mg base 3 "_law_pieces" 2 _ := (dv_l_pieces T.D_l_pieces T.h_int T.h_len T.h_min T.h_range T.h_tuple L2').trunc
  have L6 : FnV P w K mg base 3 "_law_signals" 3 _ := (dv_l_signals T.D_l_signals T.h_len T.h_range L2' (L4.mono (by omega))).trunc
  have L7 : FnV P w K mg base 21 "_law_routes" 2 _ := dv_l_routes T.D_l_routes T.h_len T.h_range (Fl.mono (by decide))
  have L8 : FnV P w K mg base 2 "_law_is_route" 3 _ := dv_l_is_route T.D_l_is_route T.h_all T.h_isinstance T.h_len T.h_list T.h_range T.h_set T.h_tuple L3 L4
  have hm : MixSpec (dfn_l_mix dfn_l_cell) := Sb.s_l_mix Sb.s_l_cell
  have hb : BeySpec dfn_l_beyond := fun ps n j M h => Sb.s_l_beyond ps n j M h
  have LL := dv_law_k02 (P := P) (w := w) (base := base) (k := 22) F T.h_all T.h_isinstance T.h_list (L5.mono (by omega)) (L6.mono (by omega)) (F9.mono (by omega)) (L8.mono (by omega)) (L7.mono (by omega)) I1 (M1.mono (by omega))
  exact (LL.imp fun _ _ _ _ h => spLaw_of (fun ns M => Sb.s_law_k02 (Sb.s_l_pieces hm) (Sb.s_l_signals hm hb) S9 (Sb.s_l_is_route Sb.s_l_whole hb) (Sb.s_l_routes Sl) (fun ps ss wait M hg => Sb.s_Yard_init S9 hg wait M) (fun M n fs rs h1 h2 h3 h4 => Sb.s_Yard_ways h1 h2 h3 h4) ns M) h).mono (by decide)
end
theorem all_mk {P : Program} {w : World} {K : PySem.W.Frag} {h : Heap} {mg : Str → Option Value} {fa cBadYard cYard : Addr} (X : K.In h) (G : h.Ns mainGlobals mg) (hfa : mg "law" = some (.ref fa))
    {t_LAST_JOINT : Tok}
    {t_MOST_PIECES : Tok}
    {t_MOST_SIGNALS : Tok}
    {f_joints_of : Addr} {od_joints_of an_joints_of : Option Addr} {sl_joints_of : Array (Option Value)} {oc_joints_of kV_joints_of dc_joints_of pm_joints_of cd_joints_of ct_joints_of : Value}
    {f_pieces_at : Addr} {od_pieces_at an_pieces_at : Option Addr} {sl_pieces_at : Array (Option Value)} {oc_pieces_at kV_pieces_at dc_pieces_at pm_pieces_at cd_pieces_at ct_pieces_at : Value}
    {f_piece_beyond : Addr} {od_piece_beyond an_piece_beyond : Option Addr} {sl_piece_beyond : Array (Option Value)} {oc_piece_beyond kV_piece_beyond dc_piece_beyond pm_piece_beyond cd_piece_beyond ct_piece_beyond : Value}
    {f_joints_out : Addr} {od_joints_out an_joints_out : Option Addr} {sl_joints_out : Array (Option Value)} {oc_joints_out kV_joints_out dc_joints_out pm_joints_out cd_joints_out ct_joints_out : Value}
    {f_check_yard : Addr} {od_check_yard an_check_yard : Option Addr} {sl_check_yard : Array (Option Value)} {oc_check_yard kV_check_yard dc_check_yard pm_check_yard cd_check_yard ct_check_yard : Value}
    {f_check_pieces : Addr} {od_check_pieces an_check_pieces : Option Addr} {sl_check_pieces : Array (Option Value)} {oc_check_pieces kV_check_pieces dc_check_pieces pm_check_pieces cd_check_pieces ct_check_pieces : Value}
    {f_check_joints : Addr} {od_check_joints an_check_joints : Option Addr} {sl_check_joints : Array (Option Value)} {oc_check_joints kV_check_joints dc_check_joints pm_check_joints cd_check_joints ct_check_joints : Value}
    {f_check_signals : Addr} {od_check_signals an_check_signals : Option Addr} {sl_check_signals : Array (Option Value)} {oc_check_signals kV_check_signals dc_check_signals pm_check_signals cd_check_signals ct_check_signals : Value}
    {f_routes : Addr} {od_routes an_routes : Option Addr} {sl_routes : Array (Option Value)} {oc_routes kV_routes dc_routes pm_routes cd_routes ct_routes : Value}
    {f_ways_on : Addr} {od_ways_on an_ways_on : Option Addr} {sl_ways_on : Array (Option Value)} {oc_ways_on kV_ways_on dc_ways_on pm_ways_on cd_ways_on ct_ways_on : Value}
    {f_Yard_init : Addr} {od_Yard_init an_Yard_init : Option Addr} {sl_Yard_init : Array (Option Value)} {oc_Yard_init kV_Yard_init dc_Yard_init pm_Yard_init cd_Yard_init ct_Yard_init : Value}
    {f_Yard_ways : Addr} {od_Yard_ways an_Yard_ways : Option Addr} {sl_Yard_ways : Array (Option Value)} {oc_Yard_ways kV_Yard_ways dc_Yard_ways pm_Yard_ways cd_Yard_ways ct_Yard_ways : Value}
    {f_l_cell : Addr} {od_l_cell an_l_cell : Option Addr} {sl_l_cell : Array (Option Value)} {oc_l_cell kV_l_cell dc_l_cell pm_l_cell cd_l_cell ct_l_cell : Value}
    {f_l_mix : Addr} {od_l_mix an_l_mix : Option Addr} {sl_l_mix : Array (Option Value)} {oc_l_mix kV_l_mix dc_l_mix pm_l_mix cd_l_mix ct_l_mix : Value}
    {f_l_whole : Addr} {od_l_whole an_l_whole : Option Addr} {sl_l_whole : Array (Option Value)} {oc_l_whole kV_l_whole dc_l_whole pm_l_whole cd_l_whole ct_l_whole : Value}
    {f_l_beyond : Addr} {od_l_beyond an_l_beyond : Option Addr} {sl_l_beyond : Array (Option Value)} {oc_l_beyond kV_l_beyond dc_l_beyond pm_l_beyond cd_l_beyond ct_l_beyond : Value}
    {f_l_pieces : Addr} {od_l_pieces an_l_pieces : Option Addr} {sl_l_pieces : Array (Option Value)} {oc_l_pieces kV_l_pieces dc_l_pieces pm_l_pieces cd_l_pieces ct_l_pieces : Value}
    {f_l_signals : Addr} {od_l_signals an_l_signals : Option Addr} {sl_l_signals : Array (Option Value)} {oc_l_signals kV_l_signals dc_l_signals pm_l_signals cd_l_signals ct_l_signals : Value}
    {f_l_outs : Addr} {od_l_outs an_l_outs : Option Addr} {sl_l_outs : Array (Option Value)} {oc_l_outs kV_l_outs dc_l_outs pm_l_outs cd_l_outs ct_l_outs : Value}
    {f_l_ways : Addr} {od_l_ways an_l_ways : Option Addr} {sl_l_ways : Array (Option Value)} {oc_l_ways kV_l_ways dc_l_ways pm_l_ways cd_l_ways ct_l_ways : Value}
    {f_l_routes : Addr} {od_l_routes an_l_routes : Option Addr} {sl_l_routes : Array (Option Value)} {oc_l_routes kV_l_routes dc_l_routes pm_l_routes cd_l_routes ct_l_routes : Value}
    {f_l_is_route : Addr} {od_l_is_route an_l_is_route : Option Addr} {sl_l_is_route : Array (Option Value)} {oc_l_is_route kV_l_is_route dc_l_is_route pm_l_is_route cd_l_is_route ct_l_is_route : Value}
    {f_law_k02 : Addr} {od_law_k02 an_law_k02 : Option Addr} {sl_law_k02 : Array (Option Value)} {oc_law_k02 kV_law_k02 dc_law_k02 pm_law_k02 cd_law_k02 ct_law_k02 : Value}
    (ax_BadYard : PySem.W.nsIn K mainGlobals "BadYard" = some (some (.ref cBadYard)))
    (xx_BadYard : PySem.W.excIn K cBadYard [.type "ValueError", .type "Exception", .type "BaseException", .type "object"] "ValueError.__new__" = true)
    (ac_Yard : PySem.W.nsIn K mainGlobals "Yard" = some (some (.ref cYard)))
    (pg_Yard : PySem.W.plainGet K cYard Str.empty = true)
    (hd_Yard : PySem.W.hasDictIn K cYard = true)
    (po_Yard : PySem.W.plainOver K cYard = true)
    (sa_Yard : PySem.W.findIn K (.ref cYard) "__setattr__" = some (some (.builtin "object.__setattr__")))
    (mk_Yard : PySem.W.makesIn K cYard = true)
    (kc_Yard : PySem.W.keepIn K (.ref cYard) = true)
    (nf_Yard_falls : PySem.W.findIn K (.ref cYard) "falls" = some none)
    (nf_Yard_found : PySem.W.findIn K (.ref cYard) "found" = some none)
    (nf_Yard_greens : PySem.W.findIn K (.ref cYard) "greens" = some none)
    (nf_Yard_locks : PySem.W.findIn K (.ref cYard) "locks" = some none)
    (nf_Yard_lying : PySem.W.findIn K (.ref cYard) "lying" = some none)
    (nf_Yard_pieces : PySem.W.findIn K (.ref cYard) "pieces" = some none)
    (nf_Yard_signals : PySem.W.findIn K (.ref cYard) "signals" = some none)
    (nf_Yard_ticks : PySem.W.findIn K (.ref cYard) "ticks" = some none)
    (nf_Yard_trains : PySem.W.findIn K (.ref cYard) "trains" = some none)
    (nf_Yard_wait : PySem.W.findIn K (.ref cYard) "wait" = some none)
    (z_all : PySem.W.nsIn K mainGlobals "all" = some none)
    (z_bool : PySem.W.nsIn K mainGlobals "bool" = some none)
    (z_enumerate : PySem.W.nsIn K mainGlobals "enumerate" = some none)
    (z_int : PySem.W.nsIn K mainGlobals "int" = some none)
    (z_isinstance : PySem.W.nsIn K mainGlobals "isinstance" = some none)
    (z_len : PySem.W.nsIn K mainGlobals "len" = some none)
    (z_list : PySem.W.nsIn K mainGlobals "list" = some none)
    (z_min : PySem.W.nsIn K mainGlobals "min" = some none)
    (z_range : PySem.W.nsIn K mainGlobals "range" = some none)
    (z_set : PySem.W.nsIn K mainGlobals "set" = some none)
    (z_tuple : PySem.W.nsIn K mainGlobals "tuple" = some none)
    (i_LAST_JOINT : PySem.W.nsIn K mainGlobals "LAST_JOINT" = some (some (.int 999 t_LAST_JOINT)))
    (i_MOST_PIECES : PySem.W.nsIn K mainGlobals "MOST_PIECES" = some (some (.int 16 t_MOST_PIECES)))
    (i_MOST_SIGNALS : PySem.W.nsIn K mainGlobals "MOST_SIGNALS" = some (some (.int 16 t_MOST_SIGNALS)))
    (a_joints_of : PySem.W.nsIn K mainGlobals "joints_of" = some (some (.ref f_joints_of)))
    (l_joints_of : K.lookup f_joints_of = some ⟨oc_joints_of, od_joints_of, .func (PySem.W.fnOf "joints_of" "joints_of" (defArgs s_joints_of) (defBody s_joints_of) (defScope s_joints_of) .none kV_joints_of dc_joints_of pm_joints_of an_joints_of cd_joints_of ct_joints_of), sl_joints_of⟩)
    (c_joints_of : PySem.W.codeIn K cd_joints_of "joints_of" = true)
    (k_joints_of : PySem.W.keepIn K (.ref f_joints_of) = true)
    (a_pieces_at : PySem.W.nsIn K mainGlobals "pieces_at" = some (some (.ref f_pieces_at)))
    (l_pieces_at : K.lookup f_pieces_at = some ⟨oc_pieces_at, od_pieces_at, .func (PySem.W.fnOf "pieces_at" "pieces_at" (defArgs s_pieces_at) (defBody s_pieces_at) (defScope s_pieces_at) .none kV_pieces_at dc_pieces_at pm_pieces_at an_pieces_at cd_pieces_at ct_pieces_at), sl_pieces_at⟩)
    (c_pieces_at : PySem.W.codeIn K cd_pieces_at "pieces_at" = true)
    (k_pieces_at : PySem.W.keepIn K (.ref f_pieces_at) = true)
    (a_piece_beyond : PySem.W.nsIn K mainGlobals "piece_beyond" = some (some (.ref f_piece_beyond)))
    (l_piece_beyond : K.lookup f_piece_beyond = some ⟨oc_piece_beyond, od_piece_beyond, .func (PySem.W.fnOf "piece_beyond" "piece_beyond" (defArgs s_piece_beyond) (defBody s_piece_beyond) (defScope s_piece_beyond) .none kV_piece_beyond dc_piece_beyond pm_piece_beyond an_piece_beyond cd_piece_beyond ct_piece_beyond), sl_piece_beyond⟩)
    (c_piece_beyond : PySem.W.codeIn K cd_piece_beyond "piece_beyond" = true)
    (k_piece_beyond : PySem.W.keepIn K (.ref f_piece_beyond) = true)
    (a_joints_out : PySem.W.nsIn K mainGlobals "joints_out" = some (some (.ref f_joints_out)))
    (l_joints_out : K.lookup f_joints_out = some ⟨oc_joints_out, od_joints_out, .func (PySem.W.fnOf "joints_out" "joints_out" (defArgs s_joints_out) (defBody s_joints_out) (defScope s_joints_out) .none kV_joints_out dc_joints_out pm_joints_out an_joints_out cd_joints_out ct_joints_out), sl_joints_out⟩)
    (c_joints_out : PySem.W.codeIn K cd_joints_out "joints_out" = true)
    (k_joints_out : PySem.W.keepIn K (.ref f_joints_out) = true)
    (a_check_yard : PySem.W.nsIn K mainGlobals "check_yard" = some (some (.ref f_check_yard)))
    (l_check_yard : K.lookup f_check_yard = some ⟨oc_check_yard, od_check_yard, .func (PySem.W.fnOf "check_yard" "check_yard" (defArgs s_check_yard) (defBody s_check_yard) (defScope s_check_yard) .none kV_check_yard dc_check_yard pm_check_yard an_check_yard cd_check_yard ct_check_yard), sl_check_yard⟩)
    (c_check_yard : PySem.W.codeIn K cd_check_yard "check_yard" = true)
    (k_check_yard : PySem.W.keepIn K (.ref f_check_yard) = true)
    (a_check_pieces : PySem.W.nsIn K mainGlobals "check_pieces" = some (some (.ref f_check_pieces)))
    (l_check_pieces : K.lookup f_check_pieces = some ⟨oc_check_pieces, od_check_pieces, .func (PySem.W.fnOf "check_pieces" "check_pieces" (defArgs s_check_pieces) (defBody s_check_pieces) (defScope s_check_pieces) .none kV_check_pieces dc_check_pieces pm_check_pieces an_check_pieces cd_check_pieces ct_check_pieces), sl_check_pieces⟩)
    (c_check_pieces : PySem.W.codeIn K cd_check_pieces "check_pieces" = true)
    (k_check_pieces : PySem.W.keepIn K (.ref f_check_pieces) = true)
    (a_check_joints : PySem.W.nsIn K mainGlobals "check_joints" = some (some (.ref f_check_joints)))
    (l_check_joints : K.lookup f_check_joints = some ⟨oc_check_joints, od_check_joints, .func (PySem.W.fnOf "check_joints" "check_joints" (defArgs s_check_joints) (defBody s_check_joints) (defScope s_check_joints) .none kV_check_joints dc_check_joints pm_check_joints an_check_joints cd_check_joints ct_check_joints), sl_check_joints⟩)
    (c_check_joints : PySem.W.codeIn K cd_check_joints "check_joints" = true)
    (k_check_joints : PySem.W.keepIn K (.ref f_check_joints) = true)
    (a_check_signals : PySem.W.nsIn K mainGlobals "check_signals" = some (some (.ref f_check_signals)))
    (l_check_signals : K.lookup f_check_signals = some ⟨oc_check_signals, od_check_signals, .func (PySem.W.fnOf "check_signals" "check_signals" (defArgs s_check_signals) (defBody s_check_signals) (defScope s_check_signals) .none kV_check_signals dc_check_signals pm_check_signals an_check_signals cd_check_signals ct_check_signals), sl_check_signals⟩)
    (c_check_signals : PySem.W.codeIn K cd_check_signals "check_signals" = true)
    (k_check_signals : PySem.W.keepIn K (.ref f_check_signals) = true)
    (a_routes : PySem.W.nsIn K mainGlobals "routes" = some (some (.ref f_routes)))
    (l_routes : K.lookup f_routes = some ⟨oc_routes, od_routes, .func (PySem.W.fnOf "routes" "routes" (defArgs s_routes) (defBody s_routes) (defScope s_routes) .none kV_routes dc_routes pm_routes an_routes cd_routes ct_routes), sl_routes⟩)
    (c_routes : PySem.W.codeIn K cd_routes "routes" = true)
    (k_routes : PySem.W.keepIn K (.ref f_routes) = true)
    (a_ways_on : PySem.W.nsIn K mainGlobals "ways_on" = some (some (.ref f_ways_on)))
    (l_ways_on : K.lookup f_ways_on = some ⟨oc_ways_on, od_ways_on, .func (PySem.W.fnOf "ways_on" "ways_on" (defArgs s_ways_on) (defBody s_ways_on) (defScope s_ways_on) .none kV_ways_on dc_ways_on pm_ways_on an_ways_on cd_ways_on ct_ways_on), sl_ways_on⟩)
    (c_ways_on : PySem.W.codeIn K cd_ways_on "ways_on" = true)
    (k_ways_on : PySem.W.keepIn K (.ref f_ways_on) = true)
    (a_Yard_init : PySem.W.findIn K (.ref cYard) "__init__" = some (some (.ref f_Yard_init)))
    (j_Yard_init : PySem.W.isFn K (.ref f_Yard_init) = true)
    (l_Yard_init : K.lookup f_Yard_init = some ⟨oc_Yard_init, od_Yard_init, .func (PySem.W.fnOf "__init__" "Yard.__init__" (defArgs s_Yard_init) (defBody s_Yard_init) (defScope s_Yard_init) .none kV_Yard_init dc_Yard_init pm_Yard_init an_Yard_init cd_Yard_init ct_Yard_init), sl_Yard_init⟩)
    (c_Yard_init : PySem.W.codeIn K cd_Yard_init "Yard.__init__" = true)
    (k_Yard_init : PySem.W.keepIn K (.ref f_Yard_init) = true)
    (a_Yard_ways : PySem.W.findIn K (.ref cYard) "ways" = some (some (.ref f_Yard_ways)))
    (j_Yard_ways : PySem.W.isFn K (.ref f_Yard_ways) = true)
    (l_Yard_ways : K.lookup f_Yard_ways = some ⟨oc_Yard_ways, od_Yard_ways, .func (PySem.W.fnOf "ways" "Yard.ways" (defArgs s_Yard_ways) (defBody s_Yard_ways) (defScope s_Yard_ways) .none kV_Yard_ways dc_Yard_ways pm_Yard_ways an_Yard_ways cd_Yard_ways ct_Yard_ways), sl_Yard_ways⟩)
    (c_Yard_ways : PySem.W.codeIn K cd_Yard_ways "Yard.ways" = true)
    (k_Yard_ways : PySem.W.keepIn K (.ref f_Yard_ways) = true)
    (a_l_cell : PySem.W.nsIn K mainGlobals "_law_cell" = some (some (.ref f_l_cell)))
    (l_l_cell : K.lookup f_l_cell = some ⟨oc_l_cell, od_l_cell, .func (PySem.W.fnOf "_law_cell" "_law_cell" (defArgs s_l_cell) (defBody s_l_cell) (defScope s_l_cell) .none kV_l_cell dc_l_cell pm_l_cell an_l_cell cd_l_cell ct_l_cell), sl_l_cell⟩)
    (c_l_cell : PySem.W.codeIn K cd_l_cell "_law_cell" = true)
    (k_l_cell : PySem.W.keepIn K (.ref f_l_cell) = true)
    (a_l_mix : PySem.W.nsIn K mainGlobals "_law_mix" = some (some (.ref f_l_mix)))
    (l_l_mix : K.lookup f_l_mix = some ⟨oc_l_mix, od_l_mix, .func (PySem.W.fnOf "_law_mix" "_law_mix" (defArgs s_l_mix) (defBody s_l_mix) (defScope s_l_mix) .none kV_l_mix dc_l_mix pm_l_mix an_l_mix cd_l_mix ct_l_mix), sl_l_mix⟩)
    (c_l_mix : PySem.W.codeIn K cd_l_mix "_law_mix" = true)
    (k_l_mix : PySem.W.keepIn K (.ref f_l_mix) = true)
    (a_l_whole : PySem.W.nsIn K mainGlobals "_law_whole" = some (some (.ref f_l_whole)))
    (l_l_whole : K.lookup f_l_whole = some ⟨oc_l_whole, od_l_whole, .func (PySem.W.fnOf "_law_whole" "_law_whole" (defArgs s_l_whole) (defBody s_l_whole) (defScope s_l_whole) .none kV_l_whole dc_l_whole pm_l_whole an_l_whole cd_l_whole ct_l_whole), sl_l_whole⟩)
    (c_l_whole : PySem.W.codeIn K cd_l_whole "_law_whole" = true)
    (k_l_whole : PySem.W.keepIn K (.ref f_l_whole) = true)
    (a_l_beyond : PySem.W.nsIn K mainGlobals "_law_beyond" = some (some (.ref f_l_beyond)))
    (l_l_beyond : K.lookup f_l_beyond = some ⟨oc_l_beyond, od_l_beyond, .func (PySem.W.fnOf "_law_beyond" "_law_beyond" (defArgs s_l_beyond) (defBody s_l_beyond) (defScope s_l_beyond) .none kV_l_beyond dc_l_beyond pm_l_beyond an_l_beyond cd_l_beyond ct_l_beyond), sl_l_beyond⟩)
    (c_l_beyond : PySem.W.codeIn K cd_l_beyond "_law_beyond" = true)
    (k_l_beyond : PySem.W.keepIn K (.ref f_l_beyond) = true)
    (a_l_pieces : PySem.W.nsIn K mainGlobals "_law_pieces" = some (some (.ref f_l_pieces)))
    (l_l_pieces : K.lookup f_l_pieces = some ⟨oc_l_pieces, od_l_pieces, .func (PySem.W.fnOf "_law_pieces" "_law_pieces" (defArgs s_l_pieces) (defBody s_l_pieces) (defScope s_l_pieces) .none kV_l_pieces dc_l_pieces pm_l_pieces an_l_pieces cd_l_pieces ct_l_pieces), sl_l_pieces⟩)
    (c_l_pieces : PySem.W.codeIn K cd_l_pieces "_law_pieces" = true)
    (k_l_pieces : PySem.W.keepIn K (.ref f_l_pieces) = true)
    (a_l_signals : PySem.W.nsIn K mainGlobals "_law_signals" = some (some (.ref f_l_signals)))
    (l_l_signals : K.lookup f_l_signals = some ⟨oc_l_signals, od_l_signals, .func (PySem.W.fnOf "_law_signals" "_law_signals" (defArgs s_l_signals) (defBody s_l_signals) (defScope s_l_signals) .none kV_l_signals dc_l_signals pm_l_signals an_l_signals cd_l_signals ct_l_signals), sl_l_signals⟩)
    (c_l_signals : PySem.W.codeIn K cd_l_signals "_law_signals" = true)
    (k_l_signals : PySem.W.keepIn K (.ref f_l_signals) = true)
    (a_l_outs : PySem.W.nsIn K mainGlobals "_law_outs" = some (some (.ref f_l_outs)))
    (l_l_outs : K.lookup f_l_outs = some ⟨oc_l_outs, od_l_outs, .func (PySem.W.fnOf "_law_outs" "_law_outs" (defArgs s_l_outs) (defBody s_l_outs) (defScope s_l_outs) .none kV_l_outs dc_l_outs pm_l_outs an_l_outs cd_l_outs ct_l_outs), sl_l_outs⟩)
    (c_l_outs : PySem.W.codeIn K cd_l_outs "_law_outs" = true)
    (k_l_outs : PySem.W.keepIn K (.ref f_l_outs) = true)
    (a_l_ways : PySem.W.nsIn K mainGlobals "_law_ways" = some (some (.ref f_l_ways)))
    (l_l_ways : K.lookup f_l_ways = some ⟨oc_l_ways, od_l_ways, .func (PySem.W.fnOf "_law_ways" "_law_ways" (defArgs s_l_ways) (defBody s_l_ways) (defScope s_l_ways) .none kV_l_ways dc_l_ways pm_l_ways an_l_ways cd_l_ways ct_l_ways), sl_l_ways⟩)
    (c_l_ways : PySem.W.codeIn K cd_l_ways "_law_ways" = true)
    (k_l_ways : PySem.W.keepIn K (.ref f_l_ways) = true)
    (a_l_routes : PySem.W.nsIn K mainGlobals "_law_routes" = some (some (.ref f_l_routes)))
    (l_l_routes : K.lookup f_l_routes = some ⟨oc_l_routes, od_l_routes, .func (PySem.W.fnOf "_law_routes" "_law_routes" (defArgs s_l_routes) (defBody s_l_routes) (defScope s_l_routes) .none kV_l_routes dc_l_routes pm_l_routes an_l_routes cd_l_routes ct_l_routes), sl_l_routes⟩)
    (c_l_routes : PySem.W.codeIn K cd_l_routes "_law_routes" = true)
    (k_l_routes : PySem.W.keepIn K (.ref f_l_routes) = true)
    (a_l_is_route : PySem.W.nsIn K mainGlobals "_law_is_route" = some (some (.ref f_l_is_route)))
    (l_l_is_route : K.lookup f_l_is_route = some ⟨oc_l_is_route, od_l_is_route, .func (PySem.W.fnOf "_law_is_route" "_law_is_route" (defArgs s_l_is_route) (defBody s_l_is_route) (defScope s_l_is_route) .none kV_l_is_route dc_l_is_route pm_l_is_route an_l_is_route cd_l_is_route ct_l_is_route), sl_l_is_route⟩)
    (c_l_is_route : PySem.W.codeIn K cd_l_is_route "_law_is_route" = true)
    (k_l_is_route : PySem.W.keepIn K (.ref f_l_is_route) = true)
    (a_law_k02 : PySem.W.nsIn K mainGlobals "law" = some (some (.ref f_law_k02)))
    (l_law_k02 : K.lookup f_law_k02 = some ⟨oc_law_k02, od_law_k02, .func (PySem.W.fnOf "law" "law" (defArgs s_law_k02) (defBody s_law_k02) (defScope s_law_k02) .none kV_law_k02 dc_law_k02 pm_law_k02 an_law_k02 cd_law_k02 ct_law_k02), sl_law_k02⟩)
    (c_law_k02 : PySem.W.codeIn K cd_law_k02 "law" = true)
    (k_law_k02 : PySem.W.keepIn K (.ref f_law_k02) = true) :
    ∃ fd : FuncData, (∀ (s : Shared) (u : Value), BindsTo s fd ⟨[u], []⟩ [("_law_script", u)]) ∧ ∀ base : Heap, K.In base → base.Ns mainGlobals mg → FnOk P w K mg base (CXo P w) 40 fa fd ["_law_script"] (spLaw K) := by
  cases hfa.symm.trans (PySem.W.mg_of X G a_law_k02)
  have T : Top K mg cBadYard cYard := ⟨⟨PySem.W.mg_of X G ax_BadYard, xx_BadYard⟩,
    ⟨⟨pg_Yard, hd_Yard, po_Yard, sa_Yard⟩, nf_Yard_falls⟩,
    ⟨⟨pg_Yard, hd_Yard, po_Yard, sa_Yard⟩, nf_Yard_found⟩,
    ⟨⟨pg_Yard, hd_Yard, po_Yard, sa_Yard⟩, nf_Yard_greens⟩,
    ⟨⟨pg_Yard, hd_Yard, po_Yard, sa_Yard⟩, nf_Yard_locks⟩,
    ⟨⟨pg_Yard, hd_Yard, po_Yard, sa_Yard⟩, nf_Yard_lying⟩,
    ⟨⟨pg_Yard, hd_Yard, po_Yard, sa_Yard⟩, nf_Yard_pieces⟩,
    ⟨⟨pg_Yard, hd_Yard, po_Yard, sa_Yard⟩, nf_Yard_signals⟩,
    ⟨⟨pg_Yard, hd_Yard, po_Yard, sa_Yard⟩, nf_Yard_ticks⟩,
    ⟨⟨pg_Yard, hd_Yard, po_Yard, sa_Yard⟩, nf_Yard_trains⟩,
    ⟨⟨pg_Yard, hd_Yard, po_Yard, sa_Yard⟩, nf_Yard_wait⟩,
    PySem.W.mg_none_of X G z_all,
    PySem.W.mg_none_of X G z_bool,
    PySem.W.mg_none_of X G z_enumerate,
    PySem.W.mg_none_of X G z_int,
    PySem.W.mg_none_of X G z_isinstance,
    PySem.W.mg_none_of X G z_len,
    PySem.W.mg_none_of X G z_list,
    PySem.W.mg_none_of X G z_min,
    PySem.W.mg_none_of X G z_range,
    PySem.W.mg_none_of X G z_set,
    PySem.W.mg_none_of X G z_tuple,
    ⟨t_LAST_JOINT, PySem.W.mg_of X G i_LAST_JOINT⟩,
    ⟨t_MOST_PIECES, PySem.W.mg_of X G i_MOST_PIECES⟩,
    ⟨t_MOST_SIGNALS, PySem.W.mg_of X G i_MOST_SIGNALS⟩,
    ⟨_, _, fun_mk (st := s_joints_of) l_joints_of c_joints_of k_joints_of, PySem.W.mg_of X G a_joints_of, (fun_mk (st := s_joints_of) l_joints_of c_joints_of k_joints_of).binds (ps := ["piece"]) fun _ _ _ _ _ _ us hl => match us, hl with | [_], _ => rfl⟩,
    ⟨_, _, fun_mk (st := s_pieces_at) l_pieces_at c_pieces_at k_pieces_at, PySem.W.mg_of X G a_pieces_at, (fun_mk (st := s_pieces_at) l_pieces_at c_pieces_at k_pieces_at).binds (ps := ["pieces", "joint"]) fun _ _ _ _ _ _ us hl => match us, hl with | [_, _], _ => rfl⟩,
    ⟨_, _, fun_mk (st := s_piece_beyond) l_piece_beyond c_piece_beyond k_piece_beyond, PySem.W.mg_of X G a_piece_beyond, (fun_mk (st := s_piece_beyond) l_piece_beyond c_piece_beyond k_piece_beyond).binds (ps := ["pieces", "number", "joint"]) fun _ _ _ _ _ _ us hl => match us, hl with | [_, _, _], _ => rfl⟩,
    ⟨_, _, fun_mk (st := s_joints_out) l_joints_out c_joints_out k_joints_out, PySem.W.mg_of X G a_joints_out, (fun_mk (st := s_joints_out) l_joints_out c_joints_out k_joints_out).binds (ps := ["piece", "joint"]) fun _ _ _ _ _ _ us hl => match us, hl with | [_, _], _ => rfl⟩,
    ⟨_, _, fun_mk (st := s_check_yard) l_check_yard c_check_yard k_check_yard, PySem.W.mg_of X G a_check_yard, (fun_mk (st := s_check_yard) l_check_yard c_check_yard k_check_yard).binds (ps := ["pieces", "signals"]) fun _ _ _ _ _ _ us hl => match us, hl with | [_, _], _ => rfl⟩,
    ⟨_, _, fun_mk (st := s_check_pieces) l_check_pieces c_check_pieces k_check_pieces, PySem.W.mg_of X G a_check_pieces, (fun_mk (st := s_check_pieces) l_check_pieces c_check_pieces k_check_pieces).binds (ps := ["pieces"]) fun _ _ _ _ _ _ us hl => match us, hl with | [_], _ => rfl⟩,
    ⟨_, _, fun_mk (st := s_check_joints) l_check_joints c_check_joints k_check_joints, PySem.W.mg_of X G a_check_joints, (fun_mk (st := s_check_joints) l_check_joints c_check_joints k_check_joints).binds (ps := ["pieces", "joints"]) fun _ _ _ _ _ _ us hl => match us, hl with | [_, _], _ => rfl⟩,
    ⟨_, _, fun_mk (st := s_check_signals) l_check_signals c_check_signals k_check_signals, PySem.W.mg_of X G a_check_signals, (fun_mk (st := s_check_signals) l_check_signals c_check_signals k_check_signals).binds (ps := ["pieces", "signals"]) fun _ _ _ _ _ _ us hl => match us, hl with | [_, _], _ => rfl⟩,
    ⟨_, _, fun_mk (st := s_routes) l_routes c_routes k_routes, PySem.W.mg_of X G a_routes, (fun_mk (st := s_routes) l_routes c_routes k_routes).binds (ps := ["pieces", "signals"]) fun _ _ _ _ _ _ us hl => match us, hl with | [_, _], _ => rfl⟩,
    ⟨_, _, fun_mk (st := s_ways_on) l_ways_on c_ways_on k_ways_on, PySem.W.mg_of X G a_ways_on, (fun_mk (st := s_ways_on) l_ways_on c_ways_on k_ways_on).binds (ps := ["pieces", "signals", "way", "joint", "piece"]) fun _ _ _ _ _ _ us hl => match us, hl with | [_, _, _, _, _], _ => rfl⟩,
    ⟨_, _, fun_mk (st := s_Yard_init) l_Yard_init c_Yard_init k_Yard_init, ⟨mk_Yard, a_Yard_init, j_Yard_init, kc_Yard⟩, PySem.W.mg_of X G ac_Yard, (fun_mk (st := s_Yard_init) l_Yard_init c_Yard_init k_Yard_init).binds (ps := ["self", "pieces", "signals", "wait"]) fun _ _ _ _ _ _ us hl => match us, hl with | [_, _, _, _], _ => rfl⟩,
    ⟨_, _, fun_mk (st := s_Yard_ways) l_Yard_ways c_Yard_ways k_Yard_ways, ⟨a_Yard_ways, j_Yard_ways, k_Yard_ways⟩, ⟨pg_Yard, hd_Yard, po_Yard, sa_Yard⟩, (fun_mk (st := s_Yard_ways) l_Yard_ways c_Yard_ways k_Yard_ways).binds (ps := ["self"]) fun _ _ _ _ _ _ us hl => match us, hl with | [_], _ => rfl⟩,
    ⟨_, _, fun_mk (st := s_l_cell) l_l_cell c_l_cell k_l_cell, PySem.W.mg_of X G a_l_cell, (fun_mk (st := s_l_cell) l_l_cell c_l_cell k_l_cell).binds (ps := ["_law_script", "_law_k"]) fun _ _ _ _ _ _ us hl => match us, hl with | [_, _], _ => rfl⟩,
    ⟨_, _, fun_mk (st := s_l_mix) l_l_mix c_l_mix k_l_mix, PySem.W.mg_of X G a_l_mix, (fun_mk (st := s_l_mix) l_l_mix c_l_mix k_l_mix).binds (ps := ["_law_script", "_law_k"]) fun _ _ _ _ _ _ us hl => match us, hl with | [_, _], _ => rfl⟩,
    ⟨_, _, fun_mk (st := s_l_whole) l_l_whole c_l_whole k_l_whole, PySem.W.mg_of X G a_l_whole, (fun_mk (st := s_l_whole) l_l_whole c_l_whole k_l_whole).binds (ps := ["_law_found"]) fun _ _ _ _ _ _ us hl => match us, hl with | [_], _ => rfl⟩,
    ⟨_, _, fun_mk (st := s_l_beyond) l_l_beyond c_l_beyond k_l_beyond, PySem.W.mg_of X G a_l_beyond, (fun_mk (st := s_l_beyond) l_l_beyond c_l_beyond k_l_beyond).binds (ps := ["_law_pieces_here", "_law_at", "_law_joint"]) fun _ _ _ _ _ _ us hl => match us, hl with | [_, _, _], _ => rfl⟩,
    ⟨_, _, fun_mk (st := s_l_pieces) l_l_pieces c_l_pieces k_l_pieces, PySem.W.mg_of X G a_l_pieces, (fun_mk (st := s_l_pieces) l_l_pieces c_l_pieces k_l_pieces).binds (ps := ["_law_script", "_law_base"]) fun _ _ _ _ _ _ us hl => match us, hl with | [_, _], _ => rfl⟩,
    ⟨_, _, fun_mk (st := s_l_signals) l_l_signals c_l_signals k_l_signals, PySem.W.mg_of X G a_l_signals, (fun_mk (st := s_l_signals) l_l_signals c_l_signals k_l_signals).binds (ps := ["_law_script", "_law_base", "_law_pieces_here"]) fun _ _ _ _ _ _ us hl => match us, hl with | [_, _, _], _ => rfl⟩,
    ⟨_, _, fun_mk (st := s_l_outs) l_l_outs c_l_outs k_l_outs, PySem.W.mg_of X G a_l_outs, (fun_mk (st := s_l_outs) l_l_outs c_l_outs k_l_outs).binds (ps := ["_law_piece", "_law_joint"]) fun _ _ _ _ _ _ us hl => match us, hl with | [_, _], _ => rfl⟩,
    ⟨_, _, fun_mk (st := s_l_ways) l_l_ways c_l_ways k_l_ways, PySem.W.mg_of X G a_l_ways, (fun_mk (st := s_l_ways) l_l_ways c_l_ways k_l_ways).binds (ps := ["_law_pieces_here", "_law_signals_here", "_law_way", "_law_at", "_law_joint"]) fun _ _ _ _ _ _ us hl => match us, hl with | [_, _, _, _, _], _ => rfl⟩,
    ⟨_, _, fun_mk (st := s_l_routes) l_l_routes c_l_routes k_l_routes, PySem.W.mg_of X G a_l_routes, (fun_mk (st := s_l_routes) l_l_routes c_l_routes k_l_routes).binds (ps := ["_law_pieces_here", "_law_signals_here"]) fun _ _ _ _ _ _ us hl => match us, hl with | [_, _], _ => rfl⟩,
    ⟨_, _, fun_mk (st := s_l_is_route) l_l_is_route c_l_is_route k_l_is_route, PySem.W.mg_of X G a_l_is_route, (fun_mk (st := s_l_is_route) l_l_is_route c_l_is_route k_l_is_route).binds (ps := ["_law_pieces_here", "_law_signals_here", "_law_one"]) fun _ _ _ _ _ _ us hl => match us, hl with | [_, _, _], _ => rfl⟩⟩
  have F := fun_mk (st := s_law_k02) l_law_k02 c_law_k02 k_law_k02
  exact ⟨_, fun s u => .of_eq rfl, fun base _ _ => law_ok T F⟩
end Rw
open PySem PySem.W PyProof.Rows
set_option maxRecDepth 100000 in
set_option maxHeartbeats 0 in
theorem PySem.Challenge.cw_signalbox_k02_whole_routes_holds : PySem.Challenge.rw_signalbox_k02_whole_routes.Holds := by
  w_on; o_law; k_head; (case hw => w_witness2)
  k_fill
  refine L2.walk_of (l := PySem.Challenge.rw_signalbox_k02_whole_routes) (n := 63) (k := 40) (x := "_law_script") (CX := fun w => L2.CXo PySem.Challenge.rw_signalbox_k02_whole_routes.prog w) (sp := fun w => L2.spLaw _) rfl (by decide) rfl ⟨rfl, by decide, by decide⟩ (fun w h Y => PySem.W.kIn_of Y) ?F (fun w H a ns _ _ hS => ⟨a, ns, rfl, hS, fun _ => rfl⟩) ?C
  case C => exact fun w H s e s' z => by obtain ⟨_, _, _, _, _, q⟩ := z; exact q
  case F =>
    intro w mg fa h KX G hmg
    refine' Rw.all_mk KX G hmg ?ax_BadYard ?xx_BadYard ?ac_Yard ?pg_Yard ?hd_Yard ?po_Yard ?sa_Yard ?mk_Yard ?kc_Yard ?nf_Yard_falls ?nf_Yard_found ?nf_Yard_greens ?nf_Yard_locks ?nf_Yard_lying ?nf_Yard_pieces ?nf_Yard_signals ?nf_Yard_ticks ?nf_Yard_trains ?nf_Yard_wait ?z_all ?z_bool ?z_enumerate ?z_int ?z_isinstance ?z_len ?z_list ?z_min ?z_range ?z_set ?z_tuple ?i_LAST_JOINT ?i_MOST_PIECES ?i_MOST_SIGNALS ?a_joints_of ?l_joints_of ?c_joints_of ?k_joints_of ?a_pieces_at ?l_pieces_at ?c_pieces_at ?k_pieces_at ?a_piece_beyond ?l_piece_beyond ?c_piece_beyond ?k_piece_beyond ?a_joints_out ?l_joints_out ?c_joints_out ?k_joints_out ?a_check_yard ?l_check_yard ?c_check_yard ?k_check_yard ?a_check_pieces ?l_check_pieces ?c_check_pieces ?k_check_pieces ?a_check_joints ?l_check_joints ?c_check_joints ?k_check_joints ?a_check_signals ?l_check_signals ?c_check_signals ?k_check_signals ?a_routes ?l_routes ?c_routes ?k_routes ?a_ways_on ?l_ways_on ?c_ways_on ?k_ways_on ?a_Yard_init ?j_Yard_init ?l_Yard_init ?c_Yard_init ?k_Yard_init ?a_Yard_ways ?j_Yard_ways ?l_Yard_ways ?c_Yard_ways ?k_Yard_ways ?a_l_cell ?l_l_cell ?c_l_cell ?k_l_cell ?a_l_mix ?l_l_mix ?c_l_mix ?k_l_mix ?a_l_whole ?l_l_whole ?c_l_whole ?k_l_whole ?a_l_beyond ?l_l_beyond ?c_l_beyond ?k_l_beyond ?a_l_pieces ?l_l_pieces ?c_l_pieces ?k_l_pieces ?a_l_signals ?l_l_signals ?c_l_signals ?k_l_signals ?a_l_outs ?l_l_outs ?c_l_outs ?k_l_outs ?a_l_ways ?l_l_ways ?c_l_ways ?k_l_ways ?a_l_routes ?l_l_routes ?c_l_routes ?k_l_routes ?a_l_is_route ?l_l_is_route ?c_l_is_route ?k_l_is_route ?a_law_k02 ?l_law_k02 ?c_law_k02 ?k_law_k02
    (case ax_BadYard => k_is); (case xx_BadYard => k_exc); (case ac_Yard => k_is); (case pg_Yard => k_is); (case hd_Yard => k_is); (case po_Yard => k_is); (case sa_Yard => k_is); (case mk_Yard => k_is)
    (case kc_Yard => k_is); (case nf_Yard_falls => k_is); (case nf_Yard_found => k_is); (case nf_Yard_greens => k_is); (case nf_Yard_locks => k_is); (case nf_Yard_lying => k_is); (case nf_Yard_pieces => k_is); (case nf_Yard_signals => k_is)
    (case nf_Yard_ticks => k_is); (case nf_Yard_trains => k_is); (case nf_Yard_wait => k_is); (case z_all => k_is); (case z_bool => k_is); (case z_enumerate => k_is); (case z_int => k_is); (case z_isinstance => k_is)
    (case z_len => k_is); (case z_list => k_is); (case z_min => k_is); (case z_range => k_is); (case z_set => k_is); (case z_tuple => k_is); (case i_LAST_JOINT => k_is); (case i_MOST_PIECES => k_is)
    (case i_MOST_SIGNALS => k_is); (case a_joints_of => k_is); (case l_joints_of => k_is); (case c_joints_of => k_is); (case k_joints_of => k_is); (case a_pieces_at => k_is); (case l_pieces_at => k_is); (case c_pieces_at => k_is)
    (case k_pieces_at => k_is); (case a_piece_beyond => k_is); (case l_piece_beyond => k_is); (case c_piece_beyond => k_is); (case k_piece_beyond => k_is); (case a_joints_out => k_is); (case l_joints_out => k_is); (case c_joints_out => k_is)
    (case k_joints_out => k_is); (case a_check_yard => k_is); (case l_check_yard => k_is); (case c_check_yard => k_is); (case k_check_yard => k_is); (case a_check_pieces => k_is); (case l_check_pieces => k_is); (case c_check_pieces => k_is)
    (case k_check_pieces => k_is); (case a_check_joints => k_is); (case l_check_joints => k_is); (case c_check_joints => k_is); (case k_check_joints => k_is); (case a_check_signals => k_is); (case l_check_signals => k_is); (case c_check_signals => k_is)
    (case k_check_signals => k_is); (case a_routes => k_is); (case l_routes => k_is); (case c_routes => k_is); (case k_routes => k_is); (case a_ways_on => k_is); (case l_ways_on => k_is); (case c_ways_on => k_is)
    (case k_ways_on => k_is); (case a_Yard_init => k_is); (case j_Yard_init => k_is); (case l_Yard_init => k_is); (case c_Yard_init => k_is); (case k_Yard_init => k_is); (case a_Yard_ways => k_is); (case j_Yard_ways => k_is)
    (case l_Yard_ways => k_is); (case c_Yard_ways => k_is); (case k_Yard_ways => k_is); (case a_l_cell => k_is); (case l_l_cell => k_is); (case c_l_cell => k_is); (case k_l_cell => k_is); (case a_l_mix => k_is)
    (case l_l_mix => k_is); (case c_l_mix => k_is); (case k_l_mix => k_is); (case a_l_whole => k_is); (case l_l_whole => k_is); (case c_l_whole => k_is); (case k_l_whole => k_is); (case a_l_beyond => k_is)
    (case l_l_beyond => k_is); (case c_l_beyond => k_is); (case k_l_beyond => k_is); (case a_l_pieces => k_is); (case l_l_pieces => k_is); (case c_l_pieces => k_is); (case k_l_pieces => k_is); (case a_l_signals => k_is)
    (case l_l_signals => k_is); (case c_l_signals => k_is); (case k_l_signals => k_is); (case a_l_outs => k_is); (case l_l_outs => k_is); (case c_l_outs => k_is); (case k_l_outs => k_is); (case a_l_ways => k_is)
    (case l_l_ways => k_is); (case c_l_ways => k_is); (case k_l_ways => k_is); (case a_l_routes => k_is); (case l_l_routes => k_is); (case c_l_routes => k_is); (case k_l_routes => k_is); (case a_l_is_route => k_is)
    (case l_l_is_route => k_is); (case c_l_is_route => k_is); (case k_l_is_route => k_is); (case a_law_k02 => k_is); (case l_law_k02 => k_is); (case c_law_k02 => k_is); (case k_law_k02 => k_is)
#print axioms PySem.Challenge.cw_signalbox_k02_whole_routes_holds
end
