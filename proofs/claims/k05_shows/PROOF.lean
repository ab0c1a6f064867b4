import PyProof.Rows.All
import Wide.All
import OpenK.AllK
import Wide.FinOn
import Lean
import PyProof.EqAt
import PyProof.EqKinds
import PyProof.NeKinds
import PyProof.TupleCall
import PySem.Challenge.RW_roomsay_k05_shows
set_option Elab.async false
set_option linter.all false
set_option maxRecDepth 100000
namespace L2
open PySem PySem.Spec PyProof.Rows
abbrev Key := Sum Int Str
def keyIs : Key → Value → Bool
  | .inl k, v => Value.isInt k v
  | .inr x, v => Value.isStrOf x v
def keyH (w : World) : Key → Int
  | .inl k => hashInt k
  | .inr x => hashStr w x
theorem keyIs_shape : ∀ {k : Key} {v : Value}, keyIs k v = true → (∃ i t, k = Sum.inl i ∧ v = Value.int i t) ∨ (∃ x t, k = Sum.inr x ∧ v = Value.str x t)
  | .inl i, v, h => by
    obtain ⟨t, e⟩ := Value.isInt_shape (k := i) (v := v) h
    exact .inl ⟨i, t, rfl, e⟩
  | .inr x, v, h => by
    obtain ⟨t, e⟩ := Value.isStrOf_shape (x := x) (v := v) h
    exact .inr ⟨x, t, rfl, e⟩
theorem keyIs_int (i : Int) (t : Tok) : keyIs (.inl i) (.int i t) = true := by simp [keyIs, Value.isInt]
theorem keyIs_str (x : Str) (t : Tok) : keyIs (.inr x) (.str x t) = true := by simp [keyIs, Value.isStrOf]
theorem key_ll (a b : Int) : decide ((Sum.inl a : Key) = Sum.inl b) = (a == b) := by
  by_cases e : a = b
  · subst e; simp
  · have h : ¬ (Sum.inl a : Key) = Sum.inl b := fun q => e (Sum.inl.inj q)
    rw [decide_eq_false h]
    exact (beq_eq_false_iff_ne.mpr e).symm
theorem key_rr (a b : Str) : decide ((Sum.inr a : Key) = Sum.inr b) = decide (a = b) := by
  by_cases e : a = b
  · subst e; simp
  · have h : ¬ (Sum.inr a : Key) = Sum.inr b := fun q => e (Sum.inr.inj q)
    rw [decide_eq_false h, decide_eq_false e]
theorem key_lr (a : Int) (b : Str) : decide ((Sum.inl a : Key) = Sum.inr b) = false := decide_eq_false (fun q => nomatch q)
theorem key_rl (a : Str) (b : Int) : decide ((Sum.inr a : Key) = Sum.inl b) = false := decide_eq_false (fun q => nomatch q)
def mixKind (prog : Program) (w : World) : PySem.KeyKind prog w Key where
  is := keyIs
  hash := keyH w
  inj := fun v a b ha hb => by
    rcases keyIs_shape ha with ⟨i, t, rfl, rfl⟩ | ⟨x, t, rfl, rfl⟩
    · rcases keyIs_shape hb with ⟨j, u, rfl, e⟩ | ⟨y, u, rfl, e⟩
      · injection e with e1 _; rw [e1]
      · exact nomatch e
    · rcases keyIs_shape hb with ⟨j, u, rfl, e⟩ | ⟨y, u, rfl, e⟩
      · exact nomatch e
      · injection e with e1 _; rw [e1]
  byValue := fun k v h => by
    rcases keyIs_shape h with ⟨i, t, rfl, rfl⟩ | ⟨x, t, rfl, rfl⟩ <;> rfl
  pyHash := fun hv h => by
    rcases keyIs_shape hv with ⟨i, t, rfl, rfl⟩ | ⟨x, t, rfl, rfl⟩
    · exact wpAny_pyHash_int h
    · exact wpAny_pyHash_str h
  eqBool := fun hu hv h => by
    rcases keyIs_shape hu with ⟨i, t, rfl, rfl⟩ | ⟨x, t, rfl, rfl⟩
    · rcases keyIs_shape hv with ⟨j, u, rfl, rfl⟩ | ⟨y, u, rfl, rfl⟩
      · rw [key_ll] at h; exact wpAny_eqBool_int h
      · rw [key_lr] at h; exact SeqAt.EqAt.int_str i t y u _ _ _ _ h
    · rcases keyIs_shape hv with ⟨j, u, rfl, rfl⟩ | ⟨y, u, rfl, rfl⟩
      · rw [key_rl] at h; exact SeqAt.EqAt.str_int x t j u _ _ _ _ h
      · rw [key_rr] at h; exact wpAny_eqBool_str h
  «strs» := fun k x t v h => by
    rcases keyIs_shape h with ⟨i, u, rfl, e⟩ | ⟨y, u, rfl, e⟩
    · exact nomatch e
    · injection e with e1 _
      subst e1
      cases v <;> rfl
theorem mixKind_int (prog : Program) (w : World) (i : Int) (t : Tok) : (mixKind prog w).is (.inl i) (.int i t) = true := keyIs_int i t
theorem mixKind_str (prog : Program) (w : World) (x : Str) (t : Tok) : (mixKind prog w).is (.inr x) (.str x t) = true := keyIs_str x t
end L2
namespace L2
open PySem PySem.Spec PyProof.Rows
inductive V where
  | non | bl (b : Bool) | int (i : Int) | str (x : Str) | byt (b : Array UInt8) | flt (b : UInt64) | ref (a : Addr) | ty (n : String)
  deriving DecidableEq
def RelV : V → Value → Prop
  | .non, u => u = Value.none
  | .bl b, u => u = Value.bool b
  | .int i, u => ∃ t, u = Value.int i t
  | .str x, u => ∃ t, u = Value.str x t
  | .byt b, u => ∃ t, u = Value.bytes b t
  | .flt b, u => ∃ t, u = Value.float b t
  | .ref a, u => u = Value.ref a
  | .ty n, u => u = Value.type n
abbrev Vals : List V → List Value → Prop := Paired RelV
theorem Vals.length {xs : List V} {us : List Value} (r : Vals xs us) : xs.length = us.length := Paired.length r
theorem Vals.get : ∀ {xs : List V} {us : List Value} {i : Nat} {x : V}, Vals xs us → xs[i]? = some x → ∃ u, us[i]? = some u ∧ RelV x u
  | _, _, _, _, .nil, e => by simp at e
  | _, _, 0, _, .cons r _, e => by simp at e; subst e; exact ⟨_, rfl, r⟩
  | _, _, i + 1, x, .cons _ t, e => by
    obtain ⟨u, h1, h2⟩ := Vals.get (i := i) (x := x) t (by simpa using e)
    exact ⟨u, by simpa using h1, h2⟩
theorem Vals.set {x : V} {u : Value} (r : RelV x u) : ∀ {xs : List V} {us : List Value} (i : Nat), Vals xs us → Vals (xs.set i x) (us.set i u)
  | _, _, _, .nil => .nil
  | _, _, 0, .cons _ t => .cons r t
  | _, _, i + 1, .cons q t => .cons q (Vals.set r i t)
theorem Vals.append : ∀ {xs ys : List V} {us ws : List Value}, Vals xs us → Vals ys ws → Vals (xs ++ ys) (us ++ ws)
  | _, _, _, _, .nil, s => s
  | _, _, _, _, .cons r t, s => .cons r (Vals.append t s)
theorem Vals.take : ∀ {xs : List V} {us : List Value} (n : Nat), Vals xs us → Vals (xs.take n) (us.take n)
  | _, _, 0, _ => .nil
  | _, _, _ + 1, .nil => .nil
  | _, _, n + 1, .cons r t => .cons r (Vals.take n t)
theorem Vals.drop : ∀ {xs : List V} {us : List Value} (n : Nat), Vals xs us → Vals (xs.drop n) (us.drop n)
  | _, _, 0, r => r
  | _, _, _ + 1, .nil => .nil
  | _, _, n + 1, .cons _ t => Vals.drop n t
theorem Vals.none_of : ∀ {xs : List V} {us : List Value} {i : Nat}, Vals xs us → xs[i]? = none → us[i]? = none := fun {xs us i} r e => by
  have h1 := r.length
  have h2 : xs.length ≤ i := List.getElem?_eq_none_iff.mp e
  exact List.getElem?_eq_none_iff.mpr (by omega)
def RelO : Option V → Option Value → Prop
  | some v, some u => RelV v u
  | none, none => True
  | _, _ => False
def KV {κ : Type} : List (κ × V) → List (κ × Value) → Prop := Paired fun (p : κ × V) (q : κ × Value) => p.1 = q.1 ∧ RelV p.2 q.2
def kV : Key → V
  | .inl i => .int i
  | .inr x => .str x
inductive HO where
  /-- a list -/
  | lst (xs : List V)
  /-- a tuple (never changes) -/
  | tup (xs : List V)
  /-- a dict whose keys are ints and texts; one whose keys are tuples of ints and texts (the empty one is both) -/
  | dK (kvs : List (Key × V)) | dT (kvs : List (List Key × V))
  /-- a set of ints: its members, its size -/
  | set (S : Int → Bool) (n : Nat)
  /-- an instance of the class at C, its dict at dx, its attributes -/
  | ins (C dx : Addr) (fs : List (Str × V))
  /-- the dict of the instance at x -/
  | own (x : Addr)
  /-- the dict of an exception -/
  | xd (fs : List (Str × V))
  /-- a bound method, f of x -/
  | met (f x : Addr)
  /-- a range object lo, lo + 1, .. below hi -/
  | rng (lo hi : Int)
  /-- a thing that is known to the object (the script; a dict while a loop walks it): read, never written while it is so -/
  | frz (o : Obj) (u : HO)
  /-- a code object's table -/
  | tbl (ps : Array Value)
  /-- any other thing, by what is true of its one object (a def of one's own: SetO a S n := HO.ext fun h => ..) -/
  | ext (φ : Heap → Prop)
abbrev Hp := Addr → Option HO
def upd (H : Hp) (a : Addr) (o : HO) : Hp := fun b => if b = a then some o else H b
theorem upd_same {H : Hp} {a : Addr} {o : HO} : upd H a o a = some o := by unfold upd; rw [if_pos rfl]
theorem upd_ne {H : Hp} {a b : Addr} {o : HO} (h : b ≠ a) : upd H a o b = H b := by unfold upd; rw [if_neg h]
theorem ne_of {H : Hp} {a b : Addr} {o u : HO} (h : H a = some o) (h' : H b = some u) (d : o ≠ u) : a ≠ b := by
  intro e; subst e; rw [h] at h'; exact d (Option.some.inj h')
theorem ne_of_none {H : Hp} {a b : Addr} {o : HO} (h : H a = some o) (h' : H b = none) : a ≠ b := by
  intro e; subst e; rw [h] at h'; cases h'
section
variable (P : Program) (w : World)
def ObjOk (H : Hp) (h : Heap) (a : Addr) : HO → Prop
  | .lst xs => xs.length ≤ sizeLine ∧ ∃ (its : List Value) (n : Nat), Vals xs its ∧ h.get? a = some { cls := .type "list", data := .seq its.toArray n }
  | .tup xs => xs.length ≤ sizeLine ∧ ∃ its : List Value, Vals xs its ∧ IsTup h a its.toArray
  | .dK kvs => kvs.length ≤ sizeLine ∧ (a == sysModules) = false ∧ ∃ vs, KV kvs vs ∧ h.DictOf (mixKind P w) a vs
  | .dT kvs => kvs.length ≤ sizeLine ∧ (a == sysModules) = false ∧ ∃ xs : List (List Key × Addr × Value),
      Paired (fun (p : List Key × V) (q : List Key × Addr × Value) => p.1 = q.1 ∧ H q.2.1 = some (.tup (p.1.map kV)) ∧ RelV p.2 q.2.2) kvs xs ∧
      ∃ o es ep, h.get? a = some o ∧ o.ExactDict ∧ o.data = .dict es ep ∧ es.toList = xs.map (entryOfKey (tupleKind (mixKind P w))) ∧ (xs.map (·.1)).Nodup
  | .set S n => h.SetOf (intKind P w) a S n
  | .ins C dx fs => H dx = some (.own a) ∧ fs.length ≤ 1000 ∧ dx ≠ a ∧ h.get? a = some (PySem.W.instObj C dx) ∧
      ∃ mA, h.Ns1 dx mA ∧ (∀ f, RelO (fs.lookup f) (mA f)) ∧ PySem.Within mA (fs.map (·.1))
  | .own _ => ∃ o, h.get? a = some o
  | .xd fs => ∃ mA, h.Ns1 a mA ∧ ∀ f, RelO (fs.lookup f) (mA f)
  | .rng lo hi => ∃ t u v, h.get? a = some { cls := .type "range", data := .fields #[.int lo t, .int hi u, .int 1 v] }
  | .frz o u => h.get? a = some o ∧ ObjOk H h a u
  | .tbl ps => h.get? a = some { cls := .none, data := .fields ps }
  | .met f x => h.get? a = some (PySem.W.methodObj (.ref f) (.ref x))
  | .ext φ => φ h ∧ (∃ o, h.get? a = some o) ∧ ∀ h1 h2 : Heap, φ h1 → (∀ o, h1.get? a = some o → h2.get? a = some o) → φ h2
def HOk (H : Hp) (h : Heap) : Prop := ∀ a o, H a = some o → ObjOk P w H h a o
end
section
variable {P : Program} {w : World} {H H' : Hp} {h h' : Heap} {a : Addr} {o : HO}
theorem ObjOk.lt (x : ObjOk P w H h a o) : a < h.objs.size := by
  cases o with
  | lst xs => obtain ⟨_, _, _, _, e⟩ := x; exact Heap.lt_size e
  | tup xs => obtain ⟨_, _, _, p⟩ := x; exact p.lt
  | dK kvs => obtain ⟨_, _, _, _, o, _, _, e, _⟩ := x; exact Heap.lt_size e
  | dT kvs => obtain ⟨_, _, _, _, o, _, _, e, _⟩ := x; exact Heap.lt_size e
  | set S n => obtain ⟨o, _, _, _, e, _⟩ := x; exact Heap.lt_size e
  | ins C dx fs => obtain ⟨_, _, _, e, _⟩ := x; exact Heap.lt_size e
  | own y => obtain ⟨_, e⟩ := x; exact Heap.lt_size e
  | xd fs => obtain ⟨_, ⟨_, _, _, e, _⟩, _⟩ := x; exact Heap.lt_size e
  | rng lo hi => obtain ⟨_, _, _, e⟩ := x; exact Heap.lt_size e
  | frz ob u => obtain ⟨e, _⟩ := x; exact Heap.lt_size e
  | tbl ps => exact Heap.lt_size (show h.get? a = some _ from x)
  | met f y => exact Heap.lt_size (show h.get? a = some _ from x)
  | ext φ => obtain ⟨_, ⟨_, e⟩, _⟩ := x; exact Heap.lt_size e
theorem Paired.mapP {α β : Type} {F G : α → β → Prop} : ∀ {l₁ : List α} {l₂ : List β}, Paired F l₁ l₂ → (∀ a b, F a b → G a b) → Paired G l₁ l₂
  | _, _, .nil, _ => .nil
  | _, _, .cons r t, f => .cons (f _ _ r) (Paired.mapP t f)
theorem ObjOk.stay (x : ObjOk P w H h a o) (k : ∀ b u, (b = a ∨ H b = some (.own a)) → h.get? b = some u → h'.get? b = some u)
    (ho : ∀ b, H b = some (.own a) → H' b = some (.own a)) (ht : ∀ b xs, H b = some (.tup xs) → H' b = some (.tup xs)) : ObjOk P w H' h' a o := by
  induction o with
  | lst xs => obtain ⟨z, its, n, r, e⟩ := x; exact ⟨z, its, n, r, k _ _ (.inl rfl) e⟩
  | tup xs => obtain ⟨z, its, r, ob, e, c⟩ := x; exact ⟨z, its, r, ob, k _ _ (.inl rfl) e, c⟩
  | dK kvs => obtain ⟨z, y, vs, r, ob, es, ep, e, c⟩ := x; exact ⟨z, y, vs, r, ob, es, ep, k _ _ (.inl rfl) e, c⟩
  | dT kvs =>
    obtain ⟨z, y, xs, r, ob, es, ep, e, c⟩ := x
    exact ⟨z, y, xs, Paired.mapP r fun p q z => ⟨z.1, ht _ _ z.2.1, z.2.2⟩, ob, es, ep, k _ _ (.inl rfl) e, c⟩
  | set S n => obtain ⟨ob, es, ep, t, e, c⟩ := x; exact ⟨ob, es, ep, t, k _ _ (.inl rfl) e, c⟩
  | ins C dx fs =>
    obtain ⟨d, z, ne, e, mA, ⟨od, es, ep, e2, c⟩, r⟩ := x
    exact ⟨ho _ d, z, ne, k _ _ (.inl rfl) e, mA, ⟨od, es, ep, k _ _ (.inr d) e2, c⟩, r⟩
  | own y => obtain ⟨ob, e⟩ := x; exact ⟨ob, k _ _ (.inl rfl) e⟩
  | xd fs => obtain ⟨mA, ⟨od, es, ep, e, c⟩, r⟩ := x; exact ⟨mA, ⟨od, es, ep, k _ _ (.inl rfl) e, c⟩, r⟩
  | rng lo hi => obtain ⟨t, u, v, e⟩ := x; exact ⟨t, u, v, k _ _ (.inl rfl) e⟩
  | frz ob u ih => obtain ⟨e, q⟩ := x; exact ⟨k _ _ (.inl rfl) e, ih q⟩
  | tbl ps =>
    have e : h.get? a = some { cls := .none, data := .fields ps } := x
    show h'.get? a = some { cls := .none, data := .fields ps }
    exact k a _ (.inl rfl) e
  | met f y =>
    have e : h.get? a = some (PySem.W.methodObj (.ref f) (.ref y)) := x
    show h'.get? a = some (PySem.W.methodObj (.ref f) (.ref y))
    exact k a _ (.inl rfl) e
  | ext φ => obtain ⟨p, ⟨o, e⟩, st⟩ := x; exact ⟨st _ _ p fun o q => k _ _ (.inl rfl) q, ⟨o, k _ _ (.inl rfl) e⟩, st⟩
theorem HOk.lt (x : HOk P w H h) (e : H a = some o) : a < h.objs.size := (x a o e).lt
theorem HOk.fresh (x : HOk P w H h) (e : h.objs.size ≤ a) : H a = none := by
  cases q : H a with
  | none => rfl
  | some u => exact absurd (Nat.lt_of_lt_of_le (x.lt q) e) (Nat.lt_irrefl _)
theorem HOk.kept (x : HOk P w H h) (k : ∀ b u, h.get? b = some u → h'.get? b = some u) : HOk P w H h' := fun a o e =>
  (x a o e).stay (fun b u _ q => k b u q) (fun _ q => q) fun _ _ q => q
theorem HOk.laid (x : HOk P w H h) (k : ∀ b u, h.get? b = some u → h'.get? b = some u) (hp : h.objs.size ≤ a) (new : ObjOk P w (upd H a o) h' a o) : HOk P w (upd H a o) h' := fun b u e => by
  have hn := x.fresh hp
  by_cases hb : b = a
  · subst hb; rw [upd_same] at e; cases e; exact new
  · rw [upd_ne hb] at e
    exact (x b u e).stay (fun c v _ q => k c v q) (fun c q => by rw [upd_ne (ne_of_none q hn)]; exact q) fun c xs q => by rw [upd_ne (ne_of_none q hn)]; exact q
end
def Rd (H : Hp) (a : Addr) (u : HO) : Prop := H a = some u ∨ ∃ o, H a = some (.frz o u)
theorem Rd.of {H : Hp} {a : Addr} {u : HO} (h : H a = some u) : Rd H a u := .inl h
theorem Rd.ok {P : Program} {w : World} {H : Hp} {h : Heap} {a : Addr} {u : HO} (r : Rd H a u) (x : HOk P w H h) : ObjOk P w H h a u := by
  rcases r with r | ⟨o, r⟩
  · exact x a u r
  · obtain ⟨_, q⟩ := x a _ r
    exact q
def Mut : Option HO → Prop
  | some (.lst _) => True
  | some (.dK _) => True
  | some (.dT _) => True
  | some (.set _ _) => True
  | some (.ins _ _ _) => True
  | some (.ext _) => True
  | _ => False
section
variable {P : Program} {w : World} {H : Hp} {h h' : Heap} {x e : Addr} {o' : HO}
theorem HOk.write (ok : HOk P w H h) (mu : Mut (H x)) (he : e = x ∨ H e = some (.own x)) (k : ∀ b u, b ≠ e → h.get? b = some u → h'.get? b = some u) (heo : ∃ u, h'.get? e = some u)
    (new : ObjOk P w (upd H x o') h' x o') : HOk P w (upd H x o') h' := fun b u q => by
  have nown : ∀ c y, H c = some (.own y) → c ≠ x := fun c y r z => by subst z; rw [r] at mu; exact mu
  have ntup : ∀ c xs, H c = some (.tup xs) → c ≠ x := fun c xs r z => by subst z; rw [r] at mu; exact mu
  by_cases hb : b = x
  · subst hb; rw [upd_same] at q; cases q; exact new
  · rw [upd_ne hb] at q
    by_cases hbe : b = e
    · have q' : H b = some (.own x) := by
        rcases he with z | z
        · exact absurd (hbe.trans z) hb
        · rw [hbe]; exact z
      rw [q] at q'; cases q'
      obtain ⟨v, hv⟩ := heo
      exact ⟨v, by rw [hbe]; exact hv⟩
    · refine (ok b u q).stay (fun c v hc r => k c v ?_ r) (fun c r => by rw [upd_ne (nown c b r)]; exact r) fun c xs r => by rw [upd_ne (ntup c xs r)]; exact r
      rcases hc with rfl | hc
      · exact hbe
      · rintro rfl
        rcases he with z | z
        · exact nown c b hc z
        · rw [hc] at z; cases z; exact hb rfl
end
structure Un (fs ex : List Addr) (H H' : Hp) (h h' : Heap) : Prop where
  keep : ∀ b o, h.get? b = some o → H b = none → b ∉ fs → b ∉ ex → h'.get? b = some o
  slot : ∀ b o, h.get? b = some o → H b = none → b ∈ fs → b ∉ ex → ∃ sl, h'.get? b = some { o with slots := sl }
  free : ∀ b o, h.get? b = some o → H b = none → b ∉ ex → H' b = none
  there : ∀ b o, h.get? b = some o → b ∉ ex → ∃ o', h'.get? b = some o'
  tups : ∀ b xs, H b = some (.tup xs) → H' b = some (.tup xs)
  frzs : ∀ b o u, H b = some (.frz o u) → H' b = some (.frz o u)
  tbls : ∀ b ps, H b = some (.tbl ps) → ∃ more, H' b = some (.tbl (ps ++ more))
section
variable {fs fs' ex ex' : List Addr} {H H1 H2 : Hp} {h h1 h2 h' : Heap} {a x e : Addr} {o : HO}
theorem Un.any (u : Un fs ex H H1 h h1) {b : Addr} {ob : Obj} (q : h.get? b = some ob) (n : H b = none) (hx : b ∉ ex) : ∃ sl, h1.get? b = some { ob with slots := sl } := by
  by_cases hb : b ∈ fs
  · exact u.slot b ob q n hb hx
  · exact ⟨ob.slots, u.keep b ob q n hb hx⟩
theorem Un.trans (a : Un fs ex H H1 h h1) (b : Un fs ex H1 H2 h1 h2) : Un fs ex H H2 h h2 where
  keep := fun c ob q n hc hx => b.keep c ob (a.keep c ob q n hc hx) (a.free c ob q n hx) hc hx
  slot := fun c ob q n hc hx => by
    obtain ⟨sl, e1⟩ := a.slot c ob q n hc hx
    obtain ⟨sl', e2⟩ := b.slot c _ e1 (a.free c ob q n hx) hc hx
    exact ⟨sl', e2⟩
  free := fun c ob q n hx => by
    obtain ⟨o', e1⟩ := a.there c ob q hx
    exact b.free c o' e1 (a.free c ob q n hx) hx
  there := fun c ob q hx => by
    obtain ⟨o', e1⟩ := a.there c ob q hx
    exact b.there c o' e1 hx
  tups := fun c xs q => b.tups c xs (a.tups c xs q)
  frzs := fun c ob xs q => b.frzs c ob xs (a.frzs c ob xs q)
  tbls := fun c ps q => by
    obtain ⟨m1, e1⟩ := a.tbls c ps q
    obtain ⟨m2, e2⟩ := b.tbls c _ e1
    exact ⟨m1 ++ m2, by rw [e2, Array.append_assoc]⟩
theorem Un.kept (k : ∀ b u, h.get? b = some u → h'.get? b = some u) : Un fs ex H H h h' :=
  ⟨fun b ob q _ _ _ => k b ob q, fun b ob q _ _ _ => ⟨ob.slots, k b ob q⟩, fun _ _ _ n _ => n, fun b ob q _ => ⟨ob, k b ob q⟩, fun _ _ q => q, fun _ _ _ q => q, fun _ ps q => ⟨#[], by rw [q]; simp⟩⟩
theorem Un.refl : Un fs ex H H h h := Un.kept fun _ _ q => q
theorem Un.laid (k : ∀ b u, h.get? b = some u → h'.get? b = some u) (hp : h.objs.size ≤ a) (hn : H a = none) : Un fs ex H (upd H a o) h h' where
  keep := fun b u q _ _ _ => k b u q
  slot := fun b u q _ _ _ => ⟨u.slots, k b u q⟩
  free := fun b u q n _ => by rw [upd_ne (Nat.ne_of_lt (Nat.lt_of_lt_of_le (Heap.lt_size q) hp))]; exact n
  there := fun b u q _ => ⟨u, k b u q⟩
  tups := fun b xs q => by rw [upd_ne (ne_of_none q hn)]; exact q
  frzs := fun b u xs q => by rw [upd_ne (ne_of_none q hn)]; exact q
  tbls := fun b ps q => ⟨#[], by rw [upd_ne (ne_of_none q hn), q]; simp⟩
theorem Un.write (mu : Mut (H x)) (he : e = x ∨ H e = some (.own x)) (k : ∀ b u, b ≠ e → h.get? b = some u → h'.get? b = some u) (heo : ∃ u, h'.get? e = some u) : Un fs ex H (upd H x o) h h' := by
  have hx : ∀ b, H b = none → b ≠ x := fun b n z => by subst z; rw [n] at mu; exact mu
  have hb : ∀ b, H b = none → b ≠ e := fun b n z => by
    subst z
    rcases he with r | r
    · exact hx b n r
    · rw [n] at r; cases r
  have hm : ∀ b u, H b = some u → ¬ Mut (some u) → b ≠ x := fun b u q nm z => by subst z; rw [q] at mu; exact nm mu
  refine ⟨fun b u q n _ _ => k b u (hb b n) q, fun b u q n _ _ => ⟨u.slots, k b u (hb b n) q⟩, fun b u q n _ => by rw [upd_ne (hx b n)]; exact n, fun b u q _ => ?_,
    fun b xs q => by rw [upd_ne (hm b _ q fun z => z)]; exact q, fun b u xs q => by rw [upd_ne (hm b _ q fun z => z)]; exact q, fun b ps q => ⟨#[], by rw [upd_ne (hm b _ q fun z => z), q]; simp⟩⟩
  by_cases hbe : b = e
  · subst hbe; exact heo
  · exact ⟨u, k b u hbe q⟩
theorem Un.mono (u : Un fs ex H H1 h h1) (hs : ∀ b ∈ fs, b ∈ fs') (hx : ∀ b ∈ ex, b ∈ ex') : Un fs' ex' H H1 h h1 :=
  ⟨fun b ob q n hb he => u.keep b ob q n (fun z => hb (hs b z)) fun z => he (hx b z), fun _ _ q n _ he => u.any q n fun z => he (hx _ z), fun b ob q n he => u.free b ob q n fun z => he (hx b z), fun b ob q he => u.there b ob q fun z => he (hx b z), u.tups, u.frzs, u.tbls⟩
end
def trk (h : Heap) (H : Hp) : List Addr := (List.range h.objs.size).filter fun a => (H a).isSome
def hidT (h : Heap) (H : Hp) : Heap := PySem.W.hideAll h (trk h H)
theorem hidT_size (h : Heap) (H : Hp) : (hidT h H).objs.size = h.objs.size := PySem.W.hideAll_size _ _
theorem hidT_get {h : Heap} {H : Hp} {b : Addr} {o : Obj} (e : h.get? b = some o) (n : H b = none) : (hidT h H).get? b = some o :=
  PySem.W.hideAll_get _ e fun hm => by
    have q : (H b).isSome = true := (List.mem_filter.mp hm).2
    rw [n] at q; simp at q
theorem of_hidT {h : Heap} {H : Hp} {b : Addr} {o : Obj} (e : (hidT h H).get? b = some o) : h.get? b = some o ∧ H b = none := by
  have e' : h.get? b = some o := PySem.W.of_hideAll (trk h H) e
  refine ⟨e', ?_⟩
  cases q : H b with
  | none => rfl
  | some x =>
    have hm : b ∈ trk h H := List.mem_filter.mpr ⟨List.mem_range.mpr (Heap.lt_size e'), by simp [q]⟩
    have z : (hidT h H).get? b = none := PySem.W.hideAll_none (trk h H) hm
    rw [z] at e; cases e
def allNews (g h : Heap) (L : Addr) : List (Addr × Obj) := (List.range h.objs.size).filterMap fun a => if a = L ∨ (g.get? a).isSome = true then none else (h.get? a).map fun o => (a, o)
def rest (g h : Heap) (L d : Addr) : List (Addr × Obj) := (allNews g h L).filter fun p => decide (p.1 ≠ d)
end L2
namespace L2
open PySem PySem.Spec PyProof.Rows
structure Mod (K : PySem.W.Frag) (mg : Str → Option Value) (base : Heap) : Prop where
  kin : K.In base
  glob : base.Ns mainGlobals mg
  blt : ∃ mb, base.Ns builtinsNs mb ∧ ∀ x : Str, x ≠ "__name__" → mb x = bootBuiltins x
  nolimit : base.NoLimit
structure Cx where
  prog : Program
  w : World
  K : PySem.W.Frag
  mg : Str → Option Value
  base : Heap
  A : Around
  N : List Str
  s₀ : Shared
  H₀ : Hp
  env : Env
  outer : List Env
  stack : List Env
  ex : List Addr
  fn : Str → Bool
  calm : Bool
  pn : List (Addr × Obj)
  xe : Value → Shared → Prop
def frs (l : List Env) : List Addr := l.filterMap (·.frame)
abbrev Cx.fs (X : Cx) : List Addr := frs X.outer
def Vis (sc : Scope) (x : Str) : Prop := sc.names.lookup x = some .local ∨ sc.names.lookup x = some .cell ∨ sc.names.lookup x = some .free
def Loc (sc : Scope) (x : Str) : Prop := sc.names.lookup x = some .local ∨ sc.names.lookup x = some .cell
def Look (env : Env) (h : Heap) (m : Str → Option Value) (x : Str) (u : Value) : Prop :=
  (env.kindOf x = some .local ∧ m x = some u) ∨ ((env.kindOf x = some .cell ∨ env.kindOf x = some .free) ∧ ∃ c, env.cells.lookup x = some c ∧ h.IsCell c (some u))
structure Cx.Ok (X : Cx) : Prop where
  mod : Mod X.K X.mg X.base
  kind : X.env.scope.kind = .function
  glob : X.env.globals = mainGlobals
  blt : X.env.builtins = builtinsNs
  above : X.s₀.heap.objs.size ≤ X.env.locals
  inj : ∀ x y c, X.env.cells.lookup x = some c → X.env.cells.lookup y = some c → x = y
  has : ∀ x, (X.env.kindOf x = some .cell ∨ X.env.kindOf x = some .free) → ∃ c, X.env.cells.lookup x = some c
  cab : ∀ x c, X.fn x = true → X.env.cells.lookup x = some c → X.s₀.heap.objs.size ≤ c
  hd : X.calm = true → X.A.handled = none
  frames : X.A.frames = some X.stack
  stk : X.stack = X.outer ∨ (X.stack = X.env :: X.outer ∧ X.env.frame = some X.env.locals)
  exf : ∀ b ∈ X.ex, b ≠ X.env.locals ∧ ∀ x c, X.env.cells.lookup x = some c → c ≠ b
  bs : ∀ b o, X.base.get? b = some o → X.s₀.heap.get? b = some o ∧ X.H₀ b = none
  bsz : X.base.objs.size ≤ X.s₀.heap.objs.size
  noex : ∀ b o, X.base.get? b = some o → b ∉ X.ex
  exfs : ∀ b ∈ X.ex, b ∉ X.fs
  funs : X.s₀.heap.FunFrames X.base X.outer
  frf : ∀ b ∈ X.fs, X.H₀ b = none
structure Inv (X : Cx) (pins : List (Addr × Obj)) (σ : List (Option V)) (H : Hp) (s : Shared) : Prop where
  ok : X.Ok
  os : s.os = X.s₀.os
  bare : AllBare s.gens
  base : Un X.fs X.ex X.H₀ H X.s₀.heap s.heap
  loc : ∃ m, s.heap.Ns X.env.locals m ∧ ∀ (i : Nat) (x : Str) (v : V), X.N[i]? = some x → σ[i]? = some (some v) → Vis X.env.scope x → ∃ u, RelV v u ∧ Look X.env s.heap m x u
  cell : ∀ x c, X.env.cells.lookup x = some c → ∃ v, s.heap.IsCell c v
  free : H X.env.locals = none
  freeC : ∀ x c, X.env.cells.lookup x = some c → H c = none
  pin : ∀ p ∈ X.pn ++ pins, s.heap.get? p.1 = some p.2 ∧ H p.1 = none ∧ p.1 ≠ X.env.locals ∧ p.1 ∉ X.fs ∧ ∀ v, p.2.data ≠ .cell v
  hok : HOk X.prog X.w H s.heap
  len : σ.length = X.N.length
section
variable {X : Cx} {pins : List (Addr × Obj)} {σ : List (Option V)} {H H' : Hp} {s : Shared} {h' : Heap}
theorem Cx.Ok.nofr (ok : X.Ok) {b : Addr} {o : Obj} (e : X.base.get? b = some o) : b ∉ X.fs := fun hb => by
  have := (ok.funs.mem hb).1
  rw [e] at this; cases this
theorem Inv.bs (I : Inv X pins σ H s) : ∀ b o, X.base.get? b = some o → s.heap.get? b = some o ∧ H b = none := fun b o e =>
  ⟨I.base.keep b o (I.ok.bs b o e).1 (I.ok.bs b o e).2 (I.ok.nofr e) (I.ok.noex b o e), I.base.free b o (I.ok.bs b o e).1 (I.ok.bs b o e).2 (I.ok.noex b o e)⟩
theorem Inv.bk (I : Inv X pins σ H s) : ∀ b o, X.base.get? b = some o → s.heap.get? b = some o := fun b o e => (I.bs b o e).1
theorem Inv.mod (I : Inv X pins σ H s) : Mod X.K X.mg X.base := I.ok.mod
theorem Inv.kIn (I : Inv X pins σ H s) : X.K.In s.heap := I.ok.mod.kin.keeps I.bk
theorem Inv.nolimit (I : Inv X pins σ H s) : s.heap.NoLimit := I.ok.mod.nolimit.keeps I.bk
theorem Inv.lt (I : Inv X pins σ H s) : X.env.locals < s.heap.objs.size := let ⟨_, hn, _⟩ := I.loc; hn.lt
theorem Inv.sz (I : Inv X pins σ H s) : X.s₀.heap.objs.size ≤ s.heap.objs.size := Nat.le_trans I.ok.above (Nat.le_of_lt I.lt)
theorem Inv.nofs (I : Inv X pins σ H s) {a : Addr} (h : s.heap.objs.size ≤ a) : a ∉ X.fs := fun hb => by
  obtain ⟨_, o, ho, _⟩ := I.ok.funs.mem hb
  exact absurd (Nat.lt_of_lt_of_le (Heap.lt_size ho) (Nat.le_trans I.sz h)) (Nat.lt_irrefl _)
theorem Inv.cne (I : Inv X pins σ H s) : ∀ x c, X.env.cells.lookup x = some c → c ≠ X.env.locals := fun x c e z => by
  obtain ⟨v, o, ho, hd⟩ := I.cell x c e
  obtain ⟨m, ⟨o', es, ep, ho', hd', _⟩, _⟩ := I.loc
  rw [z, ho'] at ho; cases ho; rw [hd'] at hd; cases hd
theorem Inv.funs (I : Inv X pins σ H s) : s.heap.FunFrames X.base X.outer := by
  have all : ∀ (l : List Env), (∀ b ∈ frs l, b ∈ X.fs) → X.s₀.heap.FunFrames X.base l → s.heap.FunFrames X.base l := by
    intro l
    induction l with
    | nil => intro _ _; trivial
    | cons env r ih =>
      intro hs hl
      obtain ⟨hk, ⟨L, o, hf, hn, ho, hd⟩, hr⟩ := hl
      have hL : L ∈ X.fs := hs L (by unfold frs; rw [List.filterMap_cons, hf]; exact List.mem_cons_self)
      obtain ⟨sl, e⟩ := I.base.slot L o ho (I.ok.frf L hL) hL fun z => I.ok.exfs L z hL
      exact ⟨hk, ⟨L, _, hf, hn, e, hd⟩, ih (fun b hb => hs b (by unfold frs; rw [List.filterMap_cons, hf]; exact List.mem_cons_of_mem _ hb)) hr⟩
  exact all X.outer (fun _ hb => hb) I.ok.funs
theorem Inv.stack (I : Inv X pins σ H s) : s.heap.FunFrames X.base X.stack := by
  rcases I.ok.stk with e | ⟨e, hf⟩
  · rw [e]; exact I.funs
  · rw [e]
    obtain ⟨m, hn, _⟩ := I.loc
    refine .cons (by rw [I.ok.kind]; decide) hf hn ?_ I.funs
    exact Heap.get?_none_of_le (Nat.le_trans I.ok.bsz I.ok.above)
theorem Inv.stkSub (I : Inv X pins σ H s) : ∀ b ∈ frs X.stack, b ∈ X.env.locals :: X.fs := fun b hb => by
  rcases I.ok.stk with e | ⟨e, hf⟩
  · rw [e] at hb; exact List.mem_cons_of_mem _ hb
  · rw [e] at hb
    unfold frs at hb
    rw [List.filterMap_cons, hf] at hb
    exact hb
theorem Inv.stkFree (I : Inv X pins σ H s) : ∀ b ∈ frs X.stack, H b = none := fun b hb => by
  rcases List.mem_cons.mp (I.stkSub b hb) with e | hb
  · rw [e]; exact I.free
  · obtain ⟨_, o, ho, _⟩ := I.ok.funs.mem hb
    exact I.base.free b o ho (I.ok.frf b hb) fun z => I.ok.exfs b z hb
theorem Inv.step {g' : Array GenState} {t' : Nat} {d' : Drawn} {ch : List Addr} (I : Inv X pins σ H s)
    (hch : ∀ b ∈ ch, (b ∈ X.ex ∨ X.s₀.heap.objs.size ≤ b) ∧ b ≠ X.env.locals ∧ (∀ x c, X.env.cells.lookup x = some c → c ≠ b) ∧ ∀ p ∈ X.pn ++ pins, p.1 ≠ b)
    (keep : ∀ b o, b ≠ X.env.locals → b ∉ X.fs → b ∉ ch → s.heap.get? b = some o → H b = none → h'.get? b = some o)
    (slot : ∀ b o, b ≠ X.env.locals → b ∈ X.fs → b ∉ ch → s.heap.get? b = some o → H b = none → ∃ sl, h'.get? b = some { o with slots := sl }) (free : ∀ b o, b ∉ ch → s.heap.get? b = some o → H b = none → H' b = none)
    (there : ∀ b o, b ∉ ch → s.heap.get? b = some o → ∃ o', h'.get? b = some o')
    (tups : ∀ b xs, H b = some (.tup xs) → H' b = some (.tup xs)) (frzs : ∀ b o u, H b = some (.frz o u) → H' b = some (.frz o u)) (tbls : ∀ b ps, H b = some (.tbl ps) → ∃ more, H' b = some (.tbl (ps ++ more)))
    (ns : ∀ m, s.heap.Ns X.env.locals m → h'.Ns X.env.locals m) (hok : HOk X.prog X.w H' h') (hg : AllBare g') :
    Inv X pins σ H' { s with heap := h', gens := g', drawn := d', toks := t' } := by
  have neL : ∀ b o, X.s₀.heap.get? b = some o → b ≠ X.env.locals := fun b o e => Nat.ne_of_lt (Nat.lt_of_lt_of_le (Heap.lt_size e) I.ok.above)
  have neC : ∀ b o, X.s₀.heap.get? b = some o → b ∉ X.ex → b ∉ ch := fun b o e hx hb => by
    rcases (hch b hb).1 with z | z
    · exact hx z
    · exact absurd (Nat.lt_of_lt_of_le (Heap.lt_size e) z) (Nat.lt_irrefl _)
  have cellK : ∀ x c, X.env.cells.lookup x = some c → ∀ v, s.heap.IsCell c v → h'.IsCell c v := fun x c e v ⟨o, ho, hd⟩ => by
    have nch : c ∉ ch := fun z => (hch c z).2.2.1 x c e rfl
    by_cases hc : c ∈ X.fs
    · obtain ⟨sl, q⟩ := slot c o (I.cne x c e) hc nch ho (I.freeC x c e)
      exact ⟨_, q, hd⟩
    · exact ⟨o, keep c o (I.cne x c e) hc nch ho (I.freeC x c e), hd⟩
  refine ⟨I.ok, I.os, hg, ⟨fun b o e n hb hx => ?_, fun b o e n hb hx => ?_, fun b o e n hx => ?_, fun b o e hx => ?_, fun b xs e => tups b xs (I.base.tups b xs e), fun b o xs e => frzs b o xs (I.base.frzs b o xs e), fun b ps e => ?_⟩, ?_, fun x c e => ?_, ?_, fun x c e => ?_, fun p hp => ?_, hok, I.len⟩
  · exact keep b o (neL b o e) hb (neC b o e hx) (I.base.keep b o e n hb hx) (I.base.free b o e n hx)
  · obtain ⟨sl, e1⟩ := I.base.slot b o e n hb hx
    obtain ⟨sl', e2⟩ := slot b _ (neL b o e) hb (neC b o e hx) e1 (I.base.free b o e n hx)
    exact ⟨sl', e2⟩
  · obtain ⟨o', e1⟩ := I.base.there b o e hx
    exact free b o' (neC b o e hx) e1 (I.base.free b o e n hx)
  · obtain ⟨o', e1⟩ := I.base.there b o e hx
    exact there b o' (neC b o e hx) e1
  · obtain ⟨m1, e1⟩ := I.base.tbls b ps e
    obtain ⟨m2, e2⟩ := tbls b _ e1
    exact ⟨m1 ++ m2, by rw [e2, Array.append_assoc]⟩
  · obtain ⟨m, hn, hl⟩ := I.loc
    refine ⟨m, ns m hn, fun i x v e1 e2 e3 => ?_⟩
    obtain ⟨u, r, l⟩ := hl i x v e1 e2 e3
    refine ⟨u, r, ?_⟩
    rcases l with l | ⟨k, c, e, z⟩
    · exact .inl l
    · exact .inr ⟨k, c, e, cellK x c e _ z⟩
  · obtain ⟨v, z⟩ := I.cell x c e
    exact ⟨v, cellK x c e v z⟩
  · obtain ⟨m, ⟨o, _, _, ho, _⟩, _⟩ := I.loc
    exact free _ o (fun z => (hch _ z).2.1 rfl) ho I.free
  · obtain ⟨v, o, ho, hd⟩ := I.cell x c e
    exact free c o (fun z => (hch c z).2.2.1 x c e rfl) ho (I.freeC x c e)
  · obtain ⟨e, n, ne, nf, d⟩ := I.pin p hp
    have nch : p.1 ∉ ch := fun z => (hch p.1 z).2.2.2 p hp rfl
    exact ⟨keep p.1 p.2 ne nf nch e n, free p.1 p.2 nch e n, ne, nf, d⟩
theorem Inv.un {t' : Nat} (I : Inv X pins σ H s) (u : Un X.fs [] H H' s.heap h') (hok : HOk X.prog X.w H' h') : Inv X pins σ H' { s with heap := h', toks := t' } := by
  obtain ⟨m, ⟨o, es, ep, ho, r⟩, _⟩ := id I.loc
  obtain ⟨sl, hL⟩ := u.any ho I.free (by simp)
  exact I.step (g' := s.gens) (d' := s.drawn) (ch := []) (fun _ z => nomatch z) (fun b o _ hb _ e n => u.keep b o e n hb (by simp)) (fun b o _ hb _ e n => u.slot b o e n hb (by simp)) (fun b o _ e n => u.free b o e n (by simp)) (fun b o _ e => u.there b o e (by simp)) u.tups u.frzs u.tbls (fun m' hm => by
    obtain ⟨o', es', ep', ho', r'⟩ := hm
    rw [ho] at ho'; cases ho'
    exact ⟨_, es', ep', hL, r'⟩) hok I.bare
theorem Inv.call {g' : Array GenState} {t' : Nat} {d' : Drawn} {ch : List Addr} (I : Inv X pins σ H s) (u : Un (frs X.stack) ch H H' s.heap h') (hok : HOk X.prog X.w H' h') (hg : AllBare g')
    (hch : ∀ b ∈ ch, (b ∈ X.ex ∨ X.s₀.heap.objs.size ≤ b) ∧ b ≠ X.env.locals ∧ (∀ x c, X.env.cells.lookup x = some c → c ≠ b) ∧ ∀ p ∈ X.pn ++ pins, p.1 ≠ b) :
    Inv X pins σ H' { s with heap := h', gens := g', drawn := d', toks := t' } := by
  obtain ⟨m, ⟨o, es, ep, ho, r⟩, _⟩ := id I.loc
  obtain ⟨sl, hL⟩ := u.any ho I.free fun z => (hch _ z).2.1 rfl
  exact I.step (ch := ch) hch (fun b o hL hb hc e n => u.keep b o e n (fun z => (List.mem_cons.mp (I.stkSub b z)).elim hL hb) hc) (fun b o _ _ hc e n => u.any e n hc) (fun b o hc e n => u.free b o e n hc) (fun b o hc e => u.there b o e hc) u.tups u.frzs u.tbls (fun m' hm => by
    obtain ⟨o', es', ep', ho', r'⟩ := hm
    rw [ho] at ho'; cases ho'
    exact ⟨_, es', ep', hL, r'⟩) hok hg
theorem Inv.turned {t' : Nat} {it : Addr} (I : Inv X pins σ H s) (k : ∀ b o, b ≠ it → s.heap.get? b = some o → h'.get? b = some o) (hn : H it = none) (hL : it ≠ X.env.locals)
    (h1 : it ∈ X.ex ∨ X.s₀.heap.objs.size ≤ it) (h2 : ∀ x c, X.env.cells.lookup x = some c → c ≠ it) (h3 : ∀ p ∈ X.pn ++ pins, p.1 ≠ it) : Inv X pins σ H { s with heap := h', toks := t' } := by
  have nit : ∀ b u, H b = some u → b ≠ it := fun b u e z => by rw [z, hn] at e; cases e
  refine I.step (g' := s.gens) (d' := s.drawn) (ch := [it]) (fun b hb => ?_) (fun b o _ _ hc e _ => k b o (fun z => hc (by simp [z])) e) (fun b o _ _ hc e _ => ⟨o.slots, k b o (fun z => hc (by simp [z])) e⟩) (fun _ _ _ _ n => n)
    (fun b o hc e => ⟨o, k b o (fun z => hc (by simp [z])) e⟩) (fun _ _ e => e) (fun _ _ _ e => e) (fun b ps e => ⟨#[], by rw [e]; simp⟩) (fun m hm => ?_) (fun b u e => ?_) I.bare
  · have e : b = it := by simpa using hb
    subst e
    exact ⟨h1, hL, h2, h3⟩
  · obtain ⟨o, es, ep, ho, r⟩ := hm
    exact ⟨o, es, ep, k _ o (Ne.symm hL) ho, r⟩
  · refine (I.hok b u e).stay (fun c v hc q => k c v ?_ q) (fun _ q => q) fun _ _ q => q
    rcases hc with z | z
    · rw [z]; exact nit b u e
    · exact nit c _ z
theorem Inv.tok (I : Inv X pins σ H s) (t : Nat) : Inv X pins σ H { s with toks := t } := I.un (h' := s.heap) (t' := t) Un.refl I.hok
theorem Inv.kept {t' : Nat} (I : Inv X pins σ H s) (k : ∀ b u, s.heap.get? b = some u → h'.get? b = some u) : Inv X pins σ H { s with heap := h', toks := t' } := I.un (Un.kept k) (I.hok.kept k)
theorem Inv.laid {a : Addr} {o : HO} {t' : Nat} (I : Inv X pins σ H s) (k : ∀ b u, s.heap.get? b = some u → h'.get? b = some u) (hp : s.heap.objs.size ≤ a) (new : ObjOk X.prog X.w (upd H a o) h' a o) :
    Inv X pins σ (upd H a o) { s with heap := h', toks := t' } := I.un (Un.laid k hp (I.hok.fresh hp)) (I.hok.laid k hp new)
theorem Inv.write {x e : Addr} {o : HO} {t' : Nat} (I : Inv X pins σ H s) (mu : Mut (H x)) (he : e = x ∨ H e = some (.own x)) (k : ∀ b u, b ≠ e → s.heap.get? b = some u → h'.get? b = some u) (heo : ∃ u, h'.get? e = some u)
    (new : ObjOk X.prog X.w (upd H x o) h' x o) : Inv X pins σ (upd H x o) { s with heap := h', toks := t' } := I.un (Un.write mu he k heo) (I.hok.write mu he k heo new)
theorem Inv.pins_of {pins' : List (Addr × Obj)} (I : Inv X pins σ H s) (h : ∀ p ∈ pins', s.heap.get? p.1 = some p.2 ∧ H p.1 = none ∧ p.1 ≠ X.env.locals ∧ p.1 ∉ X.fs ∧ ∀ v, p.2.data ≠ .cell v) : Inv X pins' σ H s :=
  ⟨I.ok, I.os, I.bare, I.base, I.loc, I.cell, I.free, I.freeC, fun p hp => (List.mem_append.mp hp).elim (fun z => I.pin p (List.mem_append_left _ z)) (h p), I.hok, I.len⟩
theorem nodup_ix {N : List Str} (hN : N.Nodup) {i j : Nat} {x : Str} (a : N[i]? = some x) (b : N[j]? = some x) : i = j := by
  obtain ⟨h1, e1⟩ := List.getElem?_eq_some_iff.mp a
  obtain ⟨h2, e2⟩ := List.getElem?_eq_some_iff.mp b
  exact (List.getElem_inj hN).mp (e1.trans e2.symm)
theorem store_ok2 {M : Model} {A : Around} {E : Value → Shared → Prop} {i : Nat} {x : Str} {v : V} {u : Value} {Q : Unit → Shared → Prop} (I : Inv X pins σ H s) (hN : X.N.Nodup) (hi : X.N[i]? = some x) (hx : Loc X.env.scope x) (r : RelV v u)
    (h : ∀ s', Inv X pins (σ.set i (some v)) H s' → (∃ a, Heap.SameBut a s.heap s'.heap ∧ (a = X.env.locals ∨ X.env.cells.lookup x = some a)) → Q () s') (hf : X.fn x = true ∨ X.env.scope.names.lookup x = some .local := by first | exact .inl rfl | exact .inr rfl | assumption) : wpAny M A (storeName X.env x u) Q E s := by
  obtain ⟨m, hn, hl⟩ := id I.loc
  have hcls : (X.env.scope.kind == .class || (X.env.scope.kind == .module && X.env.locals != X.env.globals)) = false := by rw [I.ok.kind]; rfl
  have hiσ : i < σ.length := by rw [I.len]; exact (List.getElem?_eq_some_iff.mp hi).1
  have cne := I.cne
  have tracked : ∀ {a : Addr} {h' : Heap}, (∃ o, s.heap.get? a = some o ∧ H a = none) → Heap.SameBut a s.heap h' → HOk X.prog X.w H h' := fun {a h'} ha hs b ob e => by
    obtain ⟨_, _, hfree⟩ := ha
    refine (I.hok b ob e).stay (fun c w' hc q => (hs.2 c ?_).trans q) (fun _ q => q) fun _ _ q => q
    rintro rfl
    rcases hc with rfl | hc
    · rw [hfree] at e; cases e
    · rw [hfree] at hc; cases hc
  rcases hx with hk | hk
  · refine wpAny_storeName_local hk hn (fun h' hn' hs => ?_) hcls
    obtain ⟨oL, _, _, hoL, _⟩ := id hn
    refine h _ ⟨I.ok, I.os, I.bare, ⟨fun b o e n hb hx => ?_, fun b o e n hb hx => ?_, I.base.free, fun b o e hx => ?_, I.base.tups, I.base.frzs, I.base.tbls⟩, ⟨_, hn', fun j y v' e1 e2 e3 => ?_⟩, fun y c e => ?_, I.free, I.freeC, fun p hp => ?_, tracked ⟨oL, hoL, I.free⟩ hs, by simpa using I.len⟩ ⟨_, hs, .inl rfl⟩
    · exact (hs.2 b (Nat.ne_of_lt (Nat.lt_of_lt_of_le (Heap.lt_size e) I.ok.above))).trans (I.base.keep b o e n hb hx)
    · obtain ⟨sl, e1⟩ := I.base.slot b o e n hb hx
      exact ⟨sl, (hs.2 b (Nat.ne_of_lt (Nat.lt_of_lt_of_le (Heap.lt_size e) I.ok.above))).trans e1⟩
    · obtain ⟨o', e1⟩ := I.base.there b o e hx
      exact ⟨o', (hs.2 b (Nat.ne_of_lt (Nat.lt_of_lt_of_le (Heap.lt_size e) I.ok.above))).trans e1⟩
    · by_cases hj : j = i
      · subst hj
        rw [hi] at e1; cases e1
        rw [List.getElem?_set_self hiσ] at e2
        cases e2
        exact ⟨u, r, .inl ⟨hk, by simp⟩⟩
      · rw [List.getElem?_set_ne (Ne.symm hj)] at e2
        obtain ⟨u', r', q⟩ := hl j y v' e1 e2 e3
        refine ⟨u', r', ?_⟩
        rcases q with ⟨k, e⟩ | ⟨k, c, e, z⟩
        · refine .inl ⟨k, ?_⟩
          have : y ≠ x := fun e => hj (nodup_ix hN e1 (e ▸ hi))
          simp [this, e]
        · exact .inr ⟨k, c, e, z.sameBut hs (cne y c e)⟩
    · obtain ⟨w', z⟩ := I.cell y c e
      exact ⟨w', z.sameBut hs (cne y c e)⟩
    · obtain ⟨e, n, ne, nf, d⟩ := I.pin p hp
      exact ⟨(hs.2 p.1 ne).trans e, n, ne, nf, d⟩
  · have hfn : X.fn x = true := by
      rcases hf with z | z
      · exact z
      · rw [z] at hk; cases hk
    obtain ⟨c, hc⟩ := I.ok.has x (.inl hk)
    obtain ⟨w', z⟩ := I.cell x c hc
    refine wpAny_storeName_cell I.ok.kind hk hc z (fun h' hc' hs => ?_)
    obtain ⟨oc, hoc, hocd⟩ := id z
    refine h { s with heap := h' } ⟨I.ok, I.os, I.bare, ⟨fun b o e n hb hx => ?_, fun b o e n hb hx => ?_, I.base.free, fun b o e hx => ?_, I.base.tups, I.base.frzs, I.base.tbls⟩, ⟨m, hn.sameBut hs (Ne.symm (cne x c hc)), fun j y v' e1 e2 e3 => ?_⟩, fun y c' e => ?_, I.free, I.freeC, fun p hp => ?_, tracked ⟨oc, hoc, I.freeC x c hc⟩ hs, by simpa using I.len⟩ ⟨c, hs, .inr hc⟩
    · exact (hs.2 b (Nat.ne_of_lt (Nat.lt_of_lt_of_le (Heap.lt_size e) (I.ok.cab x c hfn hc)))).trans (I.base.keep b o e n hb hx)
    · obtain ⟨sl, e1⟩ := I.base.slot b o e n hb hx
      exact ⟨sl, (hs.2 b (Nat.ne_of_lt (Nat.lt_of_lt_of_le (Heap.lt_size e) (I.ok.cab x c hfn hc)))).trans e1⟩
    · obtain ⟨o', e1⟩ := I.base.there b o e hx
      exact ⟨o', (hs.2 b (Nat.ne_of_lt (Nat.lt_of_lt_of_le (Heap.lt_size e) (I.ok.cab x c hfn hc)))).trans e1⟩
    · by_cases hj : j = i
      · subst hj
        rw [hi] at e1; cases e1
        rw [List.getElem?_set_self hiσ] at e2
        cases e2
        exact ⟨u, r, .inr ⟨.inl hk, c, hc, hc'⟩⟩
      · rw [List.getElem?_set_ne (Ne.symm hj)] at e2
        obtain ⟨u', r', q⟩ := hl j y v' e1 e2 e3
        refine ⟨u', r', ?_⟩
        rcases q with q | ⟨k, c', e, z'⟩
        · exact .inl q
        · refine .inr ⟨k, c', e, z'.sameBut hs ?_⟩
          rintro rfl
          exact hj (nodup_ix hN e1 (I.ok.inj _ _ _ e hc ▸ hi))
    · by_cases hcc : c' = c
      · subst hcc; exact ⟨_, hc'⟩
      · obtain ⟨w2, z2⟩ := I.cell y c' e
        exact ⟨w2, z2.sameBut hs hcc⟩
    · obtain ⟨e, n, ne, nf, d⟩ := I.pin p hp
      refine ⟨(hs.2 p.1 ?_).trans e, n, ne, nf, d⟩
      intro q
      rw [q, hoc] at e
      have q' : oc = p.2 := Option.some.inj e
      exact d w' (by rw [← q']; exact hocd)
theorem store_ok {M : Model} {A : Around} {E : Value → Shared → Prop} {i : Nat} {x : Str} {v : V} {u : Value} {Q : Unit → Shared → Prop} (I : Inv X pins σ H s) (hN : X.N.Nodup) (hi : X.N[i]? = some x) (hx : Loc X.env.scope x) (r : RelV v u)
    (h : ∀ s', Inv X pins (σ.set i (some v)) H s' → Q () s') (hf : X.fn x = true ∨ X.env.scope.names.lookup x = some .local := by first | exact .inl rfl | exact .inr rfl | assumption) : wpAny M A (storeName X.env x u) Q E s :=
  store_ok2 I hN hi hx r (fun s' I' _ => h s' I') hf
theorem Inv.call' {s' : Shared} {ch : List Addr} (I : Inv X pins σ H s) (ho : s'.os = s.os) (u : Un (frs X.stack) ch H H' s.heap s'.heap) (hok : HOk X.prog X.w H' s'.heap) (hg : AllBare s'.gens)
    (hch : ∀ b ∈ ch, (b ∈ X.ex ∨ X.s₀.heap.objs.size ≤ b) ∧ b ≠ X.env.locals ∧ (∀ x c, X.env.cells.lookup x = some c → c ≠ b) ∧ ∀ p ∈ X.pn ++ pins, p.1 ≠ b) : Inv X pins σ H' s' := by
  obtain ⟨h', g', d', t', o'⟩ := s'
  have e : o' = s.os := ho
  subst e
  exact I.call (g' := g') (t' := t') (d' := d') u hok hg hch
end
abbrev XK := Value → Option Addr → Hp → Prop
abbrev St := List (Option V)
abbrev VK := V → Hp → Prop
abbrev TE := St → Hp → VK → Prop
abbrev TT := St → Hp → (Bool → Hp → Prop) → Prop
abbrev TA := St → Hp → (List V → Hp → Prop) → Prop
structure Ends where
  nx : St → Hp → Prop
  rt : VK
  bk : St → Hp → Prop := fun _ _ => False
  ct : St → Hp → Prop := fun _ _ => False
abbrev TS := Ends → St → Hp → Prop
def EP (X : Cx) (pins : List (Addr × Obj)) (σ : St) (Q : VK) (u : Value) (s' : Shared) : Prop := ∃ v H', Inv X pins σ H' s' ∧ RelV v u ∧ Q v H'
def TP (X : Cx) (pins : List (Addr × Obj)) (σ : St) (Q : Bool → Hp → Prop) (b : Bool) (s' : Shared) : Prop := ∃ H', Inv X pins σ H' s' ∧ Q b H'
def AP (X : Cx) (pins : List (Addr × Obj)) (σ : St) (Q : List V → Hp → Prop) (us : List Value) (s' : Shared) : Prop := ∃ vs H', Inv X pins σ H' s' ∧ Vals vs us ∧ Q vs H'
def SP (X : Cx) (pins : List (Addr × Obj)) (D : Ends) (f : Flow) (s' : Shared) : Prop :=
  match f with
  | .next => ∃ σ' H', Inv X pins σ' H' s' ∧ D.nx σ' H'
  | .brk => ∃ σ' H', Inv X pins σ' H' s' ∧ D.bk σ' H'
  | .cont => ∃ σ' H', Inv X pins σ' H' s' ∧ D.ct σ' H'
  | .ret u => ∃ v σ' H', Inv X pins σ' H' s' ∧ RelV v u ∧ D.rt v H'
def PE (X : Cx) (e : Expr) (t : TE) : Prop :=
  ∀ (pins : List (Addr × Obj)) (s : Shared) (σ : St) (H : Hp) (Q : VK), Inv X pins σ H s → t σ H Q → wpAny (model X.prog X.w) X.A (eval e X.env) (EP X pins σ Q) X.xe s
def PT (X : Cx) (e : Expr) (t : TT) : Prop :=
  ∀ (pins : List (Addr × Obj)) (s : Shared) (σ : St) (H : Hp) (Q : Bool → Hp → Prop), Inv X pins σ H s → t σ H Q → wpAny (model X.prog X.w) X.A (isTrue e X.env (eval e X.env)) (TP X pins σ Q) X.xe s
def PW (X : Cx) (e : Expr) (t : TT) : Prop :=
  ∀ (whole : Sem Value) (pins : List (Addr × Obj)) (s : Shared) (σ : St) (H : Hp) (Q : Bool → Hp → Prop), Inv X pins σ H s → t σ H Q → wpAny (model X.prog X.w) X.A (isTrue e X.env whole) (TP X pins σ Q) X.xe s
theorem PW.pt {X : Cx} {e : Expr} {t : TT} (h : PW X e t) : PT X e t := h _
def PA (X : Cx) (es : List Expr) (t : TA) : Prop :=
  ∀ (pos : Pos) (pins : List (Addr × Obj)) (s : Shared) (σ : St) (H : Hp) (Q : List V → Hp → Prop), Inv X pins σ H s → t σ H Q → wpAny (model X.prog X.w) X.A (spliced (backTo pos (starEach es X.env))) (AP X pins σ Q) X.xe s
def PS (X : Cx) (st : Stmt) (t : TS) : Prop :=
  ∀ (pins : List (Addr × Obj)) (s : Shared) (σ : St) (H : Hp) (D : Ends), Inv X pins σ H s → t D σ H → wpAny (model X.prog X.w) X.A (exec st X.env) (SP X pins D) X.xe s
def PSs (X : Cx) (st : List Stmt) (t : TS) : Prop :=
  ∀ (pins : List (Addr × Obj)) (s : Shared) (σ : St) (H : Hp) (D : Ends), Inv X pins σ H s → t D σ H → wpAny (model X.prog X.w) X.A (execs st X.env) (SP X pins D) X.xe s
theorem thn {α : Type} {t : Sem α} {Q Q' : α → Shared → Prop} {M : Model} {A : Around} {E : Value → Shared → Prop} {s : Shared} (h : wpAny M A t Q E s) (hQ : ∀ a s, Q a s → Q' a s) : wpAny M A t Q' E s := wpAny_mono h hQ fun _ _ x => x
end L2
namespace L2
open PySem PySem.Spec PyProof.Rows
section
variable {X : Cx}
def tVar (i : Nat) : TE := fun σ H Q => ∃ v, σ[i]? = some (some v) ∧ Q v H
def tC (v : V) : TE := fun _ H Q => Q v H
theorem pe_var {i : Nat} {x : Str} {pos : Pos} (hN : X.N[i]? = some x) (hv : Vis X.env.scope x) (hd : (x == ("__debug__" : Str)) = false := by decide) (hcd : (x == ("__classdict__" : Str)) = false := by decide) : PE X (.Name x pos) (tVar i) := by
  intro pins s σ H Q I h
  obtain ⟨v, e, h⟩ := h
  obtain ⟨m, hn, hl⟩ := I.loc
  obtain ⟨u, r, l⟩ := hl i x v hN e hv
  have fin : EP X pins σ Q u s := ⟨v, H, I, r, h⟩
  rcases l with ⟨hk, hm⟩ | ⟨hk, c, hc, hcell⟩
  · exact wpAny_Name (wpAny_loadName_local I.ok.kind hk hn hm fin) hd
  · rcases hk with hk | hk
    · exact wpAny_Name (wpAny_loadName_cell I.ok.kind hk hc hcell fin) hd
    · exact wpAny_Name (wpAny_loadName_free I.ok.kind hk hc hcell fin hcd) hd
theorem pe_int {i j pos} : PE X (.Constant (.int i) j pos) (tC (.int i)) := fun _ _ _ H _ I h => wpAny_Constant_int ⟨.int i, H, I.tok _, ⟨_, rfl⟩, h⟩
theorem pe_bl {b j pos} : PE X (.Constant (.bool b) j pos) (tC (.bl b)) := fun _ _ _ H _ I h => Constant_bool ⟨.bl b, H, I, rfl, h⟩
theorem pe_str {x j pos} : PE X (.Constant (.str x) j pos) (tC (.str x)) := fun _ _ _ H _ I h => Calls.Constant_str ⟨.str x, H, I.tok _, ⟨_, rfl⟩, h⟩
def Gl (X : Cx) (x : Str) : Prop := X.env.kindOf x = some .globalImplicit
theorem ld_glob {E : Value → Shared → Prop} {pins : List (Addr × Obj)} {s : Shared} {σ : St} {H : Hp} {x : Str} {u : Value} {pos : Pos} {Q : Value → Shared → Prop} (I : Inv X pins σ H s) (hg : Gl X x) (hm : X.mg x = some u) (h : Q u s)
    (hd : (x == ("__debug__" : Str)) = false := by decide) : wpAny (model X.prog X.w) X.A (eval (.Name x pos) X.env) Q E s :=
  Calls.Name_function_global I.ok.kind hg (Calls.loadGlobal_global (by rw [I.ok.glob]; exact I.mod.glob.keeps I.bk) hm h) hd
theorem ld_blt {E : Value → Shared → Prop} {pins : List (Addr × Obj)} {s : Shared} {σ : St} {H : Hp} {x : Str} {u : Value} {pos : Pos} {Q : Value → Shared → Prop} (I : Inv X pins σ H s) (hg : Gl X x) (hm : X.mg x = none) (hv : bootBuiltins x = some u) (h : Q u s)
    (hn : x ≠ "__name__" := by decide) (hd : (x == ("__debug__" : Str)) = false := by decide) : wpAny (model X.prog X.w) X.A (eval (.Name x pos) X.env) Q E s := by
  obtain ⟨mb, h1, h2⟩ := I.mod.blt
  exact Calls.Name_function_global I.ok.kind hg (Calls.loadGlobal_builtin (by rw [I.ok.glob]; exact I.mod.glob.keeps I.bk) hm (by rw [I.ok.blt]; exact h1.keeps I.bk) ((h2 x hn).trans hv) h) hd
theorem pe_glob {x : Str} {v : V} {u : Value} {pos : Pos} (hg : Gl X x) (hm : X.mg x = some u) (r : RelV v u) (hd : (x == ("__debug__" : Str)) = false := by decide) : PE X (.Name x pos) (tC v) :=
  fun _ _ _ H _ I h => ld_glob I hg hm ⟨v, H, I, r, h⟩ hd
theorem pe_bltn {x : Str} {v : V} {u : Value} {pos : Pos} (hg : Gl X x) (hm : X.mg x = none) (hv : bootBuiltins x = some u) (r : RelV v u) (hn : x ≠ "__name__" := by decide) (hd : (x == ("__debug__" : Str)) = false := by decide) : PE X (.Name x pos) (tC v) :=
  fun _ _ _ H _ I h => ld_blt I hg hm hv ⟨v, H, I, r, h⟩ hn hd
variable {a b : Expr} {ta tb : TE} {pos : Pos}
def PC (X : Cx) (op : CmpOp) (a b : Expr) (t : TE) : Prop :=
  ∀ (pins : List (Addr × Obj)) (s : Shared) (σ : St) (H : Hp) (Q : VK), Inv X pins σ H s → t σ H Q →
    wpAny (model X.prog X.w) X.A (eval a X.env) (fun v s₁ => wpAny (model X.prog X.w) X.A (eval b X.env) (fun u s₂ => wpAny (model X.prog X.w) X.A (compareOp op v u) (EP X pins σ Q) X.xe s₂) X.xe s₁) X.xe s
theorem nobehind (b : Expr) {op : CmpOp} (h : op ≠ .In) (h2 : op ≠ .NotIn) : behindInMarks op b = false := by
  have e1 : (op == CmpOp.In) = false := by cases op <;> first | rfl | exact absurd rfl h
  have e2 : (op == CmpOp.NotIn) = false := by cases op <;> first | rfl | exact absurd rfl h2
  cases b <;> simp [behindInMarks, e1, e2]
def tB (t : TE) : TT := fun σ H Q => t σ H fun x H1 => ∃ c, x = .bl c ∧ Q c H1
theorem pt_cmp {op : CmpOp} {t : TE} (h : PC X op a b t) (h1 : behindInMarks op b = false := by first | exact nobehind _ (by decide) (by decide) | rfl) : PT X (.Compare a [op] [b] pos) (tB t) := by
  intro pins s σ H Q I hw
  refine wpAny_isTrue_Compare1 (thn (h pins s σ H _ I hw) fun v s1 h1 => thn h1 fun u s2 h2 => thn h2 fun c s3 ⟨x, H1, I1, r1, q1⟩ => ?_) h1
  obtain ⟨d, rfl, q⟩ := q1
  cases r1
  exact wpAny_truthy_bool ⟨H1, I1, q⟩
theorem pt_val {e : Expr} {t : TE} (h : PE X e t) (he : ∀ whole, isTrue e X.env whole = (do let v ← whole; standAt e.pos; holding [v] (truthy v)) := by intro _; rfl) : PT X e (tB t) := by
  intro pins s σ H Q I hw
  refine isTrue_plain (thn (h pins s σ H _ I hw) fun v s1 ⟨x, H1, I1, r1, q1⟩ => ?_) (he _)
  obtain ⟨d, rfl, q⟩ := q1
  cases r1
  exact wpAny_truthy_bool ⟨H1, I1, q⟩
variable {tA tB' : TT} {rest : List Expr}
def tAnd (t u : TT) : TT := fun σ H Q => t σ H fun c H1 => if c = true then u σ H1 Q else Q false H1
def tOr (t u : TT) : TT := fun σ H Q => t σ H fun c H1 => if c = true then Q true H1 else u σ H1 Q
def tNot (t : TT) : TT := fun σ H Q => t σ H fun c H1 => Q (!c) H1
theorem pw_and1 (ha : PT X a tA) : PW X (.BoolOp .And [a] pos) tA := by
  intro wh pins s σ H Q I h
  refine isTrue_and (thn (ha pins s σ H Q I h) fun c s1 e => ?_)
  cases c with
  | true => exact isTrue_and_nil e
  | false => exact e
theorem pw_or1 (ha : PT X a tA) : PW X (.BoolOp .Or [a] pos) tA := by
  intro wh pins s σ H Q I h
  refine isTrue_or (thn (ha pins s σ H Q I h) fun c s1 e => ?_)
  cases c with
  | false => exact isTrue_or_nil e
  | true => exact e
theorem pw_and (ha : PT X a tA) (hb : PW X (.BoolOp .And (b :: rest) pos) tB') : PW X (.BoolOp .And (a :: b :: rest) pos) (tAnd tA tB') := by
  intro wh pins s σ H Q I h
  refine isTrue_and (thn (ha pins s σ H _ I h) fun c s1 ⟨H1, I1, q1⟩ => ?_)
  cases c with
  | true => exact hb wh pins s1 σ H1 Q I1 q1
  | false => exact ⟨H1, I1, q1⟩
theorem pw_or (ha : PT X a tA) (hb : PW X (.BoolOp .Or (b :: rest) pos) tB') : PW X (.BoolOp .Or (a :: b :: rest) pos) (tOr tA tB') := by
  intro wh pins s σ H Q I h
  refine isTrue_or (thn (ha pins s σ H _ I h) fun c s1 ⟨H1, I1, q1⟩ => ?_)
  cases c with
  | true => exact ⟨H1, I1, q1⟩
  | false => exact hb wh pins s1 σ H1 Q I1 q1
theorem pt_not (ha : PT X a tA) : PT X (.UnaryOp .Not a pos) (tNot tA) := by
  intro pins s σ H Q I h
  exact isTrue_not (ha pins s σ H (fun c H1 => Q (!c) H1) I h)
def tAndV (ta tb : TE) : TE := fun σ H Q => ta σ H fun x H1 => ∃ c, x = .bl c ∧ if c = true then tb σ H1 Q else Q (.bl false) H1
def tOrV (ta tb : TE) : TE := fun σ H Q => ta σ H fun x H1 => ∃ c, x = .bl c ∧ if c = true then Q (.bl true) H1 else tb σ H1 Q
def tNotV (ta : TE) : TE := fun σ H Q => ta σ H fun x H1 => ∃ c, x = .bl c ∧ Q (.bl (!c)) H1
theorem pe_one {op} {t : TE} (h : PE X a t) : PE X (.BoolOp op [a] pos) t := fun pins s σ H Q I hw => BoolOp_one (h pins s σ H Q I hw)
theorem pe_and (ha : PE X a ta) (hb : PE X (.BoolOp .And (b :: rest) pos) tb) : PE X (.BoolOp .And (a :: b :: rest) pos) (tAndV ta tb) := by
  intro pins s σ H Q I h
  refine BoolOp_and (thn (ha pins s σ H _ I h) fun v s1 ⟨x, H1, I1, r1, q1⟩ => ?_)
  obtain ⟨c, rfl, q1⟩ := q1
  cases r1
  refine wpAny_truthy_bool ?_
  cases c with
  | true => exact hb pins s1 σ H1 Q I1 q1
  | false => exact ⟨.bl false, H1, I1, rfl, q1⟩
theorem pe_not (ha : PE X a ta) : PE X (.UnaryOp .Not a pos) (tNotV ta) := by
  intro pins s σ H Q I h
  refine UnaryOp_ (thn (ha pins s σ H _ I h) fun v s1 ⟨x, H1, I1, r1, q1⟩ => ?_)
  obtain ⟨c, rfl, q1⟩ := q1
  cases r1
  exact not_of (wpAny_truthy_bool ⟨.bl (!c), H1, I1, rfl, q1⟩)
def tIf (t : TT) (ta tb : TE) : TE := fun σ H Q => t σ H fun c H1 => if c = true then ta σ H1 Q else tb σ H1 Q
end
end L2
namespace L2
open PySem PySem.Spec PyProof.Rows
def SqL (K : PySem.W.Frag) (H : Hp) (a : Addr) (xs : List V) : Prop :=
  Rd H a (.lst xs) ∨
    ∃ (o : Obj) (its : Array Value) (n : Nat), K.lookup a = some o ∧ o.cls = .type "list" ∧ o.dict = none ∧ o.data = .seq its n ∧ its.size ≤ sizeLine ∧ Vals xs its.toList
def SqT (K : PySem.W.Frag) (H : Hp) (a : Addr) (xs : List V) : Prop :=
  Rd H a (.tup xs) ∨
    ∃ (o : Obj) (its : Array Value) (n : Nat), K.lookup a = some o ∧ o.cls = .type "tuple" ∧ o.data = .seq its n ∧ its.size ≤ sizeLine ∧ Vals xs its.toList
def absV : Value → Option V
  | .none => some .non
  | .bool b => some (.bl b)
  | .int i _ => some (.int i)
  | .str x _ => some (.str x)
  | .bytes b _ => some (.byt b)
  | .float b _ => some (.flt b)
  | .ref a => some (.ref a)
  | .type n => some (.ty n)
  | _ => none
theorem RelV.abs {x : V} {u : Value} (r : RelV x u) : absV u = some x := by
  cases x with
  | non => cases r; rfl
  | bl _ => cases r; rfl
  | int _ => obtain ⟨t, rfl⟩ := r; rfl
  | str _ => obtain ⟨t, rfl⟩ := r; rfl
  | byt _ => obtain ⟨t, rfl⟩ := r; rfl
  | flt _ => obtain ⟨t, rfl⟩ := r; rfl
  | ref _ => cases r; rfl
  | ty _ => cases r; rfl
theorem RelV.inj {x y : V} {u : Value} (r : RelV x u) (q : RelV y u) : x = y := Option.some.inj (r.abs.symm.trans q.abs)
theorem Vals.inj : ∀ {xs ys : List V} {us : List Value}, Vals xs us → Vals ys us → xs = ys
  | _, _, _, .nil, .nil => rfl
  | _, _, _, .cons r t, .cons r' t' => by rw [r.inj r', Vals.inj t t']
section
variable {X : Cx} {pins : List (Addr × Obj)} {σ : St} {H : Hp} {s : Shared} {a : Addr} {xs ys : List V}
theorem SqL.of {K : PySem.W.Frag} (h : H a = some (.lst xs)) : SqL K H a xs := .inl (.inl h)
theorem SqT.of {K : PySem.W.Frag} (h : H a = some (.tup xs)) : SqT K H a xs := .inl (.inl h)
theorem Inv.list (I : Inv X pins σ H s) (h : SqL X.K H a xs) : ∃ its : List Value, Vals xs its ∧ PlainL s.heap a its.toArray ∧ xs.length ≤ sizeLine := by
  rcases h with h | ⟨o, its, n, hk, hc, hd, hs, hz, r⟩
  · obtain ⟨z, its, n, r, e⟩ := h.ok I.hok
    exact ⟨its, r, ⟨_, n, e, rfl, rfl, rfl⟩, z⟩
  · refine ⟨its.toList, r, ⟨o, n, I.kIn a o hk, hc, hd, by simpa using hs⟩, ?_⟩
    have e := r.length
    simp only [Array.length_toList] at e
    omega
theorem Inv.tuple (I : Inv X pins σ H s) (h : SqT X.K H a xs) : ∃ its : List Value, Vals xs its ∧ IsTup s.heap a its.toArray ∧ xs.length ≤ sizeLine := by
  rcases h with h | ⟨o, its, n, hk, hc, hs, hz, r⟩
  · obtain ⟨z, its, r, p⟩ := h.ok I.hok
    exact ⟨its, r, p, z⟩
  · refine ⟨its.toList, r, ⟨o, I.kIn a o hk, hc, n, by simpa using hs⟩, ?_⟩
    have e := r.length
    simp only [Array.length_toList] at e
    omega
theorem Inv.list_inj (I : Inv X pins σ H s) (h : SqL X.K H a xs) (h' : SqL X.K H a ys) : xs = ys := by
  obtain ⟨its, r, ⟨o, n, e, _, _, d⟩, _⟩ := I.list h
  obtain ⟨its', r', ⟨o', n', e', _, _, d'⟩, _⟩ := I.list h'
  rw [e] at e'; cases e'
  rw [d] at d'
  injection d' with d1 _
  have : its = its' := by simpa using congrArg Array.toList d1
  subst this
  exact r.inj r'
theorem Inv.tuple_inj (I : Inv X pins σ H s) (h : SqT X.K H a xs) (h' : SqT X.K H a ys) : xs = ys := by
  obtain ⟨its, r, ⟨o, e, _, n, d⟩, _⟩ := I.tuple h
  obtain ⟨its', r', ⟨o', e', _, n', d'⟩, _⟩ := I.tuple h'
  rw [e] at e'; cases e'
  rw [d] at d'
  injection d' with d1 _
  have : its = its' := by simpa using congrArg Array.toList d1
  subst this
  exact r.inj r'
end
abbrev Cx.wish (X : Cx) (E : Value → Shared → Prop) : Cx := { X with xe := E }
abbrev Cx.nox (X : Cx) : Cx := X.wish fun _ _ => False
theorem Cx.Ok.wish {X : Cx} (ok : X.Ok) (E : Value → Shared → Prop) : (X.wish E).Ok :=
  ⟨ok.mod, ok.kind, ok.glob, ok.blt, ok.above, ok.inj, ok.has, ok.cab, ok.hd, ok.frames, ok.stk, ok.exf, ok.bs, ok.bsz, ok.noex, ok.exfs, ok.funs, ok.frf⟩
theorem Cx.Ok.unwish {X : Cx} {E : Value → Shared → Prop} (ok : (X.wish E).Ok) : X.Ok :=
  ⟨ok.mod, ok.kind, ok.glob, ok.blt, ok.above, ok.inj, ok.has, ok.cab, ok.hd, ok.frames, ok.stk, ok.exf, ok.bs, ok.bsz, ok.noex, ok.exfs, ok.funs, ok.frf⟩
section
variable {X : Cx} {pins : List (Addr × Obj)} {σ : St} {H : Hp} {s : Shared} {E : Value → Shared → Prop}
theorem Inv.wish (I : Inv X pins σ H s) (E : Value → Shared → Prop) : Inv (X.wish E) pins σ H s := ⟨I.ok.wish E, I.os, I.bare, I.base, I.loc, I.cell, I.free, I.freeC, I.pin, I.hok, I.len⟩
theorem Inv.unwish (I : Inv (X.wish E) pins σ H s) : Inv X pins σ H s := ⟨I.ok.unwish, I.os, I.bare, I.base, I.loc, I.cell, I.free, I.freeC, I.pin, I.hok, I.len⟩
theorem SP.unwish {D : Ends} {f : Flow} {s' : Shared} (h : SP (X.wish E) pins D f s') : SP X pins D f s' := by
  cases f with
  | next => obtain ⟨σ', H', I, q⟩ := h; exact ⟨σ', H', I.unwish, q⟩
  | brk => obtain ⟨σ', H', I, q⟩ := h; exact ⟨σ', H', I.unwish, q⟩
  | cont => obtain ⟨σ', H', I, q⟩ := h; exact ⟨σ', H', I.unwish, q⟩
  | ret u => obtain ⟨v, σ', H', I, r, q⟩ := h; exact ⟨v, σ', H', I.unwish, r, q⟩
theorem PE.nox {e : Expr} {t : TE} (h : PE X.nox e t) : PE X e t := fun pins s σ H Q I hw =>
  wpAny_mono (h pins s σ H Q (I.wish _) hw) (fun _ _ ⟨v, H', I', r, q⟩ => ⟨v, H', I'.unwish, r, q⟩) fun _ _ z => False.elim z
theorem PT.nox {e : Expr} {t : TT} (h : PT X.nox e t) : PT X e t := fun pins s σ H Q I hw =>
  wpAny_mono (h pins s σ H Q (I.wish _) hw) (fun _ _ ⟨H', I', q⟩ => ⟨H', I'.unwish, q⟩) fun _ _ z => False.elim z
theorem PSs.nox {st : List Stmt} {t : TS} (h : PSs X.nox st t) : PSs X st t := fun pins s σ H D I hw =>
  wpAny_mono (h pins s σ H D (I.wish _) hw) (fun _ _ q => q.unwish) fun _ _ z => False.elim z
end
section
variable {X : Cx} {st : Stmt} {rest : List Stmt} {t u : TS} {e : Expr} {te : TE} {pos : Pos}
def tNext : TS := fun D σ H => D.nx σ H
def tSeq (t u : TS) : TS := fun D σ H => t { D with nx := u D } σ H
theorem pss_nil : PSs X [] tNext := fun _ _ σ H _ I h => wpAny_execs_nil ⟨σ, H, I, h⟩
theorem pss_cons (h1 : PS X st t) (h2 : PSs X rest u) : PSs X (st :: rest) (tSeq t u) := by
  intro pins s σ H D I h
  refine wpAny_execs_cons (thn (h1 pins s σ H { D with nx := u D } I h) fun f s1 q => ?_)
  cases f with
  | next =>
    obtain ⟨σ', H', I', q⟩ := q
    exact h2 pins s1 σ' H' D I' q
  | ret v => exact q
  | brk => exact q
  | cont => exact q
theorem pss_one (h1 : PS X st t) : PSs X [st] t := by
  intro pins s σ H D I h
  refine wpAny_execs_cons (thn (h1 pins s σ H D I h) fun f s1 q => ?_)
  cases f with
  | next => exact wpAny_execs_nil q
  | ret v => exact q
  | brk => exact q
  | cont => exact q
theorem Inv.quiet {pins : List (Addr × Obj)} {σ : St} {H : Hp} {s : Shared} (I : Inv X pins σ H s) : interactive X.env = false := by simp [interactive, I.ok.kind]
def tDrop (te : TE) : TS := fun D σ H => te σ H fun _ H1 => D.nx σ H1
theorem ps_expr (he : PE X e te) (hs : swapsWith e none pos.line X.env = pure false := by rfl) : PS X (.Expr e pos) (tDrop te) := by
  intro pins s σ H D I h
  exact wpAny_Expr_any (thn (he pins s σ H _ I h) fun v s1 ⟨x, H1, I1, r1, q1⟩ => ⟨σ, H1, I1, q1⟩) I.quiet hs
def tRet (te : TE) : TS := fun D σ H => te σ H D.rt
theorem ps_ret (he : PE X e te) : PS X (.Return (some e) pos) (tRet te) := by
  intro pins s σ H D I h
  exact wpAny_Return_some (thn (he pins s σ H _ I h) fun v s1 ⟨x, H1, I1, r1, q1⟩ => ⟨x, σ, H1, I1, r1, q1⟩)
def tIfS (c : TT) (t u : TS) : TS := fun D σ H => c σ H fun b H1 => if b = true then t D σ H1 else u D σ H1
theorem ps_if {c : Expr} {a b : List Stmt} {tc : TT} (hc : PT X c tc) (ha : PSs X a t) (hb : PSs X b u) : PS X (.If c a b pos) (tIfS tc t u) := by
  intro pins s σ H D I h
  refine wpAny_If (thn (hc pins s σ H _ I h) fun d s1 ⟨H1, I1, q1⟩ => ?_)
  cases d with
  | true => exact ha pins s1 σ H1 D I1 q1
  | false => exact hb pins s1 σ H1 D I1 q1
end
abbrev TG := V → St → Hp → (St → Hp → Prop) → Prop
abbrev TGs := List V → St → Hp → (St → Hp → Prop) → Prop
def PG (X : Cx) (target : Expr) (t : TG) : Prop :=
  ∀ (pins : List (Addr × Obj)) (s : Shared) (σ : St) (H : Hp) (v : V) (u : Value) (Q : St → Hp → Prop), Inv X pins σ H s → RelV v u → t v σ H Q →
    wpAny (model X.prog X.w) X.A (assign target X.env u) (fun _ s' => ∃ σ' H', Inv X pins σ' H' s' ∧ Q σ' H') X.xe s
def PGs (X : Cx) (ts : List Expr) (t : TGs) : Prop :=
  ∀ (pins : List (Addr × Obj)) (s : Shared) (σ : St) (H : Hp) (vs : List V) (us : List Value) (Q : St → Hp → Prop), Inv X pins σ H s → Vals vs us → t vs σ H Q →
    wpAny (model X.prog X.w) X.A (assignInOrder ((assignEach ts X.env).map (·.2)) us) (fun _ s' => ∃ σ' H', Inv X pins σ' H' s' ∧ Q σ' H') X.xe s
section
variable {X : Cx} {pos : Pos}
def gName (i : Nat) : TG := fun v σ H Q => Q (σ.set i (some v)) H
theorem pg_name {i : Nat} {x : Str} (hN : X.N.Nodup) (hi : X.N[i]? = some x) (hx : Loc X.env.scope x) (hf : X.fn x = true ∨ X.env.scope.names.lookup x = some .local := by first | exact .inl rfl | exact .inr rfl | assumption) : PG X (.Name x pos) (gName i) := by
  intro pins s σ H v u Q I r h
  exact wpAny_assign_Name (store_ok I hN hi hx r (fun s' I' => ⟨_, H, I', h⟩) hf)
def gNil : TGs := fun vs σ H Q => vs = [] ∧ Q σ H
def gCons (t : TG) (u : TGs) : TGs := fun vs σ H Q => ∃ v r, vs = v :: r ∧ t v σ H fun σ' H' => u r σ' H' Q
theorem pgs_nil : PGs X [] gNil := by
  intro pins s σ H vs us Q I r h
  obtain ⟨e, h⟩ := h
  subst e
  cases r
  exact assignInOrder_nil ⟨σ, H, I, h⟩
theorem pgs_cons {e : Expr} {es : List Expr} {t : TG} {u : TGs} (h1 : PG X e t) (h2 : PGs X es u)
    (hs : (assignEach (e :: es) X.env).map (·.2) = assign e X.env :: (assignEach es X.env).map (·.2) := by rfl) : PGs X (e :: es) (gCons t u) := by
  intro pins s σ H vs us Q I r h
  obtain ⟨v, vr, e1, h⟩ := h
  subst e1
  cases r with
  | cons r rr =>
    rw [hs]
    refine assignInOrder_cons (thn (h1 pins s σ H _ _ _ I r h) fun _ s1 ⟨σ1, H1, I1, q1⟩ => ?_)
    exact h2 pins s1 σ1 H1 _ _ Q I1 rr q1
def gTup (K : PySem.W.Frag) (n : Nat) (t : TGs) : TG := fun v σ H Q => ∃ a xs, v = .ref a ∧ SqT K H a xs ∧ xs.length = n ∧ t xs σ H Q
theorem pg_tup {es : List Expr} {k : Nat} {t : TGs} {n : Nat} (hc : X.calm = true) (h : PGs X es t)
    (hn : (assignEach es X.env).length = n := by rfl) (hst : (assignEach es X.env).findIdx? (·.1) = none := by rfl) : PG X (.Tuple es k pos) (gTup X.K n t) := by
  intro pins s σ H v u Q I r hw
  obtain ⟨a, xs, e1, hq, hl, hw⟩ := hw
  subst e1
  cases r
  obtain ⟨its, rv, ht, hz⟩ := I.tuple hq
  refine assign_Tuple_tuple (I.ok.hd hc) ht (by simp [hn, ← hl, rv.length]) hst fun h' hx => ?_
  have I1 : Inv X pins σ H { s with heap := h' } := I.kept (t' := s.toks) fun b o e => hx b o (Nat.ne_of_lt (Heap.lt_size e)) e
  exact h pins _ σ H xs _ Q I1 (by simpa using rv) hw
def tAsg (te : TE) (g : TG) : TS := fun D σ H => te σ H fun x H1 => g x σ H1 D.nx
theorem ps_set {i : Nat} {x : Str} {e : Expr} {te : TE} {pos' : Pos} (hN : X.N.Nodup) (hi : X.N[i]? = some x) (hx : Loc X.env.scope x) (he : PE X e te) (hs : swapsWith e (some (.Name x pos')) pos.line X.env = pure false := by rfl) (hf : X.fn x = true ∨ X.env.scope.names.lookup x = some .local := by first | exact .inl rfl | exact .inr rfl | assumption) :
    PS X (.Assign [.Name x pos'] e pos) (tAsg te (gName i)) := by
  intro pins s σ H D I h
  refine wpAny_Assign_Name (thn (he pins s σ H _ I h) fun v s1 ⟨y, H1, I1, r1, q1⟩ => ?_) hs
  exact store_ok I1 hN hi hx r1 (fun s2 I2 => ⟨_, H1, I2, q1⟩) hf
end
section
variable {X : Cx} {pos : Pos}
def tWhile (c : TT) (tb : TS) : TS := fun D σ H => ∃ W : Nat → St → Hp → Prop, (∃ m, W m σ H) ∧ ∀ m σ H, W m σ H →
  c σ H fun b H1 => if b = true then ∃ N : St → Hp → Prop, (∀ σ' H', N σ' H' → ∃ m', m' < m ∧ W m' σ' H') ∧ tb { D with nx := N, ct := N, bk := D.nx } σ H1 else D.nx σ H1
theorem ps_while {c : Expr} {body : List Stmt} {tc : TT} {tb : TS} (hp : PassesOwn (model X.prog X.w) X.A X.env X.xe) (hc : PT X c tc) (hb : PSs X body tb) : PS X (.While c body [] pos) (tWhile tc tb) := by
  intro pins s σ H D I h
  obtain ⟨W, ⟨m0, w0⟩, turn⟩ := h
  refine wpAny_While (codeAny_whileLoop (fun n s' => ∃ σ' H', Inv X pins σ' H' s' ∧ W n σ' H') ?_ m0 ⟨σ, H, I, w0⟩)
  rintro n s1 ⟨σ1, H1, I1, w1⟩
  refine wpAny_passesOwn hp (thn (hc pins s1 σ1 H1 _ I1 (turn n σ1 H1 w1)) fun b s2 ⟨H2, I2, q2⟩ => ?_)
  cases b with
  | true =>
    obtain ⟨N, hN, q2⟩ := q2
    rw [if_pos rfl]
    refine wpAny_passesOwn hp (thn (hb pins s2 σ1 H2 _ I2 q2) fun f s3 q3 => ?_)
    cases f with
    | next =>
      obtain ⟨σ3, H3, I3, n3⟩ := q3
      obtain ⟨m', hm, w3⟩ := hN σ3 H3 n3
      exact ⟨m', hm, σ3, H3, I3, w3⟩
    | cont =>
      obtain ⟨σ3, H3, I3, n3⟩ := q3
      obtain ⟨m', hm, w3⟩ := hN σ3 H3 n3
      exact ⟨m', hm, σ3, H3, I3, w3⟩
    | brk => exact q3
    | ret v => exact q3
  | false =>
    rw [if_neg Bool.false_ne_true]
    exact wpAny_execs_nil ⟨σ1, H2, I2, q2⟩
end
structure It where
  go : Nat → Hp → Prop
  yld : Nat → Hp → V → Hp → Prop
  stop : Nat → Hp → Prop
def FpOk (X : Cx) (pins : List (Addr × Obj)) (H : Hp) (b : Addr) : Prop :=
  H b = none ∧ b ≠ X.env.locals ∧ b ∉ X.fs ∧ (b ∈ X.ex ∨ X.s₀.heap.objs.size ≤ b) ∧ (∀ x c, X.env.cells.lookup x = some c → c ≠ b) ∧ ∀ p ∈ X.pn ++ pins, p.1 ≠ b
theorem Inv.fpOk {X : Cx} {pins : List (Addr × Obj)} {σ : St} {H H' : Hp} {s : Shared} {b : Addr} (I : Inv X pins σ H s) (hb : s.heap.objs.size ≤ b) (hn : H' b = none) : FpOk X pins H' b := by
  refine ⟨hn, Nat.ne_of_gt (Nat.lt_of_lt_of_le I.lt hb), I.nofs hb, .inr (Nat.le_trans I.sz hb), fun x c e z => ?_, fun p hp z => ?_⟩
  · obtain ⟨v, q⟩ := I.cell x c e
    exact absurd (Nat.lt_of_lt_of_le q.lt (by rw [z]; exact hb)) (Nat.lt_irrefl _)
  · exact absurd (Nat.lt_of_lt_of_le (Heap.lt_size (I.pin p hp).1) (by rw [z]; exact hb)) (Nat.lt_irrefl _)
structure Turn (P : Program) (w : World) (K : PySem.W.Frag) (tg : Expr) (J : It) (fp : List Addr) (it : Addr) (tn : Nat → Heap → Prop) : Prop where
  mem : it ∈ fp
  obj : ∀ i h, tn i h → ∀ b ∈ fp, ∃ o, h.get? b = some o ∧ ∀ v, o.data ≠ .cell v
  keep : ∀ i h h', tn i h → (∀ b ∈ fp, ∀ o, h.get? b = some o → h'.get? b = some o) → tn i h'
  item : ∀ (X : Cx), X.prog = P → X.w = w → X.K = K → X.calm = true → ∀ (i : Nat) (pins : List (Addr × Obj)) (s : Shared) (σ : St) (H : Hp) (E : Value → Shared → Prop), Inv X pins σ H s → (∀ b ∈ fp, FpOk X pins H b) → tn i s.heap → J.go i H →
    wpAny (model P w) X.A (pyNext (.ref it)) (fun r s1 => ∃ u, r = some u ∧
      wpAny (model P w) X.A (letOwnedTupleGo tg (.ref it) u) (fun _ s2 => ∃ x H', Inv X pins σ H' s2 ∧ RelV x u ∧ J.yld i H x H' ∧ tn (i + 1) s2.heap ∧ ∀ b ∈ fp, H' b = none) E s1) E s
  done : ∀ (X : Cx), X.prog = P → X.w = w → X.K = K → X.calm = true → ∀ (i : Nat) (pins : List (Addr × Obj)) (s : Shared) (σ : St) (H : Hp) (E : Value → Shared → Prop), Inv X pins σ H s → (∀ b ∈ fp, FpOk X pins H b) → tn i s.heap → J.stop i H →
    wpAny (model P w) X.A (pyNext (.ref it)) (fun r s1 => r = none ∧ Inv X pins σ H s1) E s
  self : ∀ (A : Around) (i : Nat) (s : Shared) (Q : Value → Shared → Prop) (E : Value → Shared → Prop), tn i s.heap → Q (.ref it) s → wpAny (model P w) A (pyIter (.ref it)) Q E s
abbrev TI := St → Hp → (It → Hp → Prop) → Prop
def PIE (X : Cx) (pins : List (Addr × Obj)) (σ : St) (tg : Expr) (R : It → Hp → Prop) (itv : Value) (s2 : Shared) : Prop :=
  ∃ (it : Addr) (fp : List Addr) (tn : Nat → Heap → Prop) (J : It) (H' : Hp), itv = .ref it ∧ Inv X pins σ H' s2 ∧ Turn X.prog X.w X.K tg J fp it tn ∧ tn 0 s2.heap ∧ (∀ b ∈ fp, FpOk X pins H' b) ∧ R J H'
def PI (X : Cx) (tg iter : Expr) (wi : TI) : Prop :=
  ∀ (pins : List (Addr × Obj)) (s : Shared) (σ : St) (H : Hp) (R : It → Hp → Prop), Inv X pins σ H s → wi σ H R →
    wpAny (model X.prog X.w) X.A (eval iter X.env) (fun v s1 => wpAny (model X.prog X.w) X.A (pyIter v) (PIE X pins σ tg R) X.xe s1) X.xe s
theorem go_of {M : Model} {A : Around} {E : Value → Shared → Prop} {s : Shared} {tg : Expr} {it : Addr} {u : Value} {o : Obj} {n : String} {vs : Array Value} {Q : Unit → Shared → Prop} (ho : s.heap.get? it = some o) (hc : o.cls = .type n) (hd : o.data = .fields vs)
    (hn : ["enumerate", "zip", "dict_itemiterator", "dict_reverseitemiterator", "odict_iterator", "itertools.zip_longest", "itertools.pairwise"].contains n = false) (hQ : Q () s) : wpAny M A (letOwnedTupleGo tg (.ref it) u) Q E s := by
  unfold letOwnedTupleGo
  cases tg <;> first
    | exact wpAny_pure hQ
    | (cases u <;> first
        | exact wpAny_pure hQ
        | (refine wpAny_bind (wpAny_load ho ?_)
           rw [hc, hd]
           show wpAny M A (if (["enumerate", "zip", "dict_itemiterator", "dict_reverseitemiterator", "odict_iterator", "itertools.zip_longest", "itertools.pairwise"].contains n && vs[0]? == some (rawInt _)) = true then _ else _) Q E s
           rw [if_neg (by intro h; rw [hn, Bool.false_and] at h; cases h)]
           exact wpAny_pure hQ))
def Itl (K : PySem.W.Frag) (a : Addr) : It :=
  ⟨fun i H => ∃ xs x, SqL K H a xs ∧ xs[i]? = some x, fun i H x H' => H' = H ∧ ∀ xs, SqL K H a xs → xs[i]? = some x, fun i H => ∃ xs, SqL K H a xs ∧ xs.length ≤ i⟩
def Itt (K : PySem.W.Frag) (a : Addr) : It :=
  ⟨fun i H => ∃ xs x, SqT K H a xs ∧ xs[i]? = some x, fun i H x H' => H' = H ∧ ∀ xs, SqT K H a xs → xs[i]? = some x, fun i H => ∃ xs, SqT K H a xs ∧ xs.length ≤ i⟩
def Itr (lo : Int) (n : Nat) : It := ⟨fun i _ => i < n, fun i H x H' => H' = H ∧ x = .int (lo + i), fun i _ => n ≤ i⟩
theorem turn_list {P : Program} {w : World} {K : PySem.W.Frag} {tg : Expr} (a it : Addr) : Turn P w K tg (Itl K a) [it] it (fun i h => h.IsListIter it a i) where
  mem := by simp
  obj := fun i h st b hb => by
    have e : b = it := by simpa using hb
    subst e
    obtain ⟨o, e, c, d⟩ := st
    exact ⟨o, e, fun v z => by rw [d] at z; cases z⟩
  keep := fun i h h' st k => st.at fun o e => k it (by simp) o e
  item := by
    intro X hP hw hK hc i pins s σ H E I hf st hg
    subst hP hw hK
    obtain ⟨xs, x, hq, hx⟩ := hg
    obtain ⟨its, rv, p, hz⟩ := I.list hq
    obtain ⟨u, hu, ru⟩ := rv.get hx
    obtain ⟨f0, f1, f2, f3, f4, f5⟩ := hf it (by simp)
    refine wpAny_pyNext_list_item st p.isList (x := u) (by simpa using hu) fun h' st' sb => ?_
    have I1 : Inv X pins σ H { s with heap := h' } := I.turned (t' := s.toks) (fun b o hb e => (sb.2 b hb).trans e) f0 f1 f3 f4 f5
    obtain ⟨o, e, c, d⟩ := id st'
    exact ⟨u, rfl, go_of (s := { s with heap := h' }) e c d (by decide) ⟨x, H, I1, ru, ⟨rfl, fun ys hy => by rw [I.list_inj hy hq]; exact hx⟩, st', fun b hb => (hf b hb).1⟩⟩
  done := by
    intro X hP hw hK hc i pins s σ H E I hf st hg
    subst hP hw hK
    obtain ⟨xs, hq, hx⟩ := hg
    obtain ⟨its, rv, p, hz⟩ := I.list hq
    obtain ⟨f0, f1, f2, f3, f4, f5⟩ := hf it (by simp)
    have hl := rv.length
    exact wpAny_pyNext_list_end (I.ok.hd hc) st p.isList (by simp; omega) fun h' eb => ⟨rfl, I.turned (t' := s.toks) (fun b o hb e => eb b o hb e) f0 f1 f3 f4 f5⟩
  self := fun _ _ _ _ _ st h => wpAny_pyIter_listiter st h
theorem turn_tuple {P : Program} {w : World} {K : PySem.W.Frag} {tg : Expr} (a it : Addr) : Turn P w K tg (Itt K a) [it] it (fun i h => h.IsTupleIter it a i) where
  mem := by simp
  obj := fun i h st b hb => by
    have e : b = it := by simpa using hb
    subst e
    obtain ⟨o, e, c, d⟩ := st
    exact ⟨o, e, fun v z => by rw [d] at z; cases z⟩
  keep := fun i h h' st k => st.at fun o e => k it (by simp) o e
  item := by
    intro X hP hw hK hc i pins s σ H E I hf st hg
    subst hP hw hK
    obtain ⟨xs, x, hq, hx⟩ := hg
    obtain ⟨its, rv, p, hz⟩ := I.tuple hq
    obtain ⟨u, hu, ru⟩ := rv.get hx
    obtain ⟨f0, f1, f2, f3, f4, f5⟩ := hf it (by simp)
    refine wpAny_pyNext_tuple_item st (show s.heap.IsTuple a its.toArray from p) (x := u) (by simpa using hu) fun h' st' sb => ?_
    have I1 : Inv X pins σ H { s with heap := h' } := I.turned (t' := s.toks) (fun b o hb e => (sb.2 b hb).trans e) f0 f1 f3 f4 f5
    obtain ⟨o, e, c, d⟩ := id st'
    exact ⟨u, rfl, go_of (s := { s with heap := h' }) e c d (by decide) ⟨x, H, I1, ru, ⟨rfl, fun ys hy => by rw [I.tuple_inj hy hq]; exact hx⟩, st', fun b hb => (hf b hb).1⟩⟩
  done := by
    intro X hP hw hK hc i pins s σ H E I hf st hg
    subst hP hw hK
    obtain ⟨xs, hq, hx⟩ := hg
    obtain ⟨its, rv, p, hz⟩ := I.tuple hq
    obtain ⟨f0, f1, f2, f3, f4, f5⟩ := hf it (by simp)
    have hl := rv.length
    exact wpAny_pyNext_tuple_end (I.ok.hd hc) st (show s.heap.IsTuple a its.toArray from p) (by simp; omega) fun h' eb => ⟨rfl, I.turned (t' := s.toks) (fun b o hb e => eb b o hb e) f0 f1 f3 f4 f5⟩
  self := fun _ _ _ _ _ st h => wpAny_pyIter_tupleiter st h
theorem turn_range {P : Program} {w : World} {K : PySem.W.Frag} {tg : Expr} (it : Addr) (lo : Int) (n : Nat) : Turn P w K tg (Itr lo n) [it] it (fun i h => IsRangeIter h it (lo + (i : Nat) * 1) ((n : Int) - (i : Nat)) 1) where
  mem := by simp
  obj := fun i h st b hb => by
    have e : b = it := by simpa using hb
    subst e
    exact ⟨_, st, fun v z => by
      have z' : Data.fields _ = Data.cell v := z
      cases z'⟩
  keep := fun i h h' st k => k it (by simp) _ st
  item := by
    intro X hP hw hK hc i pins s σ H E I hf st hg
    subst hP hw hK
    obtain ⟨f0, f1, f2, f3, f4, f5⟩ := hf it (by simp)
    have W := Walks.range (prog := X.prog) (w := X.w) (I.ok.hd hc) it lo 1 n
    refine W.item i s _ _ hg st fun v h' tk hv st' kk => ?_
    obtain ⟨t, rfl⟩ := hv
    have I1 : Inv X pins σ H { s with heap := h', toks := tk } := I.turned (fun b o hb e => kk b o (by simpa using hb) e) f0 f1 f3 f4 f5
    refine ⟨_, rfl, go_of (s := { s with heap := h', toks := tk }) (n := "range_iterator") st' rfl rfl (by decide) ⟨.int (lo + i), H, I1, ⟨t, ?_⟩, ⟨rfl, rfl⟩, st', fun b hb => (hf b hb).1⟩⟩
    rw [Int.mul_one]
  done := by
    intro X hP hw hK hc i pins s σ H E I hf st hg
    subst hP hw hK
    obtain ⟨f0, f1, f2, f3, f4, f5⟩ := hf it (by simp)
    exact wpAny_pyNext_range_end (I.ok.hd hc) st (by have : n ≤ i := hg; omega) fun h' eb => ⟨rfl, I.turned (t' := s.toks) (fun b o hb e => eb b o hb e) f0 f1 f3 f4 f5⟩
  self := fun _ _ _ _ _ st h => wpAny_pyIter_rangeiter st h
end L2
namespace L2
open PySem PySem.Spec PyProof.Rows
section
variable {X : Cx} {tg : Expr}
def iList (K : PySem.W.Frag) (tl : TE) : TI := fun σ H R => tl σ H fun x H1 => ∃ a, x = .ref a ∧ (∃ xs, SqL K H1 a xs) ∧ R (Itl K a) H1
def iTup (K : PySem.W.Frag) (tl : TE) : TI := fun σ H R => tl σ H fun x H1 => ∃ a, x = .ref a ∧ (∃ xs, SqT K H1 a xs) ∧ R (Itt K a) H1
theorem pi_list {l : Expr} {tl : TE} (hl : PE X l tl) : PI X tg l (iList X.K tl) := by
  intro pins s σ H R I h
  refine thn (hl pins s σ H _ I h) fun v s1 ⟨x, H1, I1, r1, q1⟩ => ?_
  obtain ⟨a, e, ⟨xs, hq⟩, q⟩ := q1
  subst e
  cases r1
  obtain ⟨its, rv, p, hz⟩ := I1.list hq
  refine wpAny_pyIter_list p.isList ?_
  refine ⟨s1.heap.objs.size, [s1.heap.objs.size], _, _, H1, rfl, I1.kept (t' := s1.toks) fun b o e => Heap.get?_push_of_some _ e, turn_list a _, ⟨_, Heap.get?_push_size _ rfl, rfl, rfl⟩, fun b hb => ?_, q⟩
  have e : b = s1.heap.objs.size := by simpa using hb
  subst e
  exact I1.fpOk (Nat.le_refl _) (I1.hok.fresh (Nat.le_refl _))
theorem pi_tup {l : Expr} {tl : TE} (hl : PE X l tl) : PI X tg l (iTup X.K tl) := by
  intro pins s σ H R I h
  refine thn (hl pins s σ H _ I h) fun v s1 ⟨x, H1, I1, r1, q1⟩ => ?_
  obtain ⟨a, e, ⟨xs, hq⟩, q⟩ := q1
  subst e
  cases r1
  obtain ⟨its, rv, p, hz⟩ := I1.tuple hq
  refine wpAny_pyIter_tuple (show s1.heap.IsTuple a its.toArray from p) ?_
  refine ⟨s1.heap.objs.size, [s1.heap.objs.size], _, _, H1, rfl, I1.kept (t' := s1.toks) fun b o e => Heap.get?_push_of_some _ e, turn_tuple a _, ⟨_, Heap.get?_push_size _ rfl, rfl, rfl⟩, fun b hb => ?_, q⟩
  have e : b = s1.heap.objs.size := by simpa using hb
  subst e
  exact I1.fpOk (Nat.le_refl _) (I1.hok.fresh (Nat.le_refl _))
theorem range_it {pins : List (Addr × Obj)} {σ : St} {H : Hp} {s : Shared} {R : It → Hp → Prop} {E : Value → Shared → Prop} {lo hi : Int} {t u v : Tok} {tk : Nat} (I : Inv X pins σ H s) (h1 : -(2 ^ 62) ≤ lo) (h2 : lo < 2 ^ 62) (h3 : -(2 ^ 62) ≤ hi) (h4 : hi < 2 ^ 62)
    (q : R (Itr lo (hi - lo).toNat) H) : wpAny (model X.prog X.w) X.A (pyIter (.ref s.heap.objs.size)) (PIE X pins σ tg R) E { s with heap := s.heap.push { cls := .type "range", data := .fields #[.int lo t, .int hi u, .int 1 v] }, toks := tk } := by
  refine wpAny_pyIter_range (IsRange.new ..) (small_one h1 h2 h3 h4) ?_
  have I1 : Inv X pins σ H { s with heap := s.heap.push { cls := .type "range", data := .fields #[.int lo t, .int hi u, .int 1 v] }, toks := tk } := I.kept fun b o e => Heap.get?_push_of_some _ e
  refine ⟨(s.heap.push { cls := .type "range", data := .fields #[.int lo t, .int hi u, .int 1 v] }).objs.size, [(s.heap.push { cls := .type "range", data := .fields #[.int lo t, .int hi u, .int 1 v] }).objs.size], _, _, H, rfl,
    I1.kept (t' := tk) fun b o e => Heap.get?_push_of_some _ e, turn_range _ lo (hi - lo).toNat, ?_, fun b hb => ?_, q⟩
  · have e1 : lo + ((0 : Nat) : Int) * 1 = lo := by simp
    have e2 : (((hi - lo).toNat : Nat) : Int) - ((0 : Nat) : Int) = Builtin.Range.rangeSize lo hi 1 := by rw [rangeSize_one]; split <;> omega
    show IsRangeIter _ _ (lo + ((0 : Nat) : Int) * 1) ((((hi - lo).toNat : Nat) : Int) - ((0 : Nat) : Int)) 1
    rw [e1, e2]
    exact Heap.get?_push_size _ rfl
  · have e : b = (s.heap.push { cls := .type "range", data := .fields #[.int lo t, .int hi u, .int 1 v] }).objs.size := by simpa using hb
    subst e
    exact I1.fpOk (Nat.le_refl _) (I1.hok.fresh (Nat.le_refl _))
def iRng1 (ta : TA) : TI := fun σ H R => ta σ H fun vs H1 => ∃ j : Int, vs = [.int j] ∧ -(2 ^ 62) ≤ j ∧ j < 2 ^ 62 ∧ R (Itr 0 j.toNat) H1
def iRng2 (ta : TA) : TI := fun σ H R => ta σ H fun vs H1 => ∃ i j : Int, vs = [.int i, .int j] ∧ (-(2 ^ 62) ≤ i ∧ i < 2 ^ 62 ∧ -(2 ^ 62) ≤ j ∧ j < 2 ^ 62) ∧ R (Itr i (j - i).toNat) H1
theorem pi_range1 {a : Expr} {ta : TA} {p pos : Pos} (hg : Gl X "range") (hm : X.mg "range" = none) (ha : PA X [a] ta) (hs : starEach [a] X.env = [(false, eval a X.env)] := by rfl) : PI X tg (.Call (.Name "range" p) [a] [] pos) (iRng1 ta) := by
  intro pins s σ H R I h
  refine Call_ (ld_blt I hg hm boot_range (PyProof.Rows.callWith_type1 (thn (ha pos pins s σ H _ I h) fun us s1 ⟨vs, H1, I1, r1, q1⟩ => ?_) hs rfl))
  obtain ⟨j, e, q1, q2, q⟩ := q1
  subst e
  cases r1 with
  | cons r rr =>
    cases rr
    obtain ⟨t, rfl⟩ := r
    exact call_range_1 (range_it I1 (by omega) (by omega) q1 q2 (by simpa using q))
def tFor (wi : TI) (g : TG) (tb : TS) : TS := fun D σ H => wi σ H fun J H1 => ∃ W : Nat → Nat → St → Hp → Prop, (∃ m, W 0 m σ H1) ∧ ∀ i m σ H, W i m σ H →
  (J.stop i H ∧ D.nx σ H) ∨ (J.go i H ∧ ∃ N : St → Hp → Prop, (∀ σ' H', N σ' H' → ∃ m', m' < m ∧ W (i + 1) m' σ' H') ∧ ∀ x H', J.yld i H x H' → g x σ H' fun σ2 H2 => tb { D with nx := N, ct := N, bk := D.nx } σ2 H2)
def pinsAt (fp : List Addr) (h : Heap) : List (Addr × Obj) := fp.filterMap fun b => (h.get? b).map fun o => (b, o)
theorem mem_pinsAt {fp : List Addr} {h : Heap} {b : Addr} {o : Obj} (hb : b ∈ fp) (e : h.get? b = some o) : (b, o) ∈ pinsAt fp h := List.mem_filterMap.mpr ⟨b, hb, by rw [e]; rfl⟩
theorem of_pinsAt {fp : List Addr} {h : Heap} {p : Addr × Obj} (hp : p ∈ pinsAt fp h) : p.1 ∈ fp ∧ h.get? p.1 = some p.2 := by
  obtain ⟨b, hb, e⟩ := List.mem_filterMap.mp hp
  cases q : h.get? b with
  | none => rw [q] at e; cases e
  | some o =>
    rw [q] at e
    have e' : (b, o) = p := Option.some.inj e
    subst e'
    exact ⟨hb, q⟩
theorem Inv.pinned {pins : List (Addr × Obj)} {σ : St} {H : Hp} {s : Shared} {fp : List Addr} (I : Inv X pins σ H s) (hf : ∀ b ∈ fp, FpOk X pins H b) (ho : ∀ b ∈ fp, ∃ o, s.heap.get? b = some o ∧ ∀ v, o.data ≠ .cell v) : Inv X (pins ++ pinsAt fp s.heap) σ H s :=
  I.pins_of fun p hp => (List.mem_append.mp hp).elim (fun z => I.pin p (List.mem_append_right _ z)) fun z => by
    obtain ⟨hb, e⟩ := of_pinsAt z
    obtain ⟨f0, f1, f2, _⟩ := hf p.1 hb
    obtain ⟨o, e', d⟩ := ho p.1 hb
    rw [e] at e'; cases e'
    exact ⟨e, f0, f1, f2, d⟩
theorem Inv.unpinned {pins pl : List (Addr × Obj)} {σ : St} {H : Hp} {s : Shared} (I : Inv X (pins ++ pl) σ H s) : Inv X pins σ H s := I.pins_of fun p hp => I.pin p (List.mem_append_right _ (List.mem_append_left _ hp))
theorem ps_for {iter : Expr} {body : List Stmt} {wi : TI} {g : TG} {tb : TS} {pos : Pos} (hp : PassesOwn (model X.prog X.w) X.A X.env X.xe) (hc : X.calm = true) (hi : PI X tg iter wi) (hg : PG X tg g) (hb : PSs X body tb)
    (hs : ∀ x, foldedSetIterable iter X.env x = pure x := by intro _; rfl) : PS X (.For tg iter body [] pos) (tFor wi g tb) := by
  intro pins s σ H D I h
  refine wpAny_For (thn (hi pins s σ H _ I h) fun v s1 h1 => thn h1 fun itv s2 h2 => ?_) hs
  obtain ⟨it, fp, tn, J, H2, e, I2, T, st2, f2, W, ⟨m0, w0⟩, turn⟩ := h2
  subst e
  -- what stays true of the iterator's objects through the loop
  have stat : ∀ {H' : Hp}, (∀ b ∈ fp, H' b = none) → ∀ b ∈ fp, FpOk X pins H' b := fun hn b hb => ⟨hn b hb, (f2 b hb).2⟩
  refine codeAny_forLoop_any (fun n s' => ∃ i σ' H', Inv X pins σ' H' s' ∧ tn i s'.heap ∧ (∀ b ∈ fp, H' b = none) ∧ W i n σ' H') ?_ m0 ⟨0, σ, H2, I2, st2, fun b hb => (f2 b hb).1, w0⟩
  rintro n s3 ⟨i, σ3, H3, I3, st3, fr3, w3⟩
  rcases turn i n σ3 H3 w3 with ⟨stop, qn⟩ | ⟨go, N, hN, step⟩
  · refine wpAny_passesOwn hp (thn (T.done X rfl rfl rfl hc i pins s3 σ3 H3 X.xe I3 (stat fr3) st3 stop) fun r s4 ⟨hr, I4⟩ => ?_)
    subst hr
    exact wpAny_execs_nil ⟨σ3, H3, I4, qn⟩
  · refine wpAny_passesOwn hp (thn (T.item X rfl rfl rfl hc i pins s3 σ3 H3 X.xe I3 (stat fr3) st3 go) fun r s4 ⟨u, hr, h4⟩ => ?_)
    subst hr
    refine wpAny_passesOwn hp (thn h4 fun _ s5 ⟨x, H5, I5, r5, y5, st5, fr5⟩ => ?_)
    have I5' := I5.pinned (stat fr5) (T.obj _ _ st5)
    refine wpAny_passesOwn hp (thn (hg _ s5 σ3 H5 x u _ I5' r5 (step x H5 y5)) fun _ s6 ⟨σ6, H6, I6, q6⟩ => ?_)
    refine wpAny_passesOwn hp (thn (hb _ s6 σ6 H6 _ I6 q6) fun f s7 q7 => ?_)
    have again : ∀ {σ7 : St} {H7 : Hp}, Inv X (pins ++ pinsAt fp s5.heap) σ7 H7 s7 → N σ7 H7 → ∃ m, m < n ∧ ∃ i σ' H', Inv X pins σ' H' s7 ∧ tn i s7.heap ∧ (∀ b ∈ fp, H' b = none) ∧ W i m σ' H' := fun {σ7 H7} I7 n7 => by
      obtain ⟨m', hm, w7⟩ := hN σ7 H7 n7
      refine ⟨m', hm, i + 1, σ7, H7, I7.unpinned, T.keep _ _ _ st5 fun b hb o e => (I7.pin (b, o) (List.mem_append_right _ (List.mem_append_right _ (mem_pinsAt hb e)))).1, fun b hb => ?_, w7⟩
      obtain ⟨o, e, d⟩ := T.obj _ _ st5 b hb
      exact (I7.pin (b, o) (List.mem_append_right _ (List.mem_append_right _ (mem_pinsAt hb e)))).2.1
    cases f with
    | next => obtain ⟨σ7, H7, I7, n7⟩ := q7; exact again I7 n7
    | cont => obtain ⟨σ7, H7, I7, n7⟩ := q7; exact again I7 n7
    | brk => obtain ⟨σ7, H7, I7, q7⟩ := q7; exact ⟨σ7, H7, I7.unpinned, q7⟩
    | ret v => obtain ⟨x7, σ7, H7, I7, r7, q7⟩ := q7; exact ⟨x7, σ7, H7, I7.unpinned, r7, q7⟩
end
theorem for_list {K : PySem.W.Frag} {a : Addr} {xs : List V} {g : TG} {tb : TS} {D : Ends} {σ : St} {H : Hp} (Pv : Nat → St → Hp → Prop) (h0 : Pv 0 σ H) (hl : ∀ i σ H, i ≤ xs.length → Pv i σ H → SqL K H a xs)
    (hs : ∀ i x σ H, xs[i]? = some x → Pv i σ H → g x σ H fun σ2 H2 => tb { D with nx := Pv (i + 1), ct := Pv (i + 1), bk := D.nx } σ2 H2) (hd : ∀ σ H, Pv xs.length σ H → D.nx σ H) :
    ∃ W : Nat → Nat → St → Hp → Prop, (∃ m, W 0 m σ H) ∧ ∀ i m σ H, W i m σ H →
      ((Itl K a).stop i H ∧ D.nx σ H) ∨ ((Itl K a).go i H ∧ ∃ N : St → Hp → Prop, (∀ σ' H', N σ' H' → ∃ m', m' < m ∧ W (i + 1) m' σ' H') ∧ ∀ x H', (Itl K a).yld i H x H' → g x σ H' fun σ2 H2 => tb { D with nx := N, ct := N, bk := D.nx } σ2 H2) := by
  refine ⟨fun i m σ H => m = xs.length - i ∧ i ≤ xs.length ∧ Pv i σ H, ⟨xs.length, by simp, Nat.zero_le _, h0⟩, ?_⟩
  rintro i m σ H ⟨rfl, hi, p⟩
  have q := hl i σ H hi p
  by_cases hlt : i < xs.length
  · refine .inr ⟨⟨xs, xs[i], q, by simp [hlt]⟩, Pv (i + 1), fun σ' H' p' => ⟨xs.length - (i + 1), by omega, rfl, hlt, p'⟩, fun x H' y => ?_⟩
    obtain ⟨e, y⟩ := y
    subst e
    exact hs i x σ _ (y xs q) p
  · have e : i = xs.length := by omega
    subst e
    exact .inl ⟨⟨xs, q, Nat.le_refl _⟩, hd σ H p⟩
theorem for_range {lo : Int} {n : Nat} {g : TG} {tb : TS} {D : Ends} {σ : St} {H : Hp} (Pv : Nat → St → Hp → Prop) (h0 : Pv 0 σ H)
    (hs : ∀ i σ H, i < n → Pv i σ H → g (.int (lo + i)) σ H fun σ2 H2 => tb { D with nx := Pv (i + 1), ct := Pv (i + 1), bk := D.nx } σ2 H2) (hd : ∀ σ H, Pv n σ H → D.nx σ H) :
    ∃ W : Nat → Nat → St → Hp → Prop, (∃ m, W 0 m σ H) ∧ ∀ i m σ H, W i m σ H →
      ((Itr lo n).stop i H ∧ D.nx σ H) ∨ ((Itr lo n).go i H ∧ ∃ N : St → Hp → Prop, (∀ σ' H', N σ' H' → ∃ m', m' < m ∧ W (i + 1) m' σ' H') ∧ ∀ x H', (Itr lo n).yld i H x H' → g x σ H' fun σ2 H2 => tb { D with nx := N, ct := N, bk := D.nx } σ2 H2) := by
  refine ⟨fun i m σ H => m = n - i ∧ i ≤ n ∧ Pv i σ H, ⟨n, by simp, Nat.zero_le _, h0⟩, ?_⟩
  rintro i m σ H ⟨rfl, hi, p⟩
  by_cases hlt : i < n
  · refine .inr ⟨hlt, Pv (i + 1), fun σ' H' p' => ⟨n - (i + 1), by omega, rfl, hlt, p'⟩, fun x H' y => ?_⟩
    obtain ⟨e, y⟩ := y
    subst e y
    exact hs i σ _ hlt p
  · have e : i = n := by omega
    subst e
    exact .inl ⟨Nat.le_refl _, hd σ H p⟩
end L2
namespace L2
open PySem PySem.Spec PyProof.Rows
abbrev R2 := V → V → Hp → VK → Prop
def OpR (X : Cx) (f : Value → Value → Sem Value) (r : R2) : Prop :=
  ∀ (pins : List (Addr × Obj)) (s : Shared) (σ : St) (H : Hp) (x y : V) (v u : Value) (Q : VK), Inv X pins σ H s → RelV x v → RelV y u → r x y H Q →
    wpAny (model X.prog X.w) X.A (f v u) (EP X pins σ Q) X.xe s
def UnR (X : Cx) (f : Value → Sem Value) (r : V → Hp → VK → Prop) : Prop :=
  ∀ (pins : List (Addr × Obj)) (s : Shared) (σ : St) (H : Hp) (x : V) (v : Value) (Q : VK), Inv X pins σ H s → RelV x v → r x H Q →
    wpAny (model X.prog X.w) X.A (f v) (EP X pins σ Q) X.xe s
def CallR (X : Cx) (f : Value) (r : List V → Hp → VK → Prop) : Prop :=
  ∀ (pins : List (Addr × Obj)) (s : Shared) (σ : St) (H : Hp) (xs : List V) (us : List Value) (Q : VK), Inv X pins σ H s → Vals xs us → r xs H Q →
    wpAny (model X.prog X.w) X.A (call f us) (EP X pins σ Q) X.xe s
def tOp (r : R2) (ta tb : TE) : TE := fun σ H Q => ta σ H fun x H1 => tb σ H1 fun y H2 => r x y H2 Q
def tUn (r : V → Hp → VK → Prop) (ta : TE) : TE := fun σ H Q => ta σ H fun x H1 => r x H1 Q
def rI (C : Int → Int → Prop) (g : Int → Int → V) : R2 := fun x y H Q => ∃ i j, x = .int i ∧ y = .int j ∧ C i j ∧ Q (g i j) H
def rI0 (g : Int → Int → V) : R2 := fun x y H Q => ∃ i j, x = .int i ∧ y = .int j ∧ Q (g i j) H
def rU (g : Int → V) : V → Hp → VK → Prop := fun x H Q => ∃ i, x = .int i ∧ Q (g i) H
section
variable {X : Cx} {a b c : Expr} {ta tb tc : TE} {pos : Pos}
theorem binT (ha : PE X a ta) (hb : PE X b tb) {pins : List (Addr × Obj)} {s : Shared} {σ : St} {H : Hp} {R : V → V → Hp → Prop} (I : Inv X pins σ H s)
    (h : ta σ H fun x H1 => tb σ H1 fun y H2 => R x y H2) {Q : Value → Shared → Prop} {f : Value → Value → Sem Value}
    (hf : ∀ v u s2 x y H2, Inv X pins σ H2 s2 → RelV x v → RelV y u → R x y H2 → wpAny (model X.prog X.w) X.A (f v u) Q X.xe s2) :
    wpAny (model X.prog X.w) X.A (eval a X.env) (fun v s₁ => wpAny (model X.prog X.w) X.A (eval b X.env) (fun u s₂ => wpAny (model X.prog X.w) X.A (f v u) Q X.xe s₂) X.xe s₁) X.xe s := by
  refine thn (ha pins s σ H _ I h) fun v s1 ⟨x, H1, I1, r1, q1⟩ => ?_
  refine thn (hb pins s1 σ H1 _ I1 q1) fun u s2 ⟨y, H2, I2, r2, q2⟩ => ?_
  exact hf v u s2 x y H2 I2 r1 r2 q2
theorem pe_op {op : Operator} {r : R2} (ho : OpR X (binaryOp op) r) (ha : PE X a ta) (hb : PE X b tb) : PE X (.BinOp a op b pos) (tOp r ta tb) := by
  intro pins s σ H Q I h
  exact wpAny_BinOp (binT ha hb I h fun v u s2 x y H2 I2 rx ry q => ho pins s2 σ H2 x y v u Q I2 rx ry q)
theorem pe_un {op : UnaryOp} {r : V → Hp → VK → Prop} (ho : UnR X (unaryOp op) r) (ha : PE X a ta) : PE X (.UnaryOp op a pos) (tUn r ta) := by
  intro pins s σ H Q I h
  exact UnaryOp_ (thn (ha pins s σ H _ I h) fun v s1 ⟨x, H1, I1, r1, q1⟩ => ho pins s1 σ H1 x v Q I1 r1 q1)
theorem opI {f : Value → Value → Sem Value} {C : Int → Int → Prop} {g : Int → Int → Int}
    (rule : ∀ (i j : Int) (t u : Tok) (s : Shared) (Q : Value → Shared → Prop) (E : Value → Shared → Prop), C i j → Q (.int (g i j) s.toks) { s with toks := s.toks + 1 } → wpAny (model X.prog X.w) X.A (f (.int i t) (.int j u)) Q E s) :
    OpR X f (rI C fun i j => .int (g i j)) := by
  intro pins s σ H x y v u Q I rx ry h
  obtain ⟨i, j, rfl, rfl, hc, q⟩ := h
  obtain ⟨t, rfl⟩ := rx
  obtain ⟨t', rfl⟩ := ry
  exact rule i j t t' s _ _ hc ⟨.int (g i j), H, I.tok _, ⟨_, rfl⟩, q⟩
theorem opI0 {f : Value → Value → Sem Value} {g : Int → Int → Int}
    (rule : ∀ (i j : Int) (t u : Tok) (s : Shared) (Q : Value → Shared → Prop) (E : Value → Shared → Prop), Q (.int (g i j) s.toks) { s with toks := s.toks + 1 } → wpAny (model X.prog X.w) X.A (f (.int i t) (.int j u)) Q E s) :
    OpR X f (rI0 fun i j => .int (g i j)) := by
  intro pins s σ H x y v u Q I rx ry h
  obtain ⟨i, j, rfl, rfl, q⟩ := h
  obtain ⟨t, rfl⟩ := rx
  obtain ⟨t', rfl⟩ := ry
  exact rule i j t t' s _ _ ⟨.int (g i j), H, I.tok _, ⟨_, rfl⟩, q⟩
theorem opB0 {f : Value → Value → Sem Value} {g : Int → Int → Bool}
    (rule : ∀ (i j : Int) (t u : Tok) (s : Shared) (Q : Value → Shared → Prop) (E : Value → Shared → Prop), Q (.bool (g i j)) s → wpAny (model X.prog X.w) X.A (f (.int i t) (.int j u)) Q E s) :
    OpR X f (rI0 fun i j => .bl (g i j)) := by
  intro pins s σ H x y v u Q I rx ry h
  obtain ⟨i, j, rfl, rfl, q⟩ := h
  obtain ⟨t, rfl⟩ := rx
  obtain ⟨t', rfl⟩ := ry
  exact rule i j t t' s _ _ ⟨.bl (g i j), H, I, rfl, q⟩
def CDiv (i j : Int) : Prop := 0 < j ∧ j < 1073741824
def CPow (i j : Int) : Prop := 0 ≤ j ∧ j ≤ 1000000 ∧ i.natAbs < 2 ^ 64
def CMul (i j : Int) : Prop := (-(2 ^ 64) < i ∧ i < 2 ^ 64) ∨ (-(2 ^ 64) < j ∧ j < 2 ^ 64)
theorem CMul.ok {i j : Int} (h : CMul i j) : IntMulOk i j := by
  rcases h with ⟨h1, h2⟩ | ⟨h1, h2⟩
  · exact .of_left (intBits_le_64 h1 h2)
  · exact .of_right (intBits_le_64 h1 h2)
theorem op_add : OpR X (binaryOp .Add) (rI0 fun i j => .int (i + j)) := opI0 fun _ _ _ _ _ _ _ q => add_int q
theorem op_sub : OpR X (binaryOp .Sub) (rI0 fun i j => .int (i - j)) := opI0 fun _ _ _ _ _ _ _ q => sub_int q
theorem op_mul : OpR X (binaryOp .Mult) (rI CMul fun i j => .int (i * j)) := opI fun _ _ _ _ _ _ _ hc q => mul_int q hc.ok
theorem op_fdiv : OpR X (binaryOp .FloorDiv) (rI CDiv fun i j => .int (i / j)) := opI fun i j _ _ _ _ _ hc q => by
  have h1 : (0 : Int) < j := hc.1
  have h2 : j < 1073741824 := hc.2
  exact floordiv_int (by omega) (by rw [Int.fdiv_eq_ediv_of_nonneg i (by omega)]; exact q) (.inl (PyProof.noPylong_small (by omega)))
theorem op_mod : OpR X (binaryOp .Mod) (rI (fun _ j => 0 < j) fun i j => .int (i % j)) := opI fun i j _ _ _ _ _ hc q => by
  have h1 : (0 : Int) < j := hc
  exact mod_int' (by omega) (by rw [Int.fmod_eq_emod_of_nonneg i (by omega)]; exact q)
theorem op_pow : OpR X (binaryOp .Pow) (rI CPow fun i j => .int (i ^ j.toNat)) := opI fun _ _ _ _ _ _ _ hc q => pow_int_small hc.1 hc.2.1 hc.2.2 q
theorem unI {f : Value → Sem Value} {g : Int → Int}
    (rule : ∀ (i : Int) (t : Tok) (s : Shared) (Q : Value → Shared → Prop) (E : Value → Shared → Prop), Q (.int (g i) s.toks) { s with toks := s.toks + 1 } → wpAny (model X.prog X.w) X.A (f (.int i t)) Q E s) :
    UnR X f (rU fun i => .int (g i)) := by
  intro pins s σ H x v Q I rx h
  obtain ⟨i, rfl, q⟩ := h
  obtain ⟨t, rfl⟩ := rx
  exact rule i t s _ _ ⟨.int (g i), H, I.tok _, ⟨_, rfl⟩, q⟩
theorem un_neg : UnR X (unaryOp .USub) (rU fun i => .int (-i)) := unI fun _ _ _ _ _ q => neg_int q
end
def scal : V → V → Bool
  | .non, .non => true | .non, .int _ => true | .int _, .non => true | .non, .bl _ => true | .bl _, .non => true | .non, .str _ => true | .str _, .non => true
  | .int _, .int _ => true | .bl _, .bl _ => true | .str _, .str _ => true | .byt _, .byt _ => true
  | .int _, .str _ => true | .str _, .int _ => true | .bl _, .str _ => true | .str _, .bl _ => true
  | _, _ => false
def rEq : R2 := fun x y H Q => scal x y = true ∧ Q (.bl (decide (x = y))) H
def rNe : R2 := fun x y H Q => scal x y = true ∧ Q (.bl (!decide (x = y))) H
theorem dec_int {i j : Int} : decide (V.int i = V.int j) = (i == j) := by
  rw [Bool.eq_iff_iff]
  simp
theorem dec_bl {i j : Bool} : decide (V.bl i = V.bl j) = (i == j) := by
  rw [Bool.eq_iff_iff]
  simp
theorem dec_str {i j : Str} : decide (V.str i = V.str j) = (i == j) := by
  rw [Bool.eq_iff_iff]
  simp
theorem dec_byt {i j : Array UInt8} : decide (V.byt i = V.byt j) = (i.toList == j.toList) := by
  rw [Bool.eq_iff_iff]
  cases i
  cases j
  simp
section
variable {X : Cx} {a b c : Expr} {ta tb tc : TE} {pos : Pos}
theorem fin_bl {pins : List (Addr × Obj)} {σ : St} {H : Hp} {s : Shared} {Q : VK} {k k' : Bool} (I : Inv X pins σ H s) (q : Q (.bl k) H) (e : k = k') : EP X pins σ Q (.bool k') s := by
  subst e
  exact ⟨.bl k, H, I, rfl, q⟩
theorem op_eq : OpR X (compareOp .Eq) rEq := by
  intro pins s σ H x y v u Q I rx ry h
  obtain ⟨hs, q⟩ := h
  cases x with
  | non =>
    cases rx
    cases y with
    | non => cases ry; exact PySem.EqNone.eq_none_none (fin_bl I q (by simp))
    | bl j => cases ry; exact PySem.EqNone.eq_none_bool (fin_bl I q (by simp))
    | int j => obtain ⟨t', rfl⟩ := ry; exact PySem.EqNone.eq_none_int (fin_bl I q (by simp))
    | str j => obtain ⟨t', rfl⟩ := ry; exact PySem.EqNone.eq_none_str (fin_bl I q (by simp))
    | _ => exact absurd (show false = true from hs) Bool.false_ne_true
  | bl i =>
    cases rx
    cases y with
    | non => cases ry; exact PySem.EqNone.eq_bool_none (fin_bl I q (by simp))
    | bl j => cases ry; exact eq_bool (fin_bl I q dec_bl)
    | str j => obtain ⟨t', rfl⟩ := ry; exact PySem.EqMixed.eq_bool_str (fin_bl I q (by simp))
    | _ => exact absurd (show false = true from hs) Bool.false_ne_true
  | int i =>
    obtain ⟨t, rfl⟩ := rx
    cases y with
    | non => cases ry; exact PySem.EqNone.eq_int_none (fin_bl I q (by simp))
    | int j => obtain ⟨t', rfl⟩ := ry; exact eq_int (fin_bl I q dec_int)
    | str j => obtain ⟨t', rfl⟩ := ry; exact PySem.EqMixed.eq_int_str (fin_bl I q (by simp))
    | _ => exact absurd (show false = true from hs) Bool.false_ne_true
  | str i =>
    obtain ⟨t, rfl⟩ := rx
    cases y with
    | non => cases ry; exact PySem.EqNone.eq_str_none (fin_bl I q (by simp))
    | bl j => cases ry; exact PySem.EqMixed.eq_str_bool (fin_bl I q (by simp))
    | int j => obtain ⟨t', rfl⟩ := ry; exact PySem.EqMixed.eq_str_int (fin_bl I q (by simp))
    | str j => obtain ⟨t', rfl⟩ := ry; exact eq_str (fin_bl I q dec_str)
    | _ => exact absurd (show false = true from hs) Bool.false_ne_true
  | byt i =>
    obtain ⟨t, rfl⟩ := rx
    cases y with
    | byt j => obtain ⟨t', rfl⟩ := ry; exact PySem.W.eq_bytes (fin_bl I q dec_byt)
    | _ => exact absurd (show false = true from hs) Bool.false_ne_true
  | _ => cases y <;> exact absurd (show false = true from hs) Bool.false_ne_true
theorem op_ne : OpR X (compareOp .NotEq) rNe := by
  intro pins s σ H x y v u Q I rx ry h
  obtain ⟨hs, q⟩ := h
  cases x with
  | non =>
    cases rx
    cases y with
    | non => cases ry; exact PySem.EqNone.ne_none_none (fin_bl I q (by simp))
    | bl j => cases ry; exact PySem.EqNone.ne_none_bool (fin_bl I q (by simp))
    | int j => obtain ⟨t', rfl⟩ := ry; exact PySem.EqNone.ne_none_int (fin_bl I q (by simp))
    | str j => obtain ⟨t', rfl⟩ := ry; exact PySem.EqNone.ne_none_str (fin_bl I q (by simp))
    | _ => exact absurd (show false = true from hs) Bool.false_ne_true
  | bl i =>
    cases rx
    cases y with
    | non => cases ry; exact PySem.EqNone.ne_bool_none (fin_bl I q (by simp))
    | bl j => cases ry; exact ne_bool (fin_bl I q (congrArg not dec_bl))
    | str j => obtain ⟨t', rfl⟩ := ry; exact PySem.EqMixed.ne_bool_str (fin_bl I q (by simp))
    | _ => exact absurd (show false = true from hs) Bool.false_ne_true
  | int i =>
    obtain ⟨t, rfl⟩ := rx
    cases y with
    | non => cases ry; exact PySem.EqNone.ne_int_none (fin_bl I q (by simp))
    | int j => obtain ⟨t', rfl⟩ := ry; exact ne_int (fin_bl I q (congrArg not dec_int))
    | str j => obtain ⟨t', rfl⟩ := ry; exact PySem.EqMixed.ne_int_str (fin_bl I q (by simp))
    | _ => exact absurd (show false = true from hs) Bool.false_ne_true
  | str i =>
    obtain ⟨t, rfl⟩ := rx
    cases y with
    | non => cases ry; exact PySem.EqNone.ne_str_none (fin_bl I q (by simp))
    | bl j => cases ry; exact PySem.EqMixed.ne_str_bool (fin_bl I q (by simp))
    | int j => obtain ⟨t', rfl⟩ := ry; exact PySem.EqMixed.ne_str_int (fin_bl I q (by simp))
    | str j => obtain ⟨t', rfl⟩ := ry; exact ne_str (fin_bl I q (congrArg not dec_str))
    | _ => exact absurd (show false = true from hs) Bool.false_ne_true
  | byt i =>
    obtain ⟨t, rfl⟩ := rx
    cases y with
    | byt j => obtain ⟨t', rfl⟩ := ry; exact PySem.W.ne_bytes (fin_bl I q (congrArg not dec_byt))
    | _ => exact absurd (show false = true from hs) Bool.false_ne_true
  | _ => cases y <;> exact absurd (show false = true from hs) Bool.false_ne_true
theorem op_lt : OpR X (compareOp .Lt) (rI0 fun i j => .bl (decide (i < j))) := opB0 fun _ _ _ _ _ _ _ q => lt_int q
theorem op_le : OpR X (compareOp .LtE) (rI0 fun i j => .bl (decide (i ≤ j))) := opB0 fun _ _ _ _ _ _ _ q => le_int q
theorem op_gt : OpR X (compareOp .Gt) (rI0 fun i j => .bl (decide (j < i))) := opB0 fun _ _ _ _ _ _ _ q => gt_int q
theorem op_ge : OpR X (compareOp .GtE) (rI0 fun i j => .bl (decide (j ≤ i))) := opB0 fun _ _ _ _ _ _ _ q => ge_int q
theorem OpR.or {f : Value → Value → Sem Value} {r r' : R2} (h : OpR X f r) (h' : OpR X f r') : OpR X f (fun x y H Q => r x y H Q ∨ r' x y H Q) := by
  intro pins s σ H x y v u Q I rx ry q
  rcases q with q | q
  · exact h pins s σ H x y v u Q I rx ry q
  · exact h' pins s σ H x y v u Q I rx ry q
theorem nomark (b : Expr) {op : CmpOp} (h : op ≠ .In := by decide) (h2 : op ≠ .NotIn := by decide) : behindInMarks op b = false := by
  have e1 : (op == CmpOp.In) = false := by cases op <;> first | rfl | exact absurd rfl h
  have e2 : (op == CmpOp.NotIn) = false := by cases op <;> first | rfl | exact absurd rfl h2
  cases b <;> simp [behindInMarks, e1, e2]
theorem pe_cmpR {op : CmpOp} {r : R2} (ho : OpR X (compareOp op) r) (ha : PE X a ta) (hb : PE X b tb) (hm : behindInMarks op b = false) : PE X (.Compare a [op] [b] pos) (tOp r ta tb) := by
  intro pins s σ H Q I h
  exact wpAny_Compare1 (binT ha hb I h fun v u s2 x y H2 I2 rx ry q => ho pins s2 σ H2 x y v u Q I2 rx ry q) hm
def tTest (t : TE) : TT := fun σ H Q => t σ H fun x H' => ∃ k, x = .bl k ∧ Q k H'
theorem pt_cmpR {op : CmpOp} {r : R2} (ho : OpR X (compareOp op) r) (ha : PE X a ta) (hb : PE X b tb) (hm : behindInMarks op b = false) : PT X (.Compare a [op] [b] pos) (tTest (tOp r ta tb)) := by
  intro pins s σ H Q I h
  refine wpAny_isTrue_Compare1 (thn (ha pins s σ H _ I h) fun v s1 ⟨x, H1, I1, r1, q1⟩ => thn (hb pins s1 σ H1 _ I1 q1) fun u s2 ⟨y, H2, I2, r2, q2⟩ =>
    thn (ho pins s2 σ H2 x y v u _ I2 r1 r2 q2) fun c s3 ⟨z, H3, I3, r3, k, e, q3⟩ => ?_) hm
  subst e
  cases r3
  exact wpAny_truthy_bool ⟨H3, I3, q3⟩
def tChain (r r' : R2) (ta tb tc : TE) : TE := fun σ H Q => ta σ H fun x H1 => tb σ H1 fun y H2 => r x y H2 fun z H3 => ∃ k, z = .bl k ∧
  (if k = true then tc σ H3 fun w' H4 => r' y w' H4 Q else Q (.bl false) H3)
theorem pe_chain {op op' : CmpOp} {r r' : R2} (ho : OpR X (compareOp op) r) (ho' : OpR X (compareOp op') r') (ha : PE X a ta) (hb : PE X b tb) (hc : PE X c tc)
    (hm : lastMarks [op, op'] [b, c] = false := by with_unfolding_all rfl) : PE X (.Compare a [op, op'] [b, c] pos) (tChain r r' ta tb tc) := by
  intro pins s σ H Q I h
  refine Compare_chain (thn (ha pins s σ H _ I h) fun v s1 ⟨x, H1, I1, r1, q1⟩ => chain_link (thn (hb pins s1 σ H1 _ I1 q1) fun u s2 ⟨y, H2, I2, r2, q2⟩ =>
    thn (ho pins s2 σ H2 x y v u _ I2 r1 r2 q2) fun d s3 ⟨z, H3, I3, r3, k, e, q3⟩ => ?_)) hm
  subst e
  cases r3
  refine wpAny_truthy_bool ?_
  cases k with
  | false => exact ite_ff ⟨.bl false, H3, I3, rfl, q3⟩
  | true => exact ite_tt (chain_last (thn (hc pins s3 σ H3 _ I3 q3) fun w' s4 ⟨z', H4, I4, r4, q4⟩ => ho' pins s4 σ H4 y z' u w' Q I4 r2 r4 q4))
theorem pt_chain {op op' : CmpOp} {r r' : R2} (ho : OpR X (compareOp op) r) (ho' : OpR X (compareOp op') r') (ha : PE X a ta) (hb : PE X b tb) (hc : PE X c tc)
    (hm : lastMarks [op, op'] [b, c] = false := by with_unfolding_all rfl) : PT X (.Compare a [op, op'] [b, c] pos) (tTest (tChain r r' ta tb tc)) := by
  intro pins s σ H Q I h
  refine isTrue_chain (thn (ha pins s σ H _ I h) fun v s1 ⟨x, H1, I1, r1, q1⟩ => test_link (thn (hb pins s1 σ H1 _ I1 q1) fun u s2 ⟨y, H2, I2, r2, q2⟩ =>
    thn (ho pins s2 σ H2 x y v u _ I2 r1 r2 q2) fun d s3 ⟨z, H3, I3, r3, k, e, q3⟩ => ?_)) hm
  subst e
  cases r3
  refine wpAny_truthy_bool ?_
  cases k with
  | false =>
    obtain ⟨k', e', q'⟩ := q3
    cases e'
    exact ite_ff ⟨H3, I3, q'⟩
  | true =>
    refine ite_tt (test_last (thn (hc pins s3 σ H3 _ I3 q3) fun w' s4 ⟨z', H4, I4, r4, q4⟩ => thn (ho' pins s4 σ H4 y z' u w' _ I4 r2 r4 q4) fun d' s5 ⟨z2, H5, I5, r5, k2, e2, q5⟩ => ?_))
    subst e2
    cases r5
    exact wpAny_truthy_bool ⟨H5, I5, q5⟩
theorem line63 : (sizeLine : Nat) < 2 ^ 63 := by rw [sizeLine_eq]; decide
theorem vals1 {x : V} {us : List Value} (r : Vals [x] us) : ∃ u, us = [u] ∧ RelV x u := by
  cases r with
  | cons r1 r2 => cases r2; exact ⟨_, rfl, r1⟩
theorem vals2 {x y : V} {us : List Value} (r : Vals [x, y] us) : ∃ u w', us = [u, w'] ∧ RelV x u ∧ RelV y w' := by
  cases r with
  | cons r1 r2 =>
    cases r2 with
    | cons r3 r4 => cases r4; exact ⟨_, _, rfl, r1, r3⟩
theorem call_min2 (hc : X.calm = true) : CallR X (.builtin "min") (fun xs H Q => ∃ i j, xs = [.int i, .int j] ∧ Q (.int (if j < i then j else i)) H) := by
  intro pins s σ H xs us Q I r h
  obtain ⟨i, j, rfl, q⟩ := h
  obtain ⟨u, w', rfl, ⟨t, rfl⟩, ⟨t', rfl⟩⟩ := vals2 r
  refine min_two_ints (I.ok.hd hc) fun h' tk k => ⟨_, H, I.kept k, ?_, q⟩
  by_cases hj : j < i
  · rw [if_pos hj, if_pos hj]; exact ⟨_, rfl⟩
  · rw [if_neg hj, if_neg hj]; exact ⟨_, rfl⟩
end
end L2
namespace L2
open PySem PySem.Spec PyProof.Rows
structure ObjM (h : Heap) (x dx C : Addr) (mA : Str → Option Value) : Prop where
  obj : h.get? x = some (PySem.W.instObj C dx)
  ns : h.Ns1 dx mA
  ne : dx ≠ x
theorem lookIn_ns {h : Heap} {dx : Addr} {mA : Str → Option Value} (n : h.Ns1 dx mA) : ∃ od, h.get? dx = some od ∧ ∀ name, PySem.W.lookIn name od = some (mA name) := by
  obtain ⟨o, es, ep, ho, hd, hk, _, hm⟩ := n
  refine ⟨o, ho, fun name => ?_⟩
  have e := hm name
  unfold nsFind findBy at e
  rw [← Array.find?_toList] at e
  unfold PySem.W.lookIn
  rw [hd]
  dsimp only
  split
  · rename_i y q
    rw [q] at e
    exact congrArg some e
  · rename_i q
    rw [q] at e
    have a : es.toList.any (·.refKey) = false := by
      rw [List.any_eq_false]
      intro y hy
      obtain ⟨z, t, hkey⟩ := hk y (Array.mem_toList_iff.mp hy)
      simp [DictEntry.refKey, hkey]
    have a' : ¬ es.toList.any (·.refKey) = true := by rw [a]; exact Bool.false_ne_true
    rw [if_neg a']
    exact congrArg some e
theorem ObjM.look {h : Heap} {x dx C : Addr} {mA : Str → Option Value} (I : ObjM h x dx C mA) : ∃ od, PySem.W.InstAt h x (PySem.W.instObj C dx) C (some od) ∧ ∀ name, PySem.W.lookIn name od = some (mA name) :=
  let ⟨od, ho, hl⟩ := lookIn_ns I.ns
  ⟨od, ⟨I.obj, rfl, rfl, ho⟩, hl⟩
section
variable {prog : Program} {w : World} {A : Around} {E : Value → Shared → Prop} {s : Shared} {K : PySem.W.Frag} {x dx C f : Addr} {mA : Str → Option Value} {name : Str} {v : Value}
end
theorem RelO.some_of {v : V} {o : Option Value} (r : RelO (some v) o) : ∃ u, o = some u ∧ RelV v u := by
  cases o with
  | none => exact (show False from r).elim
  | some u => exact ⟨u, rfl, r⟩
theorem RelO.none_of {o : Option Value} (r : RelO none o) : o = none := by
  cases o with
  | none => rfl
  | some u => exact (show False from r).elim
section
variable {P : Program} {w : World} {H H' : Hp} {h h' : Heap} {a C dx : Addr} {fs fs' : List (Str × V)}
theorem ins_get (hok : HOk P w H h) (e : H a = some (.ins C dx fs)) : ∃ mA, ObjM h a dx C mA ∧ (∀ f, RelO (fs.lookup f) (mA f)) ∧ PySem.Within mA (fs.map (·.1)) ∧ fs.length ≤ 1000 ∧ H dx = some (.own a) := by
  obtain ⟨d, z, ne, ob, mA, n, r, q⟩ := (show ObjOk P w H h a (.ins C dx fs) from hok a _ e)
  exact ⟨mA, ⟨ob, n, ne⟩, r, q, z, d⟩
end
structure Cls (K : PySem.W.Frag) (C : Addr) : Prop where
  pg : PySem.W.plainGet K C Str.empty = true
  hd : PySem.W.hasDictIn K C = true
  po : PySem.W.plainOver K C = true
  sa : PySem.W.findIn K (.ref C) "__setattr__" = some (some (.builtin "object.__setattr__"))
theorem Cls.get {K : PySem.W.Frag} {C : Addr} (c : Cls K C) (f : Str) : PySem.W.plainGet K C f = true := c.pg
section
variable {X : Cx} {pins : List (Addr × Obj)} {σ : St} {H : Hp} {s : Shared} {a C dx : Addr} {fs : List (Str × V)} {f : Str} {v : V} {A : Around} {E : Value → Shared → Prop}
end
section
variable {X : Cx} {o e value : Expr} {f : Str} {pos pos' tpos : Pos} {ta tv : TE}
end
section
variable {X : Cx} {pins : List (Addr × Obj)} {σ : St} {H : Hp} {s : Shared} {A : Around} {E : Value → Shared → Prop} {Q : Value → Shared → Prop} {c : Value} {b : Bool}
inductive TyOf (K : PySem.W.Frag) (H : Hp) : V → Value → Prop where
  | non : TyOf K H .non (.type "NoneType")
  | bl (x : Bool) : TyOf K H (.bl x) (.type "bool")
  | int (i : Int) : TyOf K H (.int i) (.type "int")
  | str (x : Str) : TyOf K H (.str x) (.type "str")
  | flt (x : UInt64) : TyOf K H (.flt x) (.type "float")
  | lst {a : Addr} {xs : List V} (e : H a = some (.lst xs)) : TyOf K H (.ref a) (.type "list")
  | frz {a : Addr} {o : Obj} {xs : List V} (e : H a = some (.frz o (.lst xs))) : TyOf K H (.ref a) (.type "list")
  | tup {a : Addr} {xs : List V} (e : H a = some (.tup xs)) : TyOf K H (.ref a) (.type "tuple")
  | dK {a : Addr} {kvs : List (Key × V)} (e : H a = some (.dK kvs)) : TyOf K H (.ref a) (.type "dict")
  | dT {a : Addr} {kvs : List (List Key × V)} (e : H a = some (.dT kvs)) : TyOf K H (.ref a) (.type "dict")
  | ins {a C dx : Addr} {fs : List (Str × V)} (e : H a = some (.ins C dx fs)) (cl : Cls K C) (ha : PySem.W.findIn K (.ref C) "__class__" = some (some (.builtin "object.__class__")))
      (hn : PySem.W.specialIn K (.builtin "object.__class__") "__get__" = some (some (.builtin "getset_descriptor.__get__"))) (htk : PySem.W.takesIn K (.builtin "object.__class__") = some true)
      (hm : PySem.W.mroIn K C (.type "object") = some true) : TyOf K H (.ref a) (.ref C)
theorem isinst_ok {x : V} {u t : Value} (I : Inv X pins σ H s) (rx : RelV x u) (ty : TyOf X.K H x t) (e : PySem.W.kitOne X.K t c = some b) (h : ∀ tk, Q (.bool b) { s with toks := tk }) :
    wpAny (model X.prog X.w) A (call (.builtin "isinstance") [u, c]) Q E s := by
  cases ty with
  | non => cases (show u = Value.none from rx); exact PySem.W.kia_one PySem.W.kitx_none I.kIn True.intro e (fun z => nomatch z) h
  | bl y => cases (show u = Value.bool y from rx); exact PySem.W.kia_one PySem.W.kitx_bool I.kIn True.intro e (fun z => nomatch z) h
  | int i => obtain ⟨t, q⟩ := (show ∃ t, u = Value.int i t from rx); cases q; exact PySem.W.kia_one PySem.W.kitx_int I.kIn True.intro e (fun z => nomatch z) h
  | str y => obtain ⟨t, q⟩ := (show ∃ t, u = Value.str y t from rx); cases q; exact PySem.W.kia_one PySem.W.kitx_str I.kIn True.intro e (fun z => nomatch z) h
  | flt y => obtain ⟨t, q⟩ := (show ∃ t, u = Value.float y t from rx); cases q; exact PySem.W.kia_one PySem.W.kitx_float I.kIn True.intro e (fun z => nomatch z) h
  | @lst a xs ea =>
    cases (show u = Value.ref a from rx)
    obtain ⟨_, _, n, _, h1⟩ := (show ObjOk X.prog X.w H s.heap a (.lst xs) from I.hok a _ ea)
    exact PySem.W.kia_one PySem.W.kitx_list I.kIn ⟨_, h1, rfl⟩ e (fun z => nomatch z) h
  | @frz a ob xs ea =>
    cases (show u = Value.ref a from rx)
    obtain ⟨_, _, _, n, _, h1⟩ := (show ObjOk X.prog X.w H s.heap a (.frz ob (.lst xs)) from I.hok a _ ea)
    exact PySem.W.kia_one PySem.W.kitx_list I.kIn ⟨_, h1, rfl⟩ e (fun z => nomatch z) h
  | @tup a xs ea =>
    cases (show u = Value.ref a from rx)
    obtain ⟨_, _, _, p⟩ := (show ObjOk X.prog X.w H s.heap a (.tup xs) from I.hok a _ ea)
    obtain ⟨o, h1, h2, _⟩ := p
    exact PySem.W.kia_one PySem.W.kitx_tuple I.kIn ⟨o, h1, h2⟩ e (fun z => nomatch z) h
  | @dK a kvs ea =>
    cases (show u = Value.ref a from rx)
    obtain ⟨_, _, vs, _, p⟩ := (show ObjOk X.prog X.w H s.heap a (.dK kvs) from I.hok a _ ea)
    obtain ⟨o, es, ep, h1, h2, _⟩ := p
    exact PySem.W.kia_one PySem.W.kitx_dict I.kIn ⟨o, h1, h2.1⟩ e (fun z => nomatch z) h
  | @dT a kvs ea =>
    cases (show u = Value.ref a from rx)
    obtain ⟨_, _, xs, _, o, es, ep, h1, h2, _⟩ := (show ObjOk X.prog X.w H s.heap a (.dT kvs) from I.hok a _ ea)
    exact PySem.W.kia_one PySem.W.kitx_dict I.kIn ⟨o, h1, h2.1⟩ e (fun z => nomatch z) h
  | @ins a C dx fs ea cl ha hn htk hm =>
    cases (show u = Value.ref a from rx)
    obtain ⟨mA, O, _⟩ := ins_get I.hok ea
    obtain ⟨od, J, _⟩ := O.look
    exact PySem.W.kia_one (PySem.W.kitx_own (cl.get _) cl.hd ha hn htk hm) I.kIn J e (fun z => nomatch z) h
end
end L2
namespace L2
open PySem PySem.Spec PyProof.Rows
structure Room (k : Nat) (A : Around) : Prop where
  hd : A.handled = none
  dp : A.depth + 3 * k + 5 < recursionLimit
  un : A.units + 16 * k + 200 < cLine
theorem Room.mono {j k : Nat} {A : Around} (r : Room k A) (h : j ≤ k) : Room j A := ⟨r.hd, by have := r.dp; omega, by have := r.un; omega⟩
theorem Room.deeper {k : Nat} {A : Around} (r : Room (k + 1) A) (env : Env) : Room k (A.deeper env) :=
  ⟨r.hd, by have := r.dp; show A.depth + 1 + 3 * k + 5 < _; omega, by have := r.un; show A.units + 3 + 16 * k + 200 < _; omega⟩
theorem Room.in1 {k : Nat} {A : Around} (r : Room (k + 1) A) : Room k A.in1 :=
  ⟨r.hd, by have := r.dp; show A.depth + 3 * k + 5 < _; omega, by have := r.un; show A.units + 1 + 16 * k + 200 < _; omega⟩
theorem Room.depth {k : Nat} {A : Around} (r : Room k A) : A.depth < recursionLimit := by have := r.dp; omega
theorem Room.units {k : Nat} {A : Around} (r : Room k A) : A.units + 64 < cLine := by have := r.un; omega
def tNil : TA := fun _ H Q => Q [] H
def tCons (ta : TE) (tr : TA) : TA := fun σ H Q => ta σ H fun x H1 => tr σ H1 fun xs H2 => Q (x :: xs) H2
section
variable {X : Cx} {e : Expr} {es : List Expr} {te : TE} {t : TA} {pos : Pos}
theorem pa_nil : PA X [] tNil := fun _ _ _ _ H Q I h => Calls.spliced_nil ⟨[], H, I, .nil, h⟩
theorem pa_cons (ha : PE X e te) (hr : PA X es t) (hs : starEach (e :: es) X.env = (false, eval e X.env) :: starEach es X.env := by rfl) : PA X (e :: es) (tCons te t) := by
  intro pos pins s σ H Q I h
  rw [hs]
  show wpAny _ _ (spliced ((false, eval e X.env) :: backTo pos (starEach es X.env))) _ _ s
  refine Calls.spliced_cons (thn (ha pins s σ H _ I h) fun u s1 ⟨x, H1, I1, r1, q1⟩ => ?_)
  exact thn (hr pos pins s1 σ H1 _ I1 q1) fun us s2 ⟨xs, H2, I2, r2, q2⟩ => ⟨x :: xs, H2, I2, .cons r1 r2, q2⟩
def tTup (t : TA) : TE := fun σ H Q => t σ H fun xs H1 => xs.length ≤ sizeLine ∧ ∀ p, H1 p = none → Q (.ref p) (upd H1 p (.tup xs))
def tLst (t : TA) : TE := fun σ H Q => t σ H fun xs H1 => xs.length ≤ sizeLine ∧ ∀ p, H1 p = none → Q (.ref p) (upd H1 p (.lst xs))
theorem pe_tup {x1} (h : PA X es t) : PE X (.Tuple es x1 pos) (tTup t) := by
  intro pins s σ H Q I hq
  refine wpAny_Tuple_spliced (thn (h pos pins s σ H _ I hq) fun us s1 ⟨xs, H1, I1, r, z, q⟩ => ⟨by rw [← r.length]; exact z, ?_⟩)
  have hf : H1 s1.heap.objs.size = none := I1.hok.fresh (Nat.le_refl _)
  refine ⟨.ref s1.heap.objs.size, upd H1 s1.heap.objs.size (.tup xs), I1.laid (t' := s1.toks) (fun b u e => Heap.get?_push_of_some _ e) (Nat.le_refl _) ?_, rfl, q _ hf⟩
  exact ⟨z, us, r, ⟨_, Heap.get?_push_size _ rfl, rfl, _, rfl⟩⟩
theorem pe_lst (h : PA X es t) : PE X (.List es pos) (tLst t) := by
  intro pins s σ H Q I hq
  refine wpAny_List_spliced (thn (h pos pins s σ H _ I hq) fun us s1 ⟨xs, H1, I1, r, z, q⟩ => ⟨by rw [← r.length]; exact z, ?_⟩)
  have hf : H1 s1.heap.objs.size = none := I1.hok.fresh (Nat.le_refl _)
  refine ⟨.ref s1.heap.objs.size, upd H1 s1.heap.objs.size (.lst xs), I1.laid (t' := s1.toks) (fun b u e => Heap.get?_push_of_some _ e) (Nat.le_refl _) ?_, rfl, q _ hf⟩
  exact ⟨z, us, 0, r, Heap.get?_push_size _ rfl⟩
end
abbrev Sp := List V → Hp → VK → XK → Prop
abbrev CXT := List Env → Hp → Shared → XK → Value → Shared → Prop
structure Env0 (P : Program) (w : World) (K : PySem.W.Frag) (mg : Str → Option Value) (base : Heap) (A : Around) (outer : List Env) (s : Shared) (H : Hp) : Prop where
  frames : A.frames = some outer
  mod : Mod K mg base
  bs : ∀ b o, base.get? b = some o → s.heap.get? b = some o ∧ H b = none
  bsz : base.objs.size ≤ s.heap.objs.size
  funs : s.heap.FunFrames base outer
  frf : ∀ b ∈ frs outer, H b = none
  hok : HOk P w H s.heap
  bare : AllBare s.gens
def CE (outer : List Env) (P : Program) (w : World) (H : Hp) (s : Shared) (Q : VK) (u : Value) (s' : Shared) : Prop :=
  ∃ v H', s'.os = s.os ∧ AllBare s'.gens ∧ Un (frs outer) [] H H' s.heap s'.heap ∧ HOk P w H' s'.heap ∧ RelV v u ∧ Q v H'
def CR (CX : CXT) (outer : List Env) (P : Program) (w : World) (H : Hp) (s : Shared) (Q : VK) (E : XK) (r : Result) (s' : Shared) : Prop :=
  match r with
  | .ok (.ret u) => CE outer P w H s Q u s'
  | .ok _ => False
  | .error e => CX outer H s E e s'
structure FnOk (P : Program) (w : World) (K : PySem.W.Frag) (mg : Str → Option Value) (base : Heap) (CX : CXT) (k : Nat) (f : Addr) (fd : FuncData) (ps : List Str) (sp : Sp) : Prop where
  len : ∀ vs H Q E, sp vs H Q E → vs.length = ps.length
  run : ∀ (A : Around) (outer : List Env) (s : Shared) (H : Hp) (args : Args) (us : List Value) (vs : List V) (Q : VK) (E : XK), Room k A → Env0 P w K mg base A outer s H → BindsTo s fd args (ps.zip us) → Vals vs us → sp vs H Q E →
    codeAny (model P w) A (.call (.ref f) args) (CR CX outer P w H s Q E) s
theorem FnOk.mono {P : Program} {w : World} {K : PySem.W.Frag} {mg : Str → Option Value} {base : Heap} {CX : CXT} {j k : Nat} {f : Addr} {fd : FuncData} {ps : List Str} {sp : Sp} (F : FnOk P w K mg base CX j f fd ps sp) (h : j ≤ k) :
    FnOk P w K mg base CX k f fd ps sp := ⟨F.len, fun A outer s H args us vs Q E hr => F.run A outer s H args us vs Q E (hr.mono h)⟩
theorem Env0.in1 {P : Program} {w : World} {K : PySem.W.Frag} {mg : Str → Option Value} {base : Heap} {A : Around} {outer : List Env} {s : Shared} {H : Hp} (e : Env0 P w K mg base A outer s H) :
    Env0 P w K mg base A.in1 outer s H := ⟨e.frames, e.mod, e.bs, e.bsz, e.funs, e.frf, e.hok, e.bare⟩
section
variable {X : Cx} {pins : List (Addr × Obj)} {σ : St} {H : Hp} {s s' : Shared}
theorem Inv.env0 (I : Inv X pins σ H s) : Env0 X.prog X.w X.K X.mg X.base X.A X.stack s H :=
  ⟨I.ok.frames, I.ok.mod, I.bs, Nat.le_trans I.ok.bsz I.sz, I.stack, I.stkFree, I.hok, I.bare⟩
theorem Inv.after {Q : VK} {u : Value} (I : Inv X pins σ H s) (h : CE X.stack X.prog X.w H s Q u s') : EP X pins σ Q u s' := by
  obtain ⟨v, H', os, bare, un, hok, r, q⟩ := h
  obtain ⟨hh, g, d, t, os'⟩ := s'
  obtain rfl : os' = s.os := os
  exact ⟨v, H', I.call (h' := hh) (g' := g) (d' := d) (t' := t) (ch := []) un hok bare (fun b z => absurd z (by simp)), r, q⟩
end
def tCall (sp : Sp) (dvs : List V) (E : XK) (t : TA) : TE := fun σ H Q => t σ H fun vs H1 => sp (vs ++ dvs) H1 Q E
def Binds (K : PySem.W.Frag) (fd : FuncData) (ps : List Str) (ds : List Value) : Prop :=
  ∀ (s : Shared) (us : List Value), K.In s.heap → (us ++ ds).length = ps.length → BindsTo s fd ⟨us, []⟩ (ps.zip (us ++ ds))
theorem Binds.all {K : PySem.W.Frag} {fd : FuncData} {ps : List Str} (h : ∀ us : List Value, us.length = ps.length → bindArgs fd ⟨us, []⟩ = pure (ps.zip us)) : Binds K fd ps [] := fun s us _ hl => by
  rw [List.append_nil] at hl ⊢
  exact .of_eq (h us hl)
def Passes (CX : CXT) (X : Cx) (E : XK) : Prop := ∀ (pins : List (Addr × Obj)) (σ : St) (H : Hp) (s : Shared) (e : Value) (s' : Shared), Inv X pins σ H s → CX X.stack H s E e s' → X.xe e s'
section
variable {X : Cx} {CX : CXT} {k : Nat} {f C : Addr} {fd : FuncData} {ps : List Str} {sp : Sp} {dvs : List V} {ds : List Value} {E : XK} {x m : Str} {p pos apos : Pos} {e o : Expr} {es : List Expr} {ta : TE} {t : TA}
theorem run_fn {pins : List (Addr × Obj)} {σ : St} {H : Hp} {s : Shared} {Q : VK} {us : List Value} {vs : List V} (F : FnOk X.prog X.w X.K X.mg X.base CX k f fd ps sp) (hr : Room k X.A) (hb : Binds X.K fd ps ds) (hd : Vals dvs ds) (hx : Passes CX X E)
    (I : Inv X pins σ H s) (r : Vals vs us) (h : sp (vs ++ dvs) H Q E) : wpAny (model X.prog X.w) X.A (call (.ref f) us) (EP X pins σ Q) X.xe s := by
  have r2 : Vals (vs ++ dvs) (us ++ ds) := r.append hd
  have hl : (us ++ ds).length = ps.length := by rw [← r2.length]; exact F.len _ _ _ _ h
  refine wpAny_call (codeAny_mono (F.run X.A X.stack s H ⟨us, []⟩ (us ++ ds) (vs ++ dvs) Q E hr I.env0 (hb s us I.kIn hl) r2 h) fun r s' hq => ?_)
  cases r with
  | error e => exact hx pins σ H s e s' I hq
  | ok fl =>
    cases fl with
    | ret u => exact I.after hq
    | next => exact False.elim hq
    | brk => exact False.elim hq
    | cont => exact False.elim hq
theorem pe_call (F : FnOk X.prog X.w X.K X.mg X.base CX k f fd ps sp) (hr : Room k X.A) (hg : Gl X x) (hm : X.mg x = some (.ref f)) (hk : PySem.W.keepIn X.K (.ref f) = true) (hb : Binds X.K fd ps ds) (hd : Vals dvs ds) (hx : Passes CX X E)
    (ha : PA X (e :: es) t) (hdb : (x == ("__debug__" : Str)) = false := by decide) (he : starEach (e :: es) X.env = (false, eval e X.env) :: starEach es X.env := by rfl) (hpl : (backTo pos (starEach es X.env)).any (·.1) = false := by rfl) :
    PE X (.Call (.Name x p) (e :: es) [] pos) (tCall sp dvs E t) := by
  intro pins s σ H Q I h
  refine wpAny_Call_Name_kw (ld_glob I hg hm ?_ hdb)
  refine PySem.W.callWith_K (h₀ := X.base) I.ok.mod.kin hk (thn (ha pos pins s σ H _ I h) fun us s1 ⟨vs, H1, I1, r, q⟩ => ⟨I1.kIn, ?_⟩) he hpl
  exact run_fn F hr hb hd hx I1 r q
end
section
variable {X : Cx} {CX : CXT} {k : Nat} {f C : Addr} {fd : FuncData} {ps ks : List Str} {sp : Sp} {E : XK} {x m : Str} {p pos apos kpos : Pos} {e o : Expr} {es : List Expr} {kws : List Keyword} {te ta : TE} {t tk : TA} {nm : Option Str}
variable {g : List Value → List Value → List Value} {gV : List V → List V → List V}
end
structure FnScope (N P : List Str) (sc : Scope) : Prop where
  kind : sc.kind = .function
  co : sc.isCoroutine = false
  gen : sc.isGenerator = false
  nd : N.Nodup
  pre : N.take P.length = P
  par : ∀ x ∈ P, sc.names.lookup x = some .local ∨ sc.names.lookup x = some .cell
  nofree : ∀ y ∈ sc.names, y.2 ≠ .free
theorem bindL_out {kindOf : Str → Option NameKind} {x : Str} : ∀ {binds : List (Str × Value)} {m : Str → Option Value}, (∀ v, (x, v) ∉ binds) → bindL kindOf binds m x = m x
  | [], _, _ => rfl
  | (n, v) :: r, m, h => by
    unfold bindL
    rw [bindL_out fun w hw => h w (List.mem_cons_of_mem _ hw)]
    split
    · have : x ≠ n := by rintro rfl; exact h v List.mem_cons_self
      simp [this]
    · rfl
theorem bindC_out {kindOf : Str → Option NameKind} {x : Str} : ∀ {binds : List (Str × Value)} {m : Str → Option Value}, (∀ v, (x, v) ∉ binds) → bindC kindOf binds m x = m x
  | [], _, _ => rfl
  | (n, v) :: r, m, h => by
    unfold bindC
    rw [bindC_out fun w hw => h w (List.mem_cons_of_mem _ hw)]
    split
    · rfl
    · have : x ≠ n := by rintro rfl; exact h v List.mem_cons_self
      simp [this]
theorem bindL_get {kindOf : Str → Option NameKind} {x : Str} {v : Value} : ∀ {P : List Str} {vs : List Value} {i : Nat} {m : Str → Option Value}, P.Nodup → P[i]? = some x → vs[i]? = some v → kindOf x = some .local →
    bindL kindOf (P.zip vs) m x = some v
  | [], _, _, _, _, h, _, _ => by simp at h
  | _ :: _, [], _, _, _, _, h, _ => by simp at h
  | p :: P, w :: vs, 0, m, nd, h1, h2, hk => by
    simp at h1 h2; subst h1; subst h2
    show bindL kindOf ((p, w) :: P.zip vs) m p = _
    unfold bindL
    rw [bindL_out fun v hv => (List.nodup_cons.mp nd).1 (List.of_mem_zip hv).1, if_pos hk]
    simp
  | p :: P, w :: vs, i + 1, m, nd, h1, h2, hk => by
    show bindL kindOf ((p, w) :: P.zip vs) m x = _
    unfold bindL
    exact bindL_get (i := i) (List.nodup_cons.mp nd).2 (by simpa using h1) (by simpa using h2) hk
theorem bindC_get {kindOf : Str → Option NameKind} {x : Str} {v : Value} : ∀ {P : List Str} {vs : List Value} {i : Nat} {m : Str → Option Value}, P.Nodup → P[i]? = some x → vs[i]? = some v → kindOf x ≠ some .local →
    bindC kindOf (P.zip vs) m x = some v
  | [], _, _, _, _, h, _, _ => by simp at h
  | _ :: _, [], _, _, _, _, h, _ => by simp at h
  | p :: P, w :: vs, 0, m, nd, h1, h2, hk => by
    simp at h1 h2; subst h1; subst h2
    show bindC kindOf ((p, w) :: P.zip vs) m p = _
    unfold bindC
    rw [bindC_out fun v hv => (List.nodup_cons.mp nd).1 (List.of_mem_zip hv).1, if_neg hk]
    simp
  | p :: P, w :: vs, i + 1, m, nd, h1, h2, hk => by
    show bindC kindOf ((p, w) :: P.zip vs) m x = _
    unfold bindC
    exact bindC_get (i := i) (List.nodup_cons.mp nd).2 (by simpa using h1) (by simpa using h2) hk
def start (N : List Str) (vs : List V) : St := vs.map some ++ List.replicate (N.length - vs.length) none
def cxOf (CX : CXT) (P : Program) (w : World) (K : PySem.W.Frag) (mg : Str → Option Value) (base : Heap) (N : List Str) (qual : Str) (scope : Scope) (f : Addr) (cd : Value) (A : Around) (outer : List Env) (s : Shared) (H : Hp) (E : XK) : Cx where
  prog := P
  w := w
  K := K
  mg := mg
  base := base
  A := A.deeper (envOfC qual scope s.heap.objs.size f cd)
  N := N
  s₀ := s
  H₀ := H
  env := envOfC qual scope s.heap.objs.size f cd
  outer := outer
  stack := envOfC qual scope s.heap.objs.size f cd :: outer
  ex := []
  calm := true
  fn := fun _ => true
  pn := []
  xe := fun e s' => wpAny (model P w) (A.deeper (envOfC qual scope s.heap.objs.size f cd)) (leaving (envOfC qual scope s.heap.objs.size f cd) e) (fun _ s'' => CX outer H s E e s'') (fun e' s'' => CX outer H s E e' s'') s'
theorem cell_has {sc : Scope} {n : Nat} {x : Str} (h : sc.names.lookup x = some .cell) : ∃ c, (cellsFrom n sc.names []).lookup x = some c := by
  have q := PySem.W.cellsFrom_some sc.names n [] (.inl h)
  exact Option.isSome_iff_exists.mp q
theorem inv_start {CX : CXT} {P : Program} {w : World} {K : PySem.W.Frag} {mg : Str → Option Value} {base : Heap} {N ps : List Str} {qual : Str} {scope : Scope} {f : Addr} {cd : Value} {A : Around} {outer : List Env} {s s1 : Shared} {H : Hp} {E : XK} {us : List Value} {vs : List V}
    (S : FnScope N ps scope) (hd : A.handled = none) (e0 : Env0 P w K mg base A outer s H) (hl : vs.length = ps.length) (r : Vals vs us)
    (x : InCallC s s.heap.objs.size (bindL (envOfC qual scope s.heap.objs.size f cd).kindOf (ps.zip us) fun _ => none) (cellsFrom (s.heap.objs.size + 1) scope.names []) (bindC (envOfC qual scope s.heap.objs.size f cd).kindOf (ps.zip us) fun _ => none) s1) :
    Inv (cxOf CX P w K mg base N qual scope f cd A outer s H E) [] (start N vs) H s1 := by
  have hpl : ps.length ≤ N.length := by have := congrArg List.length S.pre; rw [List.length_take] at this; omega
  obtain ⟨h1, tk, rfl, hk⟩ := x.done
  have noA : ∀ b : Addr, b ∉ (cxOf CX P w K mg base N qual scope f cd A outer s H E).ex := fun b z => absurd (show b ∈ ([] : List Addr) from z) (by simp)
  refine ⟨⟨e0.mod, S.kind, rfl, rfl, Nat.le_refl _, fun y z c h1 h2 => ?_, fun y hy => ?_, fun y c _ h => ?_, fun _ => hd, Around.frames_deeper e0.frames, .inr ⟨rfl, rfl⟩, fun b z => absurd z (noA b), e0.bs, e0.bsz, fun b _ _ => noA b, fun b z => absurd z (noA b), e0.funs, e0.frf⟩,
    rfl, e0.bare, Un.kept hk, ⟨_, x.toInCall.ns, fun i y v h1 h2 h3 => ?_⟩, fun y c h => ⟨_, x.cell y c h⟩, e0.hok.fresh (Nat.le_refl _), fun y c h => ?_, fun p hp => absurd (show p ∈ ([] : List (Addr × Obj)) from hp) (by simp), e0.hok.kept hk, ?_⟩
  · exact name_of_addr x.apart (PySem.mem_of_lookup h1) (PySem.mem_of_lookup h2)
  · have hy : scope.names.lookup y = some .cell ∨ scope.names.lookup y = some .free := hy
    rcases hy with hy | hy
    · exact cell_has hy
    · exact absurd rfl (S.nofree _ (PySem.mem_of_lookup hy))
  · exact Nat.le_of_lt (x.above y c (PySem.mem_of_lookup h))
  · have hi : i < vs.length := by
      unfold start at h2
      by_cases hi : i < vs.length
      · exact hi
      · rw [List.getElem?_append_right (by simpa using hi)] at h2
        rw [List.getElem?_replicate] at h2
        split at h2 <;> cases h2
    have ha : vs[i]? = some v := by
      unfold start at h2
      rw [List.getElem?_append_left (by simpa using hi), List.getElem?_map] at h2
      cases e : vs[i]? with
      | none => rw [e] at h2; cases h2
      | some a => rw [e] at h2; cases h2; rfl
    obtain ⟨u, hu, rv⟩ := r.get ha
    have hp : ps[i]? = some y := by
      rw [← S.pre, List.getElem?_take_of_lt (by omega)]; exact h1
    have ndP : ps.Nodup := by rw [← S.pre]; exact S.nd.sublist (List.take_sublist _ _)
    refine ⟨u, rv, ?_⟩
    rcases S.par y (List.mem_of_getElem? hp) with k | k
    · exact .inl ⟨k, bindL_get ndP hp hu k⟩
    · obtain ⟨c, e⟩ := cell_has (n := s.heap.objs.size + 1) k
      refine .inr ⟨.inl k, c, e, ?_⟩
      have q := x.cell y c e
      rw [bindC_get ndP hp hu (by show scope.names.lookup y ≠ _; rw [k]; decide)] at q
      exact q
  · exact e0.hok.fresh (Nat.le_of_lt (x.above y c (PySem.mem_of_lookup h)))
  · unfold start
    show _ = N.length
    rw [List.length_append, List.length_map, List.length_replicate]
    omega
theorem fn_of {CX : CXT} {P : Program} {w : World} {K : PySem.W.Frag} {mg : Str → Option Value} {base : Heap} {k : Nat} {f : Addr} {name qual : Str} {params : Arguments} {body : List Stmt} {scope : Scope} {dV kV doc pm cdv ct oc : Value} {an od : Option Addr}
    {osl : Array (Option Value)} {N ps : List Str} {sp : Sp} (lk : K.lookup f = some ⟨oc, od, .func (PySem.W.fnOf name qual params body scope dV kV doc pm an cdv ct), osl⟩) (hcd : PySem.W.codeIn K cdv qual = true) (S : FnScope N ps scope)
    (len : ∀ vs H Q E, sp vs H Q E → vs.length = ps.length)
    (hbody : ∀ (A : Around) (outer : List Env) (s : Shared) (H : Hp) (vs : List V) (Q : VK) (E : XK), Room k (A.deeper (envOfC qual scope s.heap.objs.size f cdv)) → sp vs H Q E →
      ∃ t, PSs (cxOf CX P w K mg base N qual scope f cdv A outer s H E) body t ∧ t { nx := fun _ H' => Q .non H', rt := Q } (start N vs) H) :
    FnOk P w K mg base CX (k + 1) f (PySem.W.fnOf name qual params body scope dV kV doc pm an cdv ct) ps sp := by
  refine ⟨len, fun A outer s H args us vs Q E hr e0 hb r hsp => ?_⟩
  have hl := len _ _ _ _ hsp
  have KX : K.In s.heap := e0.mod.kin.keeps fun b o e => (e0.bs b o e).1
  have lim : s.heap.NoLimit := e0.mod.nolimit.keeps fun b o e => (e0.bs b o e).1
  have hkind : ∀ y ∈ ps.zip us, scope.names.lookup y.1 = some .local ∨ (scope.names.lookup y.1 = some .cell ∧ ((cellsFrom (s.heap.objs.size + 1) scope.names []).lookup y.1).isSome = true) := fun ⟨n, v⟩ hy => by
    rcases S.par n (List.of_mem_zip hy).1 with q | q
    · exact .inl q
    · exact .inr ⟨q, PySem.W.cellsFrom_some _ _ _ (.inl q)⟩
  refine codeAny_call_function hr.depth (KX _ _ lk) rfl S.co S.gen rfl (PySem.W.codeRec_of KX hcd) (hb _ _ _ _ ?_)
  refine wpAny_newFunctionEnv_cells S.kind hkind fun env he s1 x => ?_
  subst he
  refine ⟨lim.keeps x.toInCall.keep, codeAny_func ?_⟩
  obtain ⟨t, ht, hq⟩ := hbody A outer s H vs Q E (hr.deeper _) hsp
  have I : Inv (cxOf CX P w K mg base N qual scope f cdv A outer s H E) [] (start N vs) H s1 := inv_start S hr.hd e0 hl r x
  refine wpAny_mono (ht [] s1 (start N vs) H _ I hq) (fun fl s' hs => ?_) fun e s' hs => hs
  have fin : ∀ {σ' : St} {H' : Hp} {v : V} {u : Value}, Inv (cxOf CX P w K mg base N qual scope f cdv A outer s H E) [] σ' H' s' → RelV v u → Q v H' → CE outer P w H s Q u s' :=
    fun {σ' H' v u} J rv q => ⟨v, H', J.os, J.bare, J.base, J.hok, rv, q⟩
  cases fl with
  | ret u =>
    obtain ⟨v, σ', H', J, rv, q⟩ := hs
    exact fin J rv q
  | next =>
    obtain ⟨σ', H', J, q⟩ := hs
    exact fin (v := V.non) (u := Value.none) J rfl q
  | brk =>
    obtain ⟨_, _, _, q⟩ := hs
    exact False.elim q
  | cont =>
    obtain ⟨_, _, _, q⟩ := hs
    exact False.elim q
end L2
namespace L2
open PySem PySem.Spec PyProof.Rows
section
variable {X : Cx} {x : Str} {p pos : Pos} {e : Expr} {es : List Expr} {t : TA} {id T : String} {r : List V → Hp → VK → Prop}
def tCB (r : List V → Hp → VK → Prop) (t : TA) : TE := fun σ H Q => t σ H fun vs H1 => r vs H1 Q
theorem pe_callB (hc : CallR X (.builtin id) r) (hg : Gl X x) (hm : X.mg x = none) (hv : bootBuiltins x = some (.builtin id)) (ha : PA X (e :: es) t) (hn : x ≠ "__name__" := by decide) (hdb : (x == ("__debug__" : Str)) = false := by decide)
    (he : starEach (e :: es) X.env = (false, eval e X.env) :: starEach es X.env := by rfl) (hpl : (backTo pos (starEach es X.env)).any (·.1) = false := by rfl) : PE X (.Call (.Name x p) (e :: es) [] pos) (tCB r t) := by
  intro pins s σ H Q I h
  refine wpAny_Call_Name_kw (ld_blt I hg hm hv ?_ hn hdb)
  exact PyProof.Rows.callWith_builtin1 (thn (ha pos pins s σ H _ I h) fun us s1 ⟨vs, H1, I1, r1, q1⟩ => hc pins s1 σ H1 vs us Q I1 r1 q1) he hpl
theorem pe_callTy (hc : CallR X (.type T) r) (hg : Gl X x) (hm : X.mg x = none) (hv : bootBuiltins x = some (.type T)) (ha : PA X (e :: es) t) (hn : x ≠ "__name__" := by decide) (hdb : (x == ("__debug__" : Str)) = false := by decide)
    (he : starEach (e :: es) X.env = (false, eval e X.env) :: starEach es X.env := by rfl) (hpl : (backTo pos (starEach es X.env)).any (·.1) = false := by rfl) : PE X (.Call (.Name x p) (e :: es) [] pos) (tCB r t) := by
  intro pins s σ H Q I h
  refine wpAny_Call_Name_kw (ld_blt I hg hm hv ?_ hn hdb)
  exact PyProof.Rows.callWith_type1 (thn (ha pos pins s σ H _ I h) fun us s1 ⟨vs, H1, I1, r1, q1⟩ => hc pins s1 σ H1 vs us Q I1 r1 q1) he hpl
end
end L2
namespace HT
open PySem PyProof.Rows
section
open PySem.SeqAt
open PySem.AutoSeq1 (wpAny_loadPart')
open PySem.MeetsSeq PySem.MeetsSeq2 PySem.MeetsSeq3
end
section
variable {prog : Program} {w : World} {A : Around} {E : Value → Shared → Prop} {s : Shared}
theorem cat_tup {t b : Addr} {vs ws : List Value} {Q : Value → Shared → Prop} (ht : IsTup s.heap t vs.toArray) (hb : IsTup s.heap b ws.toArray) (hv : vs ≠ [])
    (h1 : ws = [] → Q (.ref t) s) (h2 : ws ≠ [] → Q (.ref s.heap.objs.size) { s with heap := s.heap.push { cls := .type "tuple", data := .seq (vs ++ ws).toArray } })
    (hsz : vs.length + ws.length ≤ sizeLine) : wpAny (model prog w) A (binaryOp .Add (.ref t) (.ref b)) Q E s := by
  obtain ⟨⟨cls, dd, data, sl⟩, ho, hc, n, hd⟩ := id ht
  obtain ⟨⟨cls2, dd2, data2, sl2⟩, ho2, hc2, n2, hd2⟩ := id hb
  simp only at hc hd hc2 hd2
  subst hc hd hc2 hd2
  have e : vs.toArray ++ ws.toArray = (vs ++ ws).toArray := by simp
  by_cases hw : ws = []
  · exact concat_meets ⟨_, ho, rfl⟩ ⟨_, ho2, rfl⟩ noFill_tuple_add seq_tuple_add PySem.F.slot_tuple_add PySem.F.entry_tuple_add (PySem.F.args_tuple_add_2 _ _)
      (tuple_addW1 t b vs.toArray ws.toArray n n2 dd dd2 sl sl2 (by simpa using hv) (by simp [hw])) ⟨ho, ho2, h1 hw⟩
  · refine concat_meets ⟨_, ho, rfl⟩ ⟨_, ho2, rfl⟩ noFill_tuple_add seq_tuple_add PySem.F.slot_tuple_add PySem.F.entry_tuple_add (PySem.F.args_tuple_add_2 _ _)
      (tuple_addW2 t b vs.toArray ws.toArray n n2 dd dd2 sl sl2 (by simpa using hv) (by simpa using hw) (by rw [List.size_toArray, List.size_toArray]; exact hsz)) ⟨ho, ho2, ?_⟩
    rw [e]
    exact h2 hw
def sIx (n d : Nat) : Option Int → Nat
  | none => d
  | some v => if v < 0 then (v + (n : Int)).toNat else min v.toNat n
theorem sIx_none (n d : Nat) : sIx n d none = d := rfl
theorem sIx_nat (n d k : Nat) : sIx n d (some (k : Int)) = min k n := by
  show (if (k : Int) < 0 then ((k : Int) + (n : Int)).toNat else min (k : Int).toNat n) = min k n
  rw [if_neg (by omega), Int.toNat_natCast]
theorem sIx_le (n d : Nat) (hd : d ≤ n) (o : Option Int) : sIx n d o ≤ n := by
  cases o with
  | none => exact hd
  | some v =>
    show (if v < 0 then (v + (n : Int)).toNat else min v.toNat n) ≤ n
    by_cases hv : v < 0
    · rw [if_pos hv]; omega
    · rw [if_neg hv]; exact Nat.min_le_right _ _
theorem clip_eq (v : Int) (n d : Nat) : (if v < 0 then max (v + (n : Int)) 0 else min v (n : Int)) = ((sIx n d (some v) : Nat) : Int) := by
  show (if v < 0 then max (v + (n : Int)) 0 else min v (n : Int)) = (((if v < 0 then (v + (n : Int)).toNat else min v.toNat n) : Nat) : Int)
  by_cases hv : v < 0
  · simp only [if_pos hv]; omega
  · simp only [if_neg hv]; omega
theorem adjust_gen (lo hi : Option Int) (n : Nat) : Builtin.Slice.sliceAdjust lo hi 1 (n : Int) = (((sIx n 0 lo : Nat) : Int), ((sIx n n hi : Nat) : Int)) := by
  have h1 : ¬ ((1 : Int) < 0) := by omega
  unfold Builtin.Slice.sliceAdjust
  simp only [h1, if_false]
  refine Prod.ext ?_ ?_
  · cases lo with
    | none => rfl
    | some v => exact clip_eq v n 0
  · cases hi with
    | none => rfl
    | some v => exact clip_eq v n n
theorem places_gen (i j : Nat) : Builtin.Slice.slicePlaces (i : Int) (j : Int) 1 = j - i := by
  unfold Builtin.Slice.slicePlaces
  have h1 : (1 : Int) > 0 := by omega
  simp only [h1, if_true, Int.ediv_one]
  split <;> omega
theorem slicePart_ {v : Value} {o : Option Int} {Q : Option Int → Shared → Prop} (p : IsPart v o) (h : Q o s) : wpAny (model prog w) A (Builtin.Slice.slicePartIndex v) Q E s := by
  cases p with
  | none => exact slicePart_none h
  | int i t => exact slicePart_int h
theorem sliceApplied_gen {sl : Addr} {vl vu : Value} {lo hi : Option Int} {n : Nat} {Q : Int × Int × Nat → Shared → Prop} (hs : s.heap.IsSliceOf sl vl vu .none) (pl : IsPart vl lo) (pu : IsPart vu hi)
    (h : Q (((sIx n 0 lo : Nat) : Int), 1, sIx n n hi - sIx n 0 lo) s) : wpAny (model prog w) A (Builtin.Slice.sliceApplied (.ref sl) (pure (n : Int))) Q E s := by
  obtain ⟨os, hos, hcs, hds⟩ := id hs
  unfold Builtin.Slice.sliceApplied Builtin.Slice.sliceFields
  refine wpAny_bind (wpAny_bind (wpAny_field hos hds (x := vl) rfl (wpAny_bind (wpAny_field hos hds (x := vu) rfl (wpAny_bind (wpAny_field hos hds (x := .none) rfl (wpAny_pure ?_)))))))
  refine wpAny_bind (slicePart_none ?_)
  show wpAny _ _ (if ((1 : Int) == 0) = true then _ else _) _ _ s
  rw [if_neg (by decide)]
  refine wpAny_bind (slicePart_ pl (wpAny_bind (slicePart_ pu (wpAny_bind (wpAny_pure ?_)))))
  show wpAny _ _ (match Builtin.Slice.sliceAdjust lo hi 1 (n : Int) with | (lo, hi) => pure (lo, (1 : Int), Builtin.Slice.slicePlaces lo hi 1)) _ _ s
  rw [adjust_gen lo hi n]
  show wpAny _ _ (pure (((sIx n 0 lo : Nat) : Int), (1 : Int), Builtin.Slice.slicePlaces ((sIx n 0 lo : Nat) : Int) ((sIx n n hi : Nat) : Int) 1)) _ _ s
  rw [places_gen]
  exact wpAny_pure h
theorem pick_gen (xs : Array Value) (i k : Nat) : ((List.range k).filterMap fun (m : Nat) => xs[((i : Int) + (m : Int) * 1).toNat]?).toArray = ((xs.toList.drop i).take k).toArray := by
  have e : (fun (m : Nat) => xs[((i : Int) + (m : Int) * 1).toNat]?) = fun m => xs[i + m]? := by
    funext m
    have : ((i : Int) + (m : Int) * 1).toNat = i + m := by omega
    rw [this]
  rw [e]
  have := pick_run xs i k
  rw [List.filterMap_map] at this
  have e2 : ((fun x => xs[x]?) ∘ fun x => i + x) = fun m => xs[i + m]? := rfl
  rw [e2] at this
  rw [this]
theorem getItem_tuple_cut {t sl : Addr} {items : Array Value} {vl vu : Value} {lo hi : Option Int} {Q : Value → Shared → Prop} (ht : IsTup s.heap t items) (hs : s.heap.IsSliceOf sl vl vu .none) (pl : IsPart vl lo) (pu : IsPart vu hi)
    (hw : ¬ (sIx items.size 0 lo = 0 ∧ sIx items.size items.size hi = items.size))
    (h : Q (.ref s.heap.objs.size) { s with heap := s.heap.push { cls := .type "tuple", data := .seq ((items.toList.drop (sIx items.size 0 lo)).take (sIx items.size items.size hi - sIx items.size 0 lo)).toArray } })
    (hsz : items.size ≤ sizeLine) : wpAny (model prog w) A (getItem (.ref t) (.ref sl)) Q E s := by
  have htake : sizeOk (.seq ((items.toList.drop (sIx items.size 0 lo)).take (sIx items.size items.size hi - sIx items.size 0 lo)).toArray) := by
    show ((items.toList.drop (sIx items.size 0 lo)).take (sIx items.size items.size hi - sIx items.size 0 lo)).toArray.size ≤ sizeLine
    rw [List.size_toArray, List.length_take, List.length_drop, Array.length_toList]
    omega
  have hj : sIx items.size items.size hi ≤ items.size := sIx_le _ _ (Nat.le_refl _) hi
  obtain ⟨os, hos, hcs, hds⟩ := id hs
  have hTs : s.TypeIs (.ref sl) "slice" := ⟨os, hos, hcs⟩
  unfold getItem
  try with_reducible refine wpAny_holding ?_
  first | refine wpAny_bind (wpAny_pure ?_) | skip
  refine wpAny_bind (wpAny_sequenceKey ht.typeIs (by decide) ?_)
  refine wpAny_bind (wpAny_callSpecial?_slot (name := Str.ofString "__getitem__") ht.typeIs PyProof.Rows.slot_tuple_getitem
    (wpAny_call_entry PyProof.Rows.slot_tuple_getitem ht.typeIs entry_tuple_getitem ?_ (args_tuple_getitem _ _)))
  show wpAny _ _ (Builtin.Tuple.tupleItemsOf (.ref t) >>= _) _ _ s
  refine wpAny_bind (tupleItemsOf_ ht ?_)
  refine wpAny_bind (wpAny_typeOf hTs ?_)
  rw [if_pos (by decide)]
  refine wpAny_bind (sliceApplied_gen hs pl pu ?_)
  have hno : ¬ ((((sIx items.size 0 lo : Nat) : Int) == 0 && (1 : Int) == 1 && (sIx items.size items.size hi - sIx items.size 0 lo) == items.size) = true) := by
    intro q
    rw [Bool.and_eq_true, Bool.and_eq_true] at q
    have q1 : ((sIx items.size 0 lo : Nat) : Int) = 0 := eq_of_beq q.1.1
    have q2 : sIx items.size items.size hi - sIx items.size 0 lo = items.size := eq_of_beq q.2
    exact hw ⟨by omega, by omega⟩
  show wpAny _ _ (if (((sIx items.size 0 lo : Nat) : Int) == 0 && (1 : Int) == 1 && (sIx items.size items.size hi - sIx items.size 0 lo) == items.size) = true then _ else _) _ _ s
  rw [if_neg hno, pick_gen]
  first
    | exact wpAny_bind (m := Builtin.Tuple.tupleExact _) (wpAny_newObj_type (wpAny_pure ⟨_, rfl, wpAny_pure h⟩) htake)
    | exact wpAny_bind (m := Builtin.Tuple.tupleExact _) (wpAny_newObj_type (wpAny_bind (wpAny_pure (wpAny_pure ⟨_, rfl, wpAny_pure h⟩))) htake)
    | exact wpAny_bind (wpAny_bind (m := Builtin.Tuple.tupleExact _) (wpAny_newObj_type (wpAny_pure (wpAny_pure ⟨_, rfl, wpAny_pure h⟩)) htake))
    | exact wpAny_bind (wpAny_bind (m := Builtin.Tuple.tupleExact _) (wpAny_newObj_type (wpAny_pure ⟨_, rfl, wpAny_pure h⟩) htake))
end
end HT
namespace L2
open PySem PySem.Spec PyProof.Rows
abbrev TO := St → Hp → (Option Int → Hp → Prop) → Prop
def PO (X : Cx) (e : Option Expr) (t : TO) : Prop :=
  ∀ (pins : List (Addr × Obj)) (s : Shared) (σ : St) (H : Hp) (Q : Option Int → Hp → Prop), Inv X pins σ H s → t σ H Q →
    wpAny (model X.prog X.w) X.A (evalPart e X.env) (fun u s' => ∃ o H', Inv X pins σ H' s' ∧ IsPart u o ∧ Q o H') X.xe s
def tNoPart : TO := fun _ H Q => Q none H
def tPart (t : TE) : TO := fun σ H Q => t σ H fun x H1 => ∃ i, x = .int i ∧ Q (some i) H1
section
variable {X : Cx} {e : Expr} {te : TE} {lo hi : Option Expr} {tl th : TO} {pos p2 : Pos}
theorem po_none : PO X none tNoPart := by
  intro pins s σ H Q I h
  rw [evalPart_none]
  exact wpAny_pure ⟨none, H, I, .none, h⟩
theorem po_some (h : PE X e te) : PO X (some e) (tPart te) := by
  intro pins s σ H Q I hw
  rw [evalPart_some]
  refine thn (h pins s σ H _ I hw) fun u s1 ⟨x, H1, I1, r1, q1⟩ => ?_
  obtain ⟨i, rfl, q⟩ := q1
  obtain ⟨t, rfl⟩ := r1
  exact ⟨some i, H1, I1, .int i t, q⟩
def SlR (X : Cx) (r : V → Option Int → Option Int → Hp → VK → Prop) : Prop :=
  ∀ (pins : List (Addr × Obj)) (s : Shared) (σ : St) (H : Hp) (x : V) (v vl vu : Value) (lo hi : Option Int) (sl : Addr) (Q : VK), Inv X pins σ H s → RelV x v → s.heap.IsSliceOf sl vl vu .none → IsPart vl lo → IsPart vu hi → r x lo hi H Q →
    ∃ T id, typeLookup (.type T) "__getitem__" = pure (some (.builtin id)) ∧ s.TypeIs v T ∧ wpAny (model X.prog X.w) X.A (getItem v (.ref sl)) (EP X pins σ Q) X.xe s
theorem SlR.or {r r' : V → Option Int → Option Int → Hp → VK → Prop} (h : SlR X r) (h' : SlR X r') : SlR X (fun x lo hi H Q => r x lo hi H Q ∨ r' x lo hi H Q) := by
  intro pins s σ H x v vl vu lo hi sl Q I rx hs pl pu q
  rcases q with q | q
  · exact h pins s σ H x v vl vu lo hi sl Q I rx hs pl pu q
  · exact h' pins s σ H x v vl vu lo hi sl Q I rx hs pl pu q
def tSl (r : V → Option Int → Option Int → Hp → VK → Prop) (te : TE) (tl th : TO) : TE := fun σ H Q => te σ H fun x H1 => tl σ H1 fun l H2 => th σ H2 fun u H3 => r x l u H3 Q
theorem pe_slice {r : V → Option Int → Option Int → Hp → VK → Prop} (hr : SlR X r) (he : PE X e te) (hl : PO X lo tl) (hu : PO X hi th) : PE X (.Subscript e (.Slice lo hi none p2) pos) (tSl r te tl th) := by
  intro pins s σ H Q I h
  refine Subscript_ (thn (he pins s σ H _ I h) fun v s1 ⟨x, H1, I1, r1, q1⟩ => ?_)
  refine wpAny_Slice (thn (hl pins s1 σ H1 _ I1 q1) fun vl s2 ⟨l, H2, I2, pl, q2⟩ => thn (hu pins s2 σ H2 _ I2 q2) fun vu s3 ⟨u, H3, I3, pu, q3⟩ => ?_)
  rw [evalPart_none]
  refine wpAny_pure ?_
  have I4 : Inv X pins σ H3 { s3 with heap := s3.heap.push { cls := .type "slice", data := .fields #[vl, vu, .none] } } := I3.kept (t' := s3.toks) fun b ob q => Heap.get?_push_of_some _ q
  obtain ⟨T, id, hT, ht, hg⟩ := hr pins { s3 with heap := s3.heap.push { cls := .type "slice", data := .fields #[vl, vu, .none] } } σ H3 x v vl vu l u s3.heap.objs.size Q I4 r1 (Heap.IsSliceOf.new ..) pl pu q3
  show wpAny (model X.prog X.w) X.A (subscriptTail e (.Slice lo hi none p2) v (.ref s3.heap.objs.size)) (EP X pins σ Q) X.xe { s3 with heap := s3.heap.push { cls := .type "slice", data := .fields #[vl, vu, .none] } }
  exact tail_any (ops := [.ref s3.heap.objs.size, v]) ht hT hg (by with_unfolding_all rfl)
def cutV (xs : List V) (lo hi : Option Int) : List V := (xs.drop (HT.sIx xs.length 0 lo)).take (HT.sIx xs.length xs.length hi - HT.sIx xs.length 0 lo)
theorem cutV_length (xs : List V) (lo hi : Option Int) : (cutV xs lo hi).length ≤ xs.length := by
  unfold cutV
  rw [List.length_take, List.length_drop]
  omega
def rSlT (K : PySem.W.Frag) : V → Option Int → Option Int → Hp → VK → Prop := fun x lo hi H Q => ∃ a xs, x = .ref a ∧ SqT K H a xs ∧
  ¬ (HT.sIx xs.length 0 lo = 0 ∧ HT.sIx xs.length xs.length hi = xs.length) ∧ ∀ p, H p = none → Q (.ref p) (upd H p (.tup (cutV xs lo hi)))
theorem sl_tup : SlR X (rSlT X.K) := by
  intro pins s σ H x v vl vu lo hi sl Q I rx hs pl pu h
  obtain ⟨a, xs, rfl, hx, hw, q⟩ := h
  cases rx
  obtain ⟨its, r, ht, hz⟩ := I.tuple hx
  have hlen : its.toArray.size = xs.length := by rw [List.size_toArray]; exact r.length.symm
  refine ⟨"tuple", _, PyProof.Rows.slot_tuple_getitem.lookup, ht.typeIs, ?_⟩
  refine HT.getItem_tuple_cut ht hs pl pu (by rw [hlen]; exact hw) ?_ (by rw [hlen]; exact hz)
  rw [hlen]
  refine ⟨.ref s.heap.objs.size, _, I.laid (t' := s.toks) (o := .tup (cutV xs lo hi)) (fun b ob q => Heap.get?_push_of_some _ q) (Nat.le_refl _) ?_, rfl, q _ (I.hok.fresh (Nat.le_refl _))⟩
  exact ⟨Nat.le_trans (cutV_length xs lo hi) hz, _, (r.drop (HT.sIx xs.length 0 lo)).take (HT.sIx xs.length xs.length hi - HT.sIx xs.length 0 lo), IsTup.new _ _⟩
def rCatT (K : PySem.W.Frag) : R2 := fun x y H Q => ∃ a b xs ys, x = .ref a ∧ y = .ref b ∧ SqT K H a xs ∧ SqT K H b ys ∧ xs ≠ [] ∧ xs.length + ys.length ≤ sizeLine ∧
  (ys = [] → Q (.ref a) H) ∧ (ys ≠ [] → ∀ p, H p = none → Q (.ref p) (upd H p (.tup (xs ++ ys))))
theorem Vals.nil_iff {xs : List V} {us : List Value} (r : Vals xs us) : us = [] ↔ xs = [] := by
  cases r with
  | nil => simp
  | cons _ _ => simp
theorem op_catT : OpR X (binaryOp .Add) (rCatT X.K) := by
  intro pins s σ H x y v u Q I rx ry h
  obtain ⟨a, b, xs, ys, rfl, rfl, ha, hb, hx, hz, q1, q2⟩ := h
  cases rx
  cases ry
  obtain ⟨its, r1, p1, _⟩ := I.tuple ha
  obtain ⟨its2, r2, p2, _⟩ := I.tuple hb
  refine HT.cat_tup p1 p2 (fun z => hx (r1.nil_iff.mp z)) (fun z => ⟨.ref a, H, I, rfl, q1 (r2.nil_iff.mp z)⟩) (fun z => ?_) (by rw [← r1.length, ← r2.length]; exact hz)
  refine ⟨.ref s.heap.objs.size, _, I.laid (t' := s.toks) (o := .tup (xs ++ ys)) (fun b ob q => Heap.get?_push_of_some _ q) (Nat.le_refl _) ?_, rfl, q2 (fun w => z (r2.nil_iff.mpr w)) _ (I.hok.fresh (Nat.le_refl _))⟩
  exact ⟨by rw [List.length_append]; exact hz, _, r1.append r2, IsTup.new _ _⟩
end
end L2
namespace L2
open PySem PySem.Spec PyProof.Rows
def ixN (n : Nat) (i : Int) : Option Nat := if 0 ≤ i then (if i < n then some i.toNat else none) else if -(n : Int) ≤ i then some (i + n).toNat else none
def atI {α : Type} (xs : List α) (i : Int) : Option α := (ixN xs.length i).bind fun j => xs[j]?
theorem ixN_seq {n : Nat} {i : Int} {j : Nat} (h : ixN n i = some j) : seqIndex? i n = some j ∧ j < n ∧ -(n : Int) ≤ i ∧ i < n := by
  unfold ixN at h
  by_cases h0 : 0 ≤ i
  · rw [if_pos h0] at h
    by_cases h1 : i < n
    · rw [if_pos h1] at h
      have e : i.toNat = j := Option.some.inj h
      exact ⟨by rw [seqIndex_of h0 h1, e], by omega, by omega, h1⟩
    · rw [if_neg h1] at h; cases h
  · rw [if_neg h0] at h
    by_cases h1 : -(n : Int) ≤ i
    · rw [if_pos h1] at h
      have e : (i + n).toNat = j := Option.some.inj h
      exact ⟨by rw [seqIndex_neg (by omega) h1, e], by omega, h1, by omega⟩
    · rw [if_neg h1] at h; cases h
theorem atI_get {α : Type} {xs : List α} {i : Int} {v : α} (h : atI xs i = some v) : ∃ j, seqIndex? i xs.length = some j ∧ xs[j]? = some v ∧ j < xs.length ∧ -(xs.length : Int) ≤ i ∧ i < xs.length := by
  unfold atI at h
  cases e : ixN xs.length i with
  | none => rw [e] at h; cases h
  | some j =>
    rw [e] at h
    obtain ⟨h1, h2, h3, h4⟩ := ixN_seq e
    exact ⟨j, h1, h, h2, h3, h4⟩
theorem atI_nat {α : Type} {xs : List α} {j : Nat} {v : α} (h : xs[j]? = some v) : atI xs (j : Int) = some v := by
  have hj : j < xs.length := (List.getElem?_eq_some_iff.mp h).1
  have e : ixN xs.length (j : Int) = some j := by
    unfold ixN
    rw [if_pos (by omega), if_pos (by omega)]; simp
  unfold atI; rw [e]; exact h
theorem atI_last {α : Type} (xs : List α) (v : α) : atI (xs ++ [v]) (-1) = some v := by
  have hl : (xs ++ [v]).length = xs.length + 1 := by simp
  have e : ixN (xs ++ [v]).length (-1) = some xs.length := by
    unfold ixN
    rw [hl, if_neg (by decide), if_pos (by omega)]
    congr 1
    omega
  unfold atI
  rw [e]
  show (xs ++ [v])[xs.length]? = some v
  simp
def PlainIx (b : Expr) : Prop := ∀ o i, subscripted b false o i = operate [o, i] (getItem o i)
def IxR (X : Cx) (r : R2) : Prop :=
  ∀ (value slice : Expr) (pins : List (Addr × Obj)) (s : Shared) (σ : St) (H : Hp) (x y : V) (v u : Value) (Q : VK), Inv X pins σ H s → RelV x v → RelV y u → r x y H Q →
    subscripted slice false v u = operate [v, u] (getItem v u) → wpAny (model X.prog X.w) X.A (subscriptTail value slice v u) (EP X pins σ Q) X.xe s
def MtR (X : Cx) (id : String) (r : V → List V → Hp → VK → Prop) : Prop :=
  ∀ (pins : List (Addr × Obj)) (s : Shared) (σ : St) (H : Hp) (x : V) (xs : List V) (v : Value) (us : List Value) (Q : VK), Inv X pins σ H s → RelV x v → Vals xs us → r x xs H Q →
    wpAny (model X.prog X.w) X.A (call (.builtin id) (v :: us)) (EP X pins σ Q) X.xe s
section
variable {X : Cx} {a b : Expr} {ta tb : TE} {pos : Pos}
theorem IxR.or {r r' : R2} (h : IxR X r) (h' : IxR X r') : IxR X (fun x y H Q => r x y H Q ∨ r' x y H Q) := by
  intro value slice pins s σ H x y v u Q I rx ry q hs
  rcases q with q | q
  · exact h value slice pins s σ H x y v u Q I rx ry q hs
  · exact h' value slice pins s σ H x y v u Q I rx ry q hs
theorem MtR.or {id : String} {r r' : V → List V → Hp → VK → Prop} (h : MtR X id r) (h' : MtR X id r') : MtR X id (fun x xs H Q => r x xs H Q ∨ r' x xs H Q) := by
  intro pins s σ H x xs v us Q I rx rs q
  rcases q with q | q
  · exact h pins s σ H x xs v us Q I rx rs q
  · exact h' pins s σ H x xs v us Q I rx rs q
theorem pe_ix {r : R2} (hr : IxR X r) (ha : PE X a ta) (hb : PE X b tb) (hs : PlainIx b) : PE X (.Subscript a b pos) (tOp r ta tb) := by
  intro pins s σ H Q I h
  exact Subscript_ (binT ha hb I h fun v u s2 x y H2 I2 rx ry q => hr a b pins s2 σ H2 x y v u Q I2 rx ry q (hs _ _))
def rIxL (K : PySem.W.Frag) : R2 := fun x y H Q => ∃ p xs i v, x = .ref p ∧ y = .int i ∧ SqL K H p xs ∧ atI xs i = some v ∧ Q v H
def rIxT (K : PySem.W.Frag) : R2 := fun x y H Q => ∃ p xs i v, x = .ref p ∧ y = .int i ∧ SqT K H p xs ∧ atI xs i = some v ∧ Q v H
theorem ix_list : IxR X (rIxL X.K) := by
  intro value slice pins s σ H x y v u Q I rx ry h hs
  obtain ⟨p, xs, i, z, rfl, rfl, hq, he, q⟩ := h
  cases rx
  obtain ⟨t, rfl⟩ := ry
  obtain ⟨its, r, pl, hz⟩ := I.list hq
  obtain ⟨j, h1, h2, h3, h4, h5⟩ := atI_get he
  obtain ⟨w, ew, rw'⟩ := r.get h2
  have hl := r.length
  have hn := line63
  have fin : EP X pins σ Q w s := ⟨z, H, I, rw', q⟩
  by_cases h0 : 0 ≤ i
  · have hj : i.toNat = j := by
      rw [seqIndex_of h0 h5] at h1
      exact Option.some.inj h1
    exact item_listR pl.isList h0 (by omega) (by rw [hj]; simpa using ew) fin hs
  · have hj : (i + (its.toArray.size : Int)).toNat = j := by
      rw [seqIndex_neg (by omega) h4] at h1
      rw [List.size_toArray, ← hl]
      exact Option.some.inj h1
    exact subscriptTail_builtinR (x := w) pl.isList.typeIs slot_list_getitem.lookup
      (wpAny_getItem_list_neg (Q := fun r s' => r = w ∧ EP X pins σ Q r s') pl.isList (by omega) (by rw [List.size_toArray] <;> omega) (by omega) (by rw [hj]; simpa using ew) ⟨rfl, fin⟩) hs
theorem ix_tup : IxR X (rIxT X.K) := by
  intro value slice pins s σ H x y v u Q I rx ry h hs
  obtain ⟨p, xs, i, z, rfl, rfl, hq, he, q⟩ := h
  cases rx
  obtain ⟨t, rfl⟩ := ry
  obtain ⟨its, r, pl, hz⟩ := I.tuple hq
  obtain ⟨j, h1, h2, h3, h4, h5⟩ := atI_get he
  obtain ⟨w, ew, rw'⟩ := r.get h2
  have hl := r.length
  have hn := line63
  have fin : EP X pins σ Q w s := ⟨z, H, I, rw', q⟩
  exact subscriptTail_builtinR (x := w) pl.typeIs slot_tuple_getitem.lookup
    (getItem_tuple (j := j) (Q := fun r s' => r = w ∧ EP X pins σ Q r s') pl (by omega) (by omega) (by rw [List.size_toArray, ← hl]; exact h1) (by simpa using ew) ⟨rfl, fin⟩) hs
theorem Inv.lst {pins : List (Addr × Obj)} {σ : St} {H : Hp} {s : Shared} {p : Addr} {xs : List V} (I : Inv X pins σ H s) (h : H p = some (.lst xs)) :
    ∃ (its : List Value) (n : Nat), Vals xs its ∧ s.heap.get? p = some { cls := .type "list", data := .seq its.toArray n } ∧ xs.length ≤ sizeLine := by
  obtain ⟨z, its, n, r, e⟩ := I.hok p _ h
  exact ⟨its, n, r, e, z⟩
theorem slice_bounds (lo hi : Option Int) (n : Nat) : (sliceBounds lo hi none n).1 = ((HT.sIx n 0 lo : Nat) : Int) ∧ (sliceBounds lo hi none n).2.1 = ((HT.sIx n n hi : Nat) : Int) ∧ (sliceBounds lo hi none n).2.2 = 1 := by
  refine ⟨?_, ?_, rfl⟩
  · cases lo with
    | none => simp [sliceBounds, HT.sIx]
    | some i =>
      simp only [sliceBounds, HT.sIx, Option.getD_none, show (1 : Int) > 0 by decide, if_true]
      by_cases h : i < 0
      · simp only [h, if_true] <;> omega
      · simp only [h, if_false] <;> omega
  · cases hi with
    | none => simp [sliceBounds, HT.sIx]
    | some i =>
      simp only [sliceBounds, HT.sIx, Option.getD_none, show (1 : Int) > 0 by decide, if_true]
      by_cases h : i < 0
      · simp only [h, if_true] <;> omega
      · simp only [h, if_false] <;> omega
theorem slicePick_cut (its : List Value) (lo hi : Option Int) : slicePick its.toArray lo hi none = ((its.drop (HT.sIx its.length 0 lo)).take (HT.sIx its.length its.length hi - HT.sIx its.length 0 lo)).toArray := by
  obtain ⟨h1, h2, h3⟩ := slice_bounds lo hi its.toArray.size
  unfold slicePick
  rw [h1, h2, h3]
  simp only [sliceRange_one, pick_run, List.size_toArray] <;> rfl
def rSlL (K : PySem.W.Frag) : V → Option Int → Option Int → Hp → VK → Prop := fun x lo hi H Q => ∃ a xs, x = .ref a ∧ SqL K H a xs ∧ ∀ p, H p = none → Q (.ref p) (upd H p (.lst (cutV xs lo hi)))
theorem sl_list : SlR X (rSlL X.K) := by
  intro pins s σ H x v vl vu lo hi sl Q I rx hs pl pu h
  obtain ⟨a, xs, rfl, hx, q⟩ := h
  cases rx
  obtain ⟨its, r, ht, hz⟩ := I.list hx
  have hlen := r.length
  refine ⟨"list", _, slot_list_getitem.lookup, ht.isList.typeIs, ?_⟩
  refine wpAny_getItem_list_slice ht.isList hs pl pu .none (by simp) ?_ (by rw [List.size_toArray] <;> omega)
  rw [slicePick_cut, ← hlen]
  refine ⟨.ref s.heap.objs.size, _, I.laid (t' := s.toks) (o := .lst (cutV xs lo hi)) (fun b ob q => Heap.get?_push_of_some _ q) (Nat.le_refl _) ?_, rfl, q _ (I.hok.fresh (Nat.le_refl _))⟩
  exact ⟨Nat.le_trans (cutV_length xs lo hi) hz, _, 0, (r.drop (HT.sIx xs.length 0 lo)).take (HT.sIx xs.length xs.length hi - HT.sIx xs.length 0 lo), Heap.get?_push_size _ rfl⟩
def flatV : V → Bool
  | .non => true
  | .bl _ => true
  | .int _ => true
  | .str _ => true
  | _ => false
def eqV : V → V → Bool
  | .non, .non => true
  | .bl a, .bl b => a == b
  | .bl a, .int b => (if a then 1 else 0) == b
  | .int a, .bl b => a == (if b then 1 else 0)
  | .int a, .int b => a == b
  | .str a, .str b => a == b
  | _, _ => false
theorem eqAt_V {A : Around} {s : Shared} {y x : V} {u v : Value} (ry : RelV y u) (rx : RelV x v) (fy : flatV y = true) (fx : flatV x = true) : SeqAt.EqAt A s u v (eqV y x) := by
  cases y with
  | non =>
    cases ry
    cases x with
    | non => cases rx; exact SeqAt.EqAt.same _
    | bl b => cases rx; exact SeqAt.EqAt.none_bool b
    | int b => obtain ⟨t, rfl⟩ := rx; exact SeqAt.EqAt.none_int b t
    | str b => obtain ⟨t, rfl⟩ := rx; exact SeqAt.EqAt.none_str b t
    | _ => exact absurd (show false = true from fx) Bool.false_ne_true
  | bl a =>
    cases ry
    cases x with
    | non => cases rx; exact SeqAt.EqAt.bool_none a
    | bl b => cases rx; exact SeqAt.EqAt.bool_bool a b
    | int b => obtain ⟨t, rfl⟩ := rx; exact SeqAt.EqAt.bool_int a b t
    | str b => obtain ⟨t, rfl⟩ := rx; exact SeqAt.EqAt.bool_str a b t
    | _ => exact absurd (show false = true from fx) Bool.false_ne_true
  | int a =>
    obtain ⟨t', rfl⟩ := ry
    cases x with
    | non => cases rx; exact SeqAt.EqAt.int_none a t'
    | bl b => cases rx; exact SeqAt.EqAt.int_bool a t' b
    | int b => obtain ⟨t, rfl⟩ := rx; exact SeqAt.EqAt.int_int a t' b t
    | str b => obtain ⟨t, rfl⟩ := rx; exact SeqAt.EqAt.int_str a t' b t
    | _ => exact absurd (show false = true from fx) Bool.false_ne_true
  | str a =>
    obtain ⟨t', rfl⟩ := ry
    cases x with
    | non => cases rx; exact SeqAt.EqAt.str_none a t'
    | bl b => cases rx; exact SeqAt.EqAt.str_bool a t' b
    | int b => obtain ⟨t, rfl⟩ := rx; exact SeqAt.EqAt.str_int a t' b t
    | str b => obtain ⟨t, rfl⟩ := rx; exact SeqAt.EqAt.str_str a t' b t
    | _ => exact absurd (show false = true from fx) Bool.false_ne_true
  | _ => exact absurd (show false = true from fy) Bool.false_ne_true
def eqU (x : V) (u : Value) : Bool := match u with
  | .none => eqV .non x
  | .bool b => eqV (.bl b) x
  | .int i _ => eqV (.int i) x
  | .str z _ => eqV (.str z) x
  | _ => false
theorem eqU_of {x y : V} {u : Value} (r : RelV y u) (f : flatV y = true) : eqU x u = eqV y x := by
  cases y with
  | non => cases r; rfl
  | bl b => cases r; rfl
  | int i => obtain ⟨t, rfl⟩ := r; rfl
  | str z => obtain ⟨t, rfl⟩ := r; rfl
  | _ => exact absurd (show false = true from f) Bool.false_ne_true
theorem any_eqU {x : V} : ∀ {xs : List V} {us : List Value}, Vals xs us → xs.all flatV = true → us.any (eqU x) = xs.any fun y => eqV y x
  | _, _, .nil, _ => rfl
  | y :: xs, u :: us, .cons r t, f => by
    rw [List.all_cons, Bool.and_eq_true] at f
    rw [List.any_cons, List.any_cons, eqU_of r f.1, any_eqU t f.2]
theorem mem_eqAt {A : Around} {s : Shared} {x : V} {v : Value} (rx : RelV x v) (fx : flatV x = true) : ∀ {xs : List V} {us : List Value}, Vals xs us → xs.all flatV = true → ∀ u ∈ us, SeqAt.EqAt A s u v (eqU x u)
  | _, _, .nil, _ => fun u hu => by cases hu
  | y :: xs, u :: us, .cons r t, f => fun u' hu => by
    rw [List.all_cons, Bool.and_eq_true] at f
    rcases List.mem_cons.mp hu with rfl | hu
    · rw [eqU_of r f.1]; exact eqAt_V r rx f.1 fx
    · exact mem_eqAt rx fx t f.2 u' hu
def inV (x : V) (xs : List V) : Bool := xs.any fun y => eqV y x
def rIn (K : PySem.W.Frag) (neg : Bool) : R2 := fun x y H Q => ∃ p xs, y = .ref p ∧ (SqL K H p xs ∨ SqT K H p xs) ∧ flatV x = true ∧ xs.all flatV = true ∧ Q (.bl (if neg then !inV x xs else inV x xs)) H
theorem op_in_seq : OpR X (compareOp .In) (rIn X.K false) := by
  intro pins s σ H x y v u Q I rx ry h
  obtain ⟨p, xs, rfl, hq, fx, fs, q⟩ := h
  cases ry
  rcases hq with hq | hq
  · obtain ⟨its, r, pl, hz⟩ := I.list hq
    refine SeqAt.in_listAt (eqU x) pl.isList (fun w hw => mem_eqAt rx fx r fs w (by simpa using hw)) ⟨.bl _, H, I, rfl, ?_⟩
    rw [show its.toArray.any (eqU x) = its.any (eqU x) by simp, any_eqU r fs]
    exact q
  · obtain ⟨its, r, pl, hz⟩ := I.tuple hq
    refine SeqAt.in_tupleAt (eqU x) pl (fun w hw => mem_eqAt rx fx r fs w (by simpa using hw)) ⟨.bl _, H, I, rfl, ?_⟩
    rw [show its.toArray.any (eqU x) = its.any (eqU x) by simp, any_eqU r fs]
    exact q
theorem call_len_seq : CallR X (.builtin "len") (fun xs H Q => ∃ p ys, xs = [.ref p] ∧ (SqL X.K H p ys ∨ SqT X.K H p ys) ∧ Q (.int ys.length) H) := by
  intro pins s σ H xs us Q I r h
  obtain ⟨p, ys, rfl, hq, q⟩ := h
  obtain ⟨u, rfl, rx⟩ := vals1 r
  cases rx
  have hn := line63
  rcases hq with hq | hq
  · obtain ⟨its, r', pl, hz⟩ := I.list hq
    have hlen := r'.length
    exact Calls.call_len_list pl.isList (by simp only [List.size_toArray] <;> omega) ⟨.int ys.length, H, I.tok _, ⟨s.toks + 1, by rw [List.size_toArray, hlen]⟩, q⟩
  · obtain ⟨its, r', pl, hz⟩ := I.tuple hq
    have hlen := r'.length
    exact len_tuple pl (by simp only [List.size_toArray] <;> omega) ⟨.int ys.length, H, I.tok _, ⟨s.toks + 1, by rw [List.size_toArray, hlen]⟩, q⟩
theorem CallR.or {f : Value} {r r' : List V → Hp → VK → Prop} (h : CallR X f r) (h' : CallR X f r') : CallR X f (fun xs H Q => r xs H Q ∨ r' xs H Q) := by
  intro pins s σ H xs us Q I rs q
  rcases q with q | q
  · exact h pins s σ H xs us Q I rs q
  · exact h' pins s σ H xs us Q I rs q
theorem call_list_of : CallR X (.type "list") (fun xs H Q => ∃ p ys, xs = [.ref p] ∧ (SqL X.K H p ys ∨ SqT X.K H p ys) ∧ ∀ l, H l = none → Q (.ref l) (upd H l (.lst ys))) := by
  intro pins s σ H xs us Q I r h
  obtain ⟨p, ys, rfl, hq, q⟩ := h
  obtain ⟨u, rfl, rx⟩ := vals1 r
  cases rx
  have fin : ∀ (its : List Value), Vals ys its → ys.length ≤ sizeLine → ∀ (h' : Heap) (c' : Nat), (∀ b o', s.heap.get? b = some o' → h'.get? b = some o') →
      h'.get? s.heap.objs.size = some { cls := .type "list", dict := none, data := .seq its.toArray c', slots := #[] } → EP X pins σ Q (.ref s.heap.objs.size) { s with heap := h' } := fun its r' hz h' c' kp e =>
    ⟨.ref s.heap.objs.size, _, I.laid (t' := s.toks) kp (Nat.le_refl _) (show ObjOk X.prog X.w _ h' _ (.lst ys) from ⟨hz, its, c', r', e⟩), rfl, q _ (I.hok.fresh (Nat.le_refl _))⟩
  rcases hq with hq | hq
  · obtain ⟨its, r', pl, hz⟩ := I.list hq
    have hlen := r'.length
    obtain ⟨o, ho, hc, n, hd⟩ := pl.isList
    exact call_list_seq p (.inl rfl) ho hc hd (fun h' c' kp e => fin its r' hz h' c' kp e) (by simp only [List.size_toArray] <;> omega)
  · obtain ⟨its, r', pl, hz⟩ := I.tuple hq
    have hlen := r'.length
    obtain ⟨o, ho, hc, n, hd⟩ := pl
    exact call_list_seq p (.inr rfl) ho hc hd (fun h' c' kp e => fin its r' hz h' c' kp e) (by simp only [List.size_toArray] <;> omega)
theorem call_tuple_of : CallR X (.type "tuple") (fun xs H Q => ∃ p ys, xs = [.ref p] ∧ ((SqL X.K H p ys ∧ ∀ l, H l = none → Q (.ref l) (upd H l (.tup ys))) ∨ (SqT X.K H p ys ∧ Q (.ref p) H))) := by
  intro pins s σ H xs us Q I r h
  obtain ⟨p, ys, rfl, h⟩ := h
  obtain ⟨u, rfl, rx⟩ := vals1 r
  cases rx
  rcases h with ⟨hq, q⟩ | ⟨hq, q⟩
  · obtain ⟨its, r', pl, hz⟩ := I.list hq
    have hlen := r'.length
    refine call_tuple_list pl.isList (fun h' kp => ?_) (by simp only [List.size_toArray] <;> omega)
    have I1 : Inv X pins σ H { s with heap := h' } := I.kept (t' := s.toks) kp
    have I2 : Inv X pins σ (upd H h'.objs.size (.tup ys)) { s with heap := h'.push { cls := .type "tuple", data := .seq its.toArray } } :=
      I1.laid (t' := s.toks) (fun b o e => Heap.get?_push_of_some _ e) (Nat.le_refl _) (show ObjOk X.prog X.w _ _ _ (.tup ys) from ⟨hz, its, r', IsTup.new _ _⟩)
    exact ⟨.ref h'.objs.size, _, I2, rfl, q _ (I1.hok.fresh (Nat.le_refl _))⟩
  · obtain ⟨its, r', pl, hz⟩ := I.tuple hq
    exact call_tuple_same pl ⟨.ref p, H, I, rfl, q⟩
def tyV (K : PySem.W.Frag) (T : String) (x : V) (H : Hp) : Prop := match x with
  | .str _ => T = "str"
  | .int _ => T = "int"
  | .ref p => (T = "list" ∧ ∃ xs, SqL K H p xs) ∨ (T = "tuple" ∧ ∃ o, K.lookup p = some o ∧ o.cls = .type "tuple" ∧ o.dict = none) ∨
      (T = "dict" ∧ ((∃ kvs, H p = some (.dK kvs)) ∨ ∃ kvs, H p = some (.dT kvs))) ∨ (T = "set" ∧ ∃ S n, H p = some (.set S n))
  | _ => False
theorem tyV_is {pins : List (Addr × Obj)} {σ : St} {H : Hp} {s : Shared} {T : String} {x : V} {v : Value} (I : Inv X pins σ H s) (r : RelV x v) (ty : tyV X.K T x H) :
    s.TypeIs v T ∧ ∀ a, v = .ref a → ∃ ob, s.heap.get? a = some ob ∧ ob.dict = none := by
  cases x with
  | str z =>
    obtain ⟨t, rfl⟩ := r
    cases (show T = "str" from ty)
    exact ⟨typeIs_str s z t, fun _ e => nomatch e⟩
  | int i =>
    obtain ⟨t, rfl⟩ := r
    cases (show T = "int" from ty)
    exact ⟨typeIs_int s i t, fun _ e => nomatch e⟩
  | ref p =>
    cases r
    rcases ty with ⟨rfl, xs, hq⟩ | ⟨rfl, o, hk, hc, hd⟩ | ⟨rfl, hk⟩ | ⟨rfl, S, n, hk⟩
    · obtain ⟨its, _, pl, _⟩ := I.list hq
      refine ⟨pl.isList.typeIs, fun a e => ?_⟩
      cases e
      obtain ⟨o, n, e, c, hd, _⟩ := pl
      exact ⟨o, e, hd⟩
    · refine ⟨⟨o, I.kIn p o hk, hc⟩, fun a e => ?_⟩
      cases e
      exact ⟨o, I.kIn _ o hk, hd⟩
    · have z : ∃ o, s.heap.get? p = some o ∧ o.ExactDict := by
        rcases hk with ⟨kvs, hk⟩ | ⟨kvs, hk⟩
        · obtain ⟨_, _, _, _, o, _, _, e, ex, _⟩ := I.hok p _ hk
          exact ⟨o, e, ex⟩
        · obtain ⟨_, _, _, _, o, _, _, e, ex, _⟩ := I.hok p _ hk
          exact ⟨o, e, ex⟩
      obtain ⟨o, e, ex⟩ := z
      refine ⟨⟨o, e, ex.1⟩, fun a e2 => ?_⟩
      cases e2
      exact ⟨o, e, ex.2.1⟩
    · obtain ⟨o, _, _, _, e, ex, _⟩ := I.hok p _ hk
      refine ⟨⟨o, e, ex.1⟩, fun a e2 => ?_⟩
      cases e2
      exact ⟨o, e, ex.2.1⟩
  | _ => exact False.elim ty
def tBM0 (K : PySem.W.Frag) (T : String) (r : V → List V → Hp → VK → Prop) (to : TE) : TE := fun σ H Q => to σ H fun x H1 => tyV K T x H1 ∧ r x [] H1 Q
def tBM (K : PySem.W.Frag) (T : String) (r : V → List V → Hp → VK → Prop) (to : TE) (t : TA) : TE := fun σ H Q => to σ H fun x H1 => tyV K T x H1 ∧ t σ H1 fun xs H2 => r x xs H2 Q
variable {o e : Expr} {es : List Expr} {to : TE} {t : TA} {name : Str} {apos cpos : Pos} {T id : String} {r : V → List V → Hp → VK → Prop}
theorem pe_bm0 (pa : PlainAttrs T) (slot : Slot T name id) (hty : typeOf (.builtin id) = pure (.type "method_descriptor")) (hm : MtR X id r) (ho : PE X o to)
    (hbase : attributeBase o name X.env (eval o X.env) = eval o X.env := by rfl) (hline : (apos.endLine == cpos.line) = true := by rfl) : PE X (.Call (.Attribute o name apos) [] [] cpos) (tBM0 X.K T r to) := by
  intro pins s σ H Q I h
  refine wpAny_Call_method0_late hbase hline (thn (ho pins s σ H _ I h) fun v s1 ⟨x, H1, I1, r1, ty, q1⟩ => ?_)
  obtain ⟨h1, h2⟩ := tyV_is I1 r1 ty
  exact ⟨T, id, pa, slot, hty, h1, h2, Calls.callWith_builtin rfl (PySem.evalArgs_none (hm pins s1 σ H1 x [] v [] Q I1 r1 .nil q1))⟩
theorem pe_bm (pa : PlainAttrs T) (slot : Slot T name id) (hty : typeOf (.builtin id) = pure (.type "method_descriptor")) (hm : MtR X id r) (ho : PE X o to) (ha : PA X (e :: es) t)
    (hbase : attributeBase o name X.env (eval o X.env) = eval o X.env := by rfl)
    (hfew : ((backTo cpos (starEach (e :: es) X.env)).all (fun x => !x.1) && (backToKw cpos (keywordEach [] X.env)).all (fun x => x.1.isSome)
      && decide ((e :: es).length + ([] : List Keyword).length + (if ([] : List Keyword).isEmpty then 0 else 1) < 30)) = true := by rfl)
    (hline : (apos.endLine == cpos.line) = true := by rfl) (hs : starEach (e :: es) X.env = (false, eval e X.env) :: starEach es X.env := by rfl) (hplain : (backTo cpos (starEach es X.env)).any (·.1) = false := by rfl) :
    PE X (.Call (.Attribute o name apos) (e :: es) [] cpos) (tBM X.K T r to t) := by
  intro pins s σ H Q I h
  refine wpAny_Call_method_late hbase hfew hline rfl (thn (ho pins s σ H _ I h) fun v s1 ⟨x, H1, I1, r1, ty, q1⟩ => ?_)
  obtain ⟨h1, h2⟩ := tyV_is I1 r1 ty
  refine ⟨T, id, pa, slot, hty, h1, h2, ?_⟩
  have hA := ha cpos pins s1 σ H1 _ I1 q1
  rw [hs] at hA ⊢
  refine Calls.callWith_builtin (by show (false || (backTo cpos (starEach es X.env)).any (·.1)) = false; rw [hplain] <;> rfl) (Calls.evalArgs_plain ?_)
  exact thn hA fun us s2 ⟨vs, H2, I2, r2, q2⟩ => hm pins s2 σ H2 x vs v us Q I2 r1 r2 q2
/- xs.append(e), list.index on a module's tuple .. are MtR facts of 06m -/
end
end L2
namespace L2
open PySem PySem.Spec PyProof.Rows
def MtM (X : Cx) (id : String) (r : V → List V → Hp → VK → Prop) : Prop :=
  ∀ (pins : List (Addr × Obj)) (s : Shared) (σ : St) (H : Hp) (x : V) (xs : List V) (v : Value) (us : List Value) (Q : VK), Inv X pins σ H s → RelV x v → Vals xs us → r x xs H Q →
    wpAny (model X.prog X.w) X.A (call (.builtin id) (v :: us)) (EP X pins σ Q) X.xe s
theorem Vals.one : ∀ {x : V} {us : List Value}, Vals [x] us → ∃ u, us = [u] ∧ RelV x u
  | _, _, .cons r .nil => ⟨_, rfl, r⟩
theorem Vals.two : ∀ {x y : V} {us : List Value}, Vals [x, y] us → ∃ u v, us = [u, v] ∧ RelV x u ∧ RelV y v
  | _, _, _, .cons r (.cons q .nil) => ⟨_, _, rfl, r, q⟩
theorem Vals.zero : ∀ {us : List Value}, Vals [] us → us = []
  | _, .nil => rfl
theorem Vals.dropLast {xs : List V} {us : List Value} (h : Vals xs us) : Vals xs.dropLast us.dropLast := by
  induction h with
  | nil => exact .nil
  | cons r t ih =>
    cases t with
    | nil => exact .nil
    | cons q t' => exact .cons r ih
theorem Vals.eraseIdx : ∀ {xs : List V} {us : List Value} (i : Nat), Vals xs us → Vals (xs.eraseIdx i) (us.eraseIdx i)
  | _, _, _, .nil => .nil
  | _, _, 0, .cons _ t => t
  | _, _, i + 1, .cons r t => .cons r (Vals.eraseIdx i t)
theorem Vals.reverse {xs : List V} {us : List Value} (h : Vals xs us) : Vals xs.reverse us.reverse := by
  induction h with
  | nil => exact .nil
  | cons r t ih => rw [List.reverse_cons, List.reverse_cons]; exact Vals.append ih (.cons r .nil)
theorem Vals.rep {xs : List V} {us : List Value} (h : Vals xs us) : ∀ k : Nat, Vals (List.replicate k xs).flatten (List.replicate k us).flatten
  | 0 => .nil
  | k + 1 => by
    rw [List.replicate_succ, List.replicate_succ, List.flatten_cons, List.flatten_cons]
    exact Vals.append h (Vals.rep h k)
theorem erase_last {α : Type} (l : List α) : l.eraseIdx (l.length - 1) = l.dropLast := by
  induction l with
  | nil => rfl
  | cons a r ih =>
    cases r with
    | nil => rfl
    | cons b r =>
      have e : (a :: b :: r).length - 1 = ((b :: r).length - 1) + 1 := by
        have h1 : (a :: b :: r).length = r.length + 2 := rfl
        have h2 : (b :: r).length = r.length + 1 := rfl
        omega
      rw [e, List.eraseIdx_cons_succ, ih]
      all_goals rfl
theorem foldl_rep (its : List Value) : ∀ (k : Nat) (acc : List Value),
    List.foldl (fun x1 x2 => x1 ++ x2) acc.toArray (List.replicate k its.toArray) = (acc ++ (List.replicate k its).flatten).toArray
  | 0, acc => by simp
  | k + 1, acc => by
    have e : acc.toArray ++ its.toArray = (acc ++ its).toArray := by simp
    have e2 : (acc ++ its) ++ (List.replicate k its).flatten = acc ++ (List.replicate (k + 1) its).flatten := by
      rw [List.replicate_succ, List.flatten_cons, List.append_assoc]
    rw [← e2, ← foldl_rep its k (acc ++ its), ← e, List.replicate_succ, List.foldl_cons]
section
variable {X : Cx} {pins : List (Addr × Obj)} {σ : St} {H : Hp} {s : Shared} {l b : Addr} {xs ys zs : List V}
theorem Inv.lset {its its' : List Value} {n : Nat} {f : Array Value → Array Value} {t' : Nat} (I : Inv X pins σ H s) (hH : H l = some (.lst xs))
    (e : s.heap.get? l = some { cls := .type "list", data := .seq its.toArray n }) (hf : f its.toArray = its'.toArray) (hv : Vals ys its') (hz : ys.length ≤ sizeLine) :
    Inv X pins σ (upd H l (.lst ys)) { s with heap := s.heap.update l (Obj.mapSeq f), toks := t' } := by
  have q := PySem.IsL.update e f
  rw [hf] at q
  refine I.write (x := l) (e := l) (by rw [hH]; exact trivial) (.inl rfl) (fun b' u hb hu => (Heap.get?_update_other s.heap (Obj.mapSeq f) (Ne.symm hb)).trans hu) ⟨_, q⟩ ?_
  exact ⟨hz, its', _, hv, q⟩
theorem Inv.lnew {its : List Value} {t' : Nat} (I : Inv X pins σ H s) (hv : Vals ys its) (hz : ys.length ≤ sizeLine) :
    Inv X pins σ (upd H s.heap.objs.size (.lst ys)) { s with heap := s.heap.push { cls := .type "list", data := .seq its.toArray }, toks := t' } :=
  I.laid (fun _ _ q => Heap.get?_push_of_some _ q) (Nat.le_refl _) ⟨hz, its, 0, hv, Heap.get?_push_size _ rfl⟩
theorem Inv.fresh (I : Inv X pins σ H s) : H s.heap.objs.size = none := I.hok.fresh (Nat.le_refl _)
theorem Inv.lstM (I : Inv X pins σ H s) (hH : H l = some (.lst xs)) : xs.length ≤ sizeLine ∧ ∃ (its : List Value) (n : Nat), Vals xs its ∧ xs.length = its.length ∧ s.heap.get? l = some { cls := .type "list", data := .seq its.toArray n } := by
  obtain ⟨z, its, n, r, e⟩ := I.hok l _ hH
  exact ⟨z, its, n, r, r.length, e⟩
theorem notLongL {n : Nat} (h : n ≤ sizeLine) : Builtin.List.listTooLong n = false := by
  unfold Builtin.List.listTooLong
  exact decide_eq_false (by omega)
end
section
variable {X : Cx}
def rAppend : V → List V → Hp → VK → Prop := fun x vs H Q => ∃ l xs y, x = .ref l ∧ vs = [y] ∧ H l = some (.lst xs) ∧ xs.length < sizeLine ∧ Q .non (upd H l (.lst (xs ++ [y])))
theorem mt_append : MtM X "list.append" rAppend := by
  intro pins s σ H x vs v us Q I rx rv h
  obtain ⟨l, xs, y, rfl, rfl, hH, hz, q⟩ := h
  cases rx
  obtain ⟨u, rfl, ru⟩ := rv.one
  obtain ⟨z, its, n, r, hl, e⟩ := I.lstM hH
  refine call_meets F.slot_list_append ⟨_, e, rfl⟩ F.entry_list_append (F.args_list_append_2 _ _) (PySem.list_append l its.toArray n u (by rw [List.size_toArray]; omega)) ⟨e, ?_⟩
  refine ⟨.non, _, I.lset (its' := its ++ [u]) hH e (by simp) (r.append (.cons ru .nil)) ?_, rfl, q⟩
  rw [List.length_append, List.length_singleton]
  omega
def rExtend : V → List V → Hp → VK → Prop := fun x vs H Q => ∃ l b xs zs, x = .ref l ∧ vs = [.ref b] ∧ H l = some (.lst xs) ∧ H b = some (.lst zs) ∧ xs.length + zs.length ≤ sizeLine ∧ Q .non (upd H l (.lst (xs ++ zs)))
theorem mt_extend : MtM X "list.extend" rExtend := by
  intro pins s σ H x vs v us Q I rx rv h
  obtain ⟨l, b, xs, zs, rfl, rfl, hH, hB, hz, q⟩ := h
  cases rx
  obtain ⟨u, rfl, ru⟩ := rv.one
  cases ru
  obtain ⟨z, its, n, r, hl, e⟩ := I.lstM hH
  obtain ⟨z2, its2, n2, r2, hl2, e2⟩ := I.lstM hB
  have hsz : its.toArray.size + its2.toArray.size ≤ sizeLine := by rw [List.size_toArray, List.size_toArray]; omega
  have hlong : ¬ (!its.toArray.isEmpty && Builtin.List.listTooLong (its.toArray.size + its2.toArray.size)) = true := by
    rw [notLongL hsz, Bool.and_false]
    exact Bool.false_ne_true
  refine call_meets F.slot_list_extend ⟨_, e, rfl⟩ F.entry_list_extend (F.args_list_extend_2 _ _)
    (AutoSeq1.list_extend_list_list_0 l its.toArray n b its2.toArray n2 hlong (by rw [List.size_toArray]; omega) (by omega)) ⟨e, e2, ?_⟩
  refine ⟨.non, _, I.lset (its' := its ++ its2) hH e (by simp) (r.append r2) ?_, rfl, q⟩
  rw [List.length_append]
  omega
def rPop : V → List V → Hp → VK → Prop := fun x vs H Q => ∃ l xs y, x = .ref l ∧ vs = [] ∧ H l = some (.lst xs) ∧ xs[xs.length - 1]? = some y ∧ Q y (upd H l (.lst xs.dropLast))
theorem mt_pop : MtM X "list.pop" rPop := by
  intro pins s σ H x vs v us Q I rx rv h
  obtain ⟨l, xs, y, rfl, rfl, hH, hy, q⟩ := h
  cases rx
  have hus := rv.zero
  subst hus
  obtain ⟨z, its, n, r, hl, e⟩ := I.lstM hH
  obtain ⟨u, hu, ru⟩ := r.get hy
  have hy' : its.toArray[its.toArray.size - 1]? = some u := by
    show its.toArray[its.length - 1]? = some u
    rw [← Array.getElem?_toList, ← hl]
    exact hu
  refine call_meets F.slot_list_pop ⟨_, e, rfl⟩ F.entry_list_pop (F.args_list_pop_1 _) (MeetsSeq.list_pop_last l its.toArray n u hy' (by rw [List.size_toArray]; omega)) ⟨e, ?_⟩
  refine ⟨y, _, I.lset (its' := its.dropLast) hH e ?_ r.dropLast ?_, ru, q⟩
  · show its.toArray.eraseIdxIfInBounds (its.toArray.size - 1) = its.dropLast.toArray
    rw [List.size_toArray, List.eraseIdxIfInBounds_toArray, erase_last]
  · rw [List.length_dropLast]
    omega
def rCat : R2 := fun x y H Q => ∃ l b xs zs, x = .ref l ∧ y = .ref b ∧ H l = some (.lst xs) ∧ H b = some (.lst zs) ∧ xs.length + zs.length ≤ sizeLine ∧ ∀ p, H p = none → Q (.ref p) (upd H p (.lst (xs ++ zs)))
theorem op_cat : OpR X (binaryOp .Add) rCat := by
  intro pins s σ H x y v u Q I rx ry h
  obtain ⟨l, b, xs, zs, rfl, rfl, hH, hB, hz, q⟩ := h
  cases rx
  cases ry
  obtain ⟨z, its, n, r, hl, e⟩ := I.lstM hH
  obtain ⟨z2, its2, n2, r2, hl2, e2⟩ := I.lstM hB
  refine PySem.P.add_list e e2 ?_ (by rw [List.size_toArray, List.size_toArray]; omega)
  have ea : its.toArray ++ its2.toArray = (its ++ its2).toArray := by simp
  rw [ea]
  exact ⟨.ref _, _, I.lnew (t' := s.toks) (r.append r2) (by rw [List.length_append]; omega), rfl, q _ I.fresh⟩
def rRep : R2 := fun x y H Q => ∃ l k xs, x = .ref l ∧ y = .int k ∧ H l = some (.lst xs) ∧ -(2 ^ 63) ≤ k ∧ k < 2 ^ 63 ∧ xs.length * k.toNat ≤ sizeLine ∧
  ∀ p, H p = none → Q (.ref p) (upd H p (.lst (List.replicate k.toNat xs).flatten))
theorem len_rep {α : Type} (xs : List α) (k : Nat) : (List.replicate k xs).flatten.length = k * xs.length := by
  induction k with
  | zero => simp
  | succ k ih => rw [List.replicate_succ, List.flatten_cons, List.length_append, ih, Nat.succ_mul, Nat.add_comm]
theorem op_rep : OpR X (binaryOp .Mult) rRep := by
  intro pins s σ H x y v u Q I rx ry h
  obtain ⟨l, k, xs, rfl, rfl, hH, h1, h2, hz, q⟩ := h
  cases rx
  obtain ⟨t, rfl⟩ := ry
  obtain ⟨z, its, n, r, hl, e⟩ := I.lstM hH
  have hlen : its.toArray.size * k.toNat ≤ sizeLine := by rw [List.size_toArray, ← hl]; exact hz
  have hcap : ¬ its.toArray.size * k.toNat > (2 ^ 63 - 1) / 8 := by
    have : (sizeLine : Nat) ≤ (2 ^ 63 - 1) / 8 := by decide
    omega
  have hfit : ¬ (!Builtin.List.listFitsIndex k) = true := by
    rw [fitsIndex_both h1 h2]
    exact Bool.false_ne_true
  have hlong : ¬ Builtin.List.listTooLong (its.toArray.size * k.toNat) = true := by
    rw [notLongL hlen]
    exact Bool.false_ne_true
  have hnew : List.foldl (fun x1 x2 => x1 ++ x2) #[] (List.replicate (if its.toArray.isEmpty = true then 0 else k.toNat) its.toArray) = (List.replicate k.toNat its).flatten.toArray := by
    have f0 : ∀ m : Nat, List.foldl (fun x1 x2 => x1 ++ x2) #[] (List.replicate m its.toArray) = (List.replicate m its).flatten.toArray := fun m => by
      have := foldl_rep its m []
      rw [List.nil_append] at this
      exact this
    rw [f0]
    cases its with
    | nil => simp
    | cons a r' => rw [if_neg (by simp)]
  refine wpAny_binaryOp_repeat_ref (T := "list") (U := "int") (by decide) ⟨_, e, rfl⟩ (fun s' => typeIs_int s' k t) noFill_list_mul F.fills_int_mul F.slot_int_rmul repeat_list F.slot_int_index.lookup
    (call_meets F.slot_int_rmul (typeIs_int s k t) F.entry_int_rmul (F.args_int_rmul_2 _ _) (int___rmul___int_list k t l its.toArray n)
      ⟨e, rfl, ⟨_, e, rfl⟩, call_meets F.slot_list_mul ⟨_, e, rfl⟩ F.entry_list_mul (F.args_list_mul_2 _ _) (AutoListH.list___mul___list_int_3 l its.toArray n k t hfit hcap hlong) ⟨e, ?_⟩⟩)
  rw [hnew]
  exact ⟨.ref _, _, I.lnew (t' := s.toks) (r.rep k.toNat) (by rw [len_rep, Nat.mul_comm]; exact hz), rfl, q _ I.fresh⟩
end
section
variable {prog : Program} {w : World} {A : Around} {E : Value → Shared → Prop} {s : Shared}
end
section
variable {X : Cx}
end
end L2
namespace L2
open PySem PySem.Spec PyProof.Rows
section
variable {κ : Type} [DecidableEq κ]
def valV (kvs : List (κ × V)) (k : κ) : Option V := (kvs.find? fun kv => decide (kv.1 = k)).map (·.2)
def putK (kvs : List (κ × V)) (k : κ) (v : V) : List (κ × V) :=
  if (kvs.any fun kv => decide (kv.1 = k)) = true then kvs.map (fun kv => if kv.1 = k then (kv.1, v) else kv) else kvs ++ [(k, v)]
def dropK (kvs : List (κ × V)) (k : κ) : List (κ × V) := kvs.filter fun kv => decide (kv.1 ≠ k)
theorem valV_pos {p : κ × V} {r : List (κ × V)} {k : κ} (e : p.1 = k) : valV (p :: r) k = some p.2 := by simp [valV, List.find?_cons, e]
theorem valV_neg {p : κ × V} {r : List (κ × V)} {k : κ} (e : ¬ p.1 = k) : valV (p :: r) k = valV r k := by simp [valV, List.find?_cons, e]
theorem valV_any (k : κ) : ∀ kvs : List (κ × V), (kvs.any fun kv => decide (kv.1 = k)) = (valV kvs k).isSome
  | [] => rfl
  | p :: r => by
    rw [List.any_cons]
    by_cases e : p.1 = k
    · simp only [valV_pos e, decide_eq_true e, Bool.true_or, Option.isSome_some]
    · rw [valV_neg e, decide_eq_false e, Bool.false_or]; exact valV_any k r
theorem valV_map (k j : κ) (y : V) : ∀ kvs : List (κ × V), valV (kvs.map fun kv => if kv.1 = k then (kv.1, y) else kv) j = (valV kvs j).map fun x => if j = k then y else x
  | [] => rfl
  | p :: r => by
    have ih := valV_map k j y r
    rw [List.map_cons]
    by_cases h : p.1 = k
    · rw [if_pos h]
      by_cases e : p.1 = j
      · rw [valV_pos (p := (p.1, y)) e, valV_pos e, Option.map_some, if_pos (e.symm.trans h)]
      · rw [valV_neg (p := (p.1, y)) e, valV_neg e, ih]
    · rw [if_neg h]
      by_cases e : p.1 = j
      · rw [valV_pos (p := p) e, valV_pos e, Option.map_some, if_neg (fun z => h (e.trans z))]
      · rw [valV_neg (p := p) e, valV_neg e, ih]
theorem valV_snoc (k j : κ) (y : V) : ∀ kvs : List (κ × V), valV kvs k = none → valV (kvs ++ [(k, y)]) j = if j = k then some y else valV kvs j
  | [], _ => by
    by_cases e : k = j
    · rw [if_pos e.symm]; exact valV_pos (p := (k, y)) e
    · rw [if_neg (fun z => e z.symm)]; exact valV_neg (p := (k, y)) e
  | p :: r, hn => by
    rw [List.cons_append]
    have hk : ¬ p.1 = k := fun z => by rw [valV_pos z] at hn; cases hn
    rw [valV_neg hk] at hn
    have ih := valV_snoc k j y r hn
    by_cases e : p.1 = j
    · rw [valV_pos e, valV_pos e, if_neg (fun z => hk (e.trans z))]
    · rw [valV_neg e, valV_neg e, ih]
theorem valV_put (kvs : List (κ × V)) (k j : κ) (y : V) : valV (putK kvs k y) j = if j = k then some y else valV kvs j := by
  unfold putK
  by_cases a : (kvs.any fun kv => decide (kv.1 = k)) = true
  · rw [if_pos a, valV_map]
    rw [valV_any] at a
    by_cases e : j = k
    · obtain ⟨x, hx⟩ := Option.isSome_iff_exists.mp a
      rw [if_pos e, e, hx, Option.map_some, if_pos rfl]
    · rw [if_neg e]
      cases valV kvs j with
      | none => rfl
      | some x => rw [Option.map_some, if_neg e]
  · rw [if_neg a]
    refine valV_snoc k j y kvs ?_
    rw [valV_any] at a
    cases q : valV kvs k with
    | none => rfl
    | some x => rw [q] at a; exact (a rfl).elim
theorem length_putK (kvs : List (κ × V)) (k : κ) (v : V) : (putK kvs k v).length ≤ kvs.length + 1 := by
  unfold putK
  split
  · rw [List.length_map]; omega
  · rw [List.length_append, List.length_cons, List.length_nil]; omega
theorem RelO.isSome_eq {o : Option V} {u : Option Value} (r : RelO o u) : o.isSome = u.isSome := by
  cases o with
  | none => cases u with
    | none => rfl
    | some _ => exact (show False from r).elim
  | some _ => cases u with
    | none => exact (show False from r).elim
    | some _ => rfl
theorem RelO.getD {o : Option V} {u : Option Value} {d : V} {d' : Value} (r : RelO o u) (rd : RelV d d') : RelV (o.getD d) (u.getD d') := by
  cases o with
  | none => cases u with
    | none => exact rd
    | some _ => exact (show False from r).elim
  | some _ => cases u with
    | none => exact (show False from r).elim
    | some _ => exact r
theorem KV.val {kvs : List (κ × V)} {vs : List (κ × Value)} (r : KV kvs vs) (k : κ) : RelO (valV kvs k) (valueAt vs k) := by
  unfold KV at r
  induction r with
  | nil => exact True.intro
  | @cons p q ps qs h t ih =>
    obtain ⟨h1, h2⟩ := h
    by_cases e : p.1 = k
    · have e' : q.1 = k := h1.symm.trans e
      have b : valueAt (q :: qs) k = some q.2 := by simp [valueAt, List.find?_cons, e']
      rw [valV_pos e, b]; exact h2
    · have e' : ¬ q.1 = k := fun z => e (h1.trans z)
      have b : valueAt (q :: qs) k = valueAt qs k := by simp [valueAt, List.find?_cons, e']
      rw [valV_neg e, b]; exact ih
theorem KV.any {kvs : List (κ × V)} {vs : List (κ × Value)} (r : KV kvs vs) (k : κ) : (kvs.any fun kv => decide (kv.1 = k)) = vs.any fun kv => decide (kv.1 = k) := by
  unfold KV at r
  induction r with
  | nil => rfl
  | cons h t ih => rw [List.any_cons, List.any_cons, ih, h.1]
theorem KV.repl {kvs : List (κ × V)} {vs : List (κ × Value)} (r : KV kvs vs) (k : κ) {y : V} {u : Value} (ry : RelV y u) :
    KV (kvs.map fun kv => if kv.1 = k then (kv.1, y) else kv) (vs.map fun kv => if kv.1 = k then (kv.1, u) else kv) := by
  unfold KV at r ⊢
  induction r with
  | nil => exact .nil
  | @cons p q ps qs h t ih =>
    rw [List.map_cons, List.map_cons]
    refine .cons ?_ ih
    obtain ⟨h1, h2⟩ := h
    by_cases e : p.1 = k
    · rw [if_pos e, if_pos (h1.symm.trans e)]; exact ⟨h1, ry⟩
    · rw [if_neg e, if_neg (fun z => e (h1.trans z))]; exact ⟨h1, h2⟩
theorem KV.put {kvs : List (κ × V)} {vs : List (κ × Value)} (r : KV kvs vs) (k : κ) {y : V} {u : Value} (ry : RelV y u) : KV (putK kvs k y) (stored vs k u) := by
  unfold putK stored
  rw [r.any k]
  by_cases e : (vs.any fun kv => decide (kv.1 = k)) = true
  · rw [if_pos e, if_pos e]; exact r.repl k ry
  · rw [if_neg e, if_neg e]; exact Paired.snoc r ⟨rfl, ry⟩
theorem KV.drop {kvs : List (κ × V)} {vs : List (κ × Value)} (r : KV kvs vs) (k : κ) : KV (dropK kvs k) (without vs k) := by
  unfold KV at r ⊢
  unfold dropK without
  induction r with
  | nil => exact .nil
  | @cons p q ps qs h t ih =>
    obtain ⟨h1, h2⟩ := h
    rw [List.filter_cons, List.filter_cons]
    by_cases e : p.1 = k
    · have a : ¬ decide (p.1 ≠ k) = true := by simp [e]
      have b : ¬ decide (q.1 ≠ k) = true := by simp [h1.symm.trans e]
      rw [if_neg a, if_neg b]; exact ih
    · have e' : ¬ q.1 = k := fun z => e (h1.trans z)
      have a : decide (p.1 ≠ k) = true := by simp [e]
      have b : decide (q.1 ≠ k) = true := by simp [e']
      rw [if_pos a, if_pos b]; exact .cons ⟨h1, h2⟩ ih
theorem KV.keys {kvs : List (κ × V)} {vs : List (κ × Value)} (r : KV kvs vs) : kvs.map (·.1) = vs.map (·.1) := by
  unfold KV at r
  induction r with
  | nil => rfl
  | cons h t ih => rw [List.map_cons, List.map_cons, ih, h.1]
theorem KV.length {kvs : List (κ × V)} {vs : List (κ × Value)} (r : KV kvs vs) : kvs.length = vs.length := Paired.length r
end
theorem kV_is {P : Program} {w : World} {k : Key} {u : Value} (r : RelV (kV k) u) : (mixKind P w).is k u = true := by
  cases k with
  | inl i => obtain ⟨t, e⟩ := (show ∃ t, u = Value.int i t from r); subst e; exact mixKind_int P w i t
  | inr x => obtain ⟨t, e⟩ := (show ∃ t, u = Value.str x t from r); subst e; exact mixKind_str P w x t
theorem items_are {P : Program} {w : World} : ∀ {ks : List Key} {us : List Value}, Vals (ks.map kV) us → ItemsAre (mixKind P w) ks us
  | [], _, r => by rw [List.map_nil] at r; cases r; exact .nil
  | k :: ks, _, r => by
    rw [List.map_cons] at r
    cases r with
    | cons h t => exact .cons (kV_is h) (items_are t)
abbrev KT (H : Hp) : List (List Key × V) → List (List Key × Addr × Value) → Prop := Paired fun p q => p.1 = q.1 ∧ H q.2.1 = some (.tup (p.1.map kV)) ∧ RelV p.2 q.2.2
theorem KT.val {H : Hp} {kvs : List (List Key × V)} {xs : List (List Key × Addr × Value)} (r : KT H kvs xs) (k : List Key) : RelO (valV kvs k) ((atKey xs k).map (·.2)) := by
  induction r with
  | nil => exact True.intro
  | @cons p q ps qs h t ih =>
    obtain ⟨h1, _, h2⟩ := h
    by_cases e : p.1 = k
    · have e' : q.1 = k := h1.symm.trans e
      have b : atKey (q :: qs) k = some q.2 := by simp [atKey, List.find?_cons, e']
      rw [valV_pos e, b]; exact h2
    · have e' : ¬ q.1 = k := fun z => e (h1.trans z)
      have b : atKey (q :: qs) k = atKey qs k := by simp [atKey, List.find?_cons, e']
      rw [valV_neg e, b]; exact ih
theorem KT.repl {H : Hp} {kvs : List (List Key × V)} {xs : List (List Key × Addr × Value)} (r : KT H kvs xs) (k : List Key) {y : V} {u : Value} (ry : RelV y u) :
    KT H (kvs.map fun kv => if kv.1 = k then (kv.1, y) else kv) (xs.map (putAt k u)) := by
  induction r with
  | nil => exact .nil
  | @cons p q ps qs h t ih =>
    rw [List.map_cons, List.map_cons]
    refine .cons ?_ ih
    obtain ⟨h1, h2, h3⟩ := h
    unfold putAt
    by_cases e : p.1 = k
    · rw [if_pos e, if_pos (h1.symm.trans e)]; exact ⟨h1, h2, ry⟩
    · rw [if_neg e, if_neg (fun z => e (h1.trans z))]; exact ⟨h1, h2, h3⟩
theorem KT.put {H : Hp} {kvs : List (List Key × V)} {xs : List (List Key × Addr × Value)} (r : KT H kvs xs) (k : List Key) {b : Addr} {y : V} {u : Value} (hb : H b = some (.tup (k.map kV))) (ry : RelV y u) :
    KT H (putK kvs k y) (storedH xs k b u) := by
  have e : (kvs.any fun kv => decide (kv.1 = k)) = (atKey xs k).isSome := by
    rw [valV_any, (r.val k).isSome_eq, Option.isSome_map]
  unfold putK storedH
  rw [e]
  by_cases q : (atKey xs k).isSome = true
  · rw [if_pos q, if_pos q]; exact r.repl k ry
  · rw [if_neg q, if_neg q]; exact Paired.snoc r ⟨rfl, hb, ry⟩
theorem KT.keeps {H H' : Hp} {kvs : List (List Key × V)} {xs : List (List Key × Addr × Value)} (r : KT H kvs xs) (ht : ∀ b ys, H b = some (.tup ys) → H' b = some (.tup ys)) : KT H' kvs xs :=
  Paired.mapP r fun _ _ z => ⟨z.1, ht _ _ z.2.1, z.2.2⟩
section
variable {P : Program} {w : World} {H : Hp} {h : Heap} {a : Addr}
theorem rd_of {u : HO} (ok : HOk P w H h) (e : Rd H a u) : ObjOk P w H h a u := e.ok ok
theorem dk_rd {kvs : List (Key × V)} (ok : HOk P w H h) (e : Rd H a (.dK kvs)) : kvs.length ≤ sizeLine ∧ (a == sysModules) = false ∧ ∃ vs, KV kvs vs ∧ h.DictOf (mixKind P w) a vs :=
  show ObjOk P w H h a (.dK kvs) from rd_of ok e
theorem dk_of {kvs : List (Key × V)} (ok : HOk P w H h) (e : H a = some (.dK kvs)) : kvs.length ≤ sizeLine ∧ (a == sysModules) = false ∧ ∃ vs, KV kvs vs ∧ h.DictOf (mixKind P w) a vs := dk_rd ok (.inl e)
theorem key_of {ks : List Key} (ok : HOk P w H h) (e : H a = some (.tup (ks.map kV))) : (tupleKind (mixKind P w)).is h ks a := by
  obtain ⟨_, its, r, o, h1, h2, n, h3⟩ := (show ObjOk P w H h a (.tup (ks.map kV)) from ok a _ e)
  exact ⟨o, its.toArray, n, h1, h2, h3, by simpa using items_are r⟩
theorem dt_rd {kvs : List (List Key × V)} (ok : HOk P w H h) (e : Rd H a (.dT kvs)) : kvs.length ≤ sizeLine ∧ (a == sysModules) = false ∧
    ∃ xs, KT H kvs xs ∧ h.DictOfH (tupleKind (mixKind P w)) a xs := by
  obtain ⟨z, y, xs, r, o, es, ep, h1, h2, h3, h4, h5⟩ := (show ObjOk P w H h a (.dT kvs) from rd_of ok e)
  refine ⟨z, y, xs, r, o, es, ep, h1, h2, h3, h4, fun x hx => ?_, h5⟩
  have all : ∀ {l : List (List Key × V)} {m : List (List Key × Addr × Value)}, KT H l m → ∀ x ∈ m, (tupleKind (mixKind P w)).is h x.1 x.2.1 := by
    intro l m q
    induction q with
    | nil => intro x hx; exact nomatch hx
    | @cons p q ps qs hq t ih =>
      intro x hx
      rcases List.mem_cons.mp hx with e | hx
      · subst e
        exact key_of ok (by rw [← hq.1]; exact hq.2.1)
      · exact ih x hx
  exact all r x hx
theorem dt_of {kvs : List (List Key × V)} (ok : HOk P w H h) (e : H a = some (.dT kvs)) : kvs.length ≤ sizeLine ∧ (a == sysModules) = false ∧
    ∃ xs, KT H kvs xs ∧ h.DictOfH (tupleKind (mixKind P w)) a xs := dt_rd ok (.inl e)
end
def DGet (H : Hp) (a : Addr) (y : V) (r : Option V) : Prop :=
  (∃ kvs k, Rd H a (.dK kvs) ∧ y = kV k ∧ r = valV kvs k) ∨ ∃ kvs k b, Rd H a (.dT kvs) ∧ y = .ref b ∧ H b = some (.tup (k.map kV)) ∧ r = valV kvs k
def DPut (H : Hp) (a : Addr) (y v : V) (H' : Hp) : Prop :=
  (∃ kvs k, H a = some (.dK kvs) ∧ y = kV k ∧ kvs.length < sizeLine ∧ H' = upd H a (.dK (putK kvs k v))) ∨
  ∃ kvs k b, H a = some (.dT kvs) ∧ y = .ref b ∧ H b = some (.tup (k.map kV)) ∧ kvs.length < sizeLine ∧ H' = upd H a (.dT (putK kvs k v))
theorem DGet.k {H : Hp} {a : Addr} {kvs : List (Key × V)} {k : Key} (e : H a = some (.dK kvs)) : DGet H a (kV k) (valV kvs k) := .inl ⟨kvs, k, .inl e, rfl, rfl⟩
theorem DGet.t {H : Hp} {a b : Addr} {kvs : List (List Key × V)} {k : List Key} (e : H a = some (.dT kvs)) (eb : H b = some (.tup (k.map kV))) : DGet H a (.ref b) (valV kvs k) := .inr ⟨kvs, k, b, .inl e, rfl, eb, rfl⟩
theorem DPut.k {H : Hp} {a : Addr} {kvs : List (Key × V)} {k : Key} {v : V} (e : H a = some (.dK kvs)) (hl : kvs.length < sizeLine) : DPut H a (kV k) v (upd H a (.dK (putK kvs k v))) := .inl ⟨kvs, k, e, rfl, hl, rfl⟩
theorem DPut.t {H : Hp} {a b : Addr} {kvs : List (List Key × V)} {k : List Key} {v : V} (e : H a = some (.dT kvs)) (eb : H b = some (.tup (k.map kV))) (hl : kvs.length < sizeLine) :
    DPut H a (.ref b) v (upd H a (.dT (putK kvs k v))) := .inr ⟨kvs, k, b, e, rfl, eb, hl, rfl⟩
section
variable {X : Cx} {pins : List (Addr × Obj)} {σ : St} {H : Hp} {s : Shared} {a : Addr} {y v : V} {u r : Value} {o : Option V} {A : Around} {E : Value → Shared → Prop}
theorem Inv.big (I : Inv X pins σ H s) : sysModules < s.heap.objs.size := by
  have h : mainGlobals < s.heap.objs.size := (I.mod.glob.keeps I.bk).lt
  exact Nat.lt_trans (by decide) h
theorem d_in {Q : Value → Shared → Prop} (hu : A.units + 1 < cLine) (I : Inv X pins σ H s) (g : DGet H a y o) (ry : RelV y u) (h : ∀ s', Inv X pins σ H s' → Q (.bool o.isSome) s') :
    wpAny (model X.prog X.w) A (compareOp .In u (.ref a)) Q E s := by
  rcases g with ⟨kvs, k, e, ey, l⟩ | ⟨kvs, k, b, e, ey, eb, l⟩
  · subst ey
    obtain ⟨z, hd, vs, rel, dd⟩ := dk_rd I.hok e
    refine wpAny_in_of (kV_is ry) hd dd.mapOf ?_
    rw [← (rel.val k).isSome_eq, ← l]
    exact h _ (I.tok _)
  · subst ey
    cases (show u = Value.ref b from ry)
    obtain ⟨z, hd, xs, rel, dd⟩ := dt_rd I.hok e
    refine wpAny_in_heap (tupleKind_room_in1 hu) (key_of I.hok eb) hd dd ?_
    have q := (rel.val k).isSome_eq
    rw [Option.isSome_map] at q
    rw [← q, ← l]
    exact h _ (I.tok _)
theorem d_write {h' : Heap} {t' : Nat} {ob : HO} (I : Inv X pins σ H s) (mu : Mut (H a)) (hs : Heap.SameBut a s.heap h') (he : ∃ q, h'.get? a = some q) (new : ObjOk X.prog X.w (upd H a ob) h' a ob) :
    Inv X pins σ (upd H a ob) { s with heap := h', toks := t' } :=
  I.write (x := a) (e := a) mu (.inl rfl) (fun b q hb z => (hs.2 b hb).trans z) he new
theorem dk_new {P : Program} {w : World} {H' : Hp} {h' : Heap} {kvs : List (Key × V)} {vs : List (Key × Value)} (z : kvs.length ≤ sizeLine) (hd : (a == sysModules) = false) (rel : KV kvs vs) (dd : h'.DictOf (mixKind P w) a vs) :
    ObjOk P w H' h' a (.dK kvs) := ⟨z, hd, vs, rel, dd⟩
theorem d_setItem {H' : Hp} {Q : Unit → Shared → Prop} (hu : A.units + 1 < cLine) (I : Inv X pins σ H s) (g : DPut H a y v H') (ry : RelV y u) (rv : RelV v r) (h : ∀ s', Inv X pins σ H' s' → Q () s') :
    wpAny (model X.prog X.w) A (setItem (.ref a) u r) Q E s := by
  rcases g with ⟨kvs, k, e, ey, l, eH⟩ | ⟨kvs, k, b, e, ey, eb, l, eH⟩
  · subst ey eH
    obtain ⟨z, hd, vs, rel, dd⟩ := dk_of I.hok e
    have hz : vs.length ≤ sizeLine := by rw [← rel.length]; exact z
    have hl : (putK kvs k v).length ≤ sizeLine := by have := length_putK kvs k v; omega
    refine wpAny_setItem_pairs (hsz := hz) (kV_is ry) dd fun h' dd' hs => h _ ?_
    have he : ∃ q, h'.get? a = some q := let ⟨q, _, _, hq, _⟩ := dd'; ⟨q, hq⟩
    exact d_write I (by rw [e]; exact True.intro) hs he (dk_new hl hd (rel.put k rv) dd')
  · subst ey eH
    cases (show u = Value.ref b from ry)
    obtain ⟨z, hd, xs, rel, dd⟩ := dt_of I.hok e
    have hz : xs.length ≤ sizeLine := by rw [← Paired.length rel]; exact z
    have hl : (putK kvs k v).length ≤ sizeLine := by have := length_putK kvs k v; omega
    refine wpAny_setItem_heap (hsz := hz) (tupleKind_room_in1 hu) (key_of I.hok eb) dd fun h' dd' hs => h _ ?_
    obtain ⟨q, es, ep, hq, h2, h3, h4, _, h5⟩ := dd'
    refine d_write I (by rw [e]; exact True.intro) hs ⟨q, hq⟩ ⟨hl, hd, _, (rel.put k eb rv).keeps fun c ys ec => ?_, q, es, ep, hq, h2, h3, h4, h5⟩
    rw [upd_ne (ne_of ec e (fun z => nomatch z))]
    exact ec
end
section
variable {X : Cx} {pins : List (Addr × Obj)} {σ : St} {H : Hp} {s : Shared} {a : Addr} {kvs : List (Key × V)} {k : Key} {u : Value} {A : Around} {E : Value → Shared → Prop}
end
def NoSl (i : Expr) : Prop := ∀ ov iv, subscripted i false ov iv = operate [ov, iv] (getItem ov iv)
theorem subD_of {prog : Program} {w : World} {A : Around} {E : Value → Shared → Prop} {s : Shared} {env : Env} {value slice : Expr} {pos : Pos} {T id : String} {Q : Value → Shared → Prop}
    (hl : typeLookup (.type T) "__getitem__" = pure (some (.builtin id))) (hs : NoSl slice)
    (h : wpAny (model prog w) A (eval value env) (fun o s₁ => wpAny (model prog w) A (eval slice env) (fun i s₂ => s₂.TypeIs o T ∧ wpAny (model prog w) A (getItem o i) Q E s₂) E s₁) E s) :
    wpAny (model prog w) A (eval (.Subscript value slice pos) env) Q E s := by
  refine Subscript_ (wpAny_mono h (fun o s₁ h₁ => wpAny_mono h₁ (fun i s₂ h₂ => ?_) fun _ _ x => x) fun _ _ x => x)
  obtain ⟨hT, h₂⟩ := h₂
  unfold subscriptTail
  refine wpAny_bind ?_
  rw [getitemInPython_of_ne hT.not_modules]
  refine wpAny_bind (wpAny_specialOf hT hl ?_)
  have fin : wpAny (model prog w) A (subscripted slice false o i) (fun r s₃ => wpAny (model prog w) A (letTemporaryGo value o r >>= fun _ => pure r) Q E s₃) E s₂ := by
    rw [hs o i]
    exact wpAny_operating (wpAny_mono h₂ (fun r s₃ h₃ => wpAny_bind (wpAny_letTemporaryGo (wpAny_pure h₃))) fun _ _ x => x)
  first
    | exact wpAny_pure (wpAny_bind fin)
    | exact wpAny_bind (wpAny_pure (wpAny_bind fin))
    | exact wpAny_bind fin
def tDGet (td ty : TE) : TE := fun σ H Q => td σ H fun x H1 => ty σ H1 fun y H2 => ∃ a v, x = .ref a ∧ DGet H2 a y (some v) ∧ Q v H2
def tDIn (ty td : TE) : TE := fun σ H Q => ty σ H fun y H1 => td σ H1 fun x H2 => ∃ a o, x = .ref a ∧ DGet H2 a y o ∧ Q (.bl o.isSome) H2
def sDPut (td ty tv : TE) : TS := fun D σ H => tv σ H fun v H1 => td σ H1 fun x H2 => ty σ H2 fun y H3 => ∃ a H4, x = .ref a ∧ DPut H3 a y v H4 ∧ D.nx σ H4
section
variable {X : Cx} {o i e value : Expr} {pos pos' tpos : Pos} {td ty tv : TE}
theorem pc_din (hu : X.A.units + 1 < cLine) (hi : PE X i ty) (ho : PE X o td) : PC X .In i o (tDIn ty td) := by
  intro pins s σ H Q I h
  refine thn (hi pins s σ H _ I h) fun iv s1 ⟨y, H1, I1, ry, q1⟩ => thn (ho pins s1 σ H1 _ I1 q1) fun u s2 ⟨x, H2, I2, rx, a, ov, ex, g, q2⟩ => ?_
  subst ex
  obtain rfl : u = Value.ref a := rx
  exact d_in hu I2 g ry fun s3 I3 => ⟨.bl ov.isSome, H2, I3, rfl, q2⟩
theorem ps_dput (hu : X.A.units + 1 < cLine) (ho : PE X o td) (hi : PE X i ty) (hv : PE X value tv) (hs : swapsWith value (some (.Subscript o i pos')) pos.line X.env = pure false) :
    PS X (.Assign [.Subscript o i pos'] value pos) (sDPut td ty tv) := by
  intro pins s σ H D I h
  refine wpAny_Assign_Subscript (thn (hv pins s σ H _ I h) fun r s1 ⟨v, H1, I1, rv, q1⟩ => thn (ho pins s1 σ H1 _ I1 q1) fun u s2 ⟨x, H2, I2, rx, q2⟩ => thn (hi pins s2 σ H2 _ I2 q2) fun iv s3 ⟨y, H3, I3, ry, a, H4, ex, g, q3⟩ => ?_) hs
  subst ex
  obtain rfl : u = Value.ref a := rx
  exact d_setItem hu I3 g ry rv fun s4 I4 => ⟨σ, H4, I4, q3⟩
end
theorem dk_empty {P : Program} {w : World} {H : Hp} (h : Heap) (hb : sysModules < h.objs.size) : ObjOk P w H (h.push { cls := .type "dict", data := .dict #[] }) h.objs.size (.dK []) :=
  ⟨Nat.zero_le _, beq_eq_false_iff_ne.mpr (Ne.symm (Nat.ne_of_lt hb)), [], .nil, Heap.DictOf.new h⟩
def tDNewK : TE := fun _ H Q => ∀ p, H p = none → Q (.ref p) (upd H p (.dK []))
section
variable {X : Cx} {pos : Pos}
theorem pe_dnewK : PE X (.Dict [] [] pos) tDNewK := fun pins s σ H Q I h =>
  wpAny_Dict_empty ⟨.ref s.heap.objs.size, _, I.laid (a := s.heap.objs.size) (o := .dK []) (t' := s.toks) (fun _ _ q => Heap.get?_push_of_some _ q) (Nat.le_refl _) (dk_empty s.heap I.big), rfl, h _ (I.hok.fresh (Nat.le_refl _))⟩
end
def tPairs : List (TE × TE) → St → Hp → (List (V × V) → Hp → Prop) → Prop
  | [], _, H, Q => Q [] H
  | (tk, tv) :: r, σ, H, Q => tk σ H fun x H1 => tv σ H1 fun y H2 => tPairs r σ H2 fun ps H3 => Q ((x, y) :: ps) H3
abbrev VV : List (V × V) → List (Value × Value) → Prop := Paired fun p q => RelV p.1 q.1 ∧ RelV p.2 q.2
def PPs (X : Cx) (pos : Pos) (keys : List (Option Expr)) (values : List Expr) (trs : List (TE × TE)) : Prop :=
  ∀ (pins : List (Addr × Obj)) (s : Shared) (σ : St) (H : Hp) (Q : List (V × V) → Hp → Prop), Inv X pins σ H s → tPairs trs σ H Q →
    wpAny (model X.prog X.w) X.A (evalPairs (pairTrees keys values X.env pos)) (fun vs s' => ∃ ps H', Inv X pins σ H' s' ∧ VV ps vs ∧ Q ps H') X.xe s
section
variable {X : Cx} {pins : List (Addr × Obj)} {σ : St} {H : Hp} {s : Shared} {a : Addr} {y d : V} {u r : Value} {o : Option V} {A : Around} {E : Value → Shared → Prop}
end
section
variable {X : Cx} {o e f : Expr} {apos cpos : Pos} {td ty tx : TE}
end
section
variable {X : Cx} {pins : List (Addr × Obj)} {σ : St} {H : Hp} {s : Shared} {a : Addr} {kvs : List (Key × V)} {A : Around} {E : Value → Shared → Prop}
end
section
variable {X : Cx} {pins : List (Addr × Obj)} {σ : St} {H : Hp} {s : Shared} {a : Addr} {y : V} {u : Value} {A : Around} {E : Value → Shared → Prop}
end
end L2
namespace Att
open PySem PySem.W PySem.Calls PyProof.Rows
theorem ints_of_wellAll {P : Params} {h : Heap} : ∀ (ns : List Int) (vs : List Value), WellAll P h vs (ns.map WData.int) → IntsAre vs ns := by
  intro ns
  induction ns with
  | nil =>
    intro vs w
    rw [List.map_nil] at w
    cases w
    exact .nil
  | cons n ns ih =>
    intro vs w
    rw [List.map_cons] at w
    cases w with
    | cons a b =>
      cases a
      exact .cons _ _ (ih _ b)
theorem script_of {l : OpenLaw} {n : Nat} (hn : l.most = some n) {P : Params} {h : Heap} {args : List WData} {vals : List Value}
    (hpre : l.row.toRowW.claim.pre args = true) (hwl : WellAll P h vals args) :
    ∃ a vs ns, vals = [Value.ref a] ∧ args = [WData.list (ns.map WData.int)] ∧ h.get? a = some { cls := .type "list", data := .seq vs.toArray } ∧ IntsAre vs ns ∧ ns.length ≤ n := by
  have hsh : WShape.hasAll [] args [.list .int] = true := (pre_splitW hpre).1
  have hc : l.pre.holds [] { args := args } = true := (pre_splitW hpre).2
  obtain ⟨d, r, rfl, h1, h2⟩ := hasAllW_cons hsh
  obtain rfl := hasAllW_nil h2
  obtain ⟨xs, rfl, h3⟩ := hasW_list h1
  obtain ⟨ns, rfl⟩ := items_int h3
  have hlen : ns.length ≤ n := by
    unfold OpenLaw.pre at hc
    have h4 : (WTm.not (.lt (.lit (.int (n : Int))) (.len (.arg 0)))).holds [] { args := [.list (ns.map .int)] } = true := by
      have h4 := (holds_andW hc).1
      rw [hn] at h4
      exact h4
    have h5 := condW_of h4 (w_not (w_lt w_lit (w_len_list (w_arg rfl))))
    rw [List.length_map] at h5
    refine Nat.le_of_not_lt fun q => ?_
    have q' : (n : Int) < ((ns.length : Nat) : Int) := by omega
    first
      | (rw [decide_eq_true q'] at h5; exact absurd h5 (by decide))
      | (simp at h5; omega)
  cases hwl with
  | cons w1 w2 =>
    cases w2
    cases w1 with
    | list ho hall => exact ⟨_, _, ns, rfl, rfl, ho, ints_of_wellAll ns _ hall, hlen⟩
theorem post_true (l : OpenLaw) (args : List WData) : l.row.toRowW.claim.post args (.bool true) args = true :=
  postW_of (r := l.row.toRowW) (X := (true == true))
    (show WShape.has [] (.bool true) .bool = true by first | rfl | decide | simp [WShape.has, WShape.arms, WShape.armsAll])
    (show (WTm.eq .res (.lit (.bool true))).value [] { args := args, res := some (.bool true), after := args } = some (.bool (true == true)) from w_eq_bool (w_res rfl) w_lit) rfl
theorem attach_call {l : OpenLaw} {n : Nat} {q : Program} {loose : List Str} {XP : (Str → Option Value) → Heap → Prop} {YP : World → Heap → Prop} {d : DefRec}
    (hn : l.most = some n) (hdf : d.params.defaults = [])
    (call : ∀ (w : World) (s₀ s₁ : Shared) (mg mb : Str → Option Value) (fa : Addr) (o : Obj) (pm cd doc : Value) (a : Addr) (vs : List Value) (ns : List Int),
      Ground q loose [] XP w s₀ mg mb s₁.heap → YP w s₁.heap →
      s₁.heap.get? fa = some o → o.data = .func (docDef d.name d.params d.body d.scope pm cd doc) → s₁.heap.CodeRec cd d.name → mg d.name = some (.ref fa) →
      s₁.heap.get? a = some { cls := .type "list", data := .seq vs.toArray } → IntsAre vs ns → ns.length ≤ n → s₁.gens = #[] →
      codeAny (model l.prog w) callerA (.call (.ref fa) ⟨[.ref a], []⟩) (fun r s' => r = .ok (.ret (.bool true)) ∧ OldK s₁.heap s'.heap ∧ s'.os = s₁.os ∧ AllBare s'.gens) s₁) :
    WalkO q loose XP YP l.row.toRowW d [] (fun f vs => PySem.call f vs) := by
  intro w s₀ s₁ mg mb G Y fa o pm cd doc dV kV ho hd hcd hD hmg hg args vals as hpre hlay hrd hwl hlo
  obtain rfl : dV = .none := Dflts.none hD hdf
  obtain rfl : kV = .none := Dflts.noKw hD
  obtain ⟨a, vs, ns, rfl, rfl, hobj, hints, hlen⟩ := script_of hn hpre hwl
  refine enter_call (codeAny_mono (call w s₀ s₁ mg mb fa o pm cd doc a vs ns G Y ho (fd_plain hd) hcd hmg hobj hints hlen hg) fun r s' hq => ?_)
  obtain ⟨rfl, h2, h3, h4⟩ := hq
  exact ⟨.inl ⟨.bool true, .bool true, [], rfl, fun _ => rfl, .bool true, post_true l _, fun _ => ⟨List.Pairwise.nil, fun _ hm => (nomatch hm)⟩⟩, h2, h3, h4⟩
section
variable {prog : Program} {w : World} {A : Around} {E : Value → Shared → Prop} {s : Shared} {K : Frag}
end
end Att
namespace L2
open PySem PySem.Spec PyProof.Rows
theorem vals_ints : ∀ {vs : List Value} {ns : List Int}, IntsAre vs ns → Vals (ns.map V.int) vs
  | _, _, .nil => .nil
  | _, _, .cons n t h => .cons ⟨t, rfl⟩ (vals_ints h)
def Only (H : Hp) : Prop := ∀ b, H b = none ∨ ∃ o xs, H b = some (.frz o (.lst xs))
theorem law_call {P : Program} {w : World} {K : PySem.W.Frag} {mg mb : Str → Option Value} {CX : CXT} {k : Nat} {fa a : Addr} {fd : FuncData} {x : Str} {sp : Sp} {s₁ : Shared} {vs : List Value} {ns : List Int}
    (KX : K.In s₁.heap) (hns : s₁.heap.Ns mainGlobals mg) (hb : s₁.heap.Ns builtinsNs mb) (hbb : ∀ x : Str, x ≠ "__name__" → mb x = bootBuiltins x) (hlim : s₁.heap.NoLimit) (hg : s₁.gens = #[])
    (ha : s₁.heap.get? a = some { cls := .type "list", data := .seq vs.toArray }) (hi : IntsAre vs ns) (hl : ns.length ≤ sizeLine) (hr : Room k callerA)
    (F : ∀ base : Heap, K.In base → base.Ns mainGlobals mg → FnOk P w K mg base CX k fa fd [x] sp) (hbind : ∀ (s : Shared) (u : Value), BindsTo s fd ⟨[u], []⟩ [(x, u)])
    (hsp : ∀ H : Hp, Only H → SqL K H a (ns.map V.int) → sp [.ref a] H (fun v _ => v = .bl true) fun _ _ _ => False)
    (hCX : ∀ H e s', CX [] H s₁ (fun _ _ _ => False) e s' → False) :
    codeAny (model P w) callerA (.call (.ref fa) ⟨[.ref a], []⟩) (fun r s' => r = .ok (.ret (.bool true)) ∧ OldK s₁.heap s'.heap ∧ s'.os = s₁.os ∧ AllBare s'.gens) s₁ := by
  have rv := vals_ints hi
  have lenV := hi.length
  -- from an abstract heap in which nothing but the script may be tracked
  have core : ∀ H : Hp, Only H → SqL K H a (ns.map V.int) → HOk P w H s₁.heap → (∀ b, H b ≠ none → b = a) → (H a ≠ none → K.lookup a = none) →
      codeAny (model P w) callerA (.call (.ref fa) ⟨[.ref a], []⟩) (fun r s' => r = .ok (.ret (.bool true)) ∧ OldK s₁.heap s'.heap ∧ s'.os = s₁.os ∧ AllBare s'.gens) s₁ := by
    intro H hO hS hok hA hK
    have base_of : ∀ {b : Addr} {o : Obj}, s₁.heap.get? b = some o → H b = none → (hidT s₁.heap H).get? b = some o := fun e n => hidT_get e n
    have noA : ∀ {b : Addr} {o : Obj} {es : Array DictEntry} {ep : Nat}, s₁.heap.get? b = some o → o.data = .dict es ep → H b = none := fun {b o es ep} e d => by
      cases q : H b with
      | none => rfl
      | some u =>
        have e' : b = a := hA b (by rw [q]; simp)
        subst e'
        rw [ha] at e; cases e
        have d' : Data.seq vs.toArray _ = Data.dict es ep := d
        cases d'
    have nsK : ∀ {b : Addr} {m : Str → Option Value}, s₁.heap.Ns b m → (hidT s₁.heap H).Ns b m := fun {b m} ⟨o, es, ep, e, d, r⟩ => ⟨o, es, ep, base_of e (noA e d), d, r⟩
    have hKb : K.In (hidT s₁.heap H) := fun b o e => base_of (KX b o e) (by
      cases q : H b with
      | none => rfl
      | some u =>
        have e' : b = a := hA b (by rw [q]; simp)
        subst e'
        rw [hK (by rw [q]; simp)] at e; cases e)
    have hM : Mod K mg (hidT s₁.heap H) := ⟨hKb, nsK hns, ⟨mb, nsK hb, hbb⟩, let ⟨mc, h1, h2⟩ := hlim; ⟨mc, nsK h1, h2⟩⟩
    have e0 : Env0 P w K mg (hidT s₁.heap H) callerA [] s₁ H := ⟨rfl, hM, fun b o e => of_hidT e, Nat.le_of_eq (hidT_size _ _), trivial, fun b hb => absurd (show b ∈ ([] : List Addr) from hb) (by simp), hok, .of_eq hg⟩
    refine codeAny_mono ((F _ hKb (nsK hns)).run callerA [] s₁ H ⟨[.ref a], []⟩ [.ref a] [.ref a] _ _ hr e0 (hbind s₁ (.ref a)) (.cons rfl .nil) (hsp H hO hS)) fun r s' h => ?_
    cases r with
    | error e => exact (hCX H e s' h).elim
    | ok fl =>
      cases fl with
      | next => exact False.elim h
      | brk => exact False.elim h
      | cont => exact False.elim h
      | ret u =>
        obtain ⟨v, H', os, bare, un, hok', r', q⟩ := h
        have q' : v = .bl true := q
        subst q'
        obtain rfl : u = Value.bool true := r'
        refine ⟨rfl, OldK.of_keep fun b o e => ?_, os, bare⟩
        cases q : H b with
        | none => exact un.keep b o e q (by intro z; exact absurd (show b ∈ ([] : List Addr) from z) (by simp)) (by simp)
        | some u =>
          rcases hO b with z | ⟨ob, xs, z⟩
          · rw [q] at z; cases z
          · have z2 := un.frzs b ob _ z
            obtain ⟨e1, _⟩ := hok b _ z
            obtain ⟨e2, _⟩ := hok' b _ z2
            rw [e] at e1; cases e1
            exact e2
  cases hk : K.lookup a with
  | some o =>
    -- the script is one of the module's own objects
    have e := KX a o hk
    rw [ha] at e
    cases e
    refine core (fun _ => none) (fun _ => .inl rfl) (.inr ⟨_, vs.toArray, _, hk, rfl, rfl, rfl, by rw [List.size_toArray, lenV]; exact hl, by simpa using rv⟩) (fun b u z => by have z' : (none : Option HO) = some u := z; cases z') (fun b z => absurd rfl z) fun z => absurd rfl z
  | none =>
    refine core (fun b => if b = a then some (.frz { cls := .type "list", data := .seq vs.toArray } (.lst (ns.map V.int))) else none) (fun b => ?_) (.inl (.inr ⟨{ cls := .type "list", data := .seq vs.toArray }, if_pos rfl⟩)) (fun b u z => ?_) (fun b z => ?_) fun _ => hk
    · by_cases hb : b = a
      · exact .inr ⟨_, _, if_pos hb⟩
      · exact .inl (if_neg hb)
    · by_cases hb : b = a
      · have z' := (if_pos hb).symm.trans z
        cases z'
        subst hb
        exact ⟨ha, by rw [List.length_map]; exact hl, vs, _, rv, ha⟩
      · have z' := (if_neg hb).symm.trans z
        cases z'
    · by_cases hb : b = a
      · exact hb
      · exact absurd (if_neg hb) z
end L2
namespace L2
open PySem PySem.Spec PyProof.Rows
theorem walk_of {l : PySem.W.OpenLaw} {n k : Nat} {q : Program} {loose : List Str} {XP : (Str → Option Value) → Heap → Prop} {YP : World → Heap → Prop} {d : DefRec} {K : Params → PySem.W.Frag} {CX : World → CXT} {sp : World → Sp} {x : Str}
    (hn : l.most = some n) (hn2 : n ≤ sizeLine) (hdf : d.params.defaults = []) (hr : Room k callerA)
    (hY : ∀ (w : World) (h : Heap), YP w h → (K w.params).In h)
    (F : ∀ (w : World) (mg : Str → Option Value) (fa : Addr) (h : Heap), (K w.params).In h → h.Ns mainGlobals mg → mg d.name = some (.ref fa) →
      ∃ fd : FuncData, (∀ (s : Shared) (u : Value), BindsTo s fd ⟨[u], []⟩ [(x, u)]) ∧
        ∀ base : Heap, (K w.params).In base → base.Ns mainGlobals mg → FnOk l.prog w (K w.params) mg base (CX w) k fa fd [x] (sp w))
    (hsp : ∀ (w : World) (H : Hp) (a : Addr) (ns : List Int), ns.length ≤ n → Only H → SqL (K w.params) H a (ns.map V.int) → sp w [.ref a] H (fun v _ => v = .bl true) fun _ _ _ => False)
    (hCX : ∀ (w : World) (H : Hp) (s : Shared) (e : Value) (s' : Shared), CX w [] H s (fun _ _ _ => False) e s' → False) :
    PySem.W.WalkO q loose XP YP l.row.toRowW d [] (fun f vs => PySem.call f vs) := by
  refine Att.attach_call hn hdf fun w s₀ s₁ mg mb fa o pm cd doc a vs ns G Y ho hd hcd hmg hobj hints hlen hg => ?_
  have KX := hY w _ Y
  obtain ⟨fd, hb, hF⟩ := F w mg fa _ KX G.T.g hmg
  exact law_call KX G.T.g G.T.b G.T.builtins G.T.nolimit hg hobj hints (Nat.le_trans hlen hn2) hr hF hb (fun H hO hS => hsp w H a ns hlen hO hS) fun H e s' => hCX w H s₁ e s'
end L2
/- THE LAST THEOREM (shape; LID, My.* are yours):
   My.Adr: a structure of the addresses that your layer names (classes, functions); My.Txt K t: a structure (Prop) of the equations over K;
   My.txt_mk : {K} {implicit addresses ..} (e1 : nsIn K mainGlobals "law" = some (some (.ref f))) (e2 : K.lookup f = some ⟨oc, od, .func (fnOf "law" "law" params body scope dV kV doc pm an cdv ct), sl⟩) (e3 : codeIn K cdv "law" = true) .. : ∃ t, My.Txt K t

set_option maxRecDepth 100000 in
set_option maxHeartbeats 0 in
theorem PySem.Challenge.cw_LID_holds : PySem.Challenge.rw_LID.Holds := by
  w_on; o_law; k_head; (case hw => w_witness2)
  k_fill
  refine L2.walk_of (l := PySem.Challenge.rw_LID) (n := 63) (k := 40) (x := "script") (CX := fun w => ..) (sp := fun _ => My.sp_law) rfl (by decide) rfl ⟨rfl, by decide, by decide⟩ (fun w h Y => PySem.W.kIn_of Y) ?F ?S ?C
  case F =>
    intro w mg fa h KX G hmg
    have T : ∃ t, My.Txt (L2.KOf KX) t := by
      dsimp only [L2.KOf]                          -- K must stand as «<heap const> w.params» for k_is
      refine' My.txt_mk ?e1 ?e2 ?e3 ..
      (case e1 => PySem.W.k_is)                    -- in the order: a name -> its address -> its object -> its parts
      (case e2 => PySem.W.k_is)
      ..
    obtain ⟨t, T⟩ := T
    have e0 := hmg.symm.trans (PySem.W.mg_of KX G T.law)
    cases e0                                       -- fa is the law's own address
    exact ⟨_, fun s u => .of_eq rfl, fun base kb nb => My.law_fn T kb nb⟩     -- if «.of_eq rfl» comes too early: refine' ⟨_, ?b, fun base kb nb => My.law_fn T kb nb⟩; exact fun s u => .of_eq rfl
  case S => exact fun w H a ns hl hO hS => ..
  case C => exact ..
(the tactic k_is has no namespace: write k_is) -/

/-! SHORT WORDS over the layer: a def of the text, its body, what a loop and a test want. -/
namespace L2
open PySem PySem.Spec PyProof.Rows
def defArgs (s : Stmt) : Arguments := match s with
  | .FunctionDef _ a _ _ _ _ _ _ _ _ => a
  | _ => { posonlyargs := [], args := [], vararg := none, kwonlyargs := [], kw_defaults := [], kwarg := none, defaults := [] }
def defBody (s : Stmt) : List Stmt := match s with
  | .FunctionDef _ _ b _ _ _ _ _ _ _ => b
  | _ => []
def defScope (s : Stmt) : Scope := match s with
  | .FunctionDef _ _ _ _ _ _ sc _ _ _ => sc
  | _ => { kind := .function, names := [], isGenerator := false, isCoroutine := false }
abbrev CX0 : CXT := fun _ _ _ _ _ _ => False
abbrev E0 : XK := fun _ _ _ => False
theorem pass0 {X : Cx} : Passes CX0 X E0 := fun _ _ _ _ _ _ _ h => h.elim
structure Fun (K : PySem.W.Frag) (x qual : Str) (st : Stmt) (f : Addr) (fd : FuncData) : Prop where
  ex : ∃ (oc : Value) (od : Option Addr) (kV doc pm : Value) (an : Option Addr) (cdv ct : Value) (osl : Array (Option Value)),
    fd = PySem.W.fnOf x qual (defArgs st) (defBody st) (defScope st) .none kV doc pm an cdv ct ∧ K.lookup f = some ⟨oc, od, .func fd, osl⟩ ∧ PySem.W.codeIn K cdv qual = true
  kp : PySem.W.keepIn K (.ref f) = true
section
variable {P : Program} {w : World} {K : PySem.W.Frag} {mg : Str → Option Value} {base : Heap}
theorem Fun.ok {x qual : Str} {st : Stmt} {f : Addr} {fd : FuncData} {N ps : List Str} {k : Nat} {sp : Sp} (F : Fun K x qual st f fd) (S : FnScope N ps (defScope st)) (len : ∀ vs H Q E, sp vs H Q E → vs.length = ps.length)
    (hbody : ∀ (cdv : Value) (A : Around) (outer : List Env) (s : Shared) (H : Hp) (vs : List V) (Q : VK) (E : XK), Room k (A.deeper (envOfC qual (defScope st) s.heap.objs.size f cdv)) → sp vs H Q E →
      ∃ t, PSs (cxOf CX0 P w K mg base N qual (defScope st) f cdv A outer s H E).nox (defBody st) t ∧ t { nx := fun _ H' => Q .non H', rt := Q } (start N vs) H) : FnOk P w K mg base CX0 (k + 1) f fd ps sp := by
  obtain ⟨oc, od, kV, doc, pm, an, cdv, ct, osl, rfl, lk, hcd⟩ := F.ex
  refine fn_of lk hcd S len fun A outer s H vs Q E hr hsp => ?_
  obtain ⟨t, h, q⟩ := hbody cdv A outer s H vs Q E hr hsp
  exact ⟨t, h.nox, q⟩
theorem Fun.binds {x qual : Str} {st : Stmt} {f : Addr} {fd : FuncData} {ps : List Str} (F : Fun K x qual st f fd)
    (h : ∀ (kV doc pm : Value) (an : Option Addr) (cdv ct : Value) (us : List Value), us.length = ps.length → bindArgs (PySem.W.fnOf x qual (defArgs st) (defBody st) (defScope st) .none kV doc pm an cdv ct) ⟨us, []⟩ = pure (ps.zip us)) : Binds K fd ps [] := by
  obtain ⟨oc, od, kV, doc, pm, an, cdv, ct, osl, rfl, lk, hcd⟩ := F.ex
  exact .all (h kV doc pm an cdv ct)
theorem fun_mk {x qual : Str} {st : Stmt} {f : Addr} {oc : Value} {od an : Option Addr} {osl : Array (Option Value)} {kV doc pm cdv ct : Value} (l : K.lookup f = some ⟨oc, od, .func (PySem.W.fnOf x qual (defArgs st) (defBody st) (defScope st) .none kV doc pm an cdv ct), osl⟩)
    (c : PySem.W.codeIn K cdv qual = true) (k : PySem.W.keepIn K (.ref f) = true) : Fun K x qual st f (PySem.W.fnOf x qual (defArgs st) (defBody st) (defScope st) .none kV doc pm an cdv ct) := ⟨⟨oc, od, kV, doc, pm, an, cdv, ct, osl, rfl, l, c⟩, k⟩
end
theorem hu_of {A : Around} {k : Nat} (hr : Room k A) : A.units + 1 < cLine := Nat.lt_of_le_of_lt (Nat.add_le_add_left (by decide : 1 ≤ 64) _) hr.units
section
variable {X : Cx}
theorem pv (i : Nat) {x : Str} {pos : Pos} (hN : X.N[i]? = some x := by rfl) (hv : Vis X.env.scope x := by first | exact Or.inl rfl | exact Or.inr (Or.inl rfl) | exact Or.inr (Or.inr rfl)) (hd : (x == ("__debug__" : Str)) = false := by decide)
    (hcd : (x == ("__classdict__" : Str)) = false := by decide) : PE X (.Name x pos) (tVar i) := pe_var hN hv hd hcd
end
theorem iteF {A B : Prop} (h : B) : if false = true then A else B := by
  rw [if_neg Bool.false_ne_true]
  exact h
theorem iteT {A B : Prop} (h : A) : if true = true then A else B := by
  rw [if_pos rfl]
  exact h
theorem ite2 {c A B : Prop} [Decidable c] (h1 : c → A) (h2 : ¬ c → B) : if c then A else B := by
  by_cases h : c
  · rw [if_pos h]
    exact h1 h
  · rw [if_neg h]
    exact h2 h
def Same (H H' : Hp) : Prop := ∀ b o, H b = some o → H' b = some o
theorem Same.refl (H : Hp) : Same H H := fun _ _ h => h
theorem Same.trans {H H1 H2 : Hp} (a : Same H H1) (b : Same H1 H2) : Same H H2 := fun c o h => b c o (a c o h)
theorem Same.free {H H' : Hp} (e : Same H H') {l : Addr} (h : H' l = Option.none) : H l = Option.none := by
  cases q : H l with
  | none => rfl
  | some o =>
    rw [e l o q] at h
    cases h
theorem Same.seq {K : PySem.W.Frag} {H H' : Hp} {a : Addr} {xs : List V} (e : Same H H') (h : SqL K H a xs) : SqL K H' a xs := by
  rcases h with (h | ⟨o, h⟩) | h
  · exact .inl (.inl (e _ _ h))
  · exact .inl (.inr ⟨o, e _ _ h⟩)
  · exact .inr h
section
variable {κ : Type} [DecidableEq κ]
end
end L2
set_option Elab.async false
set_option linter.all false
set_option maxRecDepth 100000
set_option maxHeartbeats 4000000
namespace L2
open PySem PySem.Spec PyProof.Rows
structure DefIn (K : PySem.W.Frag) (mg : Str → Option Value) (x : Str) (st : Stmt) (ps : List Str) (f : Addr) (fd : FuncData) : Prop where
  fn : Fun K x x st f fd
  m : mg x = some (.ref f)
  b : Binds K fd ps []
def Has (P : Program) (w : World) (K : PySem.W.Frag) (mg : Str → Option Value) (base : Heap) (x : Str) (k : Nat) (ps : List Str) (sp : Sp) : Prop :=
  ∃ (f : Addr) (fd : FuncData), mg x = some (.ref f) ∧ PySem.W.keepIn K (.ref f) = true ∧ Binds K fd ps [] ∧ FnOk P w K mg base CX0 k f fd ps sp
section
variable {P : Program} {w : World} {K : PySem.W.Frag} {mg : Str → Option Value} {base : Heap} {x : Str} {k : Nat} {ps : List Str} {sp : Sp} {st : Stmt} {f : Addr} {fd : FuncData}
theorem DefIn.has (D : DefIn K mg x st ps f fd) (F : FnOk P w K mg base CX0 k f fd ps sp) : Has P w K mg base x k ps sp := ⟨f, fd, D.m, D.fn.kp, D.b, F⟩
theorem Has.mono {j : Nat} (h : Has P w K mg base x j ps sp) (hk : j ≤ k) : Has P w K mg base x k ps sp :=
  let ⟨f, fd, a, b, c, F⟩ := h
  ⟨f, fd, a, b, c, F.mono hk⟩
end
section
variable {X : Cx} {k j : Nat} {ps : List Str} {sp : Sp} {x : Str} {p pos : Pos} {e : Expr} {es : List Expr} {t : TA}
theorem pe_callH (F : Has X.prog X.w X.K X.mg X.base x k ps sp) (hr : Room j X.A) (ha : PA X (e :: es) t) (hk : k ≤ j := by decide) (hg : Gl X x := by rfl) (hdb : (x == ("__debug__" : Str)) = false := by decide)
    (he : starEach (e :: es) X.env = (false, eval e X.env) :: starEach es X.env := by rfl) (hpl : (backTo pos (starEach es X.env)).any (·.1) = false := by rfl) :
    PE X (.Call (.Name x p) (e :: es) [] pos) (tCall sp [] E0 t) := by
  obtain ⟨f, fd, a, b, c, F⟩ := F
  exact pe_call F (hr.mono hk) hg a b c .nil pass0 ha hdb he hpl
end
theorem hu0_of {A : Around} {k : Nat} (hr : Room k A) : A.units < cLine := Nat.lt_of_succ_lt (hu_of hr)
structure Blt (mg : Str → Option Value) : Prop where
  len : mg "len" = none
  isinstance : mg "isinstance" = none
  list_ : mg "list" = none
  tuple_ : mg "tuple" = none
  bool_ : mg "bool" = none
  str_ : mg "str" = none
  int_ : mg "int" = none
  range : mg "range" = none
  zip : mg "zip" = none
  reversed : mg "reversed" = none
  min : mg "min" = none
  max : mg "max" = none
section
variable {X : Cx}
theorem call_isinst : CallR X (.builtin "isinstance") (fun xs H Q => ∃ (x : V) (c t : String) (b : Bool), xs = [x, .ty c] ∧ TyOf X.K H x (.type t) ∧ PySem.W.kitOne X.K (.type t) (.type c) = some b ∧ Q (.bl b) H) := by
  intro pins s σ H xs us Q I r h
  obtain ⟨x, c, t, b, rfl, ty, e, q⟩ := h
  obtain ⟨u, v, rfl, ru, rv⟩ := r.two
  cases (show v = Value.type c from rv)
  exact isinst_ok I ru ty e fun tk => ⟨.bl b, H, I.tok _, rfl, q⟩
theorem vals_ty : ∀ {cs : List String} {us : List Value}, Vals (cs.map V.ty) us → us = cs.map Value.type
  | [], _, r => by cases r; rfl
  | c :: cs, _, r => by
    rw [List.map_cons] at r
    cases r with
    | cons a t => cases (show _ = Value.type c from a); rw [vals_ty t]; rfl
theorem isinstT_ok {pins : List (Addr × Obj)} {σ : St} {H : Hp} {s : Shared} {A : Around} {E : Value → Shared → Prop} {Q : Value → Shared → Prop} {b : Bool} {x : V} {u t : Value} {tp : Addr} {cs : List String} (I : Inv X pins σ H s) (rx : RelV x u) (ty : TyOf X.K H x t)
    (htp : H tp = some (.tup (cs.map V.ty))) (e : PySem.W.kitAny X.K t (cs.map Value.type) = some b) (h : ∀ tk, Q (.bool b) { s with toks := tk }) :
    wpAny (model X.prog X.w) A (call (.builtin "isinstance") [u, .ref tp]) Q E s := by
  obtain ⟨its, rv, ⟨⟨oc, od, oda, osl⟩, ho, hc, n, hd⟩, _⟩ := I.tuple (SqT.of htp)
  obtain rfl := vals_ty rv
  simp only at hc hd
  subst hc hd
  cases ty with
  | non => cases (show u = Value.none from rx); exact PySem.W.kia_tup PySem.W.kitx_none I.kIn True.intro ho e (fun z => nomatch z) h
  | bl y => cases (show u = Value.bool y from rx); exact PySem.W.kia_tup PySem.W.kitx_bool I.kIn True.intro ho e (fun z => nomatch z) h
  | int i => obtain ⟨t, q⟩ := (show ∃ t, u = Value.int i t from rx); cases q; exact PySem.W.kia_tup PySem.W.kitx_int I.kIn True.intro ho e (fun z => nomatch z) h
  | str y => obtain ⟨t, q⟩ := (show ∃ t, u = Value.str y t from rx); cases q; exact PySem.W.kia_tup PySem.W.kitx_str I.kIn True.intro ho e (fun z => nomatch z) h
  | flt y => obtain ⟨t, q⟩ := (show ∃ t, u = Value.float y t from rx); cases q; exact PySem.W.kia_tup PySem.W.kitx_float I.kIn True.intro ho e (fun z => nomatch z) h
  | @lst a xs ea =>
    cases (show u = Value.ref a from rx)
    obtain ⟨_, _, n, _, h1⟩ := (show ObjOk X.prog X.w H s.heap a (.lst xs) from I.hok a _ ea)
    exact PySem.W.kia_tup PySem.W.kitx_list I.kIn ⟨_, h1, rfl⟩ ho e (fun z => nomatch z) h
  | @frz a ob xs ea =>
    cases (show u = Value.ref a from rx)
    obtain ⟨_, _, _, n, _, h1⟩ := (show ObjOk X.prog X.w H s.heap a (.frz ob (.lst xs)) from I.hok a _ ea)
    exact PySem.W.kia_tup PySem.W.kitx_list I.kIn ⟨_, h1, rfl⟩ ho e (fun z => nomatch z) h
  | @tup a xs ea =>
    cases (show u = Value.ref a from rx)
    obtain ⟨_, _, _, p⟩ := (show ObjOk X.prog X.w H s.heap a (.tup xs) from I.hok a _ ea)
    obtain ⟨o, h1, h2, _⟩ := p
    exact PySem.W.kia_tup PySem.W.kitx_tuple I.kIn ⟨o, h1, h2⟩ ho e (fun z => nomatch z) h
  | @dK a kvs ea =>
    cases (show u = Value.ref a from rx)
    obtain ⟨_, _, vs, _, p⟩ := (show ObjOk X.prog X.w H s.heap a (.dK kvs) from I.hok a _ ea)
    obtain ⟨o, es, ep, h1, h2, _⟩ := p
    exact PySem.W.kia_tup PySem.W.kitx_dict I.kIn ⟨o, h1, h2.1⟩ ho e (fun z => nomatch z) h
  | @dT a kvs ea =>
    cases (show u = Value.ref a from rx)
    obtain ⟨_, _, xs, _, o, es, ep, h1, h2, _⟩ := (show ObjOk X.prog X.w H s.heap a (.dT kvs) from I.hok a _ ea)
    exact PySem.W.kia_tup PySem.W.kitx_dict I.kIn ⟨o, h1, h2.1⟩ ho e (fun z => nomatch z) h
  | @ins a C dx fs ea cl ha hn htk hm =>
    cases (show u = Value.ref a from rx)
    obtain ⟨mA, O, _⟩ := ins_get I.hok ea
    obtain ⟨od, J, _⟩ := O.look
    exact PySem.W.kia_tup (PySem.W.kitx_own (cl.get _) cl.hd ha hn htk hm) I.kIn J ho e (fun z => nomatch z) h
theorem call_isinstT : CallR X (.builtin "isinstance") (fun xs H Q => ∃ (x : V) (p : Addr) (cs : List String) (t : String) (b : Bool), xs = [x, .ref p] ∧ H p = some (.tup (cs.map V.ty)) ∧ TyOf X.K H x (.type t) ∧ PySem.W.kitAny X.K (.type t) (cs.map Value.type) = some b ∧ Q (.bl b) H) := by
  intro pins s σ H xs us Q I r h
  obtain ⟨x, p, cs, t, b, rfl, hp, ty, e, q⟩ := h
  obtain ⟨u, v, rfl, ru, rv⟩ := r.two
  cases (show v = Value.ref p from rv)
  exact isinstT_ok I ru ty hp e fun tk => ⟨.bl b, H, I.tok _, rfl, q⟩
end
section
variable {X : Cx}
theorem op_neNil (hu : X.A.units < cLine) : OpR X (compareOp .NotEq) (fun x y H Q => ∃ l b xs, x = .ref l ∧ y = .ref b ∧ SqL X.K H l xs ∧ SqL X.K H b [] ∧ Q (.bl (!xs.isEmpty)) H) := by
  intro pins s σ H x y v u Q I rx ry h
  obtain ⟨l, b, xs, rfl, rfl, hl, hb, q⟩ := h
  cases rx
  cases ry
  obtain ⟨its, r, pl, hz⟩ := I.list hl
  obtain ⟨its2, r2, pl2, _⟩ := I.list hb
  cases r2
  cases r with
  | nil => exact SeqAt.RcNeAt.lists (e := fun _ => true) pl.isList pl2.isList rfl hu (fun j h1 _ => absurd h1 (Nat.not_lt_zero _)) _ _ _ _ ⟨.bl false, H, I, rfl, q⟩
  | cons a t => exact SeqAt.RcNeAt.lists_lengths pl.isList pl2.isList (by simp) hu _ _ _ _ ⟨.bl true, H, I, rfl, q⟩
theorem op_eqNil (hu : X.A.units < cLine) : OpR X (compareOp .Eq) (fun x y H Q => ∃ l b xs, x = .ref l ∧ y = .ref b ∧ SqL X.K H l xs ∧ SqL X.K H b [] ∧ Q (.bl xs.isEmpty) H) := by
  intro pins s σ H x y v u Q I rx ry h
  obtain ⟨l, b, xs, rfl, rfl, hl, hb, q⟩ := h
  cases rx
  cases ry
  obtain ⟨its, r, pl, hz⟩ := I.list hl
  obtain ⟨its2, r2, pl2, _⟩ := I.list hb
  cases r2
  cases r with
  | nil => exact SeqAt.RcAt.lists (e := fun _ => true) pl.isList pl2.isList rfl hu (fun j h1 _ => absurd h1 (Nat.not_lt_zero _)) _ _ _ _ ⟨.bl true, H, I, rfl, q⟩
  | cons a t => exact SeqAt.RcAt.lists_lengths pl.isList pl2.isList (by simp) hu _ _ _ _ ⟨.bl false, H, I, rfl, q⟩
end
section
open PySem.AutoSeq1
theorem ext_tupleX (l : Addr) (items : Array Value) (n : Nat) (b : Addr) (items2 : Array Value) (n2 : Nat) (dd : Option Addr) (sl : Array (Option Value)) (hs0 : ¬(!items.isEmpty && Builtin.List.listTooLong (items.size + items2.size)) = true) (hs1 : items.size ≤ sizeLine) (hs2 : items.size + items2.size ≤ sizeLine + 1) :
    Meets (Builtin.«list.extend» ⟨[.ref l, .ref b], []⟩) (fun _ R s => s.heap.get? l = some { cls := .type "list", dict := none, data := .seq items n, slots := #[] } ∧ s.heap.get? b = some { cls := .type "tuple", dict := dd, data := .seq items2 n2, slots := sl } ∧ R (.ok (.ret Value.none)) { s with heap := s.heap.update l (Obj.mapSeq fun x => x ++ items2), toks := s.toks }) :=
  .of_wp fun prog w A R s h => by
    obtain ⟨hp, g, d, tk, os⟩ := s; obtain ⟨hl, hb, h⟩ := h; have f1 := idx_int; have f2 := AutoSeq1.sub_tuple_tuple; have f3 := AutoSeq1.sub_list_list; have f4 := AutoSeq1.sub_tuple_list; have f5 := AutoSeq1.sub_list_tuple;
    have hz' : (items ++ items2).size ≤ sizeLine + 1 := by rw [Array.size_append]; exact hs2
    wp_walk using (wpAny_updateSeq hl rfl (hz := hs1) (_hz' := hz')), wpAny_loadPart' hl, wpAny_loadPart' hb; exact ⟨_, rfl, h⟩
end
section
variable {X : Cx}
def rExtendS : V → List V → Hp → VK → Prop := fun x vs H Q => ∃ l b xs zs, x = .ref l ∧ vs = [.ref b] ∧ H l = some (.lst xs) ∧ (H b = some (.lst zs) ∨ H b = some (.tup zs)) ∧ xs.length + zs.length ≤ sizeLine ∧ Q .non (upd H l (.lst (xs ++ zs)))
theorem mt_extendS : MtM X "list.extend" rExtendS := by
  intro pins s σ H x vs v us Q I rx rv h
  obtain ⟨l, b, xs, zs, rfl, rfl, hH, hB, hz, q⟩ := h
  rcases hB with hB | hB
  · exact mt_extend pins s σ H _ _ v us Q I rx rv ⟨l, b, xs, zs, rfl, rfl, hH, hB, hz, q⟩
  · cases rx
    obtain ⟨u, rfl, ru⟩ := rv.one
    cases ru
    obtain ⟨z, its, n, r, hl, e⟩ := I.lstM hH
    obtain ⟨its2, r2, ⟨⟨oc, od, oda, osl⟩, ho, hc, n2, hd⟩, _⟩ := I.tuple (SqT.of hB)
    simp only at hc hd
    subst hc hd
    have hl2 := r2.length
    have hsz : its.toArray.size + its2.toArray.size ≤ sizeLine := by rw [List.size_toArray, List.size_toArray]; omega
    have hlong : ¬ (!its.toArray.isEmpty && Builtin.List.listTooLong (its.toArray.size + its2.toArray.size)) = true := by
      rw [notLongL hsz, Bool.and_false]
      exact Bool.false_ne_true
    refine call_meets F.slot_list_extend ⟨_, e, rfl⟩ F.entry_list_extend (F.args_list_extend_2 _ _)
      (ext_tupleX l its.toArray n b its2.toArray n2 od osl hlong (by rw [List.size_toArray]; omega) (by omega)) ⟨e, ho, ?_⟩
    refine ⟨.non, _, I.lset (its' := its ++ its2) hH e (by simp) (r.append r2) ?_, rfl, q⟩
    rw [List.length_append]
    omega
end
section
variable {H H' H0 : Hp} {p l b : Addr} {o u : HO}
theorem keepN (hp : H p = none) (h : H b = some u) : upd H p o b = some u := by rw [upd_ne (ne_of_none h hp)]; exact h
theorem keepL (n : b ≠ l) (h : H b = some u) : upd H l o b = some u := by rw [upd_ne n]; exact h
theorem Same.new (S : Same H0 H) (hp : H p = none) : Same H0 (upd H p o) := fun c q h => keepN hp (S c q h)
theorem Same.set (S : Same H0 H) (h0 : H0 l = none) : Same H0 (upd H l o) := fun c q h => by
  rw [upd_ne (ne_of_none h h0)]
  exact S c q h
def TupK (H H' : Hp) : Prop := ∀ c xs, H c = some (.tup xs) → H' c = some (.tup xs)
theorem TupK.refl (H : Hp) : TupK H H := fun _ _ h => h
theorem TupK.trans {H1 H2 : Hp} (a : TupK H H1) (b : TupK H1 H2) : TupK H H2 := fun c xs h => b c xs (a c xs h)
theorem Same.tupK (S : Same H H') : TupK H H' := fun c _ h => S c _ h
theorem TupK.new (S : TupK H0 H) (hp : H p = none) : TupK H0 (upd H p o) := fun c _ h => keepN hp (S c _ h)
theorem TupK.lst {xs : List V} (S : TupK H0 H) (hl : H l = some (.lst xs)) : TupK H0 (upd H l o) := fun c _ h => by
  have q := S c _ h
  rw [upd_ne (ne_of q hl (by intro z; cases z))]
  exact q
theorem TupK.dK {xs : List (Key × V)} (S : TupK H0 H) (hl : H l = some (.dK xs)) : TupK H0 (upd H l o) := fun c _ h => by
  have q := S c _ h
  rw [upd_ne (ne_of q hl (by intro z; cases z))]
  exact q
end
theorem small {n : Nat} (h : n ≤ 1000000) : n ≤ sizeLine := Nat.le_trans h (by decide)
theorem smallLt {n : Nat} (h : n ≤ 1000000) : n < sizeLine := Nat.lt_of_le_of_lt h (by decide)
section
variable {K : PySem.W.Frag}
theorem kit_ll : PySem.W.kitOne K (.type "list") (.type "list") = some true := by kernel_rfl
theorem kit_lt : PySem.W.kitOne K (.type "list") (.type "tuple") = some false := by kernel_rfl
theorem kit_tl : PySem.W.kitOne K (.type "tuple") (.type "list") = some false := by kernel_rfl
theorem kit_tt : PySem.W.kitOne K (.type "tuple") (.type "tuple") = some true := by kernel_rfl
theorem kit_bb : PySem.W.kitOne K (.type "bool") (.type "bool") = some true := by kernel_rfl
theorem kit_ib : PySem.W.kitOne K (.type "int") (.type "bool") = some false := by kernel_rfl
theorem kit_is : PySem.W.kitOne K (.type "int") (.type "str") = some false := by kernel_rfl
theorem kit_ii : PySem.W.kitOne K (.type "int") (.type "int") = some true := by kernel_rfl
theorem kit_sb : PySem.W.kitOne K (.type "str") (.type "bool") = some false := by kernel_rfl
theorem kit_ss : PySem.W.kitOne K (.type "str") (.type "str") = some true := by kernel_rfl
theorem kitA_l : PySem.W.kitAny K (.type "list") ((["list", "tuple"] : List String).map Value.type) = some true := by kernel_rfl
theorem kitA_t : PySem.W.kitAny K (.type "tuple") ((["list", "tuple"] : List String).map Value.type) = some true := by kernel_rfl
theorem kitA_b : PySem.W.kitAny K (.type "bool") ((["list", "tuple"] : List String).map Value.type) = some false := by kernel_rfl
theorem kitA_i : PySem.W.kitAny K (.type "int") ((["list", "tuple"] : List String).map Value.type) = some false := by kernel_rfl
theorem kitA_s : PySem.W.kitAny K (.type "str") ((["list", "tuple"] : List String).map Value.type) = some false := by kernel_rfl
end
end L2
set_option Elab.async false
set_option linter.all false
set_option maxRecDepth 100000
set_option maxHeartbeats 4000000
namespace L2
open PySem PySem.Spec PyProof.Rows
inductive Say where
  | lamp (k : Int) | dark (k : Int) | neg (s : Say) | conj (s t : Say) | disj (s t : Say) | ev (s : Say) | so (s : Say)
  deriving DecidableEq
def Say.sz : Say → Nat
  | .lamp _ => 3
  | .dark _ => 3
  | .neg s => s.sz + 2
  | .conj s t => s.sz + t.sz + 2
  | .disj s t => s.sz + t.sz + 2
  | .ev s => s.sz + 2
  | .so s => s.sz + 2
def Say.tag : Say → Str
  | .lamp _ => "lamp"
  | .dark _ => "dark"
  | .neg _ => "not"
  | .conj _ _ => "and"
  | .disj _ _ => "or"
  | .ev _ => "every"
  | .so _ => "some"
inductive Stm (H : Hp) : V → Say → Prop where
  | lamp {a : Addr} {k : Int} : H a = some (.tup [.str "lamp", .int k]) → Stm H (.ref a) (.lamp k)
  | dark {a : Addr} {k : Int} : H a = some (.tup [.str "dark", .int k]) → Stm H (.ref a) (.dark k)
  | neg {a : Addr} {v : V} {s : Say} : H a = some (.tup [.str "not", v]) → Stm H v s → Stm H (.ref a) (.neg s)
  | conj {a : Addr} {v u : V} {s t : Say} : H a = some (.tup [.str "and", v, u]) → Stm H v s → Stm H u t → Stm H (.ref a) (.conj s t)
  | disj {a : Addr} {v u : V} {s t : Say} : H a = some (.tup [.str "or", v, u]) → Stm H v s → Stm H u t → Stm H (.ref a) (.disj s t)
  | ev {a : Addr} {v : V} {s : Say} : H a = some (.tup [.str "every", v]) → Stm H v s → Stm H (.ref a) (.ev s)
  | so {a : Addr} {v : V} {s : Say} : H a = some (.tup [.str "some", v]) → Stm H v s → Stm H (.ref a) (.so s)
theorem Stm.mono {H H' : Hp} {v : V} {s : Say} (h : Stm H v s) (m : TupK H H') : Stm H' v s := by
  induction h with
  | lamp e => exact .lamp (m _ _ e)
  | dark e => exact .dark (m _ _ e)
  | neg e _ i => exact .neg (m _ _ e) i
  | conj e _ _ i j => exact .conj (m _ _ e) i j
  | disj e _ _ i j => exact .disj (m _ _ e) i j
  | ev e _ i => exact .ev (m _ _ e) i
  | so e _ i => exact .so (m _ _ e) i
abbrev Stms (H : Hp) : List V → List Say → Prop := Paired (Stm H)
theorem Paired.get1 {α β : Type} {F : α → β → Prop} : ∀ {xs : List α} {ys : List β} {i : Nat} {x : α}, Paired F xs ys → xs[i]? = some x → ∃ y, ys[i]? = some y ∧ F x y
  | _, _, _, _, .nil, e => by simp at e
  | _, _, 0, _, .cons r _, e => by simp at e; subst e; exact ⟨_, rfl, r⟩
  | _, _, i + 1, x, .cons _ t, e => by
    obtain ⟨u, h1, h2⟩ := Paired.get1 (i := i) (x := x) t (by simpa using e)
    exact ⟨u, by simpa using h1, h2⟩
theorem Paired.app {α β : Type} {F : α → β → Prop} : ∀ {xs xs' : List α} {ys ys' : List β}, Paired F xs ys → Paired F xs' ys' → Paired F (xs ++ xs') (ys ++ ys')
  | _, _, _, _, .nil, s => s
  | _, _, _, _, .cons r t, s => .cons r (Paired.app t s)
theorem Stms.mono {H H' : Hp} {vs : List V} {ss : List Say} (h : Stms H vs ss) (m : TupK H H') : Stms H' vs ss := Paired.mapP h fun _ _ q => q.mono m
inductive Als (H : Hp) : Nat → List V → List V → Prop where
  | nil : Als H 0 [] []
  | bl {n : Nat} {xs ys : List V} (b : Bool) : Als H n xs ys → Als H (n + 1) (.bl b :: xs) (.bl b :: ys)
  | int {n : Nat} {xs ys : List V} (i : Int) : Als H n xs ys → Als H (n + 1) (.int i :: xs) (.int i :: ys)
  | str {n : Nat} {xs ys : List V} (x : Str) : Als H n xs ys → Als H (n + 1) (.str x :: xs) (.str x :: ys)
  | lst {n m : Nat} {xs ys as bs : List V} {a b : Addr} : H a = some (.lst as) → H b = some (.lst bs) → Als H m as bs → Als H n xs ys → Als H (n + m + 1) (.ref a :: xs) (.ref b :: ys)
  | tup {n m : Nat} {xs ys as bs : List V} {a b : Addr} : H a = some (.tup as) → H b = some (.tup bs) → Als H m as bs → Als H n xs ys → Als H (n + m + 1) (.ref a :: xs) (.ref b :: ys)
theorem Als.cast {H : Hp} {n m : Nat} {xs ys : List V} (h : Als H n xs ys) (e : n = m) : Als H m xs ys := e ▸ h
theorem Als.app {H : Hp} {n m : Nat} {xs ys xs' ys' : List V} (h : Als H n xs ys) (g : Als H m xs' ys') : Als H (n + m) (xs ++ xs') (ys ++ ys') := by
  induction h with
  | nil => exact g.cast (by omega)
  | bl b _ i => exact (Als.bl b i).cast (by omega)
  | int b _ i => exact (Als.int b i).cast (by omega)
  | str b _ i => exact (Als.str b i).cast (by omega)
  | lst e e' k _ _ i => exact (Als.lst e e' k i).cast (by omega)
  | tup e e' k _ _ i => exact (Als.tup e e' k i).cast (by omega)
theorem Als.len {H : Hp} {n : Nat} {xs ys : List V} (h : Als H n xs ys) : xs.length ≤ n ∧ ys.length = xs.length := by
  induction h with
  | nil => exact ⟨Nat.le_refl _, rfl⟩
  | bl b _ i => simp only [List.length_cons]; omega
  | int b _ i => simp only [List.length_cons]; omega
  | str b _ i => simp only [List.length_cons]; omega
  | lst e e' k _ _ i => simp only [List.length_cons]; omega
  | tup e e' k _ _ i => simp only [List.length_cons]; omega
theorem Als.mono {H H' : Hp} {n : Nat} {xs ys : List V} (h : Als H n xs ys) (S : Same H H') : Als H' n xs ys := by
  induction h with
  | nil => exact .nil
  | bl b _ i => exact .bl b i
  | int b _ i => exact .int b i
  | str b _ i => exact .str b i
  | lst e e' k _ j i => exact .lst (S _ _ e) (S _ _ e') j i
  | tup e e' k _ j i => exact .tup (S _ _ e) (S _ _ e') j i
theorem Als.snoc {H : Hp} {n : Nat} {L R : List V} (h : Als H n L R) : (L = [] ∧ R = [] ∧ n = 0) ∨
    ∃ (L0 R0 : List V) (x y : V) (n0 k : Nat), L = L0 ++ [x] ∧ R = R0 ++ [y] ∧ Als H n0 L0 R0 ∧ Als H k [x] [y] ∧ n0 + k = n := by
  induction h with
  | nil => exact .inl ⟨rfl, rfl, rfl⟩
  | bl b t i =>
    rcases i with ⟨rfl, rfl, rfl⟩ | ⟨L0, R0, x, y, n0, k, rfl, rfl, a, c, rfl⟩
    · exact .inr ⟨[], [], _, _, 0, _, rfl, rfl, .nil, .bl b .nil, by omega⟩
    · exact .inr ⟨_ :: L0, _ :: R0, x, y, n0 + 1, k, rfl, rfl, .bl b a, c, by omega⟩
  | int b t i =>
    rcases i with ⟨rfl, rfl, rfl⟩ | ⟨L0, R0, x, y, n0, k, rfl, rfl, a, c, rfl⟩
    · exact .inr ⟨[], [], _, _, 0, _, rfl, rfl, .nil, .int b .nil, by omega⟩
    · exact .inr ⟨_ :: L0, _ :: R0, x, y, n0 + 1, k, rfl, rfl, .int b a, c, by omega⟩
  | str b t i =>
    rcases i with ⟨rfl, rfl, rfl⟩ | ⟨L0, R0, x, y, n0, k, rfl, rfl, a, c, rfl⟩
    · exact .inr ⟨[], [], _, _, 0, _, rfl, rfl, .nil, .str b .nil, by omega⟩
    · exact .inr ⟨_ :: L0, _ :: R0, x, y, n0 + 1, k, rfl, rfl, .str b a, c, by omega⟩
  | lst e e' q t _ i =>
    rcases i with ⟨rfl, rfl, rfl⟩ | ⟨L0, R0, x, y, n0, k, rfl, rfl, a, c, rfl⟩
    · exact .inr ⟨[], [], _, _, 0, _, rfl, rfl, .nil, .lst e e' q .nil, by omega⟩
    · exact .inr ⟨_ :: L0, _ :: R0, x, y, _, k, rfl, rfl, .lst e e' q a, c, by omega⟩
  | tup e e' q t _ i =>
    rcases i with ⟨rfl, rfl, rfl⟩ | ⟨L0, R0, x, y, n0, k, rfl, rfl, a, c, rfl⟩
    · exact .inr ⟨[], [], _, _, 0, _, rfl, rfl, .nil, .tup e e' q .nil, by omega⟩
    · exact .inr ⟨_ :: L0, _ :: R0, x, y, _, k, rfl, rfl, .tup e e' q a, c, by omega⟩
def szs (ss : List Say) : Nat := (ss.map Say.sz).sum
def Say.lampOf : Say → Option Int
  | .lamp k => some k
  | _ => none
def Say.darkOf : Say → Option Int
  | .dark k => some k
  | _ => none
abbrev lampsOf (ss : List Say) : List Int := ss.filterMap Say.lampOf
abbrev darksOf (ss : List Say) : List Int := ss.filterMap Say.darkOf
def pairB (ss : List Say) : Bool := (darksOf ss).any fun k => (lampsOf ss).contains k
end L2
set_option Elab.async false
set_option linter.all false
set_option maxRecDepth 100000
set_option maxHeartbeats 4000000
namespace L2
open PySem PySem.Spec PyProof.Rows
section
variable {X : Cx} {K : PySem.W.Frag} {D : Ends} {σ : St} {H H0 : Hp} {Q : VK} {QT : Bool → Hp → Prop} {QS : St → Hp → Prop} {t u : TS} {te ta tb tc : TE} {c d : TT} {g : TG} {tr : TA} {r r' : R2} {v x y : V} {i j : Int} {E : XK}
theorem sameSeq {H1 H2 : Hp} {a : Addr} {xs : List V} (h : SqL K H1 a xs) (e : Same H1 H2) : SqL K H2 a xs := e.seq h
theorem rd_seq (h : t { D with nx := u D } σ H) : tSeq t u D σ H := h
theorem rd_next (h : D.nx σ H) : tNext D σ H := h
theorem rd_asg (h : te σ H fun x H1 => g x σ H1 D.nx) : tAsg te g D σ H := h
theorem rd_name {n : Nat} (h : QS (σ.set n (some v)) H) : gName n v σ H QS := h
theorem rd_var {n : Nat} (e : σ[n]? = some (some v)) (h : Q v H) : tVar n σ H Q := ⟨v, e, h⟩
theorem rd_C (h : Q v H) : tC v σ H Q := h
theorem rd_op (h : ta σ H fun x H1 => tb σ H1 fun y H2 => r x y H2 Q) : tOp r ta tb σ H Q := h
theorem rd_I0 {f : Int → Int → V} (h : Q (f i j) H) : rI0 f (.int i) (.int j) H Q := ⟨i, j, rfl, rfl, h⟩
theorem rd_I {C : Int → Int → Prop} {f : Int → Int → V} (k : C i j) (h : Q (f i j) H) : rI C f (.int i) (.int j) H Q := ⟨i, j, rfl, rfl, k, h⟩
theorem rd_eq (e : scal x y = true) (h : Q (.bl (decide (x = y))) H) : rEq x y H Q := ⟨e, h⟩
theorem rd_ne (e : scal x y = true) (h : Q (.bl (!decide (x = y))) H) : rNe x y H Q := ⟨e, h⟩
theorem rd_test (h : te σ H fun x H' => ∃ k, x = .bl k ∧ QT k H') : tTest te σ H QT := h
theorem rd_tB (h : te σ H fun x H' => ∃ k, x = .bl k ∧ QT k H') : tB te σ H QT := h
theorem rd_bl {b : Bool} {P : Bool → Prop} (h : P b) : ∃ k, V.bl b = .bl k ∧ P k := ⟨b, rfl, h⟩
theorem rd_if (h : c σ H fun b H1 => if b = true then t D σ H1 else u D σ H1) : tIfS c t u D σ H := h
theorem rd_and (h : c σ H fun b H1 => if b = true then d σ H1 QT else QT false H1) : tAnd c d σ H QT := h
theorem rd_or (h : c σ H fun b H1 => if b = true then QT true H1 else d σ H1 QT) : tOr c d σ H QT := h
theorem rd_not (h : c σ H fun b H1 => QT (!b) H1) : tNot c σ H QT := h
theorem rd_andV (h : ta σ H fun x H1 => ∃ k, x = .bl k ∧ if k = true then tb σ H1 Q else Q (.bl false) H1) : tAndV ta tb σ H Q := h
theorem rd_orV (h : ta σ H fun x H1 => ∃ k, x = .bl k ∧ if k = true then Q (.bl true) H1 else tb σ H1 Q) : tOrV ta tb σ H Q := h
theorem rd_notV (h : ta σ H fun x H1 => ∃ k, x = .bl k ∧ Q (.bl (!k)) H1) : tNotV ta σ H Q := h
theorem rd_ifE (h : c σ H fun b H1 => if b = true then ta σ H1 Q else tb σ H1 Q) : tIf c ta tb σ H Q := h
theorem rd_call {sp : Sp} {dvs : List V} (h : tr σ H fun vs H1 => sp (vs ++ dvs) H1 Q E) : tCall sp dvs E tr σ H Q := h
theorem rd_cons {QA : List V → Hp → Prop} (h : ta σ H fun x H1 => tr σ H1 fun xs H2 => QA (x :: xs) H2) : tCons ta tr σ H QA := h
theorem rd_nil {QA : List V → Hp → Prop} (h : QA [] H) : tNil σ H QA := h
theorem rd_ret (h : te σ H D.rt) : tRet te D σ H := h
theorem rd_drop (h : te σ H fun _ H1 => D.nx σ H1) : tDrop te D σ H := h
theorem rd_tup (h : tr σ H fun xs H1 => xs.length ≤ sizeLine ∧ ∀ p, H1 p = none → Q (.ref p) (upd H1 p (.tup xs))) : tTup tr σ H Q := h
theorem rd_lst (h : tr σ H fun xs H1 => xs.length ≤ sizeLine ∧ ∀ p, H1 p = none → Q (.ref p) (upd H1 p (.lst xs))) : tLst tr σ H Q := h
theorem rd_dnew (h : ∀ p, H p = none → Q (.ref p) (upd H p (.dK []))) : tDNewK σ H Q := h
theorem rd_CB {q : List V → Hp → VK → Prop} (h : tr σ H fun vs H1 => q vs H1 Q) : tCB q tr σ H Q := h
theorem rd_ixL {p : Addr} {xs : List V} (h : SqL K H p xs) (e : atI xs i = some v) (q : Q v H) : rIxL K (.ref p) (.int i) H Q := ⟨p, xs, i, v, rfl, rfl, h, e, q⟩
theorem rd_ixT {p : Addr} {xs : List V} (h : SqT K H p xs) (e : atI xs i = some v) (q : Q v H) : rIxT K (.ref p) (.int i) H Q := ⟨p, xs, i, v, rfl, rfl, h, e, q⟩
theorem rd_bm0 {T : String} {q : V → List V → Hp → VK → Prop} (h : te σ H fun x H1 => tyV K T x H1 ∧ q x [] H1 Q) : tBM0 K T q te σ H Q := h
theorem rd_bm {T : String} {q : V → List V → Hp → VK → Prop} (h : te σ H fun x H1 => tyV K T x H1 ∧ tr σ H1 fun xs H2 => q x xs H2 Q) : tBM K T q te tr σ H Q := h
theorem rd_ty {p : Addr} {xs : List V} {R : Prop} (h : H p = some (.lst xs)) (q : R) : tyV K "list" (.ref p) H ∧ R := ⟨.inl ⟨rfl, _, SqL.of h⟩, q⟩
theorem rd_append {l : Addr} {xs : List V} (h : H l = some (.lst xs)) (z : xs.length < sizeLine) (q : Q .non (upd H l (.lst (xs ++ [y])))) : rAppend (.ref l) [y] H Q := ⟨l, xs, y, rfl, rfl, h, z, q⟩
theorem rd_pop {l : Addr} {xs : List V} (h : H l = some (.lst (xs ++ [y]))) (q : Q y (upd H l (.lst xs))) : rPop (.ref l) [] H Q :=
  ⟨l, xs ++ [y], y, rfl, rfl, h, by simp, by rw [List.dropLast_concat]; exact q⟩
theorem rd_extS {l b : Addr} {xs zs : List V} (h : H l = some (.lst xs)) (h' : H b = some (.lst zs) ∨ H b = some (.tup zs)) (z : xs.length + zs.length ≤ sizeLine) (q : Q .non (upd H l (.lst (xs ++ zs)))) : rExtendS (.ref l) [.ref b] H Q :=
  ⟨l, b, xs, zs, rfl, rfl, h, h', z, q⟩
def rLen (K : PySem.W.Frag) : List V → Hp → VK → Prop := fun xs H Q => ∃ p ys, xs = [.ref p] ∧ (SqL K H p ys ∨ SqT K H p ys) ∧ Q (.int ys.length) H
theorem call_lenS : CallR X (.builtin "len") (rLen X.K) := call_len_seq
theorem rd_lenL {p : Addr} {ys : List V} (h : SqL K H p ys) (q : Q (.int ys.length) H) : rLen K [.ref p] H Q := ⟨p, ys, rfl, .inl h, q⟩
theorem rd_lenT {p : Addr} {ys : List V} (h : SqT K H p ys) (q : Q (.int ys.length) H) : rLen K [.ref p] H Q := ⟨p, ys, rfl, .inr h, q⟩
def rInst (K : PySem.W.Frag) : List V → Hp → VK → Prop := fun xs H Q => ∃ (x : V) (c t : String) (b : Bool), xs = [x, .ty c] ∧ TyOf K H x (.type t) ∧ PySem.W.kitOne K (.type t) (.type c) = some b ∧ Q (.bl b) H
theorem call_inst : CallR X (.builtin "isinstance") (rInst X.K) := call_isinst
theorem rd_inst {c t : String} {b : Bool} (h : TyOf K H x (.type t)) (e : PySem.W.kitOne K (.type t) (.type c) = some b) (q : Q (.bl b) H) : rInst K [x, .ty c] H Q := ⟨x, c, t, b, rfl, h, e, q⟩
def rInstT (K : PySem.W.Frag) : List V → Hp → VK → Prop := fun xs H Q => ∃ (x : V) (p : Addr) (cs : List String) (t : String) (b : Bool), xs = [x, .ref p] ∧ H p = some (.tup (cs.map V.ty)) ∧ TyOf K H x (.type t) ∧ PySem.W.kitAny K (.type t) (cs.map Value.type) = some b ∧ Q (.bl b) H
theorem call_instT : CallR X (.builtin "isinstance") (rInstT X.K) := call_isinstT
theorem rd_instT {p : Addr} {t : String} {b : Bool} (hp : H p = some (.tup [.ty "list", .ty "tuple"])) (h : TyOf K H x (.type t)) (e : PySem.W.kitAny K (.type t) ((["list", "tuple"] : List String).map Value.type) = some b) (q : Q (.bl b) H) :
    rInstT K [x, .ref p] H Q := ⟨x, p, ["list", "tuple"], t, b, rfl, hp, h, e, q⟩
def rListOf (K : PySem.W.Frag) : List V → Hp → VK → Prop := fun xs H Q => ∃ p ys, xs = [.ref p] ∧ (SqL K H p ys ∨ SqT K H p ys) ∧ ∀ l, H l = none → Q (.ref l) (upd H l (.lst ys))
theorem call_listOf : CallR X (.type "list") (rListOf X.K) := call_list_of
theorem rd_listL {p : Addr} {ys : List V} (h : SqL K H p ys) (q : ∀ l, H l = none → Q (.ref l) (upd H l (.lst ys))) : rListOf K [.ref p] H Q := ⟨p, ys, rfl, .inl h, q⟩
def rNeNil (K : PySem.W.Frag) : R2 := fun x y H Q => ∃ l b xs, x = .ref l ∧ y = .ref b ∧ SqL K H l xs ∧ SqL K H b [] ∧ Q (.bl (!xs.isEmpty)) H
theorem op_neN (hu : X.A.units < cLine) : OpR X (compareOp .NotEq) (rNeNil X.K) := op_neNil hu
theorem rd_neN {l b : Addr} {xs : List V} (h : SqL K H l xs) (h' : SqL K H b []) (q : Q (.bl (!xs.isEmpty)) H) : rNeNil K (.ref l) (.ref b) H Q := ⟨l, b, xs, rfl, rfl, h, h', q⟩
def rEqNil (K : PySem.W.Frag) : R2 := fun x y H Q => ∃ l b xs, x = .ref l ∧ y = .ref b ∧ SqL K H l xs ∧ SqL K H b [] ∧ Q (.bl xs.isEmpty) H
theorem op_eqN (hu : X.A.units < cLine) : OpR X (compareOp .Eq) (rEqNil X.K) := op_eqNil hu
theorem rd_eqN {l b : Addr} {xs : List V} (h : SqL K H l xs) (h' : SqL K H b []) (q : Q (.bl xs.isEmpty) H) : rEqNil K (.ref l) (.ref b) H Q := ⟨l, b, xs, rfl, rfl, h, h', q⟩
theorem rd_dput {td ty tv : TE} (h : tv σ H fun v H1 => td σ H1 fun x H2 => ty σ H2 fun y H3 => ∃ a H4, x = .ref a ∧ DPut H3 a y v H4 ∧ D.nx σ H4) : sDPut td ty tv D σ H := h
theorem rd_putK {a : Addr} {kvs : List (Key × V)} {k : Int} {R : Hp → Prop} (h : H a = some (.dK kvs)) (z : kvs.length < sizeLine) (q : R (upd H a (.dK (putK kvs (Sum.inl k : Key) v)))) :
    ∃ b H4, V.ref a = .ref b ∧ DPut H b (.int k) v H4 ∧ R H4 := ⟨a, _, rfl, DPut.k (k := Sum.inl k) h z, q⟩
theorem rd_din {td ty : TE} (h : ty σ H fun y H1 => td σ H1 fun x H2 => ∃ a o, x = .ref a ∧ DGet H2 a y o ∧ Q (.bl o.isSome) H2) : tDIn ty td σ H Q := h
theorem rd_inS {p : Addr} {xs : List V} (h : SqL K H p xs ∨ SqT K H p xs) (f : flatV x = true) (fs : xs.all flatV = true) (q : Q (.bl (inV x xs)) H) : rIn K false x (.ref p) H Q := ⟨p, xs, rfl, h, f, fs, q⟩
end
section
variable {K : PySem.W.Frag} {tg : TG} {tb : TS} {D : Ends} {σ : St} {H : Hp} {tl : TE} {ta : TA}
theorem rd_forL {g : TG} (h : tl σ H fun x H1 => ∃ a, x = .ref a ∧ (∃ xs, SqL K H1 a xs) ∧ ∃ W : Nat → Nat → St → Hp → Prop, (∃ m, W 0 m σ H1) ∧ ∀ i m σ H, W i m σ H →
      ((Itl K a).stop i H ∧ D.nx σ H) ∨ ((Itl K a).go i H ∧ ∃ N : St → Hp → Prop, (∀ σ' H', N σ' H' → ∃ m', m' < m ∧ W (i + 1) m' σ' H') ∧ ∀ x H', (Itl K a).yld i H x H' → g x σ H' fun σ2 H2 => tb { D with nx := N, ct := N, bk := D.nx } σ2 H2)) :
    tFor (iList K tl) g tb D σ H := h
theorem rd_forR2 {g : TG} (h : ta σ H fun vs H1 => ∃ i j : Int, vs = [.int i, .int j] ∧ (-(2 ^ 62) ≤ i ∧ i < 2 ^ 62 ∧ -(2 ^ 62) ≤ j ∧ j < 2 ^ 62) ∧ ∃ W : Nat → Nat → St → Hp → Prop, (∃ m, W 0 m σ H1) ∧ ∀ k m σ H, W k m σ H →
      ((Itr i (j - i).toNat).stop k H ∧ D.nx σ H) ∨ ((Itr i (j - i).toNat).go k H ∧ ∃ N : St → Hp → Prop, (∀ σ' H', N σ' H' → ∃ m', m' < m ∧ W (k + 1) m' σ' H') ∧ ∀ x H', (Itr i (j - i).toNat).yld k H x H' → g x σ H' fun σ2 H2 => tb { D with nx := N, ct := N, bk := D.nx } σ2 H2)) :
    tFor (iRng2 ta) g tb D σ H := h
theorem rd_forR1 {g : TG} (h : ta σ H fun vs H1 => ∃ j : Int, vs = [.int j] ∧ -(2 ^ 62) ≤ j ∧ j < 2 ^ 62 ∧ ∃ W : Nat → Nat → St → Hp → Prop, (∃ m, W 0 m σ H1) ∧ ∀ k m σ H, W k m σ H →
      ((Itr 0 j.toNat).stop k H ∧ D.nx σ H) ∨ ((Itr 0 j.toNat).go k H ∧ ∃ N : St → Hp → Prop, (∀ σ' H', N σ' H' → ∃ m', m' < m ∧ W (k + 1) m' σ' H') ∧ ∀ x H', (Itr 0 j.toNat).yld k H x H' → g x σ H' fun σ2 H2 => tb { D with nx := N, ct := N, bk := D.nx } σ2 H2)) :
    tFor (iRng1 ta) g tb D σ H := h
theorem rd_itL {a : Addr} {xs : List V} {R : Addr → Prop} (h : SqL K H a xs) (q : R a) : ∃ b, V.ref a = .ref b ∧ (∃ ys, SqL K H b ys) ∧ R b := ⟨a, rfl, ⟨xs, h⟩, q⟩
end
end L2
set_option Elab.async false
set_option linter.all false
set_option maxRecDepth 100000
set_option maxHeartbeats 4000000
namespace L2
open PySem PySem.Spec PyProof.Rows
section
variable {prog : Program} {w : World} {A : Around} {R : Result → Shared → Prop} {s : Shared}
theorem compLoop_any {elt target iter : Expr} {ifs : List Expr} {scope : Scope} {pos : Pos} {it acc : Value} {env : Env} (I : Nat → Shared → Prop)
    (turn : ∀ n s, I n s → wpAny (model prog w) A (pyNext it) (fun r s₁ => match r with
      | none => R (.ok .next) s₁
      | some v => wpAny (model prog w) A (letOwnedTupleGo target it v) (fun _ s₁' => wpAny (model prog w) A (assign target env v) (fun _ s₂ =>
          wpAny (model prog w) A (forIn ifs true fun c r => if r = true then do let ok ← isTrue c env (eval c env); pure (ForInStep.yield ok) else pure (ForInStep.yield r)) (fun ok s₃ =>
            if ok = true then wpAny (model prog w) A (eval elt env) (fun x s₄ =>
              wpAny (model prog w) A (call (.builtin "list.append") [acc, x]) (fun _ s₅ => ∃ m, m < n ∧ I m s₅) (fun _ _ => False) s₄) (fun _ _ => False) s₃
            else ∃ m, m < n ∧ I m s₃) (fun _ _ => False) s₂) (fun _ _ => False) s₁') (fun _ _ => False) s₁) (fun _ _ => False) s)
    (n : Nat) (h : I n s) : codeAny (model prog w) A (.compLoop (.ListComp elt [⟨target, iter, ifs, 0⟩] scope pos) 0 it acc env) R s := by
  refine codeAny_loop rfl I (fun n s hI => ?_) n h
  show wpAny _ A ((compTurn (.ListComp elt [⟨target, iter, ifs, 0⟩] scope pos) 0 it acc env).onRaise (fun x => do noteFrame x env; theTreesLotGoes x)) _ _ s
  refine wpAny_noted ?_
  rw [compTurn_list]
  refine wpAny_bind (wpAny_standAt (wpAny_bind (wpAny_mono (turn n s hI) (fun r s₁ h₁ => ?_) fun _ _ h' => h'.elim)))
  cases r with
  | none => exact wpAny_pure h₁
  | some v =>
    refine wpAny_bind (wpAny_mono h₁ (fun _ s₁' h₁' => ?_) fun _ _ h' => h'.elim)
    refine wpAny_bind (wpAny_mono h₁' (fun _ s₂ h₂ => wpAny_bind (wpAny_mono h₂ (fun ok s₃ h₃ => ?_) fun _ _ h' => h'.elim)) fun _ _ h' => h'.elim)
    cases ok with
    | false => exact wpAny_pure ⟨rfl, h₃⟩
    | true =>
      exact wpAny_bind (wpAny_bind (wpAny_mono h₃ (fun x s₄ h₄ => wpAny_bind (wpAny_mono h₄ (fun _ s₅ h₅ => wpAny_pure (wpAny_pure ⟨rfl, h₅⟩)) fun _ _ h' => h'.elim)) fun _ _ h' => h'.elim))
end
theorem cellOf_some {env : Env} {x : Str} {c : Addr} (h : env.cells.lookup x = some c) : cellOf env x = pure c := by
  unfold cellOf
  rw [h]
theorem clos_go {env : Env} : ∀ (names : List (Str × NameKind)) (acc : List (Str × Addr)), (∀ x, (x, NameKind.free) ∈ names → ∃ c, env.cells.lookup x = some c) →
    ∃ cl, (forIn names acc fun (x : Str × NameKind) (cs : List (Str × Addr)) => if (x.2 == NameKind.free) = true then (cellOf env x.1 >>= fun a => pure (ForInStep.yield ((x.1, a) :: cs))) else pure (ForInStep.yield cs) : Sem (List (Str × Addr))) = pure cl ∧
      (∀ p ∈ cl, p ∈ acc ∨ (env.cells.lookup p.1 = some p.2 ∧ (p.1, NameKind.free) ∈ names)) ∧ (∀ p ∈ acc, p ∈ cl) ∧ ∀ x, (x, NameKind.free) ∈ names → ∃ c, (x, c) ∈ cl
  | [], acc, _ => ⟨acc, rfl, fun p hp => .inl hp, fun p hp => hp, fun x hx => by cases hx⟩
  | (n, k) :: r, acc, h => by
    have hr : ∀ x, (x, NameKind.free) ∈ r → ∃ c, env.cells.lookup x = some c := fun x hx => h x (List.mem_cons_of_mem _ hx)
    by_cases hk : k = NameKind.free
    · subst hk
      obtain ⟨c, hc⟩ := h n List.mem_cons_self
      obtain ⟨cl, e, h1, h2, h3⟩ := clos_go r ((n, c) :: acc) hr
      refine ⟨cl, ?_, fun p hp => ?_, fun p hp => h2 p (List.mem_cons_of_mem _ hp), fun x hx => ?_⟩
      · rw [List.forIn_cons, if_pos (show ((n, NameKind.free).2 == NameKind.free) = true from rfl), cellOf_some (x := (n, NameKind.free).1) hc, pure_bind, pure_bind]
        exact e
      · rcases h1 p hp with q | ⟨q, q2⟩
        · rcases List.mem_cons.mp q with q | q
          · exact .inr ⟨by rw [q]; exact hc, by rw [q]; exact List.mem_cons_self⟩
          · exact .inl q
        · exact .inr ⟨q, List.mem_cons_of_mem _ q2⟩
      · rcases List.mem_cons.mp hx with q | q
        · cases q
          exact ⟨c, h2 _ List.mem_cons_self⟩
        · exact h3 x q
    · have hb : ¬ (k == NameKind.free) = true := fun z => hk (beq_iff_eq.mp z)
      obtain ⟨cl, e, h1, h2, h3⟩ := clos_go r acc hr
      refine ⟨cl, ?_, fun p hp => ?_, h2, fun x hx => ?_⟩
      · rw [List.forIn_cons, if_neg hb, pure_bind]
        exact e
      · rcases h1 p hp with q | ⟨q, q2⟩
        · exact .inl q
        · exact .inr ⟨q, List.mem_cons_of_mem _ q2⟩
      · rcases List.mem_cons.mp hx with q | q
        · cases q
          exact absurd rfl hk
        · exact h3 x q
theorem clos_of {env : Env} {scope : Scope} (h : ∀ x, (x, NameKind.free) ∈ scope.names → ∃ c, env.cells.lookup x = some c) :
    ∃ cl, closureFor scope env = pure cl ∧ (∀ p ∈ cl, env.cells.lookup p.1 = some p.2 ∧ (p.1, NameKind.free) ∈ scope.names) ∧ ∀ x, (x, NameKind.free) ∈ scope.names → ∃ c, (x, c) ∈ cl := by
  obtain ⟨cl, e, h1, _, h3⟩ := clos_go scope.names [] h
  refine ⟨cl, ?_, fun p hp => ?_, h3⟩
  · unfold closureFor
    refine Eq.trans ?_ (Eq.trans (congrArg (fun z => z >>= fun cs => (pure cs : Sem _)) e) (pure_bind _ _))
    rfl
  · rcases h1 p hp with q | q
    · cases q
    · exact q
theorem lookup_mem {α β : Type} [BEq α] [LawfulBEq α] : ∀ {l : List (α × β)} {x : α} {c : β}, (x, c) ∈ l → ∃ c', l.lookup x = some c'
  | [], _, _, h => by cases h
  | (n, k) :: r, x, c, h => by
    by_cases e : (x == n) = true
    · exact ⟨k, by simp [List.lookup_cons, e]⟩
    · have e' : (x == n) = false := by simpa using e
      rcases List.mem_cons.mp h with q | q
      · cases q
        simp at e
      · obtain ⟨c', hc⟩ := lookup_mem q
        exact ⟨c', by simp [List.lookup_cons, e', hc]⟩
theorem relabel_free {env : Env} : ∀ {names : List (Str × NameKind)} {x : Str} {k : NameKind},
    (names.map fun (n, k) => if (k == NameKind.free && env.scope.kind == .function && env.kindOf n == some .cell) then (n, NameKind.cell) else (n, k)).lookup x = some k →
    names.lookup x = some k ∨ (k = .cell ∧ names.lookup x = some .free)
  | [], _, _, h => by simp at h
  | (n, k0) :: r, x, k, h => by
    have ih := @relabel_free env r x k
    have h' : List.lookup x ((if (k0 == NameKind.free && env.scope.kind == .function && env.kindOf n == some .cell) = true then (n, NameKind.cell) else (n, k0)) :: (r.map fun (n, k) => if (k == NameKind.free && env.scope.kind == .function && env.kindOf n == some .cell) then (n, NameKind.cell) else (n, k))) = some k := h
    cases hx : x == n with
    | true =>
      by_cases hc : (k0 == NameKind.free && env.scope.kind == .function && env.kindOf n == some .cell) = true
      · rw [if_pos hc] at h'
        simp only [List.lookup_cons, hx] at h' ⊢
        cases h'
        simp only [Bool.and_eq_true, beq_iff_eq] at hc
        exact .inr ⟨rfl, by rw [hc.1.1]⟩
      · rw [if_neg hc] at h'
        simp only [List.lookup_cons, hx] at h' ⊢
        exact .inl h'
    | false =>
      by_cases hc : (k0 == NameKind.free && env.scope.kind == .function && env.kindOf n == some .cell) = true
      · rw [if_pos hc] at h'
        simp only [List.lookup_cons, hx] at h' ⊢
        exact ih h'
      · rw [if_neg hc] at h'
        simp only [List.lookup_cons, hx] at h' ⊢
        exact ih h'
abbrev cxComp (X : Cx) (N : List Str) (scope : Scope) (cl : List (Str × Addr)) (C : Addr) (s : Shared) (H : Hp) (fp : List Addr) : Cx where
  prog := X.prog
  w := X.w
  K := X.K
  mg := X.mg
  base := X.base
  A := X.A
  N := N
  s₀ := s
  H₀ := H
  env := compEnvC scope cl C X.env
  outer := X.stack
  stack := X.stack
  ex := fp
  fn := fun _ => false
  calm := X.calm
  pn := []
  xe := fun _ _ => False
structure CScope (X : Cx) (N : List Str) (k : Nat) (caps : List Nat) (scope : Scope) : Prop where
  kind : scope.kind = .function
  nocell : ∀ y ∈ scope.names, y.2 ≠ .cell
  loc : ∀ y ∈ scope.names, y.2 = .local → scope.names.lookup y.1 = some .local
  has : ∀ x, (x, NameKind.free) ∈ scope.names → X.env.kindOf x = some .cell ∨ X.env.kindOf x = some .free
  len : N.length = k + caps.length
  cap : ∀ (i j : Nat) (x : Str), caps[i]? = some j → N[k + i]? = some x → X.N[j]? = some x ∧ Vis X.env.scope x
  nloc : ∀ (i j : Nat) (x : Str), caps[i]? = some j → N[k + i]? = some x → scope.names.lookup x = some .free
def compSt (k : Nat) (caps : List Nat) (σ : St) : St := List.replicate k none ++ caps.map fun j => σ.getD j none
theorem compSt_get {k : Nat} {caps : List Nat} {σ : St} {i : Nat} {v : V} (h : (compSt k caps σ)[i]? = some (some v)) : ∃ i' j, i = k + i' ∧ caps[i']? = some j ∧ σ[j]? = some (some v) := by
  unfold compSt at h
  by_cases hi : i < k
  · rw [List.getElem?_append_left (by simpa using hi), List.getElem?_replicate, if_pos hi] at h
    cases h
  · rw [List.getElem?_append_right (by simpa using hi), List.length_replicate, List.getElem?_map] at h
    obtain ⟨j, hj, e⟩ := Option.map_eq_some_iff.mp h
    refine ⟨i - k, j, by omega, hj, ?_⟩
    rw [List.getD_eq_getElem?_getD] at e
    cases q : σ[j]? with
    | none => rw [q] at e; cases e
    | some o => rw [q] at e; exact congrArg some e
section
variable {X : Cx} {pins : List (Addr × Obj)} {σ : St} {H : Hp} {s : Shared} {N : List Str} {k : Nat} {caps : List Nat} {scope : Scope} {cl : List (Str × Addr)} {fp : List Addr}
theorem Inv.comp {h1 : Heap} {t' : Nat} {m : Str → Option Value} (I : Inv X pins σ H s) (S : CScope X N k caps scope) (hcl : ∀ p ∈ cl, X.env.cells.lookup p.1 = some p.2 ∧ (p.1, NameKind.free) ∈ scope.names) (hhas : ∀ x, (x, NameKind.free) ∈ scope.names → ∃ c, (x, c) ∈ cl)
    (hf : ∀ b ∈ fp, FpOk X pins H b) (hfo : ∀ b ∈ fp, b < s.heap.objs.size) (hk : ∀ b o, s.heap.get? b = some o → h1.get? b = some o) (hn : h1.Ns s.heap.objs.size m) :
    Inv (cxComp X N scope cl s.heap.objs.size s H fp) [] (compSt k caps σ) H { s with heap := h1, toks := t' } := by
  have free_of : ∀ x, ((relabel scope X.env).names.lookup x = some .cell ∨ (relabel scope X.env).names.lookup x = some .free) → (x, NameKind.free) ∈ scope.names := fun x hx => by
    rcases hx with hx | hx
    · rcases relabel_free hx with q | ⟨_, q⟩
      · exact absurd rfl (S.nocell _ (PySem.mem_of_lookup q))
      · exact PySem.mem_of_lookup q
    · rcases relabel_free hx with q | ⟨e, _⟩
      · exact PySem.mem_of_lookup q
      · cases e
  have cl_of : ∀ x c, cl.lookup x = some c → X.env.cells.lookup x = some c ∧ (x, NameKind.free) ∈ scope.names := fun x c e => hcl (x, c) (PySem.mem_of_lookup e)
  have nb : ∀ b ∈ fp, ∀ o, X.base.get? b = some o → False := fun b hb o e => by
    obtain ⟨_, _, _, f3, _⟩ := hf b hb
    rcases f3 with z | z
    · exact I.ok.noex b o e z
    · exact absurd (Nat.lt_of_lt_of_le (Heap.lt_size e) (Nat.le_trans I.ok.bsz z)) (Nat.lt_irrefl _)
  have ok : (cxComp X N scope cl s.heap.objs.size s H fp).Ok := by
    refine ⟨I.ok.mod, S.kind, I.ok.glob, I.ok.blt, Nat.le_refl _, fun x y c h1 h2 => ?_, fun x hx => ?_, (fun x c e => by cases e), I.ok.hd, I.ok.frames, .inl rfl, fun b hb => ?_, I.bs, Nat.le_trans I.ok.bsz I.sz, fun b o e hb => nb b hb o e, fun b hb z => ?_, I.stack, I.stkFree⟩
    · exact I.ok.inj x y c (cl_of x c h1).1 (cl_of y c h2).1
    · obtain ⟨c, hc⟩ := hhas x (free_of x hx)
      exact lookup_mem hc
    · obtain ⟨_, _, _, _, f4, _⟩ := hf b hb
      exact ⟨Nat.ne_of_lt (hfo b hb), fun x c e => f4 x c (cl_of x c e).1⟩
    · obtain ⟨_, f1, f2, _⟩ := hf b hb
      rcases List.mem_cons.mp (I.stkSub b z) with e | e
      · exact f1 e
      · exact f2 e
  refine ⟨ok, rfl, I.bare, Un.kept hk, ⟨m, hn, fun i x v e1 e2 e3 => ?_⟩, fun x c e => ?_, I.hok.fresh (Nat.le_refl _), fun x c e => I.freeC x c (cl_of x c e).1, fun p hp => absurd (show p ∈ ([] : List (Addr × Obj)) from hp) (by simp), I.hok.kept hk, ?_⟩
  · obtain ⟨i', j, rfl, hj, hv⟩ := compSt_get e2
    obtain ⟨hx, hvis⟩ := S.cap i' j x hj e1
    obtain ⟨m', _, hl⟩ := I.loc
    obtain ⟨u, r, l⟩ := hl j x v hx hv hvis
    refine ⟨u, r, ?_⟩
    have e3' : (relabel scope X.env).names.lookup x = some .local ∨ (relabel scope X.env).names.lookup x = some .cell ∨ (relabel scope X.env).names.lookup x = some .free := e3
    rcases e3' with e3' | e3'
    · rcases relabel_free e3' with z | ⟨z, _⟩
      · rw [S.nloc i' j x hj e1] at z; cases z
      · cases z
    · have hfr := free_of x e3'
      obtain ⟨c0, hc0⟩ := hhas x hfr
      obtain ⟨c, hc⟩ := lookup_mem hc0
      have hXc := (cl_of x c hc).1
      rcases l with ⟨hk1, _⟩ | ⟨_, c', hc', hcell⟩
      · rcases S.has x hfr with z | z
        · rw [hk1] at z; cases z
        · rw [hk1] at z; cases z
      · rw [hXc] at hc'
        cases hc'
        exact .inr ⟨e3', c, hc, let ⟨o, ho, hd⟩ := hcell; ⟨o, hk _ _ ho, hd⟩⟩
  · obtain ⟨v, o, ho, hd⟩ := I.cell x c (cl_of x c e).1
    exact ⟨v, o, hk _ _ ho, hd⟩
  · show (compSt k caps σ).length = N.length
    unfold compSt
    rw [List.length_append, List.length_replicate, List.length_map]
    exact S.len.symm
theorem Inv.recomp {pins' : List (Addr × Obj)} {σ' : St} {C : Addr} {s3 s' : Shared} {H3 H' : Hp} (I : Inv X pins σ H3 s3) (S : CScope X N k caps scope) (hcl : ∀ p ∈ cl, X.env.cells.lookup p.1 = some p.2 ∧ (p.1, NameKind.free) ∈ scope.names) (hhas : ∀ x, (x, NameKind.free) ∈ scope.names → ∃ c, (x, c) ∈ cl)
    (hf : ∀ b ∈ fp, FpOk X pins H3 b) (J : Inv (cxComp X N scope cl C s3 H3 fp) pins' σ' H' s') : Inv (cxComp X N scope cl C s3 H3 fp) pins' (compSt k caps σ) H' s' := by
  have free_of : ∀ x, ((relabel scope X.env).names.lookup x = some .cell ∨ (relabel scope X.env).names.lookup x = some .free) → (x, NameKind.free) ∈ scope.names := fun x hx => by
    rcases hx with hx | hx
    · rcases relabel_free hx with q | ⟨_, q⟩
      · exact absurd rfl (S.nocell _ (PySem.mem_of_lookup q))
      · exact PySem.mem_of_lookup q
    · rcases relabel_free hx with q | ⟨e, _⟩
      · exact PySem.mem_of_lookup q
      · cases e
  have cl_of : ∀ x c, cl.lookup x = some c → X.env.cells.lookup x = some c ∧ (x, NameKind.free) ∈ scope.names := fun x c e => hcl (x, c) (PySem.mem_of_lookup e)
  obtain ⟨mC, hnC, _⟩ := J.loc
  refine ⟨J.ok, J.os, J.bare, J.base, ⟨mC, hnC, fun i x v e1 e2 e3 => ?_⟩, J.cell, J.free, J.freeC, J.pin, J.hok, ?_⟩
  · obtain ⟨i', j, rfl, hj, hv⟩ := compSt_get e2
    obtain ⟨hx, hvis⟩ := S.cap i' j x hj e1
    obtain ⟨m', _, hl⟩ := I.loc
    obtain ⟨u, r, l⟩ := hl j x v hx hv hvis
    refine ⟨u, r, ?_⟩
    have e3' : (relabel scope X.env).names.lookup x = some .local ∨ (relabel scope X.env).names.lookup x = some .cell ∨ (relabel scope X.env).names.lookup x = some .free := e3
    rcases e3' with e3' | e3'
    · rcases relabel_free e3' with z | ⟨z, _⟩
      · rw [S.nloc i' j x hj e1] at z; cases z
      · cases z
    · have hfr := free_of x e3'
      obtain ⟨c0, hc0⟩ := hhas x hfr
      obtain ⟨c, hc⟩ := lookup_mem hc0
      have hXc := (cl_of x c hc).1
      rcases l with ⟨hk1, _⟩ | ⟨_, c', hc', hcell⟩
      · rcases S.has x hfr with z | z
        · rw [hk1] at z; cases z
        · rw [hk1] at z; cases z
      · rw [hXc] at hc'
        cases hc'
        obtain ⟨o, ho, hd⟩ := hcell
        have nfp : c ∉ fp := fun z => (hf c z).2.2.2.2.1 x c hXc rfl
        obtain ⟨sl, q⟩ := J.base.any ho (I.freeC x c hXc) nfp
        exact .inr ⟨e3', c, hc, ⟨_, q, hd⟩⟩
  · show (compSt k caps σ).length = N.length
    unfold compSt
    rw [List.length_append, List.length_replicate, List.length_map]
    exact S.len.symm
theorem Inv.uncomp {C : Addr} {s3 s' : Shared} {H3 H' : Hp} {σ' : St} {h' : Heap} (I : Inv X pins σ H3 s3) (hC : C = s3.heap.objs.size) (hf : ∀ b ∈ fp, FpOk X pins H3 b)
    (J : Inv (cxComp X N scope cl C s3 H3 fp) [] σ' H' s') (hs : Heap.SameBut C s'.heap h') : Inv X pins σ H' { s' with heap := h' } := by
  subst hC
  have nC : ∀ b o, s3.heap.get? b = some o → b ≠ s3.heap.objs.size := fun b o e => Nat.ne_of_lt (Heap.lt_size e)
  have hfree : H' s3.heap.objs.size = none := J.free
  refine I.call' (ch := fp) J.os ⟨fun b o e n hb hx => ?_, fun b o e n hb hx => ?_, fun b o e n hx => J.base.free b o e n hx, fun b o e hx => ?_, J.base.tups, J.base.frzs, J.base.tbls⟩ (fun b u e => ?_) J.bare fun b hb => ?_
  · exact (hs.2 b (nC b o e)).trans (J.base.keep b o e n hb hx)
  · obtain ⟨sl, q⟩ := J.base.slot b o e n hb hx
    exact ⟨sl, (hs.2 b (nC b o e)).trans q⟩
  · obtain ⟨o', q⟩ := J.base.there b o e hx
    exact ⟨o', (hs.2 b (nC b o e)).trans q⟩
  · refine (J.hok b u e).stay (fun c v hc q => (hs.2 c ?_).trans q) (fun _ q => q) fun _ _ q => q
    rintro rfl
    rcases hc with z | z
    · rw [z] at hfree; rw [e] at hfree; cases hfree
    · rw [hfree] at z; cases z
  · obtain ⟨_, f1, _, f3, f4, f5⟩ := hf b hb
    exact ⟨f3, f1, f4, f5⟩
end
def tComp (k : Nat) (caps : List Nat) (wi : TI) (g : TG) (ts : TT) (te : TE) : TE := fun σ H Q => wi σ H fun J H1 => ∀ D, H1 D = none →
  ∃ W : Nat → Nat → List V → Hp → Prop, (∃ m, W 0 m [] (upd H1 D (.lst []))) ∧ ∀ i m ys H2, W i m ys H2 →
    (J.stop i H2 ∧ Q (.ref D) H2) ∨ (J.go i H2 ∧ ∀ x H3, J.yld i H2 x H3 → g x (compSt k caps σ) H3 fun σ4 H4 => ts σ4 H4 fun b H5 =>
      if b = true then te σ4 H5 fun y H6 => ∃ zs, H6 D = some (.lst zs) ∧ zs.length < sizeLine ∧ ∃ m', m' < m ∧ W (i + 1) m' (ys ++ [y]) (upd H6 D (.lst (zs ++ [y])))
      else ∃ m', m' < m ∧ W (i + 1) m' ys H5)
def tYes : TT := fun _ H Q => Q true H
def PTs (X : Cx) (ifs : List Expr) (t : TT) : Prop :=
  ∀ (pins : List (Addr × Obj)) (s : Shared) (σ : St) (H : Hp) (Q : Bool → Hp → Prop), Inv X pins σ H s → t σ H Q →
    wpAny (model X.prog X.w) X.A (forIn ifs true fun c r => if r = true then do let ok ← isTrue c X.env (eval c X.env); pure (ForInStep.yield ok) else pure (ForInStep.yield r)) (TP X pins σ Q) X.xe s
theorem pts_nil {X : Cx} : PTs X [] tYes := fun _ _ _ H _ I h => wpAny_tests_nil ⟨H, I, h⟩
theorem pts_one {X : Cx} {c : Expr} {t : TT} (h : PT X c t) : PTs X [c] t := fun pins s σ H Q I q => wpAny_tests_one (h pins s σ H Q I q)
section
variable {X : Cx} {N : List Str} {k : Nat} {caps : List Nat} {scope : Scope} {elt tg iter : Expr} {ifs : List Expr} {pos : Pos} {wi : TI} {g : TG} {ts : TT} {te : TE}
theorem comp_walk {pins : List (Addr × Obj)} {σ : St} {H : Hp} {s : Shared} {Q : VK} {RR : Value → Addr → Result → Shared → Prop} {cl : List (Str × Addr)} {it : Addr} {fp : List Addr} {tn : Nat → Heap → Prop} {J : It} {E : Value → Shared → Prop}
    (hc : X.calm = true) (S : CScope X N k caps scope) (hcl : ∀ p ∈ cl, X.env.cells.lookup p.1 = some p.2 ∧ (p.1, NameKind.free) ∈ scope.names) (hhas : ∀ x, (x, NameKind.free) ∈ scope.names → ∃ c, (x, c) ∈ cl)
    (hg : ∀ (cl : List (Str × Addr)) (C : Addr) (s : Shared) (H : Hp) (fp : List Addr), PG (cxComp X N scope cl C s H fp) tg g) (hts : ∀ (cl : List (Str × Addr)) (C : Addr) (s : Shared) (H : Hp) (fp : List Addr), PTs (cxComp X N scope cl C s H fp) ifs ts)
    (he : ∀ (cl : List (Str × Addr)) (C : Addr) (s : Shared) (H : Hp) (fp : List Addr), PE (cxComp X N scope cl C s H fp) elt te)
    (I : Inv X pins σ H s) (T : Turn X.prog X.w X.K tg J fp it tn) (st : tn 0 s.heap) (hf : ∀ b ∈ fp, FpOk X pins H b)
    (hw : ∀ D, H D = none → ∃ W : Nat → Nat → List V → Hp → Prop, (∃ m, W 0 m [] (upd H D (.lst []))) ∧ ∀ i m ys H2, W i m ys H2 →
      (J.stop i H2 ∧ Q (.ref D) H2) ∨ (J.go i H2 ∧ ∀ x H3, J.yld i H2 x H3 → g x (compSt k caps σ) H3 fun σ4 H4 => ts σ4 H4 fun b H5 =>
        if b = true then te σ4 H5 fun y H6 => ∃ zs, H6 D = some (.lst zs) ∧ zs.length < sizeLine ∧ ∃ m', m' < m ∧ W (i + 1) m' (ys ++ [y]) (upd H6 D (.lst (zs ++ [y])))
        else ∃ m', m' < m ∧ W (i + 1) m' ys H5))
    (hRR : ∀ D C s' H', (∃ m, s'.heap.Ns C m) → Q (.ref D) H' → FpOk X pins H' C → (∀ h', Heap.SameBut C s'.heap h' → Inv X pins σ H' { s' with heap := h' }) → RR (.ref D) C (.ok .next) s') :
    wpAny (model X.prog X.w) X.A (newList []) (fun acc s₃ => wpAny (model X.prog X.w) X.A (newFunctionEnv scope X.env.globals cl [] X.env.qual none .none (some X.env)) (fun cenv s₄ =>
      codeAny (model X.prog X.w) X.A (.compStart (.ListComp elt [⟨tg, iter, ifs, 0⟩] scope pos) 0 (.ref it) acc { cenv with scope := relabel scope X.env }) (RR acc cenv.locals) s₄) E s₃) E s := by
  refine wpAny_newObj_type (wpAny_newFunctionEnv S.nocell (by intro y hy; simp at hy) (fun h₁ hns₁ hsb₁ => ?_) S.kind)
  dsimp only at hns₁ hsb₁ ⊢
  have hD : H s.heap.objs.size = none := I.hok.fresh (Nat.le_refl _)
  have I3 : Inv X pins σ (upd H s.heap.objs.size (.lst [])) { s with heap := s.heap.push { cls := .type "list", data := .seq ([] : List Value).toArray }, toks := s.toks } := I.lnew (its := []) (ys := []) .nil (Nat.zero_le _)
  have hfp : ∀ b ∈ fp, b < s.heap.objs.size := fun b hb => by
    obtain ⟨o, e, _⟩ := T.obj 0 _ st b hb
    exact Heap.lt_size e
  have hf3 : ∀ b ∈ fp, FpOk X pins (upd H s.heap.objs.size (.lst [])) b := fun b hb => ⟨by rw [upd_ne (Nat.ne_of_lt (hfp b hb))]; exact (hf b hb).1, (hf b hb).2⟩
  generalize hs3 : ({ s with heap := s.heap.push { cls := .type "list", data := .seq ([] : List Value).toArray }, toks := s.toks } : Shared) = s3 at I3
  have e3 : s3.heap = s.heap.push { cls := .type "list", data := .seq ([] : List Value).toArray } := by rw [← hs3]
  have hsz : s3.heap.objs.size = s.heap.objs.size + 1 := by rw [e3, Heap.size_push]
  have hfp3 : ∀ b ∈ fp, b < s3.heap.objs.size := fun b hb => by rw [hsz]; exact Nat.lt_succ_of_lt (hfp b hb)
  have hC : (s.heap.push { cls := .type "list", data := .seq ([] : List Value).toArray }).objs.size = s3.heap.objs.size := by rw [e3]
  have hk : ∀ b o, s3.heap.get? b = some o → h₁.get? b = some o := fun b o e => by
    have nb : b ≠ (s.heap.push { cls := .type "list", data := .seq ([] : List Value).toArray }).objs.size := by rw [hC]; exact Nat.ne_of_lt (Heap.lt_size e)
    rw [e3] at e
    exact (hsb₁.2 b nb).trans (Heap.get?_push_of_some _ e)
  have hns : h₁.Ns s3.heap.objs.size (fun x => ([] : List (Str × Value)).reverse.lookup x) := by rw [← hC]; exact hns₁
  have J0 : Inv (cxComp X N scope cl s3.heap.objs.size s3 (upd H s.heap.objs.size (.lst [])) fp) [] (compSt k caps σ) (upd H s.heap.objs.size (.lst [])) { s3 with heap := h₁, toks := s.toks + ([] : List (Str × Value)).length } := I3.comp S hcl hhas hf3 hfp3 hk hns
  have hst : tn 0 h₁ := T.keep 0 _ _ st fun b _ o e => hk b o (by rw [e3]; exact Heap.get?_push_of_some _ e)
  obtain ⟨W, ⟨m0, w0⟩, turn⟩ := hw _ hD
  have stat : ∀ {H' : Hp} {ps : List (Addr × Obj)}, (∀ b ∈ fp, H' b = none) → (∀ p ∈ ps, False) → ∀ b ∈ fp, FpOk (cxComp X N scope cl s3.heap.objs.size s3 (upd H s.heap.objs.size (.lst [])) fp) ps H' b := fun {H' ps} hn hp b hb => by
    refine ⟨hn b hb, Nat.ne_of_lt (hfp3 b hb), fun z => J0.ok.exfs b hb z, .inl hb, fun x c e z => ?_, fun p hp' => (hp p (by simpa using hp')).elim⟩
    exact (J0.ok.exf b hb).2 x c e z
  have loop : ∀ s₄ : Shared, s₄ = { s3 with heap := h₁, toks := s.toks + ([] : List (Str × Value)).length } →
      codeAny (model X.prog X.w) X.A (.compLoop (.ListComp elt [⟨tg, iter, ifs, 0⟩] scope pos) 0 (.ref it) (.ref s.heap.objs.size) (compEnvC scope cl s3.heap.objs.size X.env)) (RR (.ref s.heap.objs.size) s3.heap.objs.size) s₄ := by
    rintro s₄ rfl
    refine compLoop_any (fun n s' => ∃ i ys H', Inv (cxComp X N scope cl s3.heap.objs.size s3 (upd H s.heap.objs.size (.lst [])) fp) [] (compSt k caps σ) H' s' ∧ tn i s'.heap ∧ (∀ b ∈ fp, H' b = none) ∧ W i n ys H') ?_ m0 ⟨0, [], _, J0, hst, fun b hb => (hf3 b hb).1, w0⟩
    rintro n s5 ⟨i, ys, H5, J5, st5, fr5, w5⟩
    rcases turn i n ys H5 w5 with ⟨stop, qn⟩ | ⟨go, step⟩
    · refine thn (T.done (cxComp X N scope cl s3.heap.objs.size s3 (upd H s.heap.objs.size (.lst [])) fp) rfl rfl rfl hc i [] s5 _ H5 (fun _ _ => False) J5 (stat fr5 (fun _ h => by cases h)) st5 stop) fun r s6 ⟨hr, J6⟩ => ?_
      subst hr
      exact hRR _ _ s6 H5 (let ⟨m, h, _⟩ := J6.loc; ⟨m, h⟩) qn (I3.fpOk (Nat.le_refl _) J6.free) fun h' hs => I3.uncomp rfl hf3 J6 hs
    · refine thn (T.item (cxComp X N scope cl s3.heap.objs.size s3 (upd H s.heap.objs.size (.lst [])) fp) rfl rfl rfl hc i [] s5 _ H5 (fun _ _ => False) J5 (stat fr5 (fun _ h => by cases h)) st5 go) fun r s6 ⟨u, hr, h6⟩ => ?_
      subst hr
      refine thn h6 fun _ s7 ⟨x, H7, J7, r7, y7, st7, fr7⟩ => ?_
      have J7' := J7.pinned (stat fr7 (fun _ h => by cases h)) (T.obj _ _ st7)
      have keep : ∀ {σ8 : St} {H8 : Hp} {s8 : Shared} {m' : Nat} {ys' : List V}, Inv (cxComp X N scope cl s3.heap.objs.size s3 (upd H s.heap.objs.size (.lst [])) fp) ([] ++ pinsAt fp s7.heap) σ8 H8 s8 → m' < n → W (i + 1) m' ys' H8 →
          ∃ m, m < n ∧ ∃ i ys H', Inv (cxComp X N scope cl s3.heap.objs.size s3 (upd H s.heap.objs.size (.lst [])) fp) [] (compSt k caps σ) H' s8 ∧ tn i s8.heap ∧ (∀ b ∈ fp, H' b = none) ∧ W i m ys H' := fun {σ8 H8 s8 m' ys'} J8 hm w8 => by
        refine ⟨m', hm, i + 1, ys', H8, I3.recomp S hcl hhas hf3 J8.unpinned, T.keep _ _ _ st7 fun b hb o e => (J8.pin (b, o) (List.mem_append_right _ (List.mem_append_right _ (mem_pinsAt hb e)))).1, fun b hb => ?_, w8⟩
        obtain ⟨o, e, d⟩ := T.obj _ _ st7 b hb
        exact (J8.pin (b, o) (List.mem_append_right _ (List.mem_append_right _ (mem_pinsAt hb e)))).2.1
      refine thn (hg cl _ s3 _ fp _ s7 _ H7 x u _ J7' r7 (step x H7 y7)) fun _ s8 ⟨σ8, H8, J8, q8⟩ => ?_
      refine thn (hts cl _ s3 _ fp _ s8 σ8 H8 _ J8 q8) fun ok s9 ⟨H9, J9, q9⟩ => ?_
      cases ok with
      | false =>
        rw [if_neg Bool.false_ne_true] at q9 ⊢
        obtain ⟨m', hm, w9⟩ := q9
        exact keep J9 hm w9
      | true =>
        rw [if_pos rfl] at q9 ⊢
        refine thn (he cl _ s3 _ fp _ s9 σ8 H9 _ J9 q9) fun yv s10 ⟨y, H10, J10, r10, zs, hz, hlt, m', hm, w10⟩ => ?_
        refine thn (mt_append _ s10 σ8 H10 (.ref s.heap.objs.size) [y] (.ref s.heap.objs.size) [yv] (fun _ H11 => H11 = upd H10 s.heap.objs.size (.lst (zs ++ [y]))) J10 rfl (.cons r10 .nil) ⟨_, zs, y, rfl, rfl, hz, hlt, rfl⟩) fun _ s11 ⟨_, H11, J11, _, e11⟩ => ?_
        subst e11
        exact keep J11 hm w10
  have fin := codeAny_compStart_list (prog := X.prog) (w := X.w) (A := X.A) (elt := elt) (target := tg) (iter := iter) (ifs := ifs) (rest := []) (scope := scope) (pos := pos) (it := .ref it) (acc := .ref s.heap.objs.size) (env := compEnvC scope cl s3.heap.objs.size X.env) (R := RR (.ref s.heap.objs.size) s3.heap.objs.size) (loop _ rfl)
    (T.self X.A 0 { s3 with heap := h₁, toks := s.toks + ([] : List (Str × Value)).length } _ _ hst (loop _ rfl))
  subst hs3
  exact fin
theorem pe_comp (hc : X.calm = true) (hi : PI X tg iter wi) (S : CScope X N k caps scope)
    (hg : ∀ (cl : List (Str × Addr)) (C : Addr) (s : Shared) (H : Hp) (fp : List Addr), PG (cxComp X N scope cl C s H fp) tg g) (hts : ∀ (cl : List (Str × Addr)) (C : Addr) (s : Shared) (H : Hp) (fp : List Addr), PTs (cxComp X N scope cl C s H fp) ifs ts)
    (he : ∀ (cl : List (Str × Addr)) (C : Addr) (s : Shared) (H : Hp) (fp : List Addr), PE (cxComp X N scope cl C s H fp) elt te)
    (hs : ∀ x, foldedSetIterable iter X.env x = pure x := by intro _; rfl) : PE X (.ListComp elt [⟨tg, iter, ifs, 0⟩] scope pos) (tComp k caps wi g ts te) := by
  intro pins s σ H Q I h
  obtain ⟨cl, hclos, hcl, hhas⟩ := clos_of (env := X.env) (scope := scope) fun x hx => I.ok.has x (S.has x hx)
  rw [eval_ListComp]
  refine wpAny_comprehension_free (use := none) rfl hs hclos S.kind S.loc (thn (hi pins s σ H _ I h) fun xv s₁ h₁ => thn h₁ fun itv s₂ h₂ => ?_)
  obtain ⟨it, fp, tn, J, H2, e, I2, T, st2, f2, hw⟩ := h₂
  subst e
  refine comp_walk (Q := Q) (RR := fun acc C => compPost (model X.prog X.w) X.A X.xe none (EP X pins σ Q) acc C) hc S hcl hhas hg hts he I2 T st2 f2 hw fun D C s' H' hm q _ hI => ?_
  obtain ⟨m, hm⟩ := hm
  exact ⟨m, hm, fun h' hs => ⟨.ref D, H', hI h' hs, rfl, q⟩⟩
theorem ps_comp {y : Str} {py spos : Pos} {g0 : TG} (hc : X.calm = true) (hi : PI X tg iter wi) (S : CScope X N k caps scope)
    (hg : ∀ (cl : List (Str × Addr)) (C : Addr) (s : Shared) (H : Hp) (fp : List Addr), PG (cxComp X N scope cl C s H fp) tg g) (hts : ∀ (cl : List (Str × Addr)) (C : Addr) (s : Shared) (H : Hp) (fp : List Addr), PTs (cxComp X N scope cl C s H fp) ifs ts)
    (he : ∀ (cl : List (Str × Addr)) (C : Addr) (s : Shared) (H : Hp) (fp : List Addr), PE (cxComp X N scope cl C s H fp) elt te) (hy : PG X (.Name y py) g0)
    (hsw : swapsWith (.ListComp elt [⟨tg, iter, ifs, 0⟩] scope pos) (some (.Name y py)) spos.line X.env = pure true)
    (hs : ∀ x, foldedSetIterable iter X.env x = pure x := by intro _; rfl) : PS X (.Assign [.Name y py] (.ListComp elt [⟨tg, iter, ifs, 0⟩] scope pos) spos) (tAsg (tComp k caps wi g ts te) g0) := by
  intro pins s σ H D I h
  obtain ⟨cl, hclos, hcl, hhas⟩ := clos_of (env := X.env) (scope := scope) fun x hx => I.ok.has x (S.has x hx)
  rw [exec_Assign_Name_used _ _ _ _ hsw]
  refine wpAny_bind (wpAny_standAt (wpAny_bind ?_))
  show wpAny _ X.A (do let _ ← comprehension (.ListComp elt [⟨tg, iter, ifs, 0⟩] scope pos) scope X.env _ (newList []) false (eval iter X.env) (some (assign (.Name y py) X.env))) _ _ s
  refine wpAny_bind (wpAny_mono (wpAny_comprehension_free (use := some (assign (.Name y py) X.env)) (Q := fun _ s' => SP X pins D .next s') rfl hs hclos S.kind S.loc (thn (hi pins s σ H _ I h) fun xv s₁ h₁ => thn h₁ fun itv s₂ h₂ => ?_))
    (fun _ s' hq => wpAny_pure (wpAny_pure hq)) fun _ _ e => e)
  obtain ⟨it, fp, tn, J, H2, e, I2, T, st2, f2, hw⟩ := h₂
  subst e
  refine comp_walk (Q := fun x H' => g0 x σ H' D.nx) (RR := fun acc C => compPost (model X.prog X.w) X.A X.xe (some (assign (.Name y py) X.env)) (fun _ s' => SP X pins D .next s') acc C) hc S hcl hhas hg hts he I2 T st2 f2 hw fun Da C s' H' hm q fC hI => ?_
  obtain ⟨m, o, es, ep, ho, hd, hk⟩ := hm
  have I3 : Inv X pins σ H' s' := hI s'.heap (Heap.SameBut.refl _ _)
  have I4 := I3.pinned (fp := [C]) (fun b hb => by rw [List.mem_singleton.mp hb]; exact fC) (fun b hb => by rw [List.mem_singleton.mp hb]; exact ⟨o, ho, fun v z => by rw [hd] at z; cases z⟩)
  show wpAny _ X.A (assign (.Name y py) X.env (.ref Da)) _ _ s'
  refine thn (hy _ s' σ H' (.ref Da) (.ref Da) _ I4 rfl q) fun _ s5 ⟨σ5, H5, I5, q5⟩ => ?_
  have hp := I5.pin (C, o) (List.mem_append_right _ (List.mem_append_right _ (mem_pinsAt (by simp) ho)))
  refine ⟨m, ⟨o, es, ep, hp.1, hd, hk⟩, fun h' hs' => ⟨σ5, H5, ?_, q5⟩⟩
  obtain ⟨f0, f1, f2', f3, f4, f5⟩ := fC
  exact I5.unpinned.turned (t' := s5.toks) (fun b o hb e => (hs'.2 b hb).trans e) hp.2.1 f1 f3 f4 f5
end
def visB (sc : Scope) (x : Str) : Bool := sc.names.lookup x == some .local || (sc.names.lookup x == some .cell || sc.names.lookup x == some .free)
def capB (sc : Scope) (NX N : List Str) (k : Nat) (scope : Scope) : Nat → List Nat → Bool
  | _, [] => true
  | i, j :: r => (match N[k + i]? with
    | some x => NX[j]? == some x && visB sc x && scope.names.lookup x == some .free
    | none => false) && capB sc NX N k scope (i + 1) r
def cscopeB (sc : Scope) (NX N : List Str) (k : Nat) (caps : List Nat) (scope : Scope) : Bool :=
  scope.kind == .function && scope.names.all (fun y => !(y.2 == .cell)) && scope.names.all (fun y => !(y.2 == .local) || scope.names.lookup y.1 == some .local) &&
  scope.names.all (fun y => !(y.2 == .free) || (sc.names.lookup y.1 == some .cell || sc.names.lookup y.1 == some .free)) && N.length == k + caps.length && capB sc NX N k scope 0 caps
theorem capB_of {sc : Scope} {NX N : List Str} {k : Nat} {scope : Scope} : ∀ {i0 : Nat} {caps : List Nat}, capB sc NX N k scope i0 caps = true → ∀ (i j : Nat) (x : Str), caps[i]? = some j → N[k + (i0 + i)]? = some x →
    (NX[j]? = some x ∧ Vis sc x) ∧ scope.names.lookup x = some .free
  | _, [], _, i, j, x, h, _ => by simp at h
  | i0, c :: r, h, i, j, x, hi, hx => by
    unfold capB at h
    rw [Bool.and_eq_true] at h
    cases i with
    | zero =>
      have e : c = j := by simpa using hi
      subst e
      rw [Nat.add_zero] at hx
      rw [hx] at h
      simp only [Bool.and_eq_true, beq_iff_eq, visB, Bool.or_eq_true] at h
      exact ⟨⟨h.1.1.1, h.1.1.2⟩, h.1.2⟩
    | succ i =>
      refine capB_of h.2 i j x (by simpa using hi) ?_
      rw [show i0 + 1 + i = i0 + (i + 1) by omega]
      exact hx
theorem CScope.of {X : Cx} {N : List Str} {k : Nat} {caps : List Nat} {scope : Scope} (h : cscopeB X.env.scope X.N N k caps scope = true) : CScope X N k caps scope := by
  unfold cscopeB at h
  simp only [Bool.and_eq_true, beq_iff_eq, List.all_eq_true, Bool.not_eq_true', beq_eq_false_iff_ne, Bool.or_eq_true] at h
  obtain ⟨⟨⟨⟨⟨h1, h2⟩, h3⟩, h4⟩, h5⟩, h6⟩ := h
  refine ⟨h1, h2, fun y hy e => ?_, fun x hx => ?_, h5, fun i j x hi hx => (capB_of h6 i j x hi (by rw [Nat.zero_add]; exact hx)).1, fun i j x hi hx => (capB_of h6 i j x hi (by rw [Nat.zero_add]; exact hx)).2⟩
  · rcases h3 y hy with z | z
    · exact absurd e z
    · exact z
  · rcases h4 _ hx with z | z
    · exact absurd rfl z
    · exact z
theorem ps_compB {X : Cx} {scope : Scope} {elt tg iter : Expr} {ifs : List Expr} {pos spos py : Pos} {y : Str} {wi : TI} {g g0 : TG} {ts : TT} {te : TE} (N : List Str) (k : Nat) (caps : List Nat) (hi : PI X tg iter wi)
    (hg : ∀ (cl : List (Str × Addr)) (C : Addr) (s : Shared) (H : Hp) (fp : List Addr), PG (cxComp X N scope cl C s H fp) tg g) (hts : ∀ (cl : List (Str × Addr)) (C : Addr) (s : Shared) (H : Hp) (fp : List Addr), PTs (cxComp X N scope cl C s H fp) ifs ts)
    (he : ∀ (cl : List (Str × Addr)) (C : Addr) (s : Shared) (H : Hp) (fp : List Addr), PE (cxComp X N scope cl C s H fp) elt te) (hy : PG X (.Name y py) g0) (hc : X.calm = true := by rfl) (hS : cscopeB X.env.scope X.N N k caps scope = true := by kernel_rfl)
    (hsw : swapsWith (.ListComp elt [⟨tg, iter, ifs, 0⟩] scope pos) (some (.Name y py)) spos.line X.env = pure true := by rfl)
    (hs : ∀ x, foldedSetIterable iter X.env x = pure x := by intro _; rfl) : PS X (.Assign [.Name y py] (.ListComp elt [⟨tg, iter, ifs, 0⟩] scope pos) spos) (tAsg (tComp k caps wi g ts te) g0) := ps_comp hc hi (CScope.of hS) hg hts he hy hsw hs
theorem pe_compB {X : Cx} {scope : Scope} {elt tg iter : Expr} {ifs : List Expr} {pos : Pos} {wi : TI} {g : TG} {ts : TT} {te : TE} (N : List Str) (k : Nat) (caps : List Nat) (hi : PI X tg iter wi)
    (hg : ∀ (cl : List (Str × Addr)) (C : Addr) (s : Shared) (H : Hp) (fp : List Addr), PG (cxComp X N scope cl C s H fp) tg g) (hts : ∀ (cl : List (Str × Addr)) (C : Addr) (s : Shared) (H : Hp) (fp : List Addr), PTs (cxComp X N scope cl C s H fp) ifs ts)
    (he : ∀ (cl : List (Str × Addr)) (C : Addr) (s : Shared) (H : Hp) (fp : List Addr), PE (cxComp X N scope cl C s H fp) elt te) (hc : X.calm = true := by rfl) (hS : cscopeB X.env.scope X.N N k caps scope = true := by kernel_rfl)
    (hs : ∀ x, foldedSetIterable iter X.env x = pure x := by intro _; rfl) : PE X (.ListComp elt [⟨tg, iter, ifs, 0⟩] scope pos) (tComp k caps wi g ts te) := pe_comp hc hi (CScope.of hS) hg hts he hs
end L2
set_option Elab.async false
set_option linter.all false
set_option maxRecDepth 100000
set_option maxHeartbeats 4000000
namespace L2
open PySem PySem.Spec PyProof.Rows
def Itv (K : PySem.W.Frag) (l : Addr) (n : Nat) : It :=
  ⟨fun i H => i < n ∧ ∃ xs, SqL K H l xs ∧ xs.length = n, fun i H x H' => H' = H ∧ ∀ xs, SqL K H l xs → xs[n - 1 - i]? = some x, fun i _ => i = n⟩
section
variable {X : Cx} {tg : Expr}
def iRev (K : PySem.W.Frag) (ta : TA) : TI := fun σ H R => ta σ H fun vs H1 => ∃ l xs, vs = [.ref l] ∧ SqL K H1 l xs ∧ R (Itv K l xs.length) H1
end
def Itz (K : PySem.W.Frag) (l1 l2 : Addr) : It :=
  ⟨fun i H => ∃ xs ys x y, SqL K H l1 xs ∧ SqL K H l2 ys ∧ xs[i]? = some x ∧ ys[i]? = some y,
   fun i H v H' => ∃ p x y, v = .ref p ∧ H p = none ∧ H' = upd H p (.tup [x, y]) ∧ (∀ xs, SqL K H l1 xs → xs[i]? = some x) ∧ ∀ ys, SqL K H l2 ys → ys[i]? = some y,
   fun i H => ∃ xs ys, SqL K H l1 xs ∧ SqL K H l2 ys ∧ (xs[i]? = none ∨ ys[i]? = none)⟩
section
variable {X : Cx} {elts : List Expr} {kk : Nat} {tpos : Pos}
def iZip (K : PySem.W.Frag) (ta : TA) : TI := fun σ H R => ta σ H fun vs H1 => ∃ l1 l2 xs ys, vs = [.ref l1, .ref l2] ∧ SqL K H1 l1 xs ∧ SqL K H1 l2 ys ∧ R (Itz K l1 l2) H1
end
end L2
set_option Elab.async false
set_option linter.all false
set_option maxRecDepth 100000
set_option maxHeartbeats 4000000
namespace L2
open PySem PySem.Spec PyProof.Rows
section
variable {k : Nat} {caps : List Nat} {g : TG} {te : TE} {σ : St} {Q : VK} {H1 : Hp} {D : Addr} {J : It} {n : Nat} {ts : TT}
def SameD (D : Addr) (H H' : Hp) : Prop := ∀ b o, b ≠ D → H b = some o → H' b = some o
theorem Same.sameD {H H' : Hp} (S : Same H H') : SameD D H H' := fun b o _ e => S b o e
theorem comp_core {QD : Addr → Hp → Prop} (R : Nat → V → Hp → Prop) (mono : ∀ i y H H', R i y H → SameD D H H' → TupK H H' → R i y H') (hn : n ≤ 1000000) (hD : H1 D = none) (hgo : ∀ i H, i < n → Same H1 H → J.go i H) (hstop : ∀ H, Same H1 H → J.stop n H)
    (step : ∀ (i : Nat) (H2 : Hp) (x : V) (H3 : Hp) (ys : List V) (C : V → Hp → Prop), i < n → Same H1 H2 → H2 D = some (.lst ys) → J.yld i H2 x H3 → (∀ y H6, Same H2 H6 → R i y H6 → C y H6) → g x (compSt k caps σ) H3 fun σ4 H4 => te σ4 H4 C)
    (fin : ∀ (ys : List V) (H' : Hp), Same H1 H' → H' D = some (.lst ys) → ys.length = n → (∀ (j : Nat) y, ys[j]? = some y → R j y H') → QD D H') :
    ∃ W : Nat → Nat → List V → Hp → Prop, (∃ m, W 0 m [] (upd H1 D (.lst []))) ∧ ∀ i m ys H2, W i m ys H2 →
      (J.stop i H2 ∧ QD D H2) ∨ (J.go i H2 ∧ ∀ x H3, J.yld i H2 x H3 → g x (compSt k caps σ) H3 fun σ4 H4 => tYes σ4 H4 fun b H5 =>
        if b = true then te σ4 H5 fun y H6 => ∃ zs, H6 D = some (.lst zs) ∧ zs.length < sizeLine ∧ ∃ m', m' < m ∧ W (i + 1) m' (ys ++ [y]) (upd H6 D (.lst (zs ++ [y])))
        else ∃ m', m' < m ∧ W (i + 1) m' ys H5) := by
  refine ⟨fun i m ys H => m + i = n ∧ Same H1 H ∧ H D = some (.lst ys) ∧ ys.length = i ∧ ∀ (j : Nat) y, ys[j]? = some y → R j y H, ⟨n, rfl, Same.new (Same.refl _) hD, upd_same, rfl, fun j y e => by simp at e⟩, ?_⟩
  rintro i m ys H2 ⟨hm, S2, hd, hl, hR⟩
  by_cases hi : i < n
  · refine .inr ⟨hgo i H2 hi S2, fun x H3 hy => step i H2 x H3 ys _ hi S2 hd hy fun y H6 S6 r6 => ?_⟩
    refine ⟨ys, S6 _ _ hd, smallLt (by omega), m - 1, by omega, by omega, fun b o e => ?_, upd_same, by rw [List.length_append, hl]; rfl, fun j z e => ?_⟩
    · rw [upd_ne (ne_of_none e hD)]
      exact S6 b o (S2 b o e)
    · have sd : SameD D H6 (upd H6 D (.lst (ys ++ [y]))) := fun b o nb e => by rw [upd_ne nb]; exact e
      by_cases hj : j < ys.length
      · rw [List.getElem?_append_left hj] at e
        exact mono j z _ _ (mono j z _ _ (hR j z e) S6.sameD S6.tupK) sd (TupK.lst (TupK.refl _) (S6 _ _ hd))
      · rw [List.getElem?_append_right (by omega)] at e
        have hj0 : j - ys.length = 0 := by
          have : j - ys.length < [y].length := (List.getElem?_eq_some_iff.mp e).1
          simp at this
          omega
        rw [hj0] at e
        have ez : y = z := by simpa using e
        subst ez
        have ej : j = i := by omega
        subst ej
        exact mono _ _ _ _ r6 sd (TupK.lst (TupK.refl _) (S6 _ _ hd))
  · have e : i = n := by omega
    subst e
    exact .inl ⟨hstop H2 S2, fin ys H2 S2 hd hl hR⟩
variable {K : PySem.W.Frag} {tl : TE} {ta : TA} {H : Hp}
theorem rd_compL (h : tl σ H fun v H1 => ∃ a, v = .ref a ∧ (∃ xs, SqL K H1 a xs) ∧ ∀ D, H1 D = none →
      ∃ W : Nat → Nat → List V → Hp → Prop, (∃ m, W 0 m [] (upd H1 D (.lst []))) ∧ ∀ i m ys H2, W i m ys H2 →
        ((Itl K a).stop i H2 ∧ Q (.ref D) H2) ∨ ((Itl K a).go i H2 ∧ ∀ x H3, (Itl K a).yld i H2 x H3 → g x (compSt k caps σ) H3 fun σ4 H4 => ts σ4 H4 fun b H5 =>
          if b = true then te σ4 H5 fun y H6 => ∃ zs, H6 D = some (.lst zs) ∧ zs.length < sizeLine ∧ ∃ m', m' < m ∧ W (i + 1) m' (ys ++ [y]) (upd H6 D (.lst (zs ++ [y])))
          else ∃ m', m' < m ∧ W (i + 1) m' ys H5)) : tComp k caps (iList K tl) g ts te σ H Q := h
theorem comp_list {QD : Addr → Hp → Prop} {a : Addr} {xs : List V} (hq : SqL K H1 a xs) (hz : xs.length ≤ 1000000) (q : ∀ D, H1 D = none → ∃ R : Nat → V → Hp → Prop, (∀ i y H H', R i y H → SameD D H H' → TupK H H' → R i y H') ∧
      (∀ (i : Nat) (x : V) (H2 : Hp) (ys : List V) (C : V → Hp → Prop), xs[i]? = some x → Same H1 H2 → H2 D = some (.lst ys) → (∀ y H6, Same H2 H6 → R i y H6 → C y H6) → g x (compSt k caps σ) H2 fun σ4 H4 => te σ4 H4 C) ∧
      ∀ (ys : List V) (H' : Hp), Same H1 H' → H' D = some (.lst ys) → ys.length = xs.length → (∀ (j : Nat) y, ys[j]? = some y → R j y H') → QD D H') :
    ∀ D, H1 D = none →
      ∃ W : Nat → Nat → List V → Hp → Prop, (∃ m, W 0 m [] (upd H1 D (.lst []))) ∧ ∀ i m ys H2, W i m ys H2 →
        ((Itl K a).stop i H2 ∧ QD D H2) ∨ ((Itl K a).go i H2 ∧ ∀ x H3, (Itl K a).yld i H2 x H3 → g x (compSt k caps σ) H3 fun σ4 H4 => tYes σ4 H4 fun b H5 =>
          if b = true then te σ4 H5 fun y H6 => ∃ zs, H6 D = some (.lst zs) ∧ zs.length < sizeLine ∧ ∃ m', m' < m ∧ W (i + 1) m' (ys ++ [y]) (upd H6 D (.lst (zs ++ [y])))
          else ∃ m', m' < m ∧ W (i + 1) m' ys H5) := by
  intro D hD
  obtain ⟨R, hm, hs, hf⟩ := q D hD
  refine comp_core (n := xs.length) R hm hz hD (fun i H2 hi S2 => ⟨xs, xs[i], S2.seq hq, by simp [hi]⟩) (fun H2 S2 => ⟨xs, S2.seq hq, Nat.le_refl _⟩) (fun i H2 x H3 ys C hi S2 hd hy hC => ?_) hf
  obtain ⟨e3, hy⟩ := hy
  subst e3
  exact hs i x H3 ys C (hy xs (S2.seq hq)) S2 hd hC
theorem rd_compZ (h : ta σ H fun vs H1 => ∃ l1 l2 xs ys, vs = [.ref l1, .ref l2] ∧ SqL K H1 l1 xs ∧ SqL K H1 l2 ys ∧ ∀ D, H1 D = none →
      ∃ W : Nat → Nat → List V → Hp → Prop, (∃ m, W 0 m [] (upd H1 D (.lst []))) ∧ ∀ i m ys H2, W i m ys H2 →
        ((Itz K l1 l2).stop i H2 ∧ Q (.ref D) H2) ∨ ((Itz K l1 l2).go i H2 ∧ ∀ x H3, (Itz K l1 l2).yld i H2 x H3 → g x (compSt k caps σ) H3 fun σ4 H4 => ts σ4 H4 fun b H5 =>
          if b = true then te σ4 H5 fun y H6 => ∃ zs, H6 D = some (.lst zs) ∧ zs.length < sizeLine ∧ ∃ m', m' < m ∧ W (i + 1) m' (ys ++ [y]) (upd H6 D (.lst (zs ++ [y])))
          else ∃ m', m' < m ∧ W (i + 1) m' ys H5)) : tComp k caps (iZip K ta) g ts te σ H Q := h
theorem rd_compR (h : ta σ H fun vs H1 => ∃ j : Int, vs = [.int j] ∧ -(2 ^ 62) ≤ j ∧ j < 2 ^ 62 ∧ ∀ D, H1 D = none →
      ∃ W : Nat → Nat → List V → Hp → Prop, (∃ m, W 0 m [] (upd H1 D (.lst []))) ∧ ∀ i m ys H2, W i m ys H2 →
        ((Itr 0 j.toNat).stop i H2 ∧ Q (.ref D) H2) ∨ ((Itr 0 j.toNat).go i H2 ∧ ∀ x H3, (Itr 0 j.toNat).yld i H2 x H3 → g x (compSt k caps σ) H3 fun σ4 H4 => ts σ4 H4 fun b H5 =>
          if b = true then te σ4 H5 fun y H6 => ∃ zs, H6 D = some (.lst zs) ∧ zs.length < sizeLine ∧ ∃ m', m' < m ∧ W (i + 1) m' (ys ++ [y]) (upd H6 D (.lst (zs ++ [y])))
          else ∃ m', m' < m ∧ W (i + 1) m' ys H5)) : tComp k caps (iRng1 ta) g ts te σ H Q := h
end
section
variable {K : PySem.W.Frag} {tb : TS} {D : Ends} {σ : St} {H : Hp} {ta : TA} {g : TG} {u : TGs} {Q : St → Hp → Prop} {v : V} {r : List V}
theorem rd_gtup {n : Nat} {a : Addr} {xs : List V} (h : SqT K H a xs) (hl : xs.length = n) (q : u xs σ H Q) : gTup K n u (.ref a) σ H Q := ⟨a, xs, rfl, h, hl, q⟩
theorem rd_gcons (h : g v σ H fun σ' H' => u r σ' H' Q) : gCons g u (v :: r) σ H Q := ⟨v, r, rfl, h⟩
theorem rd_gnil (h : Q σ H) : gNil [] σ H Q := ⟨rfl, h⟩
theorem rd_forV (h : ta σ H fun vs H1 => ∃ l xs, vs = [.ref l] ∧ SqL K H1 l xs ∧ ∃ W : Nat → Nat → St → Hp → Prop, (∃ m, W 0 m σ H1) ∧ ∀ i m σ H, W i m σ H →
      ((Itv K l xs.length).stop i H ∧ D.nx σ H) ∨ ((Itv K l xs.length).go i H ∧ ∃ N : St → Hp → Prop, (∀ σ' H', N σ' H' → ∃ m', m' < m ∧ W (i + 1) m' σ' H') ∧ ∀ x H', (Itv K l xs.length).yld i H x H' → g x σ H' fun σ2 H2 => tb { D with nx := N, ct := N, bk := D.nx } σ2 H2)) :
    tFor (iRev K ta) g tb D σ H := h
end
end L2
set_option Elab.async false
set_option linter.all false
set_option maxRecDepth 100000
set_option maxHeartbeats 4000000
namespace L2
open PySem PySem.Spec PyProof.Rows
section
variable {X : Cx} {K : PySem.W.Frag} {σ : St} {H H1 : Hp} {Q : VK} {te : TE} {tl th : TO} {r : V → Option Int → Option Int → Hp → VK → Prop} {QO : Option Int → Hp → Prop}
theorem rd_slice (h : te σ H fun x H1 => tl σ H1 fun l H2 => th σ H2 fun u H3 => r x l u H3 Q) : tSl r te tl th σ H Q := h
theorem rd_noPart (h : QO none H) : tNoPart σ H QO := h
theorem rd_part (h : te σ H fun x H1 => ∃ i, x = .int i ∧ QO (some i) H1) : tPart te σ H QO := h
theorem rd_int {i : Int} {P : Int → Prop} (h : P i) : ∃ j, V.int i = .int j ∧ P j := ⟨i, rfl, h⟩
theorem rd_slL {a : Addr} {xs : List V} {lo hi : Option Int} (h : SqL K H a xs) (q : ∀ p, H p = none → Q (.ref p) (upd H p (.lst (cutV xs lo hi)))) : rSlL K (.ref a) lo hi H Q := ⟨a, xs, rfl, h, q⟩
theorem cut1 (x : V) (xs : List V) : cutV (x :: xs) (some 1) none = xs := by
  have e : HT.sIx (x :: xs).length 0 (some 1) = 1 := by
    rw [List.length_cons]
    exact (HT.sIx_nat (xs.length + 1) 0 1).trans (by omega)
  unfold cutV
  rw [e, HT.sIx_none]
  simp
theorem rd_slT1 {a : Addr} {x : V} {xs : List V} (h : SqT K H a (x :: xs)) (q : ∀ p, H p = none → Q (.ref p) (upd H p (.tup xs))) : rSlT K (.ref a) (some 1) none H Q := by
  refine ⟨a, x :: xs, rfl, h, fun z => ?_, fun p hp => by rw [cut1]; exact q p hp⟩
  have e : HT.sIx (x :: xs).length 0 (some 1) = 1 := by
    rw [List.length_cons]
    exact (HT.sIx_nat (xs.length + 1) 0 1).trans (by omega)
  rw [e] at z
  exact absurd z.1 (by decide)
def rTupOf (K : PySem.W.Frag) : List V → Hp → VK → Prop := fun xs H Q => ∃ p ys, xs = [.ref p] ∧ ((SqL K H p ys ∧ ∀ l, H l = none → Q (.ref l) (upd H l (.tup ys))) ∨ (SqT K H p ys ∧ Q (.ref p) H))
theorem call_tupOf : CallR X (.type "tuple") (rTupOf X.K) := call_tuple_of
theorem rd_tupL {p : Addr} {ys : List V} (h : SqL K H p ys) (q : ∀ l, H l = none → Q (.ref l) (upd H l (.tup ys))) : rTupOf K [.ref p] H Q := ⟨p, ys, rfl, .inl ⟨h, q⟩⟩
theorem rd_cat {l b : Addr} {xs zs : List V} (h : H l = some (.lst xs)) (h' : H b = some (.lst zs)) (z : xs.length + zs.length ≤ sizeLine) (q : ∀ p, H p = none → Q (.ref p) (upd H p (.lst (xs ++ zs)))) : rCat (.ref l) (.ref b) H Q :=
  ⟨l, b, xs, zs, rfl, rfl, h, h', z, q⟩
end
section
variable {k : Nat} {caps : List Nat} {g : TG} {te : TE} {σ : St} {Q : VK} {H1 H : Hp} {K : PySem.W.Frag} {tl : TE} {ts : TT}
theorem rd_compT (h : tl σ H fun v H1 => ∃ a, v = .ref a ∧ (∃ xs, SqT K H1 a xs) ∧ ∀ D, H1 D = none →
      ∃ W : Nat → Nat → List V → Hp → Prop, (∃ m, W 0 m [] (upd H1 D (.lst []))) ∧ ∀ i m ys H2, W i m ys H2 →
        ((Itt K a).stop i H2 ∧ Q (.ref D) H2) ∨ ((Itt K a).go i H2 ∧ ∀ x H3, (Itt K a).yld i H2 x H3 → g x (compSt k caps σ) H3 fun σ4 H4 => ts σ4 H4 fun b H5 =>
          if b = true then te σ4 H5 fun y H6 => ∃ zs, H6 D = some (.lst zs) ∧ zs.length < sizeLine ∧ ∃ m', m' < m ∧ W (i + 1) m' (ys ++ [y]) (upd H6 D (.lst (zs ++ [y])))
          else ∃ m', m' < m ∧ W (i + 1) m' ys H5)) : tComp k caps (iTup K tl) g ts te σ H Q := h
theorem comp_tup {QD : Addr → Hp → Prop} {a : Addr} {xs : List V} (hq : H1 a = some (.tup xs)) (hz : xs.length ≤ 1000000) (q : ∀ D, H1 D = none → ∃ R : Nat → V → Hp → Prop, (∀ i y H H', R i y H → SameD D H H' → TupK H H' → R i y H') ∧
      (∀ (i : Nat) (x : V) (H2 : Hp) (ys : List V) (C : V → Hp → Prop), xs[i]? = some x → Same H1 H2 → H2 D = some (.lst ys) → (∀ y H6, Same H2 H6 → R i y H6 → C y H6) → g x (compSt k caps σ) H2 fun σ4 H4 => te σ4 H4 C) ∧
      ∀ (ys : List V) (H' : Hp), Same H1 H' → H' D = some (.lst ys) → ys.length = xs.length → (∀ (j : Nat) y, ys[j]? = some y → R j y H') → QD D H') :
    ∃ b, V.ref a = .ref b ∧ (∃ xs, SqT K H1 b xs) ∧ ∀ D, H1 D = none →
      ∃ W : Nat → Nat → List V → Hp → Prop, (∃ m, W 0 m [] (upd H1 D (.lst []))) ∧ ∀ i m ys H2, W i m ys H2 →
        ((Itt K b).stop i H2 ∧ QD D H2) ∨ ((Itt K b).go i H2 ∧ ∀ x H3, (Itt K b).yld i H2 x H3 → g x (compSt k caps σ) H3 fun σ4 H4 => tYes σ4 H4 fun b H5 =>
          if b = true then te σ4 H5 fun y H6 => ∃ zs, H6 D = some (.lst zs) ∧ zs.length < sizeLine ∧ ∃ m', m' < m ∧ W (i + 1) m' (ys ++ [y]) (upd H6 D (.lst (zs ++ [y])))
          else ∃ m', m' < m ∧ W (i + 1) m' ys H5) := by
  refine ⟨a, rfl, ⟨xs, SqT.of hq⟩, fun D hD => ?_⟩
  obtain ⟨R, hm, hs, hf⟩ := q D hD
  refine comp_core (n := xs.length) R hm hz hD (fun i H2 hi S2 => ⟨xs, xs[i], SqT.of (S2 _ _ hq), by simp [hi]⟩) (fun H2 S2 => ⟨xs, SqT.of (S2 _ _ hq), Nat.le_refl _⟩) (fun i H2 x H3 ys C hi S2 hd hy hC => ?_) hf
  obtain ⟨e3, hy⟩ := hy
  subst e3
  exact hs i x H3 ys C (hy xs (SqT.of (S2 _ _ hq))) S2 hd hC
end
section
variable {g : TG} {tb : TS} {D : Ends} {σ : St} {H : Hp}
theorem for_rng1 {n : Nat} (hn : n ≤ 1000000) (Pv : Nat → St → Hp → Prop) (h0 : Pv 0 σ H)
    (hs : ∀ i σ H, i < n → Pv i σ H → g (.int i) σ H fun σ2 H2 => tb { D with nx := Pv (i + 1), ct := Pv (i + 1), bk := D.nx } σ2 H2) (hd : ∀ σ H, Pv n σ H → D.nx σ H) :
    ∃ j : Int, [V.int (n : Int)] = [.int j] ∧ -(2 ^ 62) ≤ j ∧ j < 2 ^ 62 ∧ ∃ W : Nat → Nat → St → Hp → Prop, (∃ m, W 0 m σ H) ∧ ∀ k m σ H, W k m σ H →
      ((Itr 0 j.toNat).stop k H ∧ D.nx σ H) ∨ ((Itr 0 j.toNat).go k H ∧ ∃ N : St → Hp → Prop, (∀ σ' H', N σ' H' → ∃ m', m' < m ∧ W (k + 1) m' σ' H') ∧ ∀ x H', (Itr 0 j.toNat).yld k H x H' → g x σ H' fun σ2 H2 => tb { D with nx := N, ct := N, bk := D.nx } σ2 H2) := by
  refine ⟨n, rfl, by omega, by omega, ?_⟩
  rw [Int.toNat_natCast]
  exact for_range Pv h0 (fun i σ H hi p => by rw [Int.zero_add]; exact hs i σ H hi p) hd
end
theorem cutV_map (ns : List Int) (lo hi : Option Int) : ∃ ms : List Int, cutV (ns.map V.int) lo hi = ms.map V.int ∧ ms.length ≤ ns.length := by
  unfold cutV
  rw [List.length_map]
  refine ⟨(ns.drop (HT.sIx ns.length 0 lo)).take (HT.sIx ns.length ns.length hi - HT.sIx ns.length 0 lo), ?_, ?_⟩
  · rw [List.map_take, List.map_drop]
  · rw [List.length_take, List.length_drop]
    omega
section
variable {X : Cx} {tg l a b o e : Expr} {es : List Expr} {tl to : TE} {ta t : TA} {p pos apos cpos : Pos}
theorem ix_listK (K : PySem.W.Frag) (h : X.K = K := by rfl) : IxR X (rIxL K) := h ▸ ix_list
theorem ix_tupK (K : PySem.W.Frag) (h : X.K = K := by rfl) : IxR X (rIxT K) := h ▸ ix_tup
theorem op_inK (K : PySem.W.Frag) (h : X.K = K := by rfl) : OpR X (compareOp .In) (rIn K false) := h ▸ op_in_seq
theorem op_neNK (K : PySem.W.Frag) (hu : X.A.units < cLine) (h : X.K = K := by rfl) : OpR X (compareOp .NotEq) (rNeNil K) := h ▸ op_neN hu
theorem op_eqNK (K : PySem.W.Frag) (hu : X.A.units < cLine) (h : X.K = K := by rfl) : OpR X (compareOp .Eq) (rEqNil K) := h ▸ op_eqN hu
theorem call_lenK (K : PySem.W.Frag) (h : X.K = K := by rfl) : CallR X (.builtin "len") (rLen K) := h ▸ call_lenS
theorem call_instK (K : PySem.W.Frag) (h : X.K = K := by rfl) : CallR X (.builtin "isinstance") (rInst K) := h ▸ call_inst
theorem call_instTK (K : PySem.W.Frag) (h : X.K = K := by rfl) : CallR X (.builtin "isinstance") (rInstT K) := h ▸ call_instT
theorem call_listK (K : PySem.W.Frag) (h : X.K = K := by rfl) : CallR X (.type "list") (rListOf K) := h ▸ call_listOf
theorem call_tupK (K : PySem.W.Frag) (h : X.K = K := by rfl) : CallR X (.type "tuple") (rTupOf K) := h ▸ call_tupOf
theorem sl_listK (K : PySem.W.Frag) (h : X.K = K := by rfl) : SlR X (rSlL K) := h ▸ sl_list
theorem sl_tupK (K : PySem.W.Frag) (h : X.K = K := by rfl) : SlR X (rSlT K) := h ▸ sl_tup
theorem op_catTK (K : PySem.W.Frag) (h : X.K = K := by rfl) : OpR X (binaryOp .Add) (rCatT K) := h ▸ op_catT
theorem pi_listK (K : PySem.W.Frag) (hl : PE X l tl) (h : X.K = K := by rfl) : PI X tg l (iList K tl) := h ▸ pi_list hl
theorem pi_tupK (K : PySem.W.Frag) (hl : PE X l tl) (h : X.K = K := by rfl) : PI X tg l (iTup K tl) := h ▸ pi_tup hl
theorem pg_tupK {k : Nat} {u : TGs} {n : Nat} (K : PySem.W.Frag) (hc : X.calm = true) (hp : PGs X es u) (h : X.K = K := by rfl)
    (hn : (assignEach es X.env).length = n := by rfl) (hst : (assignEach es X.env).findIdx? (·.1) = none := by rfl) : PG X (.Tuple es k pos) (gTup K n u) := h ▸ pg_tup hc hp hn hst
theorem pe_bm0K {name : Str} {T id : String} {r : V → List V → Hp → VK → Prop} (K : PySem.W.Frag) (pa : PlainAttrs T) (slot : Slot T name id) (hty : typeOf (.builtin id) = pure (.type "method_descriptor")) (hm : MtR X id r) (ho : PE X o to) (h : X.K = K := by rfl)
    (hbase : attributeBase o name X.env (eval o X.env) = eval o X.env := by rfl) (hline : (apos.endLine == cpos.line) = true := by rfl) : PE X (.Call (.Attribute o name apos) [] [] cpos) (tBM0 K T r to) := h ▸ pe_bm0 pa slot hty hm ho hbase hline
theorem pe_bmK {name : Str} {T id : String} {r : V → List V → Hp → VK → Prop} (K : PySem.W.Frag) (pa : PlainAttrs T) (slot : Slot T name id) (hty : typeOf (.builtin id) = pure (.type "method_descriptor")) (hm : MtR X id r) (ho : PE X o to) (ha : PA X (e :: es) t) (h : X.K = K := by rfl)
    (hbase : attributeBase o name X.env (eval o X.env) = eval o X.env := by rfl)
    (hfew : ((backTo cpos (starEach (e :: es) X.env)).all (fun x => !x.1) && (backToKw cpos (keywordEach [] X.env)).all (fun x => x.1.isSome)
      && decide ((e :: es).length + ([] : List Keyword).length + (if ([] : List Keyword).isEmpty then 0 else 1) < 30)) = true := by rfl)
    (hline : (apos.endLine == cpos.line) = true := by rfl) (hs : starEach (e :: es) X.env = (false, eval e X.env) :: starEach es X.env := by rfl) (hplain : (backTo cpos (starEach es X.env)).any (·.1) = false := by rfl) :
    PE X (.Call (.Attribute o name apos) (e :: es) [] cpos) (tBM K T r to t) := h ▸ pe_bm pa slot hty hm ho ha hbase hfew hline hs hplain
end
structure Rm where
  lit : List Int
  doors : List Nat
abbrev bls (bs : List Bool) : List V := bs.map V.bl
abbrev nts (ds : List Nat) : List V := ds.map fun (d : Nat) => V.int (d : Int)
def RmAt (H : Hp) (v : V) (r : Rm) : Prop := ∃ a l d, v = .ref a ∧ H a = some (.tup [.ref l, .ref d]) ∧ H l = some (.lst (r.lit.map V.int)) ∧ H d = some (.lst (nts r.doors))
def WorldAt (H : Hp) (a : Addr) (W : List Rm) : Prop := ∃ rs, H a = some (.lst rs) ∧ Paired (RmAt H) rs W
theorem RmAt.mono {H H' : Hp} {v : V} {r : Rm} (h : RmAt H v r) (S : Same H H') : RmAt H' v r := by
  obtain ⟨a, l, d, e, h1, h2, h3⟩ := h
  exact ⟨a, l, d, e, S _ _ h1, S _ _ h2, S _ _ h3⟩
theorem WorldAt.mono {H H' : Hp} {a : Addr} {W : List Rm} (h : WorldAt H a W) (S : Same H H') : WorldAt H' a W := by
  obtain ⟨rs, e, p⟩ := h
  exact ⟨rs, S _ _ e, Paired.mapP p fun _ _ q => q.mono S⟩
theorem Paired.get2 {α β : Type} {F : α → β → Prop} {xs : List α} {ys : List β} (h : Paired F xs ys) {i : Nat} {y : β} (e : ys[i]? = some y) : ∃ x, xs[i]? = some x ∧ F x y := by
  induction h generalizing i with
  | nil => simp at e
  | cons a t ih =>
    cases i with
    | zero => simp at e; subst e; exact ⟨_, rfl, a⟩
    | succ i => obtain ⟨x, h1, h2⟩ := ih (i := i) (by simpa using e); exact ⟨x, by simpa using h1, h2⟩
theorem Paired.of_get {α β : Type} {F : α → β → Prop} : ∀ {xs : List α} {ys : List β}, xs.length = ys.length → (∀ (i : Nat) x y, xs[i]? = some x → ys[i]? = some y → F x y) → Paired F xs ys
  | [], [], _, _ => .nil
  | [], _ :: _, h, _ => by simp at h
  | _ :: _, [], h, _ => by simp at h
  | x :: xs, y :: ys, h, f => .cons (f 0 x y rfl rfl) (Paired.of_get (by simpa using h) fun i a b e1 e2 => f (i + 1) a b (by simpa using e1) (by simpa using e2))
def led (bs : List Bool) (ds : List Nat) : List Bool := ds.map fun d => bs.getD d false
def tru (W : List Rm) : Say → List Bool
  | .lamp k => W.map fun r => r.lit.contains k
  | .dark k => W.map fun r => !r.lit.contains k
  | .neg s => (tru W s).map fun b => !b
  | .conj s t => List.zipWith (fun a b => a && b) (tru W s) (tru W t)
  | .disj s t => List.zipWith (fun a b => a || b) (tru W s) (tru W t)
  | .ev s => W.map fun r => !(led (tru W s) r.doors).contains false
  | .so s => W.map fun r => (led (tru W s) r.doors).contains true
def Say.kids : Say → List Say
  | .lamp _ => []
  | .dark _ => []
  | .neg s => [s]
  | .conj s t => [s, t]
  | .disj s t => [s, t]
  | .ev s => [s]
  | .so s => [s]
def Say.po : Say → List Say
  | .lamp k => [.lamp k]
  | .dark k => [.dark k]
  | .neg s => .neg s :: s.po
  | .conj s t => .conj s t :: (t.po ++ s.po)
  | .disj s t => .disj s t :: (t.po ++ s.po)
  | .ev s => .ev s :: s.po
  | .so s => .so s :: s.po
def Say.post (s : Say) : List Say := s.po.reverse
end L2
set_option Elab.async false
set_option linter.all false
set_option maxRecDepth 100000
set_option maxHeartbeats 4000000
namespace L2
open PySem
def Say.dep : Say → Nat
  | .lamp _ => 0
  | .dark _ => 0
  | .neg s => s.dep + 1
  | .conj s t => max s.dep t.dep + 1
  | .disj s t => max s.dep t.dep + 1
  | .ev s => s.dep + 1
  | .so s => s.dep + 1
theorem kid_dep {s t : Say} (h : t ∈ s.kids) : t.dep + 1 ≤ s.dep := by
  cases s <;> simp only [Say.kids, List.mem_cons, List.not_mem_nil, or_false] at h
  · subst h; exact Nat.le_refl _
  · rcases h with rfl | rfl <;> simp only [Say.dep] <;> omega
  · rcases h with rfl | rfl <;> simp only [Say.dep] <;> omega
  · subst h; exact Nat.le_refl _
  · subst h; exact Nat.le_refl _
theorem kids_few (s : Say) : s.kids.length ≤ 2 := by cases s <;> simp [Say.kids]
end L2
set_option Elab.async false
set_option linter.all false
set_option maxRecDepth 100000
set_option maxHeartbeats 4000000
namespace L2
open PySem PySem.Spec PyProof.Rows
mutual
inductive DataAt (H : Hp) : V → PyData → Prop where
  | bl (b : Bool) : DataAt H (.bl b) (.bool b)
  | int (i : Int) : DataAt H (.int i) (.int i)
  | str (x : Str) : DataAt H (.str x) (.str x)
  | lst {a : Addr} {xs : List V} {ds : List PyData} : H a = some (.lst xs) → DatasAt H xs ds → DataAt H (.ref a) (.list ds)
  | tup {a : Addr} {xs : List V} {ds : List PyData} : H a = some (.tup xs) → DatasAt H xs ds → DataAt H (.ref a) (.tuple ds)
inductive DatasAt (H : Hp) : List V → List PyData → Prop where
  | nil : DatasAt H [] []
  | cons {x : V} {xs : List V} {d : PyData} {ds : List PyData} : DataAt H x d → DatasAt H xs ds → DatasAt H (x :: xs) (d :: ds)
end
section
variable {X : Cx} {pins : List (Addr × Obj)} {σ : St} {H : Hp} {s : Shared}
mutual
theorem DataAt.reads (I : Inv X pins σ H s) : ∀ {x : V} {d : PyData} {u : Value}, DataAt H x d → RelV x u → ∃ as, Reads s.heap u d as
  | _, _, _, .bl b, r => by cases r; exact ⟨_, .bool b⟩
  | _, _, _, .int i, r => by obtain ⟨t, rfl⟩ := r; exact ⟨_, .int i t⟩
  | _, _, _, .str i, r => by obtain ⟨t, rfl⟩ := r; exact ⟨_, .str i t⟩
  | _, _, _, .lst e h, r => by
    cases r
    obtain ⟨its, rv, ⟨o, n, ho, hc, hd, hs⟩, _⟩ := I.list (SqL.of e)
    obtain ⟨as, rs⟩ := DatasAt.reads I h rv
    exact ⟨_, .list ho hc hs (by simpa using rs)⟩
  | _, _, _, .tup e h, r => by
    cases r
    obtain ⟨its, rv, ⟨o, ho, hc, n, hd⟩, _⟩ := I.tuple (SqT.of e)
    obtain ⟨as, rs⟩ := DatasAt.reads I h rv
    exact ⟨_, .tuple ho hc hd (by simpa using rs)⟩
theorem DatasAt.reads (I : Inv X pins σ H s) : ∀ {xs : List V} {ds : List PyData} {us : List Value}, DatasAt H xs ds → Vals xs us → ∃ as, ReadsAll s.heap us ds as
  | _, _, _, .nil, r => by cases r; exact ⟨_, .nil⟩
  | _, _, _, .cons h t, r => by
    cases r with
    | cons a b =>
      obtain ⟨as, r1⟩ := DataAt.reads I h a
      obtain ⟨bs, r2⟩ := DatasAt.reads I t b
      exact ⟨_, .cons r1 r2⟩
end
def rEqD (m : Nat) : R2 := fun x y H Q => ∃ dx dy, DataAt H x dx ∧ DataAt H y dy ∧ dx.canLay0 = true ∧ dy.canLay0 = true ∧ min dx.depth dy.depth ≤ m ∧ Q (.bl (PyData.eqv dx dy)) H
def rNeD (m : Nat) : R2 := fun x y H Q => ∃ dx dy, DataAt H x dx ∧ DataAt H y dy ∧ dx.canLay0 = true ∧ dy.canLay0 = true ∧ min dx.depth dy.depth ≤ m ∧ Q (.bl (!PyData.eqv dx dy)) H
theorem op_eqD {m : Nat} (hu : X.A.units + m < cLine) : OpR X (compareOp .Eq) (rEqD m) := by
  intro pins s σ H x y v u Q I rx ry h
  obtain ⟨dx, dy, hx, hy, cx, cy, hm, q⟩ := h
  obtain ⟨as, r1⟩ := hx.reads I rx
  obtain ⟨bs, r2⟩ := hy.reads I ry
  exact SeqAt.compareEq_reads r1 r2 cx cy (by omega) ⟨.bl _, H, I, rfl, q⟩
theorem op_neD {m : Nat} (hu : X.A.units + m < cLine) : OpR X (compareOp .NotEq) (rNeD m) := by
  intro pins s σ H x y v u Q I rx ry h
  obtain ⟨dx, dy, hx, hy, cx, cy, hm, q⟩ := h
  obtain ⟨as, r1⟩ := hx.reads I rx
  obtain ⟨bs, r2⟩ := hy.reads I ry
  exact SeqAt.compareNe_reads r1 r2 cx cy (by omega) ⟨.bl _, H, I, rfl, q⟩
end
theorem huD_of {A : Around} {k m : Nat} (hr : Room k A) (h : m ≤ 16 * k + 199) : A.units + m < cLine := by have := hr.un; omega
def Say.data : Say → PyData
  | .lamp k => .tuple [.str "lamp", .int k]
  | .dark k => .tuple [.str "dark", .int k]
  | .neg s => .tuple [.str "not", s.data]
  | .conj s t => .tuple [.str "and", s.data, t.data]
  | .disj s t => .tuple [.str "or", s.data, t.data]
  | .ev s => .tuple [.str "every", s.data]
  | .so s => .tuple [.str "some", s.data]
theorem Stm.data {H : Hp} {v : V} {s : Say} (h : Stm H v s) : DataAt H v s.data := by
  induction h with
  | lamp e => exact .tup e (.cons (.str _) (.cons (.int _) .nil))
  | dark e => exact .tup e (.cons (.str _) (.cons (.int _) .nil))
  | neg e _ i => exact .tup e (.cons (.str _) (.cons i .nil))
  | conj e _ _ i j => exact .tup e (.cons (.str _) (.cons i (.cons j .nil)))
  | disj e _ _ i j => exact .tup e (.cons (.str _) (.cons i (.cons j .nil)))
  | ev e _ i => exact .tup e (.cons (.str _) (.cons i .nil))
  | so e _ i => exact .tup e (.cons (.str _) (.cons i .nil))
theorem Stms.datas {H : Hp} {vs : List V} {ss : List Say} (h : Stms H vs ss) : DatasAt H vs (ss.map Say.data) := by
  induction h with
  | nil => exact .nil
  | cons a _ i => exact .cons a.data i
theorem strOk_tags : PyData.canLay0 (.str "lamp") = true ∧ PyData.canLay0 (.str "dark") = true ∧ PyData.canLay0 (.str "not") = true ∧ PyData.canLay0 (.str "and") = true ∧ PyData.canLay0 (.str "or") = true ∧ PyData.canLay0 (.str "every") = true ∧ PyData.canLay0 (.str "some") = true := by
  refine ⟨?_, ?_, ?_, ?_, ?_, ?_, ?_⟩ <;> decide +kernel
theorem Say.data_lay : ∀ s : Say, s.data.canLay0 = true := by
  obtain ⟨h1, h2, h3, h4, h5, h6, h7⟩ := strOk_tags
  intro s
  induction s with
  | lamp k => simp only [Say.data, PyData.canLay0, PyData.canLayAll0, Bool.and_true] at h1 ⊢; exact h1
  | dark k => simp only [Say.data, PyData.canLay0, PyData.canLayAll0, Bool.and_true] at h2 ⊢; exact h2
  | neg s i => rw [Say.data, PyData.canLay0, PyData.canLayAll0, PyData.canLayAll0, PyData.canLayAll0, h3, i]; rfl
  | conj s t i j => rw [Say.data, PyData.canLay0, PyData.canLayAll0, PyData.canLayAll0, PyData.canLayAll0, PyData.canLayAll0, h4, i, j]; rfl
  | disj s t i j => rw [Say.data, PyData.canLay0, PyData.canLayAll0, PyData.canLayAll0, PyData.canLayAll0, PyData.canLayAll0, h5, i, j]; rfl
  | ev s i => rw [Say.data, PyData.canLay0, PyData.canLayAll0, PyData.canLayAll0, PyData.canLayAll0, h6, i]; rfl
  | so s i => rw [Say.data, PyData.canLay0, PyData.canLayAll0, PyData.canLayAll0, PyData.canLayAll0, h7, i]; rfl
theorem Say.data_depth : ∀ s : Say, s.data.depth = s.dep + 1
  | .lamp k => by simp [Say.data, PyData.depth, PyData.depthAll, Say.dep]
  | .dark k => by simp [Say.data, PyData.depth, PyData.depthAll, Say.dep]
  | .neg s => by simp [Say.data, PyData.depth, PyData.depthAll, Say.dep, Say.data_depth s]
  | .conj s t => by simp [Say.data, PyData.depth, PyData.depthAll, Say.dep, Say.data_depth s, Say.data_depth t]
  | .disj s t => by simp [Say.data, PyData.depth, PyData.depthAll, Say.dep, Say.data_depth s, Say.data_depth t]
  | .ev s => by simp [Say.data, PyData.depth, PyData.depthAll, Say.dep, Say.data_depth s]
  | .so s => by simp [Say.data, PyData.depth, PyData.depthAll, Say.dep, Say.data_depth s]
theorem rd_eqD {m : Nat} {x y : V} {dx dy : PyData} {H : Hp} {Q : VK} (hx : DataAt H x dx) (hy : DataAt H y dy) (cx : dx.canLay0 = true) (cy : dy.canLay0 = true) (hm : min dx.depth dy.depth ≤ m) (q : Q (.bl (PyData.eqv dx dy)) H) : rEqD m x y H Q := ⟨dx, dy, hx, hy, cx, cy, hm, q⟩
theorem rd_neD {m : Nat} {x y : V} {dx dy : PyData} {H : Hp} {Q : VK} (hx : DataAt H x dx) (hy : DataAt H y dy) (cx : dx.canLay0 = true) (cy : dy.canLay0 = true) (hm : min dx.depth dy.depth ≤ m) (q : Q (.bl (!PyData.eqv dx dy)) H) : rNeD m x y H Q := ⟨dx, dy, hx, hy, cx, cy, hm, q⟩
end L2
set_option Elab.async false
set_option linter.all false
set_option maxRecDepth 100000
set_option maxHeartbeats 4000000
namespace L2
open PySem PySem.Spec PyProof.Rows
section
variable {prog : Program} {w : World} {A : Around} {E : Value → Shared → Prop} {s : Shared}
end
section
variable {X : Cx}
def tListRev (K : PySem.W.Frag) (ta : TA) : TE := fun σ H Q => ta σ H fun vs H1 => ∃ l xs, vs = [.ref l] ∧ SqL K H1 l xs ∧ ∀ q, H1 q = none → Q (.ref q) (upd H1 q (.lst xs.reverse))
end
def KDict (P : Program) (K : PySem.W.Frag) (w : World) (a : Addr) (kvs : List (Key × V)) : Prop :=
  (a == sysModules) = false ∧ ∃ (o : Obj) (es : Array DictEntry) (ep : Nat) (vs : List (Key × Value)), K.lookup a = some o ∧ o.ExactDict ∧ o.data = .dict es ep ∧ KeysOf (mixKind P w) es ∧ Pairs (mixKind P w) es.toList vs ∧ (vs.map (·.1)).Nodup ∧ KV kvs vs
section
variable {X : Cx} {pins : List (Addr × Obj)} {σ : St} {H : Hp} {s : Shared} {a : Addr} {kvs : List (Key × V)}
theorem Inv.kdict (I : Inv X pins σ H s) (h : KDict X.prog X.K X.w a kvs) : ∃ vs, KV kvs vs ∧ s.heap.DictOf (mixKind X.prog X.w) a vs := by
  obtain ⟨_, o, es, ep, vs, hk, ex, hd, k, p, n, r⟩ := h
  exact ⟨vs, r, o, es, ep, I.kIn a o hk, ex, hd, k, p, n⟩
def tKGet (P : Program) (K : PySem.W.Frag) (w : World) (td ty : TE) : TE := fun σ H Q => td σ H fun x H1 => ty σ H1 fun y H2 => ∃ a kvs k v, x = .ref a ∧ KDict P K w a kvs ∧ y = kV k ∧ valV kvs k = some v ∧ Q v H2
theorem pe_kget {o i : Expr} {pos : Pos} {td ty : TE} (P : Program) (K : PySem.W.Frag) (w : World) (ho : PE X o td) (hi : PE X i ty) (hs : NoSl i) (hP : X.prog = P := by rfl) (hK : X.K = K := by rfl) (hw : X.w = w := by rfl) : PE X (.Subscript o i pos) (tKGet P K w td ty) := by
  subst hP hK hw
  intro pins s σ H Q I h
  refine subD_of PySem.F.slot_dict_getitem.lookup hs (thn (ho pins s σ H _ I h) fun u s1 ⟨x, H1, I1, rx, q1⟩ => thn (hi pins s1 σ H1 _ I1 q1) fun iv s2 ⟨y, H2, I2, ry, a, kvs, k, v, ex, g, ey, ev, q2⟩ => ?_)
  subst ex ey
  obtain rfl : u = Value.ref a := rx
  obtain ⟨vs, rel, dd⟩ := I2.kdict g
  obtain ⟨w', hw, rw'⟩ := RelO.some_of (v := v) (o := valueAt vs k) (by rw [← ev]; exact rel.val k)
  exact ⟨dd.typeIs, wpAny_getItem_of (kV_is ry) dd.mapOf hw ⟨v, H2, I2.tok _, rw', q2⟩⟩
def tKIn (P : Program) (K : PySem.W.Frag) (w : World) (neg : Bool) (ty td : TE) : TE := fun σ H Q => ty σ H fun y H1 => td σ H1 fun x H2 => ∃ a kvs k, x = .ref a ∧ KDict P K w a kvs ∧ y = kV k ∧ Q (.bl (if neg then !(valV kvs k).isSome else (valV kvs k).isSome)) H2
end
theorem rd_kget {P : Program} {K : PySem.W.Frag} {w : World} {td ty : TE} {σ : St} {H : Hp} {Q : VK} (h : td σ H fun x H1 => ty σ H1 fun y H2 => ∃ a kvs k v, x = .ref a ∧ KDict P K w a kvs ∧ y = kV k ∧ valV kvs k = some v ∧ Q v H2) : tKGet P K w td ty σ H Q := h
theorem rd_kgetS {P : Program} {K : PySem.W.Frag} {w : World} {a : Addr} {kvs : List (Key × V)} {x : Str} {v : V} {R : V → Prop} (h : KDict P K w a kvs) (e : valV kvs (.inr x) = some v) (q : R v) : ∃ b kvs k v, V.ref a = .ref b ∧ KDict P K w b kvs ∧ V.str x = kV k ∧ valV kvs k = some v ∧ R v := ⟨a, kvs, .inr x, v, rfl, h, rfl, e, q⟩
theorem rd_listRev {K : PySem.W.Frag} {ta : TA} {σ : St} {H : Hp} {Q : VK} (h : ta σ H fun vs H1 => ∃ l xs, vs = [.ref l] ∧ SqL K H1 l xs ∧ ∀ q, H1 q = none → Q (.ref q) (upd H1 q (.lst xs.reverse))) : tListRev K ta σ H Q := h
theorem rd_dget {td ty : TE} {σ : St} {H : Hp} {Q : VK} (h : td σ H fun x H1 => ty σ H1 fun y H2 => ∃ a v, x = .ref a ∧ DGet H2 a y (some v) ∧ Q v H2) : tDGet td ty σ H Q := h
end L2
set_option Elab.async false
set_option linter.all false
set_option maxRecDepth 100000
set_option maxHeartbeats 4000000
namespace L2
open PySem
section
variable {ε α : Type} (ar : ε → Nat) (f : ε → List α → α)
variable {ar f}
end
def turnT : Bool → Say → Str
  | false, s => s.tag
  | true, .lamp _ => "dark"
  | true, .dark _ => "lamp"
  | true, .neg _ => "not"
  | true, .conj _ _ => "or"
  | true, .disj _ _ => "and"
  | true, .ev _ => "some"
  | true, .so _ => "every"
end L2
set_option Elab.async false
set_option linter.all false
set_option maxRecDepth 100000
set_option maxHeartbeats 4000000
namespace L2
open PySem
theorem if_eq {x : V} {A B : Prop} (h : A) : if decide (x = x) = true then A else B := by rw [if_pos (decide_eq_true rfl)]; exact h
theorem if_ne {x y : V} {A B : Prop} (n : ¬ x = y) (h : B) : if decide (x = y) = true then A else B := by rw [if_neg (by rw [decide_eq_false n]; exact Bool.false_ne_true)]; exact h
theorem if_strNe {x y : Str} {A B : Prop} (n : x ≠ y) (h : B) : if decide (V.str x = V.str y) = true then A else B := if_ne (fun e => n (V.str.inj e)) h
theorem if_dec {c A B : Prop} {_ : Decidable c} (h1 : c → A) (h2 : ¬ c → B) : if decide c = true then A else B := ite2 (fun z => h1 (of_decide_eq_true z)) fun z => h2 (of_decide_eq_false (Bool.eq_false_iff.mpr z))
theorem if_nne {x : V} {A B : Prop} (h : B) : if (!decide (x = x)) = true then A else B := by rw [decide_eq_true rfl]; exact iteF h
theorem none_upd {H : Hp} {p r : Addr} {o : HO} (h : upd H p o r = none) : H r = none ∧ r ≠ p := by
  have n : r ≠ p := fun e => by rw [e, upd_same] at h; cases h
  rw [upd_ne n] at h
  exact ⟨h, n⟩
def cell (ns : List Int) (k : Nat) : Int := ns.getD k 0
def spLaw (K : PySem.W.Frag) : Sp := fun vs H Q _ => ∃ (a : Addr) (ns : List Int), vs = [.ref a] ∧ SqL K H a (ns.map V.int) ∧ ns.length ≤ 63 ∧ ∀ H', Q (.bl true) H'
def spAt (K : PySem.W.Frag) : Sp := fun vs H Q _ => ∃ (a : Addr) (ns : List Int) (k : Nat), vs = [.ref a, .int k] ∧ SqL K H a (ns.map V.int) ∧ Q (.int (cell ns k)) H
def spWhole : Sp := fun vs H Q _ => ∃ i : Int, vs = [.int i] ∧ Q (.bl true) H
def spSame : Sp := fun vs H Q _ => ∃ (x y : V) (n : Nat), vs = [x, y] ∧ Als H n [x] [y] ∧ n ≤ 400000 ∧ ∀ H', Same H H' → Q (.bl true) H'
theorem atI_cell {ns : List Int} {k : Nat} (h : k < ns.length) : atI (ns.map V.int) (k : Int) = some (.int (cell ns k)) :=
  atI_nat (by rw [List.getElem?_map, List.getElem?_eq_getElem h]; simp [cell, List.getD, h])
def Say.leaf : Say → Bool
  | .lamp _ => true
  | .dark _ => true
  | _ => false
def Say.join : Say → Bool
  | .conj _ _ => true
  | .disj _ _ => true
  | _ => false
theorem leafB (s : Say) : inV (.str s.tag) [.str "lamp", .str "dark"] = Say.leaf s := by cases s <;> (dsimp only [Say.tag, Say.leaf, Say.join]; decide +kernel)
theorem atI_zero (x : V) (xs : List V) : atI (x :: xs) 0 = some x := atI_nat (j := 0) rfl
theorem Stm.parts {H : Hp} {v : V} {s : Say} (h : Stm H v s) : ∃ a xs, v = .ref a ∧ H a = some (.tup (.str s.tag :: xs)) ∧ (Say.leaf s = false → Stms H xs s.kids) := by
  cases h with
  | lamp e => exact ⟨_, _, rfl, e, fun z => by cases z⟩
  | dark e => exact ⟨_, _, rfl, e, fun z => by cases z⟩
  | neg e h => exact ⟨_, _, rfl, e, fun _ => .cons h .nil⟩
  | conj e h h' => exact ⟨_, _, rfl, e, fun _ => .cons h (.cons h' .nil)⟩
  | disj e h h' => exact ⟨_, _, rfl, e, fun _ => .cons h (.cons h' .nil)⟩
  | ev e h => exact ⟨_, _, rfl, e, fun _ => .cons h .nil⟩
  | so e h => exact ⟨_, _, rfl, e, fun _ => .cons h .nil⟩
theorem snoc_cases {α : Type} (xs : List α) : xs = [] ∨ ∃ ys y, xs = ys ++ [y] := by
  rcases List.eq_nil_or_concat xs with h | ⟨ys, y, h⟩
  · exact .inl h
  · exact .inr ⟨ys, y, by rw [h, List.concat_eq_append]⟩
def pl (ss : List Say) : Nat := (ss.map fun s => s.po.length).sum
def two (k : Str) (a b : List Bool) : List Bool := if k = "and" then List.zipWith (fun a b => a && b) a b else List.zipWith (fun a b => a || b) a b
theorem snoc_inv2 {α β : Type} {F : α → β → Prop} {xs : List α} {y : β} {ys : List β} (h : Paired F xs (ys ++ [y])) : ∃ xs0 x, xs = xs0 ++ [x] ∧ Paired F xs0 ys ∧ F x y := by
  induction ys generalizing xs with
  | nil =>
    cases h with
    | cons a t => cases t; exact ⟨[], _, rfl, .nil, a⟩
  | cons z r ih =>
    cases h with
    | cons a t =>
      obtain ⟨xs0, x, rfl, p, q⟩ := ih t
      exact ⟨_ :: xs0, x, rfl, .cons a p, q⟩
def TrAt (fo : Addr) (H : Hp) (v : V) (b : List Bool) : Prop := ∃ c, v = .ref c ∧ c ≠ fo ∧ H c = some (.lst (bls b))
theorem TrAt.mono {fo : Addr} {H H' : Hp} {v : V} {b : List Bool} (h : TrAt fo H v b) (S : SameD fo H H') : TrAt fo H' v b := by
  obtain ⟨c, e, n, h⟩ := h
  exact ⟨c, e, n, S c _ n h⟩
theorem sameD_upd {H : Hp} {D : Addr} {o : HO} : SameD D H (upd H D o) := fun b u n e => by rw [upd_ne n]; exact e
theorem SameD.trans {D : Addr} {H H1 H2 : Hp} (a : SameD D H H1) (b : SameD D H1 H2) : SameD D H H2 := fun c o n e => b c o n (a c o n e)
def Pr (W : List Rm) (p : Addr) (H : Hp) (v : V) (s : Say) : Prop := ∃ t u c, v = .ref t ∧ t ≠ p ∧ H t = some (.tup [u, .ref c]) ∧ Stm H u s ∧ c ≠ p ∧ H c = some (.lst (bls (tru W s)))
theorem Pr.mono {W : List Rm} {p : Addr} {H H' : Hp} {v : V} {s : Say} (h : Pr W p H v s) (S : SameD p H H') (T : TupK H H') : Pr W p H' v s := by
  obtain ⟨t, u, c, e, n, h1, st, nc, h2⟩ := h
  exact ⟨t, u, c, e, n, T _ _ h1, st.mono T, nc, S _ _ nc h2⟩
theorem if_andB {c : Bool} {P A B : Prop} (hB : B) (h1 : B → c = true → P) : if c = true then P else (if false = true then A else B) := by
  cases c with
  | true => exact iteT (h1 hB rfl)
  | false => exact iteF (iteF hB)
theorem if_andH {c : Bool} {P : Prop} {A B : Hp → Prop} {H : Hp} (hB : ∀ H', Same H H' → B H') (h1 : (∀ H', Same H H' → B H') → c = true → P) : if c = true then P else (if false = true then A H else B H) := by
  cases c with
  | true => exact iteT (h1 hB rfl)
  | false => exact iteF (iteF (hB H (Same.refl _)))
theorem szs_app (a b : List Say) : szs (a ++ b) = szs a + szs b := by simp [szs]
def RmD (D : Addr) (H : Hp) (v : V) (r : Rm) : Prop := ∃ a l d, v = .ref a ∧ l ≠ D ∧ d ≠ D ∧ H a = some (.tup [.ref l, .ref d]) ∧ H l = some (.lst (r.lit.map V.int)) ∧ H d = some (.lst (nts r.doors))
theorem RmD.mono {D : Addr} {H H' : Hp} {v : V} {r : Rm} (h : RmD D H v r) (S : SameD D H H') (T : TupK H H') : RmD D H' v r := by
  obtain ⟨a, l, d, e, n1, n2, h1, h2, h3⟩ := h
  exact ⟨a, l, d, e, n1, n2, T _ _ h1, S _ _ n1 h2, S _ _ n2 h3⟩
theorem ints_als (H : Hp) : ∀ ns : List Int, Als H ns.length (ns.map V.int) (ns.map V.int)
  | [] => .nil
  | n :: r => .int n (ints_als H r)
theorem Stm.of_kids {H : Hp} {a : Addr} {xs : List V} {s : Say} (hl : Say.leaf s = false) (e : H a = some (.tup (.str s.tag :: xs))) (k : Stms H xs s.kids) : Stm H (.ref a) s := by
  cases s with
  | lamp _ => cases hl
  | dark _ => cases hl
  | neg s => cases k with | cons h t => cases t; exact .neg e h
  | ev s => cases k with | cons h t => cases t; exact .ev e h
  | so s => cases k with | cons h t => cases t; exact .so e h
  | conj s u => cases k with | cons h t => cases t with | cons h' t => cases t; exact .conj e h h'
  | disj s u => cases k with | cons h t => cases t with | cons h' t => cases t; exact .disj e h h'
end L2
set_option Elab.async false
set_option linter.all false
set_option maxRecDepth 100000
set_option maxHeartbeats 4000000
namespace L2
open PySem
def PPt (H : Hp) (v : V) (e : Bool × Say) : Prop := ∃ a u, v = .ref a ∧ H a = some (.tup [.str (turnT e.1 e.2), u]) ∧ Stm H u e.2
def PWt (H : Hp) (v : V) (e : Bool × Say) : Prop := ∃ a u, v = .ref a ∧ H a = some (.tup [u, .bl e.1]) ∧ Stm H u e.2
theorem PPt.mono {H H' : Hp} {v : V} {e : Bool × Say} (h : PPt H v e) (T : TupK H H') : PPt H' v e := by
  obtain ⟨a, u, r, e, s⟩ := h
  exact ⟨a, u, r, T _ _ e, s.mono T⟩
theorem PWt.mono {H H' : Hp} {v : V} {e : Bool × Say} (h : PWt H v e) (T : TupK H H') : PWt H' v e := by
  obtain ⟨a, u, r, e, s⟩ := h
  exact ⟨a, u, r, T _ _ e, s.mono T⟩
theorem drop_get {α : Type} {xs : List α} {i : Nat} {x : α} (h : xs[i]? = some x) : xs.drop i = x :: xs.drop (i + 1) := by
  obtain ⟨hlt, e⟩ := List.getElem?_eq_some_iff.mp h
  rw [List.drop_eq_getElem_cons hlt, e]
def PF2 (H : Hp) (v : V) (e : Say × Say) : Prop := ∃ t u1 u2, v = .ref t ∧ H t = some (.tup [u1, u2]) ∧ Stm H u1 e.1 ∧ Stm H u2 e.2
theorem PF2.mono {H H' : Hp} {v : V} {e : Say × Say} (h : PF2 H v e) (T : TupK H H') : PF2 H' v e := by
  obtain ⟨t, u1, u2, r, e, s1, s2⟩ := h
  exact ⟨t, u1, u2, r, T _ _ e, s1.mono T, s2.mono T⟩
theorem rd_pcons {tk tv : TE} {r : List (TE × TE)} {σ : St} {H : Hp} {Q : List (V × V) → Hp → Prop} (h : tk σ H fun x H1 => tv σ H1 fun y H2 => tPairs r σ H2 fun ps H3 => Q ((x, y) :: ps) H3) : tPairs ((tk, tv) :: r) σ H Q := h
theorem rd_pnil {σ : St} {H : Hp} {Q : List (V × V) → Hp → Prop} (h : Q [] H) : tPairs [] σ H Q := h
end L2
set_option Elab.async false
set_option linter.all false
set_option maxRecDepth 100000
set_option maxHeartbeats 4000000
namespace L2
open PySem PySem.Spec PyProof.Rows
def Its (c n : Nat) : It := ⟨fun i _ => i < n, fun i H x H' => H' = H ∧ x = .int ((i * c : Nat) : Int), fun i _ => n ≤ i⟩
def cnt3 (n c : Nat) : Nat := if n = 0 then 0 else (n - 1) / c + 1
section
variable {X : Cx} {tg : Expr}
def iRng3 (ta : TA) : TI := fun σ H R => ta σ H fun vs H1 => ∃ n c : Nat, vs = [.int 0, .int n, .int c] ∧ (0 < c ∧ c ≤ 1000 ∧ n ≤ 1000000) ∧ R (Its c (cnt3 n c)) H1
end
section
variable {g : TG} {tb : TS} {D : Ends} {σ : St} {H : Hp} {ta : TA}
theorem rd_forR3 (h : ta σ H fun vs H1 => ∃ n c : Nat, vs = [.int 0, .int n, .int c] ∧ (0 < c ∧ c ≤ 1000 ∧ n ≤ 1000000) ∧ ∃ W : Nat → Nat → St → Hp → Prop, (∃ m, W 0 m σ H1) ∧ ∀ k m σ H, W k m σ H →
      ((Its c (cnt3 n c)).stop k H ∧ D.nx σ H) ∨ ((Its c (cnt3 n c)).go k H ∧ ∃ N : St → Hp → Prop, (∀ σ' H', N σ' H' → ∃ m', m' < m ∧ W (k + 1) m' σ' H') ∧ ∀ x H', (Its c (cnt3 n c)).yld k H x H' → g x σ H' fun σ2 H2 => tb { D with nx := N, ct := N, bk := D.nx } σ2 H2)) :
    tFor (iRng3 ta) g tb D σ H := h
end
end L2
set_option Elab.async false
set_option linter.all false
set_option maxRecDepth 100000
set_option maxHeartbeats 4000000
namespace L2
open PySem
section
variable {k : Nat} {caps : List Nat} {g : TG} {te : TE} {σ : St} {H1 : Hp} {ts : TT} {K : PySem.W.Frag}
theorem comp_accum {β : Type} {QD : Addr → Hp → Prop} {a : Addr} {xs : List V} (hq : SqL K H1 a xs) (hz : xs.length ≤ 1000000) (q : ∀ D, H1 D = none → ∃ (A : Nat → List β) (S : Hp → V → β → Prop), A 0 = [] ∧ (∀ i, i ≤ xs.length → (A i).length ≤ i) ∧ (∀ H H' y b, S H y b → SameD D H H' → TupK H H' → S H' y b) ∧
      (∀ (i : Nat) (x : V) (H2 : Hp) (ys : List V) (C1 : V → Hp → Prop) (C2 : Hp → Prop), xs[i]? = some x → Same H1 H2 → H2 D = some (.lst ys) → (∀ y H6 b, Same H2 H6 → S H6 y b → A (i + 1) = A i ++ [b] → C1 y H6) → (∀ H5, Same H2 H5 → A (i + 1) = A i → C2 H5) →
        g x (compSt k caps σ) H2 fun σ4 H4 => ts σ4 H4 fun b H5 => if b = true then te σ4 H5 C1 else C2 H5) ∧
      ∀ (ys : List V) (H' : Hp), Same H1 H' → H' D = some (.lst ys) → Paired (S H') ys (A xs.length) → QD D H') :
    ∀ D, H1 D = none →
      ∃ W : Nat → Nat → List V → Hp → Prop, (∃ m, W 0 m [] (upd H1 D (.lst []))) ∧ ∀ i m ys H2, W i m ys H2 →
        ((Itl K a).stop i H2 ∧ QD D H2) ∨ ((Itl K a).go i H2 ∧ ∀ x H3, (Itl K a).yld i H2 x H3 → g x (compSt k caps σ) H3 fun σ4 H4 => ts σ4 H4 fun b H5 =>
          if b = true then te σ4 H5 fun y H6 => ∃ zs, H6 D = some (.lst zs) ∧ zs.length < sizeLine ∧ ∃ m', m' < m ∧ W (i + 1) m' (ys ++ [y]) (upd H6 D (.lst (zs ++ [y])))
          else ∃ m', m' < m ∧ W (i + 1) m' ys H5) := by
  intro D hD
  obtain ⟨A, S, A0, Al, mono, step, fin⟩ := q D hD
  refine ⟨fun i m ys H => m + i = xs.length ∧ Same H1 H ∧ H D = some (.lst ys) ∧ Paired (S H) ys (A i), ⟨xs.length, rfl, Same.new (Same.refl _) hD, upd_same, by rw [A0]; exact .nil⟩, ?_⟩
  rintro i m ys H2 ⟨hm, S2, hd, hP⟩
  by_cases hi : i < xs.length
  · refine .inr ⟨⟨xs, xs[i], S2.seq hq, by simp [hi]⟩, fun x H3 hy => ?_⟩
    obtain ⟨e3, hy⟩ := hy
    subst e3
    have hx := hy xs (S2.seq hq)
    have hlen := Paired.length hP
    have hal := Al i (by omega)
    refine step i x H3 ys _ _ hx S2 hd (fun y H6 b S6 sy hA => ?_) fun H5 S5 hA => ?_
    · refine ⟨ys, S6 _ _ hd, smallLt (by omega), m - 1, by omega, by omega, fun b o e => ?_, upd_same, ?_⟩
      · rw [upd_ne (ne_of_none e hD)]
        exact S6 b o (S2 b o e)
      · have sd : SameD D H6 (upd H6 D (.lst (ys ++ [y]))) := sameD_upd
        have tk : TupK H6 (upd H6 D (.lst (ys ++ [y]))) := TupK.lst (TupK.refl _) (S6 _ _ hd)
        rw [hA]
        exact Paired.snoc (Paired.mapP hP fun _ _ z => mono _ _ _ _ (mono _ _ _ _ z S6.sameD S6.tupK) sd tk) (mono _ _ _ _ sy sd tk)
    · exact ⟨m - 1, by omega, by omega, S2.trans S5, S5 _ _ hd, by rw [hA]; exact Paired.mapP hP fun _ _ z => mono _ _ _ _ z S5.sameD S5.tupK⟩
  · have e : i = xs.length := by omega
    subst e
    exact .inl ⟨⟨xs, S2.seq hq, Nat.le_refl _⟩, fin ys H2 S2 hd hP⟩
end
theorem cut_take (xs : List V) (k : Nat) : cutV xs none (some (k : Int)) = xs.take k := by
  unfold cutV
  rw [HT.sIx_nat, HT.sIx_none, Nat.sub_zero, List.drop_zero]
  by_cases h : k ≤ xs.length
  · rw [Nat.min_eq_left h]
  · rw [Nat.min_eq_right (by omega), List.take_length, List.take_of_length_le (by omega)]
theorem cut_drop (xs : List V) (k : Nat) : cutV xs (some (k : Int)) none = xs.drop k := by
  unfold cutV
  rw [HT.sIx_nat, HT.sIx_none]
  by_cases h : k ≤ xs.length
  · rw [Nat.min_eq_left h, List.take_of_length_le (by rw [List.length_drop]; exact Nat.le_refl _)]
  · rw [Nat.min_eq_right (by omega), Nat.sub_self, List.take_zero, List.drop_eq_nil_of_le (by omega)]
theorem Paired.take1 {α β : Type} {F : α → β → Prop} : ∀ {xs : List α} {ys : List β} (k : Nat), Paired F xs ys → Paired F (xs.take k) (ys.take k)
  | _, _, 0, _ => by simp only [List.take_zero]; exact .nil
  | _, _, k + 1, .nil => by simp only [List.take_nil]; exact .nil
  | _, _, k + 1, .cons a t => by simp only [List.take_succ_cons]; exact .cons a (Paired.take1 k t)
theorem Paired.drop1 {α β : Type} {F : α → β → Prop} : ∀ {xs : List α} {ys : List β} (k : Nat), Paired F xs ys → Paired F (xs.drop k) (ys.drop k)
  | _, _, 0, h => h
  | _, _, k + 1, .nil => by simp only [List.drop_nil]; exact .nil
  | _, _, k + 1, .cons _ t => by simp only [List.drop_succ_cons]; exact Paired.drop1 k t
def Say.inSo : Say → Option Say
  | .so t => some t
  | _ => none
abbrev sos (ss : List Say) : List Say := ss.filterMap Say.inSo
def aboveS (ss : List Say) (k : Nat) : List (List Say) := match ss[k]? with
  | some (.ev t) => [t :: sos ss]
  | some (.disj s t) => [ss.take k ++ [s, t] ++ ss.drop (k + 1)]
  | some (.conj s t) => [ss.take k ++ [s] ++ ss.drop (k + 1), ss.take k ++ [t] ++ ss.drop (k + 1)]
  | _ => []
def RowAt (H : Hp) (v : V) (row : List Say) : Prop := ∃ a vs, v = .ref a ∧ H a = some (.lst vs) ∧ Stms H vs row
theorem RowAt.mono {H H' : Hp} {v : V} {row : List Say} (h : RowAt H v row) (S : Same H H') : RowAt H' v row := by
  obtain ⟨a, vs, e, h1, h2⟩ := h
  exact ⟨a, vs, e, S _ _ h1, h2.mono S.tupK⟩
def Say.brk : Say → Bool
  | .ev _ => true
  | .conj _ _ => true
  | .disj _ _ => true
  | _ => false
def spAbove : Sp := fun vs H Q _ => ∃ (r : Addr) (rs : List V) (ss : List Say) (k : Nat) (s : Say), vs = [.ref r, .int k] ∧ H r = some (.lst rs) ∧ Stms H rs ss ∧ ss.length ≤ 100000 ∧ ss[k]? = some s ∧ s.brk = true ∧
  ∀ (l : Addr) (ls : List V) (H' : Hp), Same H H' → H l = none → H' l = some (.lst ls) → Paired (RowAt H') ls (aboveS ss k) → Q (.ref l) H'
def spAboveP : Sp := fun vs H Q _ => ∃ (r : Addr) (rs : List V) (ss : List Say) (k : Nat) (s : Say), vs = [.ref r, .ref r, .int k] ∧ H r = some (.lst rs) ∧ Stms H rs ss ∧ ss.length ≤ 100000 ∧ ss[k]? = some s ∧ s.brk = true ∧
  ∀ (l : Addr) (ls : List V) (H' : Hp), Same H H' → H l = none → H' l = some (.lst ls) → Paired (RowAt H') ls (aboveS ss k) → Q (.ref l) H'
def tv (W : List Rm) (s : Say) (j : Nat) : Bool := (tru W s).getD j false
theorem stm_als2 {H : Hp} {v u : V} {s : Say} (h : Stm H v s) (g : Stm H u s) : Als H s.sz [v] [u] := by
  induction h generalizing u with
  | lamp e => cases g with | lamp e' => exact (Als.tup e e' (.str _ (.int _ .nil)) .nil).cast rfl
  | dark e => cases g with | dark e' => exact (Als.tup e e' (.str _ (.int _ .nil)) .nil).cast rfl
  | neg e _ i => cases g with | neg e' g => exact (Als.tup e e' (.str _ (i g)) .nil).cast (by simp only [Say.sz]; omega)
  | conj e _ _ i j => cases g with | conj e' g g' => exact (Als.tup e e' (.str _ ((i g).app (j g'))) .nil).cast (by simp only [Say.sz]; omega)
  | disj e _ _ i j => cases g with | disj e' g g' => exact (Als.tup e e' (.str _ ((i g).app (j g'))) .nil).cast (by simp only [Say.sz]; omega)
  | ev e _ i => cases g with | ev e' g => exact (Als.tup e e' (.str _ (i g)) .nil).cast (by simp only [Say.sz]; omega)
  | so e _ i => cases g with | so e' g => exact (Als.tup e e' (.str _ (i g)) .nil).cast (by simp only [Say.sz]; omega)
theorem stms_als2 {H : Hp} {vs us : List V} {ss : List Say} (h : Stms H vs ss) (g : Stms H us ss) : Als H (szs ss) vs us := by
  induction h generalizing us with
  | nil => cases g; exact .nil
  | cons a _ i => cases g with | cons b t => exact ((stm_als2 a b).app (i t)).cast (by simp only [szs, List.map_cons, List.sum_cons])
theorem take_succ_get {α : Type} {xs : List α} {i : Nat} {x : α} (h : xs[i]? = some x) : xs.take (i + 1) = xs.take i ++ [x] := by
  rw [List.take_succ, h]
  rfl
theorem sos_yes {ss : List Say} {i : Nat} {u : Say} (h : ss[i]? = some (.so u)) : sos (ss.take (i + 1)) = sos (ss.take i) ++ [u] := by
  rw [take_succ_get h, sos, List.filterMap_append]
  rfl
theorem sos_no {ss : List Say} {i : Nat} {t : Say} (h : ss[i]? = some t) (n : t.tag ≠ "some") : sos (ss.take (i + 1)) = sos (ss.take i) := by
  rw [take_succ_get h, sos, List.filterMap_append]
  have : Say.inSo t = none := by cases t <;> first | rfl | exact absurd rfl n
  simp [this]
theorem sos_len (ss : List Say) (i : Nat) : (sos (ss.take i)).length ≤ i := by
  have h1 : (sos (ss.take i)).length ≤ (ss.take i).length := List.length_filterMap_le Say.inSo (ss.take i)
  have h2 := List.length_take (i := i) (l := ss)
  omega
theorem so_of {t : Say} (h : t.tag = "some") : ∃ u, t = .so u := by
  cases t <;> first | exact ⟨_, rfl⟩ | exact absurd h (by dsimp only [Say.tag]; decide +kernel)
theorem szs_take (ss : List Say) (k : Nat) : szs (ss.take k) + szs (ss.drop k) = szs ss := by rw [← szs_app, List.take_append_drop]
theorem above_few (ss : List Say) (k : Nat) : (aboveS ss k).length ≤ 2 := by unfold aboveS; split <;> simp
end L2
set_option Elab.async false
set_option linter.all false
set_option maxRecDepth 100000
set_option maxHeartbeats 4000000
namespace L2
open PySem PySem.Spec PyProof.Rows
section
variable {prog : Program} {w : World} {A : Around} {E : Value → Shared → Prop} {s : Shared}
theorem nxt_item {j t : Addr} {i : Nat} {xs : Array Value} {x : Value} {Q : Value → Shared → Prop} (hj : s.heap.IsTupleIter j t i) (ht : s.heap.IsTuple t xs) (hx : xs[i]? = some x)
    (q : ∀ h', h'.IsTupleIter j t (i + 1) → Heap.SameBut j s.heap h' → Q x { s with heap := h' }) : wpAny (model prog w) A (Builtin.SmallTypes.nextOf (.ref j)) Q E s := by
  obtain ⟨o, e1, e2, e3⟩ := id hj
  obtain ⟨ot, f1, _, nt, f3⟩ := ht
  have hT := hj.typeIs
  unfold Builtin.SmallTypes.nextOf
  apply wpAny_bind; apply wpAny_callSpecial?_slot (name := Str.ofString "__next__") hT F.slot_tuple_iterator_next
  refine wpAny_call_entry F.slot_tuple_iterator_next hT F.entry_tuple_iterator_next ?_ (F.args_tuple_iterator_next_1 _)
  apply wpAny_bind (m := field (.ref j) 0); refine wpAny_field e1 e3 (x := .ref t) rfl ?_
  change wpAny _ _ (ite ((Value.ref t == Value.none) = true) _ _) _ _ s; rw [if_neg (by exact Bool.false_ne_true)]
  apply wpAny_bind (m := field (.ref j) 1); refine wpAny_field e1 e3 (x := .int i 0) rfl ?_
  apply wpAny_bind (m := seqItems? (.ref t)); refine wpAny_seqItems f1 f3 ?_
  simp only [Int.toNat_natCast, hx]
  apply wpAny_bind; refine wpAny_setField e1 e3 (by simp) (wpAny_pure ⟨x, rfl, wpAny_pure (q _ ⟨_, Heap.get?_update_self _ e1 (Obj.isFreed_of_fields (Obj.data_mapFields e3 _)), (Obj.cls_mapFields ..).trans e2, ?_⟩ (Heap.SameBut.update ..))⟩)
  rw [Obj.data_mapFields e3]; simp [rawInt]
theorem nxt_end {j t : Addr} {i : Nat} {xs : Array Value} {Q : Value → Shared → Prop} (hh : A.handled = none) (hj : s.heap.IsTupleIter j t i) (ht : s.heap.IsTuple t xs) (hx : xs[i]? = none)
    (q : ∀ h' e, Heap.ExtBut j s.heap h' → (∃ o, h'.get? e = some o ∧ o.cls = .type "StopIteration") → E (.ref e) { s with heap := h' }) : wpAny (model prog w) A (Builtin.SmallTypes.nextOf (.ref j)) Q E s := by
  obtain ⟨o, e1, e2, e3⟩ := id hj
  obtain ⟨ot, f1, _, nt, f3⟩ := ht
  have hT := hj.typeIs
  unfold Builtin.SmallTypes.nextOf
  apply wpAny_bind; apply wpAny_callSpecial?_slot (name := Str.ofString "__next__") hT F.slot_tuple_iterator_next
  refine wpAny_call_entry F.slot_tuple_iterator_next hT F.entry_tuple_iterator_next ?_ (F.args_tuple_iterator_next_1 _)
  apply wpAny_bind (m := field (.ref j) 0); refine wpAny_field e1 e3 (x := .ref t) rfl ?_
  change wpAny _ _ (ite ((Value.ref t == Value.none) = true) _ _) _ _ s; rw [if_neg (by exact Bool.false_ne_true)]
  apply wpAny_bind (m := field (.ref j) 1); refine wpAny_field e1 e3 (x := .int i 0) rfl ?_
  apply wpAny_bind (m := seqItems? (.ref t)); refine wpAny_seqItems f1 f3 ?_
  simp only [Int.toNat_natCast, hx]
  apply wpAny_bind; apply wpAny_rule; apply wpAny_bind; refine wpAny_setField e1 e3 (by simp) ?_
  apply wpAny_bind (m := newExc (.type "StopIteration") [])
  simp only [newExc, newTuple]
  apply wpAny_bind; refine wpAny_newObj_type ?_ (by size_fits)
  refine wpAny_bind (m := firstArgMember _ _) (wpAny_of_eq (a := Value.none) (by simp only [firstArgMember]; rfl) (wpAny_newObj_type ?_ (by size_fits)))
  simp only [raiseNew]
  apply wpAny_bind; apply wpAny_handled
  rw [show A.in1.handled = none from hh]
  refine wpAny_bind (wpAny_pure (wpAny_throw (q _ _ (((Heap.SameBut.update ..).extBut.push _).push _) ⟨_, Heap.get?_push_size _ rfl, rfl⟩)))
theorem zpt_item {z TI TO i1 i2 l1 l2 : Addr} {k : Nat} {xs ys : Array Value} {x y a b : Value} {Q : Option Value → Shared → Prop} (D : ZipApart z TI TO i1 i2 l1 l2) (hz : IsZip s.heap z TI TO .none) (hTI : IsPair s.heap TI (.ref i1) (.ref i2)) (hTO : IsPair s.heap TO a b)
    (h1 : s.heap.IsTupleIter i1 l1 k) (h2 : s.heap.IsListIter i2 l2 k) (g1 : s.heap.IsTuple l1 xs) (g2 : s.heap.IsList l2 ys) (hx : xs[k]? = some x) (hy : ys[k]? = some y)
    (q : ∀ h', IsZip h' z TI TO (rawInt s.heap.objs.size) → IsPair h' TO x y → h'.IsTupleIter i1 l1 (k + 1) → h'.IsListIter i2 l2 (k + 1) → IsPair h' s.heap.objs.size x y → (∀ c o, c ≠ z → c ≠ TO → c ≠ i1 → c ≠ i2 → s.heap.get? c = some o → h'.get? c = some o) → Q (some (.ref s.heap.objs.size)) { s with heap := h' }) :
    wpAny (model prog w) A (pyNext (.ref z)) Q E s := by
  have hT : s.TypeIs (.ref z) "zip" := ⟨_, hz, rfl⟩
  unfold pyNext
  apply wpAny_bind; apply wpAny_attempt; apply wpAny_callSpecial?_slot (name := Str.ofString "__next__") hT F.slot_zip_next
  refine wpAny_call_entry F.slot_zip_next hT F.entry_zip_next ?_ (F.args_zip_next_1 _)
  apply wpAny_bind (m := field (.ref z) 2); refine wpAny_field hz rfl (x := .bool false) rfl ?_
  apply wpAny_bind (m := field (.ref z) 3); refine wpAny_field hz rfl (x := .ref TI) rfl ?_
  apply wpAny_bind; refine wpAny_seqItems hTI rfl ?_
  apply wpAny_bind (m := Builtin.SmallTypes.ownedTupleIsFree (.ref z))
  unfold Builtin.SmallTypes.ownedTupleIsFree
  apply wpAny_bind; refine wpAny_field hz rfl (x := .none) rfl (wpAny_pure ?_)
  simp only [if_true]
  apply wpAny_bind; apply wpAny_rule; apply wpAny_bind; refine wpAny_field hz rfl (x := .ref TO) rfl ?_
  apply wpAny_bind; refine wpAny_setField_rec hz (by simp) fun p1 zz1 d1 => ?_
  have zz1 : IsZip p1 z TI TO .ellipsis := zz1
  apply wpAny_bind; simp only [List.zipIdx_cons, List.zipIdx_nil, List.forIn_cons, List.forIn_nil]
  apply wpAny_bind; apply wpAny_bind; apply wpAny_onRaise; apply wpAny_bind (m := Builtin.SmallTypes.nextOf (.ref i1))
  refine nxt_item (h1.at fun o e => d1.extBut _ _ D.i1z e) (g1.at fun o e => d1.extBut _ _ D.l1z e) hx fun p2 j1 d2 => wpAny_pure ?_
  have t2 : IsPair p2 TO a b := d2.extBut _ _ D.TOi1 (d1.extBut _ _ D.TOz hTO)
  apply wpAny_bind; refine wpAny_seqItems t2 rfl ?_
  apply wpAny_bind; refine wpAny_updateSeq_pair t2 fun p3 t3 d3 => ?_
  have t3 : IsPair p3 TO x b := t3
  apply wpAny_bind; refine wpAny_letGo (wpAny_pure ?_)
  apply wpAny_bind; apply wpAny_bind; apply wpAny_onRaise; apply wpAny_bind (m := Builtin.SmallTypes.nextOf (.ref i2))
  have up13 : ∀ c o, c ≠ z → c ≠ TO → c ≠ i1 → s.heap.get? c = some o → p3.get? c = some o := fun c o c1 c2 c3 e => d3.extBut _ _ c2 (d2.extBut _ _ c3 (d1.extBut _ _ c1 e))
  refine wpAny_nextOf_list_item (h2.at fun o e => up13 _ o D.i2z D.TOi2.symm D.i12.symm e) (g2.at fun o e => up13 _ o D.l2z D.l2TO D.l2i1 e) hy fun p4 j2 d4 => wpAny_pure ?_
  have t4 : IsPair p4 TO x b := d4.extBut _ _ D.TOi2 t3
  apply wpAny_bind; refine wpAny_seqItems t4 rfl ?_
  apply wpAny_bind; refine wpAny_updateSeq_pair t4 fun p5 t5 d5 => ?_
  have t5 : IsPair p5 TO x y := t5
  apply wpAny_bind; refine wpAny_letGo (wpAny_pure (wpAny_pure ?_))
  apply wpAny_bind; refine wpAny_seqItems t5 rfl ?_
  apply wpAny_bind; refine wpAny_newTuple ?_
  have n5 : p5.objs.size = s.heap.objs.size := by rw [d5.1, d4.1, d3.1, d2.1, d1.1]
  have z5 : IsZip p5 z TI TO .ellipsis := d5.extBut _ _ D.TOz.symm (d4.extBut _ _ D.i2z.symm (d3.extBut _ _ D.TOz.symm (d2.extBut _ _ D.i1z.symm zz1)))
  have up5 : ∀ c o, c ≠ z → c ≠ TO → c ≠ i1 → c ≠ i2 → s.heap.get? c = some o → p5.get? c = some o := fun c o c1 c2 c3 c4 e => d5.extBut _ _ c2 (d4.extBut _ _ c4 (up13 c o c1 c2 c3 e))
  have j15 : p5.IsTupleIter i1 l1 (k + 1) := j1.at fun o e => d5.extBut _ _ D.TOi1.symm (d4.extBut _ _ D.i12 (d3.extBut _ _ D.TOi1.symm e))
  have j25 : p5.IsListIter i2 l2 (k + 1) := j2.at fun o e => d5.extBut _ _ D.TOi2.symm e
  have zlt : z < p5.objs.size := Heap.lt_size z5
  apply wpAny_bind (m := Builtin.SmallTypes.ownedTupleHandOut (.ref z) (.ref p5.objs.size))
  unfold Builtin.SmallTypes.ownedTupleHandOut
  have z6 : IsZip (p5.push { cls := .type "tuple", data := .seq #[x, y] }) z TI TO .ellipsis := Heap.get?_push_of_some _ z5
  apply wpAny_bind; refine wpAny_setField_rec z6 (by simp) fun p7 z7 d7 => ?_
  have z7 : IsZip p7 z TI TO (rawInt p5.objs.size) := z7
  refine wpAny_setField_rec z7 (by simp) fun p8 z8 d8 => ?_
  have z8 : IsZip p8 z TI TO (rawInt p5.objs.size) := z8
  have up8 : ∀ c o, c ≠ z → p5.get? c = some o → p8.get? c = some o := fun c o c1 e => d8.extBut _ _ c1 (d7.extBut _ _ c1 (Heap.get?_push_of_some _ e))
  have t8 : IsPair p8 p5.objs.size x y := d8.extBut _ _ (Nat.ne_of_gt zlt) (d7.extBut _ _ (Nat.ne_of_gt zlt) (Heap.get?_push_size _ rfl))
  rw [n5] at z8 t8
  refine wpAny_pure ⟨_, rfl, wpAny_pure ?_⟩
  show Q (some (.ref p5.objs.size)) _
  rw [n5]
  exact q p8 z8 (up8 _ _ D.TOz t5) (j15.at fun o e => up8 _ o D.i1z e) (j25.at fun o e => up8 _ o D.i2z e) t8 fun c o c1 c2 c3 c4 e => up8 c o c1 (up5 c o c1 c2 c3 c4 e)
theorem zpt_end {z TI TO i1 i2 l1 l2 : Addr} {k : Nat} {xs : Array Value} {a b : Value} {Q : Option Value → Shared → Prop} (hh : A.handled = none) (D : ZipApart z TI TO i1 i2 l1 l2) (hz : IsZip s.heap z TI TO .none) (hTI : IsPair s.heap TI (.ref i1) (.ref i2)) (hTO : IsPair s.heap TO a b)
    (h1 : s.heap.IsTupleIter i1 l1 k) (g1 : s.heap.IsTuple l1 xs) (hx : xs[k]? = none)
    (q : ∀ h', (∀ c o, c ≠ z → c ≠ TO → c ≠ i1 → c ≠ i2 → s.heap.get? c = some o → h'.get? c = some o) → Q none { s with heap := h' }) : wpAny (model prog w) A (pyNext (.ref z)) Q E s := by
  have hT : s.TypeIs (.ref z) "zip" := ⟨_, hz, rfl⟩
  unfold pyNext
  apply wpAny_bind; apply wpAny_attempt; apply wpAny_callSpecial?_slot (name := Str.ofString "__next__") hT F.slot_zip_next
  refine wpAny_call_entry F.slot_zip_next hT F.entry_zip_next ?_ (F.args_zip_next_1 _)
  apply wpAny_bind (m := field (.ref z) 2); refine wpAny_field hz rfl (x := .bool false) rfl ?_
  apply wpAny_bind (m := field (.ref z) 3); refine wpAny_field hz rfl (x := .ref TI) rfl ?_
  apply wpAny_bind; refine wpAny_seqItems hTI rfl ?_
  apply wpAny_bind (m := Builtin.SmallTypes.ownedTupleIsFree (.ref z))
  unfold Builtin.SmallTypes.ownedTupleIsFree
  apply wpAny_bind; refine wpAny_field hz rfl (x := .none) rfl (wpAny_pure ?_)
  simp only [if_true]
  apply wpAny_bind; apply wpAny_rule; apply wpAny_bind; refine wpAny_field hz rfl (x := .ref TO) rfl ?_
  apply wpAny_bind; refine wpAny_setField_rec hz (by simp) fun p1 zz1 d1 => ?_
  have zz1 : IsZip p1 z TI TO .ellipsis := zz1
  apply wpAny_bind; simp only [List.zipIdx_cons, List.zipIdx_nil, List.forIn_cons, List.forIn_nil]
  apply wpAny_bind; apply wpAny_bind; apply wpAny_onRaise; apply wpAny_bind (m := Builtin.SmallTypes.nextOf (.ref i1))
  refine nxt_end hh (h1.at fun o e => d1.extBut _ _ D.i1z e) (g1.at fun o e => d1.extBut _ _ D.l1z e) hx fun p2 e d2 he => ?_
  obtain ⟨oe, he1, he2⟩ := he
  have z2 : IsZip p2 z TI TO .ellipsis := d2 _ _ D.i1z.symm zz1
  have ne : e ≠ z := fun v => by subst v; rw [z2] at he1; cases he1; simp at he2
  refine wpAny_setField_rec z2 (by simp) fun p3 _ d3 => ?_
  refine wpAny_bind (wpAny_isInstance (T := "StopIteration") (b := true) ⟨oe, d3.extBut _ _ ne he1, he2⟩ isSubtype_stop (wpAny_pure (q _ fun c o c1 c2 c3 c4 v => d3.extBut _ _ c1 (d2 _ _ c3 (d1.extBut _ _ c1 v)))))
end
abbrev zq1 (h : Heap) (a : Addr) : Heap := h.push { cls := .type "tuple_iterator", data := .fields #[.ref a, .int 0 0] }
abbrev zq2 (h : Heap) (a b : Addr) : Heap := (zq1 h a).push { cls := .type "list_iterator", data := .fields #[.ref b, .int 0 0] }
abbrev zq3 (h : Heap) (a b : Addr) : Heap := (zq2 h a b).push { cls := .type "tuple", data := .seq #[.ref h.objs.size, .ref (zq1 h a).objs.size] }
abbrev zq4 (h : Heap) (a b : Addr) : Heap := (zq3 h a b).push { cls := .type "tuple", data := .seq #[.none, .none] }
abbrev zq5 (h : Heap) (a b : Addr) : Heap := (zq4 h a b).push { cls := .type "zip", data := .fields #[.none, .bool false, .bool false, .ref (zq2 h a b).objs.size, .ref (zq3 h a b).objs.size] }
theorem zpt_new (a b : Addr) (xs ys : Array Value) : Meets (Builtin.«zip.__new__» ⟨[.type "zip", .ref a, .ref b], []⟩) (fun _ R s => s.heap.IsTuple a xs ∧ s.heap.IsList b ys ∧ R (.ok (.ret (.ref (zq4 s.heap a b).objs.size))) { s with heap := zq5 s.heap a b }) :=
  .of_wp fun prog w A R s h => by
    obtain ⟨hp, g, d, tk, os⟩ := s; obtain ⟨e1, e2, h⟩ := h; have hsub := sub_zip
    have u1 : Heap.IsTuple (Shared.heap ⟨hp, g, d, tk, os⟩) a xs := e1
    have u2 : Heap.IsList (Shared.heap ⟨zq1 hp a, g, d, tk, os⟩) b ys := Heap.IsList.push e2 _
    wp_walk using wpAny_pyIter_tuple u1, wpAny_pyIter_list u2
    exact ⟨_, rfl, h⟩
section
variable {prog : Program} {w : World} {A : Around} {E : Value → Shared → Prop} {s : Shared}
theorem zpt_call {a b : Addr} {xs ys : Array Value} {Q : Value → Shared → Prop} (g1 : s.heap.IsTuple a xs) (g2 : s.heap.IsList b ys)
    (q : ∀ h', IsZip h' (s.heap.objs.size + 4) (s.heap.objs.size + 2) (s.heap.objs.size + 3) .none → IsPair h' (s.heap.objs.size + 2) (.ref s.heap.objs.size) (.ref (s.heap.objs.size + 1)) → IsPair h' (s.heap.objs.size + 3) .none .none → h'.IsTupleIter s.heap.objs.size a 0 → h'.IsListIter (s.heap.objs.size + 1) b 0 →
      (∀ c o, s.heap.get? c = some o → h'.get? c = some o) → Q (.ref (s.heap.objs.size + 4)) { s with heap := h' }) : wpAny (model prog w) A (call (.type "zip") [.ref a, .ref b]) Q E s := by
  refine callType_new F.called_zip (by decide) (F.typeCall_zip_2 _ _) (F.newCall_zip_2 _ _) (fun obj => F.args_object_init_3 obj _ _) F.entry_zip_new (zpt_new a b xs ys) ⟨g1, g2, ?_⟩
  have n1 : (zq1 s.heap a).objs.size = s.heap.objs.size + 1 := Heap.size_push _ _
  have n2 : (zq2 s.heap a b).objs.size = s.heap.objs.size + 2 := by rw [Heap.size_push, n1]
  have n3 : (zq3 s.heap a b).objs.size = s.heap.objs.size + 3 := by rw [Heap.size_push, n2]
  have n4 : (zq4 s.heap a b).objs.size = s.heap.objs.size + 4 := by rw [Heap.size_push, n3]
  have up : ∀ {c : Addr} {o : Obj}, (zq1 s.heap a).get? c = some o → (zq5 s.heap a b).get? c = some o := fun e => Heap.get?_push_of_some _ (Heap.get?_push_of_some _ (Heap.get?_push_of_some _ (Heap.get?_push_of_some _ e)))
  have r5 : (zq5 s.heap a b).get? (zq4 s.heap a b).objs.size = some _ := Heap.get?_push_size _ rfl
  have r4 : (zq5 s.heap a b).get? (zq3 s.heap a b).objs.size = some _ := Heap.get?_push_of_some _ (Heap.get?_push_size _ rfl)
  have r3 : (zq5 s.heap a b).get? (zq2 s.heap a b).objs.size = some _ := Heap.get?_push_of_some _ (Heap.get?_push_of_some _ (Heap.get?_push_size _ rfl))
  have r2 : (zq5 s.heap a b).get? (zq1 s.heap a).objs.size = some _ := Heap.get?_push_of_some _ (Heap.get?_push_of_some _ (Heap.get?_push_of_some _ (Heap.get?_push_size _ rfl)))
  have r1 : (zq5 s.heap a b).get? s.heap.objs.size = some _ := up (Heap.get?_push_size _ rfl)
  rw [n4, n2, n3] at r5; rw [n3] at r4; rw [n2, n1] at r3; rw [n1] at r2
  show _ ∧ _
  rw [n4]
  exact ⟨⟨_, r5, rfl⟩, q _ r5 r3 r4 ⟨_, r1, rfl, rfl⟩ ⟨_, r2, rfl, rfl⟩ fun c o e => up (Heap.get?_push_of_some _ e)⟩
end
def Izt (K : PySem.W.Frag) (l1 l2 : Addr) : It :=
  ⟨fun i H => ∃ xs ys x y, SqT K H l1 xs ∧ SqL K H l2 ys ∧ xs[i]? = some x ∧ ys[i]? = some y,
   fun i H v H' => ∃ p x y, v = .ref p ∧ H p = none ∧ H' = upd H p (.tup [x, y]) ∧ (∀ xs, SqT K H l1 xs → xs[i]? = some x) ∧ ∀ ys, SqL K H l2 ys → ys[i]? = some y,
   fun i H => ∃ xs, SqT K H l1 xs ∧ xs[i]? = none⟩
theorem turn_zpt {P : Program} {w : World} {K : PySem.W.Frag} {elts : List Expr} {kk : Nat} {tpos : Pos} (z TI TO i1 i2 l1 l2 : Addr) (D : ZipApart z TI TO i1 i2 l1 l2) : Turn P w K (.Tuple elts kk tpos) (Izt K l1 l2) [z, TI, TO, i1, i2] z
    (fun i h => IsZip h z TI TO .none ∧ IsPair h TI (.ref i1) (.ref i2) ∧ (∃ a b, IsPair h TO a b) ∧ h.IsTupleIter i1 l1 i ∧ h.IsListIter i2 l2 i) where
  mem := by simp
  obj := fun i h st b hb => by
    obtain ⟨h1, h2, ⟨a, c, h3⟩, ⟨o4, h4, _, d4⟩, ⟨o5, h5, _, d5⟩⟩ := st
    have hb' : b = z ∨ b = TI ∨ b = TO ∨ b = i1 ∨ b = i2 := by simpa using hb
    rcases hb' with rfl | rfl | rfl | rfl | rfl
    · exact ⟨_, h1, fun v q => by cases q⟩
    · exact ⟨_, h2, fun v q => by cases q⟩
    · exact ⟨_, h3, fun v q => by cases q⟩
    · exact ⟨_, h4, fun v q => by rw [d4] at q; cases q⟩
    · exact ⟨_, h5, fun v q => by rw [d5] at q; cases q⟩
  keep := fun i h h' st k => by
    obtain ⟨h1, h2, ⟨a, c, h3⟩, h4, h5⟩ := st
    exact ⟨k z (by simp) _ h1, k TI (by simp) _ h2, ⟨a, c, k TO (by simp) _ h3⟩, h4.at fun o e => k i1 (by simp) o e, h5.at fun o e => k i2 (by simp) o e⟩
  item := by
    intro X hP hw hK hc i pins s σ H E I hf st hg
    subst hP hw hK
    obtain ⟨h1, h2, ⟨a, c, h3⟩, h4, h5⟩ := st
    obtain ⟨xs, ys, x, y, hq1, hq2, hx, hy⟩ := hg
    obtain ⟨its1, rv1, p1, hz1⟩ := I.tuple hq1
    obtain ⟨its2, rv2, p2, hz2⟩ := I.list hq2
    obtain ⟨u1, hu1, ru1⟩ := rv1.get hx
    obtain ⟨u2, hu2, ru2⟩ := rv2.get hy
    refine zpt_item D h1 h2 h3 h4 h5 (show s.heap.IsTuple l1 its1.toArray from p1) p2.isList (x := u1) (y := u2) (by simpa using hu1) (by simpa using hu2) fun h' g1 g2 g3 g4 g5 gk => ?_
    refine ⟨_, rfl, wpAny_letOwnedTupleGo_zip g1 fun h'' z1 sb => ?_⟩
    have hfr : H s.heap.objs.size = none := I.hok.fresh (Nat.le_refl _)
    have nz : ∀ b o, s.heap.get? b = some o → b ≠ s.heap.objs.size := fun b o e => Nat.ne_of_lt (Heap.lt_size e)
    have zlt : z < s.heap.objs.size := Heap.lt_size h1
    have kk : ∀ b o, b ∉ [z, TI, TO, i1, i2] → s.heap.get? b = some o → h''.get? b = some o := fun b o hb e => by
      have hb' : b ≠ z ∧ b ≠ TI ∧ b ≠ TO ∧ b ≠ i1 ∧ b ≠ i2 := by simpa using hb
      exact (sb.2 b hb'.1).trans (gk b o hb'.1 hb'.2.2.1 hb'.2.2.2.1 hb'.2.2.2.2 e)
    have np : h''.get? s.heap.objs.size = some { cls := .type "tuple", data := .seq #[u1, u2] } := (sb.2 _ (Nat.ne_of_gt zlt)).trans g5
    have nfp : ∀ b u, H b = some u → b ∉ [z, TI, TO, i1, i2] := fun b u e hb => by
      have := (hf b hb).1
      rw [e] at this; cases this
    have hok1 : HOk X.prog X.w H h'' := fun b u e => (I.hok b u e).stay (fun c v hc q => kk c v (by
      rcases hc with q' | q'
      · rw [q']; exact nfp b u e
      · exact nfp c _ q') q) (fun _ q => q) fun _ _ q => q
    have hok2 : HOk X.prog X.w (upd H s.heap.objs.size (.tup [x, y])) h'' := fun b u e => by
      by_cases hb : b = s.heap.objs.size
      · subst hb
        rw [upd_same] at e
        cases e
        exact ⟨(by show 2 ≤ sizeLine; decide), [u1, u2], .cons ru1 (.cons ru2 .nil), ⟨_, np, rfl, _, rfl⟩⟩
      · rw [upd_ne hb] at e
        exact (hok1 b u e).stay (fun c v _ q => q) (fun c q => by rw [upd_ne (ne_of_none q hfr)]; exact q) fun c xs q => by rw [upd_ne (ne_of_none q hfr)]; exact q
    have I1 : Inv X pins σ (upd H s.heap.objs.size (.tup [x, y])) { s with heap := h'' } := by
      refine I.step (g' := s.gens) (t' := s.toks) (d' := s.drawn) (ch := [z, TI, TO, i1, i2]) (fun b hb => ?_) (fun b o _ _ hc e _ => kk b o hc e) (fun b o _ _ hc e _ => ⟨o.slots, kk b o hc e⟩) (fun b o hc e n => by rw [upd_ne (nz b o e)]; exact n) (fun b o hc e => ⟨o, kk b o hc e⟩)
        (fun b xs e => by rw [upd_ne (ne_of_none e hfr)]; exact e) (fun b o u e => by rw [upd_ne (ne_of_none e hfr)]; exact e) (fun b ps e => ⟨#[], by rw [upd_ne (ne_of_none e hfr), e]; simp⟩) (fun m hm => ?_) hok2 I.bare
      · obtain ⟨f0, f1, f2, f3, f4, f5⟩ := hf b hb
        exact ⟨f3, f1, f4, f5⟩
      · obtain ⟨o, es, ep, ho, r⟩ := hm
        refine ⟨o, es, ep, kk _ o (fun hb => ?_) ho, r⟩
        exact (hf _ hb).2.1 rfl
    refine ⟨.ref s.heap.objs.size, _, I1, rfl, ⟨s.heap.objs.size, x, y, rfl, hfr, rfl, fun zs hz => by rw [I.tuple_inj hz hq1]; exact hx, fun zs hz => by rw [I.list_inj hz hq2]; exact hy⟩, ⟨z1, (sb.2 TI D.TIz).trans (gk TI _ D.TIz D.TITO D.TIi1 D.TIi2 h2), ⟨_, _, (sb.2 TO D.TOz).trans g2⟩, g3.at fun o e => (sb.2 i1 D.i1z).trans e, g4.at fun o e => (sb.2 i2 D.i2z).trans e⟩, fun b hb => ?_⟩
    have e0 := (hf b hb).1
    have hlt : b < s.heap.objs.size := by
      obtain ⟨o4, e4, _⟩ := h4
      obtain ⟨o5, e5, _⟩ := h5
      have hb' : b = z ∨ b = TI ∨ b = TO ∨ b = i1 ∨ b = i2 := by simpa using hb
      rcases hb' with rfl | rfl | rfl | rfl | rfl
      · exact zlt
      · exact Heap.lt_size h2
      · exact Heap.lt_size h3
      · exact Heap.lt_size e4
      · exact Heap.lt_size e5
    rw [upd_ne (Nat.ne_of_lt hlt)]
    exact e0
  done := by
    intro X hP hw hK hc i pins s σ H E I hf st hg
    subst hP hw hK
    obtain ⟨h1, h2, ⟨a, c, h3⟩, h4, h5⟩ := st
    obtain ⟨xs, hq1, hend⟩ := hg
    obtain ⟨its1, rv1, p1, hz1⟩ := I.tuple hq1
    refine zpt_end (I.ok.hd hc) D h1 h2 h3 h4 (show s.heap.IsTuple l1 its1.toArray from p1) (by simpa using rv1.none_of hend) fun h' gk => ⟨rfl, ?_⟩
    have kk : ∀ b o, b ∉ [z, TI, TO, i1, i2] → s.heap.get? b = some o → h'.get? b = some o := fun b o hb e => by
      have hb' : b ≠ z ∧ b ≠ TI ∧ b ≠ TO ∧ b ≠ i1 ∧ b ≠ i2 := by simpa using hb
      exact gk b o hb'.1 hb'.2.2.1 hb'.2.2.2.1 hb'.2.2.2.2 e
    have nfp : ∀ b u, H b = some u → b ∉ [z, TI, TO, i1, i2] := fun b u e hb => by
      have := (hf b hb).1
      rw [e] at this; cases this
    refine I.step (h' := h') (g' := s.gens) (t' := s.toks) (d' := s.drawn) (ch := [z, TI, TO, i1, i2]) (fun b hb => ?_) (fun b o _ _ hc e _ => kk b o hc e) (fun b o _ _ hc e _ => ⟨o.slots, kk b o hc e⟩) (fun b o hc e n => n) (fun b o hc e => ⟨o, kk b o hc e⟩)
      (fun b xs e => e) (fun b o u e => e) (fun b ps e => ⟨#[], by rw [e]; simp⟩) (fun m hm => ?_) (fun b u e => ?_) I.bare
    · obtain ⟨f0, f1, f2, f3, f4, f5⟩ := hf b hb
      exact ⟨f3, f1, f4, f5⟩
    · obtain ⟨o, es, ep, ho, r⟩ := hm
      refine ⟨o, es, ep, kk _ o (fun hb => ?_) ho, r⟩
      exact (hf _ hb).2.1 rfl
    · exact (I.hok b u e).stay (fun c v hc q => kk c v (by
        rcases hc with q' | q'
        · rw [q']; exact nfp b u e
        · exact nfp c _ q') q) (fun _ q => q) fun _ _ q => q
  self := fun _ _ _ _ _ st h => wpAny_pyIter_zip st.1 h
section
variable {X : Cx} {elts : List Expr} {kk : Nat} {tpos : Pos}
def iZipT (K : PySem.W.Frag) (ta : TA) : TI := fun σ H R => ta σ H fun vs H1 => ∃ l1 l2 xs ys, vs = [.ref l1, .ref l2] ∧ SqT K H1 l1 xs ∧ SqL K H1 l2 ys ∧ R (Izt K l1 l2) H1
theorem pi_zipT {a b : Expr} {ta : TA} {p pos : Pos} (K : PySem.W.Frag) (hg : Gl X "zip") (hm : X.mg "zip" = none) (ha : PA X [a, b] ta) (hK : X.K = K := by rfl) (hs : starEach [a, b] X.env = [(false, eval a X.env), (false, eval b X.env)] := by rfl) (hs2 : starEach [b] X.env = [(false, eval b X.env)] := by rfl) :
    PI X (.Tuple elts kk tpos) (.Call (.Name "zip" p) [a, b] [] pos) (iZipT K ta) := by
  subst hK
  intro pins s σ H R I h
  refine Call_ (ld_blt I hg hm boot_zip (PyProof.Rows.callWith_type1 (thn (ha pos pins s σ H _ I h) fun us s1 ⟨vs, H1, I1, r1, q1⟩ => ?_) (by rw [hs, hs2]) (by rw [hs2]; rfl)))
  obtain ⟨l1, l2, xs, ys, e, hq1, hq2, q⟩ := q1
  subst e
  cases r1 with
  | cons r rr =>
    cases rr with
    | cons r' rr =>
      cases rr
      cases r
      cases r'
      obtain ⟨its1, rv1, p1, hz1⟩ := I1.tuple hq1
      obtain ⟨its2, rv2, p2, hz2⟩ := I1.list hq2
      have p1' : s1.heap.IsTuple l1 its1.toArray := p1
      refine zpt_call p1' p2.isList fun h' g1 g2 g3 g4 g5 gk => ?_
      refine wpAny_pyIter_zip g1 ?_
      have I2 : Inv X pins σ H1 { s1 with heap := h' } := I1.kept (t' := s1.toks) gk
      have a1 : (l1 : Nat) < s1.heap.objs.size := by obtain ⟨o, e, _⟩ := p1'; exact Heap.lt_size e
      have a2 : (l2 : Nat) < s1.heap.objs.size := by obtain ⟨o, e, _⟩ := p2.isList; exact Heap.lt_size e
      have D : ZipApart (s1.heap.objs.size + 4) (s1.heap.objs.size + 2) (s1.heap.objs.size + 3) s1.heap.objs.size (s1.heap.objs.size + 1) l1 l2 := by
        have lt : ∀ {x : Nat} (k : Nat), x < s1.heap.objs.size → x ≠ s1.heap.objs.size + k := fun k h => Nat.ne_of_lt (Nat.lt_of_lt_of_le h (Nat.le_add_right _ _))
        have nz : ∀ {j k : Nat}, j ≠ k → s1.heap.objs.size + j ≠ s1.heap.objs.size + k := fun h e => h (Nat.add_left_cancel e)
        exact ⟨nz (by decide), nz (by decide), nz (j := 0) (by decide), nz (by decide), nz (by decide), nz (k := 0) (by decide), nz (by decide), nz (k := 0) (by decide), nz (by decide), nz (j := 0) (by decide), lt 4 a1, lt 3 a1, lt 0 a1, lt 1 a1, lt 4 a2, lt 3 a2, lt 0 a2, lt 1 a2⟩
      refine ⟨_, _, _, _, H1, rfl, I2, turn_zpt _ _ _ _ _ l1 l2 D, ⟨g1, g2, ⟨_, _, g3⟩, g4, g5⟩, fun b hb => ?_, q⟩
      have hb' : b = s1.heap.objs.size + 4 ∨ b = s1.heap.objs.size + 2 ∨ b = s1.heap.objs.size + 3 ∨ b = s1.heap.objs.size ∨ b = s1.heap.objs.size + 1 := by simpa using hb
      have hle : s1.heap.objs.size ≤ b := by
        rcases hb' with rfl | rfl | rfl | rfl | rfl
        · exact Nat.le_add_right _ _
        · exact Nat.le_add_right _ _
        · exact Nat.le_add_right _ _
        · exact Nat.le_refl _
        · exact Nat.le_add_right _ _
      exact I1.fpOk hle (I1.hok.fresh hle)
end
section
variable {K : PySem.W.Frag} {tb : TS} {D : Ends} {σ : St} {H : Hp} {ta : TA} {g : TG}
theorem rd_forZT (h : ta σ H fun vs H1 => ∃ l1 l2 xs ys, vs = [.ref l1, .ref l2] ∧ SqT K H1 l1 xs ∧ SqL K H1 l2 ys ∧ ∃ W : Nat → Nat → St → Hp → Prop, (∃ m, W 0 m σ H1) ∧ ∀ i m σ H, W i m σ H →
      ((Izt K l1 l2).stop i H ∧ D.nx σ H) ∨ ((Izt K l1 l2).go i H ∧ ∃ N : St → Hp → Prop, (∀ σ' H', N σ' H' → ∃ m', m' < m ∧ W (i + 1) m' σ' H') ∧ ∀ x H', (Izt K l1 l2).yld i H x H' → g x σ H' fun σ2 H2 => tb { D with nx := N, ct := N, bk := D.nx } σ2 H2)) :
    tFor (iZipT K ta) g tb D σ H := h
theorem for_zipT {l1 l2 : Addr} {xs ys : List V} (hq1 : SqT K H l1 xs) (hq2 : SqL K H l2 ys) (hlen : xs.length = ys.length) (Pv : Nat → St → Hp → Prop) (h0 : Pv 0 σ H) (hl : ∀ i σ H, i ≤ xs.length → Pv i σ H → SqT K H l1 xs ∧ SqL K H l2 ys)
    (hs : ∀ i x y p σ H, xs[i]? = some x → ys[i]? = some y → Pv i σ H → H p = none → g (.ref p) σ (upd H p (.tup [x, y])) fun σ2 H2 => tb { D with nx := Pv (i + 1), ct := Pv (i + 1), bk := D.nx } σ2 H2) (hd : ∀ σ H, Pv xs.length σ H → D.nx σ H) :
    ∃ m1 m2 xs' ys', [V.ref l1, V.ref l2] = [.ref m1, .ref m2] ∧ SqT K H m1 xs' ∧ SqL K H m2 ys' ∧ ∃ W : Nat → Nat → St → Hp → Prop, (∃ m, W 0 m σ H) ∧ ∀ i n σ H, W i n σ H →
      ((Izt K m1 m2).stop i H ∧ D.nx σ H) ∨ ((Izt K m1 m2).go i H ∧ ∃ N : St → Hp → Prop, (∀ σ' H', N σ' H' → ∃ m', m' < n ∧ W (i + 1) m' σ' H') ∧ ∀ x H', (Izt K m1 m2).yld i H x H' → g x σ H' fun σ2 H2 => tb { D with nx := N, ct := N, bk := D.nx } σ2 H2) := by
  refine ⟨l1, l2, xs, ys, rfl, hq1, hq2, fun i m σ H => m = xs.length - i ∧ i ≤ xs.length ∧ Pv i σ H, ⟨xs.length, by simp, Nat.zero_le _, h0⟩, ?_⟩
  rintro i m σ H ⟨rfl, hi, p⟩
  obtain ⟨q1, q2⟩ := hl i σ H hi p
  by_cases hlt : i < xs.length
  · have hx : xs[i]? = some xs[i] := List.getElem?_eq_getElem hlt
    have hy : ys[i]? = some (ys[i]'(by omega)) := List.getElem?_eq_getElem (by omega)
    refine .inr ⟨⟨xs, ys, _, _, q1, q2, hx, hy⟩, Pv (i + 1), fun σ' H' p' => ⟨xs.length - (i + 1), by omega, rfl, hlt, p'⟩, fun v H' yv => ?_⟩
    obtain ⟨a, x', y', e1, ha, e3, g1, g2⟩ := yv
    subst e1 e3
    exact hs i x' y' a σ H (g1 xs q1) (g2 ys q2) p ha
  · have e : i = xs.length := by omega
    subst e
    exact .inl ⟨⟨xs, q1, by simp⟩, hd σ H p⟩
end
end L2
set_option Elab.async false
set_option linter.all false
set_option maxRecDepth 100000
set_option maxHeartbeats 4000000
namespace L2
open PySem PySem.Spec PyProof.Rows
section
variable {X : Cx}
def rInD (m : Nat) : R2 := fun x y H Q => ∃ a xs ds dx, y = .ref a ∧ H a = some (.lst xs) ∧ DatasAt H xs ds ∧ DataAt H x dx ∧ PyData.canLayAll0 ds = true ∧ dx.canLay0 = true ∧ 1 + min (PyData.depthAll ds) dx.depth ≤ m ∧ Q (.bl (ds.any fun d => PyData.eqv d dx)) H
theorem op_inD {m : Nat} (hu : X.A.units + m < cLine) : OpR X (compareOp .In) (rInD m) := by
  intro pins s σ H x y v u Q I rx ry h
  obtain ⟨a, xs, ds, dx, rfl, e, hds, hdx, c1, c2, hm, q⟩ := h
  obtain ⟨as, r1⟩ := hdx.reads I rx
  obtain ⟨bs, r2⟩ := (DataAt.lst e hds).reads I ry
  exact SeqAt.in_list_reads r2 r1 c1 c2 (by omega) ⟨.bl _, H, I, rfl, q⟩
theorem pc_knotin {o i : Expr} {td ty : TE} (P : Program) (K : PySem.W.Frag) (w : World) (hi : PE X i ty) (ho : PE X o td) (hP : X.prog = P := by rfl) (hK : X.K = K := by rfl) (hw : X.w = w := by rfl) : PC X .NotIn i o (tKIn P K w true ty td) := by
  subst hP hK hw
  intro pins s σ H Q I h
  refine thn (hi pins s σ H _ I h) fun iv s1 ⟨y, H1, I1, ry, q1⟩ => thn (ho pins s1 σ H1 _ I1 q1) fun u s2 ⟨x, H2, I2, rx, a, kvs, k, ex, g, ey, q2⟩ => ?_
  subst ex ey
  obtain rfl : u = Value.ref a := rx
  obtain ⟨vs, rel, dd⟩ := I2.kdict g
  refine wpAny_notIn_of (kV_is ry) g.1 dd.mapOf ?_
  rw [← (rel.val k).isSome_eq]
  exact ⟨.bl _, H2, I2.tok _, rfl, q2⟩
end
theorem rd_inD {m : Nat} {x : V} {H : Hp} {Q : VK} {a : Addr} {xs : List V} {ds : List PyData} {dx : PyData} (e : H a = some (.lst xs)) (hds : DatasAt H xs ds) (hdx : DataAt H x dx) (c1 : PyData.canLayAll0 ds = true) (c2 : dx.canLay0 = true) (hm : 1 + min (PyData.depthAll ds) dx.depth ≤ m)
    (q : Q (.bl (ds.any fun d => PyData.eqv d dx)) H) : rInD m x (.ref a) H Q := ⟨a, xs, ds, dx, rfl, e, hds, hdx, c1, c2, hm, q⟩
theorem rd_kin {P : Program} {K : PySem.W.Frag} {w : World} {neg : Bool} {td ty : TE} {σ : St} {H : Hp} {Q : VK} (h : ty σ H fun y H1 => td σ H1 fun x H2 => ∃ a kvs k, x = .ref a ∧ KDict P K w a kvs ∧ y = kV k ∧ Q (.bl (if neg then !(valV kvs k).isSome else (valV kvs k).isSome)) H2) : tKIn P K w neg ty td σ H Q := h
theorem eqvAll_one (x y : PyData) (xs ys : List PyData) : PyData.eqvAll (x :: xs) (y :: ys) = (PyData.eqv x y && PyData.eqvAll xs ys) := by rw [PyData.eqvAll]
theorem eqvAll_nil : PyData.eqvAll [] [] = true := by rw [PyData.eqvAll]
theorem eqvAll_nl (x : PyData) (xs : List PyData) : PyData.eqvAll (x :: xs) [] = false := by rw [PyData.eqvAll]
theorem eqvAll_nr (x : PyData) (xs : List PyData) : PyData.eqvAll [] (x :: xs) = false := by rw [PyData.eqvAll]
theorem eqv_tup (xs ys : List PyData) : PyData.eqv (.tuple xs) (.tuple ys) = PyData.eqvAll xs ys := by rw [PyData.eqv]
theorem eqv_lst (xs ys : List PyData) : PyData.eqv (.list xs) (.list ys) = PyData.eqvAll xs ys := by rw [PyData.eqv]
theorem eqv_str (x y : Str) : PyData.eqv (.str x) (.str y) = (x == y) := by rw [PyData.eqv]
theorem eqv_int (x y : Int) : PyData.eqv (.int x) (.int y) = (x == y) := by rw [PyData.eqv]
def Say.rest : Say → List PyData
  | .lamp k => [.int k]
  | .dark k => [.int k]
  | .neg s => [s.data]
  | .conj s t => [s.data, t.data]
  | .disj s t => [s.data, t.data]
  | .ev s => [s.data]
  | .so s => [s.data]
theorem Say.data_eq (s : Say) : s.data = .tuple (.str s.tag :: s.rest) := by cases s <;> rfl
theorem eqv_sayB : ∀ s t : Say, PyData.eqv s.data t.data = decide (s = t) := by
  intro s
  induction s with
  | lamp k =>
    intro t
    rw [Say.data_eq, Say.data_eq, eqv_tup, eqvAll_one, eqv_str]
    cases t with
    | lamp j =>
      rw [show ((Say.lamp k).tag == (Say.lamp j).tag) = true from by dsimp only [Say.tag]; decide +kernel, Bool.true_and, Say.rest, Say.rest, eqvAll_one, eqvAll_nil, Bool.and_true, eqv_int, Bool.eq_iff_iff]
      simp
    | _ => rw [show ((Say.lamp k).tag == _) = false from by dsimp only [Say.tag]; decide +kernel, Bool.false_and]; simp
  | dark k =>
    intro t
    rw [Say.data_eq, Say.data_eq, eqv_tup, eqvAll_one, eqv_str]
    cases t with
    | dark j =>
      rw [show ((Say.dark k).tag == (Say.dark j).tag) = true from by dsimp only [Say.tag]; decide +kernel, Bool.true_and, Say.rest, Say.rest, eqvAll_one, eqvAll_nil, Bool.and_true, eqv_int, Bool.eq_iff_iff]
      simp
    | _ => rw [show ((Say.dark k).tag == _) = false from by dsimp only [Say.tag]; decide +kernel, Bool.false_and]; simp
  | neg s i =>
    intro t
    rw [Say.data_eq, Say.data_eq, eqv_tup, eqvAll_one, eqv_str]
    cases t with
    | neg u =>
      rw [show ((Say.neg s).tag == (Say.neg u).tag) = true from by dsimp only [Say.tag]; decide +kernel, Bool.true_and, Say.rest, Say.rest, eqvAll_one, eqvAll_nil, Bool.and_true, i]
      simp
    | _ => rw [show ((Say.neg s).tag == _) = false from by dsimp only [Say.tag]; decide +kernel, Bool.false_and]; simp
  | conj s s' i j =>
    intro t
    rw [Say.data_eq, Say.data_eq, eqv_tup, eqvAll_one, eqv_str]
    cases t with
    | conj u u' =>
      rw [show ((Say.conj s s').tag == (Say.conj u u').tag) = true from by dsimp only [Say.tag]; decide +kernel, Bool.true_and, Say.rest, Say.rest, eqvAll_one, eqvAll_one, eqvAll_nil, Bool.and_true, i, j]
      simp
    | _ => rw [show ((Say.conj s s').tag == _) = false from by dsimp only [Say.tag]; decide +kernel, Bool.false_and]; simp
  | disj s s' i j =>
    intro t
    rw [Say.data_eq, Say.data_eq, eqv_tup, eqvAll_one, eqv_str]
    cases t with
    | disj u u' =>
      rw [show ((Say.disj s s').tag == (Say.disj u u').tag) = true from by dsimp only [Say.tag]; decide +kernel, Bool.true_and, Say.rest, Say.rest, eqvAll_one, eqvAll_one, eqvAll_nil, Bool.and_true, i, j]
      simp
    | _ => rw [show ((Say.disj s s').tag == _) = false from by dsimp only [Say.tag]; decide +kernel, Bool.false_and]; simp
  | ev s i =>
    intro t
    rw [Say.data_eq, Say.data_eq, eqv_tup, eqvAll_one, eqv_str]
    cases t with
    | ev u =>
      rw [show ((Say.ev s).tag == (Say.ev u).tag) = true from by dsimp only [Say.tag]; decide +kernel, Bool.true_and, Say.rest, Say.rest, eqvAll_one, eqvAll_nil, Bool.and_true, i]
      simp
    | _ => rw [show ((Say.ev s).tag == _) = false from by dsimp only [Say.tag]; decide +kernel, Bool.false_and]; simp
  | so s i =>
    intro t
    rw [Say.data_eq, Say.data_eq, eqv_tup, eqvAll_one, eqv_str]
    cases t with
    | so u =>
      rw [show ((Say.so s).tag == (Say.so u).tag) = true from by dsimp only [Say.tag]; decide +kernel, Bool.true_and, Say.rest, Say.rest, eqvAll_one, eqvAll_nil, Bool.and_true, i]
      simp
    | _ => rw [show ((Say.so s).tag == _) = false from by dsimp only [Say.tag]; decide +kernel, Bool.false_and]; simp
theorem eqv_rows : ∀ r s : List Say, PyData.eqvAll (r.map Say.data) (s.map Say.data) = decide (r = s)
  | [], [] => by rw [List.map_nil, eqvAll_nil]; rfl
  | [], _ :: _ => by rw [List.map_nil, List.map_cons, eqvAll_nr]; rfl
  | _ :: _, [] => by rw [List.map_nil, List.map_cons, eqvAll_nl]; rfl
  | a :: r, b :: s => by rw [List.map_cons, List.map_cons, eqvAll_one, eqv_sayB, eqv_rows r s]; simp
theorem lay_says : ∀ r : List Say, PyData.canLayAll0 (r.map Say.data) = true
  | [] => rfl
  | a :: r => by rw [List.map_cons, PyData.canLayAll0, Say.data_lay, lay_says r]; rfl
theorem depth_says {b : Nat} : ∀ r : List Say, (∀ s ∈ r, s.dep ≤ b) → PyData.depthAll (r.map Say.data) ≤ b + 1
  | [], _ => by rw [List.map_nil, PyData.depthAll]; omega
  | a :: r, h => by
    have h1 := h a (List.mem_cons_self ..)
    have h2 := depth_says r fun s m => h s (List.mem_cons_of_mem _ m)
    have h3 := Say.data_depth a
    rw [List.map_cons, PyData.depthAll]
    omega
inductive Rsn where
  | pair
  | ofk (k : Str) (spot : Int) (told : List Int)
structure Line where
  row : List Say
  rsn : Rsn
def Rsn.ok : Rsn → Prop
  | .pair => True
  | .ofk k _ told => (k = "or" ∧ told.length = 1) ∨ (k = "and" ∧ told.length = 2) ∨ (k = "every" ∧ told.length = 1)
def Rsn.vals : Rsn → List V
  | .pair => [.str "pair"]
  | .ofk k spot told => .str k :: .int spot :: told.map V.int
def Rsn.data : Rsn → List PyData
  | .pair => [.str "pair"]
  | .ofk k spot told => .str k :: .int spot :: told.map PyData.int
def LineAt (H : Hp) (v : V) (l : Line) : Prop := ∃ t ra rr vs, v = .ref t ∧ H t = some (.tup [.ref ra, .ref rr]) ∧ H ra = some (.lst vs) ∧ Stms H vs l.row ∧ H rr = some (.tup l.rsn.vals)
theorem LineAt.mono {H H' : Hp} {v : V} {l : Line} (h : LineAt H v l) (S : Same H H') : LineAt H' v l := by
  obtain ⟨t, ra, rr, vs, e, h1, h2, h3, h4⟩ := h
  exact ⟨t, ra, rr, vs, e, S _ _ h1, S _ _ h2, h3.mono S.tupK, S _ _ h4⟩
def LinesAt (H : Hp) (a : Addr) (Ls : List Line) : Prop := ∃ vs, H a = some (.lst vs) ∧ Paired (LineAt H) vs Ls
theorem LinesAt.mono {H H' : Hp} {a : Addr} {Ls : List Line} (h : LinesAt H a Ls) (S : Same H H') : LinesAt H' a Ls := by
  obtain ⟨vs, e, p⟩ := h
  exact ⟨vs, S _ _ e, Paired.mapP p fun _ _ z => z.mono S⟩
def tagAt (row : List Say) (n : Nat) : Str := (row[n]?.map Say.tag).getD ""
def rowOf (Ls : List Line) (t : Int) : List Say := (Ls[t.toNat]?.map Line.row).getD []
def toldB (Ls : List Line) (i : Nat) (t : Int) (r : List Say) : Bool := decide (0 ≤ t) && (decide (t < (i : Int)) && decide (rowOf Ls t = r))
def fitsB (row : List Say) (k : Str) (spot : Int) : Bool := decide (0 ≤ spot) && (decide (spot < (row.length : Int)) && decide (tagAt row spot.toNat = k))
def rightB (Ls : List Line) (i : Nat) (l : Line) : Bool := match l.rsn with
  | .pair => pairB l.row
  | .ofk k spot told => fitsB l.row k spot && (told.zip (aboveS l.row spot.toNat)).all fun e => toldB Ls i e.1 e.2
def allR (Ls : List Line) : Bool := (List.range Ls.length).all fun i => (Ls[i]?.map (rightB Ls i)).getD true
def showsB (Ls : List Line) (row : List Say) : Bool := allR Ls && match Ls.getLast? with
  | some l => decide (l.row = row)
  | none => false
def Sized (Ls : List Line) : Prop := Ls.length ≤ 100 ∧ ∀ l ∈ Ls, l.rsn.ok ∧ l.row.length ≤ 100 ∧ ∀ s ∈ l.row, s.dep ≤ 300
theorem brk_tag {s : Say} {k : Str} (e : s.tag = k) (h : k = "or" ∨ k = "and" ∨ k = "every") : s.brk = true := by
  subst e
  cases s <;> first | rfl | (exfalso; rcases h with h | h | h <;> exact absurd h (by dsimp only [Say.tag]; decide +kernel))
theorem above_told {row : List Say} {n : Nat} {s : Say} {k : Str} {spot : Int} {told : List Int} (hs : row[n]? = some s) (ht : s.tag = k) (ok : (Rsn.ofk k spot told).ok) : told.length = (aboveS row n).length := by
  have hk : k = "or" ∨ k = "and" ∨ k = "every" := by
    rcases ok with ⟨h, _⟩ | ⟨h, _⟩ | ⟨h, _⟩
    · exact .inl h
    · exact .inr (.inl h)
    · exact .inr (.inr h)
  have n1 : ¬ ("or" : Str) = "and" := by decide +kernel
  have n2 : ¬ ("or" : Str) = "every" := by decide +kernel
  have n3 : ¬ ("and" : Str) = "every" := by decide +kernel
  have hb := brk_tag ht hk
  unfold aboveS
  rw [hs]
  cases s with
  | ev t =>
    have e : k = "every" := ht.symm
    rcases ok with ⟨h, h2⟩ | ⟨h, h2⟩ | ⟨h, h2⟩
    · exact absurd (h.symm.trans e) n2
    · exact absurd (h.symm.trans e) n3
    · exact h2
  | disj x y =>
    have e : k = "or" := ht.symm
    rcases ok with ⟨h, h2⟩ | ⟨h, h2⟩ | ⟨h, h2⟩
    · exact h2
    · exact absurd (e.symm.trans h) n1
    · exact absurd (e.symm.trans h) n2
  | conj x y =>
    have e : k = "and" := ht.symm
    rcases ok with ⟨h, h2⟩ | ⟨h, h2⟩ | ⟨h, h2⟩
    · exact absurd (h.symm.trans e) n1
    · exact h2
    · exact absurd (e.symm.trans h) n3
  | _ => cases hb
def told3 : List (Key × V) := [(.inr "or", .int 1), (.inr "and", .int 2), (.inr "every", .int 1)]
theorem told_val {k : Str} {spot : Int} {told : List Int} (ok : (Rsn.ofk k spot told).ok) : valV told3 (.inr k) = some (.int told.length) := by
  rcases ok with ⟨rfl, h⟩ | ⟨rfl, h⟩ | ⟨rfl, h⟩ <;> rw [h] <;> kernel_rfl
theorem ok_not_pair {k : Str} {spot : Int} {told : List Int} (ok : (Rsn.ofk k spot told).ok) : ¬ k = "pair" := by
  rcases ok with ⟨rfl, h⟩ | ⟨rfl, h⟩ | ⟨rfl, h⟩ <;> decide +kernel
def spFits (K : PySem.W.Frag) : Sp := fun vs H Q _ => ∃ (r q : Addr) (rs : List V) (row : List Say) (k : Str) (spot : Int) (told : List Int), vs = [.ref r, .ref q] ∧ H r = some (.lst rs) ∧ Stms H rs row ∧ row.length ≤ 100 ∧ H q = some (.tup (Rsn.ofk k spot told).vals) ∧ (Rsn.ofk k spot told).ok ∧ Q (.bl (fitsB row k spot)) H
def spRight : Sp := fun vs H Q _ => ∃ (a : Addr) (i : Nat) (Ls : List Line) (l : Line), vs = [.ref a, .int i] ∧ LinesAt H a Ls ∧ Sized Ls ∧ Ls[i]? = some l ∧ ∀ H', Same H H' → Q (.bl (rightB Ls i l)) H'
def spShows : Sp := fun vs H Q _ => ∃ (a r : Addr) (Ls : List Line) (rs : List V) (row : List Say), vs = [.ref a, .ref r] ∧ LinesAt H a Ls ∧ Sized Ls ∧ H r = some (.lst rs) ∧ Stms H rs row ∧ row.length ≤ 200 ∧ (∀ s ∈ row, s.dep ≤ 300) ∧ ∀ H', Same H H' → Q (.bl (showsB Ls row)) H'
theorem lamps_succ {ss : List Say} {i : Nat} {s : Say} (h : ss[i]? = some s) : lampsOf (ss.take (i + 1)) = lampsOf (ss.take i) ++ s.lampOf.toList := by
  rw [List.take_add_one, h, lampsOf, List.filterMap_append]
  cases s <;> rfl
theorem darks_succ {ss : List Say} {i : Nat} {s : Say} (h : ss[i]? = some s) : darksOf (ss.take (i + 1)) = darksOf (ss.take i) ++ s.darkOf.toList := by
  rw [List.take_add_one, h, darksOf, List.filterMap_append]
  cases s <;> rfl
theorem dark_in {ss : List Say} {i : Nat} {k : Int} (h : ss[i]? = some (.dark k)) : k ∈ darksOf ss :=
  List.mem_filterMap.mpr ⟨.dark k, List.mem_of_getElem? h, rfl⟩
def spPair (K : PySem.W.Frag) : Sp := fun vs H Q _ => ∃ (a : Addr) (rs : List V) (ss : List Say), vs = [.ref a] ∧ SqL K H a rs ∧ Stms H rs ss ∧ rs.length ≤ 1000 ∧ ∀ H', Same H H' → Q (.bl (pairB ss)) H'
theorem atI_one (x y : V) (xs : List V) : atI (x :: y :: xs) 1 = some y := atI_nat (j := 1) rfl
section
variable {K : PySem.W.Frag} {σ : St} {H : Hp} {Q : VK} {ta tb tc : TE} {r r' : R2} {rr : V → Hp → VK → Prop} {i : Int}
theorem rd_un (h : ta σ H fun x H1 => rr x H1 Q) : tUn rr ta σ H Q := h
theorem rd_U {g : Int → V} (h : Q (g i) H) : rU g (.int i) H Q := ⟨i, rfl, h⟩
theorem rd_chain (h : ta σ H fun x H1 => tb σ H1 fun y H2 => r x y H2 fun z H3 => ∃ k, z = .bl k ∧ (if k = true then tc σ H3 fun w' H4 => r' y w' H4 Q else Q (.bl false) H3)) : tChain r r' ta tb tc σ H Q := h
theorem rd_rep {l : Addr} {k : Int} {xs : List V} (h : H l = some (.lst xs)) (h1 : 0 ≤ k) (h2 : k < 1000) (hz : xs.length ≤ 1000) (q : ∀ p, H p = none → Q (.ref p) (upd H p (.lst (List.replicate k.toNat xs).flatten))) : rRep (.ref l) (.int k) H Q := by
  refine ⟨l, k, xs, rfl, rfl, h, by omega, by omega, ?_, q⟩
  have h3 : k.toNat ≤ 1000 := by omega
  have := Nat.mul_le_mul hz h3
  exact Nat.le_trans this (by decide)
theorem rd_slTd {a : Addr} {xs : List V} {k : Nat} (h : SqT K H a xs) (hk : 0 < k) (hl : 0 < xs.length) (q : ∀ p, H p = none → Q (.ref p) (upd H p (.tup (xs.drop k)))) : rSlT K (.ref a) (some (k : Int)) none H Q := by
  refine ⟨a, xs, rfl, h, fun z => ?_, fun p hp => by rw [cut_drop]; exact q p hp⟩
  have := z.1
  rw [HT.sIx_nat] at this
  omega
theorem rd_slTt {a : Addr} {xs : List V} {k : Nat} (h : SqT K H a xs) (hk : k < xs.length) (q : ∀ p, H p = none → Q (.ref p) (upd H p (.tup (xs.take k)))) : rSlT K (.ref a) none (some (k : Int)) H Q := by
  refine ⟨a, xs, rfl, h, fun z => ?_, fun p hp => by rw [cut_take]; exact q p hp⟩
  have := z.2
  rw [HT.sIx_nat] at this
  omega
theorem sIx_m1 (n d : Nat) : HT.sIx n d (some (-1)) = n - 1 := by
  show (if (-1 : Int) < 0 then ((-1 : Int) + (n : Int)).toNat else min (-1 : Int).toNat n) = n - 1
  rw [if_pos (by decide)]
  omega
theorem cut_init (xs : List V) : cutV xs none (some (-1)) = xs.dropLast := by
  unfold cutV
  rw [sIx_m1, HT.sIx_none, Nat.sub_zero, List.drop_zero, List.dropLast_eq_take]
theorem rd_slTi {a : Addr} {xs : List V} (h : SqT K H a xs) (hl : 0 < xs.length) (q : ∀ p, H p = none → Q (.ref p) (upd H p (.tup xs.dropLast))) : rSlT K (.ref a) none (some (-1)) H Q := by
  refine ⟨a, xs, rfl, h, fun z => ?_, fun p hp => by rw [cut_init]; exact q p hp⟩
  have := z.2
  rw [sIx_m1] at this
  omega
theorem rd_catT {a b : Addr} {xs ys : List V} (h1 : SqT K H a xs) (h2 : SqT K H b ys) (hx : xs ≠ []) (hz : xs.length + ys.length ≤ 1000) (q0 : ys = [] → Q (.ref a) H) (q : ys ≠ [] → ∀ p, H p = none → Q (.ref p) (upd H p (.tup (xs ++ ys)))) : rCatT K (.ref a) (.ref b) H Q :=
  ⟨a, b, xs, ys, rfl, rfl, h1, h2, hx, small (by omega), q0, q⟩
end
theorem rsn_datas (H : Hp) (r : Rsn) : DatasAt H r.vals r.data := by
  cases r with
  | pair => exact .cons (.str _) .nil
  | ofk k spot told =>
    refine .cons (.str _) (.cons (.int _) ?_)
    induction told with
    | nil => exact .nil
    | cons a r ih => exact .cons (.int _) ih
theorem lay_ints : ∀ ns : List Int, PyData.canLayAll0 (ns.map PyData.int) = true
  | [] => rfl
  | a :: r => by rw [List.map_cons, PyData.canLayAll0, lay_ints r]; rfl
theorem rsn_lay {r : Rsn} (ok : r.ok) : PyData.canLayAll0 r.data = true := by
  cases r with
  | pair => decide +kernel
  | ofk k spot told =>
    have hk : PyData.canLay0 (.str k) = true := by
      rcases ok with ⟨rfl, _⟩ | ⟨rfl, _⟩ | ⟨rfl, _⟩ <;> decide +kernel
    show PyData.canLayAll0 (.str k :: .int spot :: told.map PyData.int) = true
    rw [PyData.canLayAll0, PyData.canLayAll0, lay_ints, hk]
    rfl
theorem fits_of {row : List Say} {k : Str} {spot : Int} (h : fitsB row k spot = true) : ∃ (n : Nat) (s : Say), spot = (n : Int) ∧ row[n]? = some s ∧ s.tag = k := by
  unfold fitsB at h
  simp only [Bool.and_eq_true, decide_eq_true_eq] at h
  obtain ⟨h1, h2, h3⟩ := h
  have hn : spot.toNat < row.length := by omega
  refine ⟨spot.toNat, row[spot.toNat], by omega, List.getElem?_eq_getElem hn, ?_⟩
  unfold tagAt at h3
  rw [List.getElem?_eq_getElem hn] at h3
  exact h3
theorem row_data {H : Hp} {a : Addr} {vs : List V} {row : List Say} (e : H a = some (.lst vs)) (h : Stms H vs row) : DataAt H (.ref a) (.list (row.map Say.data)) := .lst e h.datas
theorem zip_get2 {α β : Type} {xs : List α} {ys : List β} {i : Nat} {x : α} {y : β} (h1 : xs[i]? = some x) (h2 : ys[i]? = some y) : (xs.zip ys)[i]? = some (x, y) := by
  rw [List.getElem?_zip_eq_some]
  exact ⟨h1, h2⟩
theorem all_take_succ {α : Type} {p : α → Bool} {xs : List α} {i : Nat} {x : α} (h : xs[i]? = some x) : (xs.take (i + 1)).all p = ((xs.take i).all p && p x) := by
  rw [take_succ_get h, List.all_append]
  simp
theorem all_false {α : Type} {p : α → Bool} {xs : List α} {i : Nat} {x : α} (h : xs[i]? = some x) (hp : p x = false) : xs.all p = false := by
  rw [List.all_eq_false]
  exact ⟨x, List.mem_of_getElem? h, by rw [hp]; exact Bool.false_ne_true⟩
end L2
set_option Elab.async false
set_option linter.all false
set_option maxRecDepth 100000
set_option maxHeartbeats 4000000
namespace L2
open PySem PySem.Spec PyProof.Rows
def intEs : List Expr → Option (List Int)
  | [] => some []
  | .Constant (.int i) _ _ :: es => (intEs es).map fun ns => i :: ns
  | _ => none
def tInts (ns : List Int) : TA := fun _ H Q => Q (ns.map V.int) H
theorem pa_ints {X : Cx} : ∀ {es : List Expr} {ns : List Int}, intEs es = some ns → PA X es (tInts ns)
  | [], ns, h => by cases h; exact pa_nil
  | .Constant (.int i) j p :: es, ns, h => by
    obtain ⟨ms, hm, rfl⟩ := Option.map_eq_some_iff.mp (show (intEs es).map (fun ns => i :: ns) = some ns from h)
    exact pa_cons pe_int (pa_ints hm)
theorem rd_ints {ns : List Int} {σ : St} {H : Hp} {Q : List V → Hp → Prop} (h : Q (ns.map V.int) H) : tInts ns σ H Q := h
theorem if_joinD {c : Prop} {_ : Decidable c} {P R : St → Hp → Prop} {A B : Prop} (hA : c → (∀ σ H, P σ H → R σ H) → A) (hB : (∀ σ H, P σ H → R σ H) → B) (hR : ∀ σ H, P σ H → R σ H) : if decide c = true then A else B :=
  if_dec (fun z => hA z hR) fun _ => hB hR
theorem if_joinA {c : Prop} {_ : Decidable c} {P R : St → Hp → Prop} {A B C : Prop} (hA : c → (∀ σ H, P σ H → R σ H) → A) (hB : (∀ σ H, P σ H → R σ H) → B) (hR : ∀ σ H, P σ H → R σ H) : if decide c = true then A else (if false = true then C else B) :=
  if_dec (fun z => hA z hR) fun _ => iteF (hB hR)
theorem if_orB {c : Bool} {A B P : Prop} (hA : A) (h2 : A → c = false → P) : if c = true then (if true = true then A else B) else P := by
  cases c with
  | true => exact iteT (iteT hA)
  | false => exact iteF (h2 hA rfl)
section
variable {α : Type} {p q : List α} {x : α} {k : Nat}
theorem mid_get (h : p.length = k) : (p ++ [x] ++ q)[k]? = some x := by
  rw [List.append_assoc, List.getElem?_append_right (by omega), h, Nat.sub_self]
  rfl
theorem mid_take (h : p.length = k) : (p ++ [x] ++ q).take k = p := by
  rw [List.append_assoc, ← h, List.take_left]
theorem mid_drop (h : p.length = k) : (p ++ [x] ++ q).drop (k + 1) = q := by
  rw [← h, List.drop_left' (by simp)]
end
theorem take_len {α : Type} {xs : List α} {k : Nat} {x : α} (h : xs[k]? = some x) : (xs.take k).length = k := by
  have := (List.getElem?_eq_some_iff.mp h).1
  rw [List.length_take]
  omega
theorem split2 {α : Type} {xs : List α} {k : Nat} {x y : α} (h1 : xs[k]? = some x) (h2 : xs[k + 1]? = some y) : xs.take k ++ [x, y] ++ xs.drop (k + 2) = xs := by
  have e1 := drop_get h1
  have e2 := drop_get h2
  rw [List.append_assoc]
  show xs.take k ++ (x :: y :: xs.drop (k + 1 + 1)) = xs
  rw [← e2, ← e1, List.take_append_drop]
theorem split1 {α : Type} {xs : List α} {k : Nat} {x : α} (h1 : xs[k]? = some x) : xs.take k ++ [x] ++ xs.drop (k + 1) = xs := by
  rw [List.append_assoc]
  show xs.take k ++ (x :: xs.drop (k + 1)) = xs
  rw [← drop_get h1, List.take_append_drop]
inductive StepOf (row : List Say) (n : Int) : Line → Prop where
  | disj {k : Nat} {s t : Say} (h1 : row[k]? = some s) (h2 : row[k + 1]? = some t) : StepOf row n ⟨row.take k ++ [.disj s t] ++ row.drop (k + 2), .ofk "or" k [n]⟩
  | conj {k : Nat} {s : Say} (h1 : row[k]? = some s) (hl : Say.leaf s = true) : StepOf row n ⟨row.take k ++ [.conj s s] ++ row.drop (k + 1), .ofk "and" k [n, n]⟩
  | ev {s : Say} {b : List Say} {m : Nat} (e : row = s :: b) (hm : m ≤ 1) : StepOf row n ⟨List.replicate m (.dark 2) ++ [.ev s] ++ b.map .so, .ofk "every" m [n]⟩
structure Lok (m : Nat) (l : Line) : Prop where
  ne : l.row ≠ []
  len : l.row.length ≤ 3 + m
  dep : ∀ s ∈ l.row, s.dep ≤ 1 + m
  sz : szs l.row ≤ 11 + 70 * m
  ok : l.rsn.ok
  pr : l.rsn = .pair → ∃ k x, l.row = [.lamp k, x, .dark k] ∧ x.dep ≤ 1 ∧ x.sz ≤ 5
theorem Lok.mono {m n : Nat} {l : Line} (h : Lok m l) (e : m ≤ n) : Lok n l :=
  ⟨h.ne, by have := h.len; omega, fun s z => by have := h.dep s z; omega, by have := h.sz; omega, h.ok, h.pr⟩
theorem szs_so (b : List Say) : szs (b.map .so) = szs b + 2 * b.length := by
  induction b with
  | nil => rfl
  | cons a r ih => simp only [szs, List.map_cons, List.sum_cons, List.length_cons, Say.sz] at ih ⊢; omega
theorem szs_rep (m : Nat) (s : Say) : szs (List.replicate m s) = m * s.sz := by
  simp [szs, List.map_replicate]
theorem szs1 (s : Say) : szs [s] = s.sz := by simp [szs]
theorem szs_cons (s : Say) (r : List Say) : szs (s :: r) = s.sz + szs r := by simp [szs]
theorem Lok.step {m : Nat} {row : List Say} {r : Rsn} {n : Int} {l : Line} (h : Lok m ⟨row, r⟩) (hm : m ≤ 30) (s : StepOf row n l) : Lok (m + 1) l := by
  have hlen : row.length ≤ 3 + m := h.len
  have hdep : ∀ s ∈ row, s.dep ≤ 1 + m := h.dep
  have hsz : szs row ≤ 11 + 70 * m := h.sz
  cases s with
  | @disj k s t h1 h2 =>
    have e := split2 h1 h2
    have e1 : szs row = szs (row.take k) + (s.sz + t.sz) + szs (row.drop (k + 2)) := by
      conv => lhs; rw [← e]
      rw [szs_app, szs_app, szs_cons, szs1]
    have hk := (List.getElem?_eq_some_iff.mp h2).1
    refine ⟨by simp, ?_, fun z hz => ?_, ?_, .inl ⟨rfl, rfl⟩, fun z => nomatch z⟩
    · simp only [List.length_append, List.length_take, List.length_drop, List.length_cons, List.length_nil]; omega
    · rcases List.mem_append.mp hz with hz | hz
      · rcases List.mem_append.mp hz with hz | hz
        · have := hdep z (List.mem_of_mem_take hz); omega
        · rw [List.mem_singleton.mp hz]
          have := hdep s (List.mem_of_getElem? h1)
          have := hdep t (List.mem_of_getElem? h2)
          simp only [Say.dep]; omega
      · have := hdep z (List.mem_of_mem_drop hz); omega
    · rw [szs_app, szs_app, szs1]; simp only [Say.sz]; omega
  | @conj k s h1 hl =>
    have e := split1 h1
    have e1 : szs row = szs (row.take k) + s.sz + szs (row.drop (k + 1)) := by
      conv => lhs; rw [← e]
      rw [szs_app, szs_app, szs1]
    have hk := (List.getElem?_eq_some_iff.mp h1).1
    have h3 : s.sz = 3 ∧ s.dep = 0 := by cases s <;> first | exact ⟨rfl, rfl⟩ | cases hl
    refine ⟨by simp, ?_, fun z hz => ?_, ?_, .inr (.inl ⟨rfl, rfl⟩), fun z => nomatch z⟩
    · simp only [List.length_append, List.length_take, List.length_drop, List.length_cons, List.length_nil]; omega
    · rcases List.mem_append.mp hz with hz | hz
      · rcases List.mem_append.mp hz with hz | hz
        · have := hdep z (List.mem_of_mem_take hz); omega
        · rw [List.mem_singleton.mp hz]
          simp only [Say.dep]; omega
      · have := hdep z (List.mem_of_mem_drop hz); omega
    · rw [szs_app, szs_app, szs1]; simp only [Say.sz]; omega
  | @ev s b j e hj =>
    subst e
    rw [szs_cons] at hsz
    rw [List.length_cons] at hlen
    refine ⟨by simp, ?_, fun z hz => ?_, ?_, .inr (.inr ⟨rfl, rfl⟩), fun z => nomatch z⟩
    · simp only [List.length_append, List.length_replicate, List.length_map, List.length_cons, List.length_nil]; omega
    · rcases List.mem_append.mp hz with hz | hz
      · rcases List.mem_append.mp hz with hz | hz
        · rw [List.eq_of_mem_replicate hz]; simp only [Say.dep]; omega
        · rw [List.mem_singleton.mp hz]
          have := hdep s (List.mem_cons_self ..)
          simp only [Say.dep]; omega
      · obtain ⟨u, hu, rfl⟩ := List.mem_map.mp hz
        have := hdep u (List.mem_cons_of_mem _ hu)
        simp only [Say.dep]; omega
    · rw [szs_app, szs_app, szs1, szs_rep, szs_so]
      simp only [Say.sz]
      have : j * 3 ≤ 3 := by omega
      omega
theorem rowOf_app {Ls T : List Line} {t : Int} (h : t.toNat < Ls.length) : rowOf (Ls ++ T) t = rowOf Ls t := by
  unfold rowOf
  rw [List.getElem?_append_left h]
theorem toldB_app {Ls T : List Line} {i : Nat} (h : i ≤ Ls.length) (t : Int) (r : List Say) : toldB (Ls ++ T) i t r = toldB Ls i t r := by
  unfold toldB
  by_cases h0 : 0 ≤ t
  · by_cases h1 : t < (i : Int)
    · rw [rowOf_app (by omega)]
    · rw [decide_eq_false h1, Bool.false_and, Bool.false_and]
  · rw [decide_eq_false h0, Bool.false_and, Bool.false_and]
theorem rightB_app {Ls T : List Line} {i : Nat} (h : i ≤ Ls.length) (l : Line) : rightB (Ls ++ T) i l = rightB Ls i l := by
  unfold rightB
  cases l.rsn with
  | pair => rfl
  | ofk k spot told => simp only [toldB_app h]
theorem allR_snoc (Ls : List Line) (l : Line) : allR (Ls ++ [l]) = (allR Ls && rightB Ls Ls.length l) := by
  unfold allR
  rw [List.length_append, List.length_singleton, List.range_succ, List.all_append]
  congr 1
  · rw [Bool.eq_iff_iff, List.all_eq_true, List.all_eq_true]
    have e : ∀ i ∈ List.range Ls.length, ((Ls ++ [l])[i]?.map (rightB (Ls ++ [l]) i)).getD true = (Ls[i]?.map (rightB Ls i)).getD true := fun i hi => by
      have hl := List.mem_range.mp hi
      rw [List.getElem?_append_left hl, List.getElem?_eq_getElem hl]
      show rightB (Ls ++ [l]) i Ls[i] = rightB Ls i Ls[i]
      exact rightB_app (by omega) _
    exact ⟨fun z i hi => by rw [← e i hi]; exact z i hi, fun z i hi => by rw [e i hi]; exact z i hi⟩
  · simp only [List.all_cons, List.all_nil, Bool.and_true, List.getElem?_concat_length]
    exact rightB_app (Nat.le_refl _) l
theorem told_ok {Ls : List Line} {n : Nat} {l0 : Line} (h : Ls[n]? = some l0) : toldB Ls Ls.length (n : Int) l0.row = true := by
  have hl := (List.getElem?_eq_some_iff.mp h).1
  unfold toldB rowOf
  rw [decide_eq_true (by omega), decide_eq_true (by omega), Int.toNat_natCast, h]
  simp
theorem fits_ok {p q : List Say} {s : Say} {k : Nat} (h : p.length = k) : fitsB (p ++ [s] ++ q) s.tag (k : Int) = true := by
  unfold fitsB tagAt
  rw [Int.toNat_natCast, mid_get h, decide_eq_true (by omega), decide_eq_true (by simp; omega)]
  simp
theorem sos_map (b : List Say) : sos (b.map .so) = b := by
  induction b with
  | nil => rfl
  | cons a r ih => simp only [List.map_cons, sos, List.filterMap_cons, Say.inSo] at ih ⊢; rw [ih]
theorem sos_rep (m : Nat) (k : Int) : sos (List.replicate m (.dark k)) = [] := by
  induction m with
  | zero => rfl
  | succ m ih => rw [List.replicate_succ]; simp only [sos, List.filterMap_cons, Say.inSo] at ih ⊢; exact ih
theorem StepOf.right {Ls : List Line} {n : Nat} {l0 l : Line} (h : Ls[n]? = some l0) (s : StepOf l0.row n l) : rightB Ls Ls.length l = true := by
  cases s with
  | @disj k s t h1 h2 =>
    have hk := take_len h1
    have eA : aboveS (l0.row.take k ++ [.disj s t] ++ l0.row.drop (k + 2)) k = [l0.row] := by
      unfold aboveS
      rw [mid_get hk]
      show [_ ++ [s, t] ++ _] = _
      rw [mid_take hk, mid_drop hk, split2 h1 h2]
    show (fitsB _ "or" (k : Int) && ([(n : Int)].zip (aboveS _ (k : Int).toNat)).all _) = true
    rw [Int.toNat_natCast, eA, show fitsB _ "or" (k : Int) = true from fits_ok (s := .disj s t) hk]
    simp only [List.zip_cons_cons, List.zip_nil_right, List.all_cons, List.all_nil, Bool.and_true, Bool.true_and]
    exact told_ok h
  | @conj k s h1 hl =>
    have hk := take_len h1
    have eA : aboveS (l0.row.take k ++ [.conj s s] ++ l0.row.drop (k + 1)) k = [l0.row, l0.row] := by
      unfold aboveS
      rw [mid_get hk]
      show [_ ++ [s] ++ _, _ ++ [s] ++ _] = _
      rw [mid_take hk, mid_drop hk, split1 h1]
    show (fitsB _ "and" (k : Int) && ([(n : Int), (n : Int)].zip (aboveS _ (k : Int).toNat)).all _) = true
    rw [Int.toNat_natCast, eA, show fitsB _ "and" (k : Int) = true from fits_ok (s := .conj s s) hk]
    simp only [List.zip_cons_cons, List.zip_nil_right, List.all_cons, List.all_nil, Bool.and_true, Bool.true_and, told_ok h]
  | @ev s b m e hm =>
    have hk : (List.replicate m (Say.dark 2)).length = m := List.length_replicate
    have eA : aboveS (List.replicate m (.dark 2) ++ [.ev s] ++ b.map .so) m = [l0.row] := by
      unfold aboveS
      rw [mid_get hk]
      show [s :: sos _] = _
      rw [sos, List.filterMap_append, List.filterMap_append, show List.filterMap Say.inSo (List.replicate m (.dark 2)) = [] from sos_rep m 2, show List.filterMap Say.inSo (b.map .so) = b from sos_map b, e]
      rfl
    show (fitsB _ "every" (m : Int) && ([(n : Int)].zip (aboveS _ (m : Int).toNat)).all _) = true
    rw [Int.toNat_natCast, eA, show fitsB _ "every" (m : Int) = true from fits_ok (s := .ev s) hk]
    simp only [List.zip_cons_cons, List.zip_nil_right, List.all_cons, List.all_nil, Bool.and_true, Bool.true_and]
    exact told_ok h
theorem pair3 (k : Int) (x : Say) : pairB [.lamp k, x, .dark k] = true := by
  unfold pairB
  rw [List.any_eq_true]
  refine ⟨k, List.mem_filterMap.mpr ⟨.dark k, by simp, rfl⟩, List.contains_iff_mem.mpr (List.mem_filterMap.mpr ⟨.lamp k, by simp, rfl⟩)⟩
def Drawn (m : Nat) (Ls : List Line) : Prop := Ls.length ≤ 2 * m ∧ (∀ l ∈ Ls, Lok m l) ∧ allR Ls = true
theorem Drawn.nil : Drawn 0 [] := ⟨Nat.le_refl _, fun l h => (by cases h), rfl⟩
theorem Drawn.snoc {m : Nat} {Ls : List Line} {l : Line} (h : Drawn m Ls) (h1 : Lok (m + 1) l) (h2 : rightB Ls Ls.length l = true) : Drawn (m + 1) (Ls ++ [l]) := by
  obtain ⟨a, b, c⟩ := h
  refine ⟨by simp; omega, fun z hz => ?_, by rw [allR_snoc, c, h2]; rfl⟩
  rcases List.mem_append.mp hz with hz | hz
  · exact (b z hz).mono (Nat.le_succ _)
  · rw [List.mem_singleton.mp hz]; exact h1
theorem lok_pair {m : Nat} {k : Int} {x : Say} (h1 : x.dep ≤ 1) (h2 : x.sz ≤ 5) : Lok m ⟨[.lamp k, x, .dark k], .pair⟩ := by
  refine ⟨by simp, by show 3 ≤ 3 + m; omega, fun s hs => ?_, ?_, trivial, fun _ => ⟨k, x, rfl, h1, h2⟩⟩
  · simp only [List.mem_cons, List.not_mem_nil, or_false] at hs
    rcases hs with rfl | rfl | rfl
    · simp only [Say.dep]; omega
    · omega
    · simp only [Say.dep]; omega
  · show szs [.lamp k, x, .dark k] ≤ _
    rw [szs_cons, szs_cons, szs1]; simp only [Say.sz]; omega
theorem Drawn.pair {m : Nat} {Ls : List Line} {k : Int} {x : Say} (h : Drawn m Ls) (h1 : x.dep ≤ 1) (h2 : x.sz ≤ 5) : Drawn (m + 1) (Ls ++ [⟨[.lamp k, x, .dark k], .pair⟩]) :=
  h.snoc (lok_pair h1 h2) (pair3 k x)
theorem Drawn.step {m : Nat} {Ls : List Line} {n : Nat} {l0 l : Line} (h : Drawn m Ls) (hm : m ≤ 30) (h0 : Ls[n]? = some l0) (s : StepOf l0.row n l) : Drawn (m + 1) (Ls ++ [l]) :=
  h.snoc (Lok.step (row := l0.row) (r := l0.rsn) (h.2.1 _ (List.mem_of_getElem? h0)) hm s) (s.right h0)
theorem Drawn.two {m : Nat} {Ls : List Line} {n : Nat} {k j : Int} {x : Say} (h : Drawn m Ls) (h0 : Ls[n]? = some ⟨[.lamp k, x, .dark k], .pair⟩) (h1 : x.dep ≤ 1) (h2 : x.sz ≤ 5) :
    Drawn (m + 1) (Ls ++ [⟨[.lamp k, .dark j, .dark k], .pair⟩] ++ [⟨[.lamp k, .conj x (.dark j), .dark k], .ofk "and" 1 [(n : Int), (Ls.length : Int)]⟩]) := by
  obtain ⟨a, b, c⟩ := h
  have e1 : allR (Ls ++ [⟨[.lamp k, .dark j, .dark k], .pair⟩]) = true := by rw [allR_snoc, c]; exact pair3 k _
  have g0 : (Ls ++ [(⟨[.lamp k, .dark j, .dark k], .pair⟩ : Line)])[n]? = some ⟨[.lamp k, x, .dark k], .pair⟩ := by
    rw [List.getElem?_append_left (List.getElem?_eq_some_iff.mp h0).1]; exact h0
  have g1 : (Ls ++ [(⟨[.lamp k, .dark j, .dark k], .pair⟩ : Line)])[Ls.length]? = some ⟨[.lamp k, .dark j, .dark k], .pair⟩ := List.getElem?_concat_length
  have l1 : Lok (m + 1) ⟨[.lamp k, .conj x (.dark j), .dark k], .ofk "and" 1 [(n : Int), (Ls.length : Int)]⟩ := by
    refine ⟨by simp, by show 3 ≤ _; omega, fun s hs => ?_, ?_, .inr (.inl ⟨rfl, rfl⟩), fun z => nomatch z⟩
    · simp only [List.mem_cons, List.not_mem_nil, or_false] at hs
      rcases hs with rfl | rfl | rfl <;> simp only [Say.dep] <;> omega
    · show szs [.lamp k, .conj x (.dark j), .dark k] ≤ _
      rw [szs_cons, szs_cons, szs1]; simp only [Say.sz]; omega
  have r1 : rightB (Ls ++ [⟨[.lamp k, .dark j, .dark k], .pair⟩]) (Ls ++ [(⟨[.lamp k, .dark j, .dark k], .pair⟩ : Line)]).length ⟨[.lamp k, .conj x (.dark j), .dark k], .ofk "and" 1 [(n : Int), (Ls.length : Int)]⟩ = true := by
    have eA : aboveS [.lamp k, .conj x (.dark j), .dark k] 1 = [[.lamp k, x, .dark k], [.lamp k, .dark j, .dark k]] := rfl
    have eF : fitsB [.lamp k, .conj x (.dark j), .dark k] "and" 1 = true := fits_ok (p := [.lamp k]) (s := .conj x (.dark j)) (q := [.dark k]) (k := 1) rfl
    unfold rightB
    dsimp only
    rw [show (1 : Int).toNat = 1 from rfl, eA, eF]
    simp only [List.zip_cons_cons, List.zip_nil_right, List.all_cons, List.all_nil, Bool.and_true, Bool.true_and]
    rw [told_ok g0, told_ok g1]
    rfl
  refine ⟨by simp; omega, fun z hz => ?_, by rw [allR_snoc, e1, r1]; rfl⟩
  rcases List.mem_append.mp hz with hz | hz
  · rcases List.mem_append.mp hz with hz | hz
    · exact (b z hz).mono (Nat.le_succ _)
    · rw [List.mem_singleton.mp hz]; exact lok_pair (by simp only [Say.dep]; omega) (by simp only [Say.sz]; omega)
  · rw [List.mem_singleton.mp hz]; exact l1
def Say.mp (f : Int → Int) : Say → Say
  | .lamp n => .lamp (f n)
  | .dark n => .dark (f n)
  | .neg s => .neg (s.mp f)
  | .conj s t => .conj (s.mp f) (t.mp f)
  | .disj s t => .disj (s.mp f) (t.mp f)
  | .ev s => .ev (s.mp f)
  | .so s => .so (s.mp f)
def Line.mp (f : Int → Int) (l : Line) : Line := ⟨l.row.map (Say.mp f), l.rsn⟩
theorem mp_sz (f : Int → Int) : ∀ s : Say, (s.mp f).sz = s.sz ∧ (s.mp f).dep = s.dep
  | .lamp _ => ⟨rfl, rfl⟩
  | .dark _ => ⟨rfl, rfl⟩
  | .neg s => by simp only [Say.mp, Say.sz, Say.dep, mp_sz f s, and_self]
  | .conj s t => by simp only [Say.mp, Say.sz, Say.dep, mp_sz f s, mp_sz f t, and_self]
  | .disj s t => by simp only [Say.mp, Say.sz, Say.dep, mp_sz f s, mp_sz f t, and_self]
  | .ev s => by simp only [Say.mp, Say.sz, Say.dep, mp_sz f s, and_self]
  | .so s => by simp only [Say.mp, Say.sz, Say.dep, mp_sz f s, and_self]
theorem mp_tag (f : Int → Int) (s : Say) : (s.mp f).tag = s.tag := by cases s <;> rfl
theorem mp_leaf (f : Int → Int) (s : Say) : Say.leaf (s.mp f) = Say.leaf s := by cases s <;> rfl
theorem mp_kids (f : Int → Int) (s : Say) : (s.mp f).kids = s.kids.map (Say.mp f) := by cases s <;> rfl
theorem mp_szs (f : Int → Int) (r : List Say) : szs (r.map (Say.mp f)) = szs r := by
  induction r with
  | nil => rfl
  | cons a r ih => rw [List.map_cons, szs_cons, szs_cons, ih, (mp_sz f a).1]
theorem Lok.mp {m : Nat} {l : Line} (f : Int → Int) (h : Lok m l) : Lok m (l.mp f) := by
  refine ⟨fun z => h.ne (List.map_eq_nil_iff.mp z), by show (l.row.map _).length ≤ _; rw [List.length_map]; exact h.len, fun s hs => ?_, by show szs (l.row.map _) ≤ _; rw [mp_szs]; exact h.sz, h.ok, fun z => ?_⟩
  · obtain ⟨u, hu, rfl⟩ := List.mem_map.mp hs
    rw [(mp_sz f u).2]
    exact h.dep u hu
  · obtain ⟨k, x, e, h1, h2⟩ := h.pr z
    exact ⟨f k, x.mp f, by show l.row.map _ = _; rw [e]; rfl, by rw [(mp_sz f x).2]; exact h1, by rw [(mp_sz f x).1]; exact h2⟩
theorem mp_sos (f : Int → Int) (r : List Say) : sos (r.map (Say.mp f)) = (sos r).map (Say.mp f) := by
  induction r with
  | nil => rfl
  | cons a r ih =>
    have e : ∀ (b : Say) (q : List Say), sos (b :: q) = (b.inSo.toList) ++ sos q := fun b q => by cases b <;> rfl
    rw [List.map_cons, e, e, ih, List.map_append]
    cases a <;> rfl
theorem mp_above (f : Int → Int) (r : List Say) (n : Nat) : aboveS (r.map (Say.mp f)) n = (aboveS r n).map (List.map (Say.mp f)) := by
  unfold aboveS
  rw [List.getElem?_map]
  cases r[n]? with
  | none => rfl
  | some s =>
    cases s with
    | ev t => simp only [Option.map_some, Say.mp, List.map_cons, List.map_nil, mp_sos]
    | disj t u => simp only [Option.map_some, Say.mp, List.map_cons, List.map_nil, List.map_append, List.map_take, List.map_drop]
    | conj t u => simp only [Option.map_some, Say.mp, List.map_cons, List.map_nil, List.map_append, List.map_take, List.map_drop]
    | _ => rfl
theorem mp_pair (f : Int → Int) {r : List Say} (h : pairB r = true) : pairB (r.map (Say.mp f)) = true := by
  unfold pairB at h ⊢
  rw [List.any_eq_true] at h ⊢
  obtain ⟨k, h1, h2⟩ := h
  obtain ⟨s, hs, e⟩ := List.mem_filterMap.mp h1
  obtain ⟨t, ht, e'⟩ := List.mem_filterMap.mp (List.contains_iff_mem.mp h2)
  refine ⟨f k, List.mem_filterMap.mpr ⟨s.mp f, List.mem_map.mpr ⟨s, hs, rfl⟩, ?_⟩, List.contains_iff_mem.mpr (List.mem_filterMap.mpr ⟨t.mp f, List.mem_map.mpr ⟨t, ht, rfl⟩, ?_⟩)⟩
  · cases s <;> first | (cases e; rfl) | cases e
  · cases t <;> first | (cases e'; rfl) | cases e'
theorem mp_rowOf (f : Int → Int) (Ls : List Line) (t : Int) : rowOf (Ls.map (Line.mp f)) t = (rowOf Ls t).map (Say.mp f) := by
  unfold rowOf
  rw [List.getElem?_map]
  cases Ls[t.toNat]? <;> rfl
theorem mp_told (f : Int → Int) {Ls : List Line} {i : Nat} {t : Int} {r : List Say} (h : toldB Ls i t r = true) : toldB (Ls.map (Line.mp f)) i t (r.map (Say.mp f)) = true := by
  unfold toldB at h ⊢
  simp only [Bool.and_eq_true, decide_eq_true_eq] at h ⊢
  exact ⟨h.1, h.2.1, by rw [mp_rowOf, h.2.2]⟩
theorem mp_fits (f : Int → Int) (row : List Say) (k : Str) (spot : Int) : fitsB (row.map (Say.mp f)) k spot = fitsB row k spot := by
  unfold fitsB tagAt
  rw [List.length_map, List.getElem?_map]
  cases row[spot.toNat]? with
  | none => rfl
  | some s => simp only [Option.map_some, mp_tag]
theorem mp_right (f : Int → Int) {Ls : List Line} {i : Nat} {l : Line} (h : rightB Ls i l = true) : rightB (Ls.map (Line.mp f)) i (l.mp f) = true := by
  obtain ⟨row, rsn⟩ := l
  cases rsn with
  | pair => exact mp_pair f h
  | ofk k spot told =>
    have h' : (fitsB row k spot && (told.zip (aboveS row spot.toNat)).all fun e => toldB Ls i e.1 e.2) = true := h
    show (fitsB (row.map _) k spot && (told.zip (aboveS (row.map _) spot.toNat)).all fun e => toldB _ i e.1 e.2) = true
    rw [Bool.and_eq_true] at h' ⊢
    refine ⟨by rw [mp_fits]; exact h'.1, ?_⟩
    rw [mp_above, List.zip_map_right, List.all_map, List.all_eq_true]
    intro e he
    exact mp_told f (List.all_eq_true.mp h'.2 e he)
theorem mp_allR (f : Int → Int) {Ls : List Line} (h : allR Ls = true) : allR (Ls.map (Line.mp f)) = true := by
  unfold allR at h ⊢
  rw [List.all_eq_true] at h ⊢
  intro i hi
  rw [List.length_map] at hi
  have hl := List.mem_range.mp hi
  have h1 := h i hi
  rw [List.getElem?_map, List.getElem?_eq_getElem hl]
  rw [List.getElem?_eq_getElem hl] at h1
  exact mp_right f h1
theorem Drawn.mp {m : Nat} {Ls : List Line} (f : Int → Int) (h : Drawn m Ls) : Drawn m (Ls.map (Line.mp f)) := by
  refine ⟨by rw [List.length_map]; exact h.1, fun l hl => ?_, mp_allR f h.2.2⟩
  obtain ⟨l0, h0, rfl⟩ := List.mem_map.mp hl
  exact (h.2.1 l0 h0).mp f
def Say.low : Say → Prop
  | .lamp k => 0 ≤ k ∧ k ≤ 100
  | .dark k => 0 ≤ k ∧ k ≤ 100
  | .neg s => s.low
  | .conj s t => s.low ∧ t.low
  | .disj s t => s.low ∧ t.low
  | .ev s => s.low
  | .so s => s.low
theorem low_kid {s t : Say} (h : s.low) (m : t ∈ s.kids) : t.low := by
  cases s <;> simp only [Say.kids, List.mem_cons, List.not_mem_nil, or_false] at m
  · subst m; exact h
  · rcases m with rfl | rfl
    · exact h.1
    · exact h.2
  · rcases m with rfl | rfl
    · exact h.1
    · exact h.2
  · subst m; exact h
  · subst m; exact h
def Low (Ls : List Line) : Prop := ∀ l ∈ Ls, ∀ s ∈ l.row, s.low
theorem Low.snoc {Ls : List Line} {l : Line} (h : Low Ls) (g : ∀ s ∈ l.row, s.low) : Low (Ls ++ [l]) := fun z hz => by
  rcases List.mem_append.mp hz with hz | hz
  · exact h z hz
  · rw [List.mem_singleton.mp hz]; exact g
theorem low3 {k : Int} {x : Say} (h : 0 ≤ k ∧ k ≤ 100) (hx : x.low) : ∀ s ∈ [Say.lamp k, x, .dark k], s.low := fun s hs => by
  simp only [List.mem_cons, List.not_mem_nil, or_false] at hs
  rcases hs with rfl | rfl | rfl
  · exact h
  · exact hx
  · exact h
theorem StepOf.low {row : List Say} {n : Int} {l : Line} (h : ∀ s ∈ row, s.low) (s : StepOf row n l) : ∀ s ∈ l.row, s.low := by
  cases s with
  | disj h1 h2 =>
    intro z hz
    rcases List.mem_append.mp hz with hz | hz
    · rcases List.mem_append.mp hz with hz | hz
      · exact h z (List.mem_of_mem_take hz)
      · rw [List.mem_singleton.mp hz]; exact ⟨h _ (List.mem_of_getElem? h1), h _ (List.mem_of_getElem? h2)⟩
    · exact h z (List.mem_of_mem_drop hz)
  | conj h1 hl =>
    intro z hz
    rcases List.mem_append.mp hz with hz | hz
    · rcases List.mem_append.mp hz with hz | hz
      · exact h z (List.mem_of_mem_take hz)
      · rw [List.mem_singleton.mp hz]; exact ⟨h _ (List.mem_of_getElem? h1), h _ (List.mem_of_getElem? h1)⟩
    · exact h z (List.mem_of_mem_drop hz)
  | @ev s0 b0 m0 e hm =>
    subst e
    intro z hz
    rcases List.mem_append.mp hz with hz | hz
    · rcases List.mem_append.mp hz with hz | hz
      · rw [List.eq_of_mem_replicate hz]; exact ⟨by decide, by decide⟩
      · rw [List.mem_singleton.mp hz]; exact h s0 (List.mem_cons_self ..)
    · obtain ⟨u, hu, rfl⟩ := List.mem_map.mp hz
      exact h u (List.mem_cons_of_mem _ hu)
def LineD (D : Addr) (H : Hp) (v : V) (l : Line) : Prop := ∃ t ra rr vs, v = .ref t ∧ H t = some (.tup [.ref ra, .ref rr]) ∧ ra ≠ D ∧ H ra = some (.lst vs) ∧ Stms H vs l.row ∧ H rr = some (.tup l.rsn.vals)
theorem LineD.mono {D : Addr} {H H' : Hp} {v : V} {l : Line} (h : LineD D H v l) (S : SameD D H H') (T : TupK H H') : LineD D H' v l := by
  obtain ⟨t, ra, rr, vs, e, h1, n, h2, h3, h4⟩ := h
  exact ⟨t, ra, rr, vs, e, T _ _ h1, n, S _ _ n h2, h3.mono T, T _ _ h4⟩
theorem LineD.at {D : Addr} {H : Hp} {v : V} {l : Line} (h : LineD D H v l) : LineAt H v l := by
  obtain ⟨t, ra, rr, vs, e, h1, n, h2, h3, h4⟩ := h
  exact ⟨t, ra, rr, vs, e, h1, h2, h3, h4⟩
theorem lns_mono {D : Addr} {H H' : Hp} {vs : List V} {Ls : List Line} (h : Paired (LineD D H) vs Ls) (S : SameD D H H') (T : TupK H H') : Paired (LineD D H') vs Ls := Paired.mapP h fun _ _ q => q.mono S T
def LinesD (H : Hp) (a : Addr) (Ls : List Line) : Prop := ∃ vs, H a = some (.lst vs) ∧ Paired (LineD a H) vs Ls
theorem LinesD.at {H : Hp} {a : Addr} {Ls : List Line} (h : LinesD H a Ls) : LinesAt H a Ls := by
  obtain ⟨vs, e, p⟩ := h
  exact ⟨vs, e, Paired.mapP p fun _ _ q => q.at⟩
theorem LinesD.mono {H H' : Hp} {a : Addr} {Ls : List Line} (h : LinesD H a Ls) (S : Same H H') : LinesD H' a Ls := by
  obtain ⟨vs, e, p⟩ := h
  exact ⟨vs, S _ _ e, lns_mono p S.sameD S.tupK⟩
theorem LinesD.put {H : Hp} {a : Addr} {vs : List V} {Ls : List Line} {v : V} {l : Line} (e : H a = some (.lst vs)) (p : Paired (LineD a H) vs Ls) (h : LineD a H v l) : LinesD (upd H a (.lst (vs ++ [v]))) a (Ls ++ [l]) :=
  ⟨_, upd_same, lns_mono (Paired.snoc p h) sameD_upd (TupK.lst (TupK.refl _) e)⟩
theorem any_dark (row : List Say) (k : Int) : ((row.map Say.data).any fun d => PyData.eqv d (Say.dark k).data) = (darksOf row).contains k := by
  rw [Bool.eq_iff_iff, List.any_eq_true, List.contains_iff_mem, List.mem_filterMap]
  constructor
  · rintro ⟨d, hd, e⟩
    obtain ⟨s, hs, rfl⟩ := List.mem_map.mp hd
    rw [eqv_sayB, decide_eq_true_eq] at e
    subst e
    exact ⟨_, hs, rfl⟩
  · rintro ⟨s, hs, e⟩
    have es : s = .dark k := by cases s <;> first | (cases e; rfl) | cases e
    subst es
    exact ⟨_, List.mem_map.mpr ⟨_, hs, rfl⟩, by rw [eqv_sayB]; exact decide_eq_true rfl⟩
theorem pair_yes {ss : List Say} {k : Int} (h1 : k ∈ lampsOf ss) (h2 : (darksOf ss).contains k = true) : pairB ss = true :=
  List.any_eq_true.mpr ⟨k, List.contains_iff_mem.mp h2, List.contains_iff_mem.mpr h1⟩
theorem pair_no {ss : List Say} (h : ∀ k ∈ lampsOf ss, (darksOf ss).contains k = false) : pairB ss = false := by
  unfold pairB
  rw [List.any_eq_false]
  intro k hk hc
  have h1 := h k (List.contains_iff_mem.mp hc)
  rw [List.contains_iff_mem.mpr hk] at h1
  cases h1
theorem atI_told {k : Str} {spot : Int} {told : List Int} {j : Nat} {t : Int} (h : told[j]? = some t) : atI (V.str k :: V.int spot :: told.map V.int) (2 + (j : Int)) = some (.int t) := by
  rw [show (2 + (j : Int)) = ((j + 2 : Nat) : Int) from by omega]
  refine atI_nat ?_
  rw [List.getElem?_cons_succ, List.getElem?_cons_succ, List.getElem?_map, h]
  rfl
theorem get_range {xs : List Int} {i : Int} {n : Nat} (hn : xs.length = n) (h0 : 0 < n) : ∃ c : Int, c ∈ xs ∧ atI (xs.map V.int) (i % (n : Int)) = some (.int c) := by
  have h1 : 0 ≤ i % (n : Int) := Int.emod_nonneg _ (by omega)
  have h2 : i % (n : Int) < (n : Int) := Int.emod_lt_of_pos _ (by omega)
  obtain ⟨j, hj⟩ : ∃ j : Nat, i % (n : Int) = (j : Int) := ⟨(i % (n : Int)).toNat, by omega⟩
  have hlt : j < xs.length := by omega
  rw [hj]
  exact ⟨xs[j], List.getElem_mem hlt, atI_nat (by rw [List.getElem?_map, List.getElem?_eq_getElem hlt]; rfl)⟩
def spPair2 : Sp := fun vs H Q _ => ∃ (a : Addr) (rs : List V) (ss : List Say), vs = [.ref a] ∧ H a = some (.lst rs) ∧ Stms H rs ss ∧ ∀ H', Same H H' → Q (.bl (pairB ss)) H'
def spLineOn : Sp := fun vs H Q _ => ∃ (r : Addr) (rs : List V) (row : List Say) (n way salt : Int), vs = [.ref r, .int n, .int way, .int salt] ∧ H r = some (.lst rs) ∧ Stms H rs row ∧ row ≠ [] ∧ row.length ≤ 100 ∧
  ∀ (t ra rr : Addr) (vs : List V) (l : Line) (H' : Hp), Same H H' → H' t = some (.tup [.ref ra, .ref rr]) → H ra = none → H' ra = some (.lst vs) → Stms H' vs l.row → H' rr = some (.tup l.rsn.vals) → StepOf row n l → Q (.ref t) H'
def spLinesOf : Sp := fun vs H Q _ => ∃ (c : Addr) (ns : List Int), vs = [.ref c] ∧ H c = some (.lst (ns.map V.int)) ∧ ns.length ≤ 30 ∧ ∀ (a : Addr) (Ls : List Line) (H' : Hp), Same H H' → H a = none → LinesD H' a Ls → Drawn ns.length Ls → Low Ls → Q (.ref a) H'
def spreadF (k : Int) : Int → Int := fun n => 1 + (n - 1) * k
def spSpread (d : Nat) : Sp := fun vs H Q _ => ∃ (v : V) (k : Int) (s : Say), vs = [v, .int k] ∧ Stm H v s ∧ s.dep < d ∧ s.low ∧ ∀ (u : V) (H' : Hp), Same H H' → Stm H' u (s.mp (spreadF k)) → Q u H'
def spSpreadL : Sp := fun vs H Q _ => ∃ (a : Addr) (c : Int) (Ls : List Line), vs = [.ref a, .int c] ∧ LinesAt H a Ls ∧ Ls.length ≤ 100 ∧ (∀ l ∈ Ls, l.row.length ≤ 100 ∧ ∀ s ∈ l.row, s.dep < 100) ∧ Low Ls ∧
  ∀ (b : Addr) (k : Int) (H' : Hp), Same H H' → H b = none → LinesD H' b (Ls.map (Line.mp (spreadF k))) → Q (.ref b) H'
structure Near (l l' : Line) : Prop where
  ok : l'.rsn.ok
  len : l'.row.length ≤ l.row.length + 1
  dep : ∀ d, 1 ≤ d → (∀ s ∈ l.row, s.dep ≤ d) → ∀ s ∈ l'.row, s.dep ≤ d
  sz : szs l'.row ≤ szs l.row + 8
def spSpoilt : Sp := fun vs H Q _ => ∃ (a : Addr) (way : Int) (spot : Nat) (cell : Int) (Ls : List Line) (l : Line), vs = [.ref a, .int way, .int spot, .int cell] ∧ LinesAt H a Ls ∧ Ls.length ≤ 100 ∧ Ls[spot]? = some l ∧ l.row ≠ [] ∧ l.rsn.ok ∧ l.row.length ≤ 100 ∧
  ∀ (b : Addr) (l' : Line) (H' : Hp), Same H H' → LinesAt H' b (Ls.take spot ++ [l'] ++ Ls.drop (spot + 1)) → Near l l' → (way = 0 → l' = l) → Q (.ref b) H'
theorem Near.refl {l : Line} (h : l.rsn.ok) : Near l l := ⟨h, Nat.le_succ _, fun _ _ z => z, Nat.le_add_right _ _⟩
theorem Near.rsn {row : List Say} {r r' : Rsn} (h : r'.ok) : Near ⟨row, r⟩ ⟨row, r'⟩ := ⟨h, Nat.le_succ _, fun _ _ z => z, Nat.le_add_right _ _⟩
theorem near_init {row : List Say} {r : Rsn} (h : r.ok) : Near ⟨row, r⟩ ⟨row.dropLast, r⟩ := by
  refine ⟨h, by show row.dropLast.length ≤ row.length + 1; rw [List.length_dropLast]; omega, fun d _ z s hs => z s (List.dropLast_subset _ hs), ?_⟩
  show szs row.dropLast ≤ szs row + 8
  rcases snoc_cases row with rfl | ⟨a, b, rfl⟩
  · exact Nat.zero_le _
  · rw [List.dropLast_concat, szs_app]; omega
theorem near_turn {row : List Say} {r : Rsn} (h : r.ok) : Near ⟨row, r⟩ ⟨row.drop 1 ++ row.take 1, r⟩ := by
  refine ⟨h, ?_, fun d _ z s hs => ?_, ?_⟩
  · show (row.drop 1 ++ row.take 1).length ≤ row.length + 1
    rw [List.length_append, List.length_drop, List.length_take]; omega
  · rcases List.mem_append.mp hs with hs | hs
    · exact z s (List.mem_of_mem_drop hs)
    · exact z s (List.mem_of_mem_take hs)
  · show szs (row.drop 1 ++ row.take 1) ≤ szs row + 8
    have := szs_take row 1
    rw [szs_app]; omega
theorem near_more {row : List Say} {r : Rsn} {x : Say} (h : r.ok) (h1 : x.dep ≤ 1) (h2 : x.sz ≤ 8) : Near ⟨row, r⟩ ⟨row ++ [x], r⟩ := by
  refine ⟨h, ?_, fun d hd z s hs => ?_, ?_⟩
  · show (row ++ [x]).length ≤ row.length + 1
    rw [List.length_append, List.length_singleton]
    exact Nat.le_refl _
  · rcases List.mem_append.mp hs with hs | hs
    · exact z s hs
    · rw [List.mem_singleton.mp hs]; omega
  · show szs (row ++ [x]) ≤ szs row + 8
    rw [szs_app, szs1]; omega
theorem near_last {row : List Say} {r : Rsn} {y : Say} {k : Int} (h : r.ok) : Near ⟨row ++ [y], r⟩ ⟨row ++ [.dark k], r⟩ := by
  refine ⟨h, ?_, fun d hd z s hs => ?_, ?_⟩
  · show (row ++ [Say.dark k]).length ≤ (row ++ [y]).length + 1
    rw [List.length_append, List.length_append, List.length_singleton, List.length_singleton]
    exact Nat.le_succ _
  · rcases List.mem_append.mp hs with hs | hs
    · exact z s (List.mem_append_left _ hs)
    · rw [List.mem_singleton.mp hs]; simp only [Say.dep]; omega
  · show szs (row ++ [Say.dark k]) ≤ szs (row ++ [y]) + 8
    rw [szs_app, szs_app, szs1, szs1]; simp only [Say.sz]; omega
def SpI (H0 : Hp) (a : Addr) (way : Int) (spot : Nat) (cell : Int) (l : Line) (done : List Int) (σ : St) (H : Hp) : Prop :=
  ∃ (ra rr : Addr) (vs : List V) (l' : Line), σ = [some (.ref a), some (.int way), some (.int spot), some (.int cell), some (.ref ra), some (.ref rr)] ∧ Same H0 H ∧ H ra = some (.lst vs) ∧ Stms H vs l'.row ∧ H rr = some (.tup l'.rsn.vals) ∧ Near l l' ∧ (way ∉ done → l' = l)
theorem SpI.put {H0 H : Hp} {a ra rr : Addr} {way cell : Int} {spot : Nat} {l l' : Line} {done : List Int} {vs : List V} (S : Same H0 H) (h1 : H ra = some (.lst vs)) (h2 : Stms H vs l'.row) (h3 : H rr = some (.tup l'.rsn.vals)) (n : Near l l') (e : way ∉ done → l' = l) :
    SpI H0 a way spot cell l done [some (.ref a), some (.int way), some (.int spot), some (.int cell), some (.ref ra), some (.ref rr)] H := ⟨ra, rr, vs, l', rfl, S, h1, h2, h3, n, e⟩
theorem not_more {x y : Int} {ys : List Int} (h : x ∉ y :: ys) : x ∉ ys := fun z => h (List.mem_cons_of_mem _ z)
theorem vals_last (k : Str) (spot : Int) (t : List Int) (x : Int) : (Rsn.ofk k spot (t ++ [x])).vals = (.str k :: .int spot :: t.map V.int) ++ [.int x] := by
  show V.str k :: V.int spot :: (t ++ [x]).map V.int = _
  rw [List.map_append]
  rfl
theorem told_some {k : Str} {spot : Int} {told : List Int} (h : (Rsn.ofk k spot told).ok) : ∃ t x, told = t ++ [x] := by
  rcases snoc_cases told with rfl | z
  · rcases h with ⟨_, h⟩ | ⟨_, h⟩ | ⟨_, h⟩ <;> cases h
  · exact z
theorem told_one {k : Str} {spot : Int} {told : List Int} (h : (Rsn.ofk k spot told).ok) : ∃ x t, told = x :: t := by
  cases told with
  | nil => rcases h with ⟨_, h⟩ | ⟨_, h⟩ | ⟨_, h⟩ <;> cases h
  | cons x t => exact ⟨x, t, rfl⟩
theorem told_few {k : Str} {spot : Int} {told : List Int} (h : (Rsn.ofk k spot told).ok) : told.length ≤ 2 := by
  rcases h with ⟨_, h⟩ | ⟨_, h⟩ | ⟨_, h⟩ <;> omega
theorem Stms.init {H : Hp} {vs : List V} {ss : List Say} (h : Stms H vs ss) : Stms H vs.dropLast ss.dropLast := by
  have := Paired.length h
  rw [List.dropLast_eq_take, List.dropLast_eq_take, this]
  exact Paired.take1 _ h
theorem ok_len {k : Str} {s s' : Int} {t t' : List Int} (h : (Rsn.ofk k s t).ok) (e : t'.length = t.length) : (Rsn.ofk k s' t').ok := by
  rcases h with ⟨a, b⟩ | ⟨a, b⟩ | ⟨a, b⟩
  · exact .inl ⟨a, e.trans b⟩
  · exact .inr (.inl ⟨a, e.trans b⟩)
  · exact .inr (.inr ⟨a, e.trans b⟩)
theorem Same.none {H H' : Hp} (S : Same H H') {b : Addr} (h : H' b = none) : H b = none := by
  cases e : H b with
  | none => rfl
  | some o => rw [S _ _ e] at h; cases h
theorem if_joinC {c : Bool} {P R : St → Hp → Prop} {A B : Prop} (hA : c = true → (∀ σ H, P σ H → R σ H) → A) (hB : (∀ σ H, P σ H → R σ H) → B) (hR : ∀ σ H, P σ H → R σ H) : if c = true then A else B := by
  cases c with
  | true => exact iteT (hA rfl hR)
  | false => exact iteF (hB hR)
theorem cut_some (ns : List Int) (lo hi : Nat) : ∃ ms : List Int, cutV (ns.map V.int) (some (lo : Int)) (some ((lo : Int) + (hi : Int))) = ms.map V.int ∧ ms.length ≤ hi := by
  obtain ⟨ms, e, _⟩ := cutV_map ns (some (lo : Int)) (some ((lo : Int) + (hi : Int)))
  refine ⟨ms, e, ?_⟩
  have h := congrArg List.length e
  rw [List.length_map] at h
  rw [← h]
  unfold cutV
  rw [show ((lo : Int) + (hi : Int)) = ((lo + hi : Nat) : Int) from by omega, HT.sIx_nat, HT.sIx_nat, List.length_take]
  omega
def Fine (n : Nat) (Ls : List Line) : Prop := Ls.length ≤ 61 ∧ ∀ l ∈ Ls, (n = 0 → l.row ≠ []) ∧ l.rsn.ok ∧ l.row.length ≤ 40 + n ∧ (∀ s ∈ l.row, s.dep ≤ 40) ∧ szs l.row ≤ 2200 + 8 * n
theorem Drawn.fine {m : Nat} {Ls : List Line} (h : Drawn m Ls) (hm : m ≤ 30) : Fine 0 Ls := by
  refine ⟨by have := h.1; omega, fun l hl => ?_⟩
  have z := h.2.1 l hl
  exact ⟨fun _ => z.ne, z.ok, by have := z.len; omega, fun s hs => by have := z.dep s hs; omega, by have := z.sz; omega⟩
theorem Fine.near {Ls : List Line} {sp : Nat} {l l' : Line} (h : Fine 0 Ls) (h0 : Ls[sp]? = some l) (n : Near l l') : Fine 1 (Ls.take sp ++ [l'] ++ Ls.drop (sp + 1)) := by
  have hl := (List.getElem?_eq_some_iff.mp h0).1
  obtain ⟨h1, h2⟩ := h
  have up : ∀ z ∈ Ls, (1 = 0 → z.row ≠ []) ∧ z.rsn.ok ∧ z.row.length ≤ 40 + 1 ∧ (∀ s ∈ z.row, s.dep ≤ 40) ∧ szs z.row ≤ 2200 + 8 * 1 := fun z hz => by
    obtain ⟨a, b, c, d, e⟩ := h2 z hz
    exact ⟨fun x => (by cases x), b, by omega, d, by omega⟩
  refine ⟨by simp only [List.length_append, List.length_take, List.length_drop, List.length_singleton]; omega, fun z hz => ?_⟩
  rcases List.mem_append.mp hz with hz | hz
  · rcases List.mem_append.mp hz with hz | hz
    · exact up z (List.mem_of_mem_take hz)
    · rw [List.mem_singleton.mp hz]
      obtain ⟨a, b, c, d, e⟩ := h2 l (List.mem_of_getElem? h0)
      exact ⟨fun x => (by cases x), n.ok, by have := n.len; omega, n.dep 40 (by decide) d, by have := n.sz; omega⟩
  · exact up z (List.mem_of_mem_drop hz)
theorem Fine.up {Ls : List Line} (h : Fine 0 Ls) : Fine 1 Ls := ⟨h.1, fun z hz => by
  obtain ⟨a, b, c, d, e⟩ := h.2 z hz
  exact ⟨fun x => (by cases x), b, by omega, d, by omega⟩⟩
theorem Fine.ten {Ls : List Line} {m : Nat} (h : Drawn m Ls) (hm : m ≤ 25) : Fine 0 (Ls ++ [⟨[.lamp 7] ++ List.replicate 10 (.so (.lamp 1)) ++ [.dark 7], .pair⟩]) := by
  have f := h.fine (by omega)
  refine ⟨by have := h.1; simp; omega, fun z hz => ?_⟩
  rcases List.mem_append.mp hz with hz | hz
  · exact f.2 z hz
  · rw [List.mem_singleton.mp hz]
    exact ⟨fun _ => by simp, trivial, by decide, by decide, by decide⟩
theorem Fine.sized {Ls : List Line} (h : Fine 1 Ls) : Sized Ls := ⟨by have := h.1; omega, fun l hl => by
  obtain ⟨a, b, c, d, e⟩ := h.2 l hl
  exact ⟨b, by omega, fun s hs => by have := d s hs; omega⟩⟩
theorem rsn_als (H : Hp) {r : Rsn} (h : r.ok) : ∃ m, m ≤ 4 ∧ Als H m r.vals r.vals := by
  cases r with
  | pair => exact ⟨0 + 1, by decide, .str _ .nil⟩
  | ofk k spot told => exact ⟨told.length + 1 + 1, by have := told_few h; omega, .str _ (.int _ (ints_als H told))⟩
theorem line_als {H : Hp} {v u : V} {l : Line} (h1 : LineAt H v l) (h2 : LineAt H u l) (ok : l.rsn.ok) : ∃ m, m ≤ szs l.row + 7 ∧ Als H m [v] [u] := by
  obtain ⟨t, ra, rr, vs, rfl, a1, a2, a3, a4⟩ := h1
  obtain ⟨t', ra', rr', vs', rfl, b1, b2, b3, b4⟩ := h2
  obtain ⟨m, hm, al⟩ := rsn_als H ok
  exact ⟨_, by omega, .tup a1 b1 (.lst a2 b2 (stms_als2 a3 b3) (.tup a4 b4 al .nil)) .nil⟩
theorem lines_als {H : Hp} {b : Nat} : ∀ {xs ys : List V} {Ls : List Line}, Paired (LineAt H) xs Ls → Paired (LineAt H) ys Ls → (∀ l ∈ Ls, l.rsn.ok ∧ szs l.row ≤ b) → ∃ m, m ≤ Ls.length * (b + 7) ∧ Als H m xs ys
  | _, _, _, .nil, .nil, _ => ⟨0, Nat.zero_le _, .nil⟩
  | _, _, _, .cons (l₂ := Ls) (b := l) h1 t1, .cons h2 t2, hs => by
    obtain ⟨m, hm, al⟩ := lines_als t1 t2 fun r hr => hs r (List.mem_cons_of_mem _ hr)
    obtain ⟨s1, s2⟩ := hs l (List.mem_cons_self ..)
    obtain ⟨m', hm', al'⟩ := line_als h1 h2 s1
    refine ⟨m' + m, ?_, al'.app al⟩
    rw [List.length_cons, Nat.add_mul]
    omega
theorem const_told {P : Program} {w : World} {K : PySem.W.Frag} {a : Addr} {n_T : Nat} {h1_T h2_T h3_T : Int} {t1_T u1_T t2_T u2_T t3_T u3_T : Tok} (h : K.lookup a = some ⟨.type "dict", none, .dict #[⟨h1_T, .str "or" t1_T, .int 1 u1_T⟩, ⟨h2_T, .str "and" t2_T, .int 2 u2_T⟩, ⟨h3_T, .str "every" t3_T, .int 1 u3_T⟩] n_T, #[]⟩) (hs : (a == sysModules) = false) (y_h1 : h1_T = hashStr w "or") (y_h2 : h2_T = hashStr w "and") (y_h3 : h3_T = hashStr w "every") : KDict P K w a told3 := by
  refine ⟨hs, _, _, _, [(.inr "or", .int 1 u1_T), (.inr "and", .int 2 u2_T), (.inr "every", .int 1 u3_T)], h, ⟨rfl, rfl, rfl⟩, rfl, ?_, ?_, (by show List.Nodup ([.inr "or", .inr "and", .inr "every"] : List Key); decide +kernel), .cons ⟨rfl, u1_T, rfl⟩ (.cons ⟨rfl, u2_T, rfl⟩ (.cons ⟨rfl, u3_T, rfl⟩ .nil))⟩
  · intro e he
    simp only [List.mem_toArray, List.mem_cons, List.not_mem_nil, or_false] at he
    rcases he with rfl | rfl | rfl
    · exact ⟨.inr "or", mixKind_str P w _ _, y_h1⟩
    · exact ⟨.inr "and", mixKind_str P w _ _, y_h2⟩
    · exact ⟨.inr "every", mixKind_str P w _ _, y_h3⟩
  · exact .cons (mixKind_str P w _ _) rfl (.cons (mixKind_str P w _ _) rfl (.cons (mixKind_str P w _ _) rfl .nil))
def spRoom (K : PySem.W.Frag) : Sp := fun vs H Q _ => ∃ (a : Addr) (ns : List Int) (m b : Int), vs = [.ref a, .int m, .int b] ∧ SqL K H a (ns.map V.int) ∧ ns.length ≤ 63 ∧ Q (.int m) H
end L2
set_option Elab.async false
set_option linter.all false
set_option maxRecDepth 100000
set_option maxHeartbeats 4000000
namespace My
open PySem L2
seal PE PT PW PA PS PSs PC PG PGs PI PO PPs PTs
local macro_rules | `(tactic| walk_at "ne") => `(tactic| first | assumption | exact Ne.symm (by assumption))
local macro_rules | `(tactic| walk_at "hp") => `(tactic| first | assumption | (with_reducible exact upd_same) | (with_reducible apply keepN; assumption; walk_at "hp") | (with_reducible apply keepL; walk_at "ne"; walk_at "hp"))
local macro_rules | `(tactic| walk_at "sm") => `(tactic| first | assumption | (with_reducible exact Same.refl _) | (with_reducible refine Same.new ?_ (by assumption); walk_at "sm") | (with_reducible refine Same.set ?_ (by assumption); walk_at "sm"))
local macro_rules | `(tactic| walk_at "tk") => `(tactic| first | assumption | (with_reducible exact TupK.refl _) | (with_reducible refine TupK.new ?_ (by assumption); walk_at "tk") | (with_reducible refine TupK.lst ?_ (by walk_at "hp"); walk_at "tk") | (with_reducible refine TupK.dK ?_ (by walk_at "hp"); walk_at "tk") | (with_reducible refine Same.tupK ?_; walk_at "sm"))
local macro_rules | `(tactic| walk_at "sl") => `(tactic| first | assumption | (with_reducible apply SqL.of; walk_at "hp") | (with_reducible apply sameSeq; assumption; walk_at "sm"))
local macro_rules | `(tactic| walk_at "st") => `(tactic| first | assumption | (with_reducible apply SqT.of; walk_at "hp"))
local macro_rules | `(tactic| walk_at "cd") => `(tactic| first | (show (0 : Int) < _; first | decide | assumption | omega) | exact ⟨by decide, by decide⟩ | exact ⟨by decide, by decide, by decide⟩ | exact Or.inl ⟨by decide, by decide⟩ | exact Or.inr ⟨by decide, by decide⟩ | exact Or.inl ⟨by omega, by omega⟩ | exact Or.inr ⟨by omega, by omega⟩ | exact ⟨by omega, by omega⟩)
local macro_rules | `(tactic| walk_at "rd1") => `(tactic| with_reducible first
  | (apply rd_var; with_unfolding_all rfl) | apply rd_op | apply rd_C | apply rd_seq | apply rd_asg | apply rd_name | apply rd_cons | apply rd_nil | apply rd_I0 | apply rd_test | apply rd_bl | apply rd_tB
  | (apply rd_ixT; (walk_at "st"); (with_unfolding_all rfl)) | apply rd_slice | apply rd_noPart | apply rd_part | apply rd_int | apply rd_CB | apply rd_if | apply rd_call | apply rd_ret | apply rd_drop | apply rd_tup | apply rd_lst | apply rd_bm | apply rd_bm0 | (apply rd_ty; (walk_at "hp"))
  | (apply rd_I; (with_unfolding_all walk_at "cd")) | (apply rd_eq; (with_unfolding_all rfl)) | (apply rd_ne; (with_unfolding_all rfl)) | apply rd_and | apply rd_or | apply rd_not | apply rd_andV | apply rd_orV | apply rd_notV | apply rd_ifE
  | (apply rd_lenL; (walk_at "sl")) | (apply rd_lenT; (walk_at "st")) | apply rd_dnew | apply rd_dput | apply rd_din | apply rd_next | apply rd_forL | apply rd_forV | apply rd_compL | apply rd_compZ | apply rd_compT | apply rd_compR | apply rd_kget | apply rd_dget | apply rd_listRev | apply rd_chain | apply rd_ints | apply rd_un | apply rd_U | apply rd_kin | apply rd_forZT | apply rd_pcons | apply rd_pnil | (apply rd_gtup; (walk_at "st"); (with_unfolding_all rfl)) | apply rd_gcons | apply rd_gnil | apply rd_forR3 | apply rd_forR2 | apply rd_forR1 | (apply rd_itL; (walk_at "sl")) | (apply rd_neN; (walk_at "sl"); (walk_at "sl")) | (apply rd_eqN; (walk_at "sl"); (walk_at "sl")))
local macro_rules | `(tactic| walk_at "rd") => `(tactic| repeat walk_at "rd1")
local macro_rules | `(tactic| walk_at "rd0") => `(tactic| try dsimp only [cxOf, Cx.nox, Cx.wish])
section
variable {P : Program} {w : World} {K : PySem.W.Frag} {mg : Str → Option Value} {base : Heap} {f : Addr} {fd : FuncData}
def top (i : Nat) : Stmt := PySem.Challenge.pw_roomsay_k05_shows.main.body.getD i (.Pass ⟨0, 0, 0, 0⟩)
abbrev s_has_pair : Stmt := top 2
theorem sc_has_pair : FnScope ["row", "lamps", "statement"] ["row"] (defScope s_has_pair) := ⟨rfl, rfl, rfl, by decide +kernel, rfl, by decide +kernel, by decide +kernel⟩
abbrev s_rows_above_by_parts : Stmt := top 3
theorem sc_rows_above_by_parts : FnScope ["row", "parts", "k", "part", "before", "behind"] ["row", "parts", "k"] (defScope s_rows_above_by_parts) := ⟨rfl, rfl, rfl, by decide +kernel, rfl, by decide +kernel, by decide +kernel⟩
abbrev s_rows_above : Stmt := top 4
theorem sc_rows_above : FnScope ["row", "k"] ["row", "k"] (defScope s_rows_above) := ⟨rfl, rfl, rfl, by decide +kernel, rfl, by decide +kernel, by decide +kernel⟩
abbrev s_reason_fits : Stmt := top 5
theorem sc_reason_fits : FnScope ["row", "reason", "kind", "k"] ["row", "reason"] (defScope s_reason_fits) := ⟨rfl, rfl, rfl, by decide +kernel, rfl, by decide +kernel, by decide +kernel⟩
abbrev s_is_right : Stmt := top 6
theorem sc_is_right : FnScope ["lines", "place", "row", "reason", "told", "above"] ["lines", "place"] (defScope s_is_right) := ⟨rfl, rfl, rfl, by decide +kernel, rfl, by decide +kernel, by decide +kernel⟩
abbrev s_shows : Stmt := top 7
theorem sc_shows : FnScope ["lines", "row", "place"] ["lines", "row"] (defScope s_shows) := ⟨rfl, rfl, rfl, by decide +kernel, rfl, by decide +kernel, by decide +kernel⟩
abbrev s__law_whole : Stmt := top 9
theorem sc__law_whole : FnScope ["_law_found"] ["_law_found"] (defScope s__law_whole) := ⟨rfl, rfl, rfl, by decide +kernel, rfl, by decide +kernel, by decide +kernel⟩
abbrev s__law_at : Stmt := top 10
theorem sc__law_at : FnScope ["_law_script", "_law_k"] ["_law_script", "_law_k"] (defScope s__law_at) := ⟨rfl, rfl, rfl, by decide +kernel, rfl, by decide +kernel, by decide +kernel⟩
abbrev s__law_the_same : Stmt := top 11
theorem sc__law_the_same : FnScope ["_law_found", "_law_due", "_law_left", "_law_right", "_law_one", "_law_two"] ["_law_found", "_law_due"] (defScope s__law_the_same) := ⟨rfl, rfl, rfl, by decide +kernel, rfl, by decide +kernel, by decide +kernel⟩
abbrev s__law_pair : Stmt := top 12
theorem sc__law_pair : FnScope ["_law_row", "_law_part"] ["_law_row"] (defScope s__law_pair) := ⟨rfl, rfl, rfl, by decide +kernel, rfl, by decide +kernel, by decide +kernel⟩
abbrev s__law_above_by : Stmt := top 13
theorem sc__law_above_by : FnScope ["_law_row", "_law_k", "_law_part", "_law_before", "_law_behind", "_law_made", "_law_one"] ["_law_row", "_law_k"] (defScope s__law_above_by) := ⟨rfl, rfl, rfl, by decide +kernel, rfl, by decide +kernel, by decide +kernel⟩
abbrev s__law_line_right : Stmt := top 14
theorem sc__law_line_right : FnScope ["_law_lines", "_law_number", "_law_row", "_law_reason", "_law_spot", "_law_due", "_law_k", "_law_line"] ["_law_lines", "_law_number"] (defScope s__law_line_right) := ⟨rfl, rfl, rfl, by decide +kernel, rfl, by decide +kernel, by decide +kernel⟩
abbrev s__law_shown : Stmt := top 15
theorem sc__law_shown : FnScope ["_law_lines", "_law_row", "_law_number"] ["_law_lines", "_law_row"] (defScope s__law_shown) := ⟨rfl, rfl, rfl, by decide +kernel, rfl, by decide +kernel, by decide +kernel⟩
abbrev s__law_line_on : Stmt := top 16
theorem sc__law_line_on : FnScope ["_law_row", "_law_number", "_law_way", "_law_salt", "_law_spot", "_law_two", "_law_made", "_law_ahead"] ["_law_row", "_law_number", "_law_way", "_law_salt"] (defScope s__law_line_on) := ⟨rfl, rfl, rfl, by decide +kernel, rfl, by decide +kernel, by decide +kernel⟩
abbrev s__law_lines_of : Stmt := top 17
theorem sc__law_lines_of : FnScope ["_law_cells", "_law_lines", "_law_k", "_law_salt", "_law_way", "_law_lamp", "_law_some", "_law_number", "_law_row", "_law_other", "_law_both"] ["_law_cells"] (defScope s__law_lines_of) := ⟨rfl, rfl, rfl, by decide +kernel, rfl, by decide +kernel, by decide +kernel⟩
abbrev s__law_spoilt : Stmt := top 18
theorem sc__law_spoilt : FnScope ["_law_lines", "_law_way", "_law_spot", "_law_cell", "_law_row", "_law_reason"] ["_law_lines", "_law_way", "_law_spot", "_law_cell"] (defScope s__law_spoilt) := ⟨rfl, rfl, rfl, by decide +kernel, rfl, by decide +kernel, by decide +kernel⟩
abbrev s__law_room_for : Stmt := top 19
theorem sc__law_room_for : FnScope ["_law_script", "_law_most", "_law_bound"] ["_law_script", "_law_most", "_law_bound"] (defScope s__law_room_for) := ⟨rfl, rfl, rfl, by decide +kernel, rfl, by decide +kernel, by decide +kernel⟩
abbrev s__law_spread : Stmt := top 20
theorem sc__law_spread : FnScope ["_law_part", "_law_step"] ["_law_part", "_law_step"] (defScope s__law_spread) := ⟨rfl, rfl, rfl, by decide +kernel, rfl, by decide +kernel, by decide +kernel⟩
abbrev s__law_spread_lines : Stmt := top 21
theorem sc__law_spread_lines : FnScope ["_law_lines", "_law_cell", "_law_step", "_law_made", "_law_row", "_law_reason"] ["_law_lines", "_law_cell"] (defScope s__law_spread_lines) := ⟨rfl, rfl, rfl, by decide +kernel, rfl, by decide +kernel, by decide +kernel⟩
abbrev s_law : Stmt := top 22
theorem sc_law : FnScope ["_law_script", "_law_lines", "_law_way", "_law_ten", "_law_row", "_law_spot", "_law_handed", "_law_asked", "_law_found"] ["_law_script"] (defScope s_law) := ⟨rfl, rfl, rfl, by decide +kernel, rfl, by decide +kernel, by decide +kernel⟩
theorem ok_whole (D : DefIn K mg "_law_whole" s__law_whole ["_law_found"] f fd) (B : Blt mg) : Has P w K mg base "_law_whole" 1 ["_law_found"] spWhole := by
  have nd := sc__law_whole.nd
  refine D.has (D.fn.ok sc__law_whole (fun vs H Q E h => ?_) (fun cdv A outer s H vs Q E hr h => ?_))
  · obtain ⟨i, rfl, _⟩ := h
    rfl
  · obtain ⟨i, rfl, q⟩ := h
    refine ⟨_, (pss_one (ps_ret (pe_and (pe_callB (call_instK K) rfl B.isinstance PyProof.Rows.boot_isinstance (pa_cons (pv 0) (pa_cons (pe_bltn (v := .ty "int") rfl B.int_ PySem.Pv.boot_int rfl) pa_nil))) (pe_one (pe_not (pe_callB (call_instK K) rfl B.isinstance PyProof.Rows.boot_isinstance (pa_cons (pv 0) (pa_cons (pe_bltn (v := .ty "bool") rfl B.bool_ PySem.Pv.boot_bool rfl) pa_nil)))))))), ?_⟩
    walk_at "rd0"
    walk_at "rd"
    refine rd_inst (.int i) kit_ii ?_
    walk_at "rd"
    refine iteT ?_
    walk_at "rd"
    refine rd_inst (.int i) kit_ib ?_
    walk_at "rd"
    exact q
theorem ok_at (D : DefIn K mg "_law_at" s__law_at ["_law_script", "_law_k"] f fd) (B : Blt mg) : Has P w K mg base "_law_at" 1 ["_law_script", "_law_k"] (spAt K) := by
  have nd := sc__law_at.nd
  refine D.has (D.fn.ok sc__law_at (fun vs H Q E h => ?_) (fun cdv A outer s H vs Q E hr h => ?_))
  · obtain ⟨a, ns, k, rfl, _⟩ := h
    rfl
  · obtain ⟨a, ns, k, rfl, hS, q⟩ := h
    refine ⟨_, (pss_cons (ps_if (pt_cmpR op_lt (pv 1) (pe_callB (call_lenK K) rfl B.len PySem.boot_len (pa_cons (pv 0) pa_nil)) (nomark _)) (pss_one (ps_ret (pe_ix (ix_listK K) (pv 0) (pv 1) (fun _ _ => rfl)))) pss_nil)
      (pss_one (ps_ret pe_int))), ?_⟩
    walk_at "rd0"
    walk_at "rd"
    refine if_dec (fun c => ?_) (fun c => ?_)
    · rw [List.length_map] at c
      walk_at "rd"
      exact rd_ixL hS (atI_cell (by omega)) q
    · rw [List.length_map] at c
      walk_at "rd"
      have e : cell ns k = 0 := by
        unfold cell
        rw [List.getD_eq_getElem?_getD, List.getElem?_eq_none (by omega)]
        rfl
      rw [e] at q
      exact q
theorem ok_same (D : DefIn K mg "_law_the_same" s__law_the_same ["_law_found", "_law_due"] f fd) (B : Blt mg) (h__law_whole : Has P w K mg base "_law_whole" 1 ["_law_found"] spWhole) : Has P w K mg base "_law_the_same" 2 ["_law_found", "_law_due"] spSame := by
  have nd := sc__law_the_same.nd
  refine D.has (D.fn.ok sc__law_the_same (fun vs H Q E h => ?_) (fun cdv A outer s H vs Q E hr h => ?_))
  · obtain ⟨x, y, n, rfl, _⟩ := h
    rfl
  · obtain ⟨x, y, n, rfl, al, hn, q⟩ := h
    have hu0 := hu0_of hr
    refine ⟨_, (pss_cons (ps_set (i := 2) nd rfl (Or.inl rfl) (pe_lst (pa_cons (pv 0) pa_nil)))
      (pss_cons (ps_set (i := 3) nd rfl (Or.inl rfl) (pe_lst (pa_cons (pv 1) pa_nil)))
      (pss_cons (ps_while PassesOwn.never (pt_cmpR (op_neNK K hu0) (pv 3) (pe_lst pa_nil) (nomark _)) (pss_cons (ps_set (i := 4) nd rfl (Or.inl rfl) (pe_bm0K K PySem.F.plainAttrs_list PySem.F.slot_list_pop PySem.F.type_list_pop mt_pop (pv 2)))
        (pss_cons (ps_set (i := 5) nd rfl (Or.inl rfl) (pe_bm0K K PySem.F.plainAttrs_list PySem.F.slot_list_pop PySem.F.type_list_pop mt_pop (pv 3)))
        (pss_one (ps_if (pt_val (pe_callB (call_instTK K) rfl B.isinstance PyProof.Rows.boot_isinstance (pa_cons (pv 5) (pa_cons (pe_tup (pa_cons (pe_bltn (v := .ty "list") rfl B.list_ PySem.Pv.boot_list rfl) (pa_cons (pe_bltn (v := .ty "tuple") rfl B.tuple_ PySem.Pv.boot_tuple rfl) pa_nil))) pa_nil)))) (pss_cons (ps_if (pt_cmpR op_ne (pe_callB (call_instK K) rfl B.isinstance PyProof.Rows.boot_isinstance (pa_cons (pv 4) (pa_cons (pe_bltn (v := .ty "list") rfl B.list_ PySem.Pv.boot_list rfl) pa_nil))) (pe_callB (call_instK K) rfl B.isinstance PyProof.Rows.boot_isinstance (pa_cons (pv 5) (pa_cons (pe_bltn (v := .ty "list") rfl B.list_ PySem.Pv.boot_list rfl) pa_nil))) (nomark _)) (pss_one (ps_ret pe_bl)) pss_nil)
          (pss_cons (ps_if (PW.pt (pw_or (pt_cmpR op_ne (pe_callB (call_instK K) rfl B.isinstance PyProof.Rows.boot_isinstance (pa_cons (pv 4) (pa_cons (pe_bltn (v := .ty "tuple") rfl B.tuple_ PySem.Pv.boot_tuple rfl) pa_nil))) (pe_callB (call_instK K) rfl B.isinstance PyProof.Rows.boot_isinstance (pa_cons (pv 5) (pa_cons (pe_bltn (v := .ty "tuple") rfl B.tuple_ PySem.Pv.boot_tuple rfl) pa_nil))) (nomark _)) (pw_or1 (pt_cmpR op_ne (pe_callB (call_lenK K) rfl B.len PySem.boot_len (pa_cons (pv 4) pa_nil)) (pe_callB (call_lenK K) rfl B.len PySem.boot_len (pa_cons (pv 5) pa_nil)) (nomark _))))) (pss_one (ps_ret pe_bl)) pss_nil)
          (pss_cons (ps_expr (pe_bmK K PySem.F.plainAttrs_list PySem.F.slot_list_extend PySem.F.type_list_extend mt_extendS (pv 2) (pa_cons (pv 4) pa_nil)))
          (pss_one (ps_expr (pe_bmK K PySem.F.plainAttrs_list PySem.F.slot_list_extend PySem.F.type_list_extend mt_extendS (pv 3) (pa_cons (pv 5) pa_nil))))))) (pss_one (ps_if (pt_val (pe_callB (call_instK K) rfl B.isinstance PyProof.Rows.boot_isinstance (pa_cons (pv 5) (pa_cons (pe_bltn (v := .ty "bool") rfl B.bool_ PySem.Pv.boot_bool rfl) pa_nil)))) (pss_one (ps_if (PW.pt (pw_or (pt_not (pt_val (pe_callB (call_instK K) rfl B.isinstance PyProof.Rows.boot_isinstance (pa_cons (pv 4) (pa_cons (pe_bltn (v := .ty "bool") rfl B.bool_ PySem.Pv.boot_bool rfl) pa_nil))))) (pw_or1 (pt_cmpR op_ne (pv 4) (pv 5) (nomark _))))) (pss_one (ps_ret pe_bl)) pss_nil)) (pss_one (ps_if (pt_val (pe_callB (call_instK K) rfl B.isinstance PyProof.Rows.boot_isinstance (pa_cons (pv 5) (pa_cons (pe_bltn (v := .ty "str") rfl B.str_ PySem.Pv.boot_str rfl) pa_nil)))) (pss_one (ps_if (PW.pt (pw_or (pt_not (pt_val (pe_callB (call_instK K) rfl B.isinstance PyProof.Rows.boot_isinstance (pa_cons (pv 4) (pa_cons (pe_bltn (v := .ty "str") rfl B.str_ PySem.Pv.boot_str rfl) pa_nil))))) (pw_or1 (pt_cmpR op_ne (pv 4) (pv 5) (nomark _))))) (pss_one (ps_ret pe_bl)) pss_nil)) (pss_one (ps_if (PW.pt (pw_or (pt_not (pt_val (pe_callH h__law_whole hr (pa_cons (pv 4) pa_nil)))) (pw_or1 (pt_cmpR op_ne (pv 4) (pv 5) (nomark _))))) (pss_one (ps_ret pe_bl)) pss_nil)))))))))))
      (pss_one (ps_ret pe_bl))))), ?_⟩
    walk_at "rd0"
    walk_at "rd"
    refine ⟨(by show 1 ≤ sizeLine; decide), fun l hl => ?_⟩
    walk_at "rd"
    refine ⟨(by show 1 ≤ sizeLine; decide), fun r hr' => ?_⟩
    have nlr : l ≠ r := ne_of_none upd_same hr'
    have hl0 : H l = none := hl
    have hr0 : H r = none := by rw [upd_ne nlr.symm] at hr'; exact hr'
    walk_at "rd"
    refine ⟨fun m σ H1 => ∃ (L R : List V) (o4 o5 : Option V), σ = [some x, some y, some (.ref l), some (.ref r), o4, o5] ∧ Same H H1 ∧ H1 l = some (.lst L) ∧ H1 r = some (.lst R) ∧ Als H m L R ∧ m ≤ 400000,
      ⟨n, [x], [y], none, none, rfl, by walk_at "sm", by walk_at "hp", upd_same, al, hn⟩, ?_⟩
    rintro m σ H1 ⟨L, R, o4, o5, rfl, S1, hL, hR, al1, hm⟩
    walk_at "rd"
    refine ⟨(by show 0 ≤ sizeLine; decide), fun e he => ?_⟩
    walk_at "rd"
    have S2 : Same H (upd H1 e (.lst [])) := by walk_at "sm"
    have hL2 : (upd H1 e (.lst [])) l = some (.lst L) := by walk_at "hp"
    have hR2 : (upd H1 e (.lst [])) r = some (.lst R) := by walk_at "hp"
    generalize upd H1 e (.lst []) = H2 at S2 hL2 hR2 ⊢
    rcases al1.snoc with ⟨rfl, rfl, rfl⟩ | ⟨L0, R0, x1, y1, n0, k, rfl, rfl, al0, alx, rfl⟩
    · refine iteF ?_
      walk_at "rd"
      exact q _ S2
    have e1 : (!(R0 ++ [y1]).isEmpty) = true := by cases R0 <;> rfl
    rw [e1]
    refine iteT ⟨fun σ' H' => ∃ m', m' < n0 + k ∧ ∃ (L R : List V) (o4 o5 : Option V), σ' = [some x, some y, some (.ref l), some (.ref r), o4, o5] ∧ Same H H' ∧ H' l = some (.lst L) ∧ H' r = some (.lst R) ∧ Als H m' L R ∧ m' ≤ 400000, fun _ _ h => h, ?_⟩
    walk_at "rd"
    refine rd_pop hL2 ?_
    walk_at "rd"
    refine rd_pop (by walk_at "hp") ?_
    have S3 : Same H (upd (upd H2 l (.lst L0)) r (.lst R0)) := by walk_at "sm"
    have hL3 : (upd (upd H2 l (.lst L0)) r (.lst R0)) l = some (.lst L0) := by walk_at "hp"
    have hR3 : (upd (upd H2 l (.lst L0)) r (.lst R0)) r = some (.lst R0) := by walk_at "hp"
    generalize upd (upd H2 l (.lst L0)) r (.lst R0) = H3 at S3 hL3 hR3 ⊢
    walk_at "rd"
    refine ⟨(by show 2 ≤ sizeLine; decide), fun t ht => ?_⟩
    walk_at "rd"
    have S4 : Same H (upd H3 t (.tup [.ty "list", .ty "tuple"])) := by walk_at "sm"
    have hL4 : (upd H3 t (.tup [.ty "list", .ty "tuple"])) l = some (.lst L0) := by walk_at "hp"
    have hR4 : (upd H3 t (.tup [.ty "list", .ty "tuple"])) r = some (.lst R0) := by walk_at "hp"
    have hT4 : (upd H3 t (.tup [.ty "list", .ty "tuple"])) t = some (.tup [.ty "list", .ty "tuple"]) := upd_same
    generalize upd H3 t (.tup [.ty "list", .ty "tuple"]) = H4 at S4 hL4 hR4 hT4 ⊢
    have hz := al0.len
    cases alx with
    | bl b t =>
      cases t
      refine rd_instT hT4 (.bl b) kitA_b ?_
      walk_at "rd"
      refine iteF ?_
      walk_at "rd"
      refine rd_inst (.bl b) kit_bb ?_
      walk_at "rd"
      refine iteT ?_
      walk_at "rd"
      refine rd_inst (.bl b) kit_bb ?_
      walk_at "rd"
      refine iteF ?_
      walk_at "rd"
      refine if_nne ?_
      walk_at "rd"
      exact ⟨n0, by omega, L0, R0, _, _, rfl, S4, hL4, hR4, al0, by omega⟩
    | int b t =>
      cases t
      refine rd_instT hT4 (.int b) kitA_i ?_
      walk_at "rd"
      refine iteF ?_
      walk_at "rd"
      refine rd_inst (.int b) kit_ib ?_
      walk_at "rd"
      refine iteF ?_
      walk_at "rd"
      refine rd_inst (.int b) kit_is ?_
      walk_at "rd"
      refine iteF ?_
      walk_at "rd"
      refine ⟨b, rfl, ?_⟩
      walk_at "rd"
      refine iteF ?_
      walk_at "rd"
      refine if_nne ?_
      walk_at "rd"
      exact ⟨n0, by omega, L0, R0, _, _, rfl, S4, hL4, hR4, al0, by omega⟩
    | str b t =>
      cases t
      refine rd_instT hT4 (.str b) kitA_s ?_
      walk_at "rd"
      refine iteF ?_
      walk_at "rd"
      refine rd_inst (.str b) kit_sb ?_
      walk_at "rd"
      refine iteF ?_
      walk_at "rd"
      refine rd_inst (.str b) kit_ss ?_
      walk_at "rd"
      refine iteT ?_
      walk_at "rd"
      refine rd_inst (.str b) kit_ss ?_
      walk_at "rd"
      refine iteF ?_
      walk_at "rd"
      refine if_nne ?_
      walk_at "rd"
      exact ⟨n0, by omega, L0, R0, _, _, rfl, S4, hL4, hR4, al0, by omega⟩
    | @lst _ mm _ _ as bs a b ea eb ab t =>
      cases t
      have ea4 := S4 _ _ ea
      have eb4 := S4 _ _ eb
      have hla := ab.len
      have nal : a ≠ l := ne_of_none ea hl0
      have nar : a ≠ r := ne_of_none ea hr0
      have nbl : b ≠ l := ne_of_none eb hl0
      have nbr : b ≠ r := ne_of_none eb hr0
      refine rd_instT hT4 (.lst eb4) kitA_l ?_
      walk_at "rd"
      refine iteT ?_
      walk_at "rd"
      refine rd_inst (.lst ea4) kit_ll ?_
      walk_at "rd"
      refine rd_inst (.lst eb4) kit_ll ?_
      walk_at "rd"
      refine if_nne ?_
      walk_at "rd"
      refine rd_inst (.lst ea4) kit_lt ?_
      walk_at "rd"
      refine rd_inst (.lst eb4) kit_lt ?_
      walk_at "rd"
      refine if_nne ?_
      walk_at "rd"
      rw [hla.2]
      refine if_nne ?_
      walk_at "rd"
      refine rd_extS hL4 (.inl ea4) (small (by omega)) ?_
      walk_at "rd"
      refine rd_extS (by walk_at "hp") (.inl (by walk_at "hp")) (small (by omega)) ?_
      exact ⟨n0 + mm, by omega, L0 ++ as, R0 ++ bs, _, _, rfl, by walk_at "sm", by walk_at "hp", by walk_at "hp", al0.app ab, by omega⟩
    | @tup _ mm _ _ as bs a b ea eb ab t =>
      cases t
      have ea4 := S4 _ _ ea
      have eb4 := S4 _ _ eb
      have hla := ab.len
      have nal : a ≠ l := ne_of_none ea hl0
      have nar : a ≠ r := ne_of_none ea hr0
      have nbl : b ≠ l := ne_of_none eb hl0
      have nbr : b ≠ r := ne_of_none eb hr0
      refine rd_instT hT4 (.tup eb4) kitA_t ?_
      walk_at "rd"
      refine iteT ?_
      walk_at "rd"
      refine rd_inst (.tup ea4) kit_tl ?_
      walk_at "rd"
      refine rd_inst (.tup eb4) kit_tl ?_
      walk_at "rd"
      refine if_nne ?_
      walk_at "rd"
      refine rd_inst (.tup ea4) kit_tt ?_
      walk_at "rd"
      refine rd_inst (.tup eb4) kit_tt ?_
      walk_at "rd"
      refine if_nne ?_
      walk_at "rd"
      rw [hla.2]
      refine if_nne ?_
      walk_at "rd"
      refine rd_extS hL4 (.inr ea4) (small (by omega)) ?_
      walk_at "rd"
      refine rd_extS (by walk_at "hp") (.inr (by walk_at "hp")) (small (by omega)) ?_
      exact ⟨n0 + mm, by omega, L0 ++ as, R0 ++ bs, _, _, rfl, by walk_at "sm", by walk_at "hp", by walk_at "hp", al0.app ab, by omega⟩
end
end My
set_option Elab.async false
set_option linter.all false
set_option maxRecDepth 100000
set_option maxHeartbeats 4000000
namespace My
open PySem L2
seal PE PT PW PA PS PSs PC PG PGs PI PO PPs PTs
local macro_rules | `(tactic| walk_at "ne") => `(tactic| first | assumption | exact Ne.symm (by assumption))
local macro_rules | `(tactic| walk_at "hp") => `(tactic| first | assumption | (with_reducible exact upd_same) | (with_reducible apply keepN; assumption; walk_at "hp") | (with_reducible apply keepL; walk_at "ne"; walk_at "hp"))
local macro_rules | `(tactic| walk_at "sm") => `(tactic| first | assumption | (with_reducible exact Same.refl _) | (with_reducible refine Same.new ?_ (by assumption); walk_at "sm") | (with_reducible refine Same.set ?_ (by assumption); walk_at "sm"))
local macro_rules | `(tactic| walk_at "tk") => `(tactic| first | assumption | (with_reducible exact TupK.refl _) | (with_reducible refine TupK.new ?_ (by assumption); walk_at "tk") | (with_reducible refine TupK.lst ?_ (by walk_at "hp"); walk_at "tk") | (with_reducible refine TupK.dK ?_ (by walk_at "hp"); walk_at "tk") | (with_reducible refine Same.tupK ?_; walk_at "sm"))
local macro_rules | `(tactic| walk_at "sl") => `(tactic| first | assumption | (with_reducible apply SqL.of; walk_at "hp") | (with_reducible apply sameSeq; assumption; walk_at "sm"))
local macro_rules | `(tactic| walk_at "st") => `(tactic| first | assumption | (with_reducible apply SqT.of; walk_at "hp"))
local macro_rules | `(tactic| walk_at "cd") => `(tactic| first | (show (0 : Int) < _; first | decide | assumption | omega) | exact ⟨by decide, by decide⟩ | exact ⟨by decide, by decide, by decide⟩ | exact Or.inl ⟨by decide, by decide⟩ | exact Or.inr ⟨by decide, by decide⟩ | exact Or.inl ⟨by omega, by omega⟩ | exact Or.inr ⟨by omega, by omega⟩ | exact ⟨by omega, by omega⟩)
local macro_rules | `(tactic| walk_at "rd1") => `(tactic| with_reducible first
  | (apply rd_var; with_unfolding_all rfl) | apply rd_op | apply rd_C | apply rd_seq | apply rd_asg | apply rd_name | apply rd_cons | apply rd_nil | apply rd_I0 | apply rd_test | apply rd_bl | apply rd_tB
  | (apply rd_ixT; (walk_at "st"); (with_unfolding_all rfl)) | apply rd_slice | apply rd_noPart | apply rd_part | apply rd_int | apply rd_CB | apply rd_if | apply rd_call | apply rd_ret | apply rd_drop | apply rd_tup | apply rd_lst | apply rd_bm | apply rd_bm0 | (apply rd_ty; (walk_at "hp"))
  | (apply rd_I; (with_unfolding_all walk_at "cd")) | (apply rd_eq; (with_unfolding_all rfl)) | (apply rd_ne; (with_unfolding_all rfl)) | apply rd_and | apply rd_or | apply rd_not | apply rd_andV | apply rd_orV | apply rd_notV | apply rd_ifE
  | (apply rd_lenL; (walk_at "sl")) | (apply rd_lenT; (walk_at "st")) | apply rd_dnew | apply rd_dput | apply rd_din | apply rd_next | apply rd_forL | apply rd_forV | apply rd_compL | apply rd_compZ | apply rd_compT | apply rd_compR | apply rd_kget | apply rd_dget | apply rd_listRev | apply rd_chain | apply rd_ints | apply rd_un | apply rd_U | apply rd_kin | apply rd_forZT | apply rd_pcons | apply rd_pnil | (apply rd_gtup; (walk_at "st"); (with_unfolding_all rfl)) | apply rd_gcons | apply rd_gnil | apply rd_forR3 | apply rd_forR2 | apply rd_forR1 | (apply rd_itL; (walk_at "sl")) | (apply rd_neN; (walk_at "sl"); (walk_at "sl")) | (apply rd_eqN; (walk_at "sl"); (walk_at "sl")))
local macro_rules | `(tactic| walk_at "rd") => `(tactic| repeat walk_at "rd1")
local macro_rules | `(tactic| walk_at "rd0") => `(tactic| try dsimp only [cxOf, Cx.nox, Cx.wish])
section
variable {P : Program} {w : World} {K : PySem.W.Frag} {mg : Str → Option Value} {base : Heap} {f : Addr} {fd : FuncData}
theorem ok_has_pair (D : DefIn K mg "has_pair" s_has_pair ["row"] f fd) : Has P w K mg base "has_pair" 1 ["row"] (spPair K) := by
  have nd := sc_has_pair.nd
  refine D.has (D.fn.ok sc_has_pair (fun vs H Q E h => ?_) (fun cdv A outer s H vs Q E hr h => ?_))
  · obtain ⟨a, rs, ss, rfl, _⟩ := h
    rfl
  · obtain ⟨a, rs, ss, rfl, hS, hst, hz, q⟩ := h
    have hu := hu_of hr
    have hlen := Paired.length hst
    refine ⟨_, (pss_cons (ps_set (i := 1) nd rfl (Or.inl rfl) pe_dnewK)
      (pss_cons (ps_for PassesOwn.never rfl (pi_listK K (pv 0)) (pg_name (i := 2) nd rfl (Or.inl rfl)) (pss_one (ps_if (pt_cmpR op_eq (pe_ix (ix_tupK K) (pv 2) pe_int (fun _ _ => rfl)) pe_str (nomark _)) (pss_one (ps_dput hu (pv 1) (pe_ix (ix_tupK K) (pv 2) pe_int (fun _ _ => rfl)) pe_bl rfl)) pss_nil)))
      (pss_cons (ps_for PassesOwn.never rfl (pi_listK K (pv 0)) (pg_name (i := 2) nd rfl (Or.inl rfl)) (pss_one (ps_if (PW.pt (pw_and (pt_cmpR op_eq (pe_ix (ix_tupK K) (pv 2) pe_int (fun _ _ => rfl)) pe_str (nomark _)) (pw_and1 (pt_cmp (pc_din hu (pe_ix (ix_tupK K) (pv 2) pe_int (fun _ _ => rfl)) (pv 1)))))) (pss_one (ps_ret pe_bl)) pss_nil)))
      (pss_one (ps_ret pe_bl))))), ?_⟩
    walk_at "rd0"
    walk_at "rd"
    intro d hd
    walk_at "rd"
    refine for_list (xs := rs) (fun i σ H2 => ∃ (kvs : List (Key × V)) (v : Option V), σ = [some (.ref a), some (.ref d), v] ∧ Same H H2 ∧ H2 d = some (.dK kvs) ∧ kvs.length ≤ i ∧ ∀ k : Int, (valV kvs (Sum.inl k : Key)).isSome = (lampsOf (ss.take i)).contains k)
      ⟨[], none, rfl, by walk_at "sm", upd_same, Nat.le_refl _, fun k => rfl⟩ (fun i σ H2 _ ⟨_, _, _, s2, _⟩ => s2.seq hS) ?_ ?_
    · rintro i y σ H2 hi ⟨kvs, v, rfl, s2, hk, hl, hv⟩
      obtain ⟨s, hs, st⟩ := Paired.get1 hst hi
      have hil : i < rs.length := (List.getElem?_eq_some_iff.mp hi).1
      have st2 : Stm H2 y s := st.mono s2.tupK
      have keep : s.lampOf = none → ∀ k : Int, (valV kvs (Sum.inl k : Key)).isSome = (lampsOf (ss.take (i + 1))).contains k := fun e k => by
        rw [lamps_succ hs, e, Option.toList_none, List.append_nil]
        exact hv k
      cases st2 with
      | @lamp b k e =>
        walk_at "rd"
        refine if_eq ?_
        walk_at "rd"
        refine rd_putK hk (smallLt (by omega)) ?_
        refine ⟨_, _, rfl, s2.set hd, upd_same, Nat.le_trans (length_putK _ _ _) (by omega), fun k' => ?_⟩
        rw [valV_put, lamps_succ hs]
        by_cases hkk : k' = k
        · subst hkk
          simp [Say.lampOf]
        · have n : ¬ (Sum.inl k' : Key) = Sum.inl k := fun z => hkk (Sum.inl.inj z)
          rw [if_neg n, hv k']
          simp [Say.lampOf, hkk]
      | dark e =>
        walk_at "rd"
        refine if_strNe (by decide +kernel) ?_
        walk_at "rd"
        exact ⟨kvs, _, rfl, s2, hk, by omega, keep rfl⟩
      | neg e _ =>
        walk_at "rd"
        refine if_strNe (by decide +kernel) ?_
        walk_at "rd"
        exact ⟨kvs, _, rfl, s2, hk, by omega, keep rfl⟩
      | conj e _ _ =>
        walk_at "rd"
        refine if_strNe (by decide +kernel) ?_
        walk_at "rd"
        exact ⟨kvs, _, rfl, s2, hk, by omega, keep rfl⟩
      | disj e _ _ =>
        walk_at "rd"
        refine if_strNe (by decide +kernel) ?_
        walk_at "rd"
        exact ⟨kvs, _, rfl, s2, hk, by omega, keep rfl⟩
      | ev e _ =>
        walk_at "rd"
        refine if_strNe (by decide +kernel) ?_
        walk_at "rd"
        exact ⟨kvs, _, rfl, s2, hk, by omega, keep rfl⟩
      | so e _ =>
        walk_at "rd"
        refine if_strNe (by decide +kernel) ?_
        walk_at "rd"
        exact ⟨kvs, _, rfl, s2, hk, by omega, keep rfl⟩
    · rintro σ H2 ⟨kvs, v, rfl, s2, hk, hl, hv⟩
      rw [hlen, List.take_length] at hv
      have hS2 := s2.seq hS
      walk_at "rd"
      refine for_list (xs := rs) (fun i σ H2 => ∃ (v : Option V), σ = [some (.ref a), some (.ref d), v] ∧ Same H H2 ∧ H2 d = some (.dK kvs) ∧ ∀ k ∈ darksOf (ss.take i), (lampsOf ss).contains k = false)
        ⟨_, rfl, s2, hk, fun k m => by simp at m⟩ (fun i σ H2 _ ⟨_, _, s2, _⟩ => s2.seq hS) ?_ ?_
      · rintro i y σ H3 hi ⟨v, rfl, s3, hk3, hno⟩
        obtain ⟨s, hs, st⟩ := Paired.get1 hst hi
        have st2 : Stm H3 y s := st.mono s3.tupK
        have keep : s.darkOf = none → ∀ k ∈ darksOf (ss.take (i + 1)), (lampsOf ss).contains k = false := fun e k m => by
          rw [darks_succ hs, e, Option.toList_none, List.append_nil] at m
          exact hno k m
        cases st2 with
        | @dark b k e =>
          walk_at "rd"
          refine if_eq ?_
          walk_at "rd"
          refine ⟨d, _, rfl, DGet.k (k := Sum.inl k) hk3, ?_⟩
          walk_at "rd"
          rw [hv k]
          cases hc : (lampsOf ss).contains k with
          | true =>
            refine iteT ?_
            walk_at "rd"
            have e : pairB ss = true := List.any_eq_true.mpr ⟨k, dark_in hs, hc⟩
            have z := q H3 s3
            rw [e] at z
            exact z
          | false =>
            refine iteF ?_
            walk_at "rd"
            refine ⟨_, rfl, s3, hk3, fun k' m => ?_⟩
            rw [darks_succ hs] at m
            rcases List.mem_append.mp m with m | m
            · exact hno k' m
            · have : k' = k := by simpa [Say.darkOf] using m
              rw [this]; exact hc
        | lamp e =>
          walk_at "rd"
          refine if_strNe (by decide +kernel) ?_
          refine iteF ?_
          walk_at "rd"
          exact ⟨_, rfl, s3, hk3, keep rfl⟩
        | neg e _ =>
          walk_at "rd"
          refine if_strNe (by decide +kernel) ?_
          refine iteF ?_
          walk_at "rd"
          exact ⟨_, rfl, s3, hk3, keep rfl⟩
        | conj e _ _ =>
          walk_at "rd"
          refine if_strNe (by decide +kernel) ?_
          refine iteF ?_
          walk_at "rd"
          exact ⟨_, rfl, s3, hk3, keep rfl⟩
        | disj e _ _ =>
          walk_at "rd"
          refine if_strNe (by decide +kernel) ?_
          refine iteF ?_
          walk_at "rd"
          exact ⟨_, rfl, s3, hk3, keep rfl⟩
        | ev e _ =>
          walk_at "rd"
          refine if_strNe (by decide +kernel) ?_
          refine iteF ?_
          walk_at "rd"
          exact ⟨_, rfl, s3, hk3, keep rfl⟩
        | so e _ =>
          walk_at "rd"
          refine if_strNe (by decide +kernel) ?_
          refine iteF ?_
          walk_at "rd"
          exact ⟨_, rfl, s3, hk3, keep rfl⟩
      · rintro σ H3 ⟨v, rfl, s3, hk3, hno⟩
        rw [hlen, List.take_length] at hno
        walk_at "rd"
        have e : pairB ss = false := List.any_eq_false.mpr fun k m => by rw [hno k m]; exact Bool.false_ne_true
        have z := q H3 s3
        rw [e] at z
        exact z
theorem ok_above_parts (D : DefIn K mg "rows_above_by_parts" s_rows_above_by_parts ["row", "parts", "k"] f fd) : Has P w K mg base "rows_above_by_parts" 1 ["row", "parts", "k"] spAboveP := by
  have nd := sc_rows_above_by_parts.nd
  refine D.has (D.fn.ok sc_rows_above_by_parts (fun vs H Q E h => ?_) (fun cdv A outer s H vs Q E hr h => ?_))
  · obtain ⟨r, rs, ss, k, s, rfl, _⟩ := h
    rfl
  · obtain ⟨r, rs, ss, k, s, rfl, hr0, hst, hz, hk, hb, q⟩ := h
    have lrs := Paired.length hst
    obtain ⟨v, hv, sv⟩ := Paired.get2 hst hk
    refine ⟨_, (pss_cons (ps_set (i := 3) nd rfl (Or.inl rfl) (pe_ix (ix_listK K) (pv 1) (pv 2) (fun _ _ => rfl)))
      (pss_cons (ps_if (pt_cmpR op_eq (pe_ix (ix_tupK K) (pv 3) pe_int (fun _ _ => rfl)) pe_str (nomark _)) (pss_one (ps_ret (pe_lst (pa_cons (pe_op op_cat (pe_lst (pa_cons (pe_ix (ix_tupK K) (pv 3) pe_int (fun _ _ => rfl)) pa_nil)) (pe_compB ["other"] 1 [] (pi_listK K (pv 1)) (fun _ _ _ _ _ => (pg_name (i := 0) (show List.Nodup (["other"] : List Str) by decide +kernel) rfl (Or.inl rfl))) (fun _ _ _ _ _ => (pts_one (pt_cmpR op_eq (pe_ix (ix_tupK K) (pv 0) pe_int (fun _ _ => rfl)) pe_str (nomark _)))) (fun _ _ _ _ _ => (pe_ix (ix_tupK K) (pv 0) pe_int (fun _ _ => rfl))))) pa_nil)))) pss_nil)
      (pss_cons (ps_set (i := 4) nd rfl (Or.inl rfl) (pe_slice (sl_listK K) (pv 0) po_none (po_some (pv 2))))
      (pss_cons (ps_set (i := 5) nd rfl (Or.inl rfl) (pe_slice (sl_listK K) (pv 0) (po_some (pe_op op_add (pv 2) pe_int)) po_none))
      (pss_cons (ps_if (pt_cmpR op_eq (pe_ix (ix_tupK K) (pv 3) pe_int (fun _ _ => rfl)) pe_str (nomark _)) (pss_one (ps_ret (pe_lst (pa_cons (pe_op op_cat (pe_op op_cat (pv 4) (pe_lst (pa_cons (pe_ix (ix_tupK K) (pv 3) pe_int (fun _ _ => rfl)) (pa_cons (pe_ix (ix_tupK K) (pv 3) pe_int (fun _ _ => rfl)) pa_nil)))) (pv 5)) pa_nil)))) pss_nil)
      (pss_one (ps_ret (pe_lst (pa_cons (pe_op op_cat (pe_op op_cat (pv 4) (pe_lst (pa_cons (pe_ix (ix_tupK K) (pv 3) pe_int (fun _ _ => rfl)) pa_nil))) (pv 5)) (pa_cons (pe_op op_cat (pe_op op_cat (pv 4) (pe_lst (pa_cons (pe_ix (ix_tupK K) (pv 3) pe_int (fun _ _ => rfl)) pa_nil))) (pv 5)) pa_nil)))))))))), ?_⟩
    walk_at "rd0"
    walk_at "rd"
    refine rd_ixL (SqL.of hr0) (atI_nat hv) ?_
    have hkk : ((k : Nat) : Int) + 1 = ((k + 1 : Nat) : Int) := rfl
    cases sv with
    | lamp e => cases hb
    | dark e => cases hb
    | neg e h => cases hb
    | so e h => cases hb
    | @ev a x t e sx =>
      have eA : aboveS ss k = [t :: sos ss] := by unfold aboveS; rw [hk]
      rw [eA] at q
      walk_at "rd"
      refine if_eq ?_
      walk_at "rd"
      refine ⟨(by show 1 ≤ sizeLine; decide), fun p1 hp1 => ?_⟩
      have SN : Same H (upd H p1 (.lst [x])) := by walk_at "sm"
      have hx1 : (upd H p1 (.lst [x])) p1 = some (.lst [x]) := upd_same
      generalize upd H p1 (.lst [x]) = H2 at SN hx1 ⊢
      have hr2 := SN _ _ hr0
      have hst2 := hst.mono SN.tupK
      walk_at "rd"
      refine comp_accum (β := Say) (SqL.of hr2) (by omega) fun Dz hDz => ⟨fun i => sos (ss.take i), fun H y b => Stm H y b, rfl, fun i _ => sos_len ss i, fun _ _ _ _ z _ T => z.mono T, fun i y H3 ys C1 C2 hx S3 hd h1 h2 => ?_, fun ys H3 S3 hD3 hP => ?_⟩
      · obtain ⟨u, hu, su⟩ := Paired.get1 hst2 hx
        obtain ⟨ax, xs, rfl, ex, hkd⟩ := Stm.parts (su.mono S3.tupK)
        walk_at "rd"
        refine rd_ixT (SqT.of ex) (atI_zero _ _) ?_
        walk_at "rd"
        refine if_dec (fun hs => ?_) (fun hs => ?_)
        · obtain ⟨z, rfl⟩ := so_of (V.str.inj hs)
          have kd := hkd rfl
          cases kd with
          | @cons x1 _ _ _ sx1 tl =>
            cases tl
            walk_at "rd"
            exact h1 _ _ z (Same.refl _) sx1 (sos_yes hu)
        · exact h2 _ (Same.refl _) (sos_no hu fun e => hs (by rw [e]))
      · walk_at "rd"
        have hx3 := S3 _ _ hx1
        have hP : Stms H3 ys (sos (ss.take rs.length)) := hP
        have lys := Paired.length hP
        have hsl := sos_len ss rs.length
        refine rd_cat hx3 hD3 (small (by simp only [List.length_cons, List.length_nil]; omega)) fun p4 hp4 => ?_
        walk_at "rd"
        refine ⟨(by show 1 ≤ sizeLine; decide), fun p5 hp5 => ?_⟩
        have T5 : TupK H3 (upd (upd H3 p4 (.lst ([x] ++ ys))) p5 (.lst [.ref p4])) := by walk_at "tk"
        have SF : Same H (upd (upd H3 p4 (.lst ([x] ++ ys))) p5 (.lst [.ref p4])) := ((SN.trans S3).new hp4).new hp5
        have hp5' : H p5 = none := by
          cases hh : H p5 with
          | none => rfl
          | some o => rw [keepN hp4 (S3 _ _ (SN _ _ hh))] at hp5; cases hp5
        refine q p5 _ _ SF hp5' upd_same (.cons ⟨p4, [x] ++ ys, rfl, keepN hp5 upd_same, .cons (sx.mono (SN.tupK.trans (S3.tupK.trans T5))) ?_⟩ .nil)
        rw [lrs, List.take_length] at hP
        exact Stms.mono hP T5
    | @disj a x y s1 s2 e sx sy =>
      have eA : aboveS ss k = [ss.take k ++ [s1, s2] ++ ss.drop (k + 1)] := by unfold aboveS; rw [hk]
      rw [eA] at q
      walk_at "rd"
      refine if_strNe (by decide +kernel) ?_
      walk_at "rd"
      refine rd_slL (SqL.of hr0) fun p1 hp1 => ?_
      rw [cut_take]
      walk_at "rd"
      rw [hkk]
      refine rd_slL (SqL.of (keepN hp1 hr0)) fun p2 hp2 => ?_
      rw [cut_drop]
      walk_at "rd"
      have SN : Same H (upd (upd H p1 (.lst (rs.take k))) p2 (.lst (rs.drop (k + 1)))) := by walk_at "sm"
      have h1 : (upd (upd H p1 (.lst (rs.take k))) p2 (.lst (rs.drop (k + 1)))) p1 = some (.lst (rs.take k)) := by walk_at "hp"
      have h2 : (upd (upd H p1 (.lst (rs.take k))) p2 (.lst (rs.drop (k + 1)))) p2 = some (.lst (rs.drop (k + 1))) := upd_same
      generalize upd (upd H p1 (.lst (rs.take k))) p2 (.lst (rs.drop (k + 1))) = H2 at SN h1 h2 ⊢
      have e2 := SN _ _ e
      walk_at "rd"
      refine if_eq ?_
      walk_at "rd"
      refine ⟨(by show 2 ≤ sizeLine; decide), fun p3 hp3 => ?_⟩
      walk_at "rd"
      refine rd_cat (keepN hp3 h1) upd_same (small (by rw [List.length_take]; simp only [List.length_cons, List.length_nil]; omega)) fun p4 hp4 => ?_
      walk_at "rd"
      refine rd_cat upd_same (keepN hp4 (keepN hp3 h2)) (small (by rw [List.length_append, List.length_take, List.length_drop]; simp only [List.length_cons, List.length_nil]; omega)) fun p5 hp5 => ?_
      walk_at "rd"
      refine ⟨(by show 1 ≤ sizeLine; decide), fun p6 hp6 => ?_⟩
      have SF := (((SN.new (o := .lst [x, y]) hp3).new (o := .lst (rs.take k ++ [x, y])) hp4).new (o := .lst (rs.take k ++ [x, y] ++ rs.drop (k + 1))) hp5).new (o := .lst [.ref p5]) hp6
      have hp6' : H p6 = none := by
        cases hh : H p6 with
        | none => rfl
        | some o => rw [keepN hp5 (keepN hp4 (keepN hp3 (SN _ _ hh)))] at hp6; cases hp6
      exact q p6 _ _ SF hp6' upd_same (.cons ⟨p5, _, rfl, keepN hp6 upd_same, Paired.app (Paired.app (Paired.take1 k (hst.mono SF.tupK)) (.cons (sx.mono SF.tupK) (.cons (sy.mono SF.tupK) .nil))) (Paired.drop1 (k + 1) (hst.mono SF.tupK))⟩ .nil)
    | @conj a x y s1 s2 e sx sy =>
      have eA : aboveS ss k = [ss.take k ++ [s1] ++ ss.drop (k + 1), ss.take k ++ [s2] ++ ss.drop (k + 1)] := by unfold aboveS; rw [hk]
      rw [eA] at q
      walk_at "rd"
      refine if_strNe (by decide +kernel) ?_
      walk_at "rd"
      refine rd_slL (SqL.of hr0) fun p1 hp1 => ?_
      rw [cut_take]
      walk_at "rd"
      rw [hkk]
      refine rd_slL (SqL.of (keepN hp1 hr0)) fun p2 hp2 => ?_
      rw [cut_drop]
      walk_at "rd"
      have SN : Same H (upd (upd H p1 (.lst (rs.take k))) p2 (.lst (rs.drop (k + 1)))) := by walk_at "sm"
      have h1 : (upd (upd H p1 (.lst (rs.take k))) p2 (.lst (rs.drop (k + 1)))) p1 = some (.lst (rs.take k)) := by walk_at "hp"
      have h2 : (upd (upd H p1 (.lst (rs.take k))) p2 (.lst (rs.drop (k + 1)))) p2 = some (.lst (rs.drop (k + 1))) := upd_same
      generalize upd (upd H p1 (.lst (rs.take k))) p2 (.lst (rs.drop (k + 1))) = H2 at SN h1 h2 ⊢
      have e2 := SN _ _ e
      walk_at "rd"
      refine if_strNe (by decide +kernel) ?_
      walk_at "rd"
      refine ⟨(by show 1 ≤ sizeLine; decide), fun p3 hp3 => ?_⟩
      walk_at "rd"
      refine rd_cat (keepN hp3 h1) upd_same (small (by rw [List.length_take]; simp only [List.length_cons, List.length_nil]; omega)) fun p4 hp4 => ?_
      walk_at "rd"
      refine rd_cat upd_same (keepN hp4 (keepN hp3 h2)) (small (by rw [List.length_append, List.length_take, List.length_drop]; simp only [List.length_cons, List.length_nil]; omega)) fun p5 hp5 => ?_
      have S25 := ((Same.new (o := .lst [x]) (Same.refl H2) hp3).new (o := .lst (rs.take k ++ [x])) hp4).new (o := .lst (rs.take k ++ [x] ++ rs.drop (k + 1))) hp5
      have hp55 : (upd (upd (upd H2 p3 (.lst [x])) p4 (.lst (rs.take k ++ [x]))) p5 (.lst (rs.take k ++ [x] ++ rs.drop (k + 1)))) p5 = some (.lst (rs.take k ++ [x] ++ rs.drop (k + 1))) := upd_same
      generalize upd (upd (upd H2 p3 (.lst [x])) p4 (.lst (rs.take k ++ [x]))) p5 (.lst (rs.take k ++ [x] ++ rs.drop (k + 1))) = H5 at S25 hp55 ⊢
      have e5 := S25 _ _ e2
      have h15 := S25 _ _ h1
      have h25 := S25 _ _ h2
      walk_at "rd"
      refine ⟨(by show 1 ≤ sizeLine; decide), fun p6 hp6 => ?_⟩
      walk_at "rd"
      refine rd_cat (keepN hp6 h15) upd_same (small (by rw [List.length_take]; simp only [List.length_cons, List.length_nil]; omega)) fun p7 hp7 => ?_
      walk_at "rd"
      refine rd_cat upd_same (keepN hp7 (keepN hp6 h25)) (small (by rw [List.length_append, List.length_take, List.length_drop]; simp only [List.length_cons, List.length_nil]; omega)) fun p8 hp8 => ?_
      walk_at "rd"
      refine ⟨(by show 2 ≤ sizeLine; decide), fun p9 hp9 => ?_⟩
      have S59 := (((Same.new (o := .lst [y]) (Same.refl H5) hp6).new (o := .lst (rs.take k ++ [y])) hp7).new (o := .lst (rs.take k ++ [y] ++ rs.drop (k + 1))) hp8).new (o := .lst [.ref p5, .ref p8]) hp9
      have SF := (SN.trans S25).trans S59
      have hp9' : H p9 = none := by
        cases hh : H p9 with
        | none => rfl
        | some o => rw [keepN hp8 (keepN hp7 (keepN hp6 (S25 _ _ (SN _ _ hh))))] at hp9; cases hp9
      exact q p9 _ _ SF hp9' upd_same (.cons ⟨p5, _, rfl, S59 _ _ hp55, Paired.app (Paired.app (Paired.take1 k (hst.mono SF.tupK)) (.cons (sx.mono SF.tupK) .nil)) (Paired.drop1 (k + 1) (hst.mono SF.tupK))⟩
        (.cons ⟨p8, _, rfl, keepN hp9 upd_same, Paired.app (Paired.app (Paired.take1 k (hst.mono SF.tupK)) (.cons (sy.mono SF.tupK) .nil)) (Paired.drop1 (k + 1) (hst.mono SF.tupK))⟩ .nil))
theorem ok_rows_above (D : DefIn K mg "rows_above" s_rows_above ["row", "k"] f fd) (h_rows_above_by_parts : Has P w K mg base "rows_above_by_parts" 1 ["row", "parts", "k"] spAboveP) : Has P w K mg base "rows_above" 2 ["row", "k"] spAbove := by
  have nd := sc_rows_above.nd
  refine D.has (D.fn.ok sc_rows_above (fun vs H Q E h => ?_) (fun cdv A outer s H vs Q E hr h => ?_))
  · obtain ⟨r, rs, ss, k, s, rfl, _⟩ := h
    rfl
  · obtain ⟨r, rs, ss, k, s, rfl, h⟩ := h
    refine ⟨_, (pss_one (ps_ret (pe_callH h_rows_above_by_parts hr (pa_cons (pv 0) (pa_cons (pv 0) (pa_cons (pv 1) pa_nil)))))), ?_⟩
    walk_at "rd0"
    walk_at "rd"
    exact ⟨r, rs, ss, k, s, rfl, h⟩
end
end My
set_option Elab.async false
set_option linter.all false
set_option maxRecDepth 100000
set_option maxHeartbeats 4000000
namespace My
open PySem L2
seal PE PT PW PA PS PSs PC PG PGs PI PO PPs PTs
local macro_rules | `(tactic| walk_at "ne") => `(tactic| first | assumption | exact Ne.symm (by assumption))
local macro_rules | `(tactic| walk_at "hp") => `(tactic| first | assumption | (with_reducible exact upd_same) | (with_reducible apply keepN; assumption; walk_at "hp") | (with_reducible apply keepL; walk_at "ne"; walk_at "hp"))
local macro_rules | `(tactic| walk_at "sm") => `(tactic| first | assumption | (with_reducible exact Same.refl _) | (with_reducible refine Same.new ?_ (by assumption); walk_at "sm") | (with_reducible refine Same.set ?_ (by assumption); walk_at "sm"))
local macro_rules | `(tactic| walk_at "tk") => `(tactic| first | assumption | (with_reducible exact TupK.refl _) | (with_reducible refine TupK.new ?_ (by assumption); walk_at "tk") | (with_reducible refine TupK.lst ?_ (by walk_at "hp"); walk_at "tk") | (with_reducible refine TupK.dK ?_ (by walk_at "hp"); walk_at "tk") | (with_reducible refine Same.tupK ?_; walk_at "sm"))
local macro_rules | `(tactic| walk_at "sl") => `(tactic| first | assumption | (with_reducible apply SqL.of; walk_at "hp") | (with_reducible apply sameSeq; assumption; walk_at "sm"))
local macro_rules | `(tactic| walk_at "st") => `(tactic| first | assumption | (with_reducible apply SqT.of; walk_at "hp"))
local macro_rules | `(tactic| walk_at "cd") => `(tactic| first | (show (0 : Int) < _; first | decide | assumption | omega) | exact ⟨by decide, by decide⟩ | exact ⟨by decide, by decide, by decide⟩ | exact Or.inl ⟨by decide, by decide⟩ | exact Or.inr ⟨by decide, by decide⟩ | exact Or.inl ⟨by omega, by omega⟩ | exact Or.inr ⟨by omega, by omega⟩ | exact ⟨by omega, by omega⟩)
local macro_rules | `(tactic| walk_at "rd1") => `(tactic| with_reducible first
  | (apply rd_var; with_unfolding_all rfl) | apply rd_op | apply rd_C | apply rd_seq | apply rd_asg | apply rd_name | apply rd_cons | apply rd_nil | apply rd_I0 | apply rd_test | apply rd_bl | apply rd_tB
  | (apply rd_ixT; (walk_at "st"); (with_unfolding_all rfl)) | apply rd_slice | apply rd_noPart | apply rd_part | apply rd_int | apply rd_CB | apply rd_if | apply rd_call | apply rd_ret | apply rd_drop | apply rd_tup | apply rd_lst | apply rd_bm | apply rd_bm0 | (apply rd_ty; (walk_at "hp"))
  | (apply rd_I; (with_unfolding_all walk_at "cd")) | (apply rd_eq; (with_unfolding_all rfl)) | (apply rd_ne; (with_unfolding_all rfl)) | apply rd_and | apply rd_or | apply rd_not | apply rd_andV | apply rd_orV | apply rd_notV | apply rd_ifE
  | (apply rd_lenL; (walk_at "sl")) | (apply rd_lenT; (walk_at "st")) | apply rd_dnew | apply rd_dput | apply rd_din | apply rd_next | apply rd_forL | apply rd_forV | apply rd_compL | apply rd_compZ | apply rd_compT | apply rd_compR | apply rd_kget | apply rd_dget | apply rd_listRev | apply rd_chain | apply rd_ints | apply rd_un | apply rd_U | apply rd_kin | apply rd_forZT | apply rd_pcons | apply rd_pnil | (apply rd_gtup; (walk_at "st"); (with_unfolding_all rfl)) | apply rd_gcons | apply rd_gnil | apply rd_forR3 | apply rd_forR2 | apply rd_forR1 | (apply rd_itL; (walk_at "sl")) | (apply rd_neN; (walk_at "sl"); (walk_at "sl")) | (apply rd_eqN; (walk_at "sl"); (walk_at "sl")))
local macro_rules | `(tactic| walk_at "rd") => `(tactic| repeat walk_at "rd1")
local macro_rules | `(tactic| walk_at "rd0") => `(tactic| try dsimp only [cxOf, Cx.nox, Cx.wish])
section
variable {P : Program} {w : World} {K : PySem.W.Frag} {mg : Str → Option Value} {base : Heap} {f : Addr} {fd : FuncData}
theorem ok_reason_fits {a_LINES_TOLD : Addr} (D : DefIn K mg "reason_fits" s_reason_fits ["row", "reason"] f fd) (B : Blt mg) (c_LINES_TOLD : mg "LINES_TOLD" = some (.ref a_LINES_TOLD)) (t_LINES_TOLD : KDict P K w a_LINES_TOLD told3) : Has P w K mg base "reason_fits" 1 ["row", "reason"] (spFits K) := by
  have nd := sc_reason_fits.nd
  refine D.has (D.fn.ok sc_reason_fits (fun vs H Q E h => ?_) (fun cdv A outer s H vs Q E hr h => ?_))
  · obtain ⟨r, q, rs, row, k, spot, told, rfl, _⟩ := h
    rfl
  · obtain ⟨r, q, rs, row, k, spot, told, rfl, hr0, hst, hz, hq0, ok, qq⟩ := h
    have hq : H q = some (.tup (.str k :: .int spot :: told.map V.int)) := hq0
    have lrs := Paired.length hst
    refine ⟨_, (pss_cons (ps_set (i := 2) nd rfl (Or.inl rfl) (pe_ix (ix_tupK K) (pv 1) pe_int (fun _ _ => rfl)))
      (pss_cons (ps_if (PW.pt (pw_or (pt_cmp (pc_knotin P K w (pv 2) (pe_glob (v := .ref a_LINES_TOLD) rfl c_LINES_TOLD rfl))) (pw_or1 (pt_cmpR op_ne (pe_callB (call_lenK K) rfl B.len PySem.boot_len (pa_cons (pv 1) pa_nil)) (pe_op op_add pe_int (pe_kget P K w (pe_glob (v := .ref a_LINES_TOLD) rfl c_LINES_TOLD rfl) (pv 2) (fun _ _ => rfl))) (nomark _))))) (pss_one (ps_ret pe_bl)) pss_nil)
      (pss_cons (ps_set (i := 3) nd rfl (Or.inl rfl) (pe_ix (ix_tupK K) (pv 1) pe_int (fun _ _ => rfl)))
      (pss_one (ps_ret (pe_and (pe_chain op_le op_lt pe_int (pv 3) (pe_callB (call_lenK K) rfl B.len PySem.boot_len (pa_cons (pv 0) pa_nil))) (pe_one (pe_cmpR op_eq (pe_ix (ix_tupK K) (pe_ix (ix_listK K) (pv 0) (pv 3) (fun _ _ => rfl)) pe_int (fun _ _ => rfl)) (pv 2) (nomark _))))))))), ?_⟩
    walk_at "rd0"
    walk_at "rd"
    refine rd_ixT (SqT.of hq) (atI_zero _ _) ?_
    walk_at "rd"
    refine ⟨a_LINES_TOLD, told3, .inr k, rfl, t_LINES_TOLD, rfl, ?_⟩
    walk_at "rd"
    rw [told_val ok]
    refine iteF ?_
    walk_at "rd"
    refine rd_kgetS t_LINES_TOLD (told_val ok) ?_
    walk_at "rd"
    have el : ((V.str k :: V.int spot :: told.map V.int).length : Int) = 2 + (told.length : Int) := by simp only [List.length_cons, List.length_map]; omega
    rw [el]
    refine if_nne ?_
    walk_at "rd"
    refine rd_ixT (SqT.of hq) (atI_one _ _ _) ?_
    walk_at "rd"
    refine if_dec (fun h0 => ?_) (fun h0 => ?_)
    · walk_at "rd"
      rw [lrs]
      refine if_dec (fun h1 => ?_) (fun h1 => ?_)
      · obtain ⟨n, rfl⟩ : ∃ n : Nat, spot = (n : Int) := ⟨spot.toNat, by omega⟩
        have hn : n < row.length := by omega
        obtain ⟨v, hv, sv⟩ := Paired.get2 hst (List.getElem?_eq_getElem hn)
        obtain ⟨a, xs, rfl, ex, _⟩ := Stm.parts sv
        walk_at "rd"
        refine rd_ixL (SqL.of hr0) (atI_nat hv) ?_
        walk_at "rd"
        refine rd_ixT (SqT.of ex) (atI_zero _ _) ?_
        walk_at "rd"
        have e : fitsB row k (n : Int) = decide (V.str row[n].tag = V.str k) := by
          unfold fitsB tagAt
          rw [decide_eq_true h0, decide_eq_true h1, Int.toNat_natCast, List.getElem?_eq_getElem hn, Bool.eq_iff_iff]
          simp
        rw [e] at qq
        exact qq
      · walk_at "rd"
        have e : fitsB row k spot = false := by
          unfold fitsB
          rw [decide_eq_false h1]
          simp
        rw [e] at qq
        exact qq
    · walk_at "rd"
      refine iteF ?_
      have e : fitsB row k spot = false := by
        unfold fitsB
        rw [decide_eq_false h0]
        simp
      rw [e] at qq
      exact qq
end
end My
set_option Elab.async false
set_option linter.all false
set_option maxRecDepth 100000
set_option maxHeartbeats 4000000
namespace My
open PySem L2
seal PE PT PW PA PS PSs PC PG PGs PI PO PPs PTs
local macro_rules | `(tactic| walk_at "ne") => `(tactic| first | assumption | exact Ne.symm (by assumption))
local macro_rules | `(tactic| walk_at "hp") => `(tactic| first | assumption | (with_reducible exact upd_same) | (with_reducible apply keepN; assumption; walk_at "hp") | (with_reducible apply keepL; walk_at "ne"; walk_at "hp"))
local macro_rules | `(tactic| walk_at "sm") => `(tactic| first | assumption | (with_reducible exact Same.refl _) | (with_reducible refine Same.new ?_ (by assumption); walk_at "sm") | (with_reducible refine Same.set ?_ (by assumption); walk_at "sm"))
local macro_rules | `(tactic| walk_at "tk") => `(tactic| first | assumption | (with_reducible exact TupK.refl _) | (with_reducible refine TupK.new ?_ (by assumption); walk_at "tk") | (with_reducible refine TupK.lst ?_ (by walk_at "hp"); walk_at "tk") | (with_reducible refine TupK.dK ?_ (by walk_at "hp"); walk_at "tk") | (with_reducible refine Same.tupK ?_; walk_at "sm"))
local macro_rules | `(tactic| walk_at "sl") => `(tactic| first | assumption | (with_reducible apply SqL.of; walk_at "hp") | (with_reducible apply sameSeq; assumption; walk_at "sm"))
local macro_rules | `(tactic| walk_at "st") => `(tactic| first | assumption | (with_reducible apply SqT.of; walk_at "hp"))
local macro_rules | `(tactic| walk_at "cd") => `(tactic| first | (show (0 : Int) < _; first | decide | assumption | omega) | exact ⟨by decide, by decide⟩ | exact ⟨by decide, by decide, by decide⟩ | exact Or.inl ⟨by decide, by decide⟩ | exact Or.inr ⟨by decide, by decide⟩ | exact Or.inl ⟨by omega, by omega⟩ | exact Or.inr ⟨by omega, by omega⟩ | exact ⟨by omega, by omega⟩)
local macro_rules | `(tactic| walk_at "rd1") => `(tactic| with_reducible first
  | (apply rd_var; with_unfolding_all rfl) | apply rd_op | apply rd_C | apply rd_seq | apply rd_asg | apply rd_name | apply rd_cons | apply rd_nil | apply rd_I0 | apply rd_test | apply rd_bl | apply rd_tB
  | (apply rd_ixT; (walk_at "st"); (with_unfolding_all rfl)) | apply rd_slice | apply rd_noPart | apply rd_part | apply rd_int | apply rd_CB | apply rd_if | apply rd_call | apply rd_ret | apply rd_drop | apply rd_tup | apply rd_lst | apply rd_bm | apply rd_bm0 | (apply rd_ty; (walk_at "hp"))
  | (apply rd_I; (with_unfolding_all walk_at "cd")) | (apply rd_eq; (with_unfolding_all rfl)) | (apply rd_ne; (with_unfolding_all rfl)) | apply rd_and | apply rd_or | apply rd_not | apply rd_andV | apply rd_orV | apply rd_notV | apply rd_ifE
  | (apply rd_lenL; (walk_at "sl")) | (apply rd_lenT; (walk_at "st")) | apply rd_dnew | apply rd_dput | apply rd_din | apply rd_next | apply rd_forL | apply rd_forV | apply rd_compL | apply rd_compZ | apply rd_compT | apply rd_compR | apply rd_kget | apply rd_dget | apply rd_listRev | apply rd_chain | apply rd_ints | apply rd_un | apply rd_U | apply rd_kin | apply rd_forZT | apply rd_pcons | apply rd_pnil | (apply rd_gtup; (walk_at "st"); (with_unfolding_all rfl)) | apply rd_gcons | apply rd_gnil | apply rd_forR3 | apply rd_forR2 | apply rd_forR1 | (apply rd_itL; (walk_at "sl")) | (apply rd_neN; (walk_at "sl"); (walk_at "sl")) | (apply rd_eqN; (walk_at "sl"); (walk_at "sl")))
local macro_rules | `(tactic| walk_at "rd") => `(tactic| repeat walk_at "rd1")
local macro_rules | `(tactic| walk_at "rd0") => `(tactic| try dsimp only [cxOf, Cx.nox, Cx.wish])
section
variable {P : Program} {w : World} {K : PySem.W.Frag} {mg : Str → Option Value} {base : Heap} {f : Addr} {fd : FuncData}
theorem ok_is_right (D : DefIn K mg "is_right" s_is_right ["lines", "place"] f fd) (B : Blt mg) (h_has_pair : Has P w K mg base "has_pair" 1 ["row"] (spPair K)) (h_reason_fits : Has P w K mg base "reason_fits" 1 ["row", "reason"] (spFits K)) (h_rows_above : Has P w K mg base "rows_above" 2 ["row", "k"] spAbove) :
    Has P w K mg base "is_right" 20 ["lines", "place"] spRight := by
  have nd := sc_is_right.nd
  refine D.has (D.fn.ok sc_is_right (fun vs H Q E h => ?_) (fun cdv A outer s H vs Q E hr h => ?_))
  · obtain ⟨a, i, Ls, l, rfl, _⟩ := h
    rfl
  · obtain ⟨a, i, Ls, ⟨row, rsn⟩, rfl, ⟨lv, hl, hp⟩, hsz, hi, q⟩ := h
    have huD := huD_of (m := 400) hr (by decide)
    have lls := Paired.length hp
    obtain ⟨v, hv, t, ra, rr, rvs, rfl, ht, hra, srow, hrr⟩ := Paired.get2 hp hi
    obtain ⟨hok, hrl, hdp⟩ := hsz.2 _ (List.mem_of_getElem? hi)
    have srow : Stms H rvs row := srow
    have hrl : row.length ≤ 100 := hrl
    have lrv := Paired.length srow
    refine ⟨_, (pss_cons (ps_set (i := 2) nd rfl (Or.inl rfl) (pe_ix (ix_tupK K) (pe_ix (ix_listK K) (pv 0) (pv 1) (fun _ _ => rfl)) pe_int (fun _ _ => rfl)))
      (pss_cons (ps_set (i := 3) nd rfl (Or.inl rfl) (pe_ix (ix_tupK K) (pe_ix (ix_listK K) (pv 0) (pv 1) (fun _ _ => rfl)) pe_int (fun _ _ => rfl)))
      (pss_cons (ps_if (pt_cmpR (op_eqD huD) (pv 3) (pe_tup (pa_cons pe_str pa_nil)) (nomark _)) (pss_one (ps_ret (pe_callH h_has_pair hr (pa_cons (pv 2) pa_nil)))) pss_nil)
      (pss_cons (ps_if (pt_not (pt_val (pe_callH h_reason_fits hr (pa_cons (pv 2) (pa_cons (pv 3) pa_nil))))) (pss_one (ps_ret pe_bl)) pss_nil)
      (pss_cons (ps_for PassesOwn.never rfl (pi_zipT K rfl B.zip (pa_cons (pe_slice (sl_tupK K) (pv 3) (po_some pe_int) po_none) (pa_cons (pe_callH h_rows_above hr (pa_cons (pv 2) (pa_cons (pe_ix (ix_tupK K) (pv 3) pe_int (fun _ _ => rfl)) pa_nil))) pa_nil))) (pg_tupK (n := 2) K rfl (pgs_cons (pg_name (i := 4) nd rfl (Or.inl rfl)) (pgs_cons (pg_name (i := 5) nd rfl (Or.inl rfl)) pgs_nil))) (pss_one (ps_if (pt_not (PW.pt (pw_and (pt_chain op_le op_lt pe_int (pv 4) (pv 1)) (pw_and1 (pt_cmpR (op_eqD huD) (pe_ix (ix_tupK K) (pe_ix (ix_listK K) (pv 0) (pv 4) (fun _ _ => rfl)) pe_int (fun _ _ => rfl)) (pv 5) (nomark _)))))) (pss_one (ps_ret pe_bl)) pss_nil)))
      (pss_one (ps_ret pe_bl))))))), ?_⟩
    walk_at "rd0"
    walk_at "rd"
    refine rd_ixL (SqL.of hl) (atI_nat hv) ?_
    walk_at "rd"
    refine rd_ixL (SqL.of hl) (atI_nat hv) ?_
    walk_at "rd"
    refine ⟨(by show 1 ≤ sizeLine; decide), fun p1 hp1 => ?_⟩
    have S1 : Same H (upd H p1 (.tup [.str "pair"])) := by walk_at "sm"
    have hp1' : (upd H p1 (.tup [.str "pair"])) p1 = some (.tup [.str "pair"]) := upd_same
    generalize upd H p1 (.tup [.str "pair"]) = H1 at S1 hp1' ⊢
    refine rd_eqD (.tup (S1 _ _ hrr) (rsn_datas _ _)) (.tup hp1' (.cons (.str _) .nil)) (rsn_lay hok) (by decide +kernel) (by simp only [PyData.depth, PyData.depthAll]; omega) ?_
    rw [eqv_tup]
    walk_at "rd"
    cases rsn with
    | pair =>
      rw [show PyData.eqvAll Rsn.pair.data [.str "pair"] = true from by decide +kernel]
      refine iteT ?_
      walk_at "rd"
      exact ⟨ra, rvs, row, rfl, SqL.of (S1 _ _ hra), srow.mono S1.tupK, by omega, fun H' S' => q H' (S1.trans S')⟩
    | ofk k spot told =>
      have e0 : PyData.eqvAll (Rsn.ofk k spot told).data [.str "pair"] = false := by
        show PyData.eqvAll (.str k :: .int spot :: told.map PyData.int) [.str "pair"] = false
        rw [eqvAll_one, eqvAll_nl, Bool.and_false]
      rw [e0]
      refine iteF ?_
      have hra1 := S1 _ _ hra
      have hrr1 := S1 _ _ hrr
      have srow1 := srow.mono S1.tupK
      walk_at "rd"
      refine ⟨ra, rr, rvs, row, k, spot, told, rfl, hra1, srow1, hrl, hrr1, hok, ?_⟩
      walk_at "rd"
      cases hfit : fitsB row k spot with
      | false =>
        refine iteT ?_
        walk_at "rd"
        have e : rightB Ls i ⟨row, .ofk k spot told⟩ = false := by show (fitsB row k spot && _) = false; rw [hfit, Bool.false_and]
        rw [e] at q
        exact q _ S1
      | true =>
        refine iteF ?_
        obtain ⟨n, s, rfl, hs, hts⟩ := fits_of hfit
        have hbk : s.brk = true := brk_tag hts (by rcases hok with ⟨h, _⟩ | ⟨h, _⟩ | ⟨h, _⟩; exact .inl h; exact .inr (.inl h); exact .inr (.inr h))
        have htl := above_told hs hts hok
        have hrr1' : H1 rr = some (.tup (.str k :: .int (n : Int) :: told.map V.int)) := hrr1
        walk_at "rd"
        refine rd_slTd (k := 2) (SqT.of hrr1') (by decide) (by simp) fun p2 hp2 => ?_
        have S2 : Same H1 (upd H1 p2 (.tup (told.map V.int))) := by walk_at "sm"
        have hp2' : (upd H1 p2 (.tup (told.map V.int))) p2 = some (.tup (told.map V.int)) := upd_same
        have hrr2' := S2 _ _ hrr1'
        change tCons _ _ _ (upd H1 p2 (.tup (told.map V.int))) _
        generalize upd H1 p2 (.tup (told.map V.int)) = H2 at S2 hp2' hrr2' ⊢
        walk_at "rd"
        refine rd_ixT (SqT.of hrr2') (atI_one _ _ _) ?_
        walk_at "rd"
        refine ⟨ra, rvs, row, n, s, rfl, S2 _ _ hra1, srow1.mono S2.tupK, by omega, hs, hbk, fun lf ls H3 S3 hlf0 hlf hls => ?_⟩
        have S03 : Same H H3 := S1.trans (S2.trans S3)
        have lla := Paired.length hls
        walk_at "rd"
        refine for_zipT (SqT.of (S3 _ _ hp2')) (SqL.of hlf) (by rw [List.length_map]; omega) (fun j σ H4 => ∃ o4 o5 : Option V, σ = [some (.ref a), some (.int i), some (.ref ra), some (.ref rr), o4, o5] ∧ Same H3 H4 ∧ ((told.zip (aboveS row n)).take j).all (fun e => toldB Ls i e.1 e.2) = true)
          ⟨none, none, rfl, Same.refl _, rfl⟩ (fun j σ H4 _ ⟨_, _, _, S4, _⟩ => ⟨SqT.of (S4 _ _ (S3 _ _ hp2')), SqL.of (S4 _ _ hlf)⟩) ?_ ?_
        · rintro j x y p σ H4 hx hy ⟨o4, o5, rfl, S4, hall⟩ hpn
          rw [List.getElem?_map] at hx
          obtain ⟨tt, htt, rfl⟩ := Option.map_eq_some_iff.mp hx
          obtain ⟨ar, har, ry⟩ := Paired.get1 hls hy
          have hze : (told.zip (aboveS row n))[j]? = some (tt, ar) := zip_get2 htt har
          have S5 : Same H4 (upd H4 p (.tup [.int tt, y])) := by walk_at "sm"
          have hp5 : (upd H4 p (.tup [.int tt, y])) p = some (.tup [.int tt, y]) := upd_same
          generalize upd H4 p (.tup [.int tt, y]) = H5 at S5 hp5 ⊢
          have S35 := S4.trans S5
          have S05 := S03.trans S35
          obtain ⟨ya, yv, rfl, hya, sya⟩ := ry.mono S35
          have hl5 := S05 _ _ hl
          have bad : toldB Ls i tt ar = false → ∀ H', Same H H' → Q (.bl false) H' := fun hb H' S' => by
            have e : rightB Ls i ⟨row, .ofk k n told⟩ = false := by
              show (fitsB row k n && (told.zip (aboveS row (n : Int).toNat)).all _) = false
              rw [Int.toNat_natCast, all_false hze hb, Bool.and_false]
            have z := q H' S'
            rw [e] at z
            exact z
          walk_at "rd"
          refine if_dec (fun h0 => ?_) (fun h0 => ?_)
          · walk_at "rd"
            refine if_dec (fun h1 => ?_) (fun h1 => ?_)
            · obtain ⟨m, rfl⟩ : ∃ m : Nat, tt = (m : Int) := ⟨tt.toNat, by omega⟩
              have hil : i < Ls.length := (List.getElem?_eq_some_iff.mp hi).1
              have hm : m < Ls.length := by omega
              have hml : Ls[m]? = some Ls[m] := List.getElem?_eq_getElem hm
              obtain ⟨u, hu, t6, ra6, rr6, rv6, rfl, ht6, hra6, srow6, hrr6⟩ := Paired.get2 hp hml
              have hdm := (hsz.2 _ (List.mem_of_getElem? hml)).2.2
              have ht65 := S05 _ _ ht6
              walk_at "rd"
              refine rd_ixL (SqL.of hl5) (atI_nat hu) ?_
              walk_at "rd"
              refine rd_eqD (row_data (S05 _ _ hra6) (srow6.mono S05.tupK)) (row_data hya sya) (lay_says _) (lay_says _) ?_ ?_
              · have := depth_says _ hdm
                simp only [PyData.depth]
                omega
              walk_at "rd"
              rw [eqv_lst, eqv_rows]
              have hro : rowOf Ls (m : Int) = Ls[m].row := by unfold rowOf; rw [Int.toNat_natCast, hml]; rfl
              cases heq : decide (Ls[m].row = ar) with
              | true =>
                refine iteF ?_
                walk_at "rd"
                refine ⟨_, _, rfl, S35, ?_⟩
                rw [all_take_succ hze, hall]
                show toldB Ls i (m : Int) ar = true
                unfold toldB
                rw [decide_eq_true h0, decide_eq_true h1, hro, heq]
                rfl
              | false =>
                refine iteT ?_
                walk_at "rd"
                refine bad ?_ _ S05
                unfold toldB
                rw [hro, heq, Bool.and_false, Bool.and_false]
            · walk_at "rd"
              refine iteT ?_
              walk_at "rd"
              refine bad ?_ _ S05
              unfold toldB
              rw [decide_eq_false h1, Bool.false_and, Bool.and_false]
          · walk_at "rd"
            refine iteF ?_
            refine iteT ?_
            walk_at "rd"
            refine bad ?_ _ S05
            unfold toldB
            rw [decide_eq_false h0, Bool.false_and]
        · rintro σ H4 ⟨o4, o5, rfl, S4, hall⟩
          rw [List.length_map, List.take_of_length_le (by rw [List.length_zip]; omega)] at hall
          walk_at "rd"
          have e : rightB Ls i ⟨row, .ofk k n told⟩ = true := by
            show (fitsB row k n && (told.zip (aboveS row (n : Int).toNat)).all _) = true
            rw [Int.toNat_natCast, hall, hfit]
            rfl
          rw [e] at q
          exact q _ (S03.trans S4)
end
end My
set_option Elab.async false
set_option linter.all false
set_option maxRecDepth 100000
set_option maxHeartbeats 4000000
namespace My
open PySem L2
seal PE PT PW PA PS PSs PC PG PGs PI PO PPs PTs
local macro_rules | `(tactic| walk_at "ne") => `(tactic| first | assumption | exact Ne.symm (by assumption))
local macro_rules | `(tactic| walk_at "hp") => `(tactic| first | assumption | (with_reducible exact upd_same) | (with_reducible apply keepN; assumption; walk_at "hp") | (with_reducible apply keepL; walk_at "ne"; walk_at "hp"))
local macro_rules | `(tactic| walk_at "sm") => `(tactic| first | assumption | (with_reducible exact Same.refl _) | (with_reducible refine Same.new ?_ (by assumption); walk_at "sm") | (with_reducible refine Same.set ?_ (by assumption); walk_at "sm"))
local macro_rules | `(tactic| walk_at "tk") => `(tactic| first | assumption | (with_reducible exact TupK.refl _) | (with_reducible refine TupK.new ?_ (by assumption); walk_at "tk") | (with_reducible refine TupK.lst ?_ (by walk_at "hp"); walk_at "tk") | (with_reducible refine TupK.dK ?_ (by walk_at "hp"); walk_at "tk") | (with_reducible refine Same.tupK ?_; walk_at "sm"))
local macro_rules | `(tactic| walk_at "sl") => `(tactic| first | assumption | (with_reducible apply SqL.of; walk_at "hp") | (with_reducible apply sameSeq; assumption; walk_at "sm"))
local macro_rules | `(tactic| walk_at "st") => `(tactic| first | assumption | (with_reducible apply SqT.of; walk_at "hp"))
local macro_rules | `(tactic| walk_at "cd") => `(tactic| first | (show (0 : Int) < _; first | decide | assumption | omega) | exact ⟨by decide, by decide⟩ | exact ⟨by decide, by decide, by decide⟩ | exact Or.inl ⟨by decide, by decide⟩ | exact Or.inr ⟨by decide, by decide⟩ | exact Or.inl ⟨by omega, by omega⟩ | exact Or.inr ⟨by omega, by omega⟩ | exact ⟨by omega, by omega⟩)
local macro_rules | `(tactic| walk_at "rd1") => `(tactic| with_reducible first
  | (apply rd_var; with_unfolding_all rfl) | apply rd_op | apply rd_C | apply rd_seq | apply rd_asg | apply rd_name | apply rd_cons | apply rd_nil | apply rd_I0 | apply rd_test | apply rd_bl | apply rd_tB
  | (apply rd_ixT; (walk_at "st"); (with_unfolding_all rfl)) | apply rd_slice | apply rd_noPart | apply rd_part | apply rd_int | apply rd_CB | apply rd_if | apply rd_call | apply rd_ret | apply rd_drop | apply rd_tup | apply rd_lst | apply rd_bm | apply rd_bm0 | (apply rd_ty; (walk_at "hp"))
  | (apply rd_I; (with_unfolding_all walk_at "cd")) | (apply rd_eq; (with_unfolding_all rfl)) | (apply rd_ne; (with_unfolding_all rfl)) | apply rd_and | apply rd_or | apply rd_not | apply rd_andV | apply rd_orV | apply rd_notV | apply rd_ifE
  | (apply rd_lenL; (walk_at "sl")) | (apply rd_lenT; (walk_at "st")) | apply rd_dnew | apply rd_dput | apply rd_din | apply rd_next | apply rd_forL | apply rd_forV | apply rd_compL | apply rd_compZ | apply rd_compT | apply rd_compR | apply rd_kget | apply rd_dget | apply rd_listRev | apply rd_chain | apply rd_ints | apply rd_un | apply rd_U | apply rd_kin | apply rd_forZT | apply rd_pcons | apply rd_pnil | (apply rd_gtup; (walk_at "st"); (with_unfolding_all rfl)) | apply rd_gcons | apply rd_gnil | apply rd_forR3 | apply rd_forR2 | apply rd_forR1 | (apply rd_itL; (walk_at "sl")) | (apply rd_neN; (walk_at "sl"); (walk_at "sl")) | (apply rd_eqN; (walk_at "sl"); (walk_at "sl")))
local macro_rules | `(tactic| walk_at "rd") => `(tactic| repeat walk_at "rd1")
local macro_rules | `(tactic| walk_at "rd0") => `(tactic| try dsimp only [cxOf, Cx.nox, Cx.wish])
section
variable {P : Program} {w : World} {K : PySem.W.Frag} {mg : Str → Option Value} {base : Heap} {f : Addr} {fd : FuncData}
theorem ok_shows (D : DefIn K mg "shows" s_shows ["lines", "row"] f fd) (B : Blt mg) (h_is_right : Has P w K mg base "is_right" 20 ["lines", "place"] spRight) : Has P w K mg base "shows" 21 ["lines", "row"] spShows := by
  have nd := sc_shows.nd
  refine D.has (D.fn.ok sc_shows (fun vs H Q E h => ?_) (fun cdv A outer s H vs Q E hr h => ?_))
  · obtain ⟨a, r, Ls, rs, row, rfl, _⟩ := h
    rfl
  · obtain ⟨a, r, Ls, rs, row, rfl, hL, hsz, hr0, hst, hrl, hdp, q⟩ := h
    have huD := huD_of (m := 400) hr (by decide)
    obtain ⟨lv, hl, hp⟩ := id hL
    have lls := Paired.length hp
    refine ⟨_, (pss_cons (ps_for PassesOwn.never rfl (pi_range1 rfl B.range (pa_cons (pe_callB (call_lenK K) rfl B.len PySem.boot_len (pa_cons (pv 0) pa_nil)) pa_nil)) (pg_name (i := 2) nd rfl (Or.inl rfl)) (pss_one (ps_if (pt_not (pt_val (pe_callH h_is_right hr (pa_cons (pv 0) (pa_cons (pv 2) pa_nil))))) (pss_one (ps_ret pe_bl)) pss_nil)))
      (pss_one (ps_ret (pe_and (pe_cmpR op_gt (pe_callB (call_lenK K) rfl B.len PySem.boot_len (pa_cons (pv 0) pa_nil)) pe_int (nomark _)) (pe_one (pe_cmpR (op_eqD huD) (pe_ix (ix_tupK K) (pe_ix (ix_listK K) (pv 0) (pe_un un_neg pe_int) (fun _ _ => rfl)) pe_int (fun _ _ => rfl)) (pv 1) (nomark _))))))), ?_⟩
    walk_at "rd0"
    walk_at "rd"
    refine for_rng1 (by have := hsz.1; omega) (fun i σ H1 => ∃ o2 : Option V, σ = [some (.ref a), some (.ref r), o2] ∧ Same H H1 ∧ ((List.range Ls.length).take i).all (fun i => (Ls[i]?.map (rightB Ls i)).getD true) = true)
      ⟨none, rfl, Same.refl _, rfl⟩ ?_ ?_
    · rintro i σ H1 hi ⟨o2, rfl, S1, hall⟩
      have hi' : i < Ls.length := by omega
      have hli : Ls[i]? = some Ls[i] := List.getElem?_eq_getElem hi'
      have hri : (List.range Ls.length)[i]? = some i := List.getElem?_range hi'
      walk_at "rd"
      refine ⟨a, i, Ls, Ls[i], rfl, hL.mono S1, hsz, hli, fun H2 S2 => ?_⟩
      walk_at "rd"
      cases hb : rightB Ls i Ls[i] with
      | true =>
        refine iteF ?_
        walk_at "rd"
        refine ⟨_, rfl, S1.trans S2, ?_⟩
        rw [all_take_succ hri, hall, hli]
        exact hb
      | false =>
        refine iteT ?_
        walk_at "rd"
        have e : showsB Ls row = false := by
          unfold showsB allR
          rw [all_false hri (by rw [hli]; exact hb), Bool.false_and]
        rw [e] at q
        exact q _ (S1.trans S2)
    · rintro σ H1 ⟨o2, rfl, S1, hall⟩
      have hall' : allR Ls = true := by
        rw [List.take_of_length_le (by rw [List.length_range]; omega)] at hall
        exact hall
      have hl1 := S1 _ _ hl
      walk_at "rd"
      rcases snoc_cases Ls with rfl | ⟨L0, l, rfl⟩
      · cases hp
        refine if_dec (fun c => absurd c (by simp)) (fun _ => ?_)
        have e : showsB [] row = false := rfl
        rw [e] at q
        exact q _ S1
      · obtain ⟨v0, v, rfl, hp0, t, ra, rr, rvs, rfl, ht, hra, srow, hrr⟩ := snoc_inv2 hp
        refine if_dec (fun _ => ?_) (fun c => absurd (by simp) c)
        have ht1 := S1 _ _ ht
        walk_at "rd"
        refine rd_ixL (SqL.of hl1) (atI_last _ _) ?_
        walk_at "rd"
        refine rd_eqD (row_data (S1 _ _ hra) (srow.mono S1.tupK)) (row_data (S1 _ _ hr0) (hst.mono S1.tupK)) (lay_says _) (lay_says _) ?_ ?_
        · have := depth_says _ hdp
          simp only [PyData.depth]
          omega
        rw [eqv_lst, eqv_rows]
        have e : showsB (L0 ++ [l]) row = decide (l.row = row) := by
          unfold showsB
          rw [hall', List.getLast?_concat, Bool.true_and]
        rw [e] at q
        exact q _ S1
end
end My
set_option Elab.async false
set_option linter.all false
set_option maxRecDepth 100000
set_option maxHeartbeats 4000000
namespace My
open PySem L2
seal PE PT PW PA PS PSs PC PG PGs PI PO PPs PTs
local macro_rules | `(tactic| walk_at "ne") => `(tactic| first | assumption | exact Ne.symm (by assumption))
local macro_rules | `(tactic| walk_at "hp") => `(tactic| first | assumption | (with_reducible exact upd_same) | (with_reducible apply keepN; assumption; walk_at "hp") | (with_reducible apply keepL; walk_at "ne"; walk_at "hp"))
local macro_rules | `(tactic| walk_at "sm") => `(tactic| first | assumption | (with_reducible exact Same.refl _) | (with_reducible refine Same.new ?_ (by assumption); walk_at "sm") | (with_reducible refine Same.set ?_ (by assumption); walk_at "sm"))
local macro_rules | `(tactic| walk_at "tk") => `(tactic| first | assumption | (with_reducible exact TupK.refl _) | (with_reducible refine TupK.new ?_ (by assumption); walk_at "tk") | (with_reducible refine TupK.lst ?_ (by walk_at "hp"); walk_at "tk") | (with_reducible refine TupK.dK ?_ (by walk_at "hp"); walk_at "tk") | (with_reducible refine Same.tupK ?_; walk_at "sm"))
local macro_rules | `(tactic| walk_at "sl") => `(tactic| first | assumption | (with_reducible apply SqL.of; walk_at "hp") | (with_reducible apply sameSeq; assumption; walk_at "sm"))
local macro_rules | `(tactic| walk_at "st") => `(tactic| first | assumption | (with_reducible apply SqT.of; walk_at "hp"))
local macro_rules | `(tactic| walk_at "cd") => `(tactic| first | (show (0 : Int) < _; first | decide | assumption | omega) | exact ⟨by decide, by decide⟩ | exact ⟨by decide, by decide, by decide⟩ | exact Or.inl ⟨by decide, by decide⟩ | exact Or.inr ⟨by decide, by decide⟩ | exact Or.inl ⟨by omega, by omega⟩ | exact Or.inr ⟨by omega, by omega⟩ | exact ⟨by omega, by omega⟩)
local macro_rules | `(tactic| walk_at "rd1") => `(tactic| with_reducible first
  | (apply rd_var; with_unfolding_all rfl) | apply rd_op | apply rd_C | apply rd_seq | apply rd_asg | apply rd_name | apply rd_cons | apply rd_nil | apply rd_I0 | apply rd_test | apply rd_bl | apply rd_tB
  | (apply rd_ixT; (walk_at "st"); (with_unfolding_all rfl)) | apply rd_slice | apply rd_noPart | apply rd_part | apply rd_int | apply rd_CB | apply rd_if | apply rd_call | apply rd_ret | apply rd_drop | apply rd_tup | apply rd_lst | apply rd_bm | apply rd_bm0 | (apply rd_ty; (walk_at "hp"))
  | (apply rd_I; (with_unfolding_all walk_at "cd")) | (apply rd_eq; (with_unfolding_all rfl)) | (apply rd_ne; (with_unfolding_all rfl)) | apply rd_and | apply rd_or | apply rd_not | apply rd_andV | apply rd_orV | apply rd_notV | apply rd_ifE
  | (apply rd_lenL; (walk_at "sl")) | (apply rd_lenT; (walk_at "st")) | apply rd_dnew | apply rd_dput | apply rd_din | apply rd_next | apply rd_forL | apply rd_forV | apply rd_compL | apply rd_compZ | apply rd_compT | apply rd_compR | apply rd_kget | apply rd_dget | apply rd_listRev | apply rd_chain | apply rd_ints | apply rd_un | apply rd_U | apply rd_kin | apply rd_forZT | apply rd_pcons | apply rd_pnil | (apply rd_gtup; (walk_at "st"); (with_unfolding_all rfl)) | apply rd_gcons | apply rd_gnil | apply rd_forR3 | apply rd_forR2 | apply rd_forR1 | (apply rd_itL; (walk_at "sl")) | (apply rd_neN; (walk_at "sl"); (walk_at "sl")) | (apply rd_eqN; (walk_at "sl"); (walk_at "sl")))
local macro_rules | `(tactic| walk_at "rd") => `(tactic| repeat walk_at "rd1")
local macro_rules | `(tactic| walk_at "rd0") => `(tactic| try dsimp only [cxOf, Cx.nox, Cx.wish])
section
variable {P : Program} {w : World} {K : PySem.W.Frag} {mg : Str → Option Value} {base : Heap} {f : Addr} {fd : FuncData}
theorem ok_pair (D : DefIn K mg "_law_pair" s__law_pair ["_law_row"] f fd) : Has P w K mg base "_law_pair" 1 ["_law_row"] spPair2 := by
  have nd := sc__law_pair.nd
  refine D.has (D.fn.ok sc__law_pair (fun vs H Q E h => ?_) (fun cdv A outer s H vs Q E hr h => ?_))
  · obtain ⟨a, rs, ss, rfl, _⟩ := h
    rfl
  · obtain ⟨r, rs, ss, rfl, hr0, hst, q⟩ := h
    have huD := huD_of (m := 100) hr (by decide)
    have lrs := Paired.length hst
    refine ⟨_, (pss_cons (ps_for PassesOwn.never rfl (pi_listK K (pv 0)) (pg_name (i := 1) nd rfl (Or.inl rfl)) (pss_one (ps_if (PW.pt (pw_and (pt_cmpR op_eq (pe_ix (ix_tupK K) (pv 1) pe_int (fun _ _ => rfl)) pe_str (nomark _)) (pw_and1 (pt_cmpR (op_inD huD) (pe_tup (pa_cons pe_str (pa_cons (pe_ix (ix_tupK K) (pv 1) pe_int (fun _ _ => rfl)) pa_nil))) (pv 0) (by with_unfolding_all rfl))))) (pss_one (ps_ret pe_bl)) pss_nil)))
      (pss_one (ps_ret pe_bl))), ?_⟩
    walk_at "rd0"
    walk_at "rd"
    refine for_list (K := K) (a := r) (xs := rs) (fun i σ H1 => ∃ o1 : Option V, σ = [some (.ref r), o1] ∧ Same H H1 ∧ ∀ k ∈ lampsOf (ss.take i), (darksOf ss).contains k = false)
      ⟨none, rfl, Same.refl _, fun k h => by cases h⟩ (fun i σ H1 _ ⟨_, _, S1, _⟩ => SqL.of (S1 _ _ hr0)) ?_ ?_
    · rintro i y σ H1 hi ⟨o1, rfl, S1, hno⟩
      obtain ⟨t, ht, st⟩ := Paired.get1 hst hi
      have st1 := st.mono S1.tupK
      have hr1 := S1 _ _ hr0
      have hst1 := hst.mono S1.tupK
      have keep : t.lampOf = none → ∀ k ∈ lampsOf (ss.take (i + 1)), (darksOf ss).contains k = false := fun e k hk => by
        rw [lamps_succ ht, e] at hk
        exact hno k (by simpa using hk)
      obtain ⟨a, xs, rfl, e, _⟩ := Stm.parts st1
      walk_at "rd"
      refine rd_ixT (SqT.of e) (atI_zero _ _) ?_
      walk_at "rd"
      refine if_dec (fun hl => ?_) (fun hl => ?_)
      · obtain ⟨k, rfl⟩ : ∃ k, t = .lamp k := by
          have hl' : t.tag = "lamp" := V.str.inj hl
          cases t <;> first | exact ⟨_, rfl⟩ | exact absurd hl' (by dsimp only [Say.tag]; decide +kernel)
        cases st1 with
        | lamp e' =>
          rw [e] at e'
          cases e'
          walk_at "rd"
          refine ⟨(by show 2 ≤ sizeLine; decide), fun p hp => ?_⟩
          have S2 : Same H1 (upd H1 p (.tup [.str "dark", .int k])) := by walk_at "sm"
          have hp2 : (upd H1 p (.tup [.str "dark", .int k])) p = some (.tup [.str "dark", .int k]) := upd_same
          generalize upd H1 p (.tup [.str "dark", .int k]) = H2 at S2 hp2 ⊢
          walk_at "rd"
          refine rd_inD (dx := (Say.dark k).data) (S2 _ _ hr1) (hst1.mono S2.tupK).datas (.tup hp2 (.cons (.str _) (.cons (.int _) .nil))) (lay_says _) (Say.data_lay _) ?_ ?_
          · have := Say.data_depth (.dark k)
            simp only [Say.dep] at this
            omega
          walk_at "rd"
          rw [any_dark]
          cases hc : (darksOf ss).contains k with
          | true =>
            refine iteT ?_
            walk_at "rd"
            have e1 : pairB ss = true := pair_yes (List.mem_filterMap.mpr ⟨_, List.mem_of_getElem? ht, rfl⟩) hc
            rw [e1] at q
            exact q _ (S1.trans S2)
          | false =>
            refine iteF ?_
            walk_at "rd"
            refine ⟨_, rfl, S1.trans S2, fun j hj => ?_⟩
            rw [lamps_succ ht] at hj
            rcases List.mem_append.mp hj with hj | hj
            · exact hno j hj
            · have : j = k := by simpa [Say.lampOf] using hj
              rw [this]; exact hc
      · refine iteF ?_
        walk_at "rd"
        refine ⟨_, rfl, S1, keep ?_⟩
        cases t <;> first | rfl | exact absurd rfl hl
    · rintro σ H1 ⟨o1, rfl, S1, hno⟩
      rw [lrs, List.take_length] at hno
      walk_at "rd"
      rw [pair_no hno] at q
      exact q _ S1
theorem ok_above_by (D : DefIn K mg "_law_above_by" s__law_above_by ["_law_row", "_law_k"] f fd) : Has P w K mg base "_law_above_by" 1 ["_law_row", "_law_k"] spAbove := by
  have nd := sc__law_above_by.nd
  refine D.has (D.fn.ok sc__law_above_by (fun vs H Q E h => ?_) (fun cdv A outer s H vs Q E hr h => ?_))
  · obtain ⟨r, rs, ss, k, s, rfl, _⟩ := h
    rfl
  · obtain ⟨r, rs, ss, k, s, rfl, hr0, hst, hz, hk, hb, q⟩ := h
    have lrs := Paired.length hst
    obtain ⟨v, hv, sv⟩ := Paired.get2 hst hk
    refine ⟨_, (pss_cons (ps_set (i := 2) nd rfl (Or.inl rfl) (pe_ix (ix_listK K) (pv 0) (pv 1) (fun _ _ => rfl)))
      (pss_cons (ps_set (i := 3) nd rfl (Or.inl rfl) (pe_slice (sl_listK K) (pv 0) po_none (po_some (pv 1))))
      (pss_cons (ps_set (i := 4) nd rfl (Or.inl rfl) (pe_slice (sl_listK K) (pv 0) (po_some (pe_op op_add (pv 1) pe_int)) po_none))
      (pss_cons (ps_if (pt_cmpR op_eq (pe_ix (ix_tupK K) (pv 2) pe_int (fun _ _ => rfl)) pe_str (nomark _)) (pss_one (ps_ret (pe_lst (pa_cons (pe_op op_cat (pe_op op_cat (pv 3) (pe_lst (pa_cons (pe_ix (ix_tupK K) (pv 2) pe_int (fun _ _ => rfl)) (pa_cons (pe_ix (ix_tupK K) (pv 2) pe_int (fun _ _ => rfl)) pa_nil)))) (pv 4)) pa_nil)))) pss_nil)
      (pss_cons (ps_if (pt_cmpR op_eq (pe_ix (ix_tupK K) (pv 2) pe_int (fun _ _ => rfl)) pe_str (nomark _)) (pss_one (ps_ret (pe_lst (pa_cons (pe_op op_cat (pe_op op_cat (pv 3) (pe_lst (pa_cons (pe_ix (ix_tupK K) (pv 2) pe_int (fun _ _ => rfl)) pa_nil))) (pv 4)) (pa_cons (pe_op op_cat (pe_op op_cat (pv 3) (pe_lst (pa_cons (pe_ix (ix_tupK K) (pv 2) pe_int (fun _ _ => rfl)) pa_nil))) (pv 4)) pa_nil))))) pss_nil)
      (pss_cons (ps_set (i := 5) nd rfl (Or.inl rfl) (pe_lst (pa_cons (pe_ix (ix_tupK K) (pv 2) pe_int (fun _ _ => rfl)) pa_nil)))
      (pss_cons (ps_for PassesOwn.never rfl (pi_listK K (pv 0)) (pg_name (i := 6) nd rfl (Or.inl rfl)) (pss_one (ps_if (pt_cmpR op_eq (pe_ix (ix_tupK K) (pv 6) pe_int (fun _ _ => rfl)) pe_str (nomark _)) (pss_one (ps_expr (pe_bmK K PySem.F.plainAttrs_list PySem.F.slot_list_append PySem.F.type_list_append mt_append (pv 5) (pa_cons (pe_ix (ix_tupK K) (pv 6) pe_int (fun _ _ => rfl)) pa_nil)))) pss_nil)))
      (pss_one (ps_ret (pe_lst (pa_cons (pv 5) pa_nil))))))))))), ?_⟩
    walk_at "rd0"
    walk_at "rd"
    refine rd_ixL (SqL.of hr0) (atI_nat hv) ?_
    have hkk : ((k : Nat) : Int) + 1 = ((k + 1 : Nat) : Int) := rfl
    walk_at "rd"
    refine rd_slL (SqL.of hr0) fun p1 hp1 => ?_
    rw [cut_take]
    walk_at "rd"
    rw [hkk]
    refine rd_slL (SqL.of (keepN hp1 hr0)) fun p2 hp2 => ?_
    rw [cut_drop]
    have SN : Same H (upd (upd H p1 (.lst (rs.take k))) p2 (.lst (rs.drop (k + 1)))) := by walk_at "sm"
    have h1 : (upd (upd H p1 (.lst (rs.take k))) p2 (.lst (rs.drop (k + 1)))) p1 = some (.lst (rs.take k)) := by walk_at "hp"
    have h2 : (upd (upd H p1 (.lst (rs.take k))) p2 (.lst (rs.drop (k + 1)))) p2 = some (.lst (rs.drop (k + 1))) := upd_same
    generalize upd (upd H p1 (.lst (rs.take k))) p2 (.lst (rs.drop (k + 1))) = H2 at SN h1 h2 ⊢
    have hr2 := SN _ _ hr0
    have hst2 := hst.mono SN.tupK
    have nl : ∀ {b : Addr}, H2 b = none → H b = none := fun {b} hb => by
      cases hh : H b with
      | none => rfl
      | some o => rw [SN _ _ hh] at hb; cases hb
    cases sv with
    | lamp e => cases hb
    | dark e => cases hb
    | neg e h => cases hb
    | so e h => cases hb
    | @ev a x t e sx =>
      have eA : aboveS ss k = [t :: sos ss] := by unfold aboveS; rw [hk]
      rw [eA] at q
      have e2 := SN _ _ e
      walk_at "rd"
      refine if_strNe (by decide +kernel) ?_
      walk_at "rd"
      refine if_strNe (by decide +kernel) ?_
      walk_at "rd"
      refine ⟨(by show 1 ≤ sizeLine; decide), fun p3 hp3 => ?_⟩
      walk_at "rd"
      refine for_list (K := K) (a := r) (xs := rs) (fun i σ H1 => ∃ (ys : List V) (o6 : Option V), σ = [some (.ref r), some (.int k), some (.ref a), some (.ref p1), some (.ref p2), some (.ref p3), o6] ∧ Same H2 H1 ∧ H1 p3 = some (.lst (x :: ys)) ∧ Stms H1 ys (sos (ss.take i)))
        ⟨[], none, rfl, by walk_at "sm", upd_same, .nil⟩ (fun i σ H1 _ ⟨_, _, _, S1, _⟩ => SqL.of (S1 _ _ hr2)) ?_ ?_
      · rintro i y σ H1 hi ⟨ys, o6, rfl, S1, hm1, sy⟩
        obtain ⟨u, hu, su⟩ := Paired.get1 hst2 hi
        obtain ⟨ax, xs, rfl, ex, hkd⟩ := Stm.parts (su.mono S1.tupK)
        have ly := Paired.length sy
        have hsl := sos_len ss i
        have hil : i < rs.length := (List.getElem?_eq_some_iff.mp hi).1
        walk_at "rd"
        refine rd_ixT (SqT.of ex) (atI_zero _ _) ?_
        walk_at "rd"
        refine if_dec (fun hs => ?_) (fun hs => ?_)
        · obtain ⟨z, rfl⟩ := so_of (V.str.inj hs)
          have kd := hkd rfl
          cases kd with
          | @cons x1 _ _ _ sx1 tl =>
            cases tl
            walk_at "rd"
            refine rd_append hm1 (smallLt (by simp only [List.length_cons]; omega)) ?_
            have T3 : TupK H1 (upd H1 p3 (.lst (x :: ys ++ [x1]))) := TupK.lst (TupK.refl _) hm1
            refine ⟨ys ++ [x1], _, rfl, S1.set hp3, upd_same, ?_⟩
            rw [sos_yes hu]
            exact Paired.snoc (sy.mono T3) (sx1.mono T3)
        · walk_at "rd"
          exact ⟨ys, _, rfl, S1, hm1, by rw [sos_no hu fun e => hs (by rw [e])]; exact sy⟩
      · rintro σ H1 ⟨ys, o6, rfl, S1, hm1, sy⟩
        rw [lrs, List.take_length] at sy
        walk_at "rd"
        refine ⟨(by show 1 ≤ sizeLine; decide), fun p5 hp5 => ?_⟩
        have SF : Same H (upd H1 p5 (.lst [.ref p3])) := (SN.trans S1).new hp5
        have hp5' : H p5 = none := by
          cases hh : H p5 with
          | none => rfl
          | some o => rw [S1 _ _ (SN _ _ hh)] at hp5; cases hp5
        exact q p5 _ _ SF hp5' upd_same (.cons ⟨p3, _, rfl, keepN hp5 hm1, .cons (sx.mono SF.tupK) (Stms.mono sy (by walk_at "tk"))⟩ .nil)
    | @disj a x y s1 s2 e sx sy =>
      have eA : aboveS ss k = [ss.take k ++ [s1, s2] ++ ss.drop (k + 1)] := by unfold aboveS; rw [hk]
      rw [eA] at q
      have e2 := SN _ _ e
      walk_at "rd"
      refine if_eq ?_
      walk_at "rd"
      refine ⟨(by show 2 ≤ sizeLine; decide), fun p3 hp3 => ?_⟩
      walk_at "rd"
      refine rd_cat (keepN hp3 h1) upd_same (small (by rw [List.length_take]; simp only [List.length_cons, List.length_nil]; omega)) fun p4 hp4 => ?_
      walk_at "rd"
      refine rd_cat upd_same (keepN hp4 (keepN hp3 h2)) (small (by rw [List.length_append, List.length_take, List.length_drop]; simp only [List.length_cons, List.length_nil]; omega)) fun p5 hp5 => ?_
      walk_at "rd"
      refine ⟨(by show 1 ≤ sizeLine; decide), fun p6 hp6 => ?_⟩
      have SF := (((SN.new (o := .lst [x, y]) hp3).new (o := .lst (rs.take k ++ [x, y])) hp4).new (o := .lst (rs.take k ++ [x, y] ++ rs.drop (k + 1))) hp5).new (o := .lst [.ref p5]) hp6
      have hp6' : H p6 = none := nl (none_upd (none_upd (none_upd hp6).1).1).1
      exact q p6 _ _ SF hp6' upd_same (.cons ⟨p5, _, rfl, keepN hp6 upd_same, Paired.app (Paired.app (Paired.take1 k (hst.mono SF.tupK)) (.cons (sx.mono SF.tupK) (.cons (sy.mono SF.tupK) .nil))) (Paired.drop1 (k + 1) (hst.mono SF.tupK))⟩ .nil)
    | @conj a x y s1 s2 e sx sy =>
      have eA : aboveS ss k = [ss.take k ++ [s1] ++ ss.drop (k + 1), ss.take k ++ [s2] ++ ss.drop (k + 1)] := by unfold aboveS; rw [hk]
      rw [eA] at q
      have e2 := SN _ _ e
      walk_at "rd"
      refine if_strNe (by decide +kernel) ?_
      walk_at "rd"
      refine if_eq ?_
      walk_at "rd"
      refine ⟨(by show 1 ≤ sizeLine; decide), fun p3 hp3 => ?_⟩
      walk_at "rd"
      refine rd_cat (keepN hp3 h1) upd_same (small (by rw [List.length_take]; simp only [List.length_cons, List.length_nil]; omega)) fun p4 hp4 => ?_
      walk_at "rd"
      refine rd_cat upd_same (keepN hp4 (keepN hp3 h2)) (small (by rw [List.length_append, List.length_take, List.length_drop]; simp only [List.length_cons, List.length_nil]; omega)) fun p5 hp5 => ?_
      have S25 := ((Same.new (o := .lst [x]) (Same.refl H2) hp3).new (o := .lst (rs.take k ++ [x])) hp4).new (o := .lst (rs.take k ++ [x] ++ rs.drop (k + 1))) hp5
      have hp55 : (upd (upd (upd H2 p3 (.lst [x])) p4 (.lst (rs.take k ++ [x]))) p5 (.lst (rs.take k ++ [x] ++ rs.drop (k + 1)))) p5 = some (.lst (rs.take k ++ [x] ++ rs.drop (k + 1))) := upd_same
      generalize upd (upd (upd H2 p3 (.lst [x])) p4 (.lst (rs.take k ++ [x]))) p5 (.lst (rs.take k ++ [x] ++ rs.drop (k + 1))) = H5 at S25 hp55 ⊢
      have e5 := S25 _ _ e2
      have h15 := S25 _ _ h1
      have h25 := S25 _ _ h2
      walk_at "rd"
      refine ⟨(by show 1 ≤ sizeLine; decide), fun p6 hp6 => ?_⟩
      walk_at "rd"
      refine rd_cat (keepN hp6 h15) upd_same (small (by rw [List.length_take]; simp only [List.length_cons, List.length_nil]; omega)) fun p7 hp7 => ?_
      walk_at "rd"
      refine rd_cat upd_same (keepN hp7 (keepN hp6 h25)) (small (by rw [List.length_append, List.length_take, List.length_drop]; simp only [List.length_cons, List.length_nil]; omega)) fun p8 hp8 => ?_
      walk_at "rd"
      refine ⟨(by show 2 ≤ sizeLine; decide), fun p9 hp9 => ?_⟩
      have S59 := (((Same.new (o := .lst [y]) (Same.refl H5) hp6).new (o := .lst (rs.take k ++ [y])) hp7).new (o := .lst (rs.take k ++ [y] ++ rs.drop (k + 1))) hp8).new (o := .lst [.ref p5, .ref p8]) hp9
      have SF := (SN.trans S25).trans S59
      have hp9' : H p9 = none := by
        cases hh : H p9 with
        | none => rfl
        | some o => rw [keepN hp8 (keepN hp7 (keepN hp6 (S25 _ _ (SN _ _ hh))))] at hp9; cases hp9
      exact q p9 _ _ SF hp9' upd_same (.cons ⟨p5, _, rfl, S59 _ _ hp55, Paired.app (Paired.app (Paired.take1 k (hst.mono SF.tupK)) (.cons (sx.mono SF.tupK) .nil)) (Paired.drop1 (k + 1) (hst.mono SF.tupK))⟩
        (.cons ⟨p8, _, rfl, keepN hp9 upd_same, Paired.app (Paired.app (Paired.take1 k (hst.mono SF.tupK)) (.cons (sy.mono SF.tupK) .nil)) (Paired.drop1 (k + 1) (hst.mono SF.tupK))⟩ .nil))
end
end My
set_option Elab.async false
set_option linter.all false
set_option maxRecDepth 100000
set_option maxHeartbeats 4000000
namespace My
open PySem L2
seal PE PT PW PA PS PSs PC PG PGs PI PO PPs PTs
local macro_rules | `(tactic| walk_at "ne") => `(tactic| first | assumption | exact Ne.symm (by assumption))
local macro_rules | `(tactic| walk_at "hp") => `(tactic| first | assumption | (with_reducible exact upd_same) | (with_reducible apply keepN; assumption; walk_at "hp") | (with_reducible apply keepL; walk_at "ne"; walk_at "hp"))
local macro_rules | `(tactic| walk_at "sm") => `(tactic| first | assumption | (with_reducible exact Same.refl _) | (with_reducible refine Same.new ?_ (by assumption); walk_at "sm") | (with_reducible refine Same.set ?_ (by assumption); walk_at "sm"))
local macro_rules | `(tactic| walk_at "tk") => `(tactic| first | assumption | (with_reducible exact TupK.refl _) | (with_reducible refine TupK.new ?_ (by assumption); walk_at "tk") | (with_reducible refine TupK.lst ?_ (by walk_at "hp"); walk_at "tk") | (with_reducible refine TupK.dK ?_ (by walk_at "hp"); walk_at "tk") | (with_reducible refine Same.tupK ?_; walk_at "sm"))
local macro_rules | `(tactic| walk_at "sl") => `(tactic| first | assumption | (with_reducible apply SqL.of; walk_at "hp") | (with_reducible apply sameSeq; assumption; walk_at "sm"))
local macro_rules | `(tactic| walk_at "st") => `(tactic| first | assumption | (with_reducible apply SqT.of; walk_at "hp"))
local macro_rules | `(tactic| walk_at "cd") => `(tactic| first | (show (0 : Int) < _; first | decide | assumption | omega) | exact ⟨by decide, by decide⟩ | exact ⟨by decide, by decide, by decide⟩ | exact Or.inl ⟨by decide, by decide⟩ | exact Or.inr ⟨by decide, by decide⟩ | exact Or.inl ⟨by omega, by omega⟩ | exact Or.inr ⟨by omega, by omega⟩ | exact ⟨by omega, by omega⟩)
local macro_rules | `(tactic| walk_at "rd1") => `(tactic| with_reducible first
  | (apply rd_var; with_unfolding_all rfl) | apply rd_op | apply rd_C | apply rd_seq | apply rd_asg | apply rd_name | apply rd_cons | apply rd_nil | apply rd_I0 | apply rd_test | apply rd_bl | apply rd_tB
  | (apply rd_ixT; (walk_at "st"); (with_unfolding_all rfl)) | apply rd_slice | apply rd_noPart | apply rd_part | apply rd_int | apply rd_CB | apply rd_if | apply rd_call | apply rd_ret | apply rd_drop | apply rd_tup | apply rd_lst | apply rd_bm | apply rd_bm0 | (apply rd_ty; (walk_at "hp"))
  | (apply rd_I; (with_unfolding_all walk_at "cd")) | (apply rd_eq; (with_unfolding_all rfl)) | (apply rd_ne; (with_unfolding_all rfl)) | apply rd_and | apply rd_or | apply rd_not | apply rd_andV | apply rd_orV | apply rd_notV | apply rd_ifE
  | (apply rd_lenL; (walk_at "sl")) | (apply rd_lenT; (walk_at "st")) | apply rd_dnew | apply rd_dput | apply rd_din | apply rd_next | apply rd_forL | apply rd_forV | apply rd_compL | apply rd_compZ | apply rd_compT | apply rd_compR | apply rd_kget | apply rd_dget | apply rd_listRev | apply rd_chain | apply rd_ints | apply rd_un | apply rd_U | apply rd_kin | apply rd_forZT | apply rd_pcons | apply rd_pnil | (apply rd_gtup; (walk_at "st"); (with_unfolding_all rfl)) | apply rd_gcons | apply rd_gnil | apply rd_forR3 | apply rd_forR2 | apply rd_forR1 | (apply rd_itL; (walk_at "sl")) | (apply rd_neN; (walk_at "sl"); (walk_at "sl")) | (apply rd_eqN; (walk_at "sl"); (walk_at "sl")))
local macro_rules | `(tactic| walk_at "rd") => `(tactic| repeat walk_at "rd1")
local macro_rules | `(tactic| walk_at "rd0") => `(tactic| try dsimp only [cxOf, Cx.nox, Cx.wish])
section
variable {P : Program} {w : World} {K : PySem.W.Frag} {mg : Str → Option Value} {base : Heap} {f : Addr} {fd : FuncData}
theorem ok_line_right (D : DefIn K mg "_law_line_right" s__law_line_right ["_law_lines", "_law_number"] f fd) (B : Blt mg) (h__law_pair : Has P w K mg base "_law_pair" 1 ["_law_row"] spPair2) (h__law_above_by : Has P w K mg base "_law_above_by" 1 ["_law_row", "_law_k"] spAbove) :
    Has P w K mg base "_law_line_right" 20 ["_law_lines", "_law_number"] spRight := by
  have nd := sc__law_line_right.nd
  refine D.has (D.fn.ok sc__law_line_right (fun vs H Q E h => ?_) (fun cdv A outer s H vs Q E hr h => ?_))
  · obtain ⟨a, i, Ls, l, rfl, _⟩ := h
    rfl
  · obtain ⟨a, i, Ls, ⟨row, rsn⟩, rfl, ⟨lv, hl, hp⟩, hsz, hi, q⟩ := h
    have huD := huD_of (m := 400) hr (by decide)
    have lls := Paired.length hp
    obtain ⟨v, hv, t, ra, rr, rvs, rfl, ht, hra, srow, hrr⟩ := Paired.get2 hp hi
    obtain ⟨hok, hrl, hdp⟩ := hsz.2 _ (List.mem_of_getElem? hi)
    have srow : Stms H rvs row := srow
    have hrl : row.length ≤ 100 := hrl
    have lrv := Paired.length srow
    refine ⟨_, (pss_cons (ps_set (i := 2) nd rfl (Or.inl rfl) (pe_ix (ix_tupK K) (pe_ix (ix_listK K) (pv 0) (pv 1) (fun _ _ => rfl)) pe_int (fun _ _ => rfl)))
      (pss_cons (ps_set (i := 3) nd rfl (Or.inl rfl) (pe_ix (ix_tupK K) (pe_ix (ix_listK K) (pv 0) (pv 1) (fun _ _ => rfl)) pe_int (fun _ _ => rfl)))
      (pss_cons (ps_if (pt_cmpR op_eq (pe_ix (ix_tupK K) (pv 3) pe_int (fun _ _ => rfl)) pe_str (nomark _)) (pss_one (ps_ret (pe_callH h__law_pair hr (pa_cons (pv 2) pa_nil)))) pss_nil)
      (pss_cons (ps_set (i := 4) nd rfl (Or.inl rfl) (pe_ix (ix_tupK K) (pv 3) pe_int (fun _ _ => rfl)))
      (pss_cons (ps_if (PW.pt (pw_or (pt_cmpR op_lt (pv 4) pe_int (nomark _)) (pw_or (pt_cmpR op_ge (pv 4) (pe_callB (call_lenK K) rfl B.len PySem.boot_len (pa_cons (pv 2) pa_nil)) (nomark _)) (pw_or1 (pt_cmpR op_ne (pe_ix (ix_tupK K) (pe_ix (ix_listK K) (pv 2) (pv 4) (fun _ _ => rfl)) pe_int (fun _ _ => rfl)) (pe_ix (ix_tupK K) (pv 3) pe_int (fun _ _ => rfl)) (nomark _)))))) (pss_one (ps_ret pe_bl)) pss_nil)
      (pss_cons (ps_set (i := 5) nd rfl (Or.inl rfl) (pe_callH h__law_above_by hr (pa_cons (pv 2) (pa_cons (pv 4) pa_nil))))
      (pss_cons (ps_for PassesOwn.never rfl (pi_range1 rfl B.range (pa_cons (pe_callB (call_lenK K) rfl B.len PySem.boot_len (pa_cons (pv 5) pa_nil)) pa_nil)) (pg_name (i := 6) nd rfl (Or.inl rfl)) (pss_cons (ps_set (i := 7) nd rfl (Or.inl rfl) (pe_ix (ix_tupK K) (pv 3) (pe_op op_add pe_int (pv 6)) (fun _ _ => rfl)))
        (pss_one (ps_if (PW.pt (pw_or (pt_cmpR op_lt (pv 7) pe_int (nomark _)) (pw_or (pt_cmpR op_ge (pv 7) (pv 1) (nomark _)) (pw_or1 (pt_cmpR (op_neD huD) (pe_ix (ix_tupK K) (pe_ix (ix_listK K) (pv 0) (pv 7) (fun _ _ => rfl)) pe_int (fun _ _ => rfl)) (pe_ix (ix_listK K) (pv 5) (pv 6) (fun _ _ => rfl)) (nomark _)))))) (pss_one (ps_ret pe_bl)) pss_nil))))
      (pss_one (ps_ret pe_bl))))))))), ?_⟩
    walk_at "rd0"
    walk_at "rd"
    refine rd_ixL (SqL.of hl) (atI_nat hv) ?_
    walk_at "rd"
    refine rd_ixL (SqL.of hl) (atI_nat hv) ?_
    walk_at "rd"
    cases rsn with
    | pair =>
      have hrr' : H rr = some (.tup [.str "pair"]) := hrr
      refine rd_ixT (SqT.of hrr') (atI_zero _ _) ?_
      walk_at "rd"
      refine if_eq ?_
      walk_at "rd"
      exact ⟨ra, rvs, row, rfl, hra, srow, fun H' S' => q H' S'⟩
    | ofk k spot told =>
      have hrr' : H rr = some (.tup (.str k :: .int spot :: told.map V.int)) := hrr
      refine rd_ixT (SqT.of hrr') (atI_zero _ _) ?_
      walk_at "rd"
      refine if_strNe (ok_not_pair hok) ?_
      walk_at "rd"
      refine rd_ixT (SqT.of hrr') (atI_one _ _ _) ?_
      walk_at "rd"
      have bad : fitsB row k spot = false → ∀ H', Same H H' → Q (.bl false) H' := fun hb H' S' => by
        have e : rightB Ls i ⟨row, .ofk k spot told⟩ = false := by show (fitsB row k spot && _) = false; rw [hb, Bool.false_and]
        have z := q H' S'
        rw [e] at z
        exact z
      refine if_dec (fun h0 => ?_) (fun h0 => ?_)
      · refine iteT ?_
        walk_at "rd"
        refine bad ?_ _ (Same.refl _)
        unfold fitsB
        rw [decide_eq_false (by omega), Bool.false_and]
      walk_at "rd"
      refine if_dec (fun h1 => ?_) (fun h1 => ?_)
      · refine iteT ?_
        walk_at "rd"
        refine bad ?_ _ (Same.refl _)
        unfold fitsB
        rw [decide_eq_false (show ¬ spot < (row.length : Int) by omega), Bool.false_and, Bool.and_false]
      obtain ⟨n, rfl⟩ : ∃ n : Nat, spot = (n : Int) := ⟨spot.toNat, by omega⟩
      have hn : n < row.length := by omega
      have hrn : row[n]? = some row[n] := List.getElem?_eq_getElem hn
      obtain ⟨v2, hv2, sv2⟩ := Paired.get2 srow hrn
      obtain ⟨a2, xs2, rfl, ex2, _⟩ := Stm.parts sv2
      walk_at "rd"
      refine rd_ixL (SqL.of hra) (atI_nat hv2) ?_
      walk_at "rd"
      refine rd_ixT (SqT.of ex2) (atI_zero _ _) ?_
      walk_at "rd"
      refine rd_ixT (SqT.of hrr') (atI_zero _ _) ?_
      walk_at "rd"
      have efit : fitsB row k (n : Int) = decide (V.str row[n].tag = V.str k) := by
        unfold fitsB tagAt
        rw [decide_eq_true (by omega), decide_eq_true (by omega), Int.toNat_natCast, List.getElem?_eq_getElem hn, Bool.eq_iff_iff]
        simp
      cases hfit : decide (V.str row[n].tag = V.str k) with
      | false =>
        refine iteT ?_
        walk_at "rd"
        exact bad (efit.trans hfit) _ (Same.refl _)
      | true =>
        refine iteF ?_
        have hfit' : fitsB row k (n : Int) = true := efit.trans hfit
        have hts : row[n].tag = k := V.str.inj (of_decide_eq_true hfit)
        have hbk : row[n].brk = true := brk_tag hts (by rcases hok with ⟨h, _⟩ | ⟨h, _⟩ | ⟨h, _⟩; exact .inl h; exact .inr (.inl h); exact .inr (.inr h))
        have htl := above_told hrn hts hok
        clear bad
        walk_at "rd"
        refine ⟨ra, rvs, row, n, row[n], rfl, hra, srow, by omega, hrn, hbk, fun lf ls H3 S3 hlf0 hlf hls => ?_⟩
        have lla := Paired.length hls
        have habf := above_few row n
        walk_at "rd"
        refine for_rng1 (by omega) (fun j σ H4 => ∃ o6 o7 : Option V, σ = [some (.ref a), some (.int i), some (.ref ra), some (.ref rr), some (.int n), some (.ref lf), o6, o7] ∧ Same H3 H4 ∧ ((told.zip (aboveS row n)).take j).all (fun e => toldB Ls i e.1 e.2) = true)
          ⟨none, none, rfl, Same.refl _, rfl⟩ ?_ ?_
        · rintro j σ H4 hj ⟨o6, o7, rfl, S4, hall⟩
          have hjt : j < told.length := by omega
          have htt : told[j]? = some told[j] := List.getElem?_eq_getElem hjt
          have S34 := S3.trans S4
          have hrr4 := S34 _ _ hrr'
          have hlf4 := S4 _ _ hlf
          have hl4 := S34 _ _ hl
          have hls4 : Paired (RowAt H4) ls (aboveS row n) := Paired.mapP hls fun _ _ z => z.mono S4
          have hja : j < (aboveS row n).length := by omega
          have har : (aboveS row n)[j]? = some (aboveS row n)[j] := List.getElem?_eq_getElem hja
          obtain ⟨y, hy, ya, yv, rfl, hya, sya⟩ := Paired.get2 hls4 har
          have hze : (told.zip (aboveS row n))[j]? = some (told[j], (aboveS row n)[j]) := zip_get2 htt har
          generalize told[j] = tt at htt hze
          generalize (aboveS row n)[j] = ar at har hze sya
          have bad : toldB Ls i tt ar = false → Q (.bl false) H4 := fun hb => by
            have e : rightB Ls i ⟨row, .ofk k n told⟩ = false := by
              show (fitsB row k n && (told.zip (aboveS row (n : Int).toNat)).all _) = false
              rw [Int.toNat_natCast, all_false hze hb, Bool.and_false]
            have z := q H4 S34
            rw [e] at z
            exact z
          walk_at "rd"
          refine rd_ixT (SqT.of hrr4) (atI_told htt) ?_
          walk_at "rd"
          refine if_dec (fun h0 => ?_) (fun h0 => ?_)
          · refine iteT ?_
            walk_at "rd"
            refine bad ?_
            unfold toldB
            rw [decide_eq_false (by omega), Bool.false_and]
          walk_at "rd"
          refine if_dec (fun h1 => ?_) (fun h1 => ?_)
          · refine iteT ?_
            walk_at "rd"
            refine bad ?_
            unfold toldB
            rw [decide_eq_false (show ¬ tt < (i : Int) by omega), Bool.false_and, Bool.and_false]
          obtain ⟨m, rfl⟩ : ∃ m : Nat, tt = (m : Int) := ⟨tt.toNat, by omega⟩
          have hil : i < Ls.length := (List.getElem?_eq_some_iff.mp hi).1
          have hm : m < Ls.length := by omega
          have hml : Ls[m]? = some Ls[m] := List.getElem?_eq_getElem hm
          obtain ⟨u, hu, t6, ra6, rr6, rv6, rfl, ht6, hra6, srow6, hrr6⟩ := Paired.get2 hp hml
          have hdm := (hsz.2 _ (List.mem_of_getElem? hml)).2.2
          have ht64 := S34 _ _ ht6
          walk_at "rd"
          refine rd_ixL (SqL.of hl4) (atI_nat hu) ?_
          walk_at "rd"
          refine rd_ixL (SqL.of hlf4) (atI_nat hy) ?_
          walk_at "rd"
          refine rd_neD (row_data (S34 _ _ hra6) (srow6.mono S34.tupK)) (row_data hya sya) (lay_says _) (lay_says _) ?_ ?_
          · have := depth_says _ hdm
            simp only [PyData.depth]
            omega
          walk_at "rd"
          rw [eqv_lst, eqv_rows]
          have hro : rowOf Ls (m : Int) = Ls[m].row := by unfold rowOf; rw [Int.toNat_natCast, hml]; rfl
          cases heq : decide (Ls[m].row = ar) with
          | true =>
            refine iteF ?_
            walk_at "rd"
            refine ⟨_, _, rfl, S4, ?_⟩
            rw [all_take_succ hze, hall]
            show toldB Ls i (m : Int) ar = true
            unfold toldB
            rw [decide_eq_true (by omega), decide_eq_true (by omega), hro, heq]
            rfl
          | false =>
            refine iteT ?_
            walk_at "rd"
            refine bad ?_
            unfold toldB
            rw [hro, heq, Bool.and_false, Bool.and_false]
        · rintro σ H4 ⟨o6, o7, rfl, S4, hall⟩
          rw [List.take_of_length_le (by rw [List.length_zip]; omega)] at hall
          walk_at "rd"
          have e : rightB Ls i ⟨row, .ofk k n told⟩ = true := by
            show (fitsB row k n && (told.zip (aboveS row (n : Int).toNat)).all _) = true
            rw [Int.toNat_natCast, hall, hfit']
            rfl
          rw [e] at q
          exact q _ (S3.trans S4)
theorem ok_shown (D : DefIn K mg "_law_shown" s__law_shown ["_law_lines", "_law_row"] f fd) (B : Blt mg) (h__law_line_right : Has P w K mg base "_law_line_right" 20 ["_law_lines", "_law_number"] spRight) : Has P w K mg base "_law_shown" 21 ["_law_lines", "_law_row"] spShows := by
  have nd := sc__law_shown.nd
  refine D.has (D.fn.ok sc__law_shown (fun vs H Q E h => ?_) (fun cdv A outer s H vs Q E hr h => ?_))
  · obtain ⟨a, r, Ls, rs, row, rfl, _⟩ := h
    rfl
  · obtain ⟨a, r, Ls, rs, row, rfl, hL, hsz, hr0, hst, hrl, hdp, q⟩ := h
    have huD := huD_of (m := 400) hr (by decide)
    have hu0 := hu0_of hr
    obtain ⟨lv, hl, hp'⟩ := id hL
    have lls := Paired.length hp'
    refine ⟨_, (pss_cons (ps_for PassesOwn.never rfl (pi_range1 rfl B.range (pa_cons (pe_callB (call_lenK K) rfl B.len PySem.boot_len (pa_cons (pv 0) pa_nil)) pa_nil)) (pg_name (i := 2) nd rfl (Or.inl rfl)) (pss_one (ps_if (pt_not (pt_val (pe_callH h__law_line_right hr (pa_cons (pv 0) (pa_cons (pv 2) pa_nil))))) (pss_one (ps_ret pe_bl)) pss_nil)))
      (pss_one (ps_ret (pe_and (pe_cmpR (op_neNK K hu0) (pv 0) (pe_lst pa_nil) (nomark _)) (pe_one (pe_cmpR (op_eqD huD) (pe_ix (ix_tupK K) (pe_ix (ix_listK K) (pv 0) (pe_un un_neg pe_int) (fun _ _ => rfl)) pe_int (fun _ _ => rfl)) (pv 1) (nomark _))))))), ?_⟩
    walk_at "rd0"
    walk_at "rd"
    refine for_rng1 (by have := hsz.1; omega) (fun i σ H1 => ∃ o2 : Option V, σ = [some (.ref a), some (.ref r), o2] ∧ Same H H1 ∧ ((List.range Ls.length).take i).all (fun i => (Ls[i]?.map (rightB Ls i)).getD true) = true)
      ⟨none, rfl, Same.refl _, rfl⟩ ?_ ?_
    · rintro i σ H1 hi ⟨o2, rfl, S1, hall⟩
      have hi' : i < Ls.length := by omega
      have hli : Ls[i]? = some Ls[i] := List.getElem?_eq_getElem hi'
      have hri : (List.range Ls.length)[i]? = some i := List.getElem?_range hi'
      walk_at "rd"
      refine ⟨a, i, Ls, Ls[i], rfl, hL.mono S1, hsz, hli, fun H2 S2 => ?_⟩
      walk_at "rd"
      cases hb : rightB Ls i Ls[i] with
      | true =>
        refine iteF ?_
        walk_at "rd"
        refine ⟨_, rfl, S1.trans S2, ?_⟩
        rw [all_take_succ hri, hall, hli]
        exact hb
      | false =>
        refine iteT ?_
        walk_at "rd"
        have e : showsB Ls row = false := by
          unfold showsB allR
          rw [all_false hri (by rw [hli]; exact hb), Bool.false_and]
        rw [e] at q
        exact q _ (S1.trans S2)
    · rintro σ H1 ⟨o2, rfl, S1, hall⟩
      have hall' : allR Ls = true := by
        rw [List.take_of_length_le (by rw [List.length_range]; omega)] at hall
        exact hall
      have hl1 := S1 _ _ hl
      walk_at "rd"
      refine ⟨(by show 0 ≤ sizeLine; decide), fun p hp => ?_⟩
      have S2 : Same H (upd H1 p (.lst [])) := S1.new hp
      have hl2 : (upd H1 p (.lst [])) a = some (.lst lv) := keepN hp hl1
      have hp2 : (upd H1 p (.lst [])) p = some (.lst []) := upd_same
      generalize upd H1 p (.lst []) = H2 at S2 hl2 hp2 ⊢
      walk_at "rd"
      rcases snoc_cases Ls with rfl | ⟨L0, l, rfl⟩
      · cases hp'
        refine iteF ?_
        have e : showsB [] row = false := rfl
        rw [e] at q
        exact q _ S2
      · obtain ⟨v0, v, rfl, hp0, t, ra, rr, rvs, rfl, ht, hra, srow, hrr⟩ := snoc_inv2 hp'
        have en : (!(v0 ++ [V.ref t]).isEmpty) = true := by cases v0 <;> rfl
        rw [en]
        refine iteT ?_
        have ht1 := S2 _ _ ht
        walk_at "rd"
        refine rd_ixL (SqL.of hl2) (atI_last _ _) ?_
        walk_at "rd"
        refine rd_eqD (row_data (S2 _ _ hra) (srow.mono S2.tupK)) (row_data (S2 _ _ hr0) (hst.mono S2.tupK)) (lay_says _) (lay_says _) ?_ ?_
        · have := depth_says _ hdp
          simp only [PyData.depth]
          omega
        rw [eqv_lst, eqv_rows]
        have e : showsB (L0 ++ [l]) row = decide (l.row = row) := by
          unfold showsB
          rw [hall', List.getLast?_concat, Bool.true_and]
        rw [e] at q
        exact q _ S2
end
end My
set_option Elab.async false
set_option linter.all false
set_option maxRecDepth 100000
set_option maxHeartbeats 4000000
namespace My
open PySem L2
seal PE PT PW PA PS PSs PC PG PGs PI PO PPs PTs
local macro_rules | `(tactic| walk_at "ne") => `(tactic| first | assumption | exact Ne.symm (by assumption))
local macro_rules | `(tactic| walk_at "hp") => `(tactic| first | assumption | (with_reducible exact upd_same) | (with_reducible apply keepN; assumption; walk_at "hp") | (with_reducible apply keepL; walk_at "ne"; walk_at "hp"))
local macro_rules | `(tactic| walk_at "sm") => `(tactic| first | assumption | (with_reducible exact Same.refl _) | (with_reducible refine Same.new ?_ (by assumption); walk_at "sm") | (with_reducible refine Same.set ?_ (by assumption); walk_at "sm"))
local macro_rules | `(tactic| walk_at "tk") => `(tactic| first | assumption | (with_reducible exact TupK.refl _) | (with_reducible refine TupK.new ?_ (by assumption); walk_at "tk") | (with_reducible refine TupK.lst ?_ (by walk_at "hp"); walk_at "tk") | (with_reducible refine TupK.dK ?_ (by walk_at "hp"); walk_at "tk") | (with_reducible refine Same.tupK ?_; walk_at "sm"))
local macro_rules | `(tactic| walk_at "sl") => `(tactic| first | assumption | (with_reducible apply SqL.of; walk_at "hp") | (with_reducible apply sameSeq; assumption; walk_at "sm"))
local macro_rules | `(tactic| walk_at "st") => `(tactic| first | assumption | (with_reducible apply SqT.of; walk_at "hp"))
local macro_rules | `(tactic| walk_at "cd") => `(tactic| first | (show (0 : Int) < _; first | decide | assumption | omega) | exact ⟨by decide, by decide⟩ | exact ⟨by decide, by decide, by decide⟩ | exact Or.inl ⟨by decide, by decide⟩ | exact Or.inr ⟨by decide, by decide⟩ | exact Or.inl ⟨by omega, by omega⟩ | exact Or.inr ⟨by omega, by omega⟩ | exact ⟨by omega, by omega⟩)
local macro_rules | `(tactic| walk_at "rd1") => `(tactic| with_reducible first
  | (apply rd_var; with_unfolding_all rfl) | apply rd_op | apply rd_C | apply rd_seq | apply rd_asg | apply rd_name | apply rd_cons | apply rd_nil | apply rd_I0 | apply rd_test | apply rd_bl | apply rd_tB
  | (apply rd_ixT; (walk_at "st"); (with_unfolding_all rfl)) | apply rd_slice | apply rd_noPart | apply rd_part | apply rd_int | apply rd_CB | apply rd_if | apply rd_call | apply rd_ret | apply rd_drop | apply rd_tup | apply rd_lst | apply rd_bm | apply rd_bm0 | (apply rd_ty; (walk_at "hp"))
  | (apply rd_I; (with_unfolding_all walk_at "cd")) | (apply rd_eq; (with_unfolding_all rfl)) | (apply rd_ne; (with_unfolding_all rfl)) | apply rd_and | apply rd_or | apply rd_not | apply rd_andV | apply rd_orV | apply rd_notV | apply rd_ifE
  | (apply rd_lenL; (walk_at "sl")) | (apply rd_lenT; (walk_at "st")) | apply rd_dnew | apply rd_dput | apply rd_din | apply rd_next | apply rd_forL | apply rd_forV | apply rd_compL | apply rd_compZ | apply rd_compT | apply rd_compR | apply rd_kget | apply rd_dget | apply rd_listRev | apply rd_chain | apply rd_ints | apply rd_un | apply rd_U | apply rd_kin | apply rd_forZT | apply rd_pcons | apply rd_pnil | (apply rd_gtup; (walk_at "st"); (with_unfolding_all rfl)) | apply rd_gcons | apply rd_gnil | apply rd_forR3 | apply rd_forR2 | apply rd_forR1 | (apply rd_itL; (walk_at "sl")) | (apply rd_neN; (walk_at "sl"); (walk_at "sl")) | (apply rd_eqN; (walk_at "sl"); (walk_at "sl")))
local macro_rules | `(tactic| walk_at "rd") => `(tactic| repeat walk_at "rd1")
local macro_rules | `(tactic| walk_at "rd0") => `(tactic| try dsimp only [cxOf, Cx.nox, Cx.wish])
section
variable {P : Program} {w : World} {K : PySem.W.Frag} {mg : Str → Option Value} {base : Heap} {f : Addr} {fd : FuncData}
theorem ok_line_on (D : DefIn K mg "_law_line_on" s__law_line_on ["_law_row", "_law_number", "_law_way", "_law_salt"] f fd) (B : Blt mg) : Has P w K mg base "_law_line_on" 1 ["_law_row", "_law_number", "_law_way", "_law_salt"] spLineOn := by
  have nd := sc__law_line_on.nd
  refine D.has (D.fn.ok sc__law_line_on (fun vs H Q E h => ?_) (fun cdv A outer s H vs Q E hr h => ?_))
  · obtain ⟨r, rs, row, n, way, salt, rfl, _⟩ := h
    rfl
  · obtain ⟨r, rs, row, n, way, salt, rfl, hr0, hst, hne, hrl, q⟩ := h
    have lrs := Paired.length hst
    have hrp : 0 < row.length := List.length_pos_iff.mpr hne
    have hpos : (0 : Int) < (rs.length : Int) := by omega
    refine ⟨_, (pss_cons (ps_set (i := 4) nd rfl (Or.inl rfl) (pe_op op_mod (pe_op op_fdiv (pv 3) pe_int) (pe_callB (call_lenK K) rfl B.len PySem.boot_len (pa_cons (pv 0) pa_nil))))
      (pss_cons (ps_if (PW.pt (pw_and (pt_cmpR op_lt (pv 2) pe_int (nomark _)) (pw_and1 (pt_cmpR op_gt (pe_callB (call_lenK K) rfl B.len PySem.boot_len (pa_cons (pv 0) pa_nil)) pe_int (nomark _))))) (pss_cons (ps_set (i := 4) nd rfl (Or.inl rfl) (pe_op op_mod (pe_op op_fdiv (pv 3) pe_int) (pe_op op_sub (pe_callB (call_lenK K) rfl B.len PySem.boot_len (pa_cons (pv 0) pa_nil)) pe_int)))
        (pss_cons (ps_set (i := 5) nd rfl (Or.inl rfl) (pe_tup (pa_cons pe_str (pa_cons (pe_ix (ix_listK K) (pv 0) (pv 4) (fun _ _ => rfl)) (pa_cons (pe_ix (ix_listK K) (pv 0) (pe_op op_add (pv 4) pe_int) (fun _ _ => rfl)) pa_nil)))))
        (pss_one (ps_ret (pe_tup (pa_cons (pe_op op_cat (pe_op op_cat (pe_slice (sl_listK K) (pv 0) po_none (po_some (pv 4))) (pe_lst (pa_cons (pv 5) pa_nil))) (pe_slice (sl_listK K) (pv 0) (po_some (pe_op op_add (pv 4) pe_int)) po_none)) (pa_cons (pe_tup (pa_cons pe_str (pa_cons (pv 4) (pa_cons (pv 1) pa_nil)))) pa_nil))))))) pss_nil)
      (pss_cons (ps_if (PW.pt (pw_and (pt_cmpR op_eq (pv 2) pe_int (nomark _)) (pw_and (pt_cmpR (op_inK K) (pe_ix (ix_tupK K) (pe_ix (ix_listK K) (pv 0) (pv 4) (fun _ _ => rfl)) pe_int (fun _ _ => rfl)) (pe_lst (pa_cons pe_str (pa_cons pe_str pa_nil))) (by with_unfolding_all rfl)) (pw_and1 (pt_cmpR op_eq (pe_op op_mod (pv 3) pe_int) pe_int (nomark _)))))) (pss_cons (ps_set (i := 5) nd rfl (Or.inl rfl) (pe_tup (pa_cons pe_str (pa_cons (pe_ix (ix_listK K) (pv 0) (pv 4) (fun _ _ => rfl)) (pa_cons (pe_ix (ix_listK K) (pv 0) (pv 4) (fun _ _ => rfl)) pa_nil)))))
        (pss_cons (ps_set (i := 6) nd rfl (Or.inl rfl) (pe_op op_cat (pe_op op_cat (pe_slice (sl_listK K) (pv 0) po_none (po_some (pv 4))) (pe_lst (pa_cons (pv 5) pa_nil))) (pe_slice (sl_listK K) (pv 0) (po_some (pe_op op_add (pv 4) pe_int)) po_none)))
        (pss_one (ps_ret (pe_tup (pa_cons (pv 6) (pa_cons (pe_tup (pa_cons pe_str (pa_cons (pv 4) (pa_cons (pv 1) (pa_cons (pv 1) pa_nil))))) pa_nil))))))) pss_nil)
      (pss_cons (ps_set (i := 7) nd rfl (Or.inl rfl) (pe_op op_rep (pe_lst (pa_cons (pe_tup (pa_cons pe_str (pa_cons pe_int pa_nil))) pa_nil)) (pe_op op_mod (pe_op op_fdiv (pv 3) pe_int) pe_int)))
      (pss_cons (ps_set (i := 6) nd rfl (Or.inl rfl) (pe_op op_cat (pe_op op_cat (pv 7) (pe_lst (pa_cons (pe_tup (pa_cons pe_str (pa_cons (pe_ix (ix_listK K) (pv 0) pe_int (fun _ _ => rfl)) pa_nil))) pa_nil))) (pe_compB ["_law_part"] 1 [] (pi_listK K (pe_slice (sl_listK K) (pv 0) (po_some pe_int) po_none)) (fun _ _ _ _ _ => (pg_name (i := 0) (show List.Nodup (["_law_part"] : List Str) by decide +kernel) rfl (Or.inl rfl))) (fun _ _ _ _ _ => pts_nil) (fun _ _ _ _ _ => (pe_tup (pa_cons pe_str (pa_cons (pv 0) pa_nil)))))))
      (pss_one (ps_ret (pe_tup (pa_cons (pv 6) (pa_cons (pe_tup (pa_cons pe_str (pa_cons (pe_callB (call_lenK K) rfl B.len PySem.boot_len (pa_cons (pv 7) pa_nil)) (pa_cons (pv 1) pa_nil)))) pa_nil)))))))))), ?_⟩
    walk_at "rd0"
    walk_at "rd"
    obtain ⟨sp, hsp, hspl⟩ : ∃ sp : Nat, salt / 7 % (rs.length : Int) = (sp : Int) ∧ sp < row.length := by
      have h0 : 0 ≤ salt / 7 % (rs.length : Int) := Int.emod_nonneg _ (by omega)
      have h1 : salt / 7 % (rs.length : Int) < (rs.length : Int) := Int.emod_lt_of_pos _ (by omega)
      exact ⟨(salt / 7 % (rs.length : Int)).toNat, by omega, by omega⟩
    rw [hsp]
    refine if_andB ?goB (fun hB hc => ?goP)
    case goP =>
      walk_at "rd"
      refine if_dec (fun hgt => ?_) (fun _ => hB)
      clear hB
      have hpos1 : (0 : Int) < (rs.length : Int) - 1 := by omega
      walk_at "rd"
      obtain ⟨k, hk, hkl⟩ : ∃ k : Nat, salt / 7 % ((rs.length : Int) - 1) = (k : Int) ∧ k + 1 < row.length := by
        have h0 : 0 ≤ salt / 7 % ((rs.length : Int) - 1) := Int.emod_nonneg _ (by omega)
        have h1 : salt / 7 % ((rs.length : Int) - 1) < (rs.length : Int) - 1 := Int.emod_lt_of_pos _ (by omega)
        exact ⟨(salt / 7 % ((rs.length : Int) - 1)).toNat, by omega, by omega⟩
      rw [hk]
      have hkk : ((k : Nat) : Int) + 1 = ((k + 1 : Nat) : Int) := rfl
      have hkk2 : ((k : Nat) : Int) + 2 = ((k + 2 : Nat) : Int) := rfl
      have g1 : row[k]? = some row[k] := List.getElem?_eq_getElem (by omega)
      have g2 : row[k + 1]? = some row[k + 1] := List.getElem?_eq_getElem hkl
      obtain ⟨v1, hv1, sv1⟩ := Paired.get2 hst g1
      obtain ⟨v2, hv2, sv2⟩ := Paired.get2 hst g2
      generalize row[k] = s1 at g1 sv1
      generalize row[k + 1] = s2 at g2 sv2
      refine rd_ixL (SqL.of hr0) (atI_nat hv1) ?_
      walk_at "rd"
      rw [hkk]
      refine rd_ixL (SqL.of hr0) (atI_nat hv2) ?_
      walk_at "rd"
      refine ⟨(by show 3 ≤ sizeLine; decide), fun p0 hp0 => ?_⟩
      have S1 : Same H (upd H p0 (.tup [.str "or", v1, v2])) := by walk_at "sm"
      have e1 : (upd H p0 (.tup [.str "or", v1, v2])) p0 = some (.tup [.str "or", v1, v2]) := upd_same
      generalize upd H p0 (.tup [.str "or", v1, v2]) = H1 at S1 e1 ⊢
      have hr1 := S1 _ _ hr0
      walk_at "rd"
      refine rd_slL (SqL.of hr1) fun p1 hp1 => ?_
      rw [cut_take]
      walk_at "rd"
      refine ⟨(by show 1 ≤ sizeLine; decide), fun p2 hp2 => ?_⟩
      walk_at "rd"
      refine rd_cat (keepN hp2 upd_same) upd_same (small (by rw [List.length_take]; simp only [List.length_cons, List.length_nil]; omega)) fun p3 hp3 => ?_
      walk_at "rd"
      rw [hkk2]
      refine rd_slL (SqL.of (keepN hp3 (keepN hp2 (keepN hp1 hr1)))) fun p4 hp4 => ?_
      rw [cut_drop]
      walk_at "rd"
      refine rd_cat (keepN hp4 upd_same) upd_same (small (by rw [List.length_append, List.length_take, List.length_drop]; simp only [List.length_cons, List.length_nil]; omega)) fun p5 hp5 => ?_
      have S2 := ((((Same.new (o := .lst (rs.take k)) S1 hp1).new (o := .lst [.ref p0]) hp2).new (o := .lst (rs.take k ++ [.ref p0])) hp3).new (o := .lst (rs.drop (k + 2))) hp4).new (o := .lst (rs.take k ++ [.ref p0] ++ rs.drop (k + 2))) hp5
      have T2 := ((((Same.new (o := .lst (rs.take k)) (Same.refl H1) hp1).new (o := .lst [.ref p0]) hp2).new (o := .lst (rs.take k ++ [.ref p0])) hp3).new (o := .lst (rs.drop (k + 2))) hp4).new (o := .lst (rs.take k ++ [.ref p0] ++ rs.drop (k + 2))) hp5
      have hn5 : H p5 = none := by
        cases hh : H p5 with
        | none => rfl
        | some o => rw [keepN hp4 (keepN hp3 (keepN hp2 (keepN hp1 (S1 _ _ hh))))] at hp5; cases hp5
      have h55 : (upd (upd (upd (upd (upd H1 p1 (.lst (rs.take k))) p2 (.lst [.ref p0])) p3 (.lst (rs.take k ++ [.ref p0]))) p4 (.lst (rs.drop (k + 2)))) p5 (.lst (rs.take k ++ [.ref p0] ++ rs.drop (k + 2)))) p5 = some (.lst (rs.take k ++ [.ref p0] ++ rs.drop (k + 2))) := upd_same
      generalize upd (upd (upd (upd (upd H1 p1 (.lst (rs.take k))) p2 (.lst [.ref p0])) p3 (.lst (rs.take k ++ [.ref p0]))) p4 (.lst (rs.drop (k + 2)))) p5 (.lst (rs.take k ++ [.ref p0] ++ rs.drop (k + 2))) = H2 at S2 T2 h55 ⊢
      walk_at "rd"
      refine ⟨(by show 3 ≤ sizeLine; decide), fun p6 hp6 => ?_⟩
      walk_at "rd"
      refine ⟨(by show 2 ≤ sizeLine; decide), fun p7 hp7 => ?_⟩
      have SF := (S2.new (o := .tup [.str "or", .int k, .int n]) hp6).new (o := .tup [.ref p5, .ref p6]) hp7
      have TF := ((Same.refl H2).new (o := .tup [.str "or", .int k, .int n]) hp6).new (o := .tup [.ref p5, .ref p6]) hp7
      exact q p7 p5 p6 _ ⟨row.take k ++ [.disj s1 s2] ++ row.drop (k + 2), .ofk "or" k [n]⟩ _ SF upd_same hn5 (TF _ _ h55)
        (Paired.app (Paired.app (Paired.take1 k (hst.mono SF.tupK)) (.cons (.disj (TF _ _ (T2 _ _ e1)) (sv1.mono SF.tupK) (sv2.mono SF.tupK)) .nil)) (Paired.drop1 (k + 2) (hst.mono SF.tupK))) (keepN hp7 upd_same) (.disj g1 g2)
    case goB =>
      walk_at "rd"
      have hkk : ((sp : Nat) : Int) + 1 = ((sp + 1 : Nat) : Int) := rfl
      have g1 : row[sp]? = some row[sp] := List.getElem?_eq_getElem hspl
      obtain ⟨v1, hv1, sv1⟩ := Paired.get2 hst g1
      generalize row[sp] = s1 at g1 sv1
      refine if_andH (H := H) (fun H1 S1 => ?goB2) (fun hB hc => ?goP2)
      case goP2 =>
        obtain ⟨a1, xs1, rfl, ex1, _⟩ := Stm.parts sv1
        walk_at "rd"
        refine rd_ixL (SqL.of hr0) (atI_nat hv1) ?_
        walk_at "rd"
        refine rd_ixT (SqT.of ex1) (atI_zero _ _) ?_
        walk_at "rd"
        refine ⟨(by show 2 ≤ sizeLine; decide), fun p hp => ?_⟩
        walk_at "rd"
        refine rd_inS (.inl (SqL.of upd_same)) rfl rfl ?_
        have S1 : Same H (upd H p (.lst [.str "lamp", .str "dark"])) := by walk_at "sm"
        generalize upd H p (.lst [.str "lamp", .str "dark"]) = H1 at S1 ⊢
        walk_at "rd"
        rw [leafB]
        cases hlf : Say.leaf s1 with
        | false => exact iteF (iteF (hB _ S1))
        | true =>
          refine iteT ?_
          walk_at "rd"
          refine if_dec (fun _ => ?_) (fun _ => hB _ S1)
          clear hB
          have hr1 := S1 _ _ hr0
          walk_at "rd"
          refine rd_ixL (SqL.of hr1) (atI_nat hv1) ?_
          walk_at "rd"
          refine rd_ixL (SqL.of hr1) (atI_nat hv1) ?_
          walk_at "rd"
          refine ⟨(by show 3 ≤ sizeLine; decide), fun p0 hp0 => ?_⟩
          have S2 : Same H (upd H1 p0 (.tup [.str "and", .ref a1, .ref a1])) := S1.new hp0
          have e1 : (upd H1 p0 (.tup [.str "and", .ref a1, .ref a1])) p0 = some (.tup [.str "and", .ref a1, .ref a1]) := upd_same
          generalize upd H1 p0 (.tup [.str "and", .ref a1, .ref a1]) = H2 at S2 e1 ⊢
          have hr2 := S2 _ _ hr0
          walk_at "rd"
          refine rd_slL (SqL.of hr2) fun p1 hp1 => ?_
          rw [cut_take]
          walk_at "rd"
          refine ⟨(by show 1 ≤ sizeLine; decide), fun p2 hp2 => ?_⟩
          walk_at "rd"
          refine rd_cat (keepN hp2 upd_same) upd_same (small (by rw [List.length_take]; simp only [List.length_cons, List.length_nil]; omega)) fun p3 hp3 => ?_
          walk_at "rd"
          rw [hkk]
          refine rd_slL (SqL.of (keepN hp3 (keepN hp2 (keepN hp1 hr2)))) fun p4 hp4 => ?_
          rw [cut_drop]
          walk_at "rd"
          refine rd_cat (keepN hp4 upd_same) upd_same (small (by rw [List.length_append, List.length_take, List.length_drop]; simp only [List.length_cons, List.length_nil]; omega)) fun p5 hp5 => ?_
          have S3 := ((((Same.new (o := .lst (rs.take sp)) S2 hp1).new (o := .lst [.ref p0]) hp2).new (o := .lst (rs.take sp ++ [.ref p0])) hp3).new (o := .lst (rs.drop (sp + 1))) hp4).new (o := .lst (rs.take sp ++ [.ref p0] ++ rs.drop (sp + 1))) hp5
          have T3 := ((((Same.new (o := .lst (rs.take sp)) (Same.refl H2) hp1).new (o := .lst [.ref p0]) hp2).new (o := .lst (rs.take sp ++ [.ref p0])) hp3).new (o := .lst (rs.drop (sp + 1))) hp4).new (o := .lst (rs.take sp ++ [.ref p0] ++ rs.drop (sp + 1))) hp5
          have hn5 : H p5 = none := by
            cases hh : H p5 with
            | none => rfl
            | some o => rw [keepN hp4 (keepN hp3 (keepN hp2 (keepN hp1 (S2 _ _ hh))))] at hp5; cases hp5
          have h55 : (upd (upd (upd (upd (upd H2 p1 (.lst (rs.take sp))) p2 (.lst [.ref p0])) p3 (.lst (rs.take sp ++ [.ref p0]))) p4 (.lst (rs.drop (sp + 1)))) p5 (.lst (rs.take sp ++ [.ref p0] ++ rs.drop (sp + 1)))) p5 = some (.lst (rs.take sp ++ [.ref p0] ++ rs.drop (sp + 1))) := upd_same
          generalize upd (upd (upd (upd (upd H2 p1 (.lst (rs.take sp))) p2 (.lst [.ref p0])) p3 (.lst (rs.take sp ++ [.ref p0]))) p4 (.lst (rs.drop (sp + 1)))) p5 (.lst (rs.take sp ++ [.ref p0] ++ rs.drop (sp + 1))) = H3 at S3 T3 h55 ⊢
          walk_at "rd"
          refine ⟨(by show 4 ≤ sizeLine; decide), fun p6 hp6 => ?_⟩
          walk_at "rd"
          refine ⟨(by show 2 ≤ sizeLine; decide), fun p7 hp7 => ?_⟩
          have SF := (S3.new (o := .tup [.str "and", .int sp, .int n, .int n]) hp6).new (o := .tup [.ref p5, .ref p6]) hp7
          have TF := ((Same.refl H3).new (o := .tup [.str "and", .int sp, .int n, .int n]) hp6).new (o := .tup [.ref p5, .ref p6]) hp7
          exact q p7 p5 p6 _ ⟨row.take sp ++ [.conj s1 s1] ++ row.drop (sp + 1), .ofk "and" sp [n, n]⟩ _ SF upd_same hn5 (TF _ _ h55)
            (Paired.app (Paired.app (Paired.take1 sp (hst.mono SF.tupK)) (.cons (.conj (TF _ _ (T3 _ _ e1)) (sv1.mono SF.tupK) (sv1.mono SF.tupK)) .nil)) (Paired.drop1 (sp + 1) (hst.mono SF.tupK))) (keepN hp7 upd_same) (.conj g1 hlf)
      case goB2 =>
        clear sv1 hv1 g1 hkk
        have hr1 := S1 _ _ hr0
        have hst1 := hst.mono S1.tupK
        walk_at "rd"
        refine ⟨(by show 2 ≤ sizeLine; decide), fun p0 hp0 => ?_⟩
        walk_at "rd"
        refine ⟨(by show 1 ≤ sizeLine; decide), fun p1 hp1 => ?_⟩
        walk_at "rd"
        obtain ⟨m, hm, hm1⟩ : ∃ m : Nat, salt / 5 % 2 = (m : Int) ∧ m ≤ 1 := by
          have h0 : 0 ≤ salt / 5 % 2 := Int.emod_nonneg _ (by decide)
          have h1 : salt / 5 % 2 < 2 := Int.emod_lt_of_pos _ (by decide)
          exact ⟨(salt / 5 % 2).toNat, by omega, by omega⟩
        rw [hm]
        refine rd_rep upd_same (by omega) (by omega) (by simp) fun p2 hp2 => ?_
        rw [Int.toNat_natCast, List.flatten_replicate_singleton]
        have S2 : Same H1 (upd (upd (upd H1 p0 (.tup [.str "dark", .int 2])) p1 (.lst [.ref p0])) p2 (.lst (List.replicate m (.ref p0)))) := by walk_at "sm"
        have h00 : (upd (upd (upd H1 p0 (.tup [.str "dark", .int 2])) p1 (.lst [.ref p0])) p2 (.lst (List.replicate m (.ref p0)))) p0 = some (.tup [.str "dark", .int 2]) := by walk_at "hp"
        have h22 : (upd (upd (upd H1 p0 (.tup [.str "dark", .int 2])) p1 (.lst [.ref p0])) p2 (.lst (List.replicate m (.ref p0)))) p2 = some (.lst (List.replicate m (.ref p0))) := upd_same
        generalize upd (upd (upd H1 p0 (.tup [.str "dark", .int 2])) p1 (.lst [.ref p0])) p2 (.lst (List.replicate m (.ref p0))) = H2 at S2 h00 h22 ⊢
        have hr2 := S2 _ _ hr1
        have hst2 := hst1.mono S2.tupK
        obtain ⟨s0, b, rfl⟩ : ∃ s0 b, row = s0 :: b := by cases row with | nil => exact absurd rfl hne | cons x y => exact ⟨x, y, rfl⟩
        cases hst2 with
        | @cons v0 _ vb _ sv0 svb =>
          walk_at "rd"
          refine rd_ixL (SqL.of hr2) (atI_zero _ _) ?_
          walk_at "rd"
          refine ⟨(by show 2 ≤ sizeLine; decide), fun p3 hp3 => ?_⟩
          walk_at "rd"
          refine ⟨(by show 1 ≤ sizeLine; decide), fun p4 hp4 => ?_⟩
          walk_at "rd"
          refine rd_cat (keepN hp4 (keepN hp3 h22)) upd_same (small (by simp only [List.length_replicate, List.length_cons, List.length_nil]; omega)) fun p5 hp5 => ?_
          have S3 : Same H2 (upd (upd (upd H2 p3 (.tup [.str "every", v0])) p4 (.lst [.ref p3])) p5 (.lst (List.replicate m (.ref p0) ++ [.ref p3]))) := by walk_at "sm"
          have h33 : (upd (upd (upd H2 p3 (.tup [.str "every", v0])) p4 (.lst [.ref p3])) p5 (.lst (List.replicate m (.ref p0) ++ [.ref p3]))) p3 = some (.tup [.str "every", v0]) := by walk_at "hp"
          have h55 : (upd (upd (upd H2 p3 (.tup [.str "every", v0])) p4 (.lst [.ref p3])) p5 (.lst (List.replicate m (.ref p0) ++ [.ref p3]))) p5 = some (.lst (List.replicate m (.ref p0) ++ [.ref p3])) := upd_same
          generalize upd (upd (upd H2 p3 (.tup [.str "every", v0])) p4 (.lst [.ref p3])) p5 (.lst (List.replicate m (.ref p0) ++ [.ref p3])) = H3 at S3 h33 h55 ⊢
          have hr3 := S3 _ _ hr2
          walk_at "rd"
          refine rd_slL (SqL.of hr3) fun p6 hp6 => ?_
          rw [show cutV (v0 :: vb) (some 1) none = vb from cut_drop (v0 :: vb) 1]
          have S4 : Same H3 (upd H3 p6 (.lst vb)) := by walk_at "sm"
          have h66 : (upd H3 p6 (.lst vb)) p6 = some (.lst vb) := upd_same
          generalize upd H3 p6 (.lst vb) = H4 at S4 h66 ⊢
          have S24 := S3.trans S4
          have lvb := Paired.length svb
          simp only [List.length_cons] at hrl
          walk_at "rd"
          refine comp_list (SqL.of h66) (by omega) fun Dz hDz => ⟨fun i y H => ∃ t, b[i]? = some t ∧ Stm H y (.so t), fun i y H H' ⟨t, e, z⟩ _ T => ⟨t, e, z.mono T⟩, fun j x H5 ys C hx S5 hd5 hC => ?_, fun zs H5 S5 hD5 hl5 hR5 => ?_⟩
          · obtain ⟨t1, ht1, sx⟩ := Paired.get1 svb hx
            walk_at "rd"
            refine ⟨(by show 2 ≤ sizeLine; decide), fun p7 hp7 => ?_⟩
            exact hC _ _ (by walk_at "sm") ⟨t1, ht1, .so upd_same (((sx.mono S24.tupK).mono S5.tupK).mono (by walk_at "tk"))⟩
          have hrow5 : Stms H5 zs (b.map .so) := Paired.of_get (by rw [List.length_map]; omega) fun j y t1 e1 e2 => by
            obtain ⟨t2, e3, z⟩ := hR5 j y e1
            rw [List.getElem?_map, e3] at e2
            cases e2
            exact z
          have S35 := S4.trans S5
          walk_at "rd"
          refine rd_cat (S35 _ _ h55) hD5 (small (by simp only [List.length_append, List.length_replicate, List.length_cons, List.length_nil]; omega)) fun p8 hp8 => ?_
          have hn8 : H p8 = none := by
            cases hh : H p8 with
            | none => rfl
            | some o => rw [S35 _ _ (S3 _ _ (S2 _ _ (S1 _ _ hh)))] at hp8; cases hp8
          have S6 : Same H5 (upd H5 p8 (.lst (List.replicate m (.ref p0) ++ [.ref p3] ++ zs))) := by walk_at "sm"
          have h88 : (upd H5 p8 (.lst (List.replicate m (.ref p0) ++ [.ref p3] ++ zs))) p8 = some (.lst (List.replicate m (.ref p0) ++ [.ref p3] ++ zs)) := upd_same
          generalize upd H5 p8 (.lst (List.replicate m (.ref p0) ++ [.ref p3] ++ zs)) = H6 at S6 h88 ⊢
          have S26 : Same H2 H6 := S3.trans (S35.trans S6)
          have h226 := S26 _ _ h22
          walk_at "rd"
          refine ⟨(by show 3 ≤ sizeLine; decide), fun p9 hp9 => ?_⟩
          walk_at "rd"
          refine ⟨(by show 2 ≤ sizeLine; decide), fun p10 hp10 => ?_⟩
          rw [List.length_replicate] at hp10 ⊢
          have T7 := ((Same.refl H6).new (o := .tup [.str "every", .int m, .int n]) hp9).new (o := .tup [.ref p8, .ref p9]) hp10
          have T27 := S26.trans T7
          refine q p10 p8 p9 _ ⟨List.replicate m (.dark 2) ++ [.ev s0] ++ b.map .so, .ofk "every" m [n]⟩ _ (S1.trans (S2.trans T27)) upd_same hn8 (T7 _ _ h88) ?_ (keepN hp10 upd_same) (.ev rfl hm1)
          refine Paired.app (Paired.app ?_ (.cons (.ev ((S35.trans (S6.trans T7)) _ _ h33) (sv0.mono T27.tupK)) .nil)) (hrow5.mono (S6.trans T7).tupK)
          refine Paired.of_get (by simp) fun j y t1 e1 e2 => ?_
          rw [List.eq_of_mem_replicate (List.mem_of_getElem? e1), List.eq_of_mem_replicate (List.mem_of_getElem? e2)]
          exact .dark (T27 _ _ h00)
end
end My
set_option Elab.async false
set_option linter.all false
set_option maxRecDepth 100000
set_option maxHeartbeats 4000000
namespace My
open PySem L2
seal PE PT PW PA PS PSs PC PG PGs PI PO PPs PTs
local macro_rules | `(tactic| walk_at "ne") => `(tactic| first | assumption | exact Ne.symm (by assumption))
local macro_rules | `(tactic| walk_at "hp") => `(tactic| first | assumption | (with_reducible exact upd_same) | (with_reducible apply keepN; assumption; walk_at "hp") | (with_reducible apply keepL; walk_at "ne"; walk_at "hp"))
local macro_rules | `(tactic| walk_at "sm") => `(tactic| first | assumption | (with_reducible exact Same.refl _) | (with_reducible refine Same.new ?_ (by assumption); walk_at "sm") | (with_reducible refine Same.set ?_ (by assumption); walk_at "sm"))
local macro_rules | `(tactic| walk_at "tk") => `(tactic| first | assumption | (with_reducible exact TupK.refl _) | (with_reducible refine TupK.new ?_ (by assumption); walk_at "tk") | (with_reducible refine TupK.lst ?_ (by walk_at "hp"); walk_at "tk") | (with_reducible refine TupK.dK ?_ (by walk_at "hp"); walk_at "tk") | (with_reducible refine Same.tupK ?_; walk_at "sm"))
local macro_rules | `(tactic| walk_at "sl") => `(tactic| first | assumption | (with_reducible apply SqL.of; walk_at "hp") | (with_reducible apply sameSeq; assumption; walk_at "sm"))
local macro_rules | `(tactic| walk_at "st") => `(tactic| first | assumption | (with_reducible apply SqT.of; walk_at "hp"))
local macro_rules | `(tactic| walk_at "cd") => `(tactic| first | (show (0 : Int) < _; first | decide | assumption | omega) | exact ⟨by decide, by decide⟩ | exact ⟨by decide, by decide, by decide⟩ | exact Or.inl ⟨by decide, by decide⟩ | exact Or.inr ⟨by decide, by decide⟩ | exact Or.inl ⟨by omega, by omega⟩ | exact Or.inr ⟨by omega, by omega⟩ | exact ⟨by omega, by omega⟩)
local macro_rules | `(tactic| walk_at "rd1") => `(tactic| with_reducible first
  | (apply rd_var; with_unfolding_all rfl) | apply rd_op | apply rd_C | apply rd_seq | apply rd_asg | apply rd_name | apply rd_cons | apply rd_nil | apply rd_I0 | apply rd_test | apply rd_bl | apply rd_tB
  | (apply rd_ixT; (walk_at "st"); (with_unfolding_all rfl)) | apply rd_slice | apply rd_noPart | apply rd_part | apply rd_int | apply rd_CB | apply rd_if | apply rd_call | apply rd_ret | apply rd_drop | apply rd_tup | apply rd_lst | apply rd_bm | apply rd_bm0 | (apply rd_ty; (walk_at "hp"))
  | (apply rd_I; (with_unfolding_all walk_at "cd")) | (apply rd_eq; (with_unfolding_all rfl)) | (apply rd_ne; (with_unfolding_all rfl)) | apply rd_and | apply rd_or | apply rd_not | apply rd_andV | apply rd_orV | apply rd_notV | apply rd_ifE
  | (apply rd_lenL; (walk_at "sl")) | (apply rd_lenT; (walk_at "st")) | apply rd_dnew | apply rd_dput | apply rd_din | apply rd_next | apply rd_forL | apply rd_forV | apply rd_compL | apply rd_compZ | apply rd_compT | apply rd_compR | apply rd_kget | apply rd_dget | apply rd_listRev | apply rd_chain | apply rd_ints | apply rd_un | apply rd_U | apply rd_kin | apply rd_forZT | apply rd_pcons | apply rd_pnil | (apply rd_gtup; (walk_at "st"); (with_unfolding_all rfl)) | apply rd_gcons | apply rd_gnil | apply rd_forR3 | apply rd_forR2 | apply rd_forR1 | (apply rd_itL; (walk_at "sl")) | (apply rd_neN; (walk_at "sl"); (walk_at "sl")) | (apply rd_eqN; (walk_at "sl"); (walk_at "sl")))
local macro_rules | `(tactic| walk_at "rd") => `(tactic| repeat walk_at "rd1")
local macro_rules | `(tactic| walk_at "rd0") => `(tactic| try dsimp only [cxOf, Cx.nox, Cx.wish])
section
variable {P : Program} {w : World} {K : PySem.W.Frag} {mg : Str → Option Value} {base : Heap} {f : Addr} {fd : FuncData}
theorem ok_lines_of (D : DefIn K mg "_law_lines_of" s__law_lines_of ["_law_cells"] f fd) (B : Blt mg) (h__law_line_on : Has P w K mg base "_law_line_on" 1 ["_law_row", "_law_number", "_law_way", "_law_salt"] spLineOn) : Has P w K mg base "_law_lines_of" 2 ["_law_cells"] spLinesOf := by
  have nd := sc__law_lines_of.nd
  refine D.has (D.fn.ok sc__law_lines_of (fun vs H Q E h => ?_) (fun cdv A outer s H vs Q E hr h => ?_))
  · obtain ⟨c, ns, rfl, _⟩ := h
    rfl
  · obtain ⟨c, ns, rfl, hc, hnz, q⟩ := h
    have hu0 := hu0_of hr
    have huD := huD_of (m := 100) hr (by decide)
    have hnl : (ns.map V.int).length = ns.length := List.length_map _
    refine ⟨_, (pss_cons (ps_set (i := 1) nd rfl (Or.inl rfl) (pe_lst pa_nil))
      (pss_cons (ps_for PassesOwn.never rfl (pi_range1 rfl B.range (pa_cons (pe_callB (call_lenK K) rfl B.len PySem.boot_len (pa_cons (pv 0) pa_nil)) pa_nil)) (pg_name (i := 2) nd rfl (Or.inl rfl)) (pss_cons (ps_set (i := 3) nd rfl (Or.inl rfl) (pe_op op_add (pe_op op_fdiv (pe_ix (ix_listK K) (pv 0) (pv 2) (fun _ _ => rfl)) pe_int) (pv 2)))
        (pss_cons (ps_set (i := 4) nd rfl (Or.inl rfl) (pe_ix (ix_listK K) (pe_lst (pa_ints (ns := [0, 1, 2, 3, 4, 5, 3, 0]) (by kernel_rfl))) (pe_op op_mod (pe_ix (ix_listK K) (pv 0) (pv 2) (fun _ _ => rfl)) pe_int) (fun _ _ => rfl)) (hs := by kernel_rfl))
        (pss_one (ps_if (PW.pt (pw_or (pt_cmpR (op_eqNK K hu0) (pv 1) (pe_lst pa_nil) (nomark _)) (pw_or1 (pt_cmpR op_eq (pv 4) pe_int (nomark _))))) (pss_cons (ps_set (i := 5) nd rfl (Or.inl rfl) (pe_op op_add pe_int (pe_op op_mod (pv 3) pe_int)))
          (pss_cons (ps_set (i := 6) nd rfl (Or.inl rfl) (pe_tup (pa_cons pe_str (pa_cons (pe_tup (pa_cons pe_str (pa_cons (pe_op op_add pe_int (pe_op op_mod (pe_op op_fdiv (pv 3) pe_int) pe_int)) pa_nil))) pa_nil))))
          (pss_one (ps_expr (pe_bmK K PySem.F.plainAttrs_list PySem.F.slot_list_append PySem.F.type_list_append mt_append (pv 1) (pa_cons (pe_tup (pa_cons (pe_lst (pa_cons (pe_tup (pa_cons pe_str (pa_cons (pv 5) pa_nil))) (pa_cons (pv 6) (pa_cons (pe_tup (pa_cons pe_str (pa_cons (pv 5) pa_nil))) pa_nil)))) (pa_cons (pe_tup (pa_cons pe_str pa_nil)) pa_nil))) pa_nil)))))) (pss_cons (ps_set (i := 7) nd rfl (Or.inl rfl) (pe_op op_sub (pe_op op_sub (pe_callB (call_lenK K) rfl B.len PySem.boot_len (pa_cons (pv 1) pa_nil)) pe_int) (pe_op op_mod (pv 3) (pe_callB (call_min2 rfl) rfl B.min PyProof.Rows.boot_min (pa_cons pe_int (pa_cons (pe_callB (call_lenK K) rfl B.len PySem.boot_len (pa_cons (pv 1) pa_nil)) pa_nil))))))
          (pss_cons (ps_set (i := 8) nd rfl (Or.inl rfl) (pe_ix (ix_tupK K) (pe_ix (ix_listK K) (pv 1) (pv 7) (fun _ _ => rfl)) pe_int (fun _ _ => rfl)))
          (pss_one (ps_if (PW.pt (pw_and (pt_cmpR op_eq (pv 4) pe_int (nomark _)) (pw_and1 (pt_cmpR (op_eqD huD) (pe_ix (ix_tupK K) (pe_ix (ix_listK K) (pv 1) (pv 7) (fun _ _ => rfl)) pe_int (fun _ _ => rfl)) (pe_tup (pa_cons pe_str pa_nil)) (nomark _))))) (pss_cons (ps_set (i := 9) nd rfl (Or.inl rfl) (pe_tup (pa_cons pe_str (pa_cons (pe_op op_add pe_int (pe_op op_mod (pe_op op_fdiv (pv 3) pe_int) pe_int)) pa_nil))))
            (pss_cons (ps_expr (pe_bmK K PySem.F.plainAttrs_list PySem.F.slot_list_append PySem.F.type_list_append mt_append (pv 1) (pa_cons (pe_tup (pa_cons (pe_lst (pa_cons (pe_ix (ix_listK K) (pv 8) pe_int (fun _ _ => rfl)) (pa_cons (pv 9) (pa_cons (pe_ix (ix_listK K) (pv 8) pe_int (fun _ _ => rfl)) pa_nil)))) (pa_cons (pe_tup (pa_cons pe_str pa_nil)) pa_nil))) pa_nil)))
            (pss_cons (ps_set (i := 10) nd rfl (Or.inl rfl) (pe_lst (pa_cons (pe_ix (ix_listK K) (pv 8) pe_int (fun _ _ => rfl)) (pa_cons (pe_tup (pa_cons pe_str (pa_cons (pe_ix (ix_listK K) (pv 8) pe_int (fun _ _ => rfl)) (pa_cons (pv 9) pa_nil)))) (pa_cons (pe_ix (ix_listK K) (pv 8) pe_int (fun _ _ => rfl)) pa_nil)))))
            (pss_one (ps_expr (pe_bmK K PySem.F.plainAttrs_list PySem.F.slot_list_append PySem.F.type_list_append mt_append (pv 1) (pa_cons (pe_tup (pa_cons (pv 10) (pa_cons (pe_tup (pa_cons pe_str (pa_cons pe_int (pa_cons (pv 7) (pa_cons (pe_op op_sub (pe_callB (call_lenK K) rfl B.len PySem.boot_len (pa_cons (pv 1) pa_nil)) pe_int) pa_nil))))) pa_nil))) pa_nil))))))) (pss_one (ps_expr (pe_bmK K PySem.F.plainAttrs_list PySem.F.slot_list_append PySem.F.type_list_append mt_append (pv 1) (pa_cons (pe_callH h__law_line_on hr (pa_cons (pv 8) (pa_cons (pv 7) (pa_cons (pv 4) (pa_cons (pv 3) pa_nil))))) pa_nil)))))))))))))
      (pss_one (ps_ret (pv 1))))), ?_⟩
    walk_at "rd0"
    walk_at "rd"
    refine ⟨(by show 0 ≤ sizeLine; decide), fun a ha => ?_⟩
    have S0 : Same H (upd H a (.lst [])) := by walk_at "sm"
    have ha0 : (upd H a (.lst [])) a = some (.lst []) := upd_same
    generalize upd H a (.lst []) = H0 at S0 ha0 ⊢
    have hc0 := S0 _ _ hc
    walk_at "rd"
    refine for_rng1 (by omega) (fun i σ H1 => ∃ (Ls : List Line) (o2 o3 o4 o5 o6 o7 o8 o9 o10 : Option V), σ = [some (.ref c), some (.ref a), o2, o3, o4, o5, o6, o7, o8, o9, o10] ∧ Same H H1 ∧ LinesD H1 a Ls ∧ Drawn i Ls ∧ Low Ls)
      ⟨[], none, none, none, none, none, none, none, none, none, rfl, S0, ⟨[], ha0, .nil⟩, Drawn.nil, fun l hl => (by cases hl)⟩ ?_ ?_
    · rintro i σ H1 hi ⟨Ls, o2, o3, o4, o5, o6, o7, o8, o9, o10, rfl, S1, ⟨vs, hv, hp⟩, hD, hlow⟩
      have hil : i < ns.length := by omega
      have hc1 := S1 _ _ hc
      have lvs := Paired.length hp
      have hL1 := hD.1
      walk_at "rd"
      refine rd_ixL (SqL.of hc1) (atI_cell hil) ?_
      walk_at "rd"
      refine ⟨(by show 8 ≤ sizeLine; decide), fun p hp1 => ?_⟩
      walk_at "rd"
      refine rd_ixL (SqL.of (keepN hp1 hc1)) (atI_cell hil) ?_
      walk_at "rd"
      obtain ⟨way, -, hway⟩ := get_range (xs := [0, 1, 2, 3, 4, 5, 3, 0]) (i := cell ns i) (n := 8) rfl (by decide)
      refine rd_ixL (SqL.of upd_same) hway ?_
      have S2 : Same H1 (upd H1 p (.lst (List.map V.int [0, 1, 2, 3, 4, 5, 3, 0]))) := by walk_at "sm"
      generalize upd H1 p (.lst (List.map V.int [0, 1, 2, 3, 4, 5, 3, 0])) = H2 at S2 ⊢
      generalize cell ns i / 8 + (i : Int) = salt
      walk_at "rd"
      refine ⟨(by show 0 ≤ sizeLine; decide), fun p2 hp2 => ?_⟩
      have S3 : Same H1 (upd H2 p2 (.lst [])) := S2.new hp2
      have hp22 : (upd H2 p2 (.lst [])) p2 = some (.lst []) := upd_same
      generalize upd H2 p2 (.lst []) = H3 at S3 hp22 ⊢
      have hv3 := S3 _ _ hv
      have hp3 := lns_mono hp S3.sameD S3.tupK
      have S13 := S1.trans S3
      clear S2 hp2 hp1 hway
      walk_at "rd"
      refine if_orB ?goA (fun hA he => ?goP)
      case goA =>
        walk_at "rd"
        refine ⟨(by show 2 ≤ sizeLine; decide), fun q1 hq1 => ?_⟩
        walk_at "rd"
        refine ⟨(by show 2 ≤ sizeLine; decide), fun q2 hq2 => ?_⟩
        walk_at "rd"
        refine ⟨(by show 2 ≤ sizeLine; decide), fun q3 hq3 => ?_⟩
        walk_at "rd"
        refine ⟨(by show 2 ≤ sizeLine; decide), fun q4 hq4 => ?_⟩
        walk_at "rd"
        refine ⟨(by show 3 ≤ sizeLine; decide), fun q5 hq5 => ?_⟩
        have n5 : q5 ≠ a := (ne_of_none (keepN hq4 (keepN hq3 (keepN hq2 (keepN hq1 hv3)))) hq5).symm
        walk_at "rd"
        refine ⟨(by show 1 ≤ sizeLine; decide), fun q6 hq6 => ?_⟩
        walk_at "rd"
        refine ⟨(by show 2 ≤ sizeLine; decide), fun q7 hq7 => ?_⟩
        have hkl : 0 ≤ 1 + salt % 3 ∧ 1 + salt % 3 ≤ 100 := by omega
        have hjl : (Say.so (.lamp (1 + salt / 3 % 2))).low := by show 0 ≤ 1 + salt / 3 % 2 ∧ 1 + salt / 3 % 2 ≤ 100; omega
        generalize 1 + salt % 3 = k at *
        generalize 1 + salt / 3 % 2 = j at *
        have T := ((((((Same.new (o := .tup [.str "lamp", .int j]) (Same.refl H3) hq1).new (o := .tup [.str "some", .ref q1]) hq2).new (o := .tup [.str "lamp", .int k]) hq3).new (o := .tup [.str "dark", .int k]) hq4).new (o := .lst [.ref q3, .ref q2, .ref q4]) hq5).new (o := .tup [.str "pair"]) hq6).new (o := .tup [.ref q5, .ref q6]) hq7
        have hv4 := T _ _ hv3
        walk_at "rd"
        refine rd_append hv4 (smallLt (by omega)) ?_
        refine ⟨Ls ++ [⟨[.lamp k, .so (.lamp j), .dark k], .pair⟩], _, _, _, _, _, _, _, _, _, rfl, (S13.trans T).set ha, LinesD.put hv4 (lns_mono hp3 T.sameD T.tupK) ⟨q7, q5, q6, _, rfl, upd_same, n5, by walk_at "hp", ?_, keepN hq7 upd_same⟩, hD.pair (Nat.le_refl _) (Nat.le_refl _), hlow.snoc (low3 hkl hjl)⟩
        exact .cons (.lamp (by walk_at "hp")) (.cons (.so (by walk_at "hp") (.lamp (by walk_at "hp"))) (.cons (.dark (by walk_at "hp")) .nil))
      case goP =>
        walk_at "rd"
        refine if_dec (fun _ => hA) (fun _ => ?_)
        clear hA
        have hvn : 0 < vs.length := by cases vs with | nil => cases he | cons x y => simp
        have hmin : (0 : Int) < (if ((vs.length : Nat) : Int) < 3 then ((vs.length : Nat) : Int) else 3) := by split <;> omega
        walk_at "rd"
        refine ⟨3, _, rfl, ?_⟩
        walk_at "rd"
        obtain ⟨n, hn, hnl2⟩ : ∃ n : Nat, ((vs.length : Nat) : Int) - 1 - salt % (if ((vs.length : Nat) : Int) < 3 then ((vs.length : Nat) : Int) else 3) = (n : Int) ∧ n < Ls.length := by
          have h0 := Int.emod_nonneg salt (Int.ne_of_gt hmin)
          have h1 := Int.emod_lt_of_pos salt hmin
          have h2 : (if ((vs.length : Nat) : Int) < 3 then ((vs.length : Nat) : Int) else 3) ≤ ((vs.length : Nat) : Int) := by split <;> omega
          generalize salt % (if ((vs.length : Nat) : Int) < 3 then ((vs.length : Nat) : Int) else 3) = z at h0 h1
          exact ⟨(((vs.length : Nat) : Int) - 1 - z).toNat, by omega, by omega⟩
        rw [hn]
        have hln : Ls[n]? = some Ls[n] := List.getElem?_eq_getElem hnl2
        have hlok := hD.2.1 _ (List.mem_of_getElem? hln)
        obtain ⟨u, hu, t, ra, rr, rvs, rfl, ht, nra, hra, srow, hrr⟩ := Paired.get2 hp3 hln
        generalize hl0 : Ls[n] = l0 at hln hlok srow hrr
        refine rd_ixL (SqL.of hv3) (atI_nat hu) ?_
        walk_at "rd"
        refine if_andH (H := H3) (fun H4 S34 => ?goB) (fun hB hc => ?goQ)
        case goQ =>
          walk_at "rd"
          refine rd_ixL (SqL.of hv3) (atI_nat hu) ?_
          walk_at "rd"
          refine ⟨(by show 1 ≤ sizeLine; decide), fun q1 hq1 => ?_⟩
          have S4 : Same H3 (upd H3 q1 (.tup [.str "pair"])) := by walk_at "sm"
          have h41 : (upd H3 q1 (.tup [.str "pair"])) q1 = some (.tup [.str "pair"]) := upd_same
          generalize upd H3 q1 (.tup [.str "pair"]) = H4 at S4 h41 ⊢
          walk_at "rd"
          refine rd_eqD (.tup (S4 _ _ hrr) (rsn_datas _ _)) (.tup h41 (.cons (.str _) .nil)) (rsn_lay hlok.ok) (by decide +kernel) (by simp only [PyData.depth, PyData.depthAll]; omega) ?_
          rw [eqv_tup]
          walk_at "rd"
          obtain ⟨row, rsn⟩ := l0
          cases rsn with
          | ofk k spot told =>
            have e0 : PyData.eqvAll (Rsn.ofk k spot told).data [.str "pair"] = false := by
              show PyData.eqvAll (.str k :: .int spot :: told.map PyData.int) [.str "pair"] = false
              rw [eqvAll_one, eqvAll_nl, Bool.and_false]
            rw [e0]
            exact iteF (hB _ S4)
          | pair =>
            rw [show PyData.eqvAll Rsn.pair.data [.str "pair"] = true from by decide +kernel]
            refine iteT ?_
            clear hB
            obtain ⟨k, x, erow, hx1, hx2⟩ := hlok.pr rfl
            have erow : row = [.lamp k, x, .dark k] := erow
            subst erow
            have srow4 : Stms H4 rvs [.lamp k, x, .dark k] := srow.mono S4.tupK
            have hra4 := S4 _ _ hra
            have hv4 := S4 _ _ hv3
            have hp4 := lns_mono hp3 S4.sameD S4.tupK
            cases srow4 with
            | @cons v0 _ _ _ s0 r1 =>
            cases r1 with
            | @cons v1 _ _ _ s1 r2 =>
            cases r2 with
            | @cons v2 _ _ _ s2 r3 =>
            cases r3
            walk_at "rd"
            refine ⟨(by show 2 ≤ sizeLine; decide), fun q2 hq2 => ?_⟩
            have hjl : 0 ≤ 1 + salt / 3 % 4 ∧ 1 + salt / 3 % 4 ≤ 100 := by omega
            have hlw := hlow _ (List.mem_of_getElem? hln)
            have hkl : (Say.lamp k).low := hlw (.lamp k) (by simp)
            have hxl : x.low := hlw x (by simp)
            generalize 1 + salt / 3 % 4 = j at *
            have S5 : Same H4 (upd H4 q2 (.tup [.str "dark", .int j])) := by walk_at "sm"
            have h52 : (upd H4 q2 (.tup [.str "dark", .int j])) q2 = some (.tup [.str "dark", .int j]) := upd_same
            generalize upd H4 q2 (.tup [.str "dark", .int j]) = H5 at S5 h52 ⊢
            have hra5 := S5 _ _ hra4
            have hv5 := S5 _ _ hv4
            walk_at "rd"
            refine rd_ixL (SqL.of hra5) (atI_zero _ _) ?_
            walk_at "rd"
            refine rd_ixL (SqL.of hra5) (atI_nat (j := 2) rfl) ?_
            walk_at "rd"
            refine ⟨(by show 3 ≤ sizeLine; decide), fun q3 hq3 => ?_⟩
            have n3 : q3 ≠ a := (ne_of_none hv5 hq3).symm
            walk_at "rd"
            refine ⟨(by show 1 ≤ sizeLine; decide), fun q4 hq4 => ?_⟩
            walk_at "rd"
            refine ⟨(by show 2 ≤ sizeLine; decide), fun q5 hq5 => ?_⟩
            have T6 : Same H5 (upd (upd (upd H5 q3 (.lst [v0, .ref q2, v2])) q4 (.tup [.str "pair"])) q5 (.tup [.ref q3, .ref q4])) := by walk_at "sm"
            have h63 : (upd (upd (upd H5 q3 (.lst [v0, .ref q2, v2])) q4 (.tup [.str "pair"])) q5 (.tup [.ref q3, .ref q4])) q3 = some (.lst [v0, .ref q2, v2]) := by walk_at "hp"
            have h64 : (upd (upd (upd H5 q3 (.lst [v0, .ref q2, v2])) q4 (.tup [.str "pair"])) q5 (.tup [.ref q3, .ref q4])) q4 = some (.tup [.str "pair"]) := by walk_at "hp"
            have h65 : (upd (upd (upd H5 q3 (.lst [v0, .ref q2, v2])) q4 (.tup [.str "pair"])) q5 (.tup [.ref q3, .ref q4])) q5 = some (.tup [.ref q3, .ref q4]) := upd_same
            generalize upd (upd (upd H5 q3 (.lst [v0, .ref q2, v2])) q4 (.tup [.str "pair"])) q5 (.tup [.ref q3, .ref q4]) = H6 at T6 h63 h64 h65 ⊢
            have S46 := S5.trans T6
            have hv6 := T6 _ _ hv5
            walk_at "rd"
            refine rd_append hv6 (smallLt (by omega)) ?_
            have hL7 : LinesD (upd H6 a (.lst (vs ++ [.ref q5]))) a (Ls ++ [⟨[.lamp k, .dark j, .dark k], .pair⟩]) :=
              LinesD.put hv6 (lns_mono hp4 S46.sameD S46.tupK) ⟨q5, q3, q4, _, rfl, h65, n3, h63, .cons (s0.mono S46.tupK) (.cons (.dark (T6 _ _ h52)) (.cons (s2.mono S46.tupK) .nil)), h64⟩
            have T7 : TupK H6 (upd H6 a (.lst (vs ++ [.ref q5]))) := TupK.lst (TupK.refl _) hv6
            have S7 : Same H (upd H6 a (.lst (vs ++ [.ref q5]))) := (S13.trans (S4.trans S46)).set ha
            have hra7 : (upd H6 a (.lst (vs ++ [.ref q5]))) ra = some (.lst [v0, v1, v2]) := keepL nra (T6 _ _ hra5)
            have T47 := S46.tupK.trans T7
            have h72 : (upd H6 a (.lst (vs ++ [.ref q5]))) q2 = some (.tup [.str "dark", .int j]) := T7 _ _ (T6 _ _ h52)
            have hv7 : (upd H6 a (.lst (vs ++ [.ref q5]))) a = some (.lst (vs ++ [.ref q5])) := upd_same
            generalize upd H6 a (.lst (vs ++ [.ref q5])) = H7 at hL7 T7 S7 hra7 T47 h72 hv7 ⊢
            obtain ⟨ws, hw7, hp7⟩ := hL7
            rw [hv7] at hw7
            cases hw7
            walk_at "rd"
            refine rd_ixL (SqL.of hra7) (atI_zero _ _) ?_
            walk_at "rd"
            refine rd_ixL (SqL.of hra7) (atI_one _ _ _) ?_
            walk_at "rd"
            refine ⟨(by show 3 ≤ sizeLine; decide), fun q6 hq6 => ?_⟩
            walk_at "rd"
            refine rd_ixL (SqL.of (keepN hq6 hra7)) (atI_nat (j := 2) rfl) ?_
            walk_at "rd"
            refine ⟨(by show 3 ≤ sizeLine; decide), fun q7 hq7 => ?_⟩
            have n7 : q7 ≠ a := (ne_of_none (keepN hq6 hv7) hq7).symm
            have hv77 : (upd (upd H7 q6 (.tup [.str "and", v1, .ref q2])) q7 (.lst [v0, .ref q6, v2])) a = some (.lst (vs ++ [.ref q5])) := keepN hq7 (keepN hq6 hv7)
            walk_at "rd"
            refine ⟨(by show 4 ≤ sizeLine; decide), fun q8 hq8 => ?_⟩
            walk_at "rd"
            refine ⟨(by show 2 ≤ sizeLine; decide), fun q9 hq9 => ?_⟩
            have hlen9 : (((vs ++ [V.ref q5]).length : Nat) : Int) - 1 = (Ls.length : Int) := by rw [List.length_append, List.length_singleton]; omega
            rw [hlen9] at hq9 ⊢
            have T9 := (((Same.new (o := .tup [.str "and", v1, .ref q2]) (Same.refl H7) hq6).new (o := .lst [v0, .ref q6, v2]) hq7).new (o := .tup [.str "and", .int 1, .int n, .int Ls.length]) hq8).new (o := .tup [.ref q7, .ref q8]) hq9
            have hv9 := T9 _ _ hv7
            walk_at "rd"
            refine rd_append hv9 (smallLt (by rw [List.length_append, List.length_singleton]; omega)) ?_
            have T49 := T47.trans T9.tupK
            refine ⟨Ls ++ [⟨[.lamp k, .dark j, .dark k], .pair⟩] ++ [⟨[.lamp k, .conj x (.dark j), .dark k], .ofk "and" 1 [(n : Int), (Ls.length : Int)]⟩], _, _, _, _, _, _, _, _, _, rfl, (S7.trans T9).set ha, LinesD.put hv9 (lns_mono hp7 T9.sameD T9.tupK) ⟨q9, q7, q8, _, rfl, upd_same, n7, by walk_at "hp", ?_, keepN hq9 upd_same⟩, hD.two hln hx1 hx2, (hlow.snoc (low3 (x := .dark j) hkl hjl)).snoc (low3 (x := .conj x (.dark j)) hkl ⟨hxl, hjl⟩)⟩
            exact .cons (s0.mono T49) (.cons (.conj (by walk_at "hp") (s1.mono T49) (.dark (T9 _ _ h72))) (.cons (s2.mono T49) .nil))
        case goB =>
          have hra4 := S34 _ _ hra
          have hv4 := S34 _ _ hv3
          have hp4 := lns_mono hp3 S34.sameD S34.tupK
          walk_at "rd"
          refine ⟨ra, rvs, l0.row, n, way, salt, rfl, hra4, srow.mono S34.tupK, hlok.ne, by have := hlok.len; omega, fun t5 ra5 rr5 vs5 l5 H5 S45 ht5 hn5 hra5 srow5 hrr5 hstep => ?_⟩
          have hv5 := S45 _ _ hv4
          walk_at "rd"
          refine rd_append hv5 (smallLt (by omega)) ?_
          exact ⟨Ls ++ [l5], _, _, _, _, _, _, _, _, _, rfl, (S13.trans (S34.trans S45)).set ha, LinesD.put hv5 (lns_mono hp4 S45.sameD S45.tupK) ⟨t5, ra5, rr5, vs5, rfl, ht5, (ne_of_none hv4 hn5).symm, hra5, srow5, hrr5⟩, hD.step (by omega) hln hstep, hlow.snoc (hstep.low (hlow _ (List.mem_of_getElem? hln)))⟩
    · rintro σ H1 ⟨Ls, o2, o3, o4, o5, o6, o7, o8, o9, o10, rfl, S1, hL, hD, hlow⟩
      rw [hnl] at hD
      walk_at "rd"
      exact q a Ls H1 S1 ha hL hD hlow
end
end My
set_option Elab.async false
set_option linter.all false
set_option maxRecDepth 100000
set_option maxHeartbeats 4000000
namespace My
open PySem L2
seal PE PT PW PA PS PSs PC PG PGs PI PO PPs PTs
local macro_rules | `(tactic| walk_at "ne") => `(tactic| first | assumption | exact Ne.symm (by assumption))
local macro_rules | `(tactic| walk_at "hp") => `(tactic| first | assumption | (with_reducible exact upd_same) | (with_reducible apply keepN; assumption; walk_at "hp") | (with_reducible apply keepL; walk_at "ne"; walk_at "hp"))
local macro_rules | `(tactic| walk_at "sm") => `(tactic| first | assumption | (with_reducible exact Same.refl _) | (with_reducible refine Same.new ?_ (by assumption); walk_at "sm") | (with_reducible refine Same.set ?_ (by assumption); walk_at "sm"))
local macro_rules | `(tactic| walk_at "tk") => `(tactic| first | assumption | (with_reducible exact TupK.refl _) | (with_reducible refine TupK.new ?_ (by assumption); walk_at "tk") | (with_reducible refine TupK.lst ?_ (by walk_at "hp"); walk_at "tk") | (with_reducible refine TupK.dK ?_ (by walk_at "hp"); walk_at "tk") | (with_reducible refine Same.tupK ?_; walk_at "sm"))
local macro_rules | `(tactic| walk_at "sl") => `(tactic| first | assumption | (with_reducible apply SqL.of; walk_at "hp") | (with_reducible apply sameSeq; assumption; walk_at "sm"))
local macro_rules | `(tactic| walk_at "st") => `(tactic| first | assumption | (with_reducible apply SqT.of; walk_at "hp"))
local macro_rules | `(tactic| walk_at "cd") => `(tactic| first | (show (0 : Int) < _; first | decide | assumption | omega) | exact ⟨by decide, by decide⟩ | exact ⟨by decide, by decide, by decide⟩ | exact Or.inl ⟨by decide, by decide⟩ | exact Or.inr ⟨by decide, by decide⟩ | exact Or.inl ⟨by omega, by omega⟩ | exact Or.inr ⟨by omega, by omega⟩ | exact ⟨by omega, by omega⟩)
local macro_rules | `(tactic| walk_at "rd1") => `(tactic| with_reducible first
  | (apply rd_var; with_unfolding_all rfl) | apply rd_op | apply rd_C | apply rd_seq | apply rd_asg | apply rd_name | apply rd_cons | apply rd_nil | apply rd_I0 | apply rd_test | apply rd_bl | apply rd_tB
  | (apply rd_ixT; (walk_at "st"); (with_unfolding_all rfl)) | apply rd_slice | apply rd_noPart | apply rd_part | apply rd_int | apply rd_CB | apply rd_if | apply rd_call | apply rd_ret | apply rd_drop | apply rd_tup | apply rd_lst | apply rd_bm | apply rd_bm0 | (apply rd_ty; (walk_at "hp"))
  | (apply rd_I; (with_unfolding_all walk_at "cd")) | (apply rd_eq; (with_unfolding_all rfl)) | (apply rd_ne; (with_unfolding_all rfl)) | apply rd_and | apply rd_or | apply rd_not | apply rd_andV | apply rd_orV | apply rd_notV | apply rd_ifE
  | (apply rd_lenL; (walk_at "sl")) | (apply rd_lenT; (walk_at "st")) | apply rd_dnew | apply rd_dput | apply rd_din | apply rd_next | apply rd_forL | apply rd_forV | apply rd_compL | apply rd_compZ | apply rd_compT | apply rd_compR | apply rd_kget | apply rd_dget | apply rd_listRev | apply rd_chain | apply rd_ints | apply rd_un | apply rd_U | apply rd_kin | apply rd_forZT | apply rd_pcons | apply rd_pnil | (apply rd_gtup; (walk_at "st"); (with_unfolding_all rfl)) | apply rd_gcons | apply rd_gnil | apply rd_forR3 | apply rd_forR2 | apply rd_forR1 | (apply rd_itL; (walk_at "sl")) | (apply rd_neN; (walk_at "sl"); (walk_at "sl")) | (apply rd_eqN; (walk_at "sl"); (walk_at "sl")))
local macro_rules | `(tactic| walk_at "rd") => `(tactic| repeat walk_at "rd1")
local macro_rules | `(tactic| walk_at "rd0") => `(tactic| try dsimp only [cxOf, Cx.nox, Cx.wish])
section
variable {P : Program} {w : World} {K : PySem.W.Frag} {mg : Str → Option Value} {base : Heap} {f : Addr} {fd : FuncData}
theorem ok_spread (D : DefIn K mg "_law_spread" s__law_spread ["_law_part", "_law_step"] f fd) (B : Blt mg) : ∀ d : Nat, Has P w K mg base "_law_spread" d ["_law_part", "_law_step"] (spSpread d)
  | 0 => by
    exact D.has ⟨fun vs H Q E ⟨_, _, _, _, _, hd, _⟩ => absurd hd (Nat.not_lt_zero _), fun _ _ _ _ _ _ _ _ _ _ _ _ _ ⟨_, _, _, _, _, hd, _⟩ => absurd hd (Nat.not_lt_zero _)⟩
  | d + 1 => by
    have h__law_spread := ok_spread D B d
    have nd := sc__law_spread.nd
    refine D.has (D.fn.ok sc__law_spread (fun vs H Q E h => ?_) (fun cdv A outer s H vs Q E hr h => ?_))
    · obtain ⟨v, k, s, rfl, _⟩ := h
      rfl
    · obtain ⟨v, k, s, rfl, st, hd, hlow, q⟩ := h
      obtain ⟨a, xs, rfl, e, hk⟩ := Stm.parts st
      refine ⟨_, (pss_cons (ps_if (pt_cmpR (op_inK K) (pe_ix (ix_tupK K) (pv 0) pe_int (fun _ _ => rfl)) (pe_lst (pa_cons pe_str (pa_cons pe_str pa_nil))) (by with_unfolding_all rfl)) (pss_one (ps_ret (pe_tup (pa_cons (pe_ix (ix_tupK K) (pv 0) pe_int (fun _ _ => rfl)) (pa_cons (pe_op op_add pe_int (pe_op op_mul (pe_op op_sub (pe_ix (ix_tupK K) (pv 0) pe_int (fun _ _ => rfl)) pe_int) (pv 1))) pa_nil))))) pss_nil)
      (pss_one (ps_ret (pe_op (op_catTK K) (pe_tup (pa_cons (pe_ix (ix_tupK K) (pv 0) pe_int (fun _ _ => rfl)) pa_nil)) (pe_callTy (call_tupK K) rfl B.tuple_ PySem.Pv.boot_tuple (pa_cons (pe_compB ["_law_one", "_law_step"] 1 [1] (pi_tupK K (pe_slice (sl_tupK K) (pv 0) (po_some pe_int) po_none)) (fun _ _ _ _ _ => (pg_name (i := 0) (show List.Nodup (["_law_one", "_law_step"] : List Str) by decide +kernel) rfl (Or.inl rfl))) (fun _ _ _ _ _ => pts_nil) (fun _ _ _ _ _ => (pe_callH (hk := Nat.le_refl _) h__law_spread hr (pa_cons (pv 0) (pa_cons (pv 1) pa_nil))))) pa_nil)))))), ?_⟩
      walk_at "rd0"
      walk_at "rd"
      refine rd_ixT (SqT.of e) (atI_zero _ _) ?_
      walk_at "rd"
      refine ⟨(by show 2 ≤ sizeLine; decide), fun p hp => ?_⟩
      walk_at "rd"
      refine rd_inS (.inl (SqL.of upd_same)) rfl rfl ?_
      walk_at "rd"
      rw [leafB]
      cases hl : Say.leaf s with
      | true =>
        refine iteT ?_
        have e2 : (upd H p (.lst [.str "lamp", .str "dark"])) a = _ := keepN hp e
        cases st with
        | @lamp _ n e' =>
          rw [e] at e'
          cases e'
          have hl1 : 0 ≤ n := hlow.1
          have hl2 : n ≤ 100 := hlow.2
          walk_at "rd"
          refine ⟨(by show 2 ≤ sizeLine; decide), fun t ht => ?_⟩
          exact q _ _ (by walk_at "sm") (.lamp upd_same)
        | @dark _ n e' =>
          rw [e] at e'
          cases e'
          have hl1 : 0 ≤ n := hlow.1
          have hl2 : n ≤ 100 := hlow.2
          walk_at "rd"
          refine ⟨(by show 2 ≤ sizeLine; decide), fun t ht => ?_⟩
          exact q _ _ (by walk_at "sm") (.dark upd_same)
        | neg e h => cases hl
        | conj e h h' => cases hl
        | disj e h h' => cases hl
        | ev e h => cases hl
        | so e h => cases hl
      | false =>
        refine iteF ?_
        have ks := hk hl
        have kl := Paired.length ks
        have kf := kids_few s
        have kn : s.kids.length ≠ 0 := by cases s <;> first | (cases hl; done) | (simp [Say.kids]; done)
        have e2 : (upd H p (.lst [.str "lamp", .str "dark"])) a = _ := keepN hp e
        have ks2 : Stms (upd H p (.lst [.str "lamp", .str "dark"])) xs s.kids := ks.mono (by walk_at "tk")
        have S2 : Same H (upd H p (.lst [.str "lamp", .str "dark"])) := by walk_at "sm"
        generalize upd H p (.lst [.str "lamp", .str "dark"]) = H2 at e2 ks2 S2 ⊢
        walk_at "rd"
        refine rd_ixT (SqT.of e2) (atI_zero _ _) ?_
        walk_at "rd"
        refine ⟨(by show 1 ≤ sizeLine; decide), fun p1 hp1 => ?_⟩
        walk_at "rd"
        have e3 : (upd H2 p1 (.tup [.str s.tag])) a = _ := keepN hp1 e2
        refine rd_slT1 (SqT.of e3) fun p2 hp2 => ?_
        walk_at "rd"
        refine comp_tup upd_same (by omega) fun D hD => ⟨fun i y H => ∃ t, s.kids[i]? = some t ∧ Stm H y (t.mp (spreadF k)), fun i y H H' ⟨t, e, z⟩ _ T => ⟨t, e, z.mono T⟩, fun i x H3 ys C hx S3 hd3 hC => ?_, fun zs H3 S3 hD3 hl3 hR3 => ?_⟩
        · obtain ⟨t, ht, sx⟩ := Paired.get1 ks2 hx
          have hm : t ∈ s.kids := List.mem_of_getElem? ht
          have hdt := kid_dep hm
          walk_at "rd"
          refine ⟨x, k, t, rfl, (sx.mono (by walk_at "tk")).mono S3.tupK, by omega, low_kid hlow hm, fun u H4 S4 su => ?_⟩
          exact hC _ _ S4 ⟨t, ht, su⟩
        · walk_at "rd"
          have hp3 : H3 p1 = some (.tup [.str s.tag]) := S3 _ _ (keepN hp2 upd_same)
          refine rd_tupL (SqL.of hD3) fun p4 hp4 => ?_
          walk_at "rd"
          refine rd_catT (SqT.of (keepN hp4 hp3)) (SqT.of upd_same) (by simp) (by simp only [List.length_cons, List.length_nil]; omega) (fun z => ?_) fun _ p5 hp5 => ?_
          · rw [z] at hl3
            simp only [List.length_nil] at hl3
            omega
          have SF : Same H2 (upd (upd H3 p4 (.tup zs)) p5 (.tup ([.str s.tag] ++ zs))) := Same.new (Same.new (Same.trans (by walk_at "sm") S3) hp4) hp5
          refine q _ _ (S2.trans SF) (Stm.of_kids (xs := zs) (by rw [mp_leaf]; exact hl) (by rw [mp_tag]; exact upd_same) ?_)
          rw [mp_kids]
          refine Paired.of_get (by rw [List.length_map]; omega) fun i y t e1 e4 => ?_
          obtain ⟨t', e5, z⟩ := hR3 i y e1
          rw [List.getElem?_map, e5] at e4
          cases e4
          exact z.mono (by walk_at "tk")
theorem ok_spread_lines (D : DefIn K mg "_law_spread_lines" s__law_spread_lines ["_law_lines", "_law_cell"] f fd) (B : Blt mg) (h__law_spread : Has P w K mg base "_law_spread" 100 ["_law_part", "_law_step"] (spSpread 100)) : Has P w K mg base "_law_spread_lines" 101 ["_law_lines", "_law_cell"] spSpreadL := by
  have nd := sc__law_spread_lines.nd
  refine D.has (D.fn.ok sc__law_spread_lines (fun vs H Q E h => ?_) (fun cdv A outer s H vs Q E hr h => ?_))
  · obtain ⟨a, c, Ls, rfl, _⟩ := h
    rfl
  · obtain ⟨a, c, Ls, rfl, ⟨lv, hl, hp0⟩, hz, hzl, hlow, q⟩ := h
    have lls := Paired.length hp0
    refine ⟨_, (pss_cons (ps_set (i := 2) nd rfl (by first | exact Or.inl rfl | exact Or.inr (Or.inl rfl) | exact Or.inr rfl) (pe_ix (ix_listK K) (pe_lst (pa_cons pe_int (pa_cons pe_int (pa_cons (pe_op op_add pe_int (pe_op op_mod (pv 1) (pe_op op_pow pe_int pe_int))) pa_nil)))) (pe_op op_mod (pe_op op_fdiv (pv 1) pe_int) pe_int) (fun _ _ => rfl)))
      (pss_cons (ps_set (i := 3) nd rfl (Or.inl rfl) (pe_lst pa_nil))
      (pss_cons (ps_for PassesOwn.never rfl (pi_listK K (pv 0)) (pg_tupK (n := 2) K rfl (pgs_cons (pg_name (i := 4) nd rfl (Or.inl rfl)) (pgs_cons (pg_name (i := 5) nd rfl (Or.inl rfl)) pgs_nil))) (pss_one (ps_expr (pe_bmK K PySem.F.plainAttrs_list PySem.F.slot_list_append PySem.F.type_list_append mt_append (pv 3) (pa_cons (pe_tup (pa_cons (pe_compB ["_law_part", "_law_step"] 1 [2] (pi_listK K (pv 4)) (fun _ _ _ _ _ => (pg_name (i := 0) (show List.Nodup (["_law_part", "_law_step"] : List Str) by decide +kernel) rfl (Or.inl rfl))) (fun _ _ _ _ _ => pts_nil) (fun _ _ _ _ _ => (pe_callH h__law_spread hr (pa_cons (pv 0) (pa_cons (pv 1) pa_nil))))) (pa_cons (pv 5) pa_nil))) pa_nil)))))
      (pss_one (ps_ret (pv 3)))))), ?_⟩
    walk_at "rd0"
    walk_at "rd"
    refine ⟨(by show 3 ≤ sizeLine; decide), fun p hp => ?_⟩
    walk_at "rd"
    obtain ⟨k, hk⟩ : ∃ k : Int, atI [V.int 1, .int 10, .int (1 + c % 10 ^ (30 : Int).toNat)] (c / 5 % 3) = some (.int k) := by
      have h0 : 0 ≤ c / 5 % 3 := Int.emod_nonneg _ (by decide)
      have h1 : c / 5 % 3 < 3 := Int.emod_lt_of_pos _ (by decide)
      have h : c / 5 % 3 = 0 ∨ c / 5 % 3 = 1 ∨ c / 5 % 3 = 2 := by omega
      rcases h with e | e | e <;> rw [e]
      · exact ⟨1, rfl⟩
      · exact ⟨10, rfl⟩
      · exact ⟨_, rfl⟩
    refine rd_ixL (SqL.of upd_same) hk ?_
    walk_at "rd"
    refine ⟨(by show 0 ≤ sizeLine; decide), fun m hm => ?_⟩
    have hm0 : H m = none := (none_upd hm).1
    have S0 : Same H (upd (upd H p (.lst [.int 1, .int 10, .int (1 + c % 10 ^ (30 : Int).toNat)])) m (.lst [])) := by walk_at "sm"
    have hm1 : (upd (upd H p (.lst [.int 1, .int 10, .int (1 + c % 10 ^ (30 : Int).toNat)])) m (.lst [])) m = some (.lst []) := upd_same
    generalize upd (upd H p (.lst [.int 1, .int 10, .int (1 + c % 10 ^ (30 : Int).toNat)])) m (.lst []) = H1 at S0 hm1 ⊢
    have hl1 := S0 _ _ hl
    walk_at "rd"
    refine for_list (K := K) (a := a) (xs := lv) (fun i σ H2 => ∃ o4 o5 : Option V, σ = [some (.ref a), some (.int c), some (.int k), some (.ref m), o4, o5] ∧ Same H H2 ∧ LinesD H2 m ((Ls.take i).map (Line.mp (spreadF k))))
      ⟨none, none, rfl, S0, ⟨[], hm1, .nil⟩⟩ (fun i σ H2 _ ⟨_, _, _, S2, _⟩ => SqL.of (S2 _ _ hl)) ?_ ?_
    · rintro i x σ H2 hi ⟨o4, o5, rfl, S2, vs, hv2, hp2⟩
      obtain ⟨l, hli, lx⟩ := Paired.get1 hp0 hi
      obtain ⟨t, ra, rr, rvs, rfl, ht, hra, srow, hrr⟩ := lx.mono S2
      obtain ⟨hrl, hrd⟩ := hzl l (List.mem_of_getElem? hli)
      have lrv := Paired.length srow
      have hil : i < lv.length := (List.getElem?_eq_some_iff.mp hi).1
      have lvs := Paired.length hp2
      rw [List.length_map, List.length_take] at lvs
      walk_at "rd"
      refine comp_list (SqL.of hra) (by omega) fun Dz hDz => ⟨fun i y H => ∃ t, l.row[i]? = some t ∧ Stm H y (t.mp (spreadF k)), fun i y H H' ⟨t, e, z⟩ _ T => ⟨t, e, z.mono T⟩, fun j x H3 ys C hx S3 hd3 hC => ?_, fun zs H3 S3 hD3 hl3 hR3 => ?_⟩
      · obtain ⟨t1, ht1, sx⟩ := Paired.get1 srow hx
        walk_at "rd"
        refine ⟨x, k, t1, rfl, sx.mono S3.tupK, hrd t1 (List.mem_of_getElem? ht1), hlow l (List.mem_of_getElem? hli) t1 (List.mem_of_getElem? ht1), fun u H4 S4 su => ?_⟩
        exact hC _ _ S4 ⟨t1, ht1, su⟩
      have hrow3 : Stms H3 zs (l.row.map (Say.mp (spreadF k))) := Paired.of_get (by rw [List.length_map]; omega) fun j y t1 e1 e2 => by
        obtain ⟨t2, e3, z⟩ := hR3 j y e1
        rw [List.getElem?_map, e3] at e2
        cases e2
        exact z
      walk_at "rd"
      refine ⟨(by show 2 ≤ sizeLine; decide), fun t2 ht2 => ?_⟩
      have S24 : Same H2 (upd H3 t2 (.tup [.ref Dz, .ref rr])) := S3.new ht2
      have S34 : Same H3 (upd H3 t2 (.tup [.ref Dz, .ref rr])) := (Same.refl _).new ht2
      have ht4 : (upd H3 t2 (.tup [.ref Dz, .ref rr])) t2 = some (.tup [.ref Dz, .ref rr]) := upd_same
      generalize upd H3 t2 (.tup [.ref Dz, .ref rr]) = H4 at S24 S34 ht4 ⊢
      walk_at "rd"
      have hv4 := S24 _ _ hv2
      refine rd_append hv4 (smallLt (by omega)) ?_
      refine ⟨_, _, rfl, (S2.trans S24).set hm0, ?_⟩
      rw [take_succ_get hli, List.map_append]
      exact LinesD.put hv4 (lns_mono hp2 S24.sameD S24.tupK) ⟨t2, Dz, rr, zs, rfl, ht4, (ne_of_none hv2 hDz).symm, S34 _ _ hD3, hrow3.mono S34.tupK, S24 _ _ hrr⟩
    · rintro σ H2 ⟨o4, o5, rfl, S2, hL2⟩
      rw [lls, List.take_length] at hL2
      walk_at "rd"
      exact q m k H2 S2 hm0 hL2
theorem ok_room_for (D : DefIn K mg "_law_room_for" s__law_room_for ["_law_script", "_law_most", "_law_bound"] f fd) (B : Blt mg) : Has P w K mg base "_law_room_for" 1 ["_law_script", "_law_most", "_law_bound"] (spRoom K) := by
  have nd := sc__law_room_for.nd
  refine D.has (D.fn.ok sc__law_room_for (fun vs H Q E h => ?_) (fun cdv A outer s H vs Q E hr h => ?_))
  · obtain ⟨a, ns, m, b, rfl, _⟩ := h
    rfl
  · obtain ⟨a, ns, m, b, rfl, hS, hl, q⟩ := h
    have hnl : (ns.map V.int).length = ns.length := List.length_map _
    refine ⟨_, (pss_cons (ps_if (pt_cmpR op_gt (pe_callB (call_lenK K) rfl B.len PySem.boot_len (pa_cons (pv 0) pa_nil)) pe_int (nomark _)) (pss_one (ps_ret (pv 2))) pss_nil)
      (pss_one (ps_ret (pv 1)))), ?_⟩
    walk_at "rd0"
    walk_at "rd"
    refine if_dec (fun h => absurd h (by omega)) (fun h => ?_)
    walk_at "rd"
    exact q
end
end My
set_option Elab.async false
set_option linter.all false
set_option maxRecDepth 100000
set_option maxHeartbeats 4000000
namespace My
open PySem L2
seal PE PT PW PA PS PSs PC PG PGs PI PO PPs PTs
local macro_rules | `(tactic| walk_at "ne") => `(tactic| first | assumption | exact Ne.symm (by assumption))
local macro_rules | `(tactic| walk_at "hp") => `(tactic| first | assumption | (with_reducible exact upd_same) | (with_reducible apply keepN; assumption; walk_at "hp") | (with_reducible apply keepL; walk_at "ne"; walk_at "hp"))
local macro_rules | `(tactic| walk_at "sm") => `(tactic| first | assumption | (with_reducible exact Same.refl _) | (with_reducible refine Same.new ?_ (by assumption); walk_at "sm") | (with_reducible refine Same.set ?_ (by assumption); walk_at "sm"))
local macro_rules | `(tactic| walk_at "tk") => `(tactic| first | assumption | (with_reducible exact TupK.refl _) | (with_reducible refine TupK.new ?_ (by assumption); walk_at "tk") | (with_reducible refine TupK.lst ?_ (by walk_at "hp"); walk_at "tk") | (with_reducible refine TupK.dK ?_ (by walk_at "hp"); walk_at "tk") | (with_reducible refine Same.tupK ?_; walk_at "sm"))
local macro_rules | `(tactic| walk_at "sl") => `(tactic| first | assumption | (with_reducible apply SqL.of; walk_at "hp") | (with_reducible apply sameSeq; assumption; walk_at "sm"))
local macro_rules | `(tactic| walk_at "st") => `(tactic| first | assumption | (with_reducible apply SqT.of; walk_at "hp"))
local macro_rules | `(tactic| walk_at "cd") => `(tactic| first | (show (0 : Int) < _; first | decide | assumption | omega) | exact ⟨by decide, by decide⟩ | exact ⟨by decide, by decide, by decide⟩ | exact Or.inl ⟨by decide, by decide⟩ | exact Or.inr ⟨by decide, by decide⟩ | exact Or.inl ⟨by omega, by omega⟩ | exact Or.inr ⟨by omega, by omega⟩ | exact ⟨by omega, by omega⟩)
local macro_rules | `(tactic| walk_at "rd1") => `(tactic| with_reducible first
  | (apply rd_var; with_unfolding_all rfl) | apply rd_op | apply rd_C | apply rd_seq | apply rd_asg | apply rd_name | apply rd_cons | apply rd_nil | apply rd_I0 | apply rd_test | apply rd_bl | apply rd_tB
  | (apply rd_ixT; (walk_at "st"); (with_unfolding_all rfl)) | apply rd_slice | apply rd_noPart | apply rd_part | apply rd_int | apply rd_CB | apply rd_if | apply rd_call | apply rd_ret | apply rd_drop | apply rd_tup | apply rd_lst | apply rd_bm | apply rd_bm0 | (apply rd_ty; (walk_at "hp"))
  | (apply rd_I; (with_unfolding_all walk_at "cd")) | (apply rd_eq; (with_unfolding_all rfl)) | (apply rd_ne; (with_unfolding_all rfl)) | apply rd_and | apply rd_or | apply rd_not | apply rd_andV | apply rd_orV | apply rd_notV | apply rd_ifE
  | (apply rd_lenL; (walk_at "sl")) | (apply rd_lenT; (walk_at "st")) | apply rd_dnew | apply rd_dput | apply rd_din | apply rd_next | apply rd_forL | apply rd_forV | apply rd_compL | apply rd_compZ | apply rd_compT | apply rd_compR | apply rd_kget | apply rd_dget | apply rd_listRev | apply rd_chain | apply rd_ints | apply rd_un | apply rd_U | apply rd_kin | apply rd_forZT | apply rd_pcons | apply rd_pnil | (apply rd_gtup; (walk_at "st"); (with_unfolding_all rfl)) | apply rd_gcons | apply rd_gnil | apply rd_forR3 | apply rd_forR2 | apply rd_forR1 | (apply rd_itL; (walk_at "sl")) | (apply rd_neN; (walk_at "sl"); (walk_at "sl")) | (apply rd_eqN; (walk_at "sl"); (walk_at "sl")))
local macro_rules | `(tactic| walk_at "rd") => `(tactic| repeat walk_at "rd1")
local macro_rules | `(tactic| walk_at "rd0") => `(tactic| try dsimp only [cxOf, Cx.nox, Cx.wish])
section
variable {P : Program} {w : World} {K : PySem.W.Frag} {mg : Str → Option Value} {base : Heap} {f : Addr} {fd : FuncData}
theorem ok_spoilt (D : DefIn K mg "_law_spoilt" s__law_spoilt ["_law_lines", "_law_way", "_law_spot", "_law_cell"] f fd) (B : Blt mg) : Has P w K mg base "_law_spoilt" 1 ["_law_lines", "_law_way", "_law_spot", "_law_cell"] spSpoilt := by
  have nd := sc__law_spoilt.nd
  refine D.has (D.fn.ok sc__law_spoilt (fun vs H Q E h => ?_) (fun cdv A outer s H vs Q E hr h => ?_))
  · obtain ⟨a, way, spot, cell, Ls, l, rfl, _⟩ := h
    rfl
  · obtain ⟨a, way, spot, cell, Ls, ⟨row, rsn⟩, rfl, ⟨lv, hl, hp⟩, hz, hsp, hne, hok, hrl, q⟩ := h
    have hne : row ≠ [] := hne
    have hrl : row.length ≤ 100 := hrl
    have hok : rsn.ok := hok
    have lls := Paired.length hp
    obtain ⟨v, hv, t, ra, rr, rvs, rfl, ht, hra, srow, hrr⟩ := Paired.get2 hp hsp
    have hra0 := hra
    have hrr0 := hrr
    have srow0 := srow
    refine ⟨_, (pss_cons (ps_set (i := 4) nd rfl (Or.inl rfl) (pe_ix (ix_tupK K) (pe_ix (ix_listK K) (pv 0) (pv 2) (fun _ _ => rfl)) pe_int (fun _ _ => rfl)))
      (pss_cons (ps_set (i := 5) nd rfl (Or.inl rfl) (pe_ix (ix_tupK K) (pe_ix (ix_listK K) (pv 0) (pv 2) (fun _ _ => rfl)) pe_int (fun _ _ => rfl)))
      (pss_cons (ps_if (pt_cmpR op_eq (pv 1) pe_int (nomark _)) (pss_one (ps_set (i := 4) nd rfl (Or.inl rfl) (pe_slice (sl_listK K) (pv 4) po_none (po_some (pe_un un_neg pe_int))))) pss_nil)
      (pss_cons (ps_if (pt_cmpR op_eq (pv 1) pe_int (nomark _)) (pss_one (ps_set (i := 4) nd rfl (Or.inl rfl) (pe_op op_cat (pe_slice (sl_listK K) (pv 4) (po_some pe_int) po_none) (pe_slice (sl_listK K) (pv 4) po_none (po_some pe_int))))) pss_nil)
      (pss_cons (ps_if (PW.pt (pw_and (pt_cmpR op_eq (pv 1) pe_int (nomark _)) (pw_and1 (pt_cmpR op_gt (pe_callB (call_lenK K) rfl B.len PySem.boot_len (pa_cons (pv 5) pa_nil)) pe_int (nomark _))))) (pss_one (ps_set (i := 5) nd rfl (Or.inl rfl) (pe_op (op_catTK K) (pe_tup (pa_cons (pe_ix (ix_tupK K) (pv 5) pe_int (fun _ _ => rfl)) (pa_cons (pe_op op_add (pe_ix (ix_tupK K) (pv 5) pe_int (fun _ _ => rfl)) pe_int) pa_nil))) (pe_slice (sl_tupK K) (pv 5) (po_some pe_int) po_none)))) pss_nil)
      (pss_cons (ps_if (PW.pt (pw_and (pt_cmpR op_eq (pv 1) pe_int (nomark _)) (pw_and1 (pt_cmpR op_gt (pe_callB (call_lenK K) rfl B.len PySem.boot_len (pa_cons (pv 5) pa_nil)) pe_int (nomark _))))) (pss_one (ps_set (i := 5) nd rfl (Or.inl rfl) (pe_op (op_catTK K) (pe_slice (sl_tupK K) (pv 5) po_none (po_some (pe_un un_neg pe_int))) (pe_tup (pa_cons (pe_op op_sub (pe_op op_mod (pv 3) (pe_op op_add (pe_callB (call_lenK K) rfl B.len PySem.boot_len (pa_cons (pv 0) pa_nil)) pe_int)) pe_int) pa_nil))))) pss_nil)
      (pss_cons (ps_if (pt_cmpR op_eq (pv 1) pe_int (nomark _)) (pss_one (ps_set (i := 4) nd rfl (Or.inl rfl) (pe_op op_cat (pv 4) (pe_lst (pa_cons (pe_tup (pa_cons pe_str (pa_cons (pe_tup (pa_cons pe_str (pa_cons pe_int pa_nil))) pa_nil))) pa_nil))))) pss_nil)
      (pss_cons (ps_if (pt_cmpR op_eq (pv 1) pe_int (nomark _)) (pss_one (ps_set (i := 5) nd rfl (Or.inl rfl) (pe_tup (pa_cons pe_str pa_nil)))) pss_nil)
      (pss_cons (ps_if (PW.pt (pw_and (pt_cmpR op_eq (pv 1) pe_int (nomark _)) (pw_and1 (pt_cmpR op_eq (pe_ix (ix_tupK K) (pe_ix (ix_listK K) (pv 4) (pe_un un_neg pe_int) (fun _ _ => rfl)) pe_int (fun _ _ => rfl)) pe_str (nomark _))))) (pss_one (ps_set (i := 4) nd rfl (Or.inl rfl) (pe_op op_cat (pe_slice (sl_listK K) (pv 4) po_none (po_some (pe_un un_neg pe_int))) (pe_lst (pa_cons (pe_tup (pa_cons pe_str (pa_cons (pe_op op_add (pe_ix (ix_tupK K) (pe_ix (ix_listK K) (pv 4) (pe_un un_neg pe_int) (fun _ _ => rfl)) pe_int (fun _ _ => rfl)) (pe_ix (ix_listK K) (pe_lst (pa_cons pe_int (pa_cons pe_int pa_nil))) (pe_op op_mod (pv 3) pe_int) (fun _ _ => rfl))) pa_nil))) pa_nil))))) pss_nil)
      (pss_cons (ps_if (PW.pt (pw_and (pt_cmpR op_eq (pv 1) pe_int (nomark _)) (pw_and1 (pt_cmpR op_gt (pe_callB (call_lenK K) rfl B.len PySem.boot_len (pa_cons (pv 5) pa_nil)) pe_int (nomark _))))) (pss_one (ps_set (i := 5) nd rfl (Or.inl rfl) (pe_op (op_catTK K) (pe_tup (pa_cons (pe_ix (ix_tupK K) (pv 5) pe_int (fun _ _ => rfl)) (pa_cons pe_int pa_nil))) (pe_slice (sl_tupK K) (pv 5) (po_some pe_int) po_none)))) pss_nil)
      (pss_cons (ps_if (PW.pt (pw_and (pt_cmpR op_eq (pv 1) pe_int (nomark _)) (pw_and1 (pt_cmpR op_gt (pe_callB (call_lenK K) rfl B.len PySem.boot_len (pa_cons (pv 5) pa_nil)) pe_int (nomark _))))) (pss_one (ps_set (i := 5) nd rfl (Or.inl rfl) (pe_op (op_catTK K) (pe_op (op_catTK K) (pe_slice (sl_tupK K) (pv 5) po_none (po_some pe_int)) (pe_tup (pa_cons (pe_op op_sub (pe_op op_mod (pv 3) (pe_op op_add (pe_callB (call_lenK K) rfl B.len PySem.boot_len (pa_cons (pv 0) pa_nil)) pe_int)) pe_int) pa_nil))) (pe_slice (sl_tupK K) (pv 5) (po_some pe_int) po_none)))) pss_nil)
      (pss_cons (ps_if (PW.pt (pw_and (pt_cmpR op_eq (pv 1) pe_int (nomark _)) (pw_and1 (pt_cmpR op_gt (pe_callB (call_lenK K) rfl B.len PySem.boot_len (pa_cons (pv 5) pa_nil)) pe_int (nomark _))))) (pss_one (ps_set (i := 5) nd rfl (Or.inl rfl) (pe_op (op_catTK K) (pe_tup (pa_cons (pe_ix (ix_tupK K) (pv 5) pe_int (fun _ _ => rfl)) (pa_cons (pe_op op_sub (pe_ix (ix_tupK K) (pv 5) pe_int (fun _ _ => rfl)) (pe_callB (call_lenK K) rfl B.len PySem.boot_len (pa_cons (pv 4) pa_nil))) pa_nil))) (pe_slice (sl_tupK K) (pv 5) (po_some pe_int) po_none)))) pss_nil)
      (pss_cons (ps_if (PW.pt (pw_and (pt_cmpR op_eq (pv 1) pe_int (nomark _)) (pw_and1 (pt_cmpR op_gt (pe_callB (call_lenK K) rfl B.len PySem.boot_len (pa_cons (pv 5) pa_nil)) pe_int (nomark _))))) (pss_one (ps_set (i := 5) nd rfl (Or.inl rfl) (pe_op (op_catTK K) (pe_slice (sl_tupK K) (pv 5) po_none (po_some (pe_un un_neg pe_int))) (pe_tup (pa_cons (pe_op op_sub (pe_ix (ix_tupK K) (pv 5) (pe_un un_neg pe_int) (fun _ _ => rfl)) (pe_callB (call_lenK K) rfl B.len PySem.boot_len (pa_cons (pv 0) pa_nil))) pa_nil))))) pss_nil)
      (pss_one (ps_ret (pe_op op_cat (pe_op op_cat (pe_slice (sl_listK K) (pv 0) po_none (po_some (pv 2))) (pe_lst (pa_cons (pe_tup (pa_cons (pv 4) (pa_cons (pv 5) pa_nil))) pa_nil))) (pe_slice (sl_listK K) (pv 0) (po_some (pe_op op_add (pv 2) pe_int)) po_none))))))))))))))))), ?_⟩
    walk_at "rd0"
    walk_at "rd"
    refine rd_ixL (SqL.of hl) (atI_nat hv) ?_
    walk_at "rd"
    refine rd_ixL (SqL.of hl) (atI_nat hv) ?_
    have S1 : Same H H := Same.refl _
    have near : Near ⟨row, rsn⟩ ⟨row, rsn⟩ := Near.refl hok
    have same : way ∉ ([] : List Int) → (⟨row, rsn⟩ : Line) = ⟨row, rsn⟩ := fun _ => rfl
    walk_at "rd"
    refine if_joinD (P := SpI H a way spot cell ⟨row, rsn⟩ [1]) (fun hw k => ?_) (fun k => k _ _ (SpI.put S1 hra srow hrr near fun z => same (not_more z))) ?_
    · cases hw
      cases same (by decide)
      have srow : Stms _ rvs row := srow
      have hl1 := S1 _ _ hl
      have lrv := Paired.length srow
      walk_at "rd"
      refine rd_slL (SqL.of hra) fun p1 hp1 => ?_
      rw [cut_init]
      exact k _ _ (SpI.put (l' := ⟨row.dropLast, rsn⟩) (S1.new hp1) upd_same (Stms.init (srow.mono (by walk_at "tk"))) (by walk_at "hp") (near_init hok) fun z => absurd (List.mem_cons_self ..) z)
    clear S1 hra srow hrr near same
    rintro σ H1 ⟨ra, rr, rvs, l0, rfl, S1, hra, srow, hrr, near, same⟩
    walk_at "rd"
    refine if_joinD (P := SpI H a way spot cell ⟨row, rsn⟩ [2, 1]) (fun hw k => ?_) (fun k => k _ _ (SpI.put S1 hra srow hrr near fun z => same (not_more z))) ?_
    · cases hw
      cases same (by decide)
      have srow : Stms _ rvs row := srow
      have hl1 := S1 _ _ hl
      have lrv := Paired.length srow
      walk_at "rd"
      refine rd_slL (SqL.of hra) fun p1 hp1 => ?_
      rw [show cutV rvs (some 1) none = rvs.drop 1 from cut_drop rvs 1]
      walk_at "rd"
      refine rd_slL (SqL.of (keepN hp1 hra)) fun p2 hp2 => ?_
      rw [show cutV rvs none (some 1) = rvs.take 1 from cut_take rvs 1]
      walk_at "rd"
      refine rd_cat (keepN hp2 upd_same) upd_same (small (by rw [List.length_drop, List.length_take]; omega)) fun p3 hp3 => ?_
      exact k _ _ (SpI.put (l' := ⟨row.drop 1 ++ row.take 1, rsn⟩) (((S1.new hp1).new hp2).new hp3) upd_same (Paired.app (Paired.drop1 1 (srow.mono (by walk_at "tk"))) (Paired.take1 1 (srow.mono (by walk_at "tk")))) (by walk_at "hp") (near_turn hok) fun z => absurd (List.mem_cons_self ..) z)
    clear S1 hra srow hrr near same
    rintro σ H1 ⟨ra, rr, rvs, l1, rfl, S1, hra, srow, hrr, near, same⟩
    walk_at "rd"
    refine if_joinA (P := SpI H a way spot cell ⟨row, rsn⟩ [3, 2, 1]) (fun hw k => ?_) (fun k => k _ _ (SpI.put S1 hra srow hrr near fun z => same (not_more z))) ?_
    · cases hw
      cases same (by decide)
      have srow : Stms _ rvs row := srow
      have hl1 := S1 _ _ hl
      have lrv := Paired.length srow
      cases rsn with
      | pair =>
        have hrr : _ = some (HO.tup [.str "pair"]) := hrr
        walk_at "rd"
        refine if_dec (fun z => absurd z (by decide)) (fun _ => ?_)
        exact k _ _ (SpI.put S1 hra srow hrr near fun z => absurd (List.mem_cons_self ..) z)
      | ofk kd sp told =>
        have hrr : _ = some (HO.tup (.str kd :: .int sp :: told.map V.int)) := hrr
        walk_at "rd"
        refine if_dec (fun _ => ?_) (fun z => absurd (by simp only [List.length_cons]; omega) z)
        obtain ⟨x0, t0, rfl⟩ := told_one hok
        walk_at "rd"
        refine rd_ixT (SqT.of hrr) (atI_zero _ _) ?_
        walk_at "rd"
        refine rd_ixT (SqT.of hrr) (atI_one _ _ _) ?_
        walk_at "rd"
        refine ⟨(by show 2 ≤ sizeLine; decide), fun p1 hp1 => ?_⟩
        walk_at "rd"
        refine rd_slTd (k := 2) (SqT.of (keepN hp1 hrr)) (by decide) (by simp) fun p2 hp2 => ?_
        walk_at "rd"
        refine rd_catT (SqT.of (keepN hp2 upd_same)) (SqT.of upd_same) (by simp) (by have := told_few hok; simp only [List.length_cons, List.length_nil, List.length_map, List.drop_succ_cons, List.drop_zero] at *; omega) (fun z => nomatch z) fun _ p3 hp3 => ?_
        exact k _ _ (SpI.put (l' := ⟨row, .ofk kd (sp + 1) (x0 :: t0)⟩) (by walk_at "sm") (by walk_at "hp") (srow.mono (by walk_at "tk")) upd_same (Near.rsn (ok_len hok rfl)) fun z => absurd (List.mem_cons_self ..) z)
    clear S1 hra srow hrr near same
    rintro σ H1 ⟨ra, rr, rvs, l2, rfl, S1, hra, srow, hrr, near, same⟩
    walk_at "rd"
    refine if_joinA (P := SpI H a way spot cell ⟨row, rsn⟩ [4, 3, 2, 1]) (fun hw k => ?_) (fun k => k _ _ (SpI.put S1 hra srow hrr near fun z => same (not_more z))) ?_
    · cases hw
      cases same (by decide)
      have srow : Stms _ rvs row := srow
      have hl1 := S1 _ _ hl
      have lrv := Paired.length srow
      cases rsn with
      | pair =>
        have hrr : _ = some (HO.tup [.str "pair"]) := hrr
        walk_at "rd"
        refine if_dec (fun z => absurd z (by decide)) (fun _ => ?_)
        exact k _ _ (SpI.put S1 hra srow hrr near fun z => absurd (List.mem_cons_self ..) z)
      | ofk kd sp told =>
        have hrr : _ = some (HO.tup (.str kd :: .int sp :: told.map V.int)) := hrr
        walk_at "rd"
        refine if_dec (fun _ => ?_) (fun z => absurd (by simp only [List.length_cons]; omega) z)
        obtain ⟨t0, x0, rfl⟩ := told_some hok
        have hrr : _ = some (HO.tup ((.str kd :: .int sp :: t0.map V.int) ++ [.int x0])) := hrr.trans (congrArg some (congrArg HO.tup (vals_last kd sp t0 x0)))
        walk_at "rd"
        refine rd_slTi (SqT.of hrr) (by simp) fun p1 hp1 => ?_
        rw [List.dropLast_concat] at *
        walk_at "rd"
        refine ⟨(by show 1 ≤ sizeLine; decide), fun p2 hp2 => ?_⟩
        walk_at "rd"
        refine rd_catT (SqT.of (keepN hp2 upd_same)) (SqT.of upd_same) (by simp) (by have := told_few hok; simp only [List.length_cons, List.length_nil, List.length_map, List.length_append] at *; omega) (fun z => nomatch z) fun _ p3 hp3 => ?_
        exact k _ _ (SpI.put (l' := ⟨row, .ofk kd sp (t0 ++ [(cell % ((lv.length : Int) + 2) - 1)])⟩) (by walk_at "sm") (by walk_at "hp") (srow.mono (by walk_at "tk")) (upd_same.trans (congrArg some (congrArg HO.tup (vals_last kd sp t0 _).symm))) (Near.rsn (ok_len hok (by simp))) fun z => absurd (List.mem_cons_self ..) z)
    clear S1 hra srow hrr near same
    rintro σ H1 ⟨ra, rr, rvs, l3, rfl, S1, hra, srow, hrr, near, same⟩
    walk_at "rd"
    refine if_joinD (P := SpI H a way spot cell ⟨row, rsn⟩ [5, 4, 3, 2, 1]) (fun hw k => ?_) (fun k => k _ _ (SpI.put S1 hra srow hrr near fun z => same (not_more z))) ?_
    · cases hw
      cases same (by decide)
      have srow : Stms _ rvs row := srow
      have hl1 := S1 _ _ hl
      have lrv := Paired.length srow
      walk_at "rd"
      refine ⟨(by show 2 ≤ sizeLine; decide), fun p1 hp1 => ?_⟩
      walk_at "rd"
      refine ⟨(by show 2 ≤ sizeLine; decide), fun p2 hp2 => ?_⟩
      walk_at "rd"
      refine ⟨(by show 1 ≤ sizeLine; decide), fun p3 hp3 => ?_⟩
      walk_at "rd"
      refine rd_cat (keepN hp3 (keepN hp2 (keepN hp1 hra))) upd_same (small (by simp only [List.length_cons, List.length_nil]; omega)) fun p4 hp4 => ?_
      exact k _ _ (SpI.put (l' := ⟨row ++ [.so (.dark 3)], rsn⟩) ((((S1.new hp1).new hp2).new hp3).new hp4) upd_same (Paired.app (srow.mono (by walk_at "tk")) (.cons (.so (by walk_at "hp") (.dark (by walk_at "hp"))) .nil)) (by walk_at "hp") (near_more hok (by decide) (by decide)) fun z => absurd (List.mem_cons_self ..) z)
    clear S1 hra srow hrr near same
    rintro σ H1 ⟨ra, rr, rvs, l4, rfl, S1, hra, srow, hrr, near, same⟩
    walk_at "rd"
    refine if_joinD (P := SpI H a way spot cell ⟨row, rsn⟩ [6, 5, 4, 3, 2, 1]) (fun hw k => ?_) (fun k => k _ _ (SpI.put S1 hra srow hrr near fun z => same (not_more z))) ?_
    · cases hw
      cases same (by decide)
      have srow : Stms _ rvs row := srow
      have hl1 := S1 _ _ hl
      have lrv := Paired.length srow
      walk_at "rd"
      refine ⟨(by show 1 ≤ sizeLine; decide), fun p1 hp1 => ?_⟩
      exact k _ _ (SpI.put (l' := ⟨row, .pair⟩) (S1.new hp1) (keepN hp1 hra) (srow.mono (by walk_at "tk")) upd_same (Near.rsn trivial) fun z => absurd (List.mem_cons_self ..) z)
    clear S1 hra srow hrr near same
    rintro σ H1 ⟨ra, rr, rvs, l5, rfl, S1, hra, srow, hrr, near, same⟩
    walk_at "rd"
    refine if_joinA (P := SpI H a way spot cell ⟨row, rsn⟩ [12, 6, 5, 4, 3, 2, 1]) (fun hw k => ?_) (fun k => k _ _ (SpI.put S1 hra srow hrr near fun z => same (not_more z))) ?_
    · cases hw
      cases same (by decide)
      have srow : Stms _ rvs row := srow
      have hl1 := S1 _ _ hl
      have lrv := Paired.length srow
      rcases snoc_cases row with rfl | ⟨r0, sl, rfl⟩
      · exact absurd rfl hne
      obtain ⟨v0, vl, rfl, sv0, svl⟩ := snoc_inv2 srow
      obtain ⟨al, xl, rfl, el, _⟩ := Stm.parts svl
      walk_at "rd"
      refine rd_ixL (SqL.of hra) (atI_last _ _) ?_
      walk_at "rd"
      refine rd_ixT (SqT.of el) (atI_zero _ _) ?_
      walk_at "rd"
      refine if_dec (fun hd => ?_) (fun _ => k _ _ (SpI.put S1 hra srow hrr near fun z => absurd (List.mem_cons_self ..) z))
      obtain ⟨n, rfl⟩ : ∃ n, sl = .dark n := by
        have hd' : sl.tag = "dark" := V.str.inj hd
        cases sl <;> first | exact ⟨_, rfl⟩ | exact absurd hd' (by dsimp only [Say.tag]; decide +kernel)
      cases svl with
      | dark el' =>
        rw [el] at el'
        cases el'
        walk_at "rd"
        refine rd_slL (SqL.of hra) fun p1 hp1 => ?_
        rw [cut_init, List.dropLast_concat]
        walk_at "rd"
        have el1 := keepN (o := .lst v0) hp1 el
        refine rd_ixL (SqL.of (keepN hp1 hra)) (atI_last _ _) ?_
        walk_at "rd"
        refine ⟨(by show 2 ≤ sizeLine; decide), fun p2 hp2 => ?_⟩
        walk_at "rd"
        obtain ⟨c, -, hc⟩ := get_range (xs := [1, 10]) (i := cell) (n := 2) rfl (by decide)
        refine rd_ixL (SqL.of upd_same) hc ?_
        walk_at "rd"
        refine ⟨(by show 2 ≤ sizeLine; decide), fun p3 hp3 => ?_⟩
        walk_at "rd"
        refine ⟨(by show 1 ≤ sizeLine; decide), fun p4 hp4 => ?_⟩
        walk_at "rd"
        refine rd_cat (keepN hp4 (keepN hp3 (keepN hp2 upd_same))) upd_same (small (by simp only [List.length_cons, List.length_nil, List.length_append] at *; omega)) fun p5 hp5 => ?_
        exact k _ _ (SpI.put (l' := ⟨r0 ++ [.dark (n + c)], rsn⟩) (((((S1.new hp1).new hp2).new hp3).new hp4).new hp5) upd_same (Paired.app (Stms.mono sv0 (by walk_at "tk")) (.cons (.dark (by walk_at "hp")) .nil)) (by walk_at "hp") (near_last hok) fun z => absurd (List.mem_cons_self ..) z)
    clear S1 hra srow hrr near same
    rintro σ H1 ⟨ra, rr, rvs, l6, rfl, S1, hra, srow, hrr, near, same⟩
    walk_at "rd"
    refine if_joinA (P := SpI H a way spot cell ⟨row, rsn⟩ [10, 12, 6, 5, 4, 3, 2, 1]) (fun hw k => ?_) (fun k => k _ _ (SpI.put S1 hra srow hrr near fun z => same (not_more z))) ?_
    · cases hw
      cases same (by decide)
      have srow : Stms _ rvs row := srow
      have hl1 := S1 _ _ hl
      have lrv := Paired.length srow
      cases rsn with
      | pair =>
        have hrr : _ = some (HO.tup [.str "pair"]) := hrr
        walk_at "rd"
        refine if_dec (fun z => absurd z (by decide)) (fun _ => ?_)
        exact k _ _ (SpI.put S1 hra srow hrr near fun z => absurd (List.mem_cons_self ..) z)
      | ofk kd sp told =>
        have hrr : _ = some (HO.tup (.str kd :: .int sp :: told.map V.int)) := hrr
        walk_at "rd"
        refine if_dec (fun _ => ?_) (fun z => absurd (by simp only [List.length_cons]; omega) z)
        obtain ⟨x0, t0, rfl⟩ := told_one hok
        walk_at "rd"
        refine rd_ixT (SqT.of hrr) (atI_zero _ _) ?_
        walk_at "rd"
        refine ⟨(by show 2 ≤ sizeLine; decide), fun p1 hp1 => ?_⟩
        walk_at "rd"
        refine rd_slTd (k := 2) (SqT.of (keepN hp1 hrr)) (by decide) (by simp) fun p2 hp2 => ?_
        walk_at "rd"
        refine rd_catT (SqT.of (keepN hp2 upd_same)) (SqT.of upd_same) (by simp) (by have := told_few hok; simp only [List.length_cons, List.length_nil, List.length_map, List.drop_succ_cons, List.drop_zero] at *; omega) (fun z => nomatch z) fun _ p3 hp3 => ?_
        exact k _ _ (SpI.put (l' := ⟨row, .ofk kd 1000000000000 (x0 :: t0)⟩) (by walk_at "sm") (by walk_at "hp") (srow.mono (by walk_at "tk")) upd_same (Near.rsn (ok_len hok rfl)) fun z => absurd (List.mem_cons_self ..) z)
    clear S1 hra srow hrr near same
    rintro σ H1 ⟨ra, rr, rvs, l7, rfl, S1, hra, srow, hrr, near, same⟩
    walk_at "rd"
    refine if_joinA (P := SpI H a way spot cell ⟨row, rsn⟩ [11, 10, 12, 6, 5, 4, 3, 2, 1]) (fun hw k => ?_) (fun k => k _ _ (SpI.put S1 hra srow hrr near fun z => same (not_more z))) ?_
    · cases hw
      cases same (by decide)
      have srow : Stms _ rvs row := srow
      have hl1 := S1 _ _ hl
      have lrv := Paired.length srow
      cases rsn with
      | pair =>
        have hrr : _ = some (HO.tup [.str "pair"]) := hrr
        walk_at "rd"
        refine if_dec (fun z => absurd z (by decide)) (fun _ => ?_)
        exact k _ _ (SpI.put S1 hra srow hrr near fun z => absurd (List.mem_cons_self ..) z)
      | ofk kd sp told =>
        have hrr : _ = some (HO.tup (.str kd :: .int sp :: told.map V.int)) := hrr
        walk_at "rd"
        refine if_dec (fun _ => ?_) (fun z => absurd (by simp only [List.length_cons]; omega) z)
        obtain ⟨x0, t0, rfl⟩ := told_one hok
        walk_at "rd"
        refine rd_slTt (k := 2) (SqT.of hrr) (by simp) fun p1 hp1 => ?_
        walk_at "rd"
        refine ⟨(by show 1 ≤ sizeLine; decide), fun p2 hp2 => ?_⟩
        walk_at "rd"
        refine rd_catT (SqT.of (keepN hp2 upd_same)) (SqT.of upd_same) (by simp) (by simp) (fun z => nomatch z) fun _ p3 hp3 => ?_
        walk_at "rd"
        refine rd_slTd (k := 3) (SqT.of (keepN hp3 (keepN hp2 (keepN hp1 hrr)))) (by decide) (by simp) fun p4 hp4 => ?_
        walk_at "rd"
        refine rd_catT (SqT.of (keepN hp4 upd_same)) (SqT.of upd_same) (by simp) (by have := told_few hok; simp only [List.length_cons, List.length_nil, List.length_map, List.length_append, List.take_succ_cons, List.take_zero, List.drop_succ_cons, List.drop_zero, List.map_cons] at *; omega) (fun z => ?_) fun _ p5 hp5 => ?_
        · have z : t0.map V.int = [] := z
          have z : t0 = [] := List.map_eq_nil_iff.mp z
          subst z
          exact k _ _ (SpI.put (l' := ⟨row, .ofk kd sp [cell % ((lv.length : Int) + 2) - 1]⟩) (by walk_at "sm") (by walk_at "hp") (srow.mono (by walk_at "tk")) (keepN hp4 upd_same) (Near.rsn (ok_len hok rfl)) fun z => absurd (List.mem_cons_self ..) z)
        · exact k _ _ (SpI.put (l' := ⟨row, .ofk kd sp ((cell % ((lv.length : Int) + 2) - 1) :: t0)⟩) (by walk_at "sm") (by walk_at "hp") (srow.mono (by walk_at "tk")) upd_same (Near.rsn (ok_len hok rfl)) fun z => absurd (List.mem_cons_self ..) z)
    clear S1 hra srow hrr near same
    rintro σ H1 ⟨ra, rr, rvs, l8, rfl, S1, hra, srow, hrr, near, same⟩
    walk_at "rd"
    refine if_joinA (P := SpI H a way spot cell ⟨row, rsn⟩ [7, 11, 10, 12, 6, 5, 4, 3, 2, 1]) (fun hw k => ?_) (fun k => k _ _ (SpI.put S1 hra srow hrr near fun z => same (not_more z))) ?_
    · cases hw
      cases same (by decide)
      have srow : Stms _ rvs row := srow
      have hl1 := S1 _ _ hl
      have lrv := Paired.length srow
      cases rsn with
      | pair =>
        have hrr : _ = some (HO.tup [.str "pair"]) := hrr
        walk_at "rd"
        refine if_dec (fun z => absurd z (by decide)) (fun _ => ?_)
        exact k _ _ (SpI.put S1 hra srow hrr near fun z => absurd (List.mem_cons_self ..) z)
      | ofk kd sp told =>
        have hrr : _ = some (HO.tup (.str kd :: .int sp :: told.map V.int)) := hrr
        walk_at "rd"
        refine if_dec (fun _ => ?_) (fun z => absurd (by simp only [List.length_cons]; omega) z)
        obtain ⟨x0, t0, rfl⟩ := told_one hok
        walk_at "rd"
        refine rd_ixT (SqT.of hrr) (atI_zero _ _) ?_
        walk_at "rd"
        refine rd_ixT (SqT.of hrr) (atI_one _ _ _) ?_
        walk_at "rd"
        refine ⟨(by show 2 ≤ sizeLine; decide), fun p1 hp1 => ?_⟩
        walk_at "rd"
        refine rd_slTd (k := 2) (SqT.of (keepN hp1 hrr)) (by decide) (by simp) fun p2 hp2 => ?_
        walk_at "rd"
        refine rd_catT (SqT.of (keepN hp2 upd_same)) (SqT.of upd_same) (by simp) (by have := told_few hok; simp only [List.length_cons, List.length_nil, List.length_map, List.drop_succ_cons, List.drop_zero] at *; omega) (fun z => nomatch z) fun _ p3 hp3 => ?_
        exact k _ _ (SpI.put (l' := ⟨row, .ofk kd (sp - (rvs.length : Int)) (x0 :: t0)⟩) (by walk_at "sm") (by walk_at "hp") (srow.mono (by walk_at "tk")) upd_same (Near.rsn (ok_len hok rfl)) fun z => absurd (List.mem_cons_self ..) z)
    clear S1 hra srow hrr near same
    rintro σ H1 ⟨ra, rr, rvs, l9, rfl, S1, hra, srow, hrr, near, same⟩
    walk_at "rd"
    refine if_joinA (P := SpI H a way spot cell ⟨row, rsn⟩ [8, 7, 11, 10, 12, 6, 5, 4, 3, 2, 1]) (fun hw k => ?_) (fun k => k _ _ (SpI.put S1 hra srow hrr near fun z => same (not_more z))) ?_
    · cases hw
      cases same (by decide)
      have srow : Stms _ rvs row := srow
      have hl1 := S1 _ _ hl
      have lrv := Paired.length srow
      cases rsn with
      | pair =>
        have hrr : _ = some (HO.tup [.str "pair"]) := hrr
        walk_at "rd"
        refine if_dec (fun z => absurd z (by decide)) (fun _ => ?_)
        exact k _ _ (SpI.put S1 hra srow hrr near fun z => absurd (List.mem_cons_self ..) z)
      | ofk kd sp told =>
        have hrr : _ = some (HO.tup (.str kd :: .int sp :: told.map V.int)) := hrr
        walk_at "rd"
        refine if_dec (fun _ => ?_) (fun z => absurd (by simp only [List.length_cons]; omega) z)
        obtain ⟨t0, x0, rfl⟩ := told_some hok
        have hrr : _ = some (HO.tup ((.str kd :: .int sp :: t0.map V.int) ++ [.int x0])) := hrr.trans (congrArg some (congrArg HO.tup (vals_last kd sp t0 x0)))
        walk_at "rd"
        refine rd_slTi (SqT.of hrr) (by simp) fun p1 hp1 => ?_
        rw [List.dropLast_concat] at *
        walk_at "rd"
        refine rd_ixT (SqT.of (keepN hp1 hrr)) (atI_last _ _) ?_
        walk_at "rd"
        refine ⟨(by show 1 ≤ sizeLine; decide), fun p2 hp2 => ?_⟩
        walk_at "rd"
        refine rd_catT (SqT.of (keepN hp2 upd_same)) (SqT.of upd_same) (by simp) (by have := told_few hok; simp only [List.length_cons, List.length_nil, List.length_map, List.length_append] at *; omega) (fun z => nomatch z) fun _ p3 hp3 => ?_
        exact k _ _ (SpI.put (l' := ⟨row, .ofk kd sp (t0 ++ [(x0 - (lv.length : Int))])⟩) (by walk_at "sm") (by walk_at "hp") (srow.mono (by walk_at "tk")) (upd_same.trans (congrArg some (congrArg HO.tup (vals_last kd sp t0 _).symm))) (Near.rsn (ok_len hok (by simp))) fun z => absurd (List.mem_cons_self ..) z)
    clear S1 hra srow hrr near same
    rintro σ H1 ⟨ra, rr, rvs, l10, rfl, S1, hra, srow, hrr, near, same⟩
    have lrv := Paired.length srow
    have hl1 := S1 _ _ hl
    have hspl : spot < Ls.length := (List.getElem?_eq_some_iff.mp hsp).1
    have hkk : ((spot : Nat) : Int) + 1 = ((spot + 1 : Nat) : Int) := rfl
    walk_at "rd"
    refine rd_slL (SqL.of hl1) fun p1 hp1 => ?_
    rw [cut_take]
    walk_at "rd"
    refine ⟨(by show 2 ≤ sizeLine; decide), fun p2 hp2 => ?_⟩
    walk_at "rd"
    refine ⟨(by show 1 ≤ sizeLine; decide), fun p3 hp3 => ?_⟩
    walk_at "rd"
    refine rd_cat (keepN hp3 (keepN hp2 upd_same)) upd_same (small (by rw [List.length_take]; simp only [List.length_cons, List.length_nil]; omega)) fun p4 hp4 => ?_
    walk_at "rd"
    rw [hkk]
    refine rd_slL (SqL.of (keepN hp4 (keepN hp3 (keepN hp2 (keepN hp1 hl1))))) fun p5 hp5 => ?_
    rw [cut_drop]
    walk_at "rd"
    refine rd_cat (keepN hp5 upd_same) upd_same (small (by rw [List.length_append, List.length_take, List.length_drop]; simp only [List.length_cons, List.length_nil]; omega)) fun p6 hp6 => ?_
    have fin : ∀ HF : Hp, Same H1 HF → HF p6 = some (.lst (lv.take spot ++ [.ref p2] ++ lv.drop (spot + 1))) → HF p2 = some (.tup [.ref ra, .ref rr]) → Q (.ref p6) HF := fun HF TF h6 h2 => by
      have SF := S1.trans TF
      have hpF : Paired (LineAt HF) lv Ls := Paired.mapP hp fun _ _ z => z.mono SF
      exact q p6 _ HF SF ⟨_, h6, Paired.app (Paired.app (Paired.take1 spot hpF) (.cons ⟨p2, ra, rr, rvs, rfl, h2, TF _ _ hra, srow.mono TF.tupK, TF _ _ hrr⟩ .nil)) (Paired.drop1 (spot + 1) hpF)⟩ near fun z => same (by subst z; decide)
    exact fin _ (by walk_at "sm") upd_same (by walk_at "hp")
end
end My
set_option Elab.async false
set_option linter.all false
set_option maxRecDepth 100000
set_option maxHeartbeats 4000000
namespace My
open PySem L2
seal PE PT PW PA PS PSs PC PG PGs PI PO PPs PTs
local macro_rules | `(tactic| walk_at "ne") => `(tactic| first | assumption | exact Ne.symm (by assumption))
local macro_rules | `(tactic| walk_at "hp") => `(tactic| first | assumption | (with_reducible exact upd_same) | (with_reducible apply keepN; assumption; walk_at "hp") | (with_reducible apply keepL; walk_at "ne"; walk_at "hp"))
local macro_rules | `(tactic| walk_at "sm") => `(tactic| first | assumption | (with_reducible exact Same.refl _) | (with_reducible refine Same.new ?_ (by assumption); walk_at "sm") | (with_reducible refine Same.set ?_ (by assumption); walk_at "sm"))
local macro_rules | `(tactic| walk_at "tk") => `(tactic| first | assumption | (with_reducible exact TupK.refl _) | (with_reducible refine TupK.new ?_ (by assumption); walk_at "tk") | (with_reducible refine TupK.lst ?_ (by walk_at "hp"); walk_at "tk") | (with_reducible refine TupK.dK ?_ (by walk_at "hp"); walk_at "tk") | (with_reducible refine Same.tupK ?_; walk_at "sm"))
local macro_rules | `(tactic| walk_at "sl") => `(tactic| first | assumption | (with_reducible apply SqL.of; walk_at "hp") | (with_reducible apply sameSeq; assumption; walk_at "sm"))
local macro_rules | `(tactic| walk_at "st") => `(tactic| first | assumption | (with_reducible apply SqT.of; walk_at "hp"))
local macro_rules | `(tactic| walk_at "cd") => `(tactic| first | (show (0 : Int) < _; first | decide | assumption | omega) | exact ⟨by decide, by decide⟩ | exact ⟨by decide, by decide, by decide⟩ | exact Or.inl ⟨by decide, by decide⟩ | exact Or.inr ⟨by decide, by decide⟩ | exact Or.inl ⟨by omega, by omega⟩ | exact Or.inr ⟨by omega, by omega⟩ | exact ⟨by omega, by omega⟩)
local macro_rules | `(tactic| walk_at "rd1") => `(tactic| with_reducible first
  | (apply rd_var; with_unfolding_all rfl) | apply rd_op | apply rd_C | apply rd_seq | apply rd_asg | apply rd_name | apply rd_cons | apply rd_nil | apply rd_I0 | apply rd_test | apply rd_bl | apply rd_tB
  | (apply rd_ixT; (walk_at "st"); (with_unfolding_all rfl)) | apply rd_slice | apply rd_noPart | apply rd_part | apply rd_int | apply rd_CB | apply rd_if | apply rd_call | apply rd_ret | apply rd_drop | apply rd_tup | apply rd_lst | apply rd_bm | apply rd_bm0 | (apply rd_ty; (walk_at "hp"))
  | (apply rd_I; (with_unfolding_all walk_at "cd")) | (apply rd_eq; (with_unfolding_all rfl)) | (apply rd_ne; (with_unfolding_all rfl)) | apply rd_and | apply rd_or | apply rd_not | apply rd_andV | apply rd_orV | apply rd_notV | apply rd_ifE
  | (apply rd_lenL; (walk_at "sl")) | (apply rd_lenT; (walk_at "st")) | apply rd_dnew | apply rd_dput | apply rd_din | apply rd_next | apply rd_forL | apply rd_forV | apply rd_compL | apply rd_compZ | apply rd_compT | apply rd_compR | apply rd_kget | apply rd_dget | apply rd_listRev | apply rd_chain | apply rd_ints | apply rd_un | apply rd_U | apply rd_kin | apply rd_forZT | apply rd_pcons | apply rd_pnil | (apply rd_gtup; (walk_at "st"); (with_unfolding_all rfl)) | apply rd_gcons | apply rd_gnil | apply rd_forR3 | apply rd_forR2 | apply rd_forR1 | (apply rd_itL; (walk_at "sl")) | (apply rd_neN; (walk_at "sl"); (walk_at "sl")) | (apply rd_eqN; (walk_at "sl"); (walk_at "sl")))
local macro_rules | `(tactic| walk_at "rd") => `(tactic| repeat walk_at "rd1")
local macro_rules | `(tactic| walk_at "rd0") => `(tactic| try dsimp only [cxOf, Cx.nox, Cx.wish])
section
variable {P : Program} {w : World} {K : PySem.W.Frag} {mg : Str → Option Value} {base : Heap} {f : Addr} {fd : FuncData}
theorem ok_law05 (D : DefIn K mg "law" s_law ["_law_script"] f fd) (B : Blt mg) (h__law_at : Has P w K mg base "_law_at" 1 ["_law_script", "_law_k"] (spAt K)) (h__law_the_same : Has P w K mg base "_law_the_same" 2 ["_law_found", "_law_due"] spSame)
    (h__law_lines_of : Has P w K mg base "_law_lines_of" 2 ["_law_cells"] spLinesOf) (h__law_room_for : Has P w K mg base "_law_room_for" 1 ["_law_script", "_law_most", "_law_bound"] (spRoom K)) (h__law_spread_lines : Has P w K mg base "_law_spread_lines" 101 ["_law_lines", "_law_cell"] spSpreadL)
    (h__law_spoilt : Has P w K mg base "_law_spoilt" 1 ["_law_lines", "_law_way", "_law_spot", "_law_cell"] spSpoilt) (h_shows : Has P w K mg base "shows" 21 ["lines", "row"] spShows) (h__law_shown : Has P w K mg base "_law_shown" 21 ["_law_lines", "_law_row"] spShows) : FnOk P w K mg base CX0 231 f fd ["_law_script"] (spLaw K) := by
  have nd := sc_law.nd
  refine D.fn.ok sc_law (fun vs H Q E h => ?_) (fun cdv A outer s H vs Q E hr h => ?_)
  · obtain ⟨a, ns, rfl, _⟩ := h
    rfl
  · obtain ⟨a, ns, rfl, hS, hl, q⟩ := h
    have hu0 := hu0_of hr
    refine ⟨_, (pss_cons (ps_set (i := 1) nd rfl (Or.inl rfl) (pe_callH h__law_lines_of hr (pa_cons (pe_slice (sl_listK K) (pv 0) (po_some pe_int) (po_some (pe_op op_add pe_int (pe_callH h__law_room_for hr (pa_cons (pv 0) (pa_cons pe_int (pa_cons pe_int pa_nil))))))) pa_nil)))
      (pss_cons (ps_set (i := 1) nd rfl (Or.inl rfl) (pe_callH h__law_spread_lines hr (pa_cons (pv 1) (pa_cons (pe_callH h__law_at hr (pa_cons (pv 0) (pa_cons pe_int pa_nil))) pa_nil))))
      (pss_cons (ps_set (i := 2) nd rfl (Or.inl rfl) (pe_ix (ix_listK K) (pe_lst (pa_ints (ns := [0, 0, 0, 1, 2, 3, 4, 5, 6, 7, 8, 10, 11, 12]) (by kernel_rfl))) (pe_op op_mod (pe_callH h__law_at hr (pa_cons (pv 0) (pa_cons pe_int pa_nil))) pe_int) (fun _ _ => rfl)) (hs := by kernel_rfl))
      (pss_cons (ps_if (pt_cmpR op_eq (pe_op op_mod (pe_callH h__law_at hr (pa_cons (pv 0) (pa_cons pe_int pa_nil))) pe_int) pe_int (nomark _)) (pss_cons (ps_set (i := 3) nd rfl (Or.inl rfl) (pe_op op_rep (pe_lst (pa_cons (pe_tup (pa_cons pe_str (pa_cons (pe_tup (pa_cons pe_str (pa_cons pe_int pa_nil))) pa_nil))) pa_nil)) pe_int))
        (pss_one (ps_expr (pe_bmK K PySem.F.plainAttrs_list PySem.F.slot_list_append PySem.F.type_list_append mt_append (pv 1) (pa_cons (pe_tup (pa_cons (pe_op op_cat (pe_op op_cat (pe_lst (pa_cons (pe_tup (pa_cons pe_str (pa_cons pe_int pa_nil))) pa_nil)) (pv 3)) (pe_lst (pa_cons (pe_tup (pa_cons pe_str (pa_cons pe_int pa_nil))) pa_nil))) (pa_cons (pe_tup (pa_cons pe_str pa_nil)) pa_nil))) pa_nil))))) pss_nil)
      (pss_cons (ps_set (i := 4) nd rfl (Or.inl rfl) (pe_lst (pa_cons (pe_tup (pa_cons pe_str (pa_cons pe_int pa_nil))) pa_nil)))
      (pss_cons (ps_if (pt_cmpR (op_neNK K hu0) (pv 1) (pe_lst pa_nil) (nomark _)) (pss_cons (ps_set (i := 4) nd rfl (Or.inl rfl) (pe_callTy (call_listK K) rfl B.list_ PySem.Pv.boot_list (pa_cons (pe_ix (ix_tupK K) (pe_ix (ix_listK K) (pv 1) (pe_un un_neg pe_int) (fun _ _ => rfl)) pe_int (fun _ _ => rfl)) pa_nil)))
        (pss_cons (ps_set (i := 5) nd rfl (Or.inl rfl) (pe_op op_sub (pe_op op_sub (pe_callB (call_lenK K) rfl B.len PySem.boot_len (pa_cons (pv 1) pa_nil)) pe_int) (pe_op op_mod (pe_callH h__law_at hr (pa_cons (pv 0) (pa_cons pe_int pa_nil))) (pe_callB (call_lenK K) rfl B.len PySem.boot_len (pa_cons (pv 1) pa_nil)))))
        (pss_one (ps_set (i := 1) nd rfl (Or.inl rfl) (pe_callH h__law_spoilt hr (pa_cons (pv 1) (pa_cons (pv 2) (pa_cons (pv 5) (pa_cons (pe_callH h__law_at hr (pa_cons (pv 0) (pa_cons pe_int pa_nil))) pa_nil))))))))) pss_nil)
      (pss_cons (ps_if (pt_cmpR op_eq (pe_op op_mod (pe_callH h__law_at hr (pa_cons (pv 0) (pa_cons pe_int pa_nil))) pe_int) pe_int (nomark _)) (pss_one (ps_set (i := 4) nd rfl (Or.inl rfl) (pe_op op_cat (pv 4) (pe_lst (pa_cons (pe_tup (pa_cons pe_str (pa_cons pe_int pa_nil))) pa_nil))))) pss_nil)
      (pss_cons (ps_compB ["_law_one", "_law_reason"] 2 [] (pi_listK K (pv 1)) (fun _ _ _ _ _ => (pg_tupK (n := 2) K rfl (pgs_cons (pg_name (i := 0) (show List.Nodup (["_law_one", "_law_reason"] : List Str) by decide +kernel) rfl (Or.inl rfl)) (pgs_cons (pg_name (i := 1) (show List.Nodup (["_law_one", "_law_reason"] : List Str) by decide +kernel) rfl (Or.inl rfl)) pgs_nil)))) (fun _ _ _ _ _ => pts_nil) (fun _ _ _ _ _ => (pe_tup (pa_cons (pe_callTy (call_listK K) rfl B.list_ PySem.Pv.boot_list (pa_cons (pv 0) pa_nil)) (pa_cons (pv 1) pa_nil)))) (pg_name (i := 6) nd rfl (Or.inl rfl)))
      (pss_cons (ps_set (i := 7) nd rfl (Or.inl rfl) (pe_callTy (call_listK K) rfl B.list_ PySem.Pv.boot_list (pa_cons (pv 4) pa_nil)))
      (pss_cons (ps_set (i := 8) nd rfl (Or.inl rfl) (pe_callH h_shows hr (pa_cons (pv 6) (pa_cons (pv 7) pa_nil))))
      (pss_cons (ps_if (PW.pt (pw_or (pt_not (pt_val (pe_callH h__law_the_same hr (pa_cons (pv 6) (pa_cons (pv 1) pa_nil))))) (pw_or1 (pt_not (pt_val (pe_callH h__law_the_same hr (pa_cons (pv 7) (pa_cons (pv 4) pa_nil)))))))) (pss_one (ps_ret pe_bl)) pss_nil)
      (pss_one (ps_ret (pe_and (pe_callB (call_instK K) rfl B.isinstance PyProof.Rows.boot_isinstance (pa_cons (pv 8) (pa_cons (pe_bltn (v := .ty "bool") rfl B.bool_ PySem.Pv.boot_bool rfl) pa_nil))) (pe_one (pe_cmpR op_eq (pv 8) (pe_callH h__law_shown hr (pa_cons (pv 1) (pa_cons (pv 4) pa_nil))) (nomark _))))))))))))))))), ?_⟩
    walk_at "rd0"
    walk_at "rd"
    refine ⟨a, ns, 25, 90, rfl, hS, hl, ?_⟩
    walk_at "rd"
    refine rd_slL hS fun cl hcl => ?_
    obtain ⟨ms, ems, hml⟩ := cut_some ns 3 25
    rw [show cutV (ns.map V.int) (some 3) (some (3 + 25)) = ms.map V.int from ems]
    walk_at "rd"
    refine ⟨cl, ms, rfl, upd_same, by omega, fun la Ls H1 S1' hla hL hDr hlow => ?_⟩
    have S1 : Same H H1 := fun b o e => S1' b o (keepN hcl e)
    have hF := hDr.fine (by omega)
    clear S1' hcl ems
    walk_at "rd"
    refine ⟨a, ns, 1, rfl, sameSeq hS S1, ?_⟩
    walk_at "rd"
    refine ⟨la, _, Ls, rfl, hL.at, by have := hF.1; omega, fun l hm => ?_, hlow, fun lb k H2 S2' hlb hL2 => ?_⟩
    · obtain ⟨_, _, c, d, _⟩ := hF.2 l hm
      exact ⟨by omega, fun s hs => by have := d s hs; omega⟩
    have hlb0 : H lb = none := S1.none hlb
    have S2 : Same H H2 := S1.trans S2'
    have hD2 := hDr.mp (spreadF k)
    have hF2 := hD2.fine (by omega)
    generalize Ls.map (Line.mp (spreadF k)) = Ls2 at hL2 hF2 hD2
    clear hL hF hDr hlow hlb S1 S2'
    walk_at "rd"
    refine ⟨(by show 14 ≤ sizeLine; decide), fun p hp => ?_⟩
    walk_at "rd"
    refine ⟨a, ns, 0, rfl, sameSeq hS (S2.new hp), ?_⟩
    walk_at "rd"
    obtain ⟨way, -, hway⟩ := get_range (xs := [0, 0, 0, 1, 2, 3, 4, 5, 6, 7, 8, 10, 11, 12]) (i := cell ns 0) (n := 14) rfl (by decide)
    refine rd_ixL (SqL.of upd_same) hway ?_
    have S23 : Same H2 (upd H2 p (.lst (List.map V.int [0, 0, 0, 1, 2, 3, 4, 5, 6, 7, 8, 10, 11, 12]))) := by walk_at "sm"
    generalize upd H2 p (.lst (List.map V.int [0, 0, 0, 1, 2, 3, 4, 5, 6, 7, 8, 10, 11, 12])) = H3 at S23 ⊢
    have S3 := S2.trans S23
    have hL3 := hL2.mono S23
    clear hL2 S2 S23 hp hway
    walk_at "rd"
    refine ⟨a, ns, 1, rfl, sameSeq hS S3, ?_⟩
    walk_at "rd"
    refine if_joinD (P := fun σ H4 => ∃ (Ls4 : List Line) (o3 : Option V), σ = [some (.ref a), some (.ref lb), some (.int way), o3, none, none, none, none, none] ∧ Same H H4 ∧ LinesD H4 lb Ls4 ∧ Fine 0 Ls4) (fun _ kk => ?_) (fun kk => kk _ _ ⟨Ls2, none, rfl, S3, hL3, hF2⟩) ?_
    · obtain ⟨vs, hv, hp⟩ := hL3
      have lvs := Paired.length hp
      have hl2 := hF2.1
      walk_at "rd"
      refine ⟨(by show 2 ≤ sizeLine; decide), fun q1 hq1 => ?_⟩
      walk_at "rd"
      refine ⟨(by show 2 ≤ sizeLine; decide), fun q2 hq2 => ?_⟩
      walk_at "rd"
      refine ⟨(by show 1 ≤ sizeLine; decide), fun q3 hq3 => ?_⟩
      walk_at "rd"
      refine rd_rep upd_same (by decide) (by decide) (by simp) fun q4 hq4 => ?_
      rw [show ((10 : Int)).toNat = 10 from rfl, List.flatten_replicate_singleton]
      have T4 := ((((Same.refl H3).new (o := .tup [.str "lamp", .int 1]) hq1).new (o := .tup [.str "some", .ref q1]) hq2).new (o := .lst [.ref q2]) hq3).new (o := .lst (List.replicate 10 (.ref q2))) hq4
      have e1 : (upd (upd (upd (upd H3 q1 (.tup [.str "lamp", .int 1])) q2 (.tup [.str "some", .ref q1])) q3 (.lst [.ref q2])) q4 (.lst (List.replicate 10 (.ref q2)))) q1 = some (.tup [.str "lamp", .int 1]) := by walk_at "hp"
      have e2 : (upd (upd (upd (upd H3 q1 (.tup [.str "lamp", .int 1])) q2 (.tup [.str "some", .ref q1])) q3 (.lst [.ref q2])) q4 (.lst (List.replicate 10 (.ref q2)))) q2 = some (.tup [.str "some", .ref q1]) := by walk_at "hp"
      have e4 : (upd (upd (upd (upd H3 q1 (.tup [.str "lamp", .int 1])) q2 (.tup [.str "some", .ref q1])) q3 (.lst [.ref q2])) q4 (.lst (List.replicate 10 (.ref q2)))) q4 = some (.lst (List.replicate 10 (.ref q2))) := upd_same
      generalize upd (upd (upd (upd H3 q1 (.tup [.str "lamp", .int 1])) q2 (.tup [.str "some", .ref q1])) q3 (.lst [.ref q2])) q4 (.lst (List.replicate 10 (.ref q2))) = H4 at T4 e1 e2 e4 ⊢
      have hv4 := T4 _ _ hv
      walk_at "rd"
      refine ⟨(by show 2 ≤ sizeLine; decide), fun q5 hq5 => ?_⟩
      walk_at "rd"
      refine ⟨(by show 1 ≤ sizeLine; decide), fun q6 hq6 => ?_⟩
      walk_at "rd"
      refine rd_cat upd_same (keepN hq6 (keepN hq5 e4)) (small (by simp)) fun q7 hq7 => ?_
      walk_at "rd"
      refine ⟨(by show 2 ≤ sizeLine; decide), fun q8 hq8 => ?_⟩
      walk_at "rd"
      refine ⟨(by show 1 ≤ sizeLine; decide), fun q9 hq9 => ?_⟩
      walk_at "rd"
      refine rd_cat (keepN hq9 (keepN hq8 upd_same)) upd_same (small (by simp)) fun q10 hq10 => ?_
      have n10 : q10 ≠ lb := (ne_of_none (keepN hq9 (keepN hq8 (keepN hq7 (keepN hq6 (keepN hq5 hv4))))) hq10).symm
      have T5 := ((((((Same.refl H4).new (o := .tup [.str "lamp", .int 7]) hq5).new (o := .lst [.ref q5]) hq6).new (o := .lst ([.ref q5] ++ List.replicate 10 (.ref q2))) hq7).new (o := .tup [.str "dark", .int 7]) hq8).new (o := .lst [.ref q8]) hq9).new (o := .lst ([.ref q5] ++ List.replicate 10 (.ref q2) ++ [.ref q8])) hq10
      have e5 := keepN (o := .lst ([.ref q5] ++ List.replicate 10 (.ref q2) ++ [.ref q8])) hq10 (keepN (o := .lst [.ref q8]) hq9 (keepN (o := .tup [.str "dark", .int 7]) hq8 (keepN (o := .lst ([.ref q5] ++ List.replicate 10 (.ref q2))) hq7 (keepN (o := .lst [.ref q5]) hq6 (upd_same (H := H4) (a := q5) (o := .tup [.str "lamp", .int 7]))))))
      have e8 := keepN (o := .lst ([.ref q5] ++ List.replicate 10 (.ref q2) ++ [.ref q8])) hq10 (keepN (o := .lst [.ref q8]) hq9 (upd_same (H := upd (upd (upd H4 q5 (.tup [.str "lamp", .int 7])) q6 (.lst [.ref q5])) q7 (.lst ([.ref q5] ++ List.replicate 10 (.ref q2)))) (a := q8) (o := .tup [.str "dark", .int 7])))
      have e10 : (upd (upd (upd (upd (upd (upd H4 q5 (.tup [.str "lamp", .int 7])) q6 (.lst [.ref q5])) q7 (.lst ([.ref q5] ++ List.replicate 10 (.ref q2)))) q8 (.tup [.str "dark", .int 7])) q9 (.lst [.ref q8])) q10 (.lst ([.ref q5] ++ List.replicate 10 (.ref q2) ++ [.ref q8]))) q10 = some (.lst ([.ref q5] ++ List.replicate 10 (.ref q2) ++ [.ref q8])) := upd_same
      generalize upd (upd (upd (upd (upd (upd H4 q5 (.tup [.str "lamp", .int 7])) q6 (.lst [.ref q5])) q7 (.lst ([.ref q5] ++ List.replicate 10 (.ref q2)))) q8 (.tup [.str "dark", .int 7])) q9 (.lst [.ref q8])) q10 (.lst ([.ref q5] ++ List.replicate 10 (.ref q2) ++ [.ref q8])) = H5 at T5 e5 e8 e10 ⊢
      walk_at "rd"
      refine ⟨(by show 1 ≤ sizeLine; decide), fun q11 hq11 => ?_⟩
      walk_at "rd"
      refine ⟨(by show 2 ≤ sizeLine; decide), fun q12 hq12 => ?_⟩
      have T6 := ((Same.refl H5).new (o := .tup [.str "pair"]) hq11).new (o := .tup [.ref q10, .ref q11]) hq12
      have T36 := T4.trans (T5.trans T6)
      have hv6 := T36 _ _ hv
      walk_at "rd"
      refine rd_append hv6 (smallLt (by omega)) ?_
      refine kk _ _ ⟨Ls2 ++ [⟨[.lamp 7] ++ List.replicate 10 (.so (.lamp 1)) ++ [.dark 7], .pair⟩], _, rfl, (S3.trans T36).set hlb0, LinesD.put hv6 (lns_mono hp T36.sameD T36.tupK) ⟨q12, q10, q11, _, rfl, upd_same, n10, T6 _ _ e10, ?_, keepN hq12 upd_same⟩, ?_⟩
      · refine Paired.app (Paired.app (.cons (.lamp (T6 _ _ e5)) .nil) ?_) (.cons (.dark (T6 _ _ e8)) .nil)
        refine Paired.of_get (by simp) fun j y t1 x1 x2 => ?_
        rw [List.eq_of_mem_replicate (List.mem_of_getElem? x1), List.eq_of_mem_replicate (List.mem_of_getElem? x2)]
        exact .so ((T5.trans T6) _ _ e2) (.lamp ((T5.trans T6) _ _ e1))
      · exact Fine.ten hD2 hml
    clear hL3 hF2 S3 hD2
    rintro σ H4 ⟨Ls4, o3, rfl, S4, ⟨vs, hv, hpL⟩, hF4⟩
    have lvs := Paired.length hpL
    walk_at "rd"
    refine ⟨(by show 2 ≤ sizeLine; decide), fun r1 hr1 => ?_⟩
    walk_at "rd"
    refine ⟨(by show 1 ≤ sizeLine; decide), fun r2 hr2 => ?_⟩
    walk_at "rd"
    refine ⟨(by show 0 ≤ sizeLine; decide), fun r3 hr3 => ?_⟩
    have T5 := (((Same.refl H4).new (o := .tup [.str "lamp", .int 1]) hr1).new (o := .lst [.ref r1]) hr2).new (o := .lst []) hr3
    have e1 : (upd (upd (upd H4 r1 (.tup [.str "lamp", .int 1])) r2 (.lst [.ref r1])) r3 (.lst [])) r1 = some (.tup [.str "lamp", .int 1]) := by walk_at "hp"
    have e2 : (upd (upd (upd H4 r1 (.tup [.str "lamp", .int 1])) r2 (.lst [.ref r1])) r3 (.lst [])) r2 = some (.lst [.ref r1]) := by walk_at "hp"
    have e3 : (upd (upd (upd H4 r1 (.tup [.str "lamp", .int 1])) r2 (.lst [.ref r1])) r3 (.lst [])) r3 = some (.lst []) := upd_same
    generalize upd (upd (upd H4 r1 (.tup [.str "lamp", .int 1])) r2 (.lst [.ref r1])) r3 (.lst []) = H5 at T5 e1 e2 e3 ⊢
    have S5 := S4.trans T5
    have hv5 := T5 _ _ hv
    have hp5 : Paired (LineAt H5) vs Ls4 := Paired.mapP hpL fun _ _ z => z.at.mono T5
    clear T5 S4 hv hpL hr1 hr2 hr3
    walk_at "rd"
    refine if_joinC (P := fun σ H6 => ∃ (lc rl : Addr) (Lc : List Line) (rs : List V) (row : List Say) (o5 : Option V), σ = [some (.ref a), some (.ref lc), some (.int way), o3, some (.ref rl), o5, none, none, none] ∧ Same H H6 ∧ LinesAt H6 lc Lc ∧ Fine 1 Lc ∧ H6 rl = some (.lst rs) ∧ Stms H6 rs row ∧ row.length ≤ 41 ∧ (∀ s ∈ row, s.dep ≤ 40) ∧ szs row ≤ 2208) (fun hne kk => ?_) (fun kk => kk _ _ ⟨lb, r2, Ls4, [.ref r1], [.lamp 1], none, rfl, S5, ⟨vs, hv5, hp5⟩, hF4.up, e2, .cons (.lamp e1) .nil, by decide, fun s hs => by rw [List.mem_singleton.mp hs]; decide, by decide⟩) ?_
    · rcases snoc_cases Ls4 with rfl | ⟨L0, l, rfl⟩
      · cases hp5
        cases hne
      obtain ⟨v0, v, rfl, hp0, t, ra, rr, rvs, rfl, ht, hra, srow, hrr⟩ := snoc_inv2 hp5
      have hfl := hF4.2 l (by simp)
      have hvp : (0 : Int) < (((v0 ++ [V.ref t]).length : Nat) : Int) := by rw [List.length_append, List.length_singleton]; omega
      walk_at "rd"
      refine rd_ixL (SqL.of hv5) (atI_last _ _) ?_
      walk_at "rd"
      refine rd_listL (SqL.of hra) fun rl hrl => ?_
      have T6 : Same H5 (upd H5 rl (.lst rvs)) := by walk_at "sm"
      have h6 : (upd H5 rl (.lst rvs)) rl = some (.lst rvs) := upd_same
      generalize upd H5 rl (.lst rvs) = H6 at T6 h6 ⊢
      have S6 := S5.trans T6
      have hv6 := T6 _ _ hv5
      walk_at "rd"
      refine ⟨a, ns, 1, rfl, sameSeq hS S6, ?_⟩
      walk_at "rd"
      obtain ⟨sp, hsp, hspl⟩ : ∃ sp : Nat, (((v0 ++ [V.ref t]).length : Nat) : Int) - 1 - cell ns 1 % (((v0 ++ [V.ref t]).length : Nat) : Int) = (sp : Int) ∧ sp < (L0 ++ [l]).length := by
        have h0 := Int.emod_nonneg (cell ns 1) (Int.ne_of_gt hvp)
        have h1 := Int.emod_lt_of_pos (cell ns 1) hvp
        generalize cell ns 1 % (((v0 ++ [V.ref t]).length : Nat) : Int) = z at h0 h1
        exact ⟨((((v0 ++ [V.ref t]).length : Nat) : Int) - 1 - z).toNat, by omega, by omega⟩
      rw [hsp]
      refine ⟨a, ns, 2, rfl, sameSeq hS S6, ?_⟩
      walk_at "rd"
      have hlsp : (L0 ++ [l])[sp]? = some (L0 ++ [l])[sp] := List.getElem?_eq_getElem hspl
      have hfs := hF4.2 _ (List.mem_of_getElem? hlsp)
      have hl61 := hF4.1
      refine ⟨lb, way, sp, _, L0 ++ [l], (L0 ++ [l])[sp], rfl, ⟨_, hv6, Paired.mapP hp5 fun _ _ z => z.mono T6⟩, by omega, hlsp, hfs.1 rfl, hfs.2.1, by have := hfs.2.2.1; omega, fun lc l' H7 T7 hL7 near _ => ?_⟩
      exact kk _ _ ⟨lc, rl, _, rvs, l.row, _, rfl, S6.trans T7, hL7, hF4.near hlsp near, T7 _ _ h6, srow.mono (T6.trans T7).tupK, by have := hfl.2.2.1; omega, hfl.2.2.2.1, by have := hfl.2.2.2.2; omega⟩
    clear hv5 hp5 hF4 S5 e1 e2 e3 lvs
    rintro σ H6 ⟨lc, rl, Lc, rs, row, o5, rfl, S6, hL6, hF6, hrl6, srow6, hrl, hrd, hrz⟩
    walk_at "rd"
    refine ⟨a, ns, 2, rfl, sameSeq hS S6, ?_⟩
    walk_at "rd"
    have lrs := Paired.length srow6
    refine if_joinD (P := fun σ H7 => ∃ (rl : Addr) (rs : List V) (row : List Say), σ = [some (.ref a), some (.ref lc), some (.int way), o3, some (.ref rl), o5, none, none, none] ∧ Same H6 H7 ∧ H7 rl = some (.lst rs) ∧ Stms H7 rs row ∧ row.length ≤ 42 ∧ (∀ s ∈ row, s.dep ≤ 40) ∧ szs row ≤ 2211) (fun _ kk => ?_) (fun kk => kk _ _ ⟨rl, rs, row, rfl, Same.refl _, hrl6, srow6, by omega, hrd, by omega⟩) ?_
    · walk_at "rd"
      refine ⟨(by show 2 ≤ sizeLine; decide), fun q1 hq1 => ?_⟩
      walk_at "rd"
      refine ⟨(by show 1 ≤ sizeLine; decide), fun q2 hq2 => ?_⟩
      walk_at "rd"
      refine rd_cat (keepN hq2 (keepN hq1 hrl6)) upd_same (small (by simp only [List.length_cons, List.length_nil]; omega)) fun q3 hq3 => ?_
      have T7 := (((Same.refl H6).new (o := .tup [.str "lamp", .int 2]) hq1).new (o := .lst [.ref q1]) hq2).new (o := .lst (rs ++ [.ref q1])) hq3
      refine kk _ _ ⟨q3, rs ++ [.ref q1], row ++ [.lamp 2], rfl, T7, upd_same, Paired.app (srow6.mono T7.tupK) (.cons (.lamp (by walk_at "hp")) .nil), by rw [List.length_append, List.length_singleton]; omega, fun s hs => ?_, by rw [szs_app, szs1]; simp only [Say.sz]; omega⟩
      rcases List.mem_append.mp hs with hs | hs
      · exact hrd s hs
      · rw [List.mem_singleton.mp hs]; decide
    clear hrl6 srow6 hrl hrd hrz lrs
    rintro σ H7 ⟨rl, rs, row, rfl, T7, hrl7, srow7, hrl, hrd, hrz⟩
    have lrs := Paired.length srow7
    obtain ⟨lv, hlv, hpl⟩ := hL6.mono T7
    have llv := Paired.length hpl
    have hl61 := hF6.1
    walk_at "rd"
    refine comp_list (SqL.of hlv) (by omega) fun Dh hDh => ⟨fun i y H => ∃ l, Lc[i]? = some l ∧ LineD Dh H y l, fun i y H H' ⟨l, e, z⟩ S T => ⟨l, e, z.mono S T⟩, fun i x H8 ys C hx S8 hd8 hC => ?_, fun ys H8 S8 hD8 hl8 hR8 => ?_⟩
    · obtain ⟨l, hli, lx⟩ := Paired.get1 hpl hx
      obtain ⟨t, ra, rr, rvs, rfl, ht, hra, srow, hrr⟩ := lx.mono S8
      walk_at "rd"
      refine rd_listL (SqL.of hra) fun q1 hq1 => ?_
      walk_at "rd"
      refine ⟨(by show 2 ≤ sizeLine; decide), fun q2 hq2 => ?_⟩
      exact hC _ _ (by walk_at "sm") ⟨l, hli, q2, q1, rr, rvs, rfl, upd_same, (ne_of_none hd8 hq1).symm, by walk_at "hp", srow.mono (by walk_at "tk"), by walk_at "hp"⟩
    have hLh8 : LinesAt H8 Dh Lc := ⟨ys, hD8, Paired.of_get (by omega) fun i v l e1 e2 => by
      obtain ⟨l', e3, z⟩ := hR8 i v e1
      rw [e2] at e3
      cases e3
      exact z.at⟩
    have hLc8 : LinesAt H8 lc Lc := LinesAt.mono ⟨lv, hlv, hpl⟩ S8
    clear hR8 hD8 hl8
    have hrl8 := S8 _ _ hrl7
    have srow8 := srow7.mono S8.tupK
    walk_at "rd"
    refine rd_listL (SqL.of hrl8) fun ak hak => ?_
    have S9 : Same H8 (upd H8 ak (.lst rs)) := by walk_at "sm"
    have hak9 : (upd H8 ak (.lst rs)) ak = some (.lst rs) := upd_same
    generalize upd H8 ak (.lst rs) = H9 at S9 hak9 ⊢
    have srow9 := srow8.mono S9.tupK
    walk_at "rd"
    refine ⟨Dh, ak, Lc, rs, row, rfl, hLh8.mono S9, hF6.sized, hak9, srow9, by omega, fun s hs => by have := hrd s hs; omega, fun H10 S10 => ?_⟩
    walk_at "rd"
    have S810 := S9.trans S10
    obtain ⟨xs1, x1, x2⟩ := hLh8.mono S810
    obtain ⟨ys1, y1, y2⟩ := hLc8.mono S810
    obtain ⟨m1, hm1, al1⟩ := lines_als (b := 2208) x2 y2 fun l hl => by obtain ⟨_, b, _, _, e⟩ := hF6.2 l hl; exact ⟨b, by omega⟩
    have hm2 : Lc.length * (2208 + 7) ≤ 61 * (2208 + 7) := Nat.mul_le_mul_right _ hl61
    refine ⟨.ref Dh, .ref lc, _, rfl, .lst x1 y1 al1 .nil, by omega, fun H11 S11 => ?_⟩
    walk_at "rd"
    refine iteF ?_
    walk_at "rd"
    have S811 := S810.trans S11
    have srow11 := srow8.mono S811.tupK
    refine ⟨.ref ak, .ref rl, _, rfl, .lst (S11 _ _ (S10 _ _ hak9)) (S811 _ _ hrl8) (stms_als2 srow11 srow11) .nil, by omega, fun H12 S12 => ?_⟩
    walk_at "rd"
    refine iteF ?_
    walk_at "rd"
    refine rd_inst (.bl _) kit_bb ?_
    walk_at "rd"
    refine iteT ?_
    walk_at "rd"
    have S812 := S811.trans S12
    refine ⟨lc, rl, Lc, rs, row, rfl, hLc8.mono S812, hF6.sized, S812 _ _ hrl8, srow8.mono S812.tupK, by omega, fun s hs => by have := hrd s hs; omega, fun H13 S13 => ?_⟩
    walk_at "rd"
    rw [decide_eq_true rfl]
    exact q _
end
end My
set_option Elab.async false
set_option linter.all false
set_option maxRecDepth 100000
set_option maxHeartbeats 4000000
namespace My
open PySem L2
local macro_rules | `(tactic| walk_at "ne") => `(tactic| first | assumption | exact Ne.symm (by assumption))
local macro_rules | `(tactic| walk_at "hp") => `(tactic| first | assumption | (with_reducible exact upd_same) | (with_reducible apply keepN; assumption; walk_at "hp") | (with_reducible apply keepL; walk_at "ne"; walk_at "hp"))
local macro_rules | `(tactic| walk_at "sm") => `(tactic| first | assumption | (with_reducible exact Same.refl _) | (with_reducible refine Same.new ?_ (by assumption); walk_at "sm") | (with_reducible refine Same.set ?_ (by assumption); walk_at "sm"))
local macro_rules | `(tactic| walk_at "tk") => `(tactic| first | assumption | (with_reducible exact TupK.refl _) | (with_reducible refine TupK.new ?_ (by assumption); walk_at "tk") | (with_reducible refine TupK.lst ?_ (by walk_at "hp"); walk_at "tk") | (with_reducible refine TupK.dK ?_ (by walk_at "hp"); walk_at "tk") | (with_reducible refine Same.tupK ?_; walk_at "sm"))
local macro_rules | `(tactic| walk_at "sl") => `(tactic| first | assumption | (with_reducible apply SqL.of; walk_at "hp") | (with_reducible apply sameSeq; assumption; walk_at "sm"))
local macro_rules | `(tactic| walk_at "st") => `(tactic| first | assumption | (with_reducible apply SqT.of; walk_at "hp"))
local macro_rules | `(tactic| walk_at "cd") => `(tactic| first | (show (0 : Int) < _; first | decide | assumption | omega) | exact ⟨by decide, by decide⟩ | exact ⟨by decide, by decide, by decide⟩ | exact Or.inl ⟨by decide, by decide⟩ | exact Or.inr ⟨by decide, by decide⟩ | exact Or.inl ⟨by omega, by omega⟩ | exact Or.inr ⟨by omega, by omega⟩ | exact ⟨by omega, by omega⟩)
local macro_rules | `(tactic| walk_at "rd1") => `(tactic| with_reducible first
  | (apply rd_var; with_unfolding_all rfl) | apply rd_op | apply rd_C | apply rd_seq | apply rd_asg | apply rd_name | apply rd_cons | apply rd_nil | apply rd_I0 | apply rd_test | apply rd_bl | apply rd_tB
  | (apply rd_ixT; (walk_at "st"); (with_unfolding_all rfl)) | apply rd_slice | apply rd_noPart | apply rd_part | apply rd_int | apply rd_CB | apply rd_if | apply rd_call | apply rd_ret | apply rd_drop | apply rd_tup | apply rd_lst | apply rd_bm | apply rd_bm0 | (apply rd_ty; (walk_at "hp"))
  | (apply rd_I; (with_unfolding_all walk_at "cd")) | (apply rd_eq; (with_unfolding_all rfl)) | (apply rd_ne; (with_unfolding_all rfl)) | apply rd_and | apply rd_or | apply rd_not | apply rd_andV | apply rd_orV | apply rd_notV | apply rd_ifE
  | (apply rd_lenL; (walk_at "sl")) | (apply rd_lenT; (walk_at "st")) | apply rd_dnew | apply rd_dput | apply rd_din | apply rd_next | apply rd_forL | apply rd_forV | apply rd_compL | apply rd_compZ | apply rd_compT | apply rd_compR | apply rd_kget | apply rd_dget | apply rd_listRev | apply rd_chain | apply rd_ints | apply rd_un | apply rd_U | apply rd_kin | apply rd_forZT | apply rd_pcons | apply rd_pnil | (apply rd_gtup; (walk_at "st"); (with_unfolding_all rfl)) | apply rd_gcons | apply rd_gnil | apply rd_forR3 | apply rd_forR2 | apply rd_forR1 | (apply rd_itL; (walk_at "sl")) | (apply rd_neN; (walk_at "sl"); (walk_at "sl")) | (apply rd_eqN; (walk_at "sl"); (walk_at "sl")))
local macro_rules | `(tactic| walk_at "rd") => `(tactic| repeat walk_at "rd1")
local macro_rules | `(tactic| walk_at "rd0") => `(tactic| try dsimp only [cxOf, Cx.nox, Cx.wish])
theorem all_mk {l : PySem.W.OpenLaw} {w : World} {K : PySem.W.Frag} {h : Heap} {mg : Str → Option Value} {fa : Addr} (X : K.In h) (G : h.Ns mainGlobals mg) (hfa : mg "law" = some (.ref fa))
    {f1 f2 f3 f4 f5 f6 f7 f8 f9 f10 f11 f12 f13 f14 f15 f16 f17 f18 f19 f20 : Addr} {od1 an1 od2 an2 od3 an3 od4 an4 od5 an5 od6 an6 od7 an7 od8 an8 od9 an9 od10 an10 od11 an11 od12 an12 od13 an13 od14 an14 od15 an15 od16 an16 od17 an17 od18 an18 od19 an19 od20 an20 : Option Addr} {sl1 sl2 sl3 sl4 sl5 sl6 sl7 sl8 sl9 sl10 sl11 sl12 sl13 sl14 sl15 sl16 sl17 sl18 sl19 sl20 : Array (Option Value)} {oc1 kV1 dc1 pm1 cd1 ct1 oc2 kV2 dc2 pm2 cd2 ct2 oc3 kV3 dc3 pm3 cd3 ct3 oc4 kV4 dc4 pm4 cd4 ct4 oc5 kV5 dc5 pm5 cd5 ct5 oc6 kV6 dc6 pm6 cd6 ct6 oc7 kV7 dc7 pm7 cd7 ct7 oc8 kV8 dc8 pm8 cd8 ct8 oc9 kV9 dc9 pm9 cd9 ct9 oc10 kV10 dc10 pm10 cd10 ct10 oc11 kV11 dc11 pm11 cd11 ct11 oc12 kV12 dc12 pm12 cd12 ct12 oc13 kV13 dc13 pm13 cd13 ct13 oc14 kV14 dc14 pm14 cd14 ct14 oc15 kV15 dc15 pm15 cd15 ct15 oc16 kV16 dc16 pm16 cd16 ct16 oc17 kV17 dc17 pm17 cd17 ct17 oc18 kV18 dc18 pm18 cd18 ct18 oc19 kV19 dc19 pm19 cd19 ct19 oc20 kV20 dc20 pm20 cd20 ct20 : Value}
    (a1 : PySem.W.nsIn K mainGlobals "has_pair" = some (some (.ref f1))) (l1 : K.lookup f1 = some ⟨oc1, od1, .func (PySem.W.fnOf "has_pair" "has_pair" (defArgs s_has_pair) (defBody s_has_pair) (defScope s_has_pair) .none kV1 dc1 pm1 an1 cd1 ct1), sl1⟩) (c1 : PySem.W.codeIn K cd1 "has_pair" = true) (k1 : PySem.W.keepIn K (.ref f1) = true)
    (a2 : PySem.W.nsIn K mainGlobals "rows_above_by_parts" = some (some (.ref f2))) (l2 : K.lookup f2 = some ⟨oc2, od2, .func (PySem.W.fnOf "rows_above_by_parts" "rows_above_by_parts" (defArgs s_rows_above_by_parts) (defBody s_rows_above_by_parts) (defScope s_rows_above_by_parts) .none kV2 dc2 pm2 an2 cd2 ct2), sl2⟩) (c2 : PySem.W.codeIn K cd2 "rows_above_by_parts" = true) (k2 : PySem.W.keepIn K (.ref f2) = true)
    (a3 : PySem.W.nsIn K mainGlobals "rows_above" = some (some (.ref f3))) (l3 : K.lookup f3 = some ⟨oc3, od3, .func (PySem.W.fnOf "rows_above" "rows_above" (defArgs s_rows_above) (defBody s_rows_above) (defScope s_rows_above) .none kV3 dc3 pm3 an3 cd3 ct3), sl3⟩) (c3 : PySem.W.codeIn K cd3 "rows_above" = true) (k3 : PySem.W.keepIn K (.ref f3) = true)
    (a4 : PySem.W.nsIn K mainGlobals "reason_fits" = some (some (.ref f4))) (l4 : K.lookup f4 = some ⟨oc4, od4, .func (PySem.W.fnOf "reason_fits" "reason_fits" (defArgs s_reason_fits) (defBody s_reason_fits) (defScope s_reason_fits) .none kV4 dc4 pm4 an4 cd4 ct4), sl4⟩) (c4 : PySem.W.codeIn K cd4 "reason_fits" = true) (k4 : PySem.W.keepIn K (.ref f4) = true)
    (a5 : PySem.W.nsIn K mainGlobals "is_right" = some (some (.ref f5))) (l5 : K.lookup f5 = some ⟨oc5, od5, .func (PySem.W.fnOf "is_right" "is_right" (defArgs s_is_right) (defBody s_is_right) (defScope s_is_right) .none kV5 dc5 pm5 an5 cd5 ct5), sl5⟩) (c5 : PySem.W.codeIn K cd5 "is_right" = true) (k5 : PySem.W.keepIn K (.ref f5) = true)
    (a6 : PySem.W.nsIn K mainGlobals "shows" = some (some (.ref f6))) (l6 : K.lookup f6 = some ⟨oc6, od6, .func (PySem.W.fnOf "shows" "shows" (defArgs s_shows) (defBody s_shows) (defScope s_shows) .none kV6 dc6 pm6 an6 cd6 ct6), sl6⟩) (c6 : PySem.W.codeIn K cd6 "shows" = true) (k6 : PySem.W.keepIn K (.ref f6) = true)
    (a7 : PySem.W.nsIn K mainGlobals "_law_whole" = some (some (.ref f7))) (l7 : K.lookup f7 = some ⟨oc7, od7, .func (PySem.W.fnOf "_law_whole" "_law_whole" (defArgs s__law_whole) (defBody s__law_whole) (defScope s__law_whole) .none kV7 dc7 pm7 an7 cd7 ct7), sl7⟩) (c7 : PySem.W.codeIn K cd7 "_law_whole" = true) (k7 : PySem.W.keepIn K (.ref f7) = true)
    (a8 : PySem.W.nsIn K mainGlobals "_law_at" = some (some (.ref f8))) (l8 : K.lookup f8 = some ⟨oc8, od8, .func (PySem.W.fnOf "_law_at" "_law_at" (defArgs s__law_at) (defBody s__law_at) (defScope s__law_at) .none kV8 dc8 pm8 an8 cd8 ct8), sl8⟩) (c8 : PySem.W.codeIn K cd8 "_law_at" = true) (k8 : PySem.W.keepIn K (.ref f8) = true)
    (a9 : PySem.W.nsIn K mainGlobals "_law_the_same" = some (some (.ref f9))) (l9 : K.lookup f9 = some ⟨oc9, od9, .func (PySem.W.fnOf "_law_the_same" "_law_the_same" (defArgs s__law_the_same) (defBody s__law_the_same) (defScope s__law_the_same) .none kV9 dc9 pm9 an9 cd9 ct9), sl9⟩) (c9 : PySem.W.codeIn K cd9 "_law_the_same" = true) (k9 : PySem.W.keepIn K (.ref f9) = true)
    (a10 : PySem.W.nsIn K mainGlobals "_law_pair" = some (some (.ref f10))) (l10 : K.lookup f10 = some ⟨oc10, od10, .func (PySem.W.fnOf "_law_pair" "_law_pair" (defArgs s__law_pair) (defBody s__law_pair) (defScope s__law_pair) .none kV10 dc10 pm10 an10 cd10 ct10), sl10⟩) (c10 : PySem.W.codeIn K cd10 "_law_pair" = true) (k10 : PySem.W.keepIn K (.ref f10) = true)
    (a11 : PySem.W.nsIn K mainGlobals "_law_above_by" = some (some (.ref f11))) (l11 : K.lookup f11 = some ⟨oc11, od11, .func (PySem.W.fnOf "_law_above_by" "_law_above_by" (defArgs s__law_above_by) (defBody s__law_above_by) (defScope s__law_above_by) .none kV11 dc11 pm11 an11 cd11 ct11), sl11⟩) (c11 : PySem.W.codeIn K cd11 "_law_above_by" = true) (k11 : PySem.W.keepIn K (.ref f11) = true)
    (a12 : PySem.W.nsIn K mainGlobals "_law_line_right" = some (some (.ref f12))) (l12 : K.lookup f12 = some ⟨oc12, od12, .func (PySem.W.fnOf "_law_line_right" "_law_line_right" (defArgs s__law_line_right) (defBody s__law_line_right) (defScope s__law_line_right) .none kV12 dc12 pm12 an12 cd12 ct12), sl12⟩) (c12 : PySem.W.codeIn K cd12 "_law_line_right" = true) (k12 : PySem.W.keepIn K (.ref f12) = true)
    (a13 : PySem.W.nsIn K mainGlobals "_law_shown" = some (some (.ref f13))) (l13 : K.lookup f13 = some ⟨oc13, od13, .func (PySem.W.fnOf "_law_shown" "_law_shown" (defArgs s__law_shown) (defBody s__law_shown) (defScope s__law_shown) .none kV13 dc13 pm13 an13 cd13 ct13), sl13⟩) (c13 : PySem.W.codeIn K cd13 "_law_shown" = true) (k13 : PySem.W.keepIn K (.ref f13) = true)
    (a14 : PySem.W.nsIn K mainGlobals "_law_line_on" = some (some (.ref f14))) (l14 : K.lookup f14 = some ⟨oc14, od14, .func (PySem.W.fnOf "_law_line_on" "_law_line_on" (defArgs s__law_line_on) (defBody s__law_line_on) (defScope s__law_line_on) .none kV14 dc14 pm14 an14 cd14 ct14), sl14⟩) (c14 : PySem.W.codeIn K cd14 "_law_line_on" = true) (k14 : PySem.W.keepIn K (.ref f14) = true)
    (a15 : PySem.W.nsIn K mainGlobals "_law_lines_of" = some (some (.ref f15))) (l15 : K.lookup f15 = some ⟨oc15, od15, .func (PySem.W.fnOf "_law_lines_of" "_law_lines_of" (defArgs s__law_lines_of) (defBody s__law_lines_of) (defScope s__law_lines_of) .none kV15 dc15 pm15 an15 cd15 ct15), sl15⟩) (c15 : PySem.W.codeIn K cd15 "_law_lines_of" = true) (k15 : PySem.W.keepIn K (.ref f15) = true)
    (a16 : PySem.W.nsIn K mainGlobals "_law_spoilt" = some (some (.ref f16))) (l16 : K.lookup f16 = some ⟨oc16, od16, .func (PySem.W.fnOf "_law_spoilt" "_law_spoilt" (defArgs s__law_spoilt) (defBody s__law_spoilt) (defScope s__law_spoilt) .none kV16 dc16 pm16 an16 cd16 ct16), sl16⟩) (c16 : PySem.W.codeIn K cd16 "_law_spoilt" = true) (k16 : PySem.W.keepIn K (.ref f16) = true)
    (a17 : PySem.W.nsIn K mainGlobals "_law_room_for" = some (some (.ref f17))) (l17 : K.lookup f17 = some ⟨oc17, od17, .func (PySem.W.fnOf "_law_room_for" "_law_room_for" (defArgs s__law_room_for) (defBody s__law_room_for) (defScope s__law_room_for) .none kV17 dc17 pm17 an17 cd17 ct17), sl17⟩) (c17 : PySem.W.codeIn K cd17 "_law_room_for" = true) (k17 : PySem.W.keepIn K (.ref f17) = true)
    (a18 : PySem.W.nsIn K mainGlobals "_law_spread" = some (some (.ref f18))) (l18 : K.lookup f18 = some ⟨oc18, od18, .func (PySem.W.fnOf "_law_spread" "_law_spread" (defArgs s__law_spread) (defBody s__law_spread) (defScope s__law_spread) .none kV18 dc18 pm18 an18 cd18 ct18), sl18⟩) (c18 : PySem.W.codeIn K cd18 "_law_spread" = true) (k18 : PySem.W.keepIn K (.ref f18) = true)
    (a19 : PySem.W.nsIn K mainGlobals "_law_spread_lines" = some (some (.ref f19))) (l19 : K.lookup f19 = some ⟨oc19, od19, .func (PySem.W.fnOf "_law_spread_lines" "_law_spread_lines" (defArgs s__law_spread_lines) (defBody s__law_spread_lines) (defScope s__law_spread_lines) .none kV19 dc19 pm19 an19 cd19 ct19), sl19⟩) (c19 : PySem.W.codeIn K cd19 "_law_spread_lines" = true) (k19 : PySem.W.keepIn K (.ref f19) = true)
    (a20 : PySem.W.nsIn K mainGlobals "law" = some (some (.ref f20))) (l20 : K.lookup f20 = some ⟨oc20, od20, .func (PySem.W.fnOf "law" "law" (defArgs s_law) (defBody s_law) (defScope s_law) .none kV20 dc20 pm20 an20 cd20 ct20), sl20⟩) (c20 : PySem.W.codeIn K cd20 "law" = true) (k20 : PySem.W.keepIn K (.ref f20) = true)
    (z_len : PySem.W.nsIn K mainGlobals "len" = some none)
    (z_isinstance : PySem.W.nsIn K mainGlobals "isinstance" = some none)
    (z_list : PySem.W.nsIn K mainGlobals "list" = some none)
    (z_tuple : PySem.W.nsIn K mainGlobals "tuple" = some none)
    (z_bool : PySem.W.nsIn K mainGlobals "bool" = some none)
    (z_str : PySem.W.nsIn K mainGlobals "str" = some none)
    (z_int : PySem.W.nsIn K mainGlobals "int" = some none)
    (z_range : PySem.W.nsIn K mainGlobals "range" = some none)
    (z_zip : PySem.W.nsIn K mainGlobals "zip" = some none)
    (z_reversed : PySem.W.nsIn K mainGlobals "reversed" = some none)
    (z_min : PySem.W.nsIn K mainGlobals "min" = some none)
    (z_max : PySem.W.nsIn K mainGlobals "max" = some none)
    {a_LT : Addr} {n_T : Nat} {h1_T h2_T h3_T : Int} {t1_T u1_T t2_T u2_T t3_T u3_T : Tok} (y_nLT : PySem.W.nsIn K mainGlobals "LINES_TOLD" = some (some (.ref a_LT))) (y_lLT : K.lookup a_LT = some ⟨.type "dict", none, .dict #[⟨h1_T, .str "or" t1_T, .int 1 u1_T⟩, ⟨h2_T, .str "and" t2_T, .int 2 u2_T⟩, ⟨h3_T, .str "every" t3_T, .int 1 u3_T⟩] n_T, #[]⟩) (y_sLT : (a_LT == sysModules) = false) (y_h1LT : h1_T = hashStr w "or") (y_h2LT : h2_T = hashStr w "and") (y_h3LT : h3_T = hashStr w "every")
    : ∃ fd : FuncData, (∀ (s : Shared) (v : Value), BindsTo s fd ⟨[v], []⟩ [("_law_script", v)]) ∧ ∀ base : Heap, K.In base → base.Ns mainGlobals mg → FnOk l.prog w K mg base CX0 231 fa fd ["_law_script"] (spLaw K) := by
  have e := hfa.symm.trans (PySem.W.mg_of X G a20)
  cases e
  have B : Blt mg := ⟨PySem.W.mg_none_of X G z_len, PySem.W.mg_none_of X G z_isinstance, PySem.W.mg_none_of X G z_list, PySem.W.mg_none_of X G z_tuple, PySem.W.mg_none_of X G z_bool, PySem.W.mg_none_of X G z_str, PySem.W.mg_none_of X G z_int, PySem.W.mg_none_of X G z_range, PySem.W.mg_none_of X G z_zip, PySem.W.mg_none_of X G z_reversed, PySem.W.mg_none_of X G z_min, PySem.W.mg_none_of X G z_max⟩
  have D_has_pair : DefIn K mg "has_pair" s_has_pair ["row"] _ _ := ⟨fun_mk (st := s_has_pair) l1 c1 k1, PySem.W.mg_of X G a1, (fun_mk (st := s_has_pair) l1 c1 k1).binds (ps := ["row"]) fun _ _ _ _ _ _ us hl => match us, hl with | [_], _ => rfl⟩
  have D_rows_above_by_parts : DefIn K mg "rows_above_by_parts" s_rows_above_by_parts ["row", "parts", "k"] _ _ := ⟨fun_mk (st := s_rows_above_by_parts) l2 c2 k2, PySem.W.mg_of X G a2, (fun_mk (st := s_rows_above_by_parts) l2 c2 k2).binds (ps := ["row", "parts", "k"]) fun _ _ _ _ _ _ us hl => match us, hl with | [_, _, _], _ => rfl⟩
  have D_rows_above : DefIn K mg "rows_above" s_rows_above ["row", "k"] _ _ := ⟨fun_mk (st := s_rows_above) l3 c3 k3, PySem.W.mg_of X G a3, (fun_mk (st := s_rows_above) l3 c3 k3).binds (ps := ["row", "k"]) fun _ _ _ _ _ _ us hl => match us, hl with | [_, _], _ => rfl⟩
  have D_reason_fits : DefIn K mg "reason_fits" s_reason_fits ["row", "reason"] _ _ := ⟨fun_mk (st := s_reason_fits) l4 c4 k4, PySem.W.mg_of X G a4, (fun_mk (st := s_reason_fits) l4 c4 k4).binds (ps := ["row", "reason"]) fun _ _ _ _ _ _ us hl => match us, hl with | [_, _], _ => rfl⟩
  have D_is_right : DefIn K mg "is_right" s_is_right ["lines", "place"] _ _ := ⟨fun_mk (st := s_is_right) l5 c5 k5, PySem.W.mg_of X G a5, (fun_mk (st := s_is_right) l5 c5 k5).binds (ps := ["lines", "place"]) fun _ _ _ _ _ _ us hl => match us, hl with | [_, _], _ => rfl⟩
  have D_shows : DefIn K mg "shows" s_shows ["lines", "row"] _ _ := ⟨fun_mk (st := s_shows) l6 c6 k6, PySem.W.mg_of X G a6, (fun_mk (st := s_shows) l6 c6 k6).binds (ps := ["lines", "row"]) fun _ _ _ _ _ _ us hl => match us, hl with | [_, _], _ => rfl⟩
  have D__law_whole : DefIn K mg "_law_whole" s__law_whole ["_law_found"] _ _ := ⟨fun_mk (st := s__law_whole) l7 c7 k7, PySem.W.mg_of X G a7, (fun_mk (st := s__law_whole) l7 c7 k7).binds (ps := ["_law_found"]) fun _ _ _ _ _ _ us hl => match us, hl with | [_], _ => rfl⟩
  have D__law_at : DefIn K mg "_law_at" s__law_at ["_law_script", "_law_k"] _ _ := ⟨fun_mk (st := s__law_at) l8 c8 k8, PySem.W.mg_of X G a8, (fun_mk (st := s__law_at) l8 c8 k8).binds (ps := ["_law_script", "_law_k"]) fun _ _ _ _ _ _ us hl => match us, hl with | [_, _], _ => rfl⟩
  have D__law_the_same : DefIn K mg "_law_the_same" s__law_the_same ["_law_found", "_law_due"] _ _ := ⟨fun_mk (st := s__law_the_same) l9 c9 k9, PySem.W.mg_of X G a9, (fun_mk (st := s__law_the_same) l9 c9 k9).binds (ps := ["_law_found", "_law_due"]) fun _ _ _ _ _ _ us hl => match us, hl with | [_, _], _ => rfl⟩
  have D__law_pair : DefIn K mg "_law_pair" s__law_pair ["_law_row"] _ _ := ⟨fun_mk (st := s__law_pair) l10 c10 k10, PySem.W.mg_of X G a10, (fun_mk (st := s__law_pair) l10 c10 k10).binds (ps := ["_law_row"]) fun _ _ _ _ _ _ us hl => match us, hl with | [_], _ => rfl⟩
  have D__law_above_by : DefIn K mg "_law_above_by" s__law_above_by ["_law_row", "_law_k"] _ _ := ⟨fun_mk (st := s__law_above_by) l11 c11 k11, PySem.W.mg_of X G a11, (fun_mk (st := s__law_above_by) l11 c11 k11).binds (ps := ["_law_row", "_law_k"]) fun _ _ _ _ _ _ us hl => match us, hl with | [_, _], _ => rfl⟩
  have D__law_line_right : DefIn K mg "_law_line_right" s__law_line_right ["_law_lines", "_law_number"] _ _ := ⟨fun_mk (st := s__law_line_right) l12 c12 k12, PySem.W.mg_of X G a12, (fun_mk (st := s__law_line_right) l12 c12 k12).binds (ps := ["_law_lines", "_law_number"]) fun _ _ _ _ _ _ us hl => match us, hl with | [_, _], _ => rfl⟩
  have D__law_shown : DefIn K mg "_law_shown" s__law_shown ["_law_lines", "_law_row"] _ _ := ⟨fun_mk (st := s__law_shown) l13 c13 k13, PySem.W.mg_of X G a13, (fun_mk (st := s__law_shown) l13 c13 k13).binds (ps := ["_law_lines", "_law_row"]) fun _ _ _ _ _ _ us hl => match us, hl with | [_, _], _ => rfl⟩
  have D__law_line_on : DefIn K mg "_law_line_on" s__law_line_on ["_law_row", "_law_number", "_law_way", "_law_salt"] _ _ := ⟨fun_mk (st := s__law_line_on) l14 c14 k14, PySem.W.mg_of X G a14, (fun_mk (st := s__law_line_on) l14 c14 k14).binds (ps := ["_law_row", "_law_number", "_law_way", "_law_salt"]) fun _ _ _ _ _ _ us hl => match us, hl with | [_, _, _, _], _ => rfl⟩
  have D__law_lines_of : DefIn K mg "_law_lines_of" s__law_lines_of ["_law_cells"] _ _ := ⟨fun_mk (st := s__law_lines_of) l15 c15 k15, PySem.W.mg_of X G a15, (fun_mk (st := s__law_lines_of) l15 c15 k15).binds (ps := ["_law_cells"]) fun _ _ _ _ _ _ us hl => match us, hl with | [_], _ => rfl⟩
  have D__law_spoilt : DefIn K mg "_law_spoilt" s__law_spoilt ["_law_lines", "_law_way", "_law_spot", "_law_cell"] _ _ := ⟨fun_mk (st := s__law_spoilt) l16 c16 k16, PySem.W.mg_of X G a16, (fun_mk (st := s__law_spoilt) l16 c16 k16).binds (ps := ["_law_lines", "_law_way", "_law_spot", "_law_cell"]) fun _ _ _ _ _ _ us hl => match us, hl with | [_, _, _, _], _ => rfl⟩
  have D__law_room_for : DefIn K mg "_law_room_for" s__law_room_for ["_law_script", "_law_most", "_law_bound"] _ _ := ⟨fun_mk (st := s__law_room_for) l17 c17 k17, PySem.W.mg_of X G a17, (fun_mk (st := s__law_room_for) l17 c17 k17).binds (ps := ["_law_script", "_law_most", "_law_bound"]) fun _ _ _ _ _ _ us hl => match us, hl with | [_, _, _], _ => rfl⟩
  have D__law_spread : DefIn K mg "_law_spread" s__law_spread ["_law_part", "_law_step"] _ _ := ⟨fun_mk (st := s__law_spread) l18 c18 k18, PySem.W.mg_of X G a18, (fun_mk (st := s__law_spread) l18 c18 k18).binds (ps := ["_law_part", "_law_step"]) fun _ _ _ _ _ _ us hl => match us, hl with | [_, _], _ => rfl⟩
  have D__law_spread_lines : DefIn K mg "_law_spread_lines" s__law_spread_lines ["_law_lines", "_law_cell"] _ _ := ⟨fun_mk (st := s__law_spread_lines) l19 c19 k19, PySem.W.mg_of X G a19, (fun_mk (st := s__law_spread_lines) l19 c19 k19).binds (ps := ["_law_lines", "_law_cell"]) fun _ _ _ _ _ _ us hl => match us, hl with | [_, _], _ => rfl⟩
  have D_law : DefIn K mg "law" s_law ["_law_script"] _ _ := ⟨fun_mk (st := s_law) l20 c20 k20, PySem.W.mg_of X G a20, (fun_mk (st := s_law) l20 c20 k20).binds (ps := ["_law_script"]) fun _ _ _ _ _ _ us hl => match us, hl with | [_], _ => rfl⟩
  refine ⟨PySem.W.fnOf "law" "law" (defArgs s_law) (defBody s_law) (defScope s_law) .none kV20 dc20 pm20 an20 cd20 ct20, fun s v => .of_eq rfl, fun base _ _ => ?_⟩
  have cT := PySem.W.mg_of X G y_nLT
  have tT := const_told (P := l.prog) (w := w) y_lLT y_sLT y_h1LT y_h2LT y_h3LT
  have h1 := ok_whole (P := l.prog) (w := w) (base := base) D__law_whole B
  have h2 := ok_at (P := l.prog) (w := w) (base := base) D__law_at B
  have h3 := ok_same D__law_the_same B h1
  have h4 := ok_has_pair (P := l.prog) (w := w) (base := base) D_has_pair
  have h5p := ok_above_parts (P := l.prog) (w := w) (base := base) D_rows_above_by_parts
  have h5 := ok_rows_above D_rows_above h5p
  have h6 := ok_reason_fits (P := l.prog) (w := w) (base := base) D_reason_fits B cT tT
  have h7 := ok_is_right D_is_right B h4 h6 h5
  have h8 := ok_shows D_shows B h7
  have h9 := ok_pair (P := l.prog) (w := w) (base := base) D__law_pair
  have h10 := ok_above_by (P := l.prog) (w := w) (base := base) D__law_above_by
  have h11 := ok_line_right D__law_line_right B h9 h10
  have h12 := ok_shown D__law_shown B h11
  have h13 := ok_line_on (P := l.prog) (w := w) (base := base) D__law_line_on B
  have h14 := ok_lines_of D__law_lines_of B h13
  have h15 := ok_spread (P := l.prog) (w := w) (base := base) D__law_spread B 100
  have h16 := ok_spread_lines D__law_spread_lines B h15
  have h17 := ok_room_for (P := l.prog) (w := w) (base := base) D__law_room_for B
  have h18 := ok_spoilt (P := l.prog) (w := w) (base := base) D__law_spoilt B
  exact ok_law05 D_law B h2 h3 h14 h17 h16 h18 h8 h12
theorem walk {l : PySem.W.OpenLaw} {q : Program} {loose : List Str} {XP : (Str → Option Value) → Heap → Prop} {YP : World → Heap → Prop} {d : DefRec} {K : Params → PySem.W.Frag} (hn : l.most = some 63) (hdf : d.params.defaults = [])
    (hY : ∀ (w : World) (h : Heap), YP w h → (K w.params).In h)
    (F : ∀ (w : World) (mg : Str → Option Value) (fa : Addr) (h : Heap), (K w.params).In h → h.Ns mainGlobals mg → mg d.name = some (.ref fa) →
      ∃ fd : FuncData, (∀ (s : Shared) (u : Value), BindsTo s fd ⟨[u], []⟩ [("_law_script", u)]) ∧ ∀ base : Heap, (K w.params).In base → base.Ns mainGlobals mg → FnOk l.prog w (K w.params) mg base CX0 231 fa fd ["_law_script"] (spLaw (K w.params))) :
    PySem.W.WalkO q loose XP YP l.row.toRowW d [] (fun f vs => PySem.call f vs) :=
  L2.walk_of (n := 63) (k := 231) (x := "_law_script") (CX := fun _ => CX0) (sp := fun w => spLaw (K w.params)) hn (by decide) hdf ⟨rfl, by decide, by decide⟩ hY F (fun _ _ a ns hl _ hS => ⟨a, ns, rfl, hS, hl, fun _ => rfl⟩) fun _ _ _ _ _ z => z
end My
open PySem PySem.W PyProof.Rows
set_option maxRecDepth 100000 in
set_option maxHeartbeats 0 in
theorem PySem.Challenge.cw_roomsay_k05_shows_holds : PySem.Challenge.rw_roomsay_k05_shows.Holds := by
  w_on; o_law; k_head; (case hw => w_witness2)
  k_fill
  refine My.walk (l := PySem.Challenge.rw_roomsay_k05_shows) rfl rfl (fun w h Y => PySem.W.kIn_of Y) ?F
  case F =>
    intro w mg fa h KX G hmg
    refine' My.all_mk KX G hmg ?a1 ?l1 ?c1 ?k1 ?a2 ?l2 ?c2 ?k2 ?a3 ?l3 ?c3 ?k3 ?a4 ?l4 ?c4 ?k4 ?a5 ?l5 ?c5 ?k5 ?a6 ?l6 ?c6 ?k6 ?a7 ?l7 ?c7 ?k7 ?a8 ?l8 ?c8 ?k8 ?a9 ?l9 ?c9 ?k9 ?a10 ?l10 ?c10 ?k10 ?a11 ?l11 ?c11 ?k11 ?a12 ?l12 ?c12 ?k12 ?a13 ?l13 ?c13 ?k13 ?a14 ?l14 ?c14 ?k14 ?a15 ?l15 ?c15 ?k15 ?a16 ?l16 ?c16 ?k16 ?a17 ?l17 ?c17 ?k17 ?a18 ?l18 ?c18 ?k18 ?a19 ?l19 ?c19 ?k19 ?a20 ?l20 ?c20 ?k20 ?z_len ?z_isinstance ?z_list ?z_tuple ?z_bool ?z_str ?z_int ?z_range ?z_zip ?z_reversed ?z_min ?z_max ?y_nLT ?y_lLT ?y_sLT ?y_h1LT ?y_h2LT ?y_h3LT
    (case a1 => k_is)
    (case l1 => k_is)
    (case c1 => k_is)
    (case k1 => k_is)
    (case a2 => k_is)
    (case l2 => k_is)
    (case c2 => k_is)
    (case k2 => k_is)
    (case a3 => k_is)
    (case l3 => k_is)
    (case c3 => k_is)
    (case k3 => k_is)
    (case a4 => k_is)
    (case l4 => k_is)
    (case c4 => k_is)
    (case k4 => k_is)
    (case a5 => k_is)
    (case l5 => k_is)
    (case c5 => k_is)
    (case k5 => k_is)
    (case a6 => k_is)
    (case l6 => k_is)
    (case c6 => k_is)
    (case k6 => k_is)
    (case a7 => k_is)
    (case l7 => k_is)
    (case c7 => k_is)
    (case k7 => k_is)
    (case a8 => k_is)
    (case l8 => k_is)
    (case c8 => k_is)
    (case k8 => k_is)
    (case a9 => k_is)
    (case l9 => k_is)
    (case c9 => k_is)
    (case k9 => k_is)
    (case a10 => k_is)
    (case l10 => k_is)
    (case c10 => k_is)
    (case k10 => k_is)
    (case a11 => k_is)
    (case l11 => k_is)
    (case c11 => k_is)
    (case k11 => k_is)
    (case a12 => k_is)
    (case l12 => k_is)
    (case c12 => k_is)
    (case k12 => k_is)
    (case a13 => k_is)
    (case l13 => k_is)
    (case c13 => k_is)
    (case k13 => k_is)
    (case a14 => k_is)
    (case l14 => k_is)
    (case c14 => k_is)
    (case k14 => k_is)
    (case a15 => k_is)
    (case l15 => k_is)
    (case c15 => k_is)
    (case k15 => k_is)
    (case a16 => k_is)
    (case l16 => k_is)
    (case c16 => k_is)
    (case k16 => k_is)
    (case a17 => k_is)
    (case l17 => k_is)
    (case c17 => k_is)
    (case k17 => k_is)
    (case a18 => k_is)
    (case l18 => k_is)
    (case c18 => k_is)
    (case k18 => k_is)
    (case a19 => k_is)
    (case l19 => k_is)
    (case c19 => k_is)
    (case k19 => k_is)
    (case a20 => k_is)
    (case l20 => k_is)
    (case c20 => k_is)
    (case k20 => k_is)
    (case z_len => k_is)
    (case z_isinstance => k_is)
    (case z_list => k_is)
    (case z_tuple => k_is)
    (case z_bool => k_is)
    (case z_str => k_is)
    (case z_int => k_is)
    (case z_range => k_is)
    (case z_zip => k_is)
    (case z_reversed => k_is)
    (case z_min => k_is)
    (case z_max => k_is)
    (case y_nLT => k_is)
    (case y_lLT => k_is)
    (case y_sLT => exact rfl)
    (case y_h1LT => exact rfl)
    (case y_h2LT => exact rfl)
    (case y_h3LT => exact rfl)
