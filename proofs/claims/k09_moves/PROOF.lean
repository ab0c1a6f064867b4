import PyProof.Rows.All
import Wide.All
import OpenK.AllK
import Wide.FinOn
import Lean
import PyProof.EqAt
import PyProof.EqKinds
import PyProof.NeKinds
import PyProof.TupleCall
import PySem.Challenge.RW_roomsay_k09_moves
set_option Elab.async false
set_option linter.all false
set_option maxRecDepth 100000
namespace L2
open PySem PySem.Spec PyProof.Rows
abbrev Key := Sum Int Str
def keyIs : Key → Value → Bool
  | .inl k, v => Value.isInt k v
  | .inr x, v => Value.isStrOf x v
def keyH (w : World) : Key → Int
  | .inl k => hashInt k
  | .inr x => hashStr w x
theorem keyIs_shape : ∀ {k : Key} {v : Value}, keyIs k v = true → (∃ i t, k = Sum.inl i ∧ v = Value.int i t) ∨ (∃ x t, k = Sum.inr x ∧ v = Value.str x t)
  | .inl i, v, h => by
    obtain ⟨t, e⟩ := Value.isInt_shape (k := i) (v := v) h
    exact .inl ⟨i, t, rfl, e⟩
  | .inr x, v, h => by
    obtain ⟨t, e⟩ := Value.isStrOf_shape (x := x) (v := v) h
    exact .inr ⟨x, t, rfl, e⟩
theorem keyIs_int (i : Int) (t : Tok) : keyIs (.inl i) (.int i t) = true := by simp [keyIs, Value.isInt]
theorem keyIs_str (x : Str) (t : Tok) : keyIs (.inr x) (.str x t) = true := by simp [keyIs, Value.isStrOf]
theorem key_ll (a b : Int) : decide ((Sum.inl a : Key) = Sum.inl b) = (a == b) := by
  by_cases e : a = b
  · subst e; simp
  · have h : ¬ (Sum.inl a : Key) = Sum.inl b := fun q => e (Sum.inl.inj q)
    rw [decide_eq_false h]
    exact (beq_eq_false_iff_ne.mpr e).symm
theorem key_rr (a b : Str) : decide ((Sum.inr a : Key) = Sum.inr b) = decide (a = b) := by
  by_cases e : a = b
  · subst e; simp
  · have h : ¬ (Sum.inr a : Key) = Sum.inr b := fun q => e (Sum.inr.inj q)
    rw [decide_eq_false h, decide_eq_false e]
theorem key_lr (a : Int) (b : Str) : decide ((Sum.inl a : Key) = Sum.inr b) = false := decide_eq_false (fun q => nomatch q)
theorem key_rl (a : Str) (b : Int) : decide ((Sum.inr a : Key) = Sum.inl b) = false := decide_eq_false (fun q => nomatch q)
def mixKind (prog : Program) (w : World) : PySem.KeyKind prog w Key where
  is := keyIs
  hash := keyH w
  inj := fun v a b ha hb => by
    rcases keyIs_shape ha with ⟨i, t, rfl, rfl⟩ | ⟨x, t, rfl, rfl⟩
    · rcases keyIs_shape hb with ⟨j, u, rfl, e⟩ | ⟨y, u, rfl, e⟩
      · injection e with e1 _; rw [e1]
      · exact nomatch e
    · rcases keyIs_shape hb with ⟨j, u, rfl, e⟩ | ⟨y, u, rfl, e⟩
      · exact nomatch e
      · injection e with e1 _; rw [e1]
  byValue := fun k v h => by
    rcases keyIs_shape h with ⟨i, t, rfl, rfl⟩ | ⟨x, t, rfl, rfl⟩ <;> rfl
  pyHash := fun hv h => by
    rcases keyIs_shape hv with ⟨i, t, rfl, rfl⟩ | ⟨x, t, rfl, rfl⟩
    · exact wpAny_pyHash_int h
    · exact wpAny_pyHash_str h
  eqBool := fun hu hv h => by
    rcases keyIs_shape hu with ⟨i, t, rfl, rfl⟩ | ⟨x, t, rfl, rfl⟩
    · rcases keyIs_shape hv with ⟨j, u, rfl, rfl⟩ | ⟨y, u, rfl, rfl⟩
      · rw [key_ll] at h; exact wpAny_eqBool_int h
      · rw [key_lr] at h; exact SeqAt.EqAt.int_str i t y u _ _ _ _ h
    · rcases keyIs_shape hv with ⟨j, u, rfl, rfl⟩ | ⟨y, u, rfl, rfl⟩
      · rw [key_rl] at h; exact SeqAt.EqAt.str_int x t j u _ _ _ _ h
      · rw [key_rr] at h; exact wpAny_eqBool_str h
  «strs» := fun k x t v h => by
    rcases keyIs_shape h with ⟨i, u, rfl, e⟩ | ⟨y, u, rfl, e⟩
    · exact nomatch e
    · injection e with e1 _
      subst e1
      cases v <;> rfl
theorem mixKind_int (prog : Program) (w : World) (i : Int) (t : Tok) : (mixKind prog w).is (.inl i) (.int i t) = true := keyIs_int i t
theorem mixKind_str (prog : Program) (w : World) (x : Str) (t : Tok) : (mixKind prog w).is (.inr x) (.str x t) = true := keyIs_str x t
end L2
namespace L2
open PySem PySem.Spec PyProof.Rows
inductive V where
  | non | bl (b : Bool) | int (i : Int) | str (x : Str) | byt (b : Array UInt8) | flt (b : UInt64) | ref (a : Addr) | ty (n : String)
  deriving DecidableEq
def RelV : V → Value → Prop
  | .non, u => u = Value.none
  | .bl b, u => u = Value.bool b
  | .int i, u => ∃ t, u = Value.int i t
  | .str x, u => ∃ t, u = Value.str x t
  | .byt b, u => ∃ t, u = Value.bytes b t
  | .flt b, u => ∃ t, u = Value.float b t
  | .ref a, u => u = Value.ref a
  | .ty n, u => u = Value.type n
abbrev Vals : List V → List Value → Prop := Paired RelV
theorem Vals.length {xs : List V} {us : List Value} (r : Vals xs us) : xs.length = us.length := Paired.length r
theorem Vals.get : ∀ {xs : List V} {us : List Value} {i : Nat} {x : V}, Vals xs us → xs[i]? = some x → ∃ u, us[i]? = some u ∧ RelV x u
  | _, _, _, _, .nil, e => by simp at e
  | _, _, 0, _, .cons r _, e => by simp at e; subst e; exact ⟨_, rfl, r⟩
  | _, _, i + 1, x, .cons _ t, e => by
    obtain ⟨u, h1, h2⟩ := Vals.get (i := i) (x := x) t (by simpa using e)
    exact ⟨u, by simpa using h1, h2⟩
theorem Vals.set {x : V} {u : Value} (r : RelV x u) : ∀ {xs : List V} {us : List Value} (i : Nat), Vals xs us → Vals (xs.set i x) (us.set i u)
  | _, _, _, .nil => .nil
  | _, _, 0, .cons _ t => .cons r t
  | _, _, i + 1, .cons q t => .cons q (Vals.set r i t)
theorem Vals.append : ∀ {xs ys : List V} {us ws : List Value}, Vals xs us → Vals ys ws → Vals (xs ++ ys) (us ++ ws)
  | _, _, _, _, .nil, s => s
  | _, _, _, _, .cons r t, s => .cons r (Vals.append t s)
theorem Vals.take : ∀ {xs : List V} {us : List Value} (n : Nat), Vals xs us → Vals (xs.take n) (us.take n)
  | _, _, 0, _ => .nil
  | _, _, _ + 1, .nil => .nil
  | _, _, n + 1, .cons r t => .cons r (Vals.take n t)
theorem Vals.drop : ∀ {xs : List V} {us : List Value} (n : Nat), Vals xs us → Vals (xs.drop n) (us.drop n)
  | _, _, 0, r => r
  | _, _, _ + 1, .nil => .nil
  | _, _, n + 1, .cons _ t => Vals.drop n t
theorem Vals.none_of : ∀ {xs : List V} {us : List Value} {i : Nat}, Vals xs us → xs[i]? = none → us[i]? = none := fun {xs us i} r e => by
  have h1 := r.length
  have h2 : xs.length ≤ i := List.getElem?_eq_none_iff.mp e
  exact List.getElem?_eq_none_iff.mpr (by omega)
def RelO : Option V → Option Value → Prop
  | some v, some u => RelV v u
  | none, none => True
  | _, _ => False
def KV {κ : Type} : List (κ × V) → List (κ × Value) → Prop := Paired fun (p : κ × V) (q : κ × Value) => p.1 = q.1 ∧ RelV p.2 q.2
def kV : Key → V
  | .inl i => .int i
  | .inr x => .str x
inductive HO where
  /-- a list -/
  | lst (xs : List V)
  /-- a tuple (never changes) -/
  | tup (xs : List V)
  /-- a dict whose keys are ints and texts; one whose keys are tuples of ints and texts (the empty one is both) -/
  | dK (kvs : List (Key × V)) | dT (kvs : List (List Key × V))
  /-- a set of ints: its members, its size -/
  | set (S : Int → Bool) (n : Nat)
  /-- an instance of the class at C, its dict at dx, its attributes -/
  | ins (C dx : Addr) (fs : List (Str × V))
  /-- the dict of the instance at x -/
  | own (x : Addr)
  /-- the dict of an exception -/
  | xd (fs : List (Str × V))
  /-- a bound method, f of x -/
  | met (f x : Addr)
  /-- a range object lo, lo + 1, .. below hi -/
  | rng (lo hi : Int)
  /-- a thing that is known to the object (the script; a dict while a loop walks it): read, never written while it is so -/
  | frz (o : Obj) (u : HO)
  /-- a code object's table -/
  | tbl (ps : Array Value)
  /-- any other thing, by what is true of its one object (a def of one's own: SetO a S n := HO.ext fun h => ..) -/
  | ext (φ : Heap → Prop)
abbrev Hp := Addr → Option HO
def upd (H : Hp) (a : Addr) (o : HO) : Hp := fun b => if b = a then some o else H b
theorem upd_same {H : Hp} {a : Addr} {o : HO} : upd H a o a = some o := by unfold upd; rw [if_pos rfl]
theorem upd_ne {H : Hp} {a b : Addr} {o : HO} (h : b ≠ a) : upd H a o b = H b := by unfold upd; rw [if_neg h]
theorem upd_upd {H : Hp} {a : Addr} {o u : HO} : upd (upd H a o) a u = upd H a u := by
  funext b; unfold upd; split <;> rfl
theorem ne_of {H : Hp} {a b : Addr} {o u : HO} (h : H a = some o) (h' : H b = some u) (d : o ≠ u) : a ≠ b := by
  intro e; subst e; rw [h] at h'; exact d (Option.some.inj h')
theorem ne_of_none {H : Hp} {a b : Addr} {o : HO} (h : H a = some o) (h' : H b = none) : a ≠ b := by
  intro e; subst e; rw [h] at h'; cases h'
section
variable (P : Program) (w : World)
def ObjOk (H : Hp) (h : Heap) (a : Addr) : HO → Prop
  | .lst xs => xs.length ≤ sizeLine ∧ ∃ (its : List Value) (n : Nat), Vals xs its ∧ h.get? a = some { cls := .type "list", data := .seq its.toArray n }
  | .tup xs => xs.length ≤ sizeLine ∧ ∃ its : List Value, Vals xs its ∧ IsTup h a its.toArray
  | .dK kvs => kvs.length ≤ sizeLine ∧ (a == sysModules) = false ∧ ∃ vs, KV kvs vs ∧ h.DictOf (mixKind P w) a vs
  | .dT kvs => kvs.length ≤ sizeLine ∧ (a == sysModules) = false ∧ ∃ xs : List (List Key × Addr × Value),
      Paired (fun (p : List Key × V) (q : List Key × Addr × Value) => p.1 = q.1 ∧ H q.2.1 = some (.tup (p.1.map kV)) ∧ RelV p.2 q.2.2) kvs xs ∧
      ∃ o es ep, h.get? a = some o ∧ o.ExactDict ∧ o.data = .dict es ep ∧ es.toList = xs.map (entryOfKey (tupleKind (mixKind P w))) ∧ (xs.map (·.1)).Nodup
  | .set S n => h.SetOf (intKind P w) a S n
  | .ins C dx fs => H dx = some (.own a) ∧ fs.length ≤ 1000 ∧ dx ≠ a ∧ h.get? a = some (PySem.W.instObj C dx) ∧
      ∃ mA, h.Ns1 dx mA ∧ (∀ f, RelO (fs.lookup f) (mA f)) ∧ PySem.Within mA (fs.map (·.1))
  | .own _ => ∃ o, h.get? a = some o
  | .xd fs => ∃ mA, h.Ns1 a mA ∧ ∀ f, RelO (fs.lookup f) (mA f)
  | .rng lo hi => ∃ t u v, h.get? a = some { cls := .type "range", data := .fields #[.int lo t, .int hi u, .int 1 v] }
  | .frz o u => h.get? a = some o ∧ ObjOk H h a u
  | .tbl ps => h.get? a = some { cls := .none, data := .fields ps }
  | .met f x => h.get? a = some (PySem.W.methodObj (.ref f) (.ref x))
  | .ext φ => φ h ∧ (∃ o, h.get? a = some o) ∧ ∀ h1 h2 : Heap, φ h1 → (∀ o, h1.get? a = some o → h2.get? a = some o) → φ h2
def HOk (H : Hp) (h : Heap) : Prop := ∀ a o, H a = some o → ObjOk P w H h a o
end
section
variable {P : Program} {w : World} {H H' : Hp} {h h' : Heap} {a : Addr} {o : HO}
theorem ObjOk.lt (x : ObjOk P w H h a o) : a < h.objs.size := by
  cases o with
  | lst xs => obtain ⟨_, _, _, _, e⟩ := x; exact Heap.lt_size e
  | tup xs => obtain ⟨_, _, _, p⟩ := x; exact p.lt
  | dK kvs => obtain ⟨_, _, _, _, o, _, _, e, _⟩ := x; exact Heap.lt_size e
  | dT kvs => obtain ⟨_, _, _, _, o, _, _, e, _⟩ := x; exact Heap.lt_size e
  | set S n => obtain ⟨o, _, _, _, e, _⟩ := x; exact Heap.lt_size e
  | ins C dx fs => obtain ⟨_, _, _, e, _⟩ := x; exact Heap.lt_size e
  | own y => obtain ⟨_, e⟩ := x; exact Heap.lt_size e
  | xd fs => obtain ⟨_, ⟨_, _, _, e, _⟩, _⟩ := x; exact Heap.lt_size e
  | rng lo hi => obtain ⟨_, _, _, e⟩ := x; exact Heap.lt_size e
  | frz ob u => obtain ⟨e, _⟩ := x; exact Heap.lt_size e
  | tbl ps => exact Heap.lt_size (show h.get? a = some _ from x)
  | met f y => exact Heap.lt_size (show h.get? a = some _ from x)
  | ext φ => obtain ⟨_, ⟨_, e⟩, _⟩ := x; exact Heap.lt_size e
theorem Paired.mapP {α β : Type} {F G : α → β → Prop} : ∀ {l₁ : List α} {l₂ : List β}, Paired F l₁ l₂ → (∀ a b, F a b → G a b) → Paired G l₁ l₂
  | _, _, .nil, _ => .nil
  | _, _, .cons r t, f => .cons (f _ _ r) (Paired.mapP t f)
theorem ObjOk.stay (x : ObjOk P w H h a o) (k : ∀ b u, (b = a ∨ H b = some (.own a)) → h.get? b = some u → h'.get? b = some u)
    (ho : ∀ b, H b = some (.own a) → H' b = some (.own a)) (ht : ∀ b xs, H b = some (.tup xs) → H' b = some (.tup xs)) : ObjOk P w H' h' a o := by
  induction o with
  | lst xs => obtain ⟨z, its, n, r, e⟩ := x; exact ⟨z, its, n, r, k _ _ (.inl rfl) e⟩
  | tup xs => obtain ⟨z, its, r, ob, e, c⟩ := x; exact ⟨z, its, r, ob, k _ _ (.inl rfl) e, c⟩
  | dK kvs => obtain ⟨z, y, vs, r, ob, es, ep, e, c⟩ := x; exact ⟨z, y, vs, r, ob, es, ep, k _ _ (.inl rfl) e, c⟩
  | dT kvs =>
    obtain ⟨z, y, xs, r, ob, es, ep, e, c⟩ := x
    exact ⟨z, y, xs, Paired.mapP r fun p q z => ⟨z.1, ht _ _ z.2.1, z.2.2⟩, ob, es, ep, k _ _ (.inl rfl) e, c⟩
  | set S n => obtain ⟨ob, es, ep, t, e, c⟩ := x; exact ⟨ob, es, ep, t, k _ _ (.inl rfl) e, c⟩
  | ins C dx fs =>
    obtain ⟨d, z, ne, e, mA, ⟨od, es, ep, e2, c⟩, r⟩ := x
    exact ⟨ho _ d, z, ne, k _ _ (.inl rfl) e, mA, ⟨od, es, ep, k _ _ (.inr d) e2, c⟩, r⟩
  | own y => obtain ⟨ob, e⟩ := x; exact ⟨ob, k _ _ (.inl rfl) e⟩
  | xd fs => obtain ⟨mA, ⟨od, es, ep, e, c⟩, r⟩ := x; exact ⟨mA, ⟨od, es, ep, k _ _ (.inl rfl) e, c⟩, r⟩
  | rng lo hi => obtain ⟨t, u, v, e⟩ := x; exact ⟨t, u, v, k _ _ (.inl rfl) e⟩
  | frz ob u ih => obtain ⟨e, q⟩ := x; exact ⟨k _ _ (.inl rfl) e, ih q⟩
  | tbl ps =>
    have e : h.get? a = some { cls := .none, data := .fields ps } := x
    show h'.get? a = some { cls := .none, data := .fields ps }
    exact k a _ (.inl rfl) e
  | met f y =>
    have e : h.get? a = some (PySem.W.methodObj (.ref f) (.ref y)) := x
    show h'.get? a = some (PySem.W.methodObj (.ref f) (.ref y))
    exact k a _ (.inl rfl) e
  | ext φ => obtain ⟨p, ⟨o, e⟩, st⟩ := x; exact ⟨st _ _ p fun o q => k _ _ (.inl rfl) q, ⟨o, k _ _ (.inl rfl) e⟩, st⟩
theorem HOk.lt (x : HOk P w H h) (e : H a = some o) : a < h.objs.size := (x a o e).lt
theorem HOk.fresh (x : HOk P w H h) (e : h.objs.size ≤ a) : H a = none := by
  cases q : H a with
  | none => rfl
  | some u => exact absurd (Nat.lt_of_lt_of_le (x.lt q) e) (Nat.lt_irrefl _)
theorem HOk.kept (x : HOk P w H h) (k : ∀ b u, h.get? b = some u → h'.get? b = some u) : HOk P w H h' := fun a o e =>
  (x a o e).stay (fun b u _ q => k b u q) (fun _ q => q) fun _ _ q => q
theorem HOk.laid (x : HOk P w H h) (k : ∀ b u, h.get? b = some u → h'.get? b = some u) (hp : h.objs.size ≤ a) (new : ObjOk P w (upd H a o) h' a o) : HOk P w (upd H a o) h' := fun b u e => by
  have hn := x.fresh hp
  by_cases hb : b = a
  · subst hb; rw [upd_same] at e; cases e; exact new
  · rw [upd_ne hb] at e
    exact (x b u e).stay (fun c v _ q => k c v q) (fun c q => by rw [upd_ne (ne_of_none q hn)]; exact q) fun c xs q => by rw [upd_ne (ne_of_none q hn)]; exact q
end
def Rd (H : Hp) (a : Addr) (u : HO) : Prop := H a = some u ∨ ∃ o, H a = some (.frz o u)
theorem Rd.of {H : Hp} {a : Addr} {u : HO} (h : H a = some u) : Rd H a u := .inl h
theorem Rd.ok {P : Program} {w : World} {H : Hp} {h : Heap} {a : Addr} {u : HO} (r : Rd H a u) (x : HOk P w H h) : ObjOk P w H h a u := by
  rcases r with r | ⟨o, r⟩
  · exact x a u r
  · obtain ⟨_, q⟩ := x a _ r
    exact q
def Mut : Option HO → Prop
  | some (.lst _) => True
  | some (.dK _) => True
  | some (.dT _) => True
  | some (.set _ _) => True
  | some (.ins _ _ _) => True
  | some (.ext _) => True
  | _ => False
section
variable {P : Program} {w : World} {H : Hp} {h h' : Heap} {x e : Addr} {o' : HO}
theorem HOk.write (ok : HOk P w H h) (mu : Mut (H x)) (he : e = x ∨ H e = some (.own x)) (k : ∀ b u, b ≠ e → h.get? b = some u → h'.get? b = some u) (heo : ∃ u, h'.get? e = some u)
    (new : ObjOk P w (upd H x o') h' x o') : HOk P w (upd H x o') h' := fun b u q => by
  have nown : ∀ c y, H c = some (.own y) → c ≠ x := fun c y r z => by subst z; rw [r] at mu; exact mu
  have ntup : ∀ c xs, H c = some (.tup xs) → c ≠ x := fun c xs r z => by subst z; rw [r] at mu; exact mu
  by_cases hb : b = x
  · subst hb; rw [upd_same] at q; cases q; exact new
  · rw [upd_ne hb] at q
    by_cases hbe : b = e
    · have q' : H b = some (.own x) := by
        rcases he with z | z
        · exact absurd (hbe.trans z) hb
        · rw [hbe]; exact z
      rw [q] at q'; cases q'
      obtain ⟨v, hv⟩ := heo
      exact ⟨v, by rw [hbe]; exact hv⟩
    · refine (ok b u q).stay (fun c v hc r => k c v ?_ r) (fun c r => by rw [upd_ne (nown c b r)]; exact r) fun c xs r => by rw [upd_ne (ntup c xs r)]; exact r
      rcases hc with rfl | hc
      · exact hbe
      · rintro rfl
        rcases he with z | z
        · exact nown c b hc z
        · rw [hc] at z; cases z; exact hb rfl
end
structure Un (fs ex : List Addr) (H H' : Hp) (h h' : Heap) : Prop where
  keep : ∀ b o, h.get? b = some o → H b = none → b ∉ fs → b ∉ ex → h'.get? b = some o
  slot : ∀ b o, h.get? b = some o → H b = none → b ∈ fs → b ∉ ex → ∃ sl, h'.get? b = some { o with slots := sl }
  free : ∀ b o, h.get? b = some o → H b = none → b ∉ ex → H' b = none
  there : ∀ b o, h.get? b = some o → b ∉ ex → ∃ o', h'.get? b = some o'
  tups : ∀ b xs, H b = some (.tup xs) → H' b = some (.tup xs)
  frzs : ∀ b o u, H b = some (.frz o u) → H' b = some (.frz o u)
  tbls : ∀ b ps, H b = some (.tbl ps) → ∃ more, H' b = some (.tbl (ps ++ more))
section
variable {fs fs' ex ex' : List Addr} {H H1 H2 : Hp} {h h1 h2 h' : Heap} {a x e : Addr} {o : HO}
theorem Un.any (u : Un fs ex H H1 h h1) {b : Addr} {ob : Obj} (q : h.get? b = some ob) (n : H b = none) (hx : b ∉ ex) : ∃ sl, h1.get? b = some { ob with slots := sl } := by
  by_cases hb : b ∈ fs
  · exact u.slot b ob q n hb hx
  · exact ⟨ob.slots, u.keep b ob q n hb hx⟩
theorem Un.trans (a : Un fs ex H H1 h h1) (b : Un fs ex H1 H2 h1 h2) : Un fs ex H H2 h h2 where
  keep := fun c ob q n hc hx => b.keep c ob (a.keep c ob q n hc hx) (a.free c ob q n hx) hc hx
  slot := fun c ob q n hc hx => by
    obtain ⟨sl, e1⟩ := a.slot c ob q n hc hx
    obtain ⟨sl', e2⟩ := b.slot c _ e1 (a.free c ob q n hx) hc hx
    exact ⟨sl', e2⟩
  free := fun c ob q n hx => by
    obtain ⟨o', e1⟩ := a.there c ob q hx
    exact b.free c o' e1 (a.free c ob q n hx) hx
  there := fun c ob q hx => by
    obtain ⟨o', e1⟩ := a.there c ob q hx
    exact b.there c o' e1 hx
  tups := fun c xs q => b.tups c xs (a.tups c xs q)
  frzs := fun c ob xs q => b.frzs c ob xs (a.frzs c ob xs q)
  tbls := fun c ps q => by
    obtain ⟨m1, e1⟩ := a.tbls c ps q
    obtain ⟨m2, e2⟩ := b.tbls c _ e1
    exact ⟨m1 ++ m2, by rw [e2, Array.append_assoc]⟩
theorem Un.kept (k : ∀ b u, h.get? b = some u → h'.get? b = some u) : Un fs ex H H h h' :=
  ⟨fun b ob q _ _ _ => k b ob q, fun b ob q _ _ _ => ⟨ob.slots, k b ob q⟩, fun _ _ _ n _ => n, fun b ob q _ => ⟨ob, k b ob q⟩, fun _ _ q => q, fun _ _ _ q => q, fun _ ps q => ⟨#[], by rw [q]; simp⟩⟩
theorem Un.refl : Un fs ex H H h h := Un.kept fun _ _ q => q
theorem Un.laid (k : ∀ b u, h.get? b = some u → h'.get? b = some u) (hp : h.objs.size ≤ a) (hn : H a = none) : Un fs ex H (upd H a o) h h' where
  keep := fun b u q _ _ _ => k b u q
  slot := fun b u q _ _ _ => ⟨u.slots, k b u q⟩
  free := fun b u q n _ => by rw [upd_ne (Nat.ne_of_lt (Nat.lt_of_lt_of_le (Heap.lt_size q) hp))]; exact n
  there := fun b u q _ => ⟨u, k b u q⟩
  tups := fun b xs q => by rw [upd_ne (ne_of_none q hn)]; exact q
  frzs := fun b u xs q => by rw [upd_ne (ne_of_none q hn)]; exact q
  tbls := fun b ps q => ⟨#[], by rw [upd_ne (ne_of_none q hn), q]; simp⟩
theorem Un.write (mu : Mut (H x)) (he : e = x ∨ H e = some (.own x)) (k : ∀ b u, b ≠ e → h.get? b = some u → h'.get? b = some u) (heo : ∃ u, h'.get? e = some u) : Un fs ex H (upd H x o) h h' := by
  have hx : ∀ b, H b = none → b ≠ x := fun b n z => by subst z; rw [n] at mu; exact mu
  have hb : ∀ b, H b = none → b ≠ e := fun b n z => by
    subst z
    rcases he with r | r
    · exact hx b n r
    · rw [n] at r; cases r
  have hm : ∀ b u, H b = some u → ¬ Mut (some u) → b ≠ x := fun b u q nm z => by subst z; rw [q] at mu; exact nm mu
  refine ⟨fun b u q n _ _ => k b u (hb b n) q, fun b u q n _ _ => ⟨u.slots, k b u (hb b n) q⟩, fun b u q n _ => by rw [upd_ne (hx b n)]; exact n, fun b u q _ => ?_,
    fun b xs q => by rw [upd_ne (hm b _ q fun z => z)]; exact q, fun b u xs q => by rw [upd_ne (hm b _ q fun z => z)]; exact q, fun b ps q => ⟨#[], by rw [upd_ne (hm b _ q fun z => z), q]; simp⟩⟩
  by_cases hbe : b = e
  · subst hbe; exact heo
  · exact ⟨u, k b u hbe q⟩
theorem Un.mono (u : Un fs ex H H1 h h1) (hs : ∀ b ∈ fs, b ∈ fs') (hx : ∀ b ∈ ex, b ∈ ex') : Un fs' ex' H H1 h h1 :=
  ⟨fun b ob q n hb he => u.keep b ob q n (fun z => hb (hs b z)) fun z => he (hx b z), fun _ _ q n _ he => u.any q n fun z => he (hx _ z), fun b ob q n he => u.free b ob q n fun z => he (hx b z), fun b ob q he => u.there b ob q fun z => he (hx b z), u.tups, u.frzs, u.tbls⟩
end
def trk (h : Heap) (H : Hp) : List Addr := (List.range h.objs.size).filter fun a => (H a).isSome
def hidT (h : Heap) (H : Hp) : Heap := PySem.W.hideAll h (trk h H)
theorem hidT_size (h : Heap) (H : Hp) : (hidT h H).objs.size = h.objs.size := PySem.W.hideAll_size _ _
theorem hidT_get {h : Heap} {H : Hp} {b : Addr} {o : Obj} (e : h.get? b = some o) (n : H b = none) : (hidT h H).get? b = some o :=
  PySem.W.hideAll_get _ e fun hm => by
    have q : (H b).isSome = true := (List.mem_filter.mp hm).2
    rw [n] at q; simp at q
theorem of_hidT {h : Heap} {H : Hp} {b : Addr} {o : Obj} (e : (hidT h H).get? b = some o) : h.get? b = some o ∧ H b = none := by
  have e' : h.get? b = some o := PySem.W.of_hideAll (trk h H) e
  refine ⟨e', ?_⟩
  cases q : H b with
  | none => rfl
  | some x =>
    have hm : b ∈ trk h H := List.mem_filter.mpr ⟨List.mem_range.mpr (Heap.lt_size e'), by simp [q]⟩
    have z : (hidT h H).get? b = none := PySem.W.hideAll_none (trk h H) hm
    rw [z] at e; cases e
def allNews (g h : Heap) (L : Addr) : List (Addr × Obj) := (List.range h.objs.size).filterMap fun a => if a = L ∨ (g.get? a).isSome = true then none else (h.get? a).map fun o => (a, o)
def rest (g h : Heap) (L d : Addr) : List (Addr × Obj) := (allNews g h L).filter fun p => decide (p.1 ≠ d)
end L2
namespace L2
open PySem PySem.Spec PyProof.Rows
structure Mod (K : PySem.W.Frag) (mg : Str → Option Value) (base : Heap) : Prop where
  kin : K.In base
  glob : base.Ns mainGlobals mg
  blt : ∃ mb, base.Ns builtinsNs mb ∧ ∀ x : Str, x ≠ "__name__" → mb x = bootBuiltins x
  nolimit : base.NoLimit
structure Cx where
  prog : Program
  w : World
  K : PySem.W.Frag
  mg : Str → Option Value
  base : Heap
  A : Around
  N : List Str
  s₀ : Shared
  H₀ : Hp
  env : Env
  outer : List Env
  stack : List Env
  ex : List Addr
  fn : Str → Bool
  calm : Bool
  pn : List (Addr × Obj)
  xe : Value → Shared → Prop
def frs (l : List Env) : List Addr := l.filterMap (·.frame)
abbrev Cx.fs (X : Cx) : List Addr := frs X.outer
def Vis (sc : Scope) (x : Str) : Prop := sc.names.lookup x = some .local ∨ sc.names.lookup x = some .cell ∨ sc.names.lookup x = some .free
def Loc (sc : Scope) (x : Str) : Prop := sc.names.lookup x = some .local ∨ sc.names.lookup x = some .cell
def Look (env : Env) (h : Heap) (m : Str → Option Value) (x : Str) (u : Value) : Prop :=
  (env.kindOf x = some .local ∧ m x = some u) ∨ ((env.kindOf x = some .cell ∨ env.kindOf x = some .free) ∧ ∃ c, env.cells.lookup x = some c ∧ h.IsCell c (some u))
structure Cx.Ok (X : Cx) : Prop where
  mod : Mod X.K X.mg X.base
  kind : X.env.scope.kind = .function
  glob : X.env.globals = mainGlobals
  blt : X.env.builtins = builtinsNs
  above : X.s₀.heap.objs.size ≤ X.env.locals
  inj : ∀ x y c, X.env.cells.lookup x = some c → X.env.cells.lookup y = some c → x = y
  has : ∀ x, (X.env.kindOf x = some .cell ∨ X.env.kindOf x = some .free) → ∃ c, X.env.cells.lookup x = some c
  cab : ∀ x c, X.fn x = true → X.env.cells.lookup x = some c → X.s₀.heap.objs.size ≤ c
  hd : X.calm = true → X.A.handled = none
  frames : X.A.frames = some X.stack
  stk : X.stack = X.outer ∨ (X.stack = X.env :: X.outer ∧ X.env.frame = some X.env.locals)
  exf : ∀ b ∈ X.ex, b ≠ X.env.locals ∧ ∀ x c, X.env.cells.lookup x = some c → c ≠ b
  bs : ∀ b o, X.base.get? b = some o → X.s₀.heap.get? b = some o ∧ X.H₀ b = none
  bsz : X.base.objs.size ≤ X.s₀.heap.objs.size
  noex : ∀ b o, X.base.get? b = some o → b ∉ X.ex
  exfs : ∀ b ∈ X.ex, b ∉ X.fs
  funs : X.s₀.heap.FunFrames X.base X.outer
  frf : ∀ b ∈ X.fs, X.H₀ b = none
structure Inv (X : Cx) (pins : List (Addr × Obj)) (σ : List (Option V)) (H : Hp) (s : Shared) : Prop where
  ok : X.Ok
  os : s.os = X.s₀.os
  bare : AllBare s.gens
  base : Un X.fs X.ex X.H₀ H X.s₀.heap s.heap
  loc : ∃ m, s.heap.Ns X.env.locals m ∧ ∀ (i : Nat) (x : Str) (v : V), X.N[i]? = some x → σ[i]? = some (some v) → Vis X.env.scope x → ∃ u, RelV v u ∧ Look X.env s.heap m x u
  cell : ∀ x c, X.env.cells.lookup x = some c → ∃ v, s.heap.IsCell c v
  free : H X.env.locals = none
  freeC : ∀ x c, X.env.cells.lookup x = some c → H c = none
  pin : ∀ p ∈ X.pn ++ pins, s.heap.get? p.1 = some p.2 ∧ H p.1 = none ∧ p.1 ≠ X.env.locals ∧ p.1 ∉ X.fs ∧ ∀ v, p.2.data ≠ .cell v
  hok : HOk X.prog X.w H s.heap
  len : σ.length = X.N.length
section
variable {X : Cx} {pins : List (Addr × Obj)} {σ : List (Option V)} {H H' : Hp} {s : Shared} {h' : Heap}
theorem Cx.Ok.nofr (ok : X.Ok) {b : Addr} {o : Obj} (e : X.base.get? b = some o) : b ∉ X.fs := fun hb => by
  have := (ok.funs.mem hb).1
  rw [e] at this; cases this
theorem Inv.bs (I : Inv X pins σ H s) : ∀ b o, X.base.get? b = some o → s.heap.get? b = some o ∧ H b = none := fun b o e =>
  ⟨I.base.keep b o (I.ok.bs b o e).1 (I.ok.bs b o e).2 (I.ok.nofr e) (I.ok.noex b o e), I.base.free b o (I.ok.bs b o e).1 (I.ok.bs b o e).2 (I.ok.noex b o e)⟩
theorem Inv.bk (I : Inv X pins σ H s) : ∀ b o, X.base.get? b = some o → s.heap.get? b = some o := fun b o e => (I.bs b o e).1
theorem Inv.mod (I : Inv X pins σ H s) : Mod X.K X.mg X.base := I.ok.mod
theorem Inv.kIn (I : Inv X pins σ H s) : X.K.In s.heap := I.ok.mod.kin.keeps I.bk
theorem Inv.nolimit (I : Inv X pins σ H s) : s.heap.NoLimit := I.ok.mod.nolimit.keeps I.bk
theorem Inv.fr (I : Inv X pins σ H s) : ∃ m, Fr X.base X.env.locals s.heap m :=
  let ⟨m, hn, _⟩ := I.loc
  ⟨m, hn, I.bk, Nat.le_trans I.ok.bsz I.ok.above⟩
theorem Inv.lt (I : Inv X pins σ H s) : X.env.locals < s.heap.objs.size := let ⟨_, hn, _⟩ := I.loc; hn.lt
theorem Inv.sz (I : Inv X pins σ H s) : X.s₀.heap.objs.size ≤ s.heap.objs.size := Nat.le_trans I.ok.above (Nat.le_of_lt I.lt)
theorem Inv.nofs (I : Inv X pins σ H s) {a : Addr} (h : s.heap.objs.size ≤ a) : a ∉ X.fs := fun hb => by
  obtain ⟨_, o, ho, _⟩ := I.ok.funs.mem hb
  exact absurd (Nat.lt_of_lt_of_le (Heap.lt_size ho) (Nat.le_trans I.sz h)) (Nat.lt_irrefl _)
theorem Inv.cne (I : Inv X pins σ H s) : ∀ x c, X.env.cells.lookup x = some c → c ≠ X.env.locals := fun x c e z => by
  obtain ⟨v, o, ho, hd⟩ := I.cell x c e
  obtain ⟨m, ⟨o', es, ep, ho', hd', _⟩, _⟩ := I.loc
  rw [z, ho'] at ho; cases ho; rw [hd'] at hd; cases hd
theorem Inv.funs (I : Inv X pins σ H s) : s.heap.FunFrames X.base X.outer := by
  have all : ∀ (l : List Env), (∀ b ∈ frs l, b ∈ X.fs) → X.s₀.heap.FunFrames X.base l → s.heap.FunFrames X.base l := by
    intro l
    induction l with
    | nil => intro _ _; trivial
    | cons env r ih =>
      intro hs hl
      obtain ⟨hk, ⟨L, o, hf, hn, ho, hd⟩, hr⟩ := hl
      have hL : L ∈ X.fs := hs L (by unfold frs; rw [List.filterMap_cons, hf]; exact List.mem_cons_self)
      obtain ⟨sl, e⟩ := I.base.slot L o ho (I.ok.frf L hL) hL fun z => I.ok.exfs L z hL
      exact ⟨hk, ⟨L, _, hf, hn, e, hd⟩, ih (fun b hb => hs b (by unfold frs; rw [List.filterMap_cons, hf]; exact List.mem_cons_of_mem _ hb)) hr⟩
  exact all X.outer (fun _ hb => hb) I.ok.funs
theorem Inv.stack (I : Inv X pins σ H s) : s.heap.FunFrames X.base X.stack := by
  rcases I.ok.stk with e | ⟨e, hf⟩
  · rw [e]; exact I.funs
  · rw [e]
    obtain ⟨m, hn, _⟩ := I.loc
    refine .cons (by rw [I.ok.kind]; decide) hf hn ?_ I.funs
    exact Heap.get?_none_of_le (Nat.le_trans I.ok.bsz I.ok.above)
theorem Inv.stkSub (I : Inv X pins σ H s) : ∀ b ∈ frs X.stack, b ∈ X.env.locals :: X.fs := fun b hb => by
  rcases I.ok.stk with e | ⟨e, hf⟩
  · rw [e] at hb; exact List.mem_cons_of_mem _ hb
  · rw [e] at hb
    unfold frs at hb
    rw [List.filterMap_cons, hf] at hb
    exact hb
theorem Inv.stkFree (I : Inv X pins σ H s) : ∀ b ∈ frs X.stack, H b = none := fun b hb => by
  rcases List.mem_cons.mp (I.stkSub b hb) with e | hb
  · rw [e]; exact I.free
  · obtain ⟨_, o, ho, _⟩ := I.ok.funs.mem hb
    exact I.base.free b o ho (I.ok.frf b hb) fun z => I.ok.exfs b z hb
theorem Inv.step {g' : Array GenState} {t' : Nat} {d' : Drawn} {ch : List Addr} (I : Inv X pins σ H s)
    (hch : ∀ b ∈ ch, (b ∈ X.ex ∨ X.s₀.heap.objs.size ≤ b) ∧ b ≠ X.env.locals ∧ (∀ x c, X.env.cells.lookup x = some c → c ≠ b) ∧ ∀ p ∈ X.pn ++ pins, p.1 ≠ b)
    (keep : ∀ b o, b ≠ X.env.locals → b ∉ X.fs → b ∉ ch → s.heap.get? b = some o → H b = none → h'.get? b = some o)
    (slot : ∀ b o, b ≠ X.env.locals → b ∈ X.fs → b ∉ ch → s.heap.get? b = some o → H b = none → ∃ sl, h'.get? b = some { o with slots := sl }) (free : ∀ b o, b ∉ ch → s.heap.get? b = some o → H b = none → H' b = none)
    (there : ∀ b o, b ∉ ch → s.heap.get? b = some o → ∃ o', h'.get? b = some o')
    (tups : ∀ b xs, H b = some (.tup xs) → H' b = some (.tup xs)) (frzs : ∀ b o u, H b = some (.frz o u) → H' b = some (.frz o u)) (tbls : ∀ b ps, H b = some (.tbl ps) → ∃ more, H' b = some (.tbl (ps ++ more)))
    (ns : ∀ m, s.heap.Ns X.env.locals m → h'.Ns X.env.locals m) (hok : HOk X.prog X.w H' h') (hg : AllBare g') :
    Inv X pins σ H' { s with heap := h', gens := g', drawn := d', toks := t' } := by
  have neL : ∀ b o, X.s₀.heap.get? b = some o → b ≠ X.env.locals := fun b o e => Nat.ne_of_lt (Nat.lt_of_lt_of_le (Heap.lt_size e) I.ok.above)
  have neC : ∀ b o, X.s₀.heap.get? b = some o → b ∉ X.ex → b ∉ ch := fun b o e hx hb => by
    rcases (hch b hb).1 with z | z
    · exact hx z
    · exact absurd (Nat.lt_of_lt_of_le (Heap.lt_size e) z) (Nat.lt_irrefl _)
  have cellK : ∀ x c, X.env.cells.lookup x = some c → ∀ v, s.heap.IsCell c v → h'.IsCell c v := fun x c e v ⟨o, ho, hd⟩ => by
    have nch : c ∉ ch := fun z => (hch c z).2.2.1 x c e rfl
    by_cases hc : c ∈ X.fs
    · obtain ⟨sl, q⟩ := slot c o (I.cne x c e) hc nch ho (I.freeC x c e)
      exact ⟨_, q, hd⟩
    · exact ⟨o, keep c o (I.cne x c e) hc nch ho (I.freeC x c e), hd⟩
  refine ⟨I.ok, I.os, hg, ⟨fun b o e n hb hx => ?_, fun b o e n hb hx => ?_, fun b o e n hx => ?_, fun b o e hx => ?_, fun b xs e => tups b xs (I.base.tups b xs e), fun b o xs e => frzs b o xs (I.base.frzs b o xs e), fun b ps e => ?_⟩, ?_, fun x c e => ?_, ?_, fun x c e => ?_, fun p hp => ?_, hok, I.len⟩
  · exact keep b o (neL b o e) hb (neC b o e hx) (I.base.keep b o e n hb hx) (I.base.free b o e n hx)
  · obtain ⟨sl, e1⟩ := I.base.slot b o e n hb hx
    obtain ⟨sl', e2⟩ := slot b _ (neL b o e) hb (neC b o e hx) e1 (I.base.free b o e n hx)
    exact ⟨sl', e2⟩
  · obtain ⟨o', e1⟩ := I.base.there b o e hx
    exact free b o' (neC b o e hx) e1 (I.base.free b o e n hx)
  · obtain ⟨o', e1⟩ := I.base.there b o e hx
    exact there b o' (neC b o e hx) e1
  · obtain ⟨m1, e1⟩ := I.base.tbls b ps e
    obtain ⟨m2, e2⟩ := tbls b _ e1
    exact ⟨m1 ++ m2, by rw [e2, Array.append_assoc]⟩
  · obtain ⟨m, hn, hl⟩ := I.loc
    refine ⟨m, ns m hn, fun i x v e1 e2 e3 => ?_⟩
    obtain ⟨u, r, l⟩ := hl i x v e1 e2 e3
    refine ⟨u, r, ?_⟩
    rcases l with l | ⟨k, c, e, z⟩
    · exact .inl l
    · exact .inr ⟨k, c, e, cellK x c e _ z⟩
  · obtain ⟨v, z⟩ := I.cell x c e
    exact ⟨v, cellK x c e v z⟩
  · obtain ⟨m, ⟨o, _, _, ho, _⟩, _⟩ := I.loc
    exact free _ o (fun z => (hch _ z).2.1 rfl) ho I.free
  · obtain ⟨v, o, ho, hd⟩ := I.cell x c e
    exact free c o (fun z => (hch c z).2.2.1 x c e rfl) ho (I.freeC x c e)
  · obtain ⟨e, n, ne, nf, d⟩ := I.pin p hp
    have nch : p.1 ∉ ch := fun z => (hch p.1 z).2.2.2 p hp rfl
    exact ⟨keep p.1 p.2 ne nf nch e n, free p.1 p.2 nch e n, ne, nf, d⟩
theorem Inv.un {t' : Nat} (I : Inv X pins σ H s) (u : Un X.fs [] H H' s.heap h') (hok : HOk X.prog X.w H' h') : Inv X pins σ H' { s with heap := h', toks := t' } := by
  obtain ⟨m, ⟨o, es, ep, ho, r⟩, _⟩ := id I.loc
  obtain ⟨sl, hL⟩ := u.any ho I.free (by simp)
  exact I.step (g' := s.gens) (d' := s.drawn) (ch := []) (fun _ z => nomatch z) (fun b o _ hb _ e n => u.keep b o e n hb (by simp)) (fun b o _ hb _ e n => u.slot b o e n hb (by simp)) (fun b o _ e n => u.free b o e n (by simp)) (fun b o _ e => u.there b o e (by simp)) u.tups u.frzs u.tbls (fun m' hm => by
    obtain ⟨o', es', ep', ho', r'⟩ := hm
    rw [ho] at ho'; cases ho'
    exact ⟨_, es', ep', hL, r'⟩) hok I.bare
theorem Inv.call {g' : Array GenState} {t' : Nat} {d' : Drawn} {ch : List Addr} (I : Inv X pins σ H s) (u : Un (frs X.stack) ch H H' s.heap h') (hok : HOk X.prog X.w H' h') (hg : AllBare g')
    (hch : ∀ b ∈ ch, (b ∈ X.ex ∨ X.s₀.heap.objs.size ≤ b) ∧ b ≠ X.env.locals ∧ (∀ x c, X.env.cells.lookup x = some c → c ≠ b) ∧ ∀ p ∈ X.pn ++ pins, p.1 ≠ b) :
    Inv X pins σ H' { s with heap := h', gens := g', drawn := d', toks := t' } := by
  obtain ⟨m, ⟨o, es, ep, ho, r⟩, _⟩ := id I.loc
  obtain ⟨sl, hL⟩ := u.any ho I.free fun z => (hch _ z).2.1 rfl
  exact I.step (ch := ch) hch (fun b o hL hb hc e n => u.keep b o e n (fun z => (List.mem_cons.mp (I.stkSub b z)).elim hL hb) hc) (fun b o _ _ hc e n => u.any e n hc) (fun b o hc e n => u.free b o e n hc) (fun b o hc e => u.there b o e hc) u.tups u.frzs u.tbls (fun m' hm => by
    obtain ⟨o', es', ep', ho', r'⟩ := hm
    rw [ho] at ho'; cases ho'
    exact ⟨_, es', ep', hL, r'⟩) hok hg
theorem Inv.turned {t' : Nat} {it : Addr} (I : Inv X pins σ H s) (k : ∀ b o, b ≠ it → s.heap.get? b = some o → h'.get? b = some o) (hn : H it = none) (hL : it ≠ X.env.locals)
    (h1 : it ∈ X.ex ∨ X.s₀.heap.objs.size ≤ it) (h2 : ∀ x c, X.env.cells.lookup x = some c → c ≠ it) (h3 : ∀ p ∈ X.pn ++ pins, p.1 ≠ it) : Inv X pins σ H { s with heap := h', toks := t' } := by
  have nit : ∀ b u, H b = some u → b ≠ it := fun b u e z => by rw [z, hn] at e; cases e
  refine I.step (g' := s.gens) (d' := s.drawn) (ch := [it]) (fun b hb => ?_) (fun b o _ _ hc e _ => k b o (fun z => hc (by simp [z])) e) (fun b o _ _ hc e _ => ⟨o.slots, k b o (fun z => hc (by simp [z])) e⟩) (fun _ _ _ _ n => n)
    (fun b o hc e => ⟨o, k b o (fun z => hc (by simp [z])) e⟩) (fun _ _ e => e) (fun _ _ _ e => e) (fun b ps e => ⟨#[], by rw [e]; simp⟩) (fun m hm => ?_) (fun b u e => ?_) I.bare
  · have e : b = it := by simpa using hb
    subst e
    exact ⟨h1, hL, h2, h3⟩
  · obtain ⟨o, es, ep, ho, r⟩ := hm
    exact ⟨o, es, ep, k _ o (Ne.symm hL) ho, r⟩
  · refine (I.hok b u e).stay (fun c v hc q => k c v ?_ q) (fun _ q => q) fun _ _ q => q
    rcases hc with z | z
    · rw [z]; exact nit b u e
    · exact nit c _ z
theorem Inv.tok (I : Inv X pins σ H s) (t : Nat) : Inv X pins σ H { s with toks := t } := I.un (h' := s.heap) (t' := t) Un.refl I.hok
theorem Inv.kept {t' : Nat} (I : Inv X pins σ H s) (k : ∀ b u, s.heap.get? b = some u → h'.get? b = some u) : Inv X pins σ H { s with heap := h', toks := t' } := I.un (Un.kept k) (I.hok.kept k)
theorem Inv.laid {a : Addr} {o : HO} {t' : Nat} (I : Inv X pins σ H s) (k : ∀ b u, s.heap.get? b = some u → h'.get? b = some u) (hp : s.heap.objs.size ≤ a) (new : ObjOk X.prog X.w (upd H a o) h' a o) :
    Inv X pins σ (upd H a o) { s with heap := h', toks := t' } := I.un (Un.laid k hp (I.hok.fresh hp)) (I.hok.laid k hp new)
theorem Inv.write {x e : Addr} {o : HO} {t' : Nat} (I : Inv X pins σ H s) (mu : Mut (H x)) (he : e = x ∨ H e = some (.own x)) (k : ∀ b u, b ≠ e → s.heap.get? b = some u → h'.get? b = some u) (heo : ∃ u, h'.get? e = some u)
    (new : ObjOk X.prog X.w (upd H x o) h' x o) : Inv X pins σ (upd H x o) { s with heap := h', toks := t' } := I.un (Un.write mu he k heo) (I.hok.write mu he k heo new)
theorem Inv.pins_of {pins' : List (Addr × Obj)} (I : Inv X pins σ H s) (h : ∀ p ∈ pins', s.heap.get? p.1 = some p.2 ∧ H p.1 = none ∧ p.1 ≠ X.env.locals ∧ p.1 ∉ X.fs ∧ ∀ v, p.2.data ≠ .cell v) : Inv X pins' σ H s :=
  ⟨I.ok, I.os, I.bare, I.base, I.loc, I.cell, I.free, I.freeC, fun p hp => (List.mem_append.mp hp).elim (fun z => I.pin p (List.mem_append_left _ z)) (h p), I.hok, I.len⟩
theorem nodup_ix {N : List Str} (hN : N.Nodup) {i j : Nat} {x : Str} (a : N[i]? = some x) (b : N[j]? = some x) : i = j := by
  obtain ⟨h1, e1⟩ := List.getElem?_eq_some_iff.mp a
  obtain ⟨h2, e2⟩ := List.getElem?_eq_some_iff.mp b
  exact (List.getElem_inj hN).mp (e1.trans e2.symm)
theorem store_ok2 {M : Model} {A : Around} {E : Value → Shared → Prop} {i : Nat} {x : Str} {v : V} {u : Value} {Q : Unit → Shared → Prop} (I : Inv X pins σ H s) (hN : X.N.Nodup) (hi : X.N[i]? = some x) (hx : Loc X.env.scope x) (r : RelV v u)
    (h : ∀ s', Inv X pins (σ.set i (some v)) H s' → (∃ a, Heap.SameBut a s.heap s'.heap ∧ (a = X.env.locals ∨ X.env.cells.lookup x = some a)) → Q () s') (hf : X.fn x = true ∨ X.env.scope.names.lookup x = some .local := by first | exact .inl rfl | exact .inr rfl | assumption) : wpAny M A (storeName X.env x u) Q E s := by
  obtain ⟨m, hn, hl⟩ := id I.loc
  have hcls : (X.env.scope.kind == .class || (X.env.scope.kind == .module && X.env.locals != X.env.globals)) = false := by rw [I.ok.kind]; rfl
  have hiσ : i < σ.length := by rw [I.len]; exact (List.getElem?_eq_some_iff.mp hi).1
  have cne := I.cne
  have tracked : ∀ {a : Addr} {h' : Heap}, (∃ o, s.heap.get? a = some o ∧ H a = none) → Heap.SameBut a s.heap h' → HOk X.prog X.w H h' := fun {a h'} ha hs b ob e => by
    obtain ⟨_, _, hfree⟩ := ha
    refine (I.hok b ob e).stay (fun c w' hc q => (hs.2 c ?_).trans q) (fun _ q => q) fun _ _ q => q
    rintro rfl
    rcases hc with rfl | hc
    · rw [hfree] at e; cases e
    · rw [hfree] at hc; cases hc
  rcases hx with hk | hk
  · refine wpAny_storeName_local hk hn (fun h' hn' hs => ?_) hcls
    obtain ⟨oL, _, _, hoL, _⟩ := id hn
    refine h _ ⟨I.ok, I.os, I.bare, ⟨fun b o e n hb hx => ?_, fun b o e n hb hx => ?_, I.base.free, fun b o e hx => ?_, I.base.tups, I.base.frzs, I.base.tbls⟩, ⟨_, hn', fun j y v' e1 e2 e3 => ?_⟩, fun y c e => ?_, I.free, I.freeC, fun p hp => ?_, tracked ⟨oL, hoL, I.free⟩ hs, by simpa using I.len⟩ ⟨_, hs, .inl rfl⟩
    · exact (hs.2 b (Nat.ne_of_lt (Nat.lt_of_lt_of_le (Heap.lt_size e) I.ok.above))).trans (I.base.keep b o e n hb hx)
    · obtain ⟨sl, e1⟩ := I.base.slot b o e n hb hx
      exact ⟨sl, (hs.2 b (Nat.ne_of_lt (Nat.lt_of_lt_of_le (Heap.lt_size e) I.ok.above))).trans e1⟩
    · obtain ⟨o', e1⟩ := I.base.there b o e hx
      exact ⟨o', (hs.2 b (Nat.ne_of_lt (Nat.lt_of_lt_of_le (Heap.lt_size e) I.ok.above))).trans e1⟩
    · by_cases hj : j = i
      · subst hj
        rw [hi] at e1; cases e1
        rw [List.getElem?_set_self hiσ] at e2
        cases e2
        exact ⟨u, r, .inl ⟨hk, by simp⟩⟩
      · rw [List.getElem?_set_ne (Ne.symm hj)] at e2
        obtain ⟨u', r', q⟩ := hl j y v' e1 e2 e3
        refine ⟨u', r', ?_⟩
        rcases q with ⟨k, e⟩ | ⟨k, c, e, z⟩
        · refine .inl ⟨k, ?_⟩
          have : y ≠ x := fun e => hj (nodup_ix hN e1 (e ▸ hi))
          simp [this, e]
        · exact .inr ⟨k, c, e, z.sameBut hs (cne y c e)⟩
    · obtain ⟨w', z⟩ := I.cell y c e
      exact ⟨w', z.sameBut hs (cne y c e)⟩
    · obtain ⟨e, n, ne, nf, d⟩ := I.pin p hp
      exact ⟨(hs.2 p.1 ne).trans e, n, ne, nf, d⟩
  · have hfn : X.fn x = true := by
      rcases hf with z | z
      · exact z
      · rw [z] at hk; cases hk
    obtain ⟨c, hc⟩ := I.ok.has x (.inl hk)
    obtain ⟨w', z⟩ := I.cell x c hc
    refine wpAny_storeName_cell I.ok.kind hk hc z (fun h' hc' hs => ?_)
    obtain ⟨oc, hoc, hocd⟩ := id z
    refine h { s with heap := h' } ⟨I.ok, I.os, I.bare, ⟨fun b o e n hb hx => ?_, fun b o e n hb hx => ?_, I.base.free, fun b o e hx => ?_, I.base.tups, I.base.frzs, I.base.tbls⟩, ⟨m, hn.sameBut hs (Ne.symm (cne x c hc)), fun j y v' e1 e2 e3 => ?_⟩, fun y c' e => ?_, I.free, I.freeC, fun p hp => ?_, tracked ⟨oc, hoc, I.freeC x c hc⟩ hs, by simpa using I.len⟩ ⟨c, hs, .inr hc⟩
    · exact (hs.2 b (Nat.ne_of_lt (Nat.lt_of_lt_of_le (Heap.lt_size e) (I.ok.cab x c hfn hc)))).trans (I.base.keep b o e n hb hx)
    · obtain ⟨sl, e1⟩ := I.base.slot b o e n hb hx
      exact ⟨sl, (hs.2 b (Nat.ne_of_lt (Nat.lt_of_lt_of_le (Heap.lt_size e) (I.ok.cab x c hfn hc)))).trans e1⟩
    · obtain ⟨o', e1⟩ := I.base.there b o e hx
      exact ⟨o', (hs.2 b (Nat.ne_of_lt (Nat.lt_of_lt_of_le (Heap.lt_size e) (I.ok.cab x c hfn hc)))).trans e1⟩
    · by_cases hj : j = i
      · subst hj
        rw [hi] at e1; cases e1
        rw [List.getElem?_set_self hiσ] at e2
        cases e2
        exact ⟨u, r, .inr ⟨.inl hk, c, hc, hc'⟩⟩
      · rw [List.getElem?_set_ne (Ne.symm hj)] at e2
        obtain ⟨u', r', q⟩ := hl j y v' e1 e2 e3
        refine ⟨u', r', ?_⟩
        rcases q with q | ⟨k, c', e, z'⟩
        · exact .inl q
        · refine .inr ⟨k, c', e, z'.sameBut hs ?_⟩
          rintro rfl
          exact hj (nodup_ix hN e1 (I.ok.inj _ _ _ e hc ▸ hi))
    · by_cases hcc : c' = c
      · subst hcc; exact ⟨_, hc'⟩
      · obtain ⟨w2, z2⟩ := I.cell y c' e
        exact ⟨w2, z2.sameBut hs hcc⟩
    · obtain ⟨e, n, ne, nf, d⟩ := I.pin p hp
      refine ⟨(hs.2 p.1 ?_).trans e, n, ne, nf, d⟩
      intro q
      rw [q, hoc] at e
      have q' : oc = p.2 := Option.some.inj e
      exact d w' (by rw [← q']; exact hocd)
theorem store_ok {M : Model} {A : Around} {E : Value → Shared → Prop} {i : Nat} {x : Str} {v : V} {u : Value} {Q : Unit → Shared → Prop} (I : Inv X pins σ H s) (hN : X.N.Nodup) (hi : X.N[i]? = some x) (hx : Loc X.env.scope x) (r : RelV v u)
    (h : ∀ s', Inv X pins (σ.set i (some v)) H s' → Q () s') (hf : X.fn x = true ∨ X.env.scope.names.lookup x = some .local := by first | exact .inl rfl | exact .inr rfl | assumption) : wpAny M A (storeName X.env x u) Q E s :=
  store_ok2 I hN hi hx r (fun s' I' _ => h s' I') hf
theorem Inv.call' {s' : Shared} {ch : List Addr} (I : Inv X pins σ H s) (ho : s'.os = s.os) (u : Un (frs X.stack) ch H H' s.heap s'.heap) (hok : HOk X.prog X.w H' s'.heap) (hg : AllBare s'.gens)
    (hch : ∀ b ∈ ch, (b ∈ X.ex ∨ X.s₀.heap.objs.size ≤ b) ∧ b ≠ X.env.locals ∧ (∀ x c, X.env.cells.lookup x = some c → c ≠ b) ∧ ∀ p ∈ X.pn ++ pins, p.1 ≠ b) : Inv X pins σ H' s' := by
  obtain ⟨h', g', d', t', o'⟩ := s'
  have e : o' = s.os := ho
  subst e
  exact I.call (g' := g') (t' := t') (d' := d') u hok hg hch
end
abbrev XK := Value → Option Addr → Hp → Prop
abbrev St := List (Option V)
abbrev VK := V → Hp → Prop
abbrev TE := St → Hp → VK → Prop
abbrev TT := St → Hp → (Bool → Hp → Prop) → Prop
abbrev TA := St → Hp → (List V → Hp → Prop) → Prop
structure Ends where
  nx : St → Hp → Prop
  rt : VK
  bk : St → Hp → Prop := fun _ _ => False
  ct : St → Hp → Prop := fun _ _ => False
abbrev TS := Ends → St → Hp → Prop
def EP (X : Cx) (pins : List (Addr × Obj)) (σ : St) (Q : VK) (u : Value) (s' : Shared) : Prop := ∃ v H', Inv X pins σ H' s' ∧ RelV v u ∧ Q v H'
def TP (X : Cx) (pins : List (Addr × Obj)) (σ : St) (Q : Bool → Hp → Prop) (b : Bool) (s' : Shared) : Prop := ∃ H', Inv X pins σ H' s' ∧ Q b H'
def AP (X : Cx) (pins : List (Addr × Obj)) (σ : St) (Q : List V → Hp → Prop) (us : List Value) (s' : Shared) : Prop := ∃ vs H', Inv X pins σ H' s' ∧ Vals vs us ∧ Q vs H'
def SP (X : Cx) (pins : List (Addr × Obj)) (D : Ends) (f : Flow) (s' : Shared) : Prop :=
  match f with
  | .next => ∃ σ' H', Inv X pins σ' H' s' ∧ D.nx σ' H'
  | .brk => ∃ σ' H', Inv X pins σ' H' s' ∧ D.bk σ' H'
  | .cont => ∃ σ' H', Inv X pins σ' H' s' ∧ D.ct σ' H'
  | .ret u => ∃ v σ' H', Inv X pins σ' H' s' ∧ RelV v u ∧ D.rt v H'
def PE (X : Cx) (e : Expr) (t : TE) : Prop :=
  ∀ (pins : List (Addr × Obj)) (s : Shared) (σ : St) (H : Hp) (Q : VK), Inv X pins σ H s → t σ H Q → wpAny (model X.prog X.w) X.A (eval e X.env) (EP X pins σ Q) X.xe s
def PT (X : Cx) (e : Expr) (t : TT) : Prop :=
  ∀ (pins : List (Addr × Obj)) (s : Shared) (σ : St) (H : Hp) (Q : Bool → Hp → Prop), Inv X pins σ H s → t σ H Q → wpAny (model X.prog X.w) X.A (isTrue e X.env (eval e X.env)) (TP X pins σ Q) X.xe s
def PW (X : Cx) (e : Expr) (t : TT) : Prop :=
  ∀ (whole : Sem Value) (pins : List (Addr × Obj)) (s : Shared) (σ : St) (H : Hp) (Q : Bool → Hp → Prop), Inv X pins σ H s → t σ H Q → wpAny (model X.prog X.w) X.A (isTrue e X.env whole) (TP X pins σ Q) X.xe s
theorem PW.pt {X : Cx} {e : Expr} {t : TT} (h : PW X e t) : PT X e t := h _
def PA (X : Cx) (es : List Expr) (t : TA) : Prop :=
  ∀ (pos : Pos) (pins : List (Addr × Obj)) (s : Shared) (σ : St) (H : Hp) (Q : List V → Hp → Prop), Inv X pins σ H s → t σ H Q → wpAny (model X.prog X.w) X.A (spliced (backTo pos (starEach es X.env))) (AP X pins σ Q) X.xe s
def PS (X : Cx) (st : Stmt) (t : TS) : Prop :=
  ∀ (pins : List (Addr × Obj)) (s : Shared) (σ : St) (H : Hp) (D : Ends), Inv X pins σ H s → t D σ H → wpAny (model X.prog X.w) X.A (exec st X.env) (SP X pins D) X.xe s
def PSs (X : Cx) (st : List Stmt) (t : TS) : Prop :=
  ∀ (pins : List (Addr × Obj)) (s : Shared) (σ : St) (H : Hp) (D : Ends), Inv X pins σ H s → t D σ H → wpAny (model X.prog X.w) X.A (execs st X.env) (SP X pins D) X.xe s
theorem thn {α : Type} {t : Sem α} {Q Q' : α → Shared → Prop} {M : Model} {A : Around} {E : Value → Shared → Prop} {s : Shared} (h : wpAny M A t Q E s) (hQ : ∀ a s, Q a s → Q' a s) : wpAny M A t Q' E s := wpAny_mono h hQ fun _ _ x => x
end L2
namespace L2
open PySem PySem.Spec PyProof.Rows
section
variable {X : Cx}
def tVar (i : Nat) : TE := fun σ H Q => ∃ v, σ[i]? = some (some v) ∧ Q v H
def tC (v : V) : TE := fun _ H Q => Q v H
theorem pe_var {i : Nat} {x : Str} {pos : Pos} (hN : X.N[i]? = some x) (hv : Vis X.env.scope x) (hd : (x == ("__debug__" : Str)) = false := by decide) (hcd : (x == ("__classdict__" : Str)) = false := by decide) : PE X (.Name x pos) (tVar i) := by
  intro pins s σ H Q I h
  obtain ⟨v, e, h⟩ := h
  obtain ⟨m, hn, hl⟩ := I.loc
  obtain ⟨u, r, l⟩ := hl i x v hN e hv
  have fin : EP X pins σ Q u s := ⟨v, H, I, r, h⟩
  rcases l with ⟨hk, hm⟩ | ⟨hk, c, hc, hcell⟩
  · exact wpAny_Name (wpAny_loadName_local I.ok.kind hk hn hm fin) hd
  · rcases hk with hk | hk
    · exact wpAny_Name (wpAny_loadName_cell I.ok.kind hk hc hcell fin) hd
    · exact wpAny_Name (wpAny_loadName_free I.ok.kind hk hc hcell fin hcd) hd
theorem pe_int {i j pos} : PE X (.Constant (.int i) j pos) (tC (.int i)) := fun _ _ _ H _ I h => wpAny_Constant_int ⟨.int i, H, I.tok _, ⟨_, rfl⟩, h⟩
theorem pe_bl {b j pos} : PE X (.Constant (.bool b) j pos) (tC (.bl b)) := fun _ _ _ H _ I h => Constant_bool ⟨.bl b, H, I, rfl, h⟩
theorem pe_str {x j pos} : PE X (.Constant (.str x) j pos) (tC (.str x)) := fun _ _ _ H _ I h => Calls.Constant_str ⟨.str x, H, I.tok _, ⟨_, rfl⟩, h⟩
def Gl (X : Cx) (x : Str) : Prop := X.env.kindOf x = some .globalImplicit
theorem ld_glob {E : Value → Shared → Prop} {pins : List (Addr × Obj)} {s : Shared} {σ : St} {H : Hp} {x : Str} {u : Value} {pos : Pos} {Q : Value → Shared → Prop} (I : Inv X pins σ H s) (hg : Gl X x) (hm : X.mg x = some u) (h : Q u s)
    (hd : (x == ("__debug__" : Str)) = false := by decide) : wpAny (model X.prog X.w) X.A (eval (.Name x pos) X.env) Q E s :=
  Calls.Name_function_global I.ok.kind hg (Calls.loadGlobal_global (by rw [I.ok.glob]; exact I.mod.glob.keeps I.bk) hm h) hd
theorem ld_blt {E : Value → Shared → Prop} {pins : List (Addr × Obj)} {s : Shared} {σ : St} {H : Hp} {x : Str} {u : Value} {pos : Pos} {Q : Value → Shared → Prop} (I : Inv X pins σ H s) (hg : Gl X x) (hm : X.mg x = none) (hv : bootBuiltins x = some u) (h : Q u s)
    (hn : x ≠ "__name__" := by decide) (hd : (x == ("__debug__" : Str)) = false := by decide) : wpAny (model X.prog X.w) X.A (eval (.Name x pos) X.env) Q E s := by
  obtain ⟨mb, h1, h2⟩ := I.mod.blt
  exact Calls.Name_function_global I.ok.kind hg (Calls.loadGlobal_builtin (by rw [I.ok.glob]; exact I.mod.glob.keeps I.bk) hm (by rw [I.ok.blt]; exact h1.keeps I.bk) ((h2 x hn).trans hv) h) hd
theorem pe_glob {x : Str} {v : V} {u : Value} {pos : Pos} (hg : Gl X x) (hm : X.mg x = some u) (r : RelV v u) (hd : (x == ("__debug__" : Str)) = false := by decide) : PE X (.Name x pos) (tC v) :=
  fun _ _ _ H _ I h => ld_glob I hg hm ⟨v, H, I, r, h⟩ hd
theorem pe_bltn {x : Str} {v : V} {u : Value} {pos : Pos} (hg : Gl X x) (hm : X.mg x = none) (hv : bootBuiltins x = some u) (r : RelV v u) (hn : x ≠ "__name__" := by decide) (hd : (x == ("__debug__" : Str)) = false := by decide) : PE X (.Name x pos) (tC v) :=
  fun _ _ _ H _ I h => ld_blt I hg hm hv ⟨v, H, I, r, h⟩ hn hd
variable {a b : Expr} {ta tb : TE} {pos : Pos}
def PC (X : Cx) (op : CmpOp) (a b : Expr) (t : TE) : Prop :=
  ∀ (pins : List (Addr × Obj)) (s : Shared) (σ : St) (H : Hp) (Q : VK), Inv X pins σ H s → t σ H Q →
    wpAny (model X.prog X.w) X.A (eval a X.env) (fun v s₁ => wpAny (model X.prog X.w) X.A (eval b X.env) (fun u s₂ => wpAny (model X.prog X.w) X.A (compareOp op v u) (EP X pins σ Q) X.xe s₂) X.xe s₁) X.xe s
def tB (t : TE) : TT := fun σ H Q => t σ H fun x H1 => ∃ c, x = .bl c ∧ Q c H1
theorem pt_val {e : Expr} {t : TE} (h : PE X e t) (he : ∀ whole, isTrue e X.env whole = (do let v ← whole; standAt e.pos; holding [v] (truthy v)) := by intro _; rfl) : PT X e (tB t) := by
  intro pins s σ H Q I hw
  refine isTrue_plain (thn (h pins s σ H _ I hw) fun v s1 ⟨x, H1, I1, r1, q1⟩ => ?_) (he _)
  obtain ⟨d, rfl, q⟩ := q1
  cases r1
  exact wpAny_truthy_bool ⟨H1, I1, q⟩
variable {tA tB' : TT} {rest : List Expr}
def tAnd (t u : TT) : TT := fun σ H Q => t σ H fun c H1 => if c = true then u σ H1 Q else Q false H1
def tOr (t u : TT) : TT := fun σ H Q => t σ H fun c H1 => if c = true then Q true H1 else u σ H1 Q
def tNot (t : TT) : TT := fun σ H Q => t σ H fun c H1 => Q (!c) H1
theorem pw_and1 (ha : PT X a tA) : PW X (.BoolOp .And [a] pos) tA := by
  intro wh pins s σ H Q I h
  refine isTrue_and (thn (ha pins s σ H Q I h) fun c s1 e => ?_)
  cases c with
  | true => exact isTrue_and_nil e
  | false => exact e
theorem pw_or1 (ha : PT X a tA) : PW X (.BoolOp .Or [a] pos) tA := by
  intro wh pins s σ H Q I h
  refine isTrue_or (thn (ha pins s σ H Q I h) fun c s1 e => ?_)
  cases c with
  | false => exact isTrue_or_nil e
  | true => exact e
theorem pw_and (ha : PT X a tA) (hb : PW X (.BoolOp .And (b :: rest) pos) tB') : PW X (.BoolOp .And (a :: b :: rest) pos) (tAnd tA tB') := by
  intro wh pins s σ H Q I h
  refine isTrue_and (thn (ha pins s σ H _ I h) fun c s1 ⟨H1, I1, q1⟩ => ?_)
  cases c with
  | true => exact hb wh pins s1 σ H1 Q I1 q1
  | false => exact ⟨H1, I1, q1⟩
theorem pw_or (ha : PT X a tA) (hb : PW X (.BoolOp .Or (b :: rest) pos) tB') : PW X (.BoolOp .Or (a :: b :: rest) pos) (tOr tA tB') := by
  intro wh pins s σ H Q I h
  refine isTrue_or (thn (ha pins s σ H _ I h) fun c s1 ⟨H1, I1, q1⟩ => ?_)
  cases c with
  | true => exact ⟨H1, I1, q1⟩
  | false => exact hb wh pins s1 σ H1 Q I1 q1
theorem pt_not (ha : PT X a tA) : PT X (.UnaryOp .Not a pos) (tNot tA) := by
  intro pins s σ H Q I h
  exact isTrue_not (ha pins s σ H (fun c H1 => Q (!c) H1) I h)
def tAndV (ta tb : TE) : TE := fun σ H Q => ta σ H fun x H1 => ∃ c, x = .bl c ∧ if c = true then tb σ H1 Q else Q (.bl false) H1
def tOrV (ta tb : TE) : TE := fun σ H Q => ta σ H fun x H1 => ∃ c, x = .bl c ∧ if c = true then Q (.bl true) H1 else tb σ H1 Q
def tNotV (ta : TE) : TE := fun σ H Q => ta σ H fun x H1 => ∃ c, x = .bl c ∧ Q (.bl (!c)) H1
theorem pe_one {op} {t : TE} (h : PE X a t) : PE X (.BoolOp op [a] pos) t := fun pins s σ H Q I hw => BoolOp_one (h pins s σ H Q I hw)
theorem pe_and (ha : PE X a ta) (hb : PE X (.BoolOp .And (b :: rest) pos) tb) : PE X (.BoolOp .And (a :: b :: rest) pos) (tAndV ta tb) := by
  intro pins s σ H Q I h
  refine BoolOp_and (thn (ha pins s σ H _ I h) fun v s1 ⟨x, H1, I1, r1, q1⟩ => ?_)
  obtain ⟨c, rfl, q1⟩ := q1
  cases r1
  refine wpAny_truthy_bool ?_
  cases c with
  | true => exact hb pins s1 σ H1 Q I1 q1
  | false => exact ⟨.bl false, H1, I1, rfl, q1⟩
theorem pe_or (ha : PE X a ta) (hb : PE X (.BoolOp .Or (b :: rest) pos) tb) : PE X (.BoolOp .Or (a :: b :: rest) pos) (tOrV ta tb) := by
  intro pins s σ H Q I h
  refine BoolOp_or (thn (ha pins s σ H _ I h) fun v s1 ⟨x, H1, I1, r1, q1⟩ => ?_)
  obtain ⟨c, rfl, q1⟩ := q1
  cases r1
  refine wpAny_truthy_bool ?_
  cases c with
  | false => exact hb pins s1 σ H1 Q I1 q1
  | true => exact ⟨.bl true, H1, I1, rfl, q1⟩
theorem pe_not (ha : PE X a ta) : PE X (.UnaryOp .Not a pos) (tNotV ta) := by
  intro pins s σ H Q I h
  refine UnaryOp_ (thn (ha pins s σ H _ I h) fun v s1 ⟨x, H1, I1, r1, q1⟩ => ?_)
  obtain ⟨c, rfl, q1⟩ := q1
  cases r1
  exact not_of (wpAny_truthy_bool ⟨.bl (!c), H1, I1, rfl, q1⟩)
def tIf (t : TT) (ta tb : TE) : TE := fun σ H Q => t σ H fun c H1 => if c = true then ta σ H1 Q else tb σ H1 Q
theorem pe_ifExp {c : Expr} (hc : PT X c tA) (ha : PE X a ta) (hb : PE X b tb) : PE X (.IfExp c a b pos) (tIf tA ta tb) := by
  intro pins s σ H Q I h
  refine wpAny_IfExp (thn (hc pins s σ H _ I h) fun d s1 ⟨H1, I1, q1⟩ => ?_)
  cases d with
  | true => exact ha pins s1 σ H1 Q I1 q1
  | false => exact hb pins s1 σ H1 Q I1 q1
end
end L2
namespace L2
open PySem PySem.Spec PyProof.Rows
def SqL (K : PySem.W.Frag) (H : Hp) (a : Addr) (xs : List V) : Prop :=
  Rd H a (.lst xs) ∨
    ∃ (o : Obj) (its : Array Value) (n : Nat), K.lookup a = some o ∧ o.cls = .type "list" ∧ o.dict = none ∧ o.data = .seq its n ∧ its.size ≤ sizeLine ∧ Vals xs its.toList
def SqT (K : PySem.W.Frag) (H : Hp) (a : Addr) (xs : List V) : Prop :=
  Rd H a (.tup xs) ∨
    ∃ (o : Obj) (its : Array Value) (n : Nat), K.lookup a = some o ∧ o.cls = .type "tuple" ∧ o.data = .seq its n ∧ its.size ≤ sizeLine ∧ Vals xs its.toList
def absV : Value → Option V
  | .none => some .non
  | .bool b => some (.bl b)
  | .int i _ => some (.int i)
  | .str x _ => some (.str x)
  | .bytes b _ => some (.byt b)
  | .float b _ => some (.flt b)
  | .ref a => some (.ref a)
  | .type n => some (.ty n)
  | _ => none
theorem RelV.abs {x : V} {u : Value} (r : RelV x u) : absV u = some x := by
  cases x with
  | non => cases r; rfl
  | bl _ => cases r; rfl
  | int _ => obtain ⟨t, rfl⟩ := r; rfl
  | str _ => obtain ⟨t, rfl⟩ := r; rfl
  | byt _ => obtain ⟨t, rfl⟩ := r; rfl
  | flt _ => obtain ⟨t, rfl⟩ := r; rfl
  | ref _ => cases r; rfl
  | ty _ => cases r; rfl
theorem RelV.inj {x y : V} {u : Value} (r : RelV x u) (q : RelV y u) : x = y := Option.some.inj (r.abs.symm.trans q.abs)
theorem Vals.inj : ∀ {xs ys : List V} {us : List Value}, Vals xs us → Vals ys us → xs = ys
  | _, _, _, .nil, .nil => rfl
  | _, _, _, .cons r t, .cons r' t' => by rw [r.inj r', Vals.inj t t']
section
variable {X : Cx} {pins : List (Addr × Obj)} {σ : St} {H : Hp} {s : Shared} {a : Addr} {xs ys : List V}
theorem SqL.of {K : PySem.W.Frag} (h : H a = some (.lst xs)) : SqL K H a xs := .inl (.inl h)
theorem SqT.of {K : PySem.W.Frag} (h : H a = some (.tup xs)) : SqT K H a xs := .inl (.inl h)
theorem Inv.list (I : Inv X pins σ H s) (h : SqL X.K H a xs) : ∃ its : List Value, Vals xs its ∧ PlainL s.heap a its.toArray ∧ xs.length ≤ sizeLine := by
  rcases h with h | ⟨o, its, n, hk, hc, hd, hs, hz, r⟩
  · obtain ⟨z, its, n, r, e⟩ := h.ok I.hok
    exact ⟨its, r, ⟨_, n, e, rfl, rfl, rfl⟩, z⟩
  · refine ⟨its.toList, r, ⟨o, n, I.kIn a o hk, hc, hd, by simpa using hs⟩, ?_⟩
    have e := r.length
    simp only [Array.length_toList] at e
    omega
theorem Inv.tuple (I : Inv X pins σ H s) (h : SqT X.K H a xs) : ∃ its : List Value, Vals xs its ∧ IsTup s.heap a its.toArray ∧ xs.length ≤ sizeLine := by
  rcases h with h | ⟨o, its, n, hk, hc, hs, hz, r⟩
  · obtain ⟨z, its, r, p⟩ := h.ok I.hok
    exact ⟨its, r, p, z⟩
  · refine ⟨its.toList, r, ⟨o, I.kIn a o hk, hc, n, by simpa using hs⟩, ?_⟩
    have e := r.length
    simp only [Array.length_toList] at e
    omega
theorem Inv.list_inj (I : Inv X pins σ H s) (h : SqL X.K H a xs) (h' : SqL X.K H a ys) : xs = ys := by
  obtain ⟨its, r, ⟨o, n, e, _, _, d⟩, _⟩ := I.list h
  obtain ⟨its', r', ⟨o', n', e', _, _, d'⟩, _⟩ := I.list h'
  rw [e] at e'; cases e'
  rw [d] at d'
  injection d' with d1 _
  have : its = its' := by simpa using congrArg Array.toList d1
  subst this
  exact r.inj r'
theorem Inv.tuple_inj (I : Inv X pins σ H s) (h : SqT X.K H a xs) (h' : SqT X.K H a ys) : xs = ys := by
  obtain ⟨its, r, ⟨o, e, _, n, d⟩, _⟩ := I.tuple h
  obtain ⟨its', r', ⟨o', e', _, n', d'⟩, _⟩ := I.tuple h'
  rw [e] at e'; cases e'
  rw [d] at d'
  injection d' with d1 _
  have : its = its' := by simpa using congrArg Array.toList d1
  subst this
  exact r.inj r'
end
abbrev Cx.wish (X : Cx) (E : Value → Shared → Prop) : Cx := { X with xe := E }
abbrev Cx.nox (X : Cx) : Cx := X.wish fun _ _ => False
theorem Cx.Ok.wish {X : Cx} (ok : X.Ok) (E : Value → Shared → Prop) : (X.wish E).Ok :=
  ⟨ok.mod, ok.kind, ok.glob, ok.blt, ok.above, ok.inj, ok.has, ok.cab, ok.hd, ok.frames, ok.stk, ok.exf, ok.bs, ok.bsz, ok.noex, ok.exfs, ok.funs, ok.frf⟩
theorem Cx.Ok.unwish {X : Cx} {E : Value → Shared → Prop} (ok : (X.wish E).Ok) : X.Ok :=
  ⟨ok.mod, ok.kind, ok.glob, ok.blt, ok.above, ok.inj, ok.has, ok.cab, ok.hd, ok.frames, ok.stk, ok.exf, ok.bs, ok.bsz, ok.noex, ok.exfs, ok.funs, ok.frf⟩
section
variable {X : Cx} {pins : List (Addr × Obj)} {σ : St} {H : Hp} {s : Shared} {E : Value → Shared → Prop}
theorem Inv.wish (I : Inv X pins σ H s) (E : Value → Shared → Prop) : Inv (X.wish E) pins σ H s := ⟨I.ok.wish E, I.os, I.bare, I.base, I.loc, I.cell, I.free, I.freeC, I.pin, I.hok, I.len⟩
theorem Inv.unwish (I : Inv (X.wish E) pins σ H s) : Inv X pins σ H s := ⟨I.ok.unwish, I.os, I.bare, I.base, I.loc, I.cell, I.free, I.freeC, I.pin, I.hok, I.len⟩
theorem SP.unwish {D : Ends} {f : Flow} {s' : Shared} (h : SP (X.wish E) pins D f s') : SP X pins D f s' := by
  cases f with
  | next => obtain ⟨σ', H', I, q⟩ := h; exact ⟨σ', H', I.unwish, q⟩
  | brk => obtain ⟨σ', H', I, q⟩ := h; exact ⟨σ', H', I.unwish, q⟩
  | cont => obtain ⟨σ', H', I, q⟩ := h; exact ⟨σ', H', I.unwish, q⟩
  | ret u => obtain ⟨v, σ', H', I, r, q⟩ := h; exact ⟨v, σ', H', I.unwish, r, q⟩
theorem PE.nox {e : Expr} {t : TE} (h : PE X.nox e t) : PE X e t := fun pins s σ H Q I hw =>
  wpAny_mono (h pins s σ H Q (I.wish _) hw) (fun _ _ ⟨v, H', I', r, q⟩ => ⟨v, H', I'.unwish, r, q⟩) fun _ _ z => False.elim z
theorem PT.nox {e : Expr} {t : TT} (h : PT X.nox e t) : PT X e t := fun pins s σ H Q I hw =>
  wpAny_mono (h pins s σ H Q (I.wish _) hw) (fun _ _ ⟨H', I', q⟩ => ⟨H', I'.unwish, q⟩) fun _ _ z => False.elim z
theorem PSs.nox {st : List Stmt} {t : TS} (h : PSs X.nox st t) : PSs X st t := fun pins s σ H D I hw =>
  wpAny_mono (h pins s σ H D (I.wish _) hw) (fun _ _ q => q.unwish) fun _ _ z => False.elim z
end
section
variable {X : Cx} {st : Stmt} {rest : List Stmt} {t u : TS} {e : Expr} {te : TE} {pos : Pos}
def tNext : TS := fun D σ H => D.nx σ H
def tSeq (t u : TS) : TS := fun D σ H => t { D with nx := u D } σ H
theorem pss_nil : PSs X [] tNext := fun _ _ σ H _ I h => wpAny_execs_nil ⟨σ, H, I, h⟩
theorem pss_cons (h1 : PS X st t) (h2 : PSs X rest u) : PSs X (st :: rest) (tSeq t u) := by
  intro pins s σ H D I h
  refine wpAny_execs_cons (thn (h1 pins s σ H { D with nx := u D } I h) fun f s1 q => ?_)
  cases f with
  | next =>
    obtain ⟨σ', H', I', q⟩ := q
    exact h2 pins s1 σ' H' D I' q
  | ret v => exact q
  | brk => exact q
  | cont => exact q
theorem pss_one (h1 : PS X st t) : PSs X [st] t := by
  intro pins s σ H D I h
  refine wpAny_execs_cons (thn (h1 pins s σ H D I h) fun f s1 q => ?_)
  cases f with
  | next => exact wpAny_execs_nil q
  | ret v => exact q
  | brk => exact q
  | cont => exact q
theorem Inv.quiet {pins : List (Addr × Obj)} {σ : St} {H : Hp} {s : Shared} (I : Inv X pins σ H s) : interactive X.env = false := by simp [interactive, I.ok.kind]
def tDrop (te : TE) : TS := fun D σ H => te σ H fun _ H1 => D.nx σ H1
theorem ps_expr (he : PE X e te) (hs : swapsWith e none pos.line X.env = pure false := by rfl) : PS X (.Expr e pos) (tDrop te) := by
  intro pins s σ H D I h
  exact wpAny_Expr_any (thn (he pins s σ H _ I h) fun v s1 ⟨x, H1, I1, r1, q1⟩ => ⟨σ, H1, I1, q1⟩) I.quiet hs
def tRet (te : TE) : TS := fun D σ H => te σ H D.rt
theorem ps_ret (he : PE X e te) : PS X (.Return (some e) pos) (tRet te) := by
  intro pins s σ H D I h
  exact wpAny_Return_some (thn (he pins s σ H _ I h) fun v s1 ⟨x, H1, I1, r1, q1⟩ => ⟨x, σ, H1, I1, r1, q1⟩)
def tIfS (c : TT) (t u : TS) : TS := fun D σ H => c σ H fun b H1 => if b = true then t D σ H1 else u D σ H1
theorem ps_if {c : Expr} {a b : List Stmt} {tc : TT} (hc : PT X c tc) (ha : PSs X a t) (hb : PSs X b u) : PS X (.If c a b pos) (tIfS tc t u) := by
  intro pins s σ H D I h
  refine wpAny_If (thn (hc pins s σ H _ I h) fun d s1 ⟨H1, I1, q1⟩ => ?_)
  cases d with
  | true => exact ha pins s1 σ H1 D I1 q1
  | false => exact hb pins s1 σ H1 D I1 q1
end
abbrev TG := V → St → Hp → (St → Hp → Prop) → Prop
abbrev TGs := List V → St → Hp → (St → Hp → Prop) → Prop
def PG (X : Cx) (target : Expr) (t : TG) : Prop :=
  ∀ (pins : List (Addr × Obj)) (s : Shared) (σ : St) (H : Hp) (v : V) (u : Value) (Q : St → Hp → Prop), Inv X pins σ H s → RelV v u → t v σ H Q →
    wpAny (model X.prog X.w) X.A (assign target X.env u) (fun _ s' => ∃ σ' H', Inv X pins σ' H' s' ∧ Q σ' H') X.xe s
def PGs (X : Cx) (ts : List Expr) (t : TGs) : Prop :=
  ∀ (pins : List (Addr × Obj)) (s : Shared) (σ : St) (H : Hp) (vs : List V) (us : List Value) (Q : St → Hp → Prop), Inv X pins σ H s → Vals vs us → t vs σ H Q →
    wpAny (model X.prog X.w) X.A (assignInOrder ((assignEach ts X.env).map (·.2)) us) (fun _ s' => ∃ σ' H', Inv X pins σ' H' s' ∧ Q σ' H') X.xe s
section
variable {X : Cx} {pos : Pos}
def gName (i : Nat) : TG := fun v σ H Q => Q (σ.set i (some v)) H
theorem pg_name {i : Nat} {x : Str} (hN : X.N.Nodup) (hi : X.N[i]? = some x) (hx : Loc X.env.scope x) (hf : X.fn x = true ∨ X.env.scope.names.lookup x = some .local := by first | exact .inl rfl | exact .inr rfl | assumption) : PG X (.Name x pos) (gName i) := by
  intro pins s σ H v u Q I r h
  exact wpAny_assign_Name (store_ok I hN hi hx r (fun s' I' => ⟨_, H, I', h⟩) hf)
def gNil : TGs := fun vs σ H Q => vs = [] ∧ Q σ H
def gCons (t : TG) (u : TGs) : TGs := fun vs σ H Q => ∃ v r, vs = v :: r ∧ t v σ H fun σ' H' => u r σ' H' Q
theorem pgs_nil : PGs X [] gNil := by
  intro pins s σ H vs us Q I r h
  obtain ⟨e, h⟩ := h
  subst e
  cases r
  exact assignInOrder_nil ⟨σ, H, I, h⟩
theorem pgs_cons {e : Expr} {es : List Expr} {t : TG} {u : TGs} (h1 : PG X e t) (h2 : PGs X es u)
    (hs : (assignEach (e :: es) X.env).map (·.2) = assign e X.env :: (assignEach es X.env).map (·.2) := by rfl) : PGs X (e :: es) (gCons t u) := by
  intro pins s σ H vs us Q I r h
  obtain ⟨v, vr, e1, h⟩ := h
  subst e1
  cases r with
  | cons r rr =>
    rw [hs]
    refine assignInOrder_cons (thn (h1 pins s σ H _ _ _ I r h) fun _ s1 ⟨σ1, H1, I1, q1⟩ => ?_)
    exact h2 pins s1 σ1 H1 _ _ Q I1 rr q1
def gTup (K : PySem.W.Frag) (n : Nat) (t : TGs) : TG := fun v σ H Q => ∃ a xs, v = .ref a ∧ SqT K H a xs ∧ xs.length = n ∧ t xs σ H Q
theorem pg_tup {es : List Expr} {k : Nat} {t : TGs} {n : Nat} (hc : X.calm = true) (h : PGs X es t)
    (hn : (assignEach es X.env).length = n := by rfl) (hst : (assignEach es X.env).findIdx? (·.1) = none := by rfl) : PG X (.Tuple es k pos) (gTup X.K n t) := by
  intro pins s σ H v u Q I r hw
  obtain ⟨a, xs, e1, hq, hl, hw⟩ := hw
  subst e1
  cases r
  obtain ⟨its, rv, ht, hz⟩ := I.tuple hq
  refine assign_Tuple_tuple (I.ok.hd hc) ht (by simp [hn, ← hl, rv.length]) hst fun h' hx => ?_
  have I1 : Inv X pins σ H { s with heap := h' } := I.kept (t' := s.toks) fun b o e => hx b o (Nat.ne_of_lt (Heap.lt_size e)) e
  exact h pins _ σ H xs _ Q I1 (by simpa using rv) hw
def tAsg (te : TE) (g : TG) : TS := fun D σ H => te σ H fun x H1 => g x σ H1 D.nx
theorem ps_set {i : Nat} {x : Str} {e : Expr} {te : TE} {pos' : Pos} (hN : X.N.Nodup) (hi : X.N[i]? = some x) (hx : Loc X.env.scope x) (he : PE X e te) (hs : swapsWith e (some (.Name x pos')) pos.line X.env = pure false := by rfl) (hf : X.fn x = true ∨ X.env.scope.names.lookup x = some .local := by first | exact .inl rfl | exact .inr rfl | assumption) :
    PS X (.Assign [.Name x pos'] e pos) (tAsg te (gName i)) := by
  intro pins s σ H D I h
  refine wpAny_Assign_Name (thn (he pins s σ H _ I h) fun v s1 ⟨y, H1, I1, r1, q1⟩ => ?_) hs
  exact store_ok I1 hN hi hx r1 (fun s2 I2 => ⟨_, H1, I2, q1⟩) hf
end
section
variable {X : Cx} {pos : Pos}
def tWhile (c : TT) (tb : TS) : TS := fun D σ H => ∃ W : Nat → St → Hp → Prop, (∃ m, W m σ H) ∧ ∀ m σ H, W m σ H →
  c σ H fun b H1 => if b = true then ∃ N : St → Hp → Prop, (∀ σ' H', N σ' H' → ∃ m', m' < m ∧ W m' σ' H') ∧ tb { D with nx := N, ct := N, bk := D.nx } σ H1 else D.nx σ H1
theorem ps_while {c : Expr} {body : List Stmt} {tc : TT} {tb : TS} (hp : PassesOwn (model X.prog X.w) X.A X.env X.xe) (hc : PT X c tc) (hb : PSs X body tb) : PS X (.While c body [] pos) (tWhile tc tb) := by
  intro pins s σ H D I h
  obtain ⟨W, ⟨m0, w0⟩, turn⟩ := h
  refine wpAny_While (codeAny_whileLoop (fun n s' => ∃ σ' H', Inv X pins σ' H' s' ∧ W n σ' H') ?_ m0 ⟨σ, H, I, w0⟩)
  rintro n s1 ⟨σ1, H1, I1, w1⟩
  refine wpAny_passesOwn hp (thn (hc pins s1 σ1 H1 _ I1 (turn n σ1 H1 w1)) fun b s2 ⟨H2, I2, q2⟩ => ?_)
  cases b with
  | true =>
    obtain ⟨N, hN, q2⟩ := q2
    rw [if_pos rfl]
    refine wpAny_passesOwn hp (thn (hb pins s2 σ1 H2 _ I2 q2) fun f s3 q3 => ?_)
    cases f with
    | next =>
      obtain ⟨σ3, H3, I3, n3⟩ := q3
      obtain ⟨m', hm, w3⟩ := hN σ3 H3 n3
      exact ⟨m', hm, σ3, H3, I3, w3⟩
    | cont =>
      obtain ⟨σ3, H3, I3, n3⟩ := q3
      obtain ⟨m', hm, w3⟩ := hN σ3 H3 n3
      exact ⟨m', hm, σ3, H3, I3, w3⟩
    | brk => exact q3
    | ret v => exact q3
  | false =>
    rw [if_neg Bool.false_ne_true]
    exact wpAny_execs_nil ⟨σ1, H2, I2, q2⟩
end
structure It where
  go : Nat → Hp → Prop
  yld : Nat → Hp → V → Hp → Prop
  stop : Nat → Hp → Prop
def FpOk (X : Cx) (pins : List (Addr × Obj)) (H : Hp) (b : Addr) : Prop :=
  H b = none ∧ b ≠ X.env.locals ∧ b ∉ X.fs ∧ (b ∈ X.ex ∨ X.s₀.heap.objs.size ≤ b) ∧ (∀ x c, X.env.cells.lookup x = some c → c ≠ b) ∧ ∀ p ∈ X.pn ++ pins, p.1 ≠ b
theorem Inv.fpOk {X : Cx} {pins : List (Addr × Obj)} {σ : St} {H H' : Hp} {s : Shared} {b : Addr} (I : Inv X pins σ H s) (hb : s.heap.objs.size ≤ b) (hn : H' b = none) : FpOk X pins H' b := by
  refine ⟨hn, Nat.ne_of_gt (Nat.lt_of_lt_of_le I.lt hb), I.nofs hb, .inr (Nat.le_trans I.sz hb), fun x c e z => ?_, fun p hp z => ?_⟩
  · obtain ⟨v, q⟩ := I.cell x c e
    exact absurd (Nat.lt_of_lt_of_le q.lt (by rw [z]; exact hb)) (Nat.lt_irrefl _)
  · exact absurd (Nat.lt_of_lt_of_le (Heap.lt_size (I.pin p hp).1) (by rw [z]; exact hb)) (Nat.lt_irrefl _)
structure Turn (P : Program) (w : World) (K : PySem.W.Frag) (tg : Expr) (J : It) (fp : List Addr) (it : Addr) (tn : Nat → Heap → Prop) : Prop where
  mem : it ∈ fp
  obj : ∀ i h, tn i h → ∀ b ∈ fp, ∃ o, h.get? b = some o ∧ ∀ v, o.data ≠ .cell v
  keep : ∀ i h h', tn i h → (∀ b ∈ fp, ∀ o, h.get? b = some o → h'.get? b = some o) → tn i h'
  item : ∀ (X : Cx), X.prog = P → X.w = w → X.K = K → X.calm = true → ∀ (i : Nat) (pins : List (Addr × Obj)) (s : Shared) (σ : St) (H : Hp) (E : Value → Shared → Prop), Inv X pins σ H s → (∀ b ∈ fp, FpOk X pins H b) → tn i s.heap → J.go i H →
    wpAny (model P w) X.A (pyNext (.ref it)) (fun r s1 => ∃ u, r = some u ∧
      wpAny (model P w) X.A (letOwnedTupleGo tg (.ref it) u) (fun _ s2 => ∃ x H', Inv X pins σ H' s2 ∧ RelV x u ∧ J.yld i H x H' ∧ tn (i + 1) s2.heap ∧ ∀ b ∈ fp, H' b = none) E s1) E s
  done : ∀ (X : Cx), X.prog = P → X.w = w → X.K = K → X.calm = true → ∀ (i : Nat) (pins : List (Addr × Obj)) (s : Shared) (σ : St) (H : Hp) (E : Value → Shared → Prop), Inv X pins σ H s → (∀ b ∈ fp, FpOk X pins H b) → tn i s.heap → J.stop i H →
    wpAny (model P w) X.A (pyNext (.ref it)) (fun r s1 => r = none ∧ Inv X pins σ H s1) E s
  self : ∀ (A : Around) (i : Nat) (s : Shared) (Q : Value → Shared → Prop) (E : Value → Shared → Prop), tn i s.heap → Q (.ref it) s → wpAny (model P w) A (pyIter (.ref it)) Q E s
abbrev TI := St → Hp → (It → Hp → Prop) → Prop
def PIE (X : Cx) (pins : List (Addr × Obj)) (σ : St) (tg : Expr) (R : It → Hp → Prop) (itv : Value) (s2 : Shared) : Prop :=
  ∃ (it : Addr) (fp : List Addr) (tn : Nat → Heap → Prop) (J : It) (H' : Hp), itv = .ref it ∧ Inv X pins σ H' s2 ∧ Turn X.prog X.w X.K tg J fp it tn ∧ tn 0 s2.heap ∧ (∀ b ∈ fp, FpOk X pins H' b) ∧ R J H'
def PI (X : Cx) (tg iter : Expr) (wi : TI) : Prop :=
  ∀ (pins : List (Addr × Obj)) (s : Shared) (σ : St) (H : Hp) (R : It → Hp → Prop), Inv X pins σ H s → wi σ H R →
    wpAny (model X.prog X.w) X.A (eval iter X.env) (fun v s1 => wpAny (model X.prog X.w) X.A (pyIter v) (PIE X pins σ tg R) X.xe s1) X.xe s
theorem go_of {M : Model} {A : Around} {E : Value → Shared → Prop} {s : Shared} {tg : Expr} {it : Addr} {u : Value} {o : Obj} {n : String} {vs : Array Value} {Q : Unit → Shared → Prop} (ho : s.heap.get? it = some o) (hc : o.cls = .type n) (hd : o.data = .fields vs)
    (hn : ["enumerate", "zip", "dict_itemiterator", "dict_reverseitemiterator", "odict_iterator", "itertools.zip_longest", "itertools.pairwise"].contains n = false) (hQ : Q () s) : wpAny M A (letOwnedTupleGo tg (.ref it) u) Q E s := by
  unfold letOwnedTupleGo
  cases tg <;> first
    | exact wpAny_pure hQ
    | (cases u <;> first
        | exact wpAny_pure hQ
        | (refine wpAny_bind (wpAny_load ho ?_)
           rw [hc, hd]
           show wpAny M A (if (["enumerate", "zip", "dict_itemiterator", "dict_reverseitemiterator", "odict_iterator", "itertools.zip_longest", "itertools.pairwise"].contains n && vs[0]? == some (rawInt _)) = true then _ else _) Q E s
           rw [if_neg (by intro h; rw [hn, Bool.false_and] at h; cases h)]
           exact wpAny_pure hQ))
def Itl (K : PySem.W.Frag) (a : Addr) : It :=
  ⟨fun i H => ∃ xs x, SqL K H a xs ∧ xs[i]? = some x, fun i H x H' => H' = H ∧ ∀ xs, SqL K H a xs → xs[i]? = some x, fun i H => ∃ xs, SqL K H a xs ∧ xs.length ≤ i⟩
def Itt (K : PySem.W.Frag) (a : Addr) : It :=
  ⟨fun i H => ∃ xs x, SqT K H a xs ∧ xs[i]? = some x, fun i H x H' => H' = H ∧ ∀ xs, SqT K H a xs → xs[i]? = some x, fun i H => ∃ xs, SqT K H a xs ∧ xs.length ≤ i⟩
def Itr (lo : Int) (n : Nat) : It := ⟨fun i _ => i < n, fun i H x H' => H' = H ∧ x = .int (lo + i), fun i _ => n ≤ i⟩
theorem turn_list {P : Program} {w : World} {K : PySem.W.Frag} {tg : Expr} (a it : Addr) : Turn P w K tg (Itl K a) [it] it (fun i h => h.IsListIter it a i) where
  mem := by simp
  obj := fun i h st b hb => by
    have e : b = it := by simpa using hb
    subst e
    obtain ⟨o, e, c, d⟩ := st
    exact ⟨o, e, fun v z => by rw [d] at z; cases z⟩
  keep := fun i h h' st k => st.at fun o e => k it (by simp) o e
  item := by
    intro X hP hw hK hc i pins s σ H E I hf st hg
    subst hP hw hK
    obtain ⟨xs, x, hq, hx⟩ := hg
    obtain ⟨its, rv, p, hz⟩ := I.list hq
    obtain ⟨u, hu, ru⟩ := rv.get hx
    obtain ⟨f0, f1, f2, f3, f4, f5⟩ := hf it (by simp)
    refine wpAny_pyNext_list_item st p.isList (x := u) (by simpa using hu) fun h' st' sb => ?_
    have I1 : Inv X pins σ H { s with heap := h' } := I.turned (t' := s.toks) (fun b o hb e => (sb.2 b hb).trans e) f0 f1 f3 f4 f5
    obtain ⟨o, e, c, d⟩ := id st'
    exact ⟨u, rfl, go_of (s := { s with heap := h' }) e c d (by decide) ⟨x, H, I1, ru, ⟨rfl, fun ys hy => by rw [I.list_inj hy hq]; exact hx⟩, st', fun b hb => (hf b hb).1⟩⟩
  done := by
    intro X hP hw hK hc i pins s σ H E I hf st hg
    subst hP hw hK
    obtain ⟨xs, hq, hx⟩ := hg
    obtain ⟨its, rv, p, hz⟩ := I.list hq
    obtain ⟨f0, f1, f2, f3, f4, f5⟩ := hf it (by simp)
    have hl := rv.length
    exact wpAny_pyNext_list_end (I.ok.hd hc) st p.isList (by simp; omega) fun h' eb => ⟨rfl, I.turned (t' := s.toks) (fun b o hb e => eb b o hb e) f0 f1 f3 f4 f5⟩
  self := fun _ _ _ _ _ st h => wpAny_pyIter_listiter st h
theorem turn_tuple {P : Program} {w : World} {K : PySem.W.Frag} {tg : Expr} (a it : Addr) : Turn P w K tg (Itt K a) [it] it (fun i h => h.IsTupleIter it a i) where
  mem := by simp
  obj := fun i h st b hb => by
    have e : b = it := by simpa using hb
    subst e
    obtain ⟨o, e, c, d⟩ := st
    exact ⟨o, e, fun v z => by rw [d] at z; cases z⟩
  keep := fun i h h' st k => st.at fun o e => k it (by simp) o e
  item := by
    intro X hP hw hK hc i pins s σ H E I hf st hg
    subst hP hw hK
    obtain ⟨xs, x, hq, hx⟩ := hg
    obtain ⟨its, rv, p, hz⟩ := I.tuple hq
    obtain ⟨u, hu, ru⟩ := rv.get hx
    obtain ⟨f0, f1, f2, f3, f4, f5⟩ := hf it (by simp)
    refine wpAny_pyNext_tuple_item st (show s.heap.IsTuple a its.toArray from p) (x := u) (by simpa using hu) fun h' st' sb => ?_
    have I1 : Inv X pins σ H { s with heap := h' } := I.turned (t' := s.toks) (fun b o hb e => (sb.2 b hb).trans e) f0 f1 f3 f4 f5
    obtain ⟨o, e, c, d⟩ := id st'
    exact ⟨u, rfl, go_of (s := { s with heap := h' }) e c d (by decide) ⟨x, H, I1, ru, ⟨rfl, fun ys hy => by rw [I.tuple_inj hy hq]; exact hx⟩, st', fun b hb => (hf b hb).1⟩⟩
  done := by
    intro X hP hw hK hc i pins s σ H E I hf st hg
    subst hP hw hK
    obtain ⟨xs, hq, hx⟩ := hg
    obtain ⟨its, rv, p, hz⟩ := I.tuple hq
    obtain ⟨f0, f1, f2, f3, f4, f5⟩ := hf it (by simp)
    have hl := rv.length
    exact wpAny_pyNext_tuple_end (I.ok.hd hc) st (show s.heap.IsTuple a its.toArray from p) (by simp; omega) fun h' eb => ⟨rfl, I.turned (t' := s.toks) (fun b o hb e => eb b o hb e) f0 f1 f3 f4 f5⟩
  self := fun _ _ _ _ _ st h => wpAny_pyIter_tupleiter st h
theorem turn_range {P : Program} {w : World} {K : PySem.W.Frag} {tg : Expr} (it : Addr) (lo : Int) (n : Nat) : Turn P w K tg (Itr lo n) [it] it (fun i h => IsRangeIter h it (lo + (i : Nat) * 1) ((n : Int) - (i : Nat)) 1) where
  mem := by simp
  obj := fun i h st b hb => by
    have e : b = it := by simpa using hb
    subst e
    exact ⟨_, st, fun v z => by
      have z' : Data.fields _ = Data.cell v := z
      cases z'⟩
  keep := fun i h h' st k => k it (by simp) _ st
  item := by
    intro X hP hw hK hc i pins s σ H E I hf st hg
    subst hP hw hK
    obtain ⟨f0, f1, f2, f3, f4, f5⟩ := hf it (by simp)
    have W := Walks.range (prog := X.prog) (w := X.w) (I.ok.hd hc) it lo 1 n
    refine W.item i s _ _ hg st fun v h' tk hv st' kk => ?_
    obtain ⟨t, rfl⟩ := hv
    have I1 : Inv X pins σ H { s with heap := h', toks := tk } := I.turned (fun b o hb e => kk b o (by simpa using hb) e) f0 f1 f3 f4 f5
    refine ⟨_, rfl, go_of (s := { s with heap := h', toks := tk }) (n := "range_iterator") st' rfl rfl (by decide) ⟨.int (lo + i), H, I1, ⟨t, ?_⟩, ⟨rfl, rfl⟩, st', fun b hb => (hf b hb).1⟩⟩
    rw [Int.mul_one]
  done := by
    intro X hP hw hK hc i pins s σ H E I hf st hg
    subst hP hw hK
    obtain ⟨f0, f1, f2, f3, f4, f5⟩ := hf it (by simp)
    exact wpAny_pyNext_range_end (I.ok.hd hc) st (by have : n ≤ i := hg; omega) fun h' eb => ⟨rfl, I.turned (t' := s.toks) (fun b o hb e => eb b o hb e) f0 f1 f3 f4 f5⟩
  self := fun _ _ _ _ _ st h => wpAny_pyIter_rangeiter st h
end L2
namespace L2
open PySem PySem.Spec PyProof.Rows
section
variable {X : Cx} {tg : Expr}
def iList (K : PySem.W.Frag) (tl : TE) : TI := fun σ H R => tl σ H fun x H1 => ∃ a, x = .ref a ∧ (∃ xs, SqL K H1 a xs) ∧ R (Itl K a) H1
def iTup (K : PySem.W.Frag) (tl : TE) : TI := fun σ H R => tl σ H fun x H1 => ∃ a, x = .ref a ∧ (∃ xs, SqT K H1 a xs) ∧ R (Itt K a) H1
theorem pi_list {l : Expr} {tl : TE} (hl : PE X l tl) : PI X tg l (iList X.K tl) := by
  intro pins s σ H R I h
  refine thn (hl pins s σ H _ I h) fun v s1 ⟨x, H1, I1, r1, q1⟩ => ?_
  obtain ⟨a, e, ⟨xs, hq⟩, q⟩ := q1
  subst e
  cases r1
  obtain ⟨its, rv, p, hz⟩ := I1.list hq
  refine wpAny_pyIter_list p.isList ?_
  refine ⟨s1.heap.objs.size, [s1.heap.objs.size], _, _, H1, rfl, I1.kept (t' := s1.toks) fun b o e => Heap.get?_push_of_some _ e, turn_list a _, ⟨_, Heap.get?_push_size _ rfl, rfl, rfl⟩, fun b hb => ?_, q⟩
  have e : b = s1.heap.objs.size := by simpa using hb
  subst e
  exact I1.fpOk (Nat.le_refl _) (I1.hok.fresh (Nat.le_refl _))
theorem pi_tup {l : Expr} {tl : TE} (hl : PE X l tl) : PI X tg l (iTup X.K tl) := by
  intro pins s σ H R I h
  refine thn (hl pins s σ H _ I h) fun v s1 ⟨x, H1, I1, r1, q1⟩ => ?_
  obtain ⟨a, e, ⟨xs, hq⟩, q⟩ := q1
  subst e
  cases r1
  obtain ⟨its, rv, p, hz⟩ := I1.tuple hq
  refine wpAny_pyIter_tuple (show s1.heap.IsTuple a its.toArray from p) ?_
  refine ⟨s1.heap.objs.size, [s1.heap.objs.size], _, _, H1, rfl, I1.kept (t' := s1.toks) fun b o e => Heap.get?_push_of_some _ e, turn_tuple a _, ⟨_, Heap.get?_push_size _ rfl, rfl, rfl⟩, fun b hb => ?_, q⟩
  have e : b = s1.heap.objs.size := by simpa using hb
  subst e
  exact I1.fpOk (Nat.le_refl _) (I1.hok.fresh (Nat.le_refl _))
theorem range_it {pins : List (Addr × Obj)} {σ : St} {H : Hp} {s : Shared} {R : It → Hp → Prop} {E : Value → Shared → Prop} {lo hi : Int} {t u v : Tok} {tk : Nat} (I : Inv X pins σ H s) (h1 : -(2 ^ 62) ≤ lo) (h2 : lo < 2 ^ 62) (h3 : -(2 ^ 62) ≤ hi) (h4 : hi < 2 ^ 62)
    (q : R (Itr lo (hi - lo).toNat) H) : wpAny (model X.prog X.w) X.A (pyIter (.ref s.heap.objs.size)) (PIE X pins σ tg R) E { s with heap := s.heap.push { cls := .type "range", data := .fields #[.int lo t, .int hi u, .int 1 v] }, toks := tk } := by
  refine wpAny_pyIter_range (IsRange.new ..) (small_one h1 h2 h3 h4) ?_
  have I1 : Inv X pins σ H { s with heap := s.heap.push { cls := .type "range", data := .fields #[.int lo t, .int hi u, .int 1 v] }, toks := tk } := I.kept fun b o e => Heap.get?_push_of_some _ e
  refine ⟨(s.heap.push { cls := .type "range", data := .fields #[.int lo t, .int hi u, .int 1 v] }).objs.size, [(s.heap.push { cls := .type "range", data := .fields #[.int lo t, .int hi u, .int 1 v] }).objs.size], _, _, H, rfl,
    I1.kept (t' := tk) fun b o e => Heap.get?_push_of_some _ e, turn_range _ lo (hi - lo).toNat, ?_, fun b hb => ?_, q⟩
  · have e1 : lo + ((0 : Nat) : Int) * 1 = lo := by simp
    have e2 : (((hi - lo).toNat : Nat) : Int) - ((0 : Nat) : Int) = Builtin.Range.rangeSize lo hi 1 := by rw [rangeSize_one]; split <;> omega
    show IsRangeIter _ _ (lo + ((0 : Nat) : Int) * 1) ((((hi - lo).toNat : Nat) : Int) - ((0 : Nat) : Int)) 1
    rw [e1, e2]
    exact Heap.get?_push_size _ rfl
  · have e : b = (s.heap.push { cls := .type "range", data := .fields #[.int lo t, .int hi u, .int 1 v] }).objs.size := by simpa using hb
    subst e
    exact I1.fpOk (Nat.le_refl _) (I1.hok.fresh (Nat.le_refl _))
def iRng1 (ta : TA) : TI := fun σ H R => ta σ H fun vs H1 => ∃ j : Int, vs = [.int j] ∧ -(2 ^ 62) ≤ j ∧ j < 2 ^ 62 ∧ R (Itr 0 j.toNat) H1
def iRng2 (ta : TA) : TI := fun σ H R => ta σ H fun vs H1 => ∃ i j : Int, vs = [.int i, .int j] ∧ (-(2 ^ 62) ≤ i ∧ i < 2 ^ 62 ∧ -(2 ^ 62) ≤ j ∧ j < 2 ^ 62) ∧ R (Itr i (j - i).toNat) H1
theorem pi_range1 {a : Expr} {ta : TA} {p pos : Pos} (hg : Gl X "range") (hm : X.mg "range" = none) (ha : PA X [a] ta) (hs : starEach [a] X.env = [(false, eval a X.env)] := by rfl) : PI X tg (.Call (.Name "range" p) [a] [] pos) (iRng1 ta) := by
  intro pins s σ H R I h
  refine Call_ (ld_blt I hg hm boot_range (PyProof.Rows.callWith_type1 (thn (ha pos pins s σ H _ I h) fun us s1 ⟨vs, H1, I1, r1, q1⟩ => ?_) hs rfl))
  obtain ⟨j, e, q1, q2, q⟩ := q1
  subst e
  cases r1 with
  | cons r rr =>
    cases rr
    obtain ⟨t, rfl⟩ := r
    exact call_range_1 (range_it I1 (by omega) (by omega) q1 q2 (by simpa using q))
theorem pi_range2 {a b : Expr} {ta : TA} {p pos : Pos} (hg : Gl X "range") (hm : X.mg "range" = none) (ha : PA X [a, b] ta) (hs : starEach [a, b] X.env = [(false, eval a X.env), (false, eval b X.env)] := by rfl) (hs2 : starEach [b] X.env = [(false, eval b X.env)] := by rfl) :
    PI X tg (.Call (.Name "range" p) [a, b] [] pos) (iRng2 ta) := by
  intro pins s σ H R I h
  refine Call_ (ld_blt I hg hm boot_range (PyProof.Rows.callWith_type1 (thn (ha pos pins s σ H _ I h) fun us s1 ⟨vs, H1, I1, r1, q1⟩ => ?_) (by rw [hs, hs2]) (by rw [hs2]; rfl)))
  obtain ⟨i, j, e, ⟨q1, q2, q3, q4⟩, q⟩ := q1
  subst e
  cases r1 with
  | cons r rr =>
    cases rr with
    | cons r' rr =>
      cases rr
      obtain ⟨t, rfl⟩ := r
      obtain ⟨t', rfl⟩ := r'
      exact call_range_2 (range_it I1 q1 q2 q3 q4 q)
def tFor (wi : TI) (g : TG) (tb : TS) : TS := fun D σ H => wi σ H fun J H1 => ∃ W : Nat → Nat → St → Hp → Prop, (∃ m, W 0 m σ H1) ∧ ∀ i m σ H, W i m σ H →
  (J.stop i H ∧ D.nx σ H) ∨ (J.go i H ∧ ∃ N : St → Hp → Prop, (∀ σ' H', N σ' H' → ∃ m', m' < m ∧ W (i + 1) m' σ' H') ∧ ∀ x H', J.yld i H x H' → g x σ H' fun σ2 H2 => tb { D with nx := N, ct := N, bk := D.nx } σ2 H2)
def pinsAt (fp : List Addr) (h : Heap) : List (Addr × Obj) := fp.filterMap fun b => (h.get? b).map fun o => (b, o)
theorem mem_pinsAt {fp : List Addr} {h : Heap} {b : Addr} {o : Obj} (hb : b ∈ fp) (e : h.get? b = some o) : (b, o) ∈ pinsAt fp h := List.mem_filterMap.mpr ⟨b, hb, by rw [e]; rfl⟩
theorem of_pinsAt {fp : List Addr} {h : Heap} {p : Addr × Obj} (hp : p ∈ pinsAt fp h) : p.1 ∈ fp ∧ h.get? p.1 = some p.2 := by
  obtain ⟨b, hb, e⟩ := List.mem_filterMap.mp hp
  cases q : h.get? b with
  | none => rw [q] at e; cases e
  | some o =>
    rw [q] at e
    have e' : (b, o) = p := Option.some.inj e
    subst e'
    exact ⟨hb, q⟩
theorem Inv.pinned {pins : List (Addr × Obj)} {σ : St} {H : Hp} {s : Shared} {fp : List Addr} (I : Inv X pins σ H s) (hf : ∀ b ∈ fp, FpOk X pins H b) (ho : ∀ b ∈ fp, ∃ o, s.heap.get? b = some o ∧ ∀ v, o.data ≠ .cell v) : Inv X (pins ++ pinsAt fp s.heap) σ H s :=
  I.pins_of fun p hp => (List.mem_append.mp hp).elim (fun z => I.pin p (List.mem_append_right _ z)) fun z => by
    obtain ⟨hb, e⟩ := of_pinsAt z
    obtain ⟨f0, f1, f2, _⟩ := hf p.1 hb
    obtain ⟨o, e', d⟩ := ho p.1 hb
    rw [e] at e'; cases e'
    exact ⟨e, f0, f1, f2, d⟩
theorem Inv.unpinned {pins pl : List (Addr × Obj)} {σ : St} {H : Hp} {s : Shared} (I : Inv X (pins ++ pl) σ H s) : Inv X pins σ H s := I.pins_of fun p hp => I.pin p (List.mem_append_right _ (List.mem_append_left _ hp))
theorem ps_for {iter : Expr} {body : List Stmt} {wi : TI} {g : TG} {tb : TS} {pos : Pos} (hp : PassesOwn (model X.prog X.w) X.A X.env X.xe) (hc : X.calm = true) (hi : PI X tg iter wi) (hg : PG X tg g) (hb : PSs X body tb)
    (hs : ∀ x, foldedSetIterable iter X.env x = pure x := by intro _; rfl) : PS X (.For tg iter body [] pos) (tFor wi g tb) := by
  intro pins s σ H D I h
  refine wpAny_For (thn (hi pins s σ H _ I h) fun v s1 h1 => thn h1 fun itv s2 h2 => ?_) hs
  obtain ⟨it, fp, tn, J, H2, e, I2, T, st2, f2, W, ⟨m0, w0⟩, turn⟩ := h2
  subst e
  -- what stays true of the iterator's objects through the loop
  have stat : ∀ {H' : Hp}, (∀ b ∈ fp, H' b = none) → ∀ b ∈ fp, FpOk X pins H' b := fun hn b hb => ⟨hn b hb, (f2 b hb).2⟩
  refine codeAny_forLoop_any (fun n s' => ∃ i σ' H', Inv X pins σ' H' s' ∧ tn i s'.heap ∧ (∀ b ∈ fp, H' b = none) ∧ W i n σ' H') ?_ m0 ⟨0, σ, H2, I2, st2, fun b hb => (f2 b hb).1, w0⟩
  rintro n s3 ⟨i, σ3, H3, I3, st3, fr3, w3⟩
  rcases turn i n σ3 H3 w3 with ⟨stop, qn⟩ | ⟨go, N, hN, step⟩
  · refine wpAny_passesOwn hp (thn (T.done X rfl rfl rfl hc i pins s3 σ3 H3 X.xe I3 (stat fr3) st3 stop) fun r s4 ⟨hr, I4⟩ => ?_)
    subst hr
    exact wpAny_execs_nil ⟨σ3, H3, I4, qn⟩
  · refine wpAny_passesOwn hp (thn (T.item X rfl rfl rfl hc i pins s3 σ3 H3 X.xe I3 (stat fr3) st3 go) fun r s4 ⟨u, hr, h4⟩ => ?_)
    subst hr
    refine wpAny_passesOwn hp (thn h4 fun _ s5 ⟨x, H5, I5, r5, y5, st5, fr5⟩ => ?_)
    have I5' := I5.pinned (stat fr5) (T.obj _ _ st5)
    refine wpAny_passesOwn hp (thn (hg _ s5 σ3 H5 x u _ I5' r5 (step x H5 y5)) fun _ s6 ⟨σ6, H6, I6, q6⟩ => ?_)
    refine wpAny_passesOwn hp (thn (hb _ s6 σ6 H6 _ I6 q6) fun f s7 q7 => ?_)
    have again : ∀ {σ7 : St} {H7 : Hp}, Inv X (pins ++ pinsAt fp s5.heap) σ7 H7 s7 → N σ7 H7 → ∃ m, m < n ∧ ∃ i σ' H', Inv X pins σ' H' s7 ∧ tn i s7.heap ∧ (∀ b ∈ fp, H' b = none) ∧ W i m σ' H' := fun {σ7 H7} I7 n7 => by
      obtain ⟨m', hm, w7⟩ := hN σ7 H7 n7
      refine ⟨m', hm, i + 1, σ7, H7, I7.unpinned, T.keep _ _ _ st5 fun b hb o e => (I7.pin (b, o) (List.mem_append_right _ (List.mem_append_right _ (mem_pinsAt hb e)))).1, fun b hb => ?_, w7⟩
      obtain ⟨o, e, d⟩ := T.obj _ _ st5 b hb
      exact (I7.pin (b, o) (List.mem_append_right _ (List.mem_append_right _ (mem_pinsAt hb e)))).2.1
    cases f with
    | next => obtain ⟨σ7, H7, I7, n7⟩ := q7; exact again I7 n7
    | cont => obtain ⟨σ7, H7, I7, n7⟩ := q7; exact again I7 n7
    | brk => obtain ⟨σ7, H7, I7, q7⟩ := q7; exact ⟨σ7, H7, I7.unpinned, q7⟩
    | ret v => obtain ⟨x7, σ7, H7, I7, r7, q7⟩ := q7; exact ⟨x7, σ7, H7, I7.unpinned, r7, q7⟩
end
theorem for_list {K : PySem.W.Frag} {a : Addr} {xs : List V} {g : TG} {tb : TS} {D : Ends} {σ : St} {H : Hp} (Pv : Nat → St → Hp → Prop) (h0 : Pv 0 σ H) (hl : ∀ i σ H, i ≤ xs.length → Pv i σ H → SqL K H a xs)
    (hs : ∀ i x σ H, xs[i]? = some x → Pv i σ H → g x σ H fun σ2 H2 => tb { D with nx := Pv (i + 1), ct := Pv (i + 1), bk := D.nx } σ2 H2) (hd : ∀ σ H, Pv xs.length σ H → D.nx σ H) :
    ∃ W : Nat → Nat → St → Hp → Prop, (∃ m, W 0 m σ H) ∧ ∀ i m σ H, W i m σ H →
      ((Itl K a).stop i H ∧ D.nx σ H) ∨ ((Itl K a).go i H ∧ ∃ N : St → Hp → Prop, (∀ σ' H', N σ' H' → ∃ m', m' < m ∧ W (i + 1) m' σ' H') ∧ ∀ x H', (Itl K a).yld i H x H' → g x σ H' fun σ2 H2 => tb { D with nx := N, ct := N, bk := D.nx } σ2 H2) := by
  refine ⟨fun i m σ H => m = xs.length - i ∧ i ≤ xs.length ∧ Pv i σ H, ⟨xs.length, by simp, Nat.zero_le _, h0⟩, ?_⟩
  rintro i m σ H ⟨rfl, hi, p⟩
  have q := hl i σ H hi p
  by_cases hlt : i < xs.length
  · refine .inr ⟨⟨xs, xs[i], q, by simp [hlt]⟩, Pv (i + 1), fun σ' H' p' => ⟨xs.length - (i + 1), by omega, rfl, hlt, p'⟩, fun x H' y => ?_⟩
    obtain ⟨e, y⟩ := y
    subst e
    exact hs i x σ _ (y xs q) p
  · have e : i = xs.length := by omega
    subst e
    exact .inl ⟨⟨xs, q, Nat.le_refl _⟩, hd σ H p⟩
theorem for_range {lo : Int} {n : Nat} {g : TG} {tb : TS} {D : Ends} {σ : St} {H : Hp} (Pv : Nat → St → Hp → Prop) (h0 : Pv 0 σ H)
    (hs : ∀ i σ H, i < n → Pv i σ H → g (.int (lo + i)) σ H fun σ2 H2 => tb { D with nx := Pv (i + 1), ct := Pv (i + 1), bk := D.nx } σ2 H2) (hd : ∀ σ H, Pv n σ H → D.nx σ H) :
    ∃ W : Nat → Nat → St → Hp → Prop, (∃ m, W 0 m σ H) ∧ ∀ i m σ H, W i m σ H →
      ((Itr lo n).stop i H ∧ D.nx σ H) ∨ ((Itr lo n).go i H ∧ ∃ N : St → Hp → Prop, (∀ σ' H', N σ' H' → ∃ m', m' < m ∧ W (i + 1) m' σ' H') ∧ ∀ x H', (Itr lo n).yld i H x H' → g x σ H' fun σ2 H2 => tb { D with nx := N, ct := N, bk := D.nx } σ2 H2) := by
  refine ⟨fun i m σ H => m = n - i ∧ i ≤ n ∧ Pv i σ H, ⟨n, by simp, Nat.zero_le _, h0⟩, ?_⟩
  rintro i m σ H ⟨rfl, hi, p⟩
  by_cases hlt : i < n
  · refine .inr ⟨hlt, Pv (i + 1), fun σ' H' p' => ⟨n - (i + 1), by omega, rfl, hlt, p'⟩, fun x H' y => ?_⟩
    obtain ⟨e, y⟩ := y
    subst e y
    exact hs i σ _ hlt p
  · have e : i = n := by omega
    subst e
    exact .inl ⟨Nat.le_refl _, hd σ H p⟩
end L2
namespace L2
open PySem PySem.Spec PyProof.Rows
abbrev R2 := V → V → Hp → VK → Prop
def OpR (X : Cx) (f : Value → Value → Sem Value) (r : R2) : Prop :=
  ∀ (pins : List (Addr × Obj)) (s : Shared) (σ : St) (H : Hp) (x y : V) (v u : Value) (Q : VK), Inv X pins σ H s → RelV x v → RelV y u → r x y H Q →
    wpAny (model X.prog X.w) X.A (f v u) (EP X pins σ Q) X.xe s
def CallR (X : Cx) (f : Value) (r : List V → Hp → VK → Prop) : Prop :=
  ∀ (pins : List (Addr × Obj)) (s : Shared) (σ : St) (H : Hp) (xs : List V) (us : List Value) (Q : VK), Inv X pins σ H s → Vals xs us → r xs H Q →
    wpAny (model X.prog X.w) X.A (call f us) (EP X pins σ Q) X.xe s
def tOp (r : R2) (ta tb : TE) : TE := fun σ H Q => ta σ H fun x H1 => tb σ H1 fun y H2 => r x y H2 Q
def tUn (r : V → Hp → VK → Prop) (ta : TE) : TE := fun σ H Q => ta σ H fun x H1 => r x H1 Q
def rI (C : Int → Int → Prop) (g : Int → Int → V) : R2 := fun x y H Q => ∃ i j, x = .int i ∧ y = .int j ∧ C i j ∧ Q (g i j) H
def rI0 (g : Int → Int → V) : R2 := fun x y H Q => ∃ i j, x = .int i ∧ y = .int j ∧ Q (g i j) H
def rU (g : Int → V) : V → Hp → VK → Prop := fun x H Q => ∃ i, x = .int i ∧ Q (g i) H
section
variable {X : Cx} {a b c : Expr} {ta tb tc : TE} {pos : Pos}
theorem binT (ha : PE X a ta) (hb : PE X b tb) {pins : List (Addr × Obj)} {s : Shared} {σ : St} {H : Hp} {R : V → V → Hp → Prop} (I : Inv X pins σ H s)
    (h : ta σ H fun x H1 => tb σ H1 fun y H2 => R x y H2) {Q : Value → Shared → Prop} {f : Value → Value → Sem Value}
    (hf : ∀ v u s2 x y H2, Inv X pins σ H2 s2 → RelV x v → RelV y u → R x y H2 → wpAny (model X.prog X.w) X.A (f v u) Q X.xe s2) :
    wpAny (model X.prog X.w) X.A (eval a X.env) (fun v s₁ => wpAny (model X.prog X.w) X.A (eval b X.env) (fun u s₂ => wpAny (model X.prog X.w) X.A (f v u) Q X.xe s₂) X.xe s₁) X.xe s := by
  refine thn (ha pins s σ H _ I h) fun v s1 ⟨x, H1, I1, r1, q1⟩ => ?_
  refine thn (hb pins s1 σ H1 _ I1 q1) fun u s2 ⟨y, H2, I2, r2, q2⟩ => ?_
  exact hf v u s2 x y H2 I2 r1 r2 q2
theorem pe_op {op : Operator} {r : R2} (ho : OpR X (binaryOp op) r) (ha : PE X a ta) (hb : PE X b tb) : PE X (.BinOp a op b pos) (tOp r ta tb) := by
  intro pins s σ H Q I h
  exact wpAny_BinOp (binT ha hb I h fun v u s2 x y H2 I2 rx ry q => ho pins s2 σ H2 x y v u Q I2 rx ry q)
theorem opI {f : Value → Value → Sem Value} {C : Int → Int → Prop} {g : Int → Int → Int}
    (rule : ∀ (i j : Int) (t u : Tok) (s : Shared) (Q : Value → Shared → Prop) (E : Value → Shared → Prop), C i j → Q (.int (g i j) s.toks) { s with toks := s.toks + 1 } → wpAny (model X.prog X.w) X.A (f (.int i t) (.int j u)) Q E s) :
    OpR X f (rI C fun i j => .int (g i j)) := by
  intro pins s σ H x y v u Q I rx ry h
  obtain ⟨i, j, rfl, rfl, hc, q⟩ := h
  obtain ⟨t, rfl⟩ := rx
  obtain ⟨t', rfl⟩ := ry
  exact rule i j t t' s _ _ hc ⟨.int (g i j), H, I.tok _, ⟨_, rfl⟩, q⟩
theorem opI0 {f : Value → Value → Sem Value} {g : Int → Int → Int}
    (rule : ∀ (i j : Int) (t u : Tok) (s : Shared) (Q : Value → Shared → Prop) (E : Value → Shared → Prop), Q (.int (g i j) s.toks) { s with toks := s.toks + 1 } → wpAny (model X.prog X.w) X.A (f (.int i t) (.int j u)) Q E s) :
    OpR X f (rI0 fun i j => .int (g i j)) := by
  intro pins s σ H x y v u Q I rx ry h
  obtain ⟨i, j, rfl, rfl, q⟩ := h
  obtain ⟨t, rfl⟩ := rx
  obtain ⟨t', rfl⟩ := ry
  exact rule i j t t' s _ _ ⟨.int (g i j), H, I.tok _, ⟨_, rfl⟩, q⟩
theorem opB0 {f : Value → Value → Sem Value} {g : Int → Int → Bool}
    (rule : ∀ (i j : Int) (t u : Tok) (s : Shared) (Q : Value → Shared → Prop) (E : Value → Shared → Prop), Q (.bool (g i j)) s → wpAny (model X.prog X.w) X.A (f (.int i t) (.int j u)) Q E s) :
    OpR X f (rI0 fun i j => .bl (g i j)) := by
  intro pins s σ H x y v u Q I rx ry h
  obtain ⟨i, j, rfl, rfl, q⟩ := h
  obtain ⟨t, rfl⟩ := rx
  obtain ⟨t', rfl⟩ := ry
  exact rule i j t t' s _ _ ⟨.bl (g i j), H, I, rfl, q⟩
def CDiv (i j : Int) : Prop := 0 < j ∧ j < 1073741824
def CPow (i j : Int) : Prop := 0 ≤ j ∧ j ≤ 1000000 ∧ i.natAbs < 2 ^ 64
def CMul (i j : Int) : Prop := (-(2 ^ 64) < i ∧ i < 2 ^ 64) ∨ (-(2 ^ 64) < j ∧ j < 2 ^ 64)
theorem CMul.ok {i j : Int} (h : CMul i j) : IntMulOk i j := by
  rcases h with ⟨h1, h2⟩ | ⟨h1, h2⟩
  · exact .of_left (intBits_le_64 h1 h2)
  · exact .of_right (intBits_le_64 h1 h2)
theorem op_add : OpR X (binaryOp .Add) (rI0 fun i j => .int (i + j)) := opI0 fun _ _ _ _ _ _ _ q => add_int q
theorem op_sub : OpR X (binaryOp .Sub) (rI0 fun i j => .int (i - j)) := opI0 fun _ _ _ _ _ _ _ q => sub_int q
theorem op_mul : OpR X (binaryOp .Mult) (rI CMul fun i j => .int (i * j)) := opI fun _ _ _ _ _ _ _ hc q => mul_int q hc.ok
theorem op_fdiv : OpR X (binaryOp .FloorDiv) (rI CDiv fun i j => .int (i / j)) := opI fun i j _ _ _ _ _ hc q => by
  have h1 : (0 : Int) < j := hc.1
  have h2 : j < 1073741824 := hc.2
  exact floordiv_int (by omega) (by rw [Int.fdiv_eq_ediv_of_nonneg i (by omega)]; exact q) (.inl (PyProof.noPylong_small (by omega)))
theorem op_mod : OpR X (binaryOp .Mod) (rI (fun _ j => 0 < j) fun i j => .int (i % j)) := opI fun i j _ _ _ _ _ hc q => by
  have h1 : (0 : Int) < j := hc
  exact mod_int' (by omega) (by rw [Int.fmod_eq_emod_of_nonneg i (by omega)]; exact q)
theorem op_pow : OpR X (binaryOp .Pow) (rI CPow fun i j => .int (i ^ j.toNat)) := opI fun _ _ _ _ _ _ _ hc q => pow_int_small hc.1 hc.2.1 hc.2.2 q
end
def scal : V → V → Bool
  | .non, .non => true | .non, .int _ => true | .int _, .non => true | .non, .bl _ => true | .bl _, .non => true | .non, .str _ => true | .str _, .non => true
  | .int _, .int _ => true | .bl _, .bl _ => true | .str _, .str _ => true | .byt _, .byt _ => true
  | .int _, .str _ => true | .str _, .int _ => true | .bl _, .str _ => true | .str _, .bl _ => true
  | _, _ => false
def rEq : R2 := fun x y H Q => scal x y = true ∧ Q (.bl (decide (x = y))) H
def rNe : R2 := fun x y H Q => scal x y = true ∧ Q (.bl (!decide (x = y))) H
theorem dec_int {i j : Int} : decide (V.int i = V.int j) = (i == j) := by
  rw [Bool.eq_iff_iff]
  simp
theorem dec_bl {i j : Bool} : decide (V.bl i = V.bl j) = (i == j) := by
  rw [Bool.eq_iff_iff]
  simp
theorem dec_str {i j : Str} : decide (V.str i = V.str j) = (i == j) := by
  rw [Bool.eq_iff_iff]
  simp
theorem dec_byt {i j : Array UInt8} : decide (V.byt i = V.byt j) = (i.toList == j.toList) := by
  rw [Bool.eq_iff_iff]
  cases i
  cases j
  simp
section
variable {X : Cx} {a b c : Expr} {ta tb tc : TE} {pos : Pos}
theorem fin_bl {pins : List (Addr × Obj)} {σ : St} {H : Hp} {s : Shared} {Q : VK} {k k' : Bool} (I : Inv X pins σ H s) (q : Q (.bl k) H) (e : k = k') : EP X pins σ Q (.bool k') s := by
  subst e
  exact ⟨.bl k, H, I, rfl, q⟩
theorem op_eq : OpR X (compareOp .Eq) rEq := by
  intro pins s σ H x y v u Q I rx ry h
  obtain ⟨hs, q⟩ := h
  cases x with
  | non =>
    cases rx
    cases y with
    | non => cases ry; exact PySem.EqNone.eq_none_none (fin_bl I q (by simp))
    | bl j => cases ry; exact PySem.EqNone.eq_none_bool (fin_bl I q (by simp))
    | int j => obtain ⟨t', rfl⟩ := ry; exact PySem.EqNone.eq_none_int (fin_bl I q (by simp))
    | str j => obtain ⟨t', rfl⟩ := ry; exact PySem.EqNone.eq_none_str (fin_bl I q (by simp))
    | _ => exact absurd (show false = true from hs) Bool.false_ne_true
  | bl i =>
    cases rx
    cases y with
    | non => cases ry; exact PySem.EqNone.eq_bool_none (fin_bl I q (by simp))
    | bl j => cases ry; exact eq_bool (fin_bl I q dec_bl)
    | str j => obtain ⟨t', rfl⟩ := ry; exact PySem.EqMixed.eq_bool_str (fin_bl I q (by simp))
    | _ => exact absurd (show false = true from hs) Bool.false_ne_true
  | int i =>
    obtain ⟨t, rfl⟩ := rx
    cases y with
    | non => cases ry; exact PySem.EqNone.eq_int_none (fin_bl I q (by simp))
    | int j => obtain ⟨t', rfl⟩ := ry; exact eq_int (fin_bl I q dec_int)
    | str j => obtain ⟨t', rfl⟩ := ry; exact PySem.EqMixed.eq_int_str (fin_bl I q (by simp))
    | _ => exact absurd (show false = true from hs) Bool.false_ne_true
  | str i =>
    obtain ⟨t, rfl⟩ := rx
    cases y with
    | non => cases ry; exact PySem.EqNone.eq_str_none (fin_bl I q (by simp))
    | bl j => cases ry; exact PySem.EqMixed.eq_str_bool (fin_bl I q (by simp))
    | int j => obtain ⟨t', rfl⟩ := ry; exact PySem.EqMixed.eq_str_int (fin_bl I q (by simp))
    | str j => obtain ⟨t', rfl⟩ := ry; exact eq_str (fin_bl I q dec_str)
    | _ => exact absurd (show false = true from hs) Bool.false_ne_true
  | byt i =>
    obtain ⟨t, rfl⟩ := rx
    cases y with
    | byt j => obtain ⟨t', rfl⟩ := ry; exact PySem.W.eq_bytes (fin_bl I q dec_byt)
    | _ => exact absurd (show false = true from hs) Bool.false_ne_true
  | _ => cases y <;> exact absurd (show false = true from hs) Bool.false_ne_true
theorem op_ne : OpR X (compareOp .NotEq) rNe := by
  intro pins s σ H x y v u Q I rx ry h
  obtain ⟨hs, q⟩ := h
  cases x with
  | non =>
    cases rx
    cases y with
    | non => cases ry; exact PySem.EqNone.ne_none_none (fin_bl I q (by simp))
    | bl j => cases ry; exact PySem.EqNone.ne_none_bool (fin_bl I q (by simp))
    | int j => obtain ⟨t', rfl⟩ := ry; exact PySem.EqNone.ne_none_int (fin_bl I q (by simp))
    | str j => obtain ⟨t', rfl⟩ := ry; exact PySem.EqNone.ne_none_str (fin_bl I q (by simp))
    | _ => exact absurd (show false = true from hs) Bool.false_ne_true
  | bl i =>
    cases rx
    cases y with
    | non => cases ry; exact PySem.EqNone.ne_bool_none (fin_bl I q (by simp))
    | bl j => cases ry; exact ne_bool (fin_bl I q (congrArg not dec_bl))
    | str j => obtain ⟨t', rfl⟩ := ry; exact PySem.EqMixed.ne_bool_str (fin_bl I q (by simp))
    | _ => exact absurd (show false = true from hs) Bool.false_ne_true
  | int i =>
    obtain ⟨t, rfl⟩ := rx
    cases y with
    | non => cases ry; exact PySem.EqNone.ne_int_none (fin_bl I q (by simp))
    | int j => obtain ⟨t', rfl⟩ := ry; exact ne_int (fin_bl I q (congrArg not dec_int))
    | str j => obtain ⟨t', rfl⟩ := ry; exact PySem.EqMixed.ne_int_str (fin_bl I q (by simp))
    | _ => exact absurd (show false = true from hs) Bool.false_ne_true
  | str i =>
    obtain ⟨t, rfl⟩ := rx
    cases y with
    | non => cases ry; exact PySem.EqNone.ne_str_none (fin_bl I q (by simp))
    | bl j => cases ry; exact PySem.EqMixed.ne_str_bool (fin_bl I q (by simp))
    | int j => obtain ⟨t', rfl⟩ := ry; exact PySem.EqMixed.ne_str_int (fin_bl I q (by simp))
    | str j => obtain ⟨t', rfl⟩ := ry; exact ne_str (fin_bl I q (congrArg not dec_str))
    | _ => exact absurd (show false = true from hs) Bool.false_ne_true
  | byt i =>
    obtain ⟨t, rfl⟩ := rx
    cases y with
    | byt j => obtain ⟨t', rfl⟩ := ry; exact PySem.W.ne_bytes (fin_bl I q (congrArg not dec_byt))
    | _ => exact absurd (show false = true from hs) Bool.false_ne_true
  | _ => cases y <;> exact absurd (show false = true from hs) Bool.false_ne_true
theorem op_lt : OpR X (compareOp .Lt) (rI0 fun i j => .bl (decide (i < j))) := opB0 fun _ _ _ _ _ _ _ q => lt_int q
theorem op_gt : OpR X (compareOp .Gt) (rI0 fun i j => .bl (decide (j < i))) := opB0 fun _ _ _ _ _ _ _ q => gt_int q
theorem OpR.or {f : Value → Value → Sem Value} {r r' : R2} (h : OpR X f r) (h' : OpR X f r') : OpR X f (fun x y H Q => r x y H Q ∨ r' x y H Q) := by
  intro pins s σ H x y v u Q I rx ry q
  rcases q with q | q
  · exact h pins s σ H x y v u Q I rx ry q
  · exact h' pins s σ H x y v u Q I rx ry q
theorem nomark (b : Expr) {op : CmpOp} (h : op ≠ .In := by decide) (h2 : op ≠ .NotIn := by decide) : behindInMarks op b = false := by
  have e1 : (op == CmpOp.In) = false := by cases op <;> first | rfl | exact absurd rfl h
  have e2 : (op == CmpOp.NotIn) = false := by cases op <;> first | rfl | exact absurd rfl h2
  cases b <;> simp [behindInMarks, e1, e2]
theorem pe_cmpR {op : CmpOp} {r : R2} (ho : OpR X (compareOp op) r) (ha : PE X a ta) (hb : PE X b tb) (hm : behindInMarks op b = false) : PE X (.Compare a [op] [b] pos) (tOp r ta tb) := by
  intro pins s σ H Q I h
  exact wpAny_Compare1 (binT ha hb I h fun v u s2 x y H2 I2 rx ry q => ho pins s2 σ H2 x y v u Q I2 rx ry q) hm
def tTest (t : TE) : TT := fun σ H Q => t σ H fun x H' => ∃ k, x = .bl k ∧ Q k H'
theorem pt_cmpR {op : CmpOp} {r : R2} (ho : OpR X (compareOp op) r) (ha : PE X a ta) (hb : PE X b tb) (hm : behindInMarks op b = false) : PT X (.Compare a [op] [b] pos) (tTest (tOp r ta tb)) := by
  intro pins s σ H Q I h
  refine wpAny_isTrue_Compare1 (thn (ha pins s σ H _ I h) fun v s1 ⟨x, H1, I1, r1, q1⟩ => thn (hb pins s1 σ H1 _ I1 q1) fun u s2 ⟨y, H2, I2, r2, q2⟩ =>
    thn (ho pins s2 σ H2 x y v u _ I2 r1 r2 q2) fun c s3 ⟨z, H3, I3, r3, k, e, q3⟩ => ?_) hm
  subst e
  cases r3
  exact wpAny_truthy_bool ⟨H3, I3, q3⟩
def tChain (r r' : R2) (ta tb tc : TE) : TE := fun σ H Q => ta σ H fun x H1 => tb σ H1 fun y H2 => r x y H2 fun z H3 => ∃ k, z = .bl k ∧
  (if k = true then tc σ H3 fun w' H4 => r' y w' H4 Q else Q (.bl false) H3)
theorem line63 : (sizeLine : Nat) < 2 ^ 63 := by rw [sizeLine_eq]; decide
theorem vals1 {x : V} {us : List Value} (r : Vals [x] us) : ∃ u, us = [u] ∧ RelV x u := by
  cases r with
  | cons r1 r2 => cases r2; exact ⟨_, rfl, r1⟩
theorem vals2 {x y : V} {us : List Value} (r : Vals [x, y] us) : ∃ u w', us = [u, w'] ∧ RelV x u ∧ RelV y w' := by
  cases r with
  | cons r1 r2 =>
    cases r2 with
    | cons r3 r4 => cases r4; exact ⟨_, _, rfl, r1, r3⟩
theorem call_int1 : CallR X (.type "int") (fun xs H Q => (∃ i, xs = [.int i] ∧ Q (.int i) H) ∨ ∃ k, xs = [.bl k] ∧ Q (.int (if k then 1 else 0)) H) := by
  intro pins s σ H xs us Q I r h
  rcases h with ⟨i, rfl, q⟩ | ⟨k, rfl, q⟩
  · obtain ⟨u, rfl, t, rfl⟩ := vals1 r
    exact call_int_int ⟨.int i, H, I, ⟨_, rfl⟩, q⟩
  · obtain ⟨u, rfl, r1⟩ := vals1 r
    cases r1
    exact call_int_bool ⟨.int (if k then 1 else 0), H, I.tok _, ⟨_, rfl⟩, q⟩
end
end L2
namespace L2
open PySem PySem.Spec PyProof.Rows
structure ObjM (h : Heap) (x dx C : Addr) (mA : Str → Option Value) : Prop where
  obj : h.get? x = some (PySem.W.instObj C dx)
  ns : h.Ns1 dx mA
  ne : dx ≠ x
theorem lookIn_ns {h : Heap} {dx : Addr} {mA : Str → Option Value} (n : h.Ns1 dx mA) : ∃ od, h.get? dx = some od ∧ ∀ name, PySem.W.lookIn name od = some (mA name) := by
  obtain ⟨o, es, ep, ho, hd, hk, _, hm⟩ := n
  refine ⟨o, ho, fun name => ?_⟩
  have e := hm name
  unfold nsFind findBy at e
  rw [← Array.find?_toList] at e
  unfold PySem.W.lookIn
  rw [hd]
  dsimp only
  split
  · rename_i y q
    rw [q] at e
    exact congrArg some e
  · rename_i q
    rw [q] at e
    have a : es.toList.any (·.refKey) = false := by
      rw [List.any_eq_false]
      intro y hy
      obtain ⟨z, t, hkey⟩ := hk y (Array.mem_toList_iff.mp hy)
      simp [DictEntry.refKey, hkey]
    have a' : ¬ es.toList.any (·.refKey) = true := by rw [a]; exact Bool.false_ne_true
    rw [if_neg a']
    exact congrArg some e
theorem ObjM.look {h : Heap} {x dx C : Addr} {mA : Str → Option Value} (I : ObjM h x dx C mA) : ∃ od, PySem.W.InstAt h x (PySem.W.instObj C dx) C (some od) ∧ ∀ name, PySem.W.lookIn name od = some (mA name) :=
  let ⟨od, ho, hl⟩ := lookIn_ns I.ns
  ⟨od, ⟨I.obj, rfl, rfl, ho⟩, hl⟩
section
variable {prog : Program} {w : World} {A : Around} {E : Value → Shared → Prop} {s : Shared} {K : PySem.W.Frag} {x dx C f : Addr} {mA : Str → Option Value} {name : Str} {v : Value}
end
theorem RelO.some_of {v : V} {o : Option Value} (r : RelO (some v) o) : ∃ u, o = some u ∧ RelV v u := by
  cases o with
  | none => exact (show False from r).elim
  | some u => exact ⟨u, rfl, r⟩
theorem RelO.none_of {o : Option Value} (r : RelO none o) : o = none := by
  cases o with
  | none => rfl
  | some u => exact (show False from r).elim
section
variable {P : Program} {w : World} {H H' : Hp} {h h' : Heap} {a C dx : Addr} {fs fs' : List (Str × V)}
theorem ins_get (hok : HOk P w H h) (e : H a = some (.ins C dx fs)) : ∃ mA, ObjM h a dx C mA ∧ (∀ f, RelO (fs.lookup f) (mA f)) ∧ PySem.Within mA (fs.map (·.1)) ∧ fs.length ≤ 1000 ∧ H dx = some (.own a) := by
  obtain ⟨d, z, ne, ob, mA, n, r, q⟩ := (show ObjOk P w H h a (.ins C dx fs) from hok a _ e)
  exact ⟨mA, ⟨ob, n, ne⟩, r, q, z, d⟩
end
structure Cls (K : PySem.W.Frag) (C : Addr) : Prop where
  pg : PySem.W.plainGet K C Str.empty = true
  hd : PySem.W.hasDictIn K C = true
  po : PySem.W.plainOver K C = true
  sa : PySem.W.findIn K (.ref C) "__setattr__" = some (some (.builtin "object.__setattr__"))
theorem Cls.get {K : PySem.W.Frag} {C : Addr} (c : Cls K C) (f : Str) : PySem.W.plainGet K C f = true := c.pg
section
variable {X : Cx} {pins : List (Addr × Obj)} {σ : St} {H : Hp} {s : Shared} {a C dx : Addr} {fs : List (Str × V)} {f : Str} {v : V} {A : Around} {E : Value → Shared → Prop}
end
section
variable {X : Cx} {o e value : Expr} {f : Str} {pos pos' tpos : Pos} {ta tv : TE}
end
section
variable {X : Cx} {pins : List (Addr × Obj)} {σ : St} {H : Hp} {s : Shared} {A : Around} {E : Value → Shared → Prop} {Q : Value → Shared → Prop} {c : Value} {b : Bool}
inductive TyOf (K : PySem.W.Frag) (H : Hp) : V → Value → Prop where
  | non : TyOf K H .non (.type "NoneType")
  | bl (x : Bool) : TyOf K H (.bl x) (.type "bool")
  | int (i : Int) : TyOf K H (.int i) (.type "int")
  | str (x : Str) : TyOf K H (.str x) (.type "str")
  | flt (x : UInt64) : TyOf K H (.flt x) (.type "float")
  | lst {a : Addr} {xs : List V} (e : H a = some (.lst xs)) : TyOf K H (.ref a) (.type "list")
  | frz {a : Addr} {o : Obj} {xs : List V} (e : H a = some (.frz o (.lst xs))) : TyOf K H (.ref a) (.type "list")
  | tup {a : Addr} {xs : List V} (e : H a = some (.tup xs)) : TyOf K H (.ref a) (.type "tuple")
  | dK {a : Addr} {kvs : List (Key × V)} (e : H a = some (.dK kvs)) : TyOf K H (.ref a) (.type "dict")
  | dT {a : Addr} {kvs : List (List Key × V)} (e : H a = some (.dT kvs)) : TyOf K H (.ref a) (.type "dict")
  | ins {a C dx : Addr} {fs : List (Str × V)} (e : H a = some (.ins C dx fs)) (cl : Cls K C) (ha : PySem.W.findIn K (.ref C) "__class__" = some (some (.builtin "object.__class__")))
      (hn : PySem.W.specialIn K (.builtin "object.__class__") "__get__" = some (some (.builtin "getset_descriptor.__get__"))) (htk : PySem.W.takesIn K (.builtin "object.__class__") = some true)
      (hm : PySem.W.mroIn K C (.type "object") = some true) : TyOf K H (.ref a) (.ref C)
theorem isinst_ok {x : V} {u t : Value} (I : Inv X pins σ H s) (rx : RelV x u) (ty : TyOf X.K H x t) (e : PySem.W.kitOne X.K t c = some b) (h : ∀ tk, Q (.bool b) { s with toks := tk }) :
    wpAny (model X.prog X.w) A (call (.builtin "isinstance") [u, c]) Q E s := by
  cases ty with
  | non => cases (show u = Value.none from rx); exact PySem.W.kia_one PySem.W.kitx_none I.kIn True.intro e (fun z => nomatch z) h
  | bl y => cases (show u = Value.bool y from rx); exact PySem.W.kia_one PySem.W.kitx_bool I.kIn True.intro e (fun z => nomatch z) h
  | int i => obtain ⟨t, q⟩ := (show ∃ t, u = Value.int i t from rx); cases q; exact PySem.W.kia_one PySem.W.kitx_int I.kIn True.intro e (fun z => nomatch z) h
  | str y => obtain ⟨t, q⟩ := (show ∃ t, u = Value.str y t from rx); cases q; exact PySem.W.kia_one PySem.W.kitx_str I.kIn True.intro e (fun z => nomatch z) h
  | flt y => obtain ⟨t, q⟩ := (show ∃ t, u = Value.float y t from rx); cases q; exact PySem.W.kia_one PySem.W.kitx_float I.kIn True.intro e (fun z => nomatch z) h
  | @lst a xs ea =>
    cases (show u = Value.ref a from rx)
    obtain ⟨_, _, n, _, h1⟩ := (show ObjOk X.prog X.w H s.heap a (.lst xs) from I.hok a _ ea)
    exact PySem.W.kia_one PySem.W.kitx_list I.kIn ⟨_, h1, rfl⟩ e (fun z => nomatch z) h
  | @frz a ob xs ea =>
    cases (show u = Value.ref a from rx)
    obtain ⟨_, _, _, n, _, h1⟩ := (show ObjOk X.prog X.w H s.heap a (.frz ob (.lst xs)) from I.hok a _ ea)
    exact PySem.W.kia_one PySem.W.kitx_list I.kIn ⟨_, h1, rfl⟩ e (fun z => nomatch z) h
  | @tup a xs ea =>
    cases (show u = Value.ref a from rx)
    obtain ⟨_, _, _, p⟩ := (show ObjOk X.prog X.w H s.heap a (.tup xs) from I.hok a _ ea)
    obtain ⟨o, h1, h2, _⟩ := p
    exact PySem.W.kia_one PySem.W.kitx_tuple I.kIn ⟨o, h1, h2⟩ e (fun z => nomatch z) h
  | @dK a kvs ea =>
    cases (show u = Value.ref a from rx)
    obtain ⟨_, _, vs, _, p⟩ := (show ObjOk X.prog X.w H s.heap a (.dK kvs) from I.hok a _ ea)
    obtain ⟨o, es, ep, h1, h2, _⟩ := p
    exact PySem.W.kia_one PySem.W.kitx_dict I.kIn ⟨o, h1, h2.1⟩ e (fun z => nomatch z) h
  | @dT a kvs ea =>
    cases (show u = Value.ref a from rx)
    obtain ⟨_, _, xs, _, o, es, ep, h1, h2, _⟩ := (show ObjOk X.prog X.w H s.heap a (.dT kvs) from I.hok a _ ea)
    exact PySem.W.kia_one PySem.W.kitx_dict I.kIn ⟨o, h1, h2.1⟩ e (fun z => nomatch z) h
  | @ins a C dx fs ea cl ha hn htk hm =>
    cases (show u = Value.ref a from rx)
    obtain ⟨mA, O, _⟩ := ins_get I.hok ea
    obtain ⟨od, J, _⟩ := O.look
    exact PySem.W.kia_one (PySem.W.kitx_own (cl.get _) cl.hd ha hn htk hm) I.kIn J e (fun z => nomatch z) h
end
end L2
namespace L2
open PySem PySem.Spec PyProof.Rows
structure Room (k : Nat) (A : Around) : Prop where
  hd : A.handled = none
  dp : A.depth + 3 * k + 5 < recursionLimit
  un : A.units + 16 * k + 200 < cLine
theorem Room.mono {j k : Nat} {A : Around} (r : Room k A) (h : j ≤ k) : Room j A := ⟨r.hd, by have := r.dp; omega, by have := r.un; omega⟩
theorem Room.deeper {k : Nat} {A : Around} (r : Room (k + 1) A) (env : Env) : Room k (A.deeper env) :=
  ⟨r.hd, by have := r.dp; show A.depth + 1 + 3 * k + 5 < _; omega, by have := r.un; show A.units + 3 + 16 * k + 200 < _; omega⟩
theorem Room.in1 {k : Nat} {A : Around} (r : Room (k + 1) A) : Room k A.in1 :=
  ⟨r.hd, by have := r.dp; show A.depth + 3 * k + 5 < _; omega, by have := r.un; show A.units + 1 + 16 * k + 200 < _; omega⟩
theorem Room.depth {k : Nat} {A : Around} (r : Room k A) : A.depth < recursionLimit := by have := r.dp; omega
theorem Room.units {k : Nat} {A : Around} (r : Room k A) : A.units + 64 < cLine := by have := r.un; omega
def tNil : TA := fun _ H Q => Q [] H
def tCons (ta : TE) (tr : TA) : TA := fun σ H Q => ta σ H fun x H1 => tr σ H1 fun xs H2 => Q (x :: xs) H2
section
variable {X : Cx} {e : Expr} {es : List Expr} {te : TE} {t : TA} {pos : Pos}
theorem pa_nil : PA X [] tNil := fun _ _ _ _ H Q I h => Calls.spliced_nil ⟨[], H, I, .nil, h⟩
theorem pa_cons (ha : PE X e te) (hr : PA X es t) (hs : starEach (e :: es) X.env = (false, eval e X.env) :: starEach es X.env := by rfl) : PA X (e :: es) (tCons te t) := by
  intro pos pins s σ H Q I h
  rw [hs]
  show wpAny _ _ (spliced ((false, eval e X.env) :: backTo pos (starEach es X.env))) _ _ s
  refine Calls.spliced_cons (thn (ha pins s σ H _ I h) fun u s1 ⟨x, H1, I1, r1, q1⟩ => ?_)
  exact thn (hr pos pins s1 σ H1 _ I1 q1) fun us s2 ⟨xs, H2, I2, r2, q2⟩ => ⟨x :: xs, H2, I2, .cons r1 r2, q2⟩
def tTup (t : TA) : TE := fun σ H Q => t σ H fun xs H1 => xs.length ≤ sizeLine ∧ ∀ p, H1 p = none → Q (.ref p) (upd H1 p (.tup xs))
def tLst (t : TA) : TE := fun σ H Q => t σ H fun xs H1 => xs.length ≤ sizeLine ∧ ∀ p, H1 p = none → Q (.ref p) (upd H1 p (.lst xs))
theorem pe_tup {x1} (h : PA X es t) : PE X (.Tuple es x1 pos) (tTup t) := by
  intro pins s σ H Q I hq
  refine wpAny_Tuple_spliced (thn (h pos pins s σ H _ I hq) fun us s1 ⟨xs, H1, I1, r, z, q⟩ => ⟨by rw [← r.length]; exact z, ?_⟩)
  have hf : H1 s1.heap.objs.size = none := I1.hok.fresh (Nat.le_refl _)
  refine ⟨.ref s1.heap.objs.size, upd H1 s1.heap.objs.size (.tup xs), I1.laid (t' := s1.toks) (fun b u e => Heap.get?_push_of_some _ e) (Nat.le_refl _) ?_, rfl, q _ hf⟩
  exact ⟨z, us, r, ⟨_, Heap.get?_push_size _ rfl, rfl, _, rfl⟩⟩
theorem pe_lst (h : PA X es t) : PE X (.List es pos) (tLst t) := by
  intro pins s σ H Q I hq
  refine wpAny_List_spliced (thn (h pos pins s σ H _ I hq) fun us s1 ⟨xs, H1, I1, r, z, q⟩ => ⟨by rw [← r.length]; exact z, ?_⟩)
  have hf : H1 s1.heap.objs.size = none := I1.hok.fresh (Nat.le_refl _)
  refine ⟨.ref s1.heap.objs.size, upd H1 s1.heap.objs.size (.lst xs), I1.laid (t' := s1.toks) (fun b u e => Heap.get?_push_of_some _ e) (Nat.le_refl _) ?_, rfl, q _ hf⟩
  exact ⟨z, us, 0, r, Heap.get?_push_size _ rfl⟩
end
abbrev Sp := List V → Hp → VK → XK → Prop
abbrev CXT := List Env → Hp → Shared → XK → Value → Shared → Prop
structure Env0 (P : Program) (w : World) (K : PySem.W.Frag) (mg : Str → Option Value) (base : Heap) (A : Around) (outer : List Env) (s : Shared) (H : Hp) : Prop where
  frames : A.frames = some outer
  mod : Mod K mg base
  bs : ∀ b o, base.get? b = some o → s.heap.get? b = some o ∧ H b = none
  bsz : base.objs.size ≤ s.heap.objs.size
  funs : s.heap.FunFrames base outer
  frf : ∀ b ∈ frs outer, H b = none
  hok : HOk P w H s.heap
  bare : AllBare s.gens
def CE (outer : List Env) (P : Program) (w : World) (H : Hp) (s : Shared) (Q : VK) (u : Value) (s' : Shared) : Prop :=
  ∃ v H', s'.os = s.os ∧ AllBare s'.gens ∧ Un (frs outer) [] H H' s.heap s'.heap ∧ HOk P w H' s'.heap ∧ RelV v u ∧ Q v H'
def CR (CX : CXT) (outer : List Env) (P : Program) (w : World) (H : Hp) (s : Shared) (Q : VK) (E : XK) (r : Result) (s' : Shared) : Prop :=
  match r with
  | .ok (.ret u) => CE outer P w H s Q u s'
  | .ok _ => False
  | .error e => CX outer H s E e s'
structure FnOk (P : Program) (w : World) (K : PySem.W.Frag) (mg : Str → Option Value) (base : Heap) (CX : CXT) (k : Nat) (f : Addr) (fd : FuncData) (ps : List Str) (sp : Sp) : Prop where
  len : ∀ vs H Q E, sp vs H Q E → vs.length = ps.length
  run : ∀ (A : Around) (outer : List Env) (s : Shared) (H : Hp) (args : Args) (us : List Value) (vs : List V) (Q : VK) (E : XK), Room k A → Env0 P w K mg base A outer s H → BindsTo s fd args (ps.zip us) → Vals vs us → sp vs H Q E →
    codeAny (model P w) A (.call (.ref f) args) (CR CX outer P w H s Q E) s
theorem FnOk.mono {P : Program} {w : World} {K : PySem.W.Frag} {mg : Str → Option Value} {base : Heap} {CX : CXT} {j k : Nat} {f : Addr} {fd : FuncData} {ps : List Str} {sp : Sp} (F : FnOk P w K mg base CX j f fd ps sp) (h : j ≤ k) :
    FnOk P w K mg base CX k f fd ps sp := ⟨F.len, fun A outer s H args us vs Q E hr => F.run A outer s H args us vs Q E (hr.mono h)⟩
theorem Env0.in1 {P : Program} {w : World} {K : PySem.W.Frag} {mg : Str → Option Value} {base : Heap} {A : Around} {outer : List Env} {s : Shared} {H : Hp} (e : Env0 P w K mg base A outer s H) :
    Env0 P w K mg base A.in1 outer s H := ⟨e.frames, e.mod, e.bs, e.bsz, e.funs, e.frf, e.hok, e.bare⟩
section
variable {X : Cx} {pins : List (Addr × Obj)} {σ : St} {H : Hp} {s s' : Shared}
theorem Inv.env0 (I : Inv X pins σ H s) : Env0 X.prog X.w X.K X.mg X.base X.A X.stack s H :=
  ⟨I.ok.frames, I.ok.mod, I.bs, Nat.le_trans I.ok.bsz I.sz, I.stack, I.stkFree, I.hok, I.bare⟩
theorem Inv.after {Q : VK} {u : Value} (I : Inv X pins σ H s) (h : CE X.stack X.prog X.w H s Q u s') : EP X pins σ Q u s' := by
  obtain ⟨v, H', os, bare, un, hok, r, q⟩ := h
  obtain ⟨hh, g, d, t, os'⟩ := s'
  obtain rfl : os' = s.os := os
  exact ⟨v, H', I.call (h' := hh) (g' := g) (d' := d) (t' := t) (ch := []) un hok bare (fun b z => absurd z (by simp)), r, q⟩
end
def tCall (sp : Sp) (dvs : List V) (E : XK) (t : TA) : TE := fun σ H Q => t σ H fun vs H1 => sp (vs ++ dvs) H1 Q E
def Binds (K : PySem.W.Frag) (fd : FuncData) (ps : List Str) (ds : List Value) : Prop :=
  ∀ (s : Shared) (us : List Value), K.In s.heap → (us ++ ds).length = ps.length → BindsTo s fd ⟨us, []⟩ (ps.zip (us ++ ds))
theorem Binds.all {K : PySem.W.Frag} {fd : FuncData} {ps : List Str} (h : ∀ us : List Value, us.length = ps.length → bindArgs fd ⟨us, []⟩ = pure (ps.zip us)) : Binds K fd ps [] := fun s us _ hl => by
  rw [List.append_nil] at hl ⊢
  exact .of_eq (h us hl)
def Passes (CX : CXT) (X : Cx) (E : XK) : Prop := ∀ (pins : List (Addr × Obj)) (σ : St) (H : Hp) (s : Shared) (e : Value) (s' : Shared), Inv X pins σ H s → CX X.stack H s E e s' → X.xe e s'
section
variable {X : Cx} {CX : CXT} {k : Nat} {f C : Addr} {fd : FuncData} {ps : List Str} {sp : Sp} {dvs : List V} {ds : List Value} {E : XK} {x m : Str} {p pos apos : Pos} {e o : Expr} {es : List Expr} {ta : TE} {t : TA}
theorem run_fn {pins : List (Addr × Obj)} {σ : St} {H : Hp} {s : Shared} {Q : VK} {us : List Value} {vs : List V} (F : FnOk X.prog X.w X.K X.mg X.base CX k f fd ps sp) (hr : Room k X.A) (hb : Binds X.K fd ps ds) (hd : Vals dvs ds) (hx : Passes CX X E)
    (I : Inv X pins σ H s) (r : Vals vs us) (h : sp (vs ++ dvs) H Q E) : wpAny (model X.prog X.w) X.A (call (.ref f) us) (EP X pins σ Q) X.xe s := by
  have r2 : Vals (vs ++ dvs) (us ++ ds) := r.append hd
  have hl : (us ++ ds).length = ps.length := by rw [← r2.length]; exact F.len _ _ _ _ h
  refine wpAny_call (codeAny_mono (F.run X.A X.stack s H ⟨us, []⟩ (us ++ ds) (vs ++ dvs) Q E hr I.env0 (hb s us I.kIn hl) r2 h) fun r s' hq => ?_)
  cases r with
  | error e => exact hx pins σ H s e s' I hq
  | ok fl =>
    cases fl with
    | ret u => exact I.after hq
    | next => exact False.elim hq
    | brk => exact False.elim hq
    | cont => exact False.elim hq
theorem pe_call (F : FnOk X.prog X.w X.K X.mg X.base CX k f fd ps sp) (hr : Room k X.A) (hg : Gl X x) (hm : X.mg x = some (.ref f)) (hk : PySem.W.keepIn X.K (.ref f) = true) (hb : Binds X.K fd ps ds) (hd : Vals dvs ds) (hx : Passes CX X E)
    (ha : PA X (e :: es) t) (hdb : (x == ("__debug__" : Str)) = false := by decide) (he : starEach (e :: es) X.env = (false, eval e X.env) :: starEach es X.env := by rfl) (hpl : (backTo pos (starEach es X.env)).any (·.1) = false := by rfl) :
    PE X (.Call (.Name x p) (e :: es) [] pos) (tCall sp dvs E t) := by
  intro pins s σ H Q I h
  refine wpAny_Call_Name_kw (ld_glob I hg hm ?_ hdb)
  refine PySem.W.callWith_K (h₀ := X.base) I.ok.mod.kin hk (thn (ha pos pins s σ H _ I h) fun us s1 ⟨vs, H1, I1, r, q⟩ => ⟨I1.kIn, ?_⟩) he hpl
  exact run_fn F hr hb hd hx I1 r q
theorem pe_call0 (F : FnOk X.prog X.w X.K X.mg X.base CX k f fd ps sp) (hr : Room k X.A) (hg : Gl X x) (hm : X.mg x = some (.ref f)) (hk : PySem.W.keepIn X.K (.ref f) = true) (hb : Binds X.K fd ps ds) (hd : Vals dvs ds) (hx : Passes CX X E)
    (hdb : (x == ("__debug__" : Str)) = false := by decide) : PE X (.Call (.Name x p) [] [] pos) (tCall sp dvs E tNil) := by
  intro pins s σ H Q I h
  refine wpAny_Call_Name_kw (ld_glob I hg hm ?_ hdb)
  exact PySem.W.callWith_K0 I.kIn hk (run_fn (us := []) F hr hb hd hx I .nil h)
end
section
variable {X : Cx} {CX : CXT} {k : Nat} {f C : Addr} {fd : FuncData} {ps ks : List Str} {sp : Sp} {E : XK} {x m : Str} {p pos apos kpos : Pos} {e o : Expr} {es : List Expr} {kws : List Keyword} {te ta : TE} {t tk : TA} {nm : Option Str}
variable {g : List Value → List Value → List Value} {gV : List V → List V → List V}
end
structure FnScope (N P : List Str) (sc : Scope) : Prop where
  kind : sc.kind = .function
  co : sc.isCoroutine = false
  gen : sc.isGenerator = false
  nd : N.Nodup
  pre : N.take P.length = P
  par : ∀ x ∈ P, sc.names.lookup x = some .local ∨ sc.names.lookup x = some .cell
  nofree : ∀ y ∈ sc.names, y.2 ≠ .free
theorem bindL_out {kindOf : Str → Option NameKind} {x : Str} : ∀ {binds : List (Str × Value)} {m : Str → Option Value}, (∀ v, (x, v) ∉ binds) → bindL kindOf binds m x = m x
  | [], _, _ => rfl
  | (n, v) :: r, m, h => by
    unfold bindL
    rw [bindL_out fun w hw => h w (List.mem_cons_of_mem _ hw)]
    split
    · have : x ≠ n := by rintro rfl; exact h v List.mem_cons_self
      simp [this]
    · rfl
theorem bindC_out {kindOf : Str → Option NameKind} {x : Str} : ∀ {binds : List (Str × Value)} {m : Str → Option Value}, (∀ v, (x, v) ∉ binds) → bindC kindOf binds m x = m x
  | [], _, _ => rfl
  | (n, v) :: r, m, h => by
    unfold bindC
    rw [bindC_out fun w hw => h w (List.mem_cons_of_mem _ hw)]
    split
    · rfl
    · have : x ≠ n := by rintro rfl; exact h v List.mem_cons_self
      simp [this]
theorem bindL_get {kindOf : Str → Option NameKind} {x : Str} {v : Value} : ∀ {P : List Str} {vs : List Value} {i : Nat} {m : Str → Option Value}, P.Nodup → P[i]? = some x → vs[i]? = some v → kindOf x = some .local →
    bindL kindOf (P.zip vs) m x = some v
  | [], _, _, _, _, h, _, _ => by simp at h
  | _ :: _, [], _, _, _, _, h, _ => by simp at h
  | p :: P, w :: vs, 0, m, nd, h1, h2, hk => by
    simp at h1 h2; subst h1; subst h2
    show bindL kindOf ((p, w) :: P.zip vs) m p = _
    unfold bindL
    rw [bindL_out fun v hv => (List.nodup_cons.mp nd).1 (List.of_mem_zip hv).1, if_pos hk]
    simp
  | p :: P, w :: vs, i + 1, m, nd, h1, h2, hk => by
    show bindL kindOf ((p, w) :: P.zip vs) m x = _
    unfold bindL
    exact bindL_get (i := i) (List.nodup_cons.mp nd).2 (by simpa using h1) (by simpa using h2) hk
theorem bindC_get {kindOf : Str → Option NameKind} {x : Str} {v : Value} : ∀ {P : List Str} {vs : List Value} {i : Nat} {m : Str → Option Value}, P.Nodup → P[i]? = some x → vs[i]? = some v → kindOf x ≠ some .local →
    bindC kindOf (P.zip vs) m x = some v
  | [], _, _, _, _, h, _, _ => by simp at h
  | _ :: _, [], _, _, _, _, h, _ => by simp at h
  | p :: P, w :: vs, 0, m, nd, h1, h2, hk => by
    simp at h1 h2; subst h1; subst h2
    show bindC kindOf ((p, w) :: P.zip vs) m p = _
    unfold bindC
    rw [bindC_out fun v hv => (List.nodup_cons.mp nd).1 (List.of_mem_zip hv).1, if_neg hk]
    simp
  | p :: P, w :: vs, i + 1, m, nd, h1, h2, hk => by
    show bindC kindOf ((p, w) :: P.zip vs) m x = _
    unfold bindC
    exact bindC_get (i := i) (List.nodup_cons.mp nd).2 (by simpa using h1) (by simpa using h2) hk
def start (N : List Str) (vs : List V) : St := vs.map some ++ List.replicate (N.length - vs.length) none
def cxOf (CX : CXT) (P : Program) (w : World) (K : PySem.W.Frag) (mg : Str → Option Value) (base : Heap) (N : List Str) (qual : Str) (scope : Scope) (f : Addr) (cd : Value) (A : Around) (outer : List Env) (s : Shared) (H : Hp) (E : XK) : Cx where
  prog := P
  w := w
  K := K
  mg := mg
  base := base
  A := A.deeper (envOfC qual scope s.heap.objs.size f cd)
  N := N
  s₀ := s
  H₀ := H
  env := envOfC qual scope s.heap.objs.size f cd
  outer := outer
  stack := envOfC qual scope s.heap.objs.size f cd :: outer
  ex := []
  calm := true
  fn := fun _ => true
  pn := []
  xe := fun e s' => wpAny (model P w) (A.deeper (envOfC qual scope s.heap.objs.size f cd)) (leaving (envOfC qual scope s.heap.objs.size f cd) e) (fun _ s'' => CX outer H s E e s'') (fun e' s'' => CX outer H s E e' s'') s'
theorem cell_has {sc : Scope} {n : Nat} {x : Str} (h : sc.names.lookup x = some .cell) : ∃ c, (cellsFrom n sc.names []).lookup x = some c := by
  have q := PySem.W.cellsFrom_some sc.names n [] (.inl h)
  exact Option.isSome_iff_exists.mp q
theorem inv_start {CX : CXT} {P : Program} {w : World} {K : PySem.W.Frag} {mg : Str → Option Value} {base : Heap} {N ps : List Str} {qual : Str} {scope : Scope} {f : Addr} {cd : Value} {A : Around} {outer : List Env} {s s1 : Shared} {H : Hp} {E : XK} {us : List Value} {vs : List V}
    (S : FnScope N ps scope) (hd : A.handled = none) (e0 : Env0 P w K mg base A outer s H) (hl : vs.length = ps.length) (r : Vals vs us)
    (x : InCallC s s.heap.objs.size (bindL (envOfC qual scope s.heap.objs.size f cd).kindOf (ps.zip us) fun _ => none) (cellsFrom (s.heap.objs.size + 1) scope.names []) (bindC (envOfC qual scope s.heap.objs.size f cd).kindOf (ps.zip us) fun _ => none) s1) :
    Inv (cxOf CX P w K mg base N qual scope f cd A outer s H E) [] (start N vs) H s1 := by
  have hpl : ps.length ≤ N.length := by have := congrArg List.length S.pre; rw [List.length_take] at this; omega
  obtain ⟨h1, tk, rfl, hk⟩ := x.done
  have noA : ∀ b : Addr, b ∉ (cxOf CX P w K mg base N qual scope f cd A outer s H E).ex := fun b z => absurd (show b ∈ ([] : List Addr) from z) (by simp)
  refine ⟨⟨e0.mod, S.kind, rfl, rfl, Nat.le_refl _, fun y z c h1 h2 => ?_, fun y hy => ?_, fun y c _ h => ?_, fun _ => hd, Around.frames_deeper e0.frames, .inr ⟨rfl, rfl⟩, fun b z => absurd z (noA b), e0.bs, e0.bsz, fun b _ _ => noA b, fun b z => absurd z (noA b), e0.funs, e0.frf⟩,
    rfl, e0.bare, Un.kept hk, ⟨_, x.toInCall.ns, fun i y v h1 h2 h3 => ?_⟩, fun y c h => ⟨_, x.cell y c h⟩, e0.hok.fresh (Nat.le_refl _), fun y c h => ?_, fun p hp => absurd (show p ∈ ([] : List (Addr × Obj)) from hp) (by simp), e0.hok.kept hk, ?_⟩
  · exact name_of_addr x.apart (PySem.mem_of_lookup h1) (PySem.mem_of_lookup h2)
  · have hy : scope.names.lookup y = some .cell ∨ scope.names.lookup y = some .free := hy
    rcases hy with hy | hy
    · exact cell_has hy
    · exact absurd rfl (S.nofree _ (PySem.mem_of_lookup hy))
  · exact Nat.le_of_lt (x.above y c (PySem.mem_of_lookup h))
  · have hi : i < vs.length := by
      unfold start at h2
      by_cases hi : i < vs.length
      · exact hi
      · rw [List.getElem?_append_right (by simpa using hi)] at h2
        rw [List.getElem?_replicate] at h2
        split at h2 <;> cases h2
    have ha : vs[i]? = some v := by
      unfold start at h2
      rw [List.getElem?_append_left (by simpa using hi), List.getElem?_map] at h2
      cases e : vs[i]? with
      | none => rw [e] at h2; cases h2
      | some a => rw [e] at h2; cases h2; rfl
    obtain ⟨u, hu, rv⟩ := r.get ha
    have hp : ps[i]? = some y := by
      rw [← S.pre, List.getElem?_take_of_lt (by omega)]; exact h1
    have ndP : ps.Nodup := by rw [← S.pre]; exact S.nd.sublist (List.take_sublist _ _)
    refine ⟨u, rv, ?_⟩
    rcases S.par y (List.mem_of_getElem? hp) with k | k
    · exact .inl ⟨k, bindL_get ndP hp hu k⟩
    · obtain ⟨c, e⟩ := cell_has (n := s.heap.objs.size + 1) k
      refine .inr ⟨.inl k, c, e, ?_⟩
      have q := x.cell y c e
      rw [bindC_get ndP hp hu (by show scope.names.lookup y ≠ _; rw [k]; decide)] at q
      exact q
  · exact e0.hok.fresh (Nat.le_of_lt (x.above y c (PySem.mem_of_lookup h)))
  · unfold start
    show _ = N.length
    rw [List.length_append, List.length_map, List.length_replicate]
    omega
theorem fn_of {CX : CXT} {P : Program} {w : World} {K : PySem.W.Frag} {mg : Str → Option Value} {base : Heap} {k : Nat} {f : Addr} {name qual : Str} {params : Arguments} {body : List Stmt} {scope : Scope} {dV kV doc pm cdv ct oc : Value} {an od : Option Addr}
    {osl : Array (Option Value)} {N ps : List Str} {sp : Sp} (lk : K.lookup f = some ⟨oc, od, .func (PySem.W.fnOf name qual params body scope dV kV doc pm an cdv ct), osl⟩) (hcd : PySem.W.codeIn K cdv qual = true) (S : FnScope N ps scope)
    (len : ∀ vs H Q E, sp vs H Q E → vs.length = ps.length)
    (hbody : ∀ (A : Around) (outer : List Env) (s : Shared) (H : Hp) (vs : List V) (Q : VK) (E : XK), Room k (A.deeper (envOfC qual scope s.heap.objs.size f cdv)) → sp vs H Q E →
      ∃ t, PSs (cxOf CX P w K mg base N qual scope f cdv A outer s H E) body t ∧ t { nx := fun _ H' => Q .non H', rt := Q } (start N vs) H) :
    FnOk P w K mg base CX (k + 1) f (PySem.W.fnOf name qual params body scope dV kV doc pm an cdv ct) ps sp := by
  refine ⟨len, fun A outer s H args us vs Q E hr e0 hb r hsp => ?_⟩
  have hl := len _ _ _ _ hsp
  have KX : K.In s.heap := e0.mod.kin.keeps fun b o e => (e0.bs b o e).1
  have lim : s.heap.NoLimit := e0.mod.nolimit.keeps fun b o e => (e0.bs b o e).1
  have hkind : ∀ y ∈ ps.zip us, scope.names.lookup y.1 = some .local ∨ (scope.names.lookup y.1 = some .cell ∧ ((cellsFrom (s.heap.objs.size + 1) scope.names []).lookup y.1).isSome = true) := fun ⟨n, v⟩ hy => by
    rcases S.par n (List.of_mem_zip hy).1 with q | q
    · exact .inl q
    · exact .inr ⟨q, PySem.W.cellsFrom_some _ _ _ (.inl q)⟩
  refine codeAny_call_function hr.depth (KX _ _ lk) rfl S.co S.gen rfl (PySem.W.codeRec_of KX hcd) (hb _ _ _ _ ?_)
  refine wpAny_newFunctionEnv_cells S.kind hkind fun env he s1 x => ?_
  subst he
  refine ⟨lim.keeps x.toInCall.keep, codeAny_func ?_⟩
  obtain ⟨t, ht, hq⟩ := hbody A outer s H vs Q E (hr.deeper _) hsp
  have I : Inv (cxOf CX P w K mg base N qual scope f cdv A outer s H E) [] (start N vs) H s1 := inv_start S hr.hd e0 hl r x
  refine wpAny_mono (ht [] s1 (start N vs) H _ I hq) (fun fl s' hs => ?_) fun e s' hs => hs
  have fin : ∀ {σ' : St} {H' : Hp} {v : V} {u : Value}, Inv (cxOf CX P w K mg base N qual scope f cdv A outer s H E) [] σ' H' s' → RelV v u → Q v H' → CE outer P w H s Q u s' :=
    fun {σ' H' v u} J rv q => ⟨v, H', J.os, J.bare, J.base, J.hok, rv, q⟩
  cases fl with
  | ret u =>
    obtain ⟨v, σ', H', J, rv, q⟩ := hs
    exact fin J rv q
  | next =>
    obtain ⟨σ', H', J, q⟩ := hs
    exact fin (v := V.non) (u := Value.none) J rfl q
  | brk =>
    obtain ⟨_, _, _, q⟩ := hs
    exact False.elim q
  | cont =>
    obtain ⟨_, _, _, q⟩ := hs
    exact False.elim q
end L2
namespace L2
open PySem PySem.Spec PyProof.Rows
section
variable {X : Cx} {x : Str} {p pos : Pos} {e : Expr} {es : List Expr} {t : TA} {id T : String} {r : List V → Hp → VK → Prop}
def tCB (r : List V → Hp → VK → Prop) (t : TA) : TE := fun σ H Q => t σ H fun vs H1 => r vs H1 Q
theorem pe_callB (hc : CallR X (.builtin id) r) (hg : Gl X x) (hm : X.mg x = none) (hv : bootBuiltins x = some (.builtin id)) (ha : PA X (e :: es) t) (hn : x ≠ "__name__" := by decide) (hdb : (x == ("__debug__" : Str)) = false := by decide)
    (he : starEach (e :: es) X.env = (false, eval e X.env) :: starEach es X.env := by rfl) (hpl : (backTo pos (starEach es X.env)).any (·.1) = false := by rfl) : PE X (.Call (.Name x p) (e :: es) [] pos) (tCB r t) := by
  intro pins s σ H Q I h
  refine wpAny_Call_Name_kw (ld_blt I hg hm hv ?_ hn hdb)
  exact PyProof.Rows.callWith_builtin1 (thn (ha pos pins s σ H _ I h) fun us s1 ⟨vs, H1, I1, r1, q1⟩ => hc pins s1 σ H1 vs us Q I1 r1 q1) he hpl
theorem pe_callTy (hc : CallR X (.type T) r) (hg : Gl X x) (hm : X.mg x = none) (hv : bootBuiltins x = some (.type T)) (ha : PA X (e :: es) t) (hn : x ≠ "__name__" := by decide) (hdb : (x == ("__debug__" : Str)) = false := by decide)
    (he : starEach (e :: es) X.env = (false, eval e X.env) :: starEach es X.env := by rfl) (hpl : (backTo pos (starEach es X.env)).any (·.1) = false := by rfl) : PE X (.Call (.Name x p) (e :: es) [] pos) (tCB r t) := by
  intro pins s σ H Q I h
  refine wpAny_Call_Name_kw (ld_blt I hg hm hv ?_ hn hdb)
  exact PyProof.Rows.callWith_type1 (thn (ha pos pins s σ H _ I h) fun us s1 ⟨vs, H1, I1, r1, q1⟩ => hc pins s1 σ H1 vs us Q I1 r1 q1) he hpl
end
end L2
namespace HT
open PySem PyProof.Rows
section
open PySem.SeqAt
open PySem.AutoSeq1 (wpAny_loadPart')
open PySem.MeetsSeq PySem.MeetsSeq2 PySem.MeetsSeq3
end
section
variable {prog : Program} {w : World} {A : Around} {E : Value → Shared → Prop} {s : Shared}
def sIx (n d : Nat) : Option Int → Nat
  | none => d
  | some v => if v < 0 then (v + (n : Int)).toNat else min v.toNat n
theorem sIx_none (n d : Nat) : sIx n d none = d := rfl
theorem sIx_nat (n d k : Nat) : sIx n d (some (k : Int)) = min k n := by
  show (if (k : Int) < 0 then ((k : Int) + (n : Int)).toNat else min (k : Int).toNat n) = min k n
  rw [if_neg (by omega), Int.toNat_natCast]
theorem sIx_le (n d : Nat) (hd : d ≤ n) (o : Option Int) : sIx n d o ≤ n := by
  cases o with
  | none => exact hd
  | some v =>
    show (if v < 0 then (v + (n : Int)).toNat else min v.toNat n) ≤ n
    by_cases hv : v < 0
    · rw [if_pos hv]; omega
    · rw [if_neg hv]; exact Nat.min_le_right _ _
theorem clip_eq (v : Int) (n d : Nat) : (if v < 0 then max (v + (n : Int)) 0 else min v (n : Int)) = ((sIx n d (some v) : Nat) : Int) := by
  show (if v < 0 then max (v + (n : Int)) 0 else min v (n : Int)) = (((if v < 0 then (v + (n : Int)).toNat else min v.toNat n) : Nat) : Int)
  by_cases hv : v < 0
  · simp only [if_pos hv]; omega
  · simp only [if_neg hv]; omega
theorem adjust_gen (lo hi : Option Int) (n : Nat) : Builtin.Slice.sliceAdjust lo hi 1 (n : Int) = (((sIx n 0 lo : Nat) : Int), ((sIx n n hi : Nat) : Int)) := by
  have h1 : ¬ ((1 : Int) < 0) := by omega
  unfold Builtin.Slice.sliceAdjust
  simp only [h1, if_false]
  refine Prod.ext ?_ ?_
  · cases lo with
    | none => rfl
    | some v => exact clip_eq v n 0
  · cases hi with
    | none => rfl
    | some v => exact clip_eq v n n
theorem places_gen (i j : Nat) : Builtin.Slice.slicePlaces (i : Int) (j : Int) 1 = j - i := by
  unfold Builtin.Slice.slicePlaces
  have h1 : (1 : Int) > 0 := by omega
  simp only [h1, if_true, Int.ediv_one]
  split <;> omega
theorem slicePart_ {v : Value} {o : Option Int} {Q : Option Int → Shared → Prop} (p : IsPart v o) (h : Q o s) : wpAny (model prog w) A (Builtin.Slice.slicePartIndex v) Q E s := by
  cases p with
  | none => exact slicePart_none h
  | int i t => exact slicePart_int h
theorem sliceApplied_gen {sl : Addr} {vl vu : Value} {lo hi : Option Int} {n : Nat} {Q : Int × Int × Nat → Shared → Prop} (hs : s.heap.IsSliceOf sl vl vu .none) (pl : IsPart vl lo) (pu : IsPart vu hi)
    (h : Q (((sIx n 0 lo : Nat) : Int), 1, sIx n n hi - sIx n 0 lo) s) : wpAny (model prog w) A (Builtin.Slice.sliceApplied (.ref sl) (pure (n : Int))) Q E s := by
  obtain ⟨os, hos, hcs, hds⟩ := id hs
  unfold Builtin.Slice.sliceApplied Builtin.Slice.sliceFields
  refine wpAny_bind (wpAny_bind (wpAny_field hos hds (x := vl) rfl (wpAny_bind (wpAny_field hos hds (x := vu) rfl (wpAny_bind (wpAny_field hos hds (x := .none) rfl (wpAny_pure ?_)))))))
  refine wpAny_bind (slicePart_none ?_)
  show wpAny _ _ (if ((1 : Int) == 0) = true then _ else _) _ _ s
  rw [if_neg (by decide)]
  refine wpAny_bind (slicePart_ pl (wpAny_bind (slicePart_ pu (wpAny_bind (wpAny_pure ?_)))))
  show wpAny _ _ (match Builtin.Slice.sliceAdjust lo hi 1 (n : Int) with | (lo, hi) => pure (lo, (1 : Int), Builtin.Slice.slicePlaces lo hi 1)) _ _ s
  rw [adjust_gen lo hi n]
  show wpAny _ _ (pure (((sIx n 0 lo : Nat) : Int), (1 : Int), Builtin.Slice.slicePlaces ((sIx n 0 lo : Nat) : Int) ((sIx n n hi : Nat) : Int) 1)) _ _ s
  rw [places_gen]
  exact wpAny_pure h
theorem pick_gen (xs : Array Value) (i k : Nat) : ((List.range k).filterMap fun (m : Nat) => xs[((i : Int) + (m : Int) * 1).toNat]?).toArray = ((xs.toList.drop i).take k).toArray := by
  have e : (fun (m : Nat) => xs[((i : Int) + (m : Int) * 1).toNat]?) = fun m => xs[i + m]? := by
    funext m
    have : ((i : Int) + (m : Int) * 1).toNat = i + m := by omega
    rw [this]
  rw [e]
  have := pick_run xs i k
  rw [List.filterMap_map] at this
  have e2 : ((fun x => xs[x]?) ∘ fun x => i + x) = fun m => xs[i + m]? := rfl
  rw [e2] at this
  rw [this]
theorem getItem_tuple_cut {t sl : Addr} {items : Array Value} {vl vu : Value} {lo hi : Option Int} {Q : Value → Shared → Prop} (ht : IsTup s.heap t items) (hs : s.heap.IsSliceOf sl vl vu .none) (pl : IsPart vl lo) (pu : IsPart vu hi)
    (hw : ¬ (sIx items.size 0 lo = 0 ∧ sIx items.size items.size hi = items.size))
    (h : Q (.ref s.heap.objs.size) { s with heap := s.heap.push { cls := .type "tuple", data := .seq ((items.toList.drop (sIx items.size 0 lo)).take (sIx items.size items.size hi - sIx items.size 0 lo)).toArray } })
    (hsz : items.size ≤ sizeLine) : wpAny (model prog w) A (getItem (.ref t) (.ref sl)) Q E s := by
  have htake : sizeOk (.seq ((items.toList.drop (sIx items.size 0 lo)).take (sIx items.size items.size hi - sIx items.size 0 lo)).toArray) := by
    show ((items.toList.drop (sIx items.size 0 lo)).take (sIx items.size items.size hi - sIx items.size 0 lo)).toArray.size ≤ sizeLine
    rw [List.size_toArray, List.length_take, List.length_drop, Array.length_toList]
    omega
  have hj : sIx items.size items.size hi ≤ items.size := sIx_le _ _ (Nat.le_refl _) hi
  obtain ⟨os, hos, hcs, hds⟩ := id hs
  have hTs : s.TypeIs (.ref sl) "slice" := ⟨os, hos, hcs⟩
  unfold getItem
  try with_reducible refine wpAny_holding ?_
  first | refine wpAny_bind (wpAny_pure ?_) | skip
  refine wpAny_bind (wpAny_sequenceKey ht.typeIs (by decide) ?_)
  refine wpAny_bind (wpAny_callSpecial?_slot (name := Str.ofString "__getitem__") ht.typeIs PyProof.Rows.slot_tuple_getitem
    (wpAny_call_entry PyProof.Rows.slot_tuple_getitem ht.typeIs entry_tuple_getitem ?_ (args_tuple_getitem _ _)))
  show wpAny _ _ (Builtin.Tuple.tupleItemsOf (.ref t) >>= _) _ _ s
  refine wpAny_bind (tupleItemsOf_ ht ?_)
  refine wpAny_bind (wpAny_typeOf hTs ?_)
  rw [if_pos (by decide)]
  refine wpAny_bind (sliceApplied_gen hs pl pu ?_)
  have hno : ¬ ((((sIx items.size 0 lo : Nat) : Int) == 0 && (1 : Int) == 1 && (sIx items.size items.size hi - sIx items.size 0 lo) == items.size) = true) := by
    intro q
    rw [Bool.and_eq_true, Bool.and_eq_true] at q
    have q1 : ((sIx items.size 0 lo : Nat) : Int) = 0 := eq_of_beq q.1.1
    have q2 : sIx items.size items.size hi - sIx items.size 0 lo = items.size := eq_of_beq q.2
    exact hw ⟨by omega, by omega⟩
  show wpAny _ _ (if (((sIx items.size 0 lo : Nat) : Int) == 0 && (1 : Int) == 1 && (sIx items.size items.size hi - sIx items.size 0 lo) == items.size) = true then _ else _) _ _ s
  rw [if_neg hno, pick_gen]
  first
    | exact wpAny_bind (m := Builtin.Tuple.tupleExact _) (wpAny_newObj_type (wpAny_pure ⟨_, rfl, wpAny_pure h⟩) htake)
    | exact wpAny_bind (m := Builtin.Tuple.tupleExact _) (wpAny_newObj_type (wpAny_bind (wpAny_pure (wpAny_pure ⟨_, rfl, wpAny_pure h⟩))) htake)
    | exact wpAny_bind (wpAny_bind (m := Builtin.Tuple.tupleExact _) (wpAny_newObj_type (wpAny_pure (wpAny_pure ⟨_, rfl, wpAny_pure h⟩)) htake))
    | exact wpAny_bind (wpAny_bind (m := Builtin.Tuple.tupleExact _) (wpAny_newObj_type (wpAny_pure ⟨_, rfl, wpAny_pure h⟩) htake))
end
end HT
namespace L2
open PySem PySem.Spec PyProof.Rows
abbrev TO := St → Hp → (Option Int → Hp → Prop) → Prop
def PO (X : Cx) (e : Option Expr) (t : TO) : Prop :=
  ∀ (pins : List (Addr × Obj)) (s : Shared) (σ : St) (H : Hp) (Q : Option Int → Hp → Prop), Inv X pins σ H s → t σ H Q →
    wpAny (model X.prog X.w) X.A (evalPart e X.env) (fun u s' => ∃ o H', Inv X pins σ H' s' ∧ IsPart u o ∧ Q o H') X.xe s
def tNoPart : TO := fun _ H Q => Q none H
def tPart (t : TE) : TO := fun σ H Q => t σ H fun x H1 => ∃ i, x = .int i ∧ Q (some i) H1
section
variable {X : Cx} {e : Expr} {te : TE} {lo hi : Option Expr} {tl th : TO} {pos p2 : Pos}
theorem po_none : PO X none tNoPart := by
  intro pins s σ H Q I h
  rw [evalPart_none]
  exact wpAny_pure ⟨none, H, I, .none, h⟩
theorem po_some (h : PE X e te) : PO X (some e) (tPart te) := by
  intro pins s σ H Q I hw
  rw [evalPart_some]
  refine thn (h pins s σ H _ I hw) fun u s1 ⟨x, H1, I1, r1, q1⟩ => ?_
  obtain ⟨i, rfl, q⟩ := q1
  obtain ⟨t, rfl⟩ := r1
  exact ⟨some i, H1, I1, .int i t, q⟩
def SlR (X : Cx) (r : V → Option Int → Option Int → Hp → VK → Prop) : Prop :=
  ∀ (pins : List (Addr × Obj)) (s : Shared) (σ : St) (H : Hp) (x : V) (v vl vu : Value) (lo hi : Option Int) (sl : Addr) (Q : VK), Inv X pins σ H s → RelV x v → s.heap.IsSliceOf sl vl vu .none → IsPart vl lo → IsPart vu hi → r x lo hi H Q →
    ∃ T id, typeLookup (.type T) "__getitem__" = pure (some (.builtin id)) ∧ s.TypeIs v T ∧ wpAny (model X.prog X.w) X.A (getItem v (.ref sl)) (EP X pins σ Q) X.xe s
theorem SlR.or {r r' : V → Option Int → Option Int → Hp → VK → Prop} (h : SlR X r) (h' : SlR X r') : SlR X (fun x lo hi H Q => r x lo hi H Q ∨ r' x lo hi H Q) := by
  intro pins s σ H x v vl vu lo hi sl Q I rx hs pl pu q
  rcases q with q | q
  · exact h pins s σ H x v vl vu lo hi sl Q I rx hs pl pu q
  · exact h' pins s σ H x v vl vu lo hi sl Q I rx hs pl pu q
def tSl (r : V → Option Int → Option Int → Hp → VK → Prop) (te : TE) (tl th : TO) : TE := fun σ H Q => te σ H fun x H1 => tl σ H1 fun l H2 => th σ H2 fun u H3 => r x l u H3 Q
theorem pe_slice {r : V → Option Int → Option Int → Hp → VK → Prop} (hr : SlR X r) (he : PE X e te) (hl : PO X lo tl) (hu : PO X hi th) : PE X (.Subscript e (.Slice lo hi none p2) pos) (tSl r te tl th) := by
  intro pins s σ H Q I h
  refine Subscript_ (thn (he pins s σ H _ I h) fun v s1 ⟨x, H1, I1, r1, q1⟩ => ?_)
  refine wpAny_Slice (thn (hl pins s1 σ H1 _ I1 q1) fun vl s2 ⟨l, H2, I2, pl, q2⟩ => thn (hu pins s2 σ H2 _ I2 q2) fun vu s3 ⟨u, H3, I3, pu, q3⟩ => ?_)
  rw [evalPart_none]
  refine wpAny_pure ?_
  have I4 : Inv X pins σ H3 { s3 with heap := s3.heap.push { cls := .type "slice", data := .fields #[vl, vu, .none] } } := I3.kept (t' := s3.toks) fun b ob q => Heap.get?_push_of_some _ q
  obtain ⟨T, id, hT, ht, hg⟩ := hr pins { s3 with heap := s3.heap.push { cls := .type "slice", data := .fields #[vl, vu, .none] } } σ H3 x v vl vu l u s3.heap.objs.size Q I4 r1 (Heap.IsSliceOf.new ..) pl pu q3
  show wpAny (model X.prog X.w) X.A (subscriptTail e (.Slice lo hi none p2) v (.ref s3.heap.objs.size)) (EP X pins σ Q) X.xe { s3 with heap := s3.heap.push { cls := .type "slice", data := .fields #[vl, vu, .none] } }
  exact tail_any (ops := [.ref s3.heap.objs.size, v]) ht hT hg (by with_unfolding_all rfl)
def cutV (xs : List V) (lo hi : Option Int) : List V := (xs.drop (HT.sIx xs.length 0 lo)).take (HT.sIx xs.length xs.length hi - HT.sIx xs.length 0 lo)
theorem cutV_length (xs : List V) (lo hi : Option Int) : (cutV xs lo hi).length ≤ xs.length := by
  unfold cutV
  rw [List.length_take, List.length_drop]
  omega
def rSlT (K : PySem.W.Frag) : V → Option Int → Option Int → Hp → VK → Prop := fun x lo hi H Q => ∃ a xs, x = .ref a ∧ SqT K H a xs ∧
  ¬ (HT.sIx xs.length 0 lo = 0 ∧ HT.sIx xs.length xs.length hi = xs.length) ∧ ∀ p, H p = none → Q (.ref p) (upd H p (.tup (cutV xs lo hi)))
theorem sl_tup : SlR X (rSlT X.K) := by
  intro pins s σ H x v vl vu lo hi sl Q I rx hs pl pu h
  obtain ⟨a, xs, rfl, hx, hw, q⟩ := h
  cases rx
  obtain ⟨its, r, ht, hz⟩ := I.tuple hx
  have hlen : its.toArray.size = xs.length := by rw [List.size_toArray]; exact r.length.symm
  refine ⟨"tuple", _, PyProof.Rows.slot_tuple_getitem.lookup, ht.typeIs, ?_⟩
  refine HT.getItem_tuple_cut ht hs pl pu (by rw [hlen]; exact hw) ?_ (by rw [hlen]; exact hz)
  rw [hlen]
  refine ⟨.ref s.heap.objs.size, _, I.laid (t' := s.toks) (o := .tup (cutV xs lo hi)) (fun b ob q => Heap.get?_push_of_some _ q) (Nat.le_refl _) ?_, rfl, q _ (I.hok.fresh (Nat.le_refl _))⟩
  exact ⟨Nat.le_trans (cutV_length xs lo hi) hz, _, (r.drop (HT.sIx xs.length 0 lo)).take (HT.sIx xs.length xs.length hi - HT.sIx xs.length 0 lo), IsTup.new _ _⟩
end
end L2
namespace L2
open PySem PySem.Spec PyProof.Rows
def ixN (n : Nat) (i : Int) : Option Nat := if 0 ≤ i then (if i < n then some i.toNat else none) else if -(n : Int) ≤ i then some (i + n).toNat else none
def atI {α : Type} (xs : List α) (i : Int) : Option α := (ixN xs.length i).bind fun j => xs[j]?
theorem ixN_seq {n : Nat} {i : Int} {j : Nat} (h : ixN n i = some j) : seqIndex? i n = some j ∧ j < n ∧ -(n : Int) ≤ i ∧ i < n := by
  unfold ixN at h
  by_cases h0 : 0 ≤ i
  · rw [if_pos h0] at h
    by_cases h1 : i < n
    · rw [if_pos h1] at h
      have e : i.toNat = j := Option.some.inj h
      exact ⟨by rw [seqIndex_of h0 h1, e], by omega, by omega, h1⟩
    · rw [if_neg h1] at h; cases h
  · rw [if_neg h0] at h
    by_cases h1 : -(n : Int) ≤ i
    · rw [if_pos h1] at h
      have e : (i + n).toNat = j := Option.some.inj h
      exact ⟨by rw [seqIndex_neg (by omega) h1, e], by omega, h1, by omega⟩
    · rw [if_neg h1] at h; cases h
theorem atI_get {α : Type} {xs : List α} {i : Int} {v : α} (h : atI xs i = some v) : ∃ j, seqIndex? i xs.length = some j ∧ xs[j]? = some v ∧ j < xs.length ∧ -(xs.length : Int) ≤ i ∧ i < xs.length := by
  unfold atI at h
  cases e : ixN xs.length i with
  | none => rw [e] at h; cases h
  | some j =>
    rw [e] at h
    obtain ⟨h1, h2, h3, h4⟩ := ixN_seq e
    exact ⟨j, h1, h, h2, h3, h4⟩
theorem atI_nat {α : Type} {xs : List α} {j : Nat} {v : α} (h : xs[j]? = some v) : atI xs (j : Int) = some v := by
  have hj : j < xs.length := (List.getElem?_eq_some_iff.mp h).1
  have e : ixN xs.length (j : Int) = some j := by
    unfold ixN
    rw [if_pos (by omega), if_pos (by omega)]; simp
  unfold atI; rw [e]; exact h
def PlainIx (b : Expr) : Prop := ∀ o i, subscripted b false o i = operate [o, i] (getItem o i)
def IxR (X : Cx) (r : R2) : Prop :=
  ∀ (value slice : Expr) (pins : List (Addr × Obj)) (s : Shared) (σ : St) (H : Hp) (x y : V) (v u : Value) (Q : VK), Inv X pins σ H s → RelV x v → RelV y u → r x y H Q →
    subscripted slice false v u = operate [v, u] (getItem v u) → wpAny (model X.prog X.w) X.A (subscriptTail value slice v u) (EP X pins σ Q) X.xe s
def MtR (X : Cx) (id : String) (r : V → List V → Hp → VK → Prop) : Prop :=
  ∀ (pins : List (Addr × Obj)) (s : Shared) (σ : St) (H : Hp) (x : V) (xs : List V) (v : Value) (us : List Value) (Q : VK), Inv X pins σ H s → RelV x v → Vals xs us → r x xs H Q →
    wpAny (model X.prog X.w) X.A (call (.builtin id) (v :: us)) (EP X pins σ Q) X.xe s
section
variable {X : Cx} {a b : Expr} {ta tb : TE} {pos : Pos}
theorem IxR.or {r r' : R2} (h : IxR X r) (h' : IxR X r') : IxR X (fun x y H Q => r x y H Q ∨ r' x y H Q) := by
  intro value slice pins s σ H x y v u Q I rx ry q hs
  rcases q with q | q
  · exact h value slice pins s σ H x y v u Q I rx ry q hs
  · exact h' value slice pins s σ H x y v u Q I rx ry q hs
theorem MtR.or {id : String} {r r' : V → List V → Hp → VK → Prop} (h : MtR X id r) (h' : MtR X id r') : MtR X id (fun x xs H Q => r x xs H Q ∨ r' x xs H Q) := by
  intro pins s σ H x xs v us Q I rx rs q
  rcases q with q | q
  · exact h pins s σ H x xs v us Q I rx rs q
  · exact h' pins s σ H x xs v us Q I rx rs q
theorem pe_ix {r : R2} (hr : IxR X r) (ha : PE X a ta) (hb : PE X b tb) (hs : PlainIx b) : PE X (.Subscript a b pos) (tOp r ta tb) := by
  intro pins s σ H Q I h
  exact Subscript_ (binT ha hb I h fun v u s2 x y H2 I2 rx ry q => hr a b pins s2 σ H2 x y v u Q I2 rx ry q (hs _ _))
def rIxL (K : PySem.W.Frag) : R2 := fun x y H Q => ∃ p xs i v, x = .ref p ∧ y = .int i ∧ SqL K H p xs ∧ atI xs i = some v ∧ Q v H
def rIxT (K : PySem.W.Frag) : R2 := fun x y H Q => ∃ p xs i v, x = .ref p ∧ y = .int i ∧ SqT K H p xs ∧ atI xs i = some v ∧ Q v H
theorem ix_list : IxR X (rIxL X.K) := by
  intro value slice pins s σ H x y v u Q I rx ry h hs
  obtain ⟨p, xs, i, z, rfl, rfl, hq, he, q⟩ := h
  cases rx
  obtain ⟨t, rfl⟩ := ry
  obtain ⟨its, r, pl, hz⟩ := I.list hq
  obtain ⟨j, h1, h2, h3, h4, h5⟩ := atI_get he
  obtain ⟨w, ew, rw'⟩ := r.get h2
  have hl := r.length
  have hn := line63
  have fin : EP X pins σ Q w s := ⟨z, H, I, rw', q⟩
  by_cases h0 : 0 ≤ i
  · have hj : i.toNat = j := by
      rw [seqIndex_of h0 h5] at h1
      exact Option.some.inj h1
    exact item_listR pl.isList h0 (by omega) (by rw [hj]; simpa using ew) fin hs
  · have hj : (i + (its.toArray.size : Int)).toNat = j := by
      rw [seqIndex_neg (by omega) h4] at h1
      rw [List.size_toArray, ← hl]
      exact Option.some.inj h1
    exact subscriptTail_builtinR (x := w) pl.isList.typeIs slot_list_getitem.lookup
      (wpAny_getItem_list_neg (Q := fun r s' => r = w ∧ EP X pins σ Q r s') pl.isList (by omega) (by rw [List.size_toArray] <;> omega) (by omega) (by rw [hj]; simpa using ew) ⟨rfl, fin⟩) hs
theorem ix_tup : IxR X (rIxT X.K) := by
  intro value slice pins s σ H x y v u Q I rx ry h hs
  obtain ⟨p, xs, i, z, rfl, rfl, hq, he, q⟩ := h
  cases rx
  obtain ⟨t, rfl⟩ := ry
  obtain ⟨its, r, pl, hz⟩ := I.tuple hq
  obtain ⟨j, h1, h2, h3, h4, h5⟩ := atI_get he
  obtain ⟨w, ew, rw'⟩ := r.get h2
  have hl := r.length
  have hn := line63
  have fin : EP X pins σ Q w s := ⟨z, H, I, rw', q⟩
  exact subscriptTail_builtinR (x := w) pl.typeIs slot_tuple_getitem.lookup
    (getItem_tuple (j := j) (Q := fun r s' => r = w ∧ EP X pins σ Q r s') pl (by omega) (by omega) (by rw [List.size_toArray, ← hl]; exact h1) (by simpa using ew) ⟨rfl, fin⟩) hs
theorem Inv.lst {pins : List (Addr × Obj)} {σ : St} {H : Hp} {s : Shared} {p : Addr} {xs : List V} (I : Inv X pins σ H s) (h : H p = some (.lst xs)) :
    ∃ (its : List Value) (n : Nat), Vals xs its ∧ s.heap.get? p = some { cls := .type "list", data := .seq its.toArray n } ∧ xs.length ≤ sizeLine := by
  obtain ⟨z, its, n, r, e⟩ := I.hok p _ h
  exact ⟨its, n, r, e, z⟩
theorem slice_bounds (lo hi : Option Int) (n : Nat) : (sliceBounds lo hi none n).1 = ((HT.sIx n 0 lo : Nat) : Int) ∧ (sliceBounds lo hi none n).2.1 = ((HT.sIx n n hi : Nat) : Int) ∧ (sliceBounds lo hi none n).2.2 = 1 := by
  refine ⟨?_, ?_, rfl⟩
  · cases lo with
    | none => simp [sliceBounds, HT.sIx]
    | some i =>
      simp only [sliceBounds, HT.sIx, Option.getD_none, show (1 : Int) > 0 by decide, if_true]
      by_cases h : i < 0
      · simp only [h, if_true] <;> omega
      · simp only [h, if_false] <;> omega
  · cases hi with
    | none => simp [sliceBounds, HT.sIx]
    | some i =>
      simp only [sliceBounds, HT.sIx, Option.getD_none, show (1 : Int) > 0 by decide, if_true]
      by_cases h : i < 0
      · simp only [h, if_true] <;> omega
      · simp only [h, if_false] <;> omega
theorem slicePick_cut (its : List Value) (lo hi : Option Int) : slicePick its.toArray lo hi none = ((its.drop (HT.sIx its.length 0 lo)).take (HT.sIx its.length its.length hi - HT.sIx its.length 0 lo)).toArray := by
  obtain ⟨h1, h2, h3⟩ := slice_bounds lo hi its.toArray.size
  unfold slicePick
  rw [h1, h2, h3]
  simp only [sliceRange_one, pick_run, List.size_toArray] <;> rfl
def rSlL (K : PySem.W.Frag) : V → Option Int → Option Int → Hp → VK → Prop := fun x lo hi H Q => ∃ a xs, x = .ref a ∧ SqL K H a xs ∧ ∀ p, H p = none → Q (.ref p) (upd H p (.lst (cutV xs lo hi)))
theorem sl_list : SlR X (rSlL X.K) := by
  intro pins s σ H x v vl vu lo hi sl Q I rx hs pl pu h
  obtain ⟨a, xs, rfl, hx, q⟩ := h
  cases rx
  obtain ⟨its, r, ht, hz⟩ := I.list hx
  have hlen := r.length
  refine ⟨"list", _, slot_list_getitem.lookup, ht.isList.typeIs, ?_⟩
  refine wpAny_getItem_list_slice ht.isList hs pl pu .none (by simp) ?_ (by rw [List.size_toArray] <;> omega)
  rw [slicePick_cut, ← hlen]
  refine ⟨.ref s.heap.objs.size, _, I.laid (t' := s.toks) (o := .lst (cutV xs lo hi)) (fun b ob q => Heap.get?_push_of_some _ q) (Nat.le_refl _) ?_, rfl, q _ (I.hok.fresh (Nat.le_refl _))⟩
  exact ⟨Nat.le_trans (cutV_length xs lo hi) hz, _, 0, (r.drop (HT.sIx xs.length 0 lo)).take (HT.sIx xs.length xs.length hi - HT.sIx xs.length 0 lo), Heap.get?_push_size _ rfl⟩
def flatV : V → Bool
  | .non => true
  | .bl _ => true
  | .int _ => true
  | .str _ => true
  | _ => false
def eqV : V → V → Bool
  | .non, .non => true
  | .bl a, .bl b => a == b
  | .bl a, .int b => (if a then 1 else 0) == b
  | .int a, .bl b => a == (if b then 1 else 0)
  | .int a, .int b => a == b
  | .str a, .str b => a == b
  | _, _ => false
theorem eqAt_V {A : Around} {s : Shared} {y x : V} {u v : Value} (ry : RelV y u) (rx : RelV x v) (fy : flatV y = true) (fx : flatV x = true) : SeqAt.EqAt A s u v (eqV y x) := by
  cases y with
  | non =>
    cases ry
    cases x with
    | non => cases rx; exact SeqAt.EqAt.same _
    | bl b => cases rx; exact SeqAt.EqAt.none_bool b
    | int b => obtain ⟨t, rfl⟩ := rx; exact SeqAt.EqAt.none_int b t
    | str b => obtain ⟨t, rfl⟩ := rx; exact SeqAt.EqAt.none_str b t
    | _ => exact absurd (show false = true from fx) Bool.false_ne_true
  | bl a =>
    cases ry
    cases x with
    | non => cases rx; exact SeqAt.EqAt.bool_none a
    | bl b => cases rx; exact SeqAt.EqAt.bool_bool a b
    | int b => obtain ⟨t, rfl⟩ := rx; exact SeqAt.EqAt.bool_int a b t
    | str b => obtain ⟨t, rfl⟩ := rx; exact SeqAt.EqAt.bool_str a b t
    | _ => exact absurd (show false = true from fx) Bool.false_ne_true
  | int a =>
    obtain ⟨t', rfl⟩ := ry
    cases x with
    | non => cases rx; exact SeqAt.EqAt.int_none a t'
    | bl b => cases rx; exact SeqAt.EqAt.int_bool a t' b
    | int b => obtain ⟨t, rfl⟩ := rx; exact SeqAt.EqAt.int_int a t' b t
    | str b => obtain ⟨t, rfl⟩ := rx; exact SeqAt.EqAt.int_str a t' b t
    | _ => exact absurd (show false = true from fx) Bool.false_ne_true
  | str a =>
    obtain ⟨t', rfl⟩ := ry
    cases x with
    | non => cases rx; exact SeqAt.EqAt.str_none a t'
    | bl b => cases rx; exact SeqAt.EqAt.str_bool a t' b
    | int b => obtain ⟨t, rfl⟩ := rx; exact SeqAt.EqAt.str_int a t' b t
    | str b => obtain ⟨t, rfl⟩ := rx; exact SeqAt.EqAt.str_str a t' b t
    | _ => exact absurd (show false = true from fx) Bool.false_ne_true
  | _ => exact absurd (show false = true from fy) Bool.false_ne_true
def eqU (x : V) (u : Value) : Bool := match u with
  | .none => eqV .non x
  | .bool b => eqV (.bl b) x
  | .int i _ => eqV (.int i) x
  | .str z _ => eqV (.str z) x
  | _ => false
theorem eqU_of {x y : V} {u : Value} (r : RelV y u) (f : flatV y = true) : eqU x u = eqV y x := by
  cases y with
  | non => cases r; rfl
  | bl b => cases r; rfl
  | int i => obtain ⟨t, rfl⟩ := r; rfl
  | str z => obtain ⟨t, rfl⟩ := r; rfl
  | _ => exact absurd (show false = true from f) Bool.false_ne_true
theorem any_eqU {x : V} : ∀ {xs : List V} {us : List Value}, Vals xs us → xs.all flatV = true → us.any (eqU x) = xs.any fun y => eqV y x
  | _, _, .nil, _ => rfl
  | y :: xs, u :: us, .cons r t, f => by
    rw [List.all_cons, Bool.and_eq_true] at f
    rw [List.any_cons, List.any_cons, eqU_of r f.1, any_eqU t f.2]
theorem mem_eqAt {A : Around} {s : Shared} {x : V} {v : Value} (rx : RelV x v) (fx : flatV x = true) : ∀ {xs : List V} {us : List Value}, Vals xs us → xs.all flatV = true → ∀ u ∈ us, SeqAt.EqAt A s u v (eqU x u)
  | _, _, .nil, _ => fun u hu => by cases hu
  | y :: xs, u :: us, .cons r t, f => fun u' hu => by
    rw [List.all_cons, Bool.and_eq_true] at f
    rcases List.mem_cons.mp hu with rfl | hu
    · rw [eqU_of r f.1]; exact eqAt_V r rx f.1 fx
    · exact mem_eqAt rx fx t f.2 u' hu
def inV (x : V) (xs : List V) : Bool := xs.any fun y => eqV y x
def rIn (K : PySem.W.Frag) (neg : Bool) : R2 := fun x y H Q => ∃ p xs, y = .ref p ∧ (SqL K H p xs ∨ SqT K H p xs) ∧ flatV x = true ∧ xs.all flatV = true ∧ Q (.bl (if neg then !inV x xs else inV x xs)) H
theorem op_in_seq : OpR X (compareOp .In) (rIn X.K false) := by
  intro pins s σ H x y v u Q I rx ry h
  obtain ⟨p, xs, rfl, hq, fx, fs, q⟩ := h
  cases ry
  rcases hq with hq | hq
  · obtain ⟨its, r, pl, hz⟩ := I.list hq
    refine SeqAt.in_listAt (eqU x) pl.isList (fun w hw => mem_eqAt rx fx r fs w (by simpa using hw)) ⟨.bl _, H, I, rfl, ?_⟩
    rw [show its.toArray.any (eqU x) = its.any (eqU x) by simp, any_eqU r fs]
    exact q
  · obtain ⟨its, r, pl, hz⟩ := I.tuple hq
    refine SeqAt.in_tupleAt (eqU x) pl (fun w hw => mem_eqAt rx fx r fs w (by simpa using hw)) ⟨.bl _, H, I, rfl, ?_⟩
    rw [show its.toArray.any (eqU x) = its.any (eqU x) by simp, any_eqU r fs]
    exact q
theorem op_notIn_seq : OpR X (compareOp .NotIn) (rIn X.K true) := by
  intro pins s σ H x y v u Q I rx ry h
  obtain ⟨p, xs, rfl, hq, fx, fs, q⟩ := h
  cases ry
  rcases hq with hq | hq
  · obtain ⟨its, r, pl, hz⟩ := I.list hq
    refine SeqAt.notIn_listAt (eqU x) pl.isList (fun w hw => mem_eqAt rx fx r fs w (by simpa using hw)) ⟨.bl _, H, I, rfl, ?_⟩
    rw [show its.toArray.any (eqU x) = its.any (eqU x) by simp, any_eqU r fs]
    exact q
  · obtain ⟨its, r, pl, hz⟩ := I.tuple hq
    refine SeqAt.notIn_tupleAt (eqU x) pl (fun w hw => mem_eqAt rx fx r fs w (by simpa using hw)) ⟨.bl _, H, I, rfl, ?_⟩
    rw [show its.toArray.any (eqU x) = its.any (eqU x) by simp, any_eqU r fs]
    exact q
theorem call_len_seq : CallR X (.builtin "len") (fun xs H Q => ∃ p ys, xs = [.ref p] ∧ (SqL X.K H p ys ∨ SqT X.K H p ys) ∧ Q (.int ys.length) H) := by
  intro pins s σ H xs us Q I r h
  obtain ⟨p, ys, rfl, hq, q⟩ := h
  obtain ⟨u, rfl, rx⟩ := vals1 r
  cases rx
  have hn := line63
  rcases hq with hq | hq
  · obtain ⟨its, r', pl, hz⟩ := I.list hq
    have hlen := r'.length
    exact Calls.call_len_list pl.isList (by simp only [List.size_toArray] <;> omega) ⟨.int ys.length, H, I.tok _, ⟨s.toks + 1, by rw [List.size_toArray, hlen]⟩, q⟩
  · obtain ⟨its, r', pl, hz⟩ := I.tuple hq
    have hlen := r'.length
    exact len_tuple pl (by simp only [List.size_toArray] <;> omega) ⟨.int ys.length, H, I.tok _, ⟨s.toks + 1, by rw [List.size_toArray, hlen]⟩, q⟩
theorem CallR.or {f : Value} {r r' : List V → Hp → VK → Prop} (h : CallR X f r) (h' : CallR X f r') : CallR X f (fun xs H Q => r xs H Q ∨ r' xs H Q) := by
  intro pins s σ H xs us Q I rs q
  rcases q with q | q
  · exact h pins s σ H xs us Q I rs q
  · exact h' pins s σ H xs us Q I rs q
theorem call_list_of : CallR X (.type "list") (fun xs H Q => ∃ p ys, xs = [.ref p] ∧ (SqL X.K H p ys ∨ SqT X.K H p ys) ∧ ∀ l, H l = none → Q (.ref l) (upd H l (.lst ys))) := by
  intro pins s σ H xs us Q I r h
  obtain ⟨p, ys, rfl, hq, q⟩ := h
  obtain ⟨u, rfl, rx⟩ := vals1 r
  cases rx
  have fin : ∀ (its : List Value), Vals ys its → ys.length ≤ sizeLine → ∀ (h' : Heap) (c' : Nat), (∀ b o', s.heap.get? b = some o' → h'.get? b = some o') →
      h'.get? s.heap.objs.size = some { cls := .type "list", dict := none, data := .seq its.toArray c', slots := #[] } → EP X pins σ Q (.ref s.heap.objs.size) { s with heap := h' } := fun its r' hz h' c' kp e =>
    ⟨.ref s.heap.objs.size, _, I.laid (t' := s.toks) kp (Nat.le_refl _) (show ObjOk X.prog X.w _ h' _ (.lst ys) from ⟨hz, its, c', r', e⟩), rfl, q _ (I.hok.fresh (Nat.le_refl _))⟩
  rcases hq with hq | hq
  · obtain ⟨its, r', pl, hz⟩ := I.list hq
    have hlen := r'.length
    obtain ⟨o, ho, hc, n, hd⟩ := pl.isList
    exact call_list_seq p (.inl rfl) ho hc hd (fun h' c' kp e => fin its r' hz h' c' kp e) (by simp only [List.size_toArray] <;> omega)
  · obtain ⟨its, r', pl, hz⟩ := I.tuple hq
    have hlen := r'.length
    obtain ⟨o, ho, hc, n, hd⟩ := pl
    exact call_list_seq p (.inr rfl) ho hc hd (fun h' c' kp e => fin its r' hz h' c' kp e) (by simp only [List.size_toArray] <;> omega)
theorem call_tuple_of : CallR X (.type "tuple") (fun xs H Q => ∃ p ys, xs = [.ref p] ∧ ((SqL X.K H p ys ∧ ∀ l, H l = none → Q (.ref l) (upd H l (.tup ys))) ∨ (SqT X.K H p ys ∧ Q (.ref p) H))) := by
  intro pins s σ H xs us Q I r h
  obtain ⟨p, ys, rfl, h⟩ := h
  obtain ⟨u, rfl, rx⟩ := vals1 r
  cases rx
  rcases h with ⟨hq, q⟩ | ⟨hq, q⟩
  · obtain ⟨its, r', pl, hz⟩ := I.list hq
    have hlen := r'.length
    refine call_tuple_list pl.isList (fun h' kp => ?_) (by simp only [List.size_toArray] <;> omega)
    have I1 : Inv X pins σ H { s with heap := h' } := I.kept (t' := s.toks) kp
    have I2 : Inv X pins σ (upd H h'.objs.size (.tup ys)) { s with heap := h'.push { cls := .type "tuple", data := .seq its.toArray } } :=
      I1.laid (t' := s.toks) (fun b o e => Heap.get?_push_of_some _ e) (Nat.le_refl _) (show ObjOk X.prog X.w _ _ _ (.tup ys) from ⟨hz, its, r', IsTup.new _ _⟩)
    exact ⟨.ref h'.objs.size, _, I2, rfl, q _ (I1.hok.fresh (Nat.le_refl _))⟩
  · obtain ⟨its, r', pl, hz⟩ := I.tuple hq
    exact call_tuple_same pl ⟨.ref p, H, I, rfl, q⟩
def tyV (K : PySem.W.Frag) (T : String) (x : V) (H : Hp) : Prop := match x with
  | .str _ => T = "str"
  | .int _ => T = "int"
  | .ref p => (T = "list" ∧ ∃ xs, SqL K H p xs) ∨ (T = "tuple" ∧ ∃ o, K.lookup p = some o ∧ o.cls = .type "tuple" ∧ o.dict = none) ∨
      (T = "dict" ∧ ((∃ kvs, H p = some (.dK kvs)) ∨ ∃ kvs, H p = some (.dT kvs))) ∨ (T = "set" ∧ ∃ S n, H p = some (.set S n))
  | _ => False
theorem tyV_is {pins : List (Addr × Obj)} {σ : St} {H : Hp} {s : Shared} {T : String} {x : V} {v : Value} (I : Inv X pins σ H s) (r : RelV x v) (ty : tyV X.K T x H) :
    s.TypeIs v T ∧ ∀ a, v = .ref a → ∃ ob, s.heap.get? a = some ob ∧ ob.dict = none := by
  cases x with
  | str z =>
    obtain ⟨t, rfl⟩ := r
    cases (show T = "str" from ty)
    exact ⟨typeIs_str s z t, fun _ e => nomatch e⟩
  | int i =>
    obtain ⟨t, rfl⟩ := r
    cases (show T = "int" from ty)
    exact ⟨typeIs_int s i t, fun _ e => nomatch e⟩
  | ref p =>
    cases r
    rcases ty with ⟨rfl, xs, hq⟩ | ⟨rfl, o, hk, hc, hd⟩ | ⟨rfl, hk⟩ | ⟨rfl, S, n, hk⟩
    · obtain ⟨its, _, pl, _⟩ := I.list hq
      refine ⟨pl.isList.typeIs, fun a e => ?_⟩
      cases e
      obtain ⟨o, n, e, c, hd, _⟩ := pl
      exact ⟨o, e, hd⟩
    · refine ⟨⟨o, I.kIn p o hk, hc⟩, fun a e => ?_⟩
      cases e
      exact ⟨o, I.kIn _ o hk, hd⟩
    · have z : ∃ o, s.heap.get? p = some o ∧ o.ExactDict := by
        rcases hk with ⟨kvs, hk⟩ | ⟨kvs, hk⟩
        · obtain ⟨_, _, _, _, o, _, _, e, ex, _⟩ := I.hok p _ hk
          exact ⟨o, e, ex⟩
        · obtain ⟨_, _, _, _, o, _, _, e, ex, _⟩ := I.hok p _ hk
          exact ⟨o, e, ex⟩
      obtain ⟨o, e, ex⟩ := z
      refine ⟨⟨o, e, ex.1⟩, fun a e2 => ?_⟩
      cases e2
      exact ⟨o, e, ex.2.1⟩
    · obtain ⟨o, _, _, _, e, ex, _⟩ := I.hok p _ hk
      refine ⟨⟨o, e, ex.1⟩, fun a e2 => ?_⟩
      cases e2
      exact ⟨o, e, ex.2.1⟩
  | _ => exact False.elim ty
def tBM0 (K : PySem.W.Frag) (T : String) (r : V → List V → Hp → VK → Prop) (to : TE) : TE := fun σ H Q => to σ H fun x H1 => tyV K T x H1 ∧ r x [] H1 Q
def tBM (K : PySem.W.Frag) (T : String) (r : V → List V → Hp → VK → Prop) (to : TE) (t : TA) : TE := fun σ H Q => to σ H fun x H1 => tyV K T x H1 ∧ t σ H1 fun xs H2 => r x xs H2 Q
variable {o e : Expr} {es : List Expr} {to : TE} {t : TA} {name : Str} {apos cpos : Pos} {T id : String} {r : V → List V → Hp → VK → Prop}
theorem pe_bm0 (pa : PlainAttrs T) (slot : Slot T name id) (hty : typeOf (.builtin id) = pure (.type "method_descriptor")) (hm : MtR X id r) (ho : PE X o to)
    (hbase : attributeBase o name X.env (eval o X.env) = eval o X.env := by rfl) (hline : (apos.endLine == cpos.line) = true := by rfl) : PE X (.Call (.Attribute o name apos) [] [] cpos) (tBM0 X.K T r to) := by
  intro pins s σ H Q I h
  refine wpAny_Call_method0_late hbase hline (thn (ho pins s σ H _ I h) fun v s1 ⟨x, H1, I1, r1, ty, q1⟩ => ?_)
  obtain ⟨h1, h2⟩ := tyV_is I1 r1 ty
  exact ⟨T, id, pa, slot, hty, h1, h2, Calls.callWith_builtin rfl (PySem.evalArgs_none (hm pins s1 σ H1 x [] v [] Q I1 r1 .nil q1))⟩
theorem pe_bm (pa : PlainAttrs T) (slot : Slot T name id) (hty : typeOf (.builtin id) = pure (.type "method_descriptor")) (hm : MtR X id r) (ho : PE X o to) (ha : PA X (e :: es) t)
    (hbase : attributeBase o name X.env (eval o X.env) = eval o X.env := by rfl)
    (hfew : ((backTo cpos (starEach (e :: es) X.env)).all (fun x => !x.1) && (backToKw cpos (keywordEach [] X.env)).all (fun x => x.1.isSome)
      && decide ((e :: es).length + ([] : List Keyword).length + (if ([] : List Keyword).isEmpty then 0 else 1) < 30)) = true := by rfl)
    (hline : (apos.endLine == cpos.line) = true := by rfl) (hs : starEach (e :: es) X.env = (false, eval e X.env) :: starEach es X.env := by rfl) (hplain : (backTo cpos (starEach es X.env)).any (·.1) = false := by rfl) :
    PE X (.Call (.Attribute o name apos) (e :: es) [] cpos) (tBM X.K T r to t) := by
  intro pins s σ H Q I h
  refine wpAny_Call_method_late hbase hfew hline rfl (thn (ho pins s σ H _ I h) fun v s1 ⟨x, H1, I1, r1, ty, q1⟩ => ?_)
  obtain ⟨h1, h2⟩ := tyV_is I1 r1 ty
  refine ⟨T, id, pa, slot, hty, h1, h2, ?_⟩
  have hA := ha cpos pins s1 σ H1 _ I1 q1
  rw [hs] at hA ⊢
  refine Calls.callWith_builtin (by show (false || (backTo cpos (starEach es X.env)).any (·.1)) = false; rw [hplain] <;> rfl) (Calls.evalArgs_plain ?_)
  exact thn hA fun us s2 ⟨vs, H2, I2, r2, q2⟩ => hm pins s2 σ H2 x vs v us Q I2 r1 r2 q2
/- xs.append(e), list.index on a module's tuple .. are MtR facts of 06m -/
end
end L2
namespace L2
open PySem PySem.Spec PyProof.Rows
def MtM (X : Cx) (id : String) (r : V → List V → Hp → VK → Prop) : Prop :=
  ∀ (pins : List (Addr × Obj)) (s : Shared) (σ : St) (H : Hp) (x : V) (xs : List V) (v : Value) (us : List Value) (Q : VK), Inv X pins σ H s → RelV x v → Vals xs us → r x xs H Q →
    wpAny (model X.prog X.w) X.A (call (.builtin id) (v :: us)) (EP X pins σ Q) X.xe s
theorem Vals.one : ∀ {x : V} {us : List Value}, Vals [x] us → ∃ u, us = [u] ∧ RelV x u
  | _, _, .cons r .nil => ⟨_, rfl, r⟩
theorem Vals.two : ∀ {x y : V} {us : List Value}, Vals [x, y] us → ∃ u v, us = [u, v] ∧ RelV x u ∧ RelV y v
  | _, _, _, .cons r (.cons q .nil) => ⟨_, _, rfl, r, q⟩
theorem Vals.zero : ∀ {us : List Value}, Vals [] us → us = []
  | _, .nil => rfl
theorem Vals.dropLast {xs : List V} {us : List Value} (h : Vals xs us) : Vals xs.dropLast us.dropLast := by
  induction h with
  | nil => exact .nil
  | cons r t ih =>
    cases t with
    | nil => exact .nil
    | cons q t' => exact .cons r ih
theorem Vals.eraseIdx : ∀ {xs : List V} {us : List Value} (i : Nat), Vals xs us → Vals (xs.eraseIdx i) (us.eraseIdx i)
  | _, _, _, .nil => .nil
  | _, _, 0, .cons _ t => t
  | _, _, i + 1, .cons r t => .cons r (Vals.eraseIdx i t)
theorem Vals.reverse {xs : List V} {us : List Value} (h : Vals xs us) : Vals xs.reverse us.reverse := by
  induction h with
  | nil => exact .nil
  | cons r t ih => rw [List.reverse_cons, List.reverse_cons]; exact Vals.append ih (.cons r .nil)
theorem erase_last {α : Type} (l : List α) : l.eraseIdx (l.length - 1) = l.dropLast := by
  induction l with
  | nil => rfl
  | cons a r ih =>
    cases r with
    | nil => rfl
    | cons b r =>
      have e : (a :: b :: r).length - 1 = ((b :: r).length - 1) + 1 := by
        have h1 : (a :: b :: r).length = r.length + 2 := rfl
        have h2 : (b :: r).length = r.length + 1 := rfl
        omega
      rw [e, List.eraseIdx_cons_succ, ih]
      all_goals rfl
section
variable {X : Cx} {pins : List (Addr × Obj)} {σ : St} {H : Hp} {s : Shared} {l b : Addr} {xs ys zs : List V}
theorem Inv.lset {its its' : List Value} {n : Nat} {f : Array Value → Array Value} {t' : Nat} (I : Inv X pins σ H s) (hH : H l = some (.lst xs))
    (e : s.heap.get? l = some { cls := .type "list", data := .seq its.toArray n }) (hf : f its.toArray = its'.toArray) (hv : Vals ys its') (hz : ys.length ≤ sizeLine) :
    Inv X pins σ (upd H l (.lst ys)) { s with heap := s.heap.update l (Obj.mapSeq f), toks := t' } := by
  have q := PySem.IsL.update e f
  rw [hf] at q
  refine I.write (x := l) (e := l) (by rw [hH]; exact trivial) (.inl rfl) (fun b' u hb hu => (Heap.get?_update_other s.heap (Obj.mapSeq f) (Ne.symm hb)).trans hu) ⟨_, q⟩ ?_
  exact ⟨hz, its', _, hv, q⟩
theorem Inv.lnew {its : List Value} {t' : Nat} (I : Inv X pins σ H s) (hv : Vals ys its) (hz : ys.length ≤ sizeLine) :
    Inv X pins σ (upd H s.heap.objs.size (.lst ys)) { s with heap := s.heap.push { cls := .type "list", data := .seq its.toArray }, toks := t' } :=
  I.laid (fun _ _ q => Heap.get?_push_of_some _ q) (Nat.le_refl _) ⟨hz, its, 0, hv, Heap.get?_push_size _ rfl⟩
theorem Inv.fresh (I : Inv X pins σ H s) : H s.heap.objs.size = none := I.hok.fresh (Nat.le_refl _)
theorem Inv.lstM (I : Inv X pins σ H s) (hH : H l = some (.lst xs)) : xs.length ≤ sizeLine ∧ ∃ (its : List Value) (n : Nat), Vals xs its ∧ xs.length = its.length ∧ s.heap.get? l = some { cls := .type "list", data := .seq its.toArray n } := by
  obtain ⟨z, its, n, r, e⟩ := I.hok l _ hH
  exact ⟨z, its, n, r, r.length, e⟩
theorem notLongL {n : Nat} (h : n ≤ sizeLine) : Builtin.List.listTooLong n = false := by
  unfold Builtin.List.listTooLong
  exact decide_eq_false (by omega)
end
section
variable {X : Cx}
def rAppend : V → List V → Hp → VK → Prop := fun x vs H Q => ∃ l xs y, x = .ref l ∧ vs = [y] ∧ H l = some (.lst xs) ∧ xs.length < sizeLine ∧ Q .non (upd H l (.lst (xs ++ [y])))
theorem mt_append : MtM X "list.append" rAppend := by
  intro pins s σ H x vs v us Q I rx rv h
  obtain ⟨l, xs, y, rfl, rfl, hH, hz, q⟩ := h
  cases rx
  obtain ⟨u, rfl, ru⟩ := rv.one
  obtain ⟨z, its, n, r, hl, e⟩ := I.lstM hH
  refine call_meets F.slot_list_append ⟨_, e, rfl⟩ F.entry_list_append (F.args_list_append_2 _ _) (PySem.list_append l its.toArray n u (by rw [List.size_toArray]; omega)) ⟨e, ?_⟩
  refine ⟨.non, _, I.lset (its' := its ++ [u]) hH e (by simp) (r.append (.cons ru .nil)) ?_, rfl, q⟩
  rw [List.length_append, List.length_singleton]
  omega
def rExtend : V → List V → Hp → VK → Prop := fun x vs H Q => ∃ l b xs zs, x = .ref l ∧ vs = [.ref b] ∧ H l = some (.lst xs) ∧ H b = some (.lst zs) ∧ xs.length + zs.length ≤ sizeLine ∧ Q .non (upd H l (.lst (xs ++ zs)))
theorem mt_extend : MtM X "list.extend" rExtend := by
  intro pins s σ H x vs v us Q I rx rv h
  obtain ⟨l, b, xs, zs, rfl, rfl, hH, hB, hz, q⟩ := h
  cases rx
  obtain ⟨u, rfl, ru⟩ := rv.one
  cases ru
  obtain ⟨z, its, n, r, hl, e⟩ := I.lstM hH
  obtain ⟨z2, its2, n2, r2, hl2, e2⟩ := I.lstM hB
  have hsz : its.toArray.size + its2.toArray.size ≤ sizeLine := by rw [List.size_toArray, List.size_toArray]; omega
  have hlong : ¬ (!its.toArray.isEmpty && Builtin.List.listTooLong (its.toArray.size + its2.toArray.size)) = true := by
    rw [notLongL hsz, Bool.and_false]
    exact Bool.false_ne_true
  refine call_meets F.slot_list_extend ⟨_, e, rfl⟩ F.entry_list_extend (F.args_list_extend_2 _ _)
    (AutoSeq1.list_extend_list_list_0 l its.toArray n b its2.toArray n2 hlong (by rw [List.size_toArray]; omega) (by omega)) ⟨e, e2, ?_⟩
  refine ⟨.non, _, I.lset (its' := its ++ its2) hH e (by simp) (r.append r2) ?_, rfl, q⟩
  rw [List.length_append]
  omega
def rPop : V → List V → Hp → VK → Prop := fun x vs H Q => ∃ l xs y, x = .ref l ∧ vs = [] ∧ H l = some (.lst xs) ∧ xs[xs.length - 1]? = some y ∧ Q y (upd H l (.lst xs.dropLast))
theorem mt_pop : MtM X "list.pop" rPop := by
  intro pins s σ H x vs v us Q I rx rv h
  obtain ⟨l, xs, y, rfl, rfl, hH, hy, q⟩ := h
  cases rx
  have hus := rv.zero
  subst hus
  obtain ⟨z, its, n, r, hl, e⟩ := I.lstM hH
  obtain ⟨u, hu, ru⟩ := r.get hy
  have hy' : its.toArray[its.toArray.size - 1]? = some u := by
    show its.toArray[its.length - 1]? = some u
    rw [← Array.getElem?_toList, ← hl]
    exact hu
  refine call_meets F.slot_list_pop ⟨_, e, rfl⟩ F.entry_list_pop (F.args_list_pop_1 _) (MeetsSeq.list_pop_last l its.toArray n u hy' (by rw [List.size_toArray]; omega)) ⟨e, ?_⟩
  refine ⟨y, _, I.lset (its' := its.dropLast) hH e ?_ r.dropLast ?_, ru, q⟩
  · show its.toArray.eraseIdxIfInBounds (its.toArray.size - 1) = its.dropLast.toArray
    rw [List.size_toArray, List.eraseIdxIfInBounds_toArray, erase_last]
  · rw [List.length_dropLast]
    omega
def rReverse : V → List V → Hp → VK → Prop := fun x vs H Q => ∃ l xs, x = .ref l ∧ vs = [] ∧ H l = some (.lst xs) ∧ Q .non (upd H l (.lst xs.reverse))
theorem mt_reverse : MtM X "list.reverse" rReverse := by
  intro pins s σ H x vs v us Q I rx rv h
  obtain ⟨l, xs, rfl, rfl, hH, q⟩ := h
  cases rx
  have hus := rv.zero
  subst hus
  obtain ⟨z, its, n, r, hl, e⟩ := I.lstM hH
  refine call_meets F.slot_list_reverse ⟨_, e, rfl⟩ F.entry_list_reverse (F.args_list_reverse_1 _) (AutoSeq1.list_reverse_list_0 l its.toArray n (by rw [List.size_toArray]; omega)) ⟨e, ?_⟩
  refine ⟨.non, _, I.lset (its' := its.reverse) hH e (by simp) r.reverse ?_, rfl, q⟩
  rw [List.length_reverse]
  omega
def rCat : R2 := fun x y H Q => ∃ l b xs zs, x = .ref l ∧ y = .ref b ∧ H l = some (.lst xs) ∧ H b = some (.lst zs) ∧ xs.length + zs.length ≤ sizeLine ∧ ∀ p, H p = none → Q (.ref p) (upd H p (.lst (xs ++ zs)))
theorem op_cat : OpR X (binaryOp .Add) rCat := by
  intro pins s σ H x y v u Q I rx ry h
  obtain ⟨l, b, xs, zs, rfl, rfl, hH, hB, hz, q⟩ := h
  cases rx
  cases ry
  obtain ⟨z, its, n, r, hl, e⟩ := I.lstM hH
  obtain ⟨z2, its2, n2, r2, hl2, e2⟩ := I.lstM hB
  refine PySem.P.add_list e e2 ?_ (by rw [List.size_toArray, List.size_toArray]; omega)
  have ea : its.toArray ++ its2.toArray = (its ++ its2).toArray := by simp
  rw [ea]
  exact ⟨.ref _, _, I.lnew (t' := s.toks) (r.append r2) (by rw [List.length_append]; omega), rfl, q _ I.fresh⟩
end
section
variable {prog : Program} {w : World} {A : Around} {E : Value → Shared → Prop} {s : Shared}
end
section
variable {X : Cx}
end
end L2
namespace L2
open PySem PySem.Spec PyProof.Rows
section
variable {κ : Type} [DecidableEq κ]
def valV (kvs : List (κ × V)) (k : κ) : Option V := (kvs.find? fun kv => decide (kv.1 = k)).map (·.2)
def putK (kvs : List (κ × V)) (k : κ) (v : V) : List (κ × V) :=
  if (kvs.any fun kv => decide (kv.1 = k)) = true then kvs.map (fun kv => if kv.1 = k then (kv.1, v) else kv) else kvs ++ [(k, v)]
def dropK (kvs : List (κ × V)) (k : κ) : List (κ × V) := kvs.filter fun kv => decide (kv.1 ≠ k)
theorem valV_pos {p : κ × V} {r : List (κ × V)} {k : κ} (e : p.1 = k) : valV (p :: r) k = some p.2 := by simp [valV, List.find?_cons, e]
theorem valV_neg {p : κ × V} {r : List (κ × V)} {k : κ} (e : ¬ p.1 = k) : valV (p :: r) k = valV r k := by simp [valV, List.find?_cons, e]
theorem RelO.getD {o : Option V} {u : Option Value} {d : V} {d' : Value} (r : RelO o u) (rd : RelV d d') : RelV (o.getD d) (u.getD d') := by
  cases o with
  | none => cases u with
    | none => exact rd
    | some _ => exact (show False from r).elim
  | some _ => cases u with
    | none => exact (show False from r).elim
    | some _ => exact r
theorem KV.val {kvs : List (κ × V)} {vs : List (κ × Value)} (r : KV kvs vs) (k : κ) : RelO (valV kvs k) (valueAt vs k) := by
  unfold KV at r
  induction r with
  | nil => exact True.intro
  | @cons p q ps qs h t ih =>
    obtain ⟨h1, h2⟩ := h
    by_cases e : p.1 = k
    · have e' : q.1 = k := h1.symm.trans e
      have b : valueAt (q :: qs) k = some q.2 := by simp [valueAt, List.find?_cons, e']
      rw [valV_pos e, b]; exact h2
    · have e' : ¬ q.1 = k := fun z => e (h1.trans z)
      have b : valueAt (q :: qs) k = valueAt qs k := by simp [valueAt, List.find?_cons, e']
      rw [valV_neg e, b]; exact ih
theorem KV.any {kvs : List (κ × V)} {vs : List (κ × Value)} (r : KV kvs vs) (k : κ) : (kvs.any fun kv => decide (kv.1 = k)) = vs.any fun kv => decide (kv.1 = k) := by
  unfold KV at r
  induction r with
  | nil => rfl
  | cons h t ih => rw [List.any_cons, List.any_cons, ih, h.1]
theorem KV.drop {kvs : List (κ × V)} {vs : List (κ × Value)} (r : KV kvs vs) (k : κ) : KV (dropK kvs k) (without vs k) := by
  unfold KV at r ⊢
  unfold dropK without
  induction r with
  | nil => exact .nil
  | @cons p q ps qs h t ih =>
    obtain ⟨h1, h2⟩ := h
    rw [List.filter_cons, List.filter_cons]
    by_cases e : p.1 = k
    · have a : ¬ decide (p.1 ≠ k) = true := by simp [e]
      have b : ¬ decide (q.1 ≠ k) = true := by simp [h1.symm.trans e]
      rw [if_neg a, if_neg b]; exact ih
    · have e' : ¬ q.1 = k := fun z => e (h1.trans z)
      have a : decide (p.1 ≠ k) = true := by simp [e]
      have b : decide (q.1 ≠ k) = true := by simp [e']
      rw [if_pos a, if_pos b]; exact .cons ⟨h1, h2⟩ ih
theorem KV.keys {kvs : List (κ × V)} {vs : List (κ × Value)} (r : KV kvs vs) : kvs.map (·.1) = vs.map (·.1) := by
  unfold KV at r
  induction r with
  | nil => rfl
  | cons h t ih => rw [List.map_cons, List.map_cons, ih, h.1]
theorem KV.length {kvs : List (κ × V)} {vs : List (κ × Value)} (r : KV kvs vs) : kvs.length = vs.length := Paired.length r
end
theorem kV_is {P : Program} {w : World} {k : Key} {u : Value} (r : RelV (kV k) u) : (mixKind P w).is k u = true := by
  cases k with
  | inl i => obtain ⟨t, e⟩ := (show ∃ t, u = Value.int i t from r); subst e; exact mixKind_int P w i t
  | inr x => obtain ⟨t, e⟩ := (show ∃ t, u = Value.str x t from r); subst e; exact mixKind_str P w x t
abbrev KT (H : Hp) : List (List Key × V) → List (List Key × Addr × Value) → Prop := Paired fun p q => p.1 = q.1 ∧ H q.2.1 = some (.tup (p.1.map kV)) ∧ RelV p.2 q.2.2
theorem KT.val {H : Hp} {kvs : List (List Key × V)} {xs : List (List Key × Addr × Value)} (r : KT H kvs xs) (k : List Key) : RelO (valV kvs k) ((atKey xs k).map (·.2)) := by
  induction r with
  | nil => exact True.intro
  | @cons p q ps qs h t ih =>
    obtain ⟨h1, _, h2⟩ := h
    by_cases e : p.1 = k
    · have e' : q.1 = k := h1.symm.trans e
      have b : atKey (q :: qs) k = some q.2 := by simp [atKey, List.find?_cons, e']
      rw [valV_pos e, b]; exact h2
    · have e' : ¬ q.1 = k := fun z => e (h1.trans z)
      have b : atKey (q :: qs) k = atKey qs k := by simp [atKey, List.find?_cons, e']
      rw [valV_neg e, b]; exact ih
theorem KT.keeps {H H' : Hp} {kvs : List (List Key × V)} {xs : List (List Key × Addr × Value)} (r : KT H kvs xs) (ht : ∀ b ys, H b = some (.tup ys) → H' b = some (.tup ys)) : KT H' kvs xs :=
  Paired.mapP r fun _ _ z => ⟨z.1, ht _ _ z.2.1, z.2.2⟩
section
variable {P : Program} {w : World} {H : Hp} {h : Heap} {a : Addr}
end
def DGet (H : Hp) (a : Addr) (y : V) (r : Option V) : Prop :=
  (∃ kvs k, Rd H a (.dK kvs) ∧ y = kV k ∧ r = valV kvs k) ∨ ∃ kvs k b, Rd H a (.dT kvs) ∧ y = .ref b ∧ H b = some (.tup (k.map kV)) ∧ r = valV kvs k
def DPut (H : Hp) (a : Addr) (y v : V) (H' : Hp) : Prop :=
  (∃ kvs k, H a = some (.dK kvs) ∧ y = kV k ∧ kvs.length < sizeLine ∧ H' = upd H a (.dK (putK kvs k v))) ∨
  ∃ kvs k b, H a = some (.dT kvs) ∧ y = .ref b ∧ H b = some (.tup (k.map kV)) ∧ kvs.length < sizeLine ∧ H' = upd H a (.dT (putK kvs k v))
theorem DGet.k {H : Hp} {a : Addr} {kvs : List (Key × V)} {k : Key} (e : H a = some (.dK kvs)) : DGet H a (kV k) (valV kvs k) := .inl ⟨kvs, k, .inl e, rfl, rfl⟩
theorem DGet.t {H : Hp} {a b : Addr} {kvs : List (List Key × V)} {k : List Key} (e : H a = some (.dT kvs)) (eb : H b = some (.tup (k.map kV))) : DGet H a (.ref b) (valV kvs k) := .inr ⟨kvs, k, b, .inl e, rfl, eb, rfl⟩
theorem DPut.k {H : Hp} {a : Addr} {kvs : List (Key × V)} {k : Key} {v : V} (e : H a = some (.dK kvs)) (hl : kvs.length < sizeLine) : DPut H a (kV k) v (upd H a (.dK (putK kvs k v))) := .inl ⟨kvs, k, e, rfl, hl, rfl⟩
theorem DPut.t {H : Hp} {a b : Addr} {kvs : List (List Key × V)} {k : List Key} {v : V} (e : H a = some (.dT kvs)) (eb : H b = some (.tup (k.map kV))) (hl : kvs.length < sizeLine) :
    DPut H a (.ref b) v (upd H a (.dT (putK kvs k v))) := .inr ⟨kvs, k, b, e, rfl, eb, hl, rfl⟩
section
variable {X : Cx} {pins : List (Addr × Obj)} {σ : St} {H : Hp} {s : Shared} {a : Addr} {y v : V} {u r : Value} {o : Option V} {A : Around} {E : Value → Shared → Prop}
end
section
variable {X : Cx} {pins : List (Addr × Obj)} {σ : St} {H : Hp} {s : Shared} {a : Addr} {kvs : List (Key × V)} {k : Key} {u : Value} {A : Around} {E : Value → Shared → Prop}
end
def NoSl (i : Expr) : Prop := ∀ ov iv, subscripted i false ov iv = operate [ov, iv] (getItem ov iv)
theorem subD_of {prog : Program} {w : World} {A : Around} {E : Value → Shared → Prop} {s : Shared} {env : Env} {value slice : Expr} {pos : Pos} {T id : String} {Q : Value → Shared → Prop}
    (hl : typeLookup (.type T) "__getitem__" = pure (some (.builtin id))) (hs : NoSl slice)
    (h : wpAny (model prog w) A (eval value env) (fun o s₁ => wpAny (model prog w) A (eval slice env) (fun i s₂ => s₂.TypeIs o T ∧ wpAny (model prog w) A (getItem o i) Q E s₂) E s₁) E s) :
    wpAny (model prog w) A (eval (.Subscript value slice pos) env) Q E s := by
  refine Subscript_ (wpAny_mono h (fun o s₁ h₁ => wpAny_mono h₁ (fun i s₂ h₂ => ?_) fun _ _ x => x) fun _ _ x => x)
  obtain ⟨hT, h₂⟩ := h₂
  unfold subscriptTail
  refine wpAny_bind ?_
  rw [getitemInPython_of_ne hT.not_modules]
  refine wpAny_bind (wpAny_specialOf hT hl ?_)
  have fin : wpAny (model prog w) A (subscripted slice false o i) (fun r s₃ => wpAny (model prog w) A (letTemporaryGo value o r >>= fun _ => pure r) Q E s₃) E s₂ := by
    rw [hs o i]
    exact wpAny_operating (wpAny_mono h₂ (fun r s₃ h₃ => wpAny_bind (wpAny_letTemporaryGo (wpAny_pure h₃))) fun _ _ x => x)
  first
    | exact wpAny_pure (wpAny_bind fin)
    | exact wpAny_bind (wpAny_pure (wpAny_bind fin))
    | exact wpAny_bind fin
def tDGet (td ty : TE) : TE := fun σ H Q => td σ H fun x H1 => ty σ H1 fun y H2 => ∃ a v, x = .ref a ∧ DGet H2 a y (some v) ∧ Q v H2
def tDIn (ty td : TE) : TE := fun σ H Q => ty σ H fun y H1 => td σ H1 fun x H2 => ∃ a o, x = .ref a ∧ DGet H2 a y o ∧ Q (.bl o.isSome) H2
def sDPut (td ty tv : TE) : TS := fun D σ H => tv σ H fun v H1 => td σ H1 fun x H2 => ty σ H2 fun y H3 => ∃ a H4, x = .ref a ∧ DPut H3 a y v H4 ∧ D.nx σ H4
section
variable {X : Cx} {o i e value : Expr} {pos pos' tpos : Pos} {td ty tv : TE}
end
def tDNewK : TE := fun _ H Q => ∀ p, H p = none → Q (.ref p) (upd H p (.dK []))
section
variable {X : Cx} {pos : Pos}
end
def tPairs : List (TE × TE) → St → Hp → (List (V × V) → Hp → Prop) → Prop
  | [], _, H, Q => Q [] H
  | (tk, tv) :: r, σ, H, Q => tk σ H fun x H1 => tv σ H1 fun y H2 => tPairs r σ H2 fun ps H3 => Q ((x, y) :: ps) H3
abbrev VV : List (V × V) → List (Value × Value) → Prop := Paired fun p q => RelV p.1 q.1 ∧ RelV p.2 q.2
def PPs (X : Cx) (pos : Pos) (keys : List (Option Expr)) (values : List Expr) (trs : List (TE × TE)) : Prop :=
  ∀ (pins : List (Addr × Obj)) (s : Shared) (σ : St) (H : Hp) (Q : List (V × V) → Hp → Prop), Inv X pins σ H s → tPairs trs σ H Q →
    wpAny (model X.prog X.w) X.A (evalPairs (pairTrees keys values X.env pos)) (fun vs s' => ∃ ps H', Inv X pins σ H' s' ∧ VV ps vs ∧ Q ps H') X.xe s
section
variable {X : Cx} {pins : List (Addr × Obj)} {σ : St} {H : Hp} {s : Shared} {a : Addr} {y d : V} {u r : Value} {o : Option V} {A : Around} {E : Value → Shared → Prop}
end
section
variable {X : Cx} {o e f : Expr} {apos cpos : Pos} {td ty tx : TE}
end
section
variable {X : Cx} {pins : List (Addr × Obj)} {σ : St} {H : Hp} {s : Shared} {a : Addr} {kvs : List (Key × V)} {A : Around} {E : Value → Shared → Prop}
end
section
variable {X : Cx} {pins : List (Addr × Obj)} {σ : St} {H : Hp} {s : Shared} {a : Addr} {y : V} {u : Value} {A : Around} {E : Value → Shared → Prop}
end
end L2
namespace Att
open PySem PySem.W PySem.Calls PyProof.Rows
theorem ints_of_wellAll {P : Params} {h : Heap} : ∀ (ns : List Int) (vs : List Value), WellAll P h vs (ns.map WData.int) → IntsAre vs ns := by
  intro ns
  induction ns with
  | nil =>
    intro vs w
    rw [List.map_nil] at w
    cases w
    exact .nil
  | cons n ns ih =>
    intro vs w
    rw [List.map_cons] at w
    cases w with
    | cons a b =>
      cases a
      exact .cons _ _ (ih _ b)
theorem script_of {l : OpenLaw} {n : Nat} (hn : l.most = some n) {P : Params} {h : Heap} {args : List WData} {vals : List Value}
    (hpre : l.row.toRowW.claim.pre args = true) (hwl : WellAll P h vals args) :
    ∃ a vs ns, vals = [Value.ref a] ∧ args = [WData.list (ns.map WData.int)] ∧ h.get? a = some { cls := .type "list", data := .seq vs.toArray } ∧ IntsAre vs ns ∧ ns.length ≤ n := by
  have hsh : WShape.hasAll [] args [.list .int] = true := (pre_splitW hpre).1
  have hc : l.pre.holds [] { args := args } = true := (pre_splitW hpre).2
  obtain ⟨d, r, rfl, h1, h2⟩ := hasAllW_cons hsh
  obtain rfl := hasAllW_nil h2
  obtain ⟨xs, rfl, h3⟩ := hasW_list h1
  obtain ⟨ns, rfl⟩ := items_int h3
  have hlen : ns.length ≤ n := by
    unfold OpenLaw.pre at hc
    have h4 : (WTm.not (.lt (.lit (.int (n : Int))) (.len (.arg 0)))).holds [] { args := [.list (ns.map .int)] } = true := by
      have h4 := (holds_andW hc).1
      rw [hn] at h4
      exact h4
    have h5 := condW_of h4 (w_not (w_lt w_lit (w_len_list (w_arg rfl))))
    rw [List.length_map] at h5
    refine Nat.le_of_not_lt fun q => ?_
    have q' : (n : Int) < ((ns.length : Nat) : Int) := by omega
    first
      | (rw [decide_eq_true q'] at h5; exact absurd h5 (by decide))
      | (simp at h5; omega)
  cases hwl with
  | cons w1 w2 =>
    cases w2
    cases w1 with
    | list ho hall => exact ⟨_, _, ns, rfl, rfl, ho, ints_of_wellAll ns _ hall, hlen⟩
theorem post_true (l : OpenLaw) (args : List WData) : l.row.toRowW.claim.post args (.bool true) args = true :=
  postW_of (r := l.row.toRowW) (X := (true == true))
    (show WShape.has [] (.bool true) .bool = true by first | rfl | decide | simp [WShape.has, WShape.arms, WShape.armsAll])
    (show (WTm.eq .res (.lit (.bool true))).value [] { args := args, res := some (.bool true), after := args } = some (.bool (true == true)) from w_eq_bool (w_res rfl) w_lit) rfl
theorem attach_call {l : OpenLaw} {n : Nat} {q : Program} {loose : List Str} {XP : (Str → Option Value) → Heap → Prop} {YP : World → Heap → Prop} {d : DefRec}
    (hn : l.most = some n) (hdf : d.params.defaults = [])
    (call : ∀ (w : World) (s₀ s₁ : Shared) (mg mb : Str → Option Value) (fa : Addr) (o : Obj) (pm cd doc : Value) (a : Addr) (vs : List Value) (ns : List Int),
      Ground q loose [] XP w s₀ mg mb s₁.heap → YP w s₁.heap →
      s₁.heap.get? fa = some o → o.data = .func (docDef d.name d.params d.body d.scope pm cd doc) → s₁.heap.CodeRec cd d.name → mg d.name = some (.ref fa) →
      s₁.heap.get? a = some { cls := .type "list", data := .seq vs.toArray } → IntsAre vs ns → ns.length ≤ n → s₁.gens = #[] →
      codeAny (model l.prog w) callerA (.call (.ref fa) ⟨[.ref a], []⟩) (fun r s' => r = .ok (.ret (.bool true)) ∧ OldK s₁.heap s'.heap ∧ s'.os = s₁.os ∧ AllBare s'.gens) s₁) :
    WalkO q loose XP YP l.row.toRowW d [] (fun f vs => PySem.call f vs) := by
  intro w s₀ s₁ mg mb G Y fa o pm cd doc dV kV ho hd hcd hD hmg hg args vals as hpre hlay hrd hwl hlo
  obtain rfl : dV = .none := Dflts.none hD hdf
  obtain rfl : kV = .none := Dflts.noKw hD
  obtain ⟨a, vs, ns, rfl, rfl, hobj, hints, hlen⟩ := script_of hn hpre hwl
  refine enter_call (codeAny_mono (call w s₀ s₁ mg mb fa o pm cd doc a vs ns G Y ho (fd_plain hd) hcd hmg hobj hints hlen hg) fun r s' hq => ?_)
  obtain ⟨rfl, h2, h3, h4⟩ := hq
  exact ⟨.inl ⟨.bool true, .bool true, [], rfl, fun _ => rfl, .bool true, post_true l _, fun _ => ⟨List.Pairwise.nil, fun _ hm => (nomatch hm)⟩⟩, h2, h3, h4⟩
section
variable {prog : Program} {w : World} {A : Around} {E : Value → Shared → Prop} {s : Shared} {K : Frag}
end
end Att
namespace L2
open PySem PySem.Spec PyProof.Rows
theorem vals_ints : ∀ {vs : List Value} {ns : List Int}, IntsAre vs ns → Vals (ns.map V.int) vs
  | _, _, .nil => .nil
  | _, _, .cons n t h => .cons ⟨t, rfl⟩ (vals_ints h)
end L2
namespace L2
open PySem PySem.Spec PyProof.Rows
end L2
/- THE LAST THEOREM (shape; LID, My.* are yours):
   My.Adr: a structure of the addresses that your layer names (classes, functions); My.Txt K t: a structure (Prop) of the equations over K;
   My.txt_mk : {K} {implicit addresses ..} (e1 : nsIn K mainGlobals "law" = some (some (.ref f))) (e2 : K.lookup f = some ⟨oc, od, .func (fnOf "law" "law" params body scope dV kV doc pm an cdv ct), sl⟩) (e3 : codeIn K cdv "law" = true) .. : ∃ t, My.Txt K t

set_option maxRecDepth 100000 in
set_option maxHeartbeats 0 in
theorem PySem.Challenge.cw_LID_holds : PySem.Challenge.rw_LID.Holds := by
  w_on; o_law; k_head; (case hw => w_witness2)
  k_fill
  refine L2.walk_of (l := PySem.Challenge.rw_LID) (n := 63) (k := 40) (x := "script") (CX := fun w => ..) (sp := fun _ => My.sp_law) rfl (by decide) rfl ⟨rfl, by decide, by decide⟩ (fun w h Y => PySem.W.kIn_of Y) ?F ?S ?C
  case F =>
    intro w mg fa h KX G hmg
    have T : ∃ t, My.Txt (L2.KOf KX) t := by
      dsimp only [L2.KOf]                          -- K must stand as «<heap const> w.params» for k_is
      refine' My.txt_mk ?e1 ?e2 ?e3 ..
      (case e1 => PySem.W.k_is)                    -- in the order: a name -> its address -> its object -> its parts
      (case e2 => PySem.W.k_is)
      ..
    obtain ⟨t, T⟩ := T
    have e0 := hmg.symm.trans (PySem.W.mg_of KX G T.law)
    cases e0                                       -- fa is the law's own address
    exact ⟨_, fun s u => .of_eq rfl, fun base kb nb => My.law_fn T kb nb⟩     -- if «.of_eq rfl» comes too early: refine' ⟨_, ?b, fun base kb nb => My.law_fn T kb nb⟩; exact fun s u => .of_eq rfl
  case S => exact fun w H a ns hl hO hS => ..
  case C => exact ..
(the tactic k_is has no namespace: write k_is) -/

/-! SHORT WORDS over the layer: a def of the text, its body, what a loop and a test want. -/
namespace L2
open PySem PySem.Spec PyProof.Rows
def defArgs (s : Stmt) : Arguments := match s with
  | .FunctionDef _ a _ _ _ _ _ _ _ _ => a
  | _ => { posonlyargs := [], args := [], vararg := none, kwonlyargs := [], kw_defaults := [], kwarg := none, defaults := [] }
def defBody (s : Stmt) : List Stmt := match s with
  | .FunctionDef _ _ b _ _ _ _ _ _ _ => b
  | _ => []
def defScope (s : Stmt) : Scope := match s with
  | .FunctionDef _ _ _ _ _ _ sc _ _ _ => sc
  | _ => { kind := .function, names := [], isGenerator := false, isCoroutine := false }
abbrev CX0 : CXT := fun _ _ _ _ _ _ => False
abbrev E0 : XK := fun _ _ _ => False
theorem pass0 {X : Cx} : Passes CX0 X E0 := fun _ _ _ _ _ _ _ h => h.elim
structure Fun (K : PySem.W.Frag) (x qual : Str) (st : Stmt) (f : Addr) (fd : FuncData) : Prop where
  ex : ∃ (oc : Value) (od : Option Addr) (kV doc pm : Value) (an : Option Addr) (cdv ct : Value) (osl : Array (Option Value)),
    fd = PySem.W.fnOf x qual (defArgs st) (defBody st) (defScope st) .none kV doc pm an cdv ct ∧ K.lookup f = some ⟨oc, od, .func fd, osl⟩ ∧ PySem.W.codeIn K cdv qual = true
  kp : PySem.W.keepIn K (.ref f) = true
section
variable {P : Program} {w : World} {K : PySem.W.Frag} {mg : Str → Option Value} {base : Heap}
theorem Fun.ok {x qual : Str} {st : Stmt} {f : Addr} {fd : FuncData} {N ps : List Str} {k : Nat} {sp : Sp} (F : Fun K x qual st f fd) (S : FnScope N ps (defScope st)) (len : ∀ vs H Q E, sp vs H Q E → vs.length = ps.length)
    (hbody : ∀ (cdv : Value) (A : Around) (outer : List Env) (s : Shared) (H : Hp) (vs : List V) (Q : VK) (E : XK), Room k (A.deeper (envOfC qual (defScope st) s.heap.objs.size f cdv)) → sp vs H Q E →
      ∃ t, PSs (cxOf CX0 P w K mg base N qual (defScope st) f cdv A outer s H E).nox (defBody st) t ∧ t { nx := fun _ H' => Q .non H', rt := Q } (start N vs) H) : FnOk P w K mg base CX0 (k + 1) f fd ps sp := by
  obtain ⟨oc, od, kV, doc, pm, an, cdv, ct, osl, rfl, lk, hcd⟩ := F.ex
  refine fn_of lk hcd S len fun A outer s H vs Q E hr hsp => ?_
  obtain ⟨t, h, q⟩ := hbody cdv A outer s H vs Q E hr hsp
  exact ⟨t, h.nox, q⟩
theorem Fun.binds {x qual : Str} {st : Stmt} {f : Addr} {fd : FuncData} {ps : List Str} (F : Fun K x qual st f fd)
    (h : ∀ (kV doc pm : Value) (an : Option Addr) (cdv ct : Value) (us : List Value), us.length = ps.length → bindArgs (PySem.W.fnOf x qual (defArgs st) (defBody st) (defScope st) .none kV doc pm an cdv ct) ⟨us, []⟩ = pure (ps.zip us)) : Binds K fd ps [] := by
  obtain ⟨oc, od, kV, doc, pm, an, cdv, ct, osl, rfl, lk, hcd⟩ := F.ex
  exact .all (h kV doc pm an cdv ct)
theorem fun_mk {x qual : Str} {st : Stmt} {f : Addr} {oc : Value} {od an : Option Addr} {osl : Array (Option Value)} {kV doc pm cdv ct : Value} (l : K.lookup f = some ⟨oc, od, .func (PySem.W.fnOf x qual (defArgs st) (defBody st) (defScope st) .none kV doc pm an cdv ct), osl⟩)
    (c : PySem.W.codeIn K cdv qual = true) (k : PySem.W.keepIn K (.ref f) = true) : Fun K x qual st f (PySem.W.fnOf x qual (defArgs st) (defBody st) (defScope st) .none kV doc pm an cdv ct) := ⟨⟨oc, od, kV, doc, pm, an, cdv, ct, osl, rfl, l, c⟩, k⟩
end
theorem hu_of {A : Around} {k : Nat} (hr : Room k A) : A.units + 1 < cLine := Nat.lt_of_le_of_lt (Nat.add_le_add_left (by decide : 1 ≤ 64) _) hr.units
theorem small1000 {n : Nat} (h : n ≤ 1000) : n < sizeLine := Nat.lt_of_le_of_lt h (by decide)
section
variable {X : Cx}
theorem pv (i : Nat) {x : Str} {pos : Pos} (hN : X.N[i]? = some x := by rfl) (hv : Vis X.env.scope x := by first | exact Or.inl rfl | exact Or.inr (Or.inl rfl) | exact Or.inr (Or.inr rfl)) (hd : (x == ("__debug__" : Str)) = false := by decide)
    (hcd : (x == ("__classdict__" : Str)) = false := by decide) : PE X (.Name x pos) (tVar i) := pe_var hN hv hd hcd
end
theorem iteF {A B : Prop} (h : B) : if false = true then A else B := by
  rw [if_neg Bool.false_ne_true]
  exact h
theorem iteT {A B : Prop} (h : A) : if true = true then A else B := by
  rw [if_pos rfl]
  exact h
theorem ite2 {c A B : Prop} [Decidable c] (h1 : c → A) (h2 : ¬ c → B) : if c then A else B := by
  by_cases h : c
  · rw [if_pos h]
    exact h1 h
  · rw [if_neg h]
    exact h2 h
def Same (H H' : Hp) : Prop := ∀ b o, H b = some o → H' b = some o
theorem Same.refl (H : Hp) : Same H H := fun _ _ h => h
theorem Same.trans {H H1 H2 : Hp} (a : Same H H1) (b : Same H1 H2) : Same H H2 := fun c o h => b c o (a c o h)
theorem Same.free {H H' : Hp} (e : Same H H') {l : Addr} (h : H' l = Option.none) : H l = Option.none := by
  cases q : H l with
  | none => rfl
  | some o =>
    rw [e l o q] at h
    cases h
theorem Same.seq {K : PySem.W.Frag} {H H' : Hp} {a : Addr} {xs : List V} (e : Same H H') (h : SqL K H a xs) : SqL K H' a xs := by
  rcases h with (h | ⟨o, h⟩) | h
  · exact .inl (.inl (e _ _ h))
  · exact .inl (.inr ⟨o, e _ _ h⟩)
  · exact .inr h
section
variable {κ : Type} [DecidableEq κ]
end
end L2
set_option Elab.async false
set_option linter.all false
set_option maxRecDepth 100000
set_option maxHeartbeats 4000000
namespace L2
open PySem PySem.Spec PyProof.Rows
structure DefIn (K : PySem.W.Frag) (mg : Str → Option Value) (x : Str) (st : Stmt) (ps : List Str) (f : Addr) (fd : FuncData) : Prop where
  fn : Fun K x x st f fd
  m : mg x = some (.ref f)
  b : Binds K fd ps []
def Has (P : Program) (w : World) (K : PySem.W.Frag) (mg : Str → Option Value) (base : Heap) (x : Str) (k : Nat) (ps : List Str) (sp : Sp) : Prop :=
  ∃ (f : Addr) (fd : FuncData), mg x = some (.ref f) ∧ PySem.W.keepIn K (.ref f) = true ∧ Binds K fd ps [] ∧ FnOk P w K mg base CX0 k f fd ps sp
section
variable {P : Program} {w : World} {K : PySem.W.Frag} {mg : Str → Option Value} {base : Heap} {x : Str} {k : Nat} {ps : List Str} {sp : Sp} {st : Stmt} {f : Addr} {fd : FuncData}
theorem DefIn.has (D : DefIn K mg x st ps f fd) (F : FnOk P w K mg base CX0 k f fd ps sp) : Has P w K mg base x k ps sp := ⟨f, fd, D.m, D.fn.kp, D.b, F⟩
theorem Has.mono {j : Nat} (h : Has P w K mg base x j ps sp) (hk : j ≤ k) : Has P w K mg base x k ps sp :=
  let ⟨f, fd, a, b, c, F⟩ := h
  ⟨f, fd, a, b, c, F.mono hk⟩
end
section
variable {X : Cx} {k j : Nat} {ps : List Str} {sp : Sp} {x : Str} {p pos : Pos} {e : Expr} {es : List Expr} {t : TA}
theorem pe_callH (F : Has X.prog X.w X.K X.mg X.base x k ps sp) (hr : Room j X.A) (ha : PA X (e :: es) t) (hk : k ≤ j := by decide) (hg : Gl X x := by rfl) (hdb : (x == ("__debug__" : Str)) = false := by decide)
    (he : starEach (e :: es) X.env = (false, eval e X.env) :: starEach es X.env := by rfl) (hpl : (backTo pos (starEach es X.env)).any (·.1) = false := by rfl) :
    PE X (.Call (.Name x p) (e :: es) [] pos) (tCall sp [] E0 t) := by
  obtain ⟨f, fd, a, b, c, F⟩ := F
  exact pe_call F (hr.mono hk) hg a b c .nil pass0 ha hdb he hpl
theorem pe_callH0 (F : Has X.prog X.w X.K X.mg X.base x k ps sp) (hr : Room j X.A) (hk : k ≤ j := by decide) (hg : Gl X x := by rfl) (hdb : (x == ("__debug__" : Str)) = false := by decide) :
    PE X (.Call (.Name x p) [] [] pos) (tCall sp [] E0 tNil) := by
  obtain ⟨f, fd, a, b, c, F⟩ := F
  exact pe_call0 F (hr.mono hk) hg a b c .nil pass0 hdb
end
theorem hu0_of {A : Around} {k : Nat} (hr : Room k A) : A.units < cLine := Nat.lt_of_succ_lt (hu_of hr)
structure Blt (mg : Str → Option Value) : Prop where
  len : mg "len" = none
  isinstance : mg "isinstance" = none
  list_ : mg "list" = none
  tuple_ : mg "tuple" = none
  bool_ : mg "bool" = none
  str_ : mg "str" = none
  int_ : mg "int" = none
  range : mg "range" = none
  zip : mg "zip" = none
  reversed : mg "reversed" = none
  min : mg "min" = none
  max : mg "max" = none
section
variable {X : Cx}
theorem call_isinst : CallR X (.builtin "isinstance") (fun xs H Q => ∃ (x : V) (c t : String) (b : Bool), xs = [x, .ty c] ∧ TyOf X.K H x (.type t) ∧ PySem.W.kitOne X.K (.type t) (.type c) = some b ∧ Q (.bl b) H) := by
  intro pins s σ H xs us Q I r h
  obtain ⟨x, c, t, b, rfl, ty, e, q⟩ := h
  obtain ⟨u, v, rfl, ru, rv⟩ := r.two
  cases (show v = Value.type c from rv)
  exact isinst_ok I ru ty e fun tk => ⟨.bl b, H, I.tok _, rfl, q⟩
theorem vals_ty : ∀ {cs : List String} {us : List Value}, Vals (cs.map V.ty) us → us = cs.map Value.type
  | [], _, r => by cases r; rfl
  | c :: cs, _, r => by
    rw [List.map_cons] at r
    cases r with
    | cons a t => cases (show _ = Value.type c from a); rw [vals_ty t]; rfl
theorem isinstT_ok {pins : List (Addr × Obj)} {σ : St} {H : Hp} {s : Shared} {A : Around} {E : Value → Shared → Prop} {Q : Value → Shared → Prop} {b : Bool} {x : V} {u t : Value} {tp : Addr} {cs : List String} (I : Inv X pins σ H s) (rx : RelV x u) (ty : TyOf X.K H x t)
    (htp : H tp = some (.tup (cs.map V.ty))) (e : PySem.W.kitAny X.K t (cs.map Value.type) = some b) (h : ∀ tk, Q (.bool b) { s with toks := tk }) :
    wpAny (model X.prog X.w) A (call (.builtin "isinstance") [u, .ref tp]) Q E s := by
  obtain ⟨its, rv, ⟨⟨oc, od, oda, osl⟩, ho, hc, n, hd⟩, _⟩ := I.tuple (SqT.of htp)
  obtain rfl := vals_ty rv
  simp only at hc hd
  subst hc hd
  cases ty with
  | non => cases (show u = Value.none from rx); exact PySem.W.kia_tup PySem.W.kitx_none I.kIn True.intro ho e (fun z => nomatch z) h
  | bl y => cases (show u = Value.bool y from rx); exact PySem.W.kia_tup PySem.W.kitx_bool I.kIn True.intro ho e (fun z => nomatch z) h
  | int i => obtain ⟨t, q⟩ := (show ∃ t, u = Value.int i t from rx); cases q; exact PySem.W.kia_tup PySem.W.kitx_int I.kIn True.intro ho e (fun z => nomatch z) h
  | str y => obtain ⟨t, q⟩ := (show ∃ t, u = Value.str y t from rx); cases q; exact PySem.W.kia_tup PySem.W.kitx_str I.kIn True.intro ho e (fun z => nomatch z) h
  | flt y => obtain ⟨t, q⟩ := (show ∃ t, u = Value.float y t from rx); cases q; exact PySem.W.kia_tup PySem.W.kitx_float I.kIn True.intro ho e (fun z => nomatch z) h
  | @lst a xs ea =>
    cases (show u = Value.ref a from rx)
    obtain ⟨_, _, n, _, h1⟩ := (show ObjOk X.prog X.w H s.heap a (.lst xs) from I.hok a _ ea)
    exact PySem.W.kia_tup PySem.W.kitx_list I.kIn ⟨_, h1, rfl⟩ ho e (fun z => nomatch z) h
  | @frz a ob xs ea =>
    cases (show u = Value.ref a from rx)
    obtain ⟨_, _, _, n, _, h1⟩ := (show ObjOk X.prog X.w H s.heap a (.frz ob (.lst xs)) from I.hok a _ ea)
    exact PySem.W.kia_tup PySem.W.kitx_list I.kIn ⟨_, h1, rfl⟩ ho e (fun z => nomatch z) h
  | @tup a xs ea =>
    cases (show u = Value.ref a from rx)
    obtain ⟨_, _, _, p⟩ := (show ObjOk X.prog X.w H s.heap a (.tup xs) from I.hok a _ ea)
    obtain ⟨o, h1, h2, _⟩ := p
    exact PySem.W.kia_tup PySem.W.kitx_tuple I.kIn ⟨o, h1, h2⟩ ho e (fun z => nomatch z) h
  | @dK a kvs ea =>
    cases (show u = Value.ref a from rx)
    obtain ⟨_, _, vs, _, p⟩ := (show ObjOk X.prog X.w H s.heap a (.dK kvs) from I.hok a _ ea)
    obtain ⟨o, es, ep, h1, h2, _⟩ := p
    exact PySem.W.kia_tup PySem.W.kitx_dict I.kIn ⟨o, h1, h2.1⟩ ho e (fun z => nomatch z) h
  | @dT a kvs ea =>
    cases (show u = Value.ref a from rx)
    obtain ⟨_, _, xs, _, o, es, ep, h1, h2, _⟩ := (show ObjOk X.prog X.w H s.heap a (.dT kvs) from I.hok a _ ea)
    exact PySem.W.kia_tup PySem.W.kitx_dict I.kIn ⟨o, h1, h2.1⟩ ho e (fun z => nomatch z) h
  | @ins a C dx fs ea cl ha hn htk hm =>
    cases (show u = Value.ref a from rx)
    obtain ⟨mA, O, _⟩ := ins_get I.hok ea
    obtain ⟨od, J, _⟩ := O.look
    exact PySem.W.kia_tup (PySem.W.kitx_own (cl.get _) cl.hd ha hn htk hm) I.kIn J ho e (fun z => nomatch z) h
theorem call_isinstT : CallR X (.builtin "isinstance") (fun xs H Q => ∃ (x : V) (p : Addr) (cs : List String) (t : String) (b : Bool), xs = [x, .ref p] ∧ H p = some (.tup (cs.map V.ty)) ∧ TyOf X.K H x (.type t) ∧ PySem.W.kitAny X.K (.type t) (cs.map Value.type) = some b ∧ Q (.bl b) H) := by
  intro pins s σ H xs us Q I r h
  obtain ⟨x, p, cs, t, b, rfl, hp, ty, e, q⟩ := h
  obtain ⟨u, v, rfl, ru, rv⟩ := r.two
  cases (show v = Value.ref p from rv)
  exact isinstT_ok I ru ty hp e fun tk => ⟨.bl b, H, I.tok _, rfl, q⟩
end
section
variable {X : Cx}
theorem op_neNil (hu : X.A.units < cLine) : OpR X (compareOp .NotEq) (fun x y H Q => ∃ l b xs, x = .ref l ∧ y = .ref b ∧ SqL X.K H l xs ∧ SqL X.K H b [] ∧ Q (.bl (!xs.isEmpty)) H) := by
  intro pins s σ H x y v u Q I rx ry h
  obtain ⟨l, b, xs, rfl, rfl, hl, hb, q⟩ := h
  cases rx
  cases ry
  obtain ⟨its, r, pl, hz⟩ := I.list hl
  obtain ⟨its2, r2, pl2, _⟩ := I.list hb
  cases r2
  cases r with
  | nil => exact SeqAt.RcNeAt.lists (e := fun _ => true) pl.isList pl2.isList rfl hu (fun j h1 _ => absurd h1 (Nat.not_lt_zero _)) _ _ _ _ ⟨.bl false, H, I, rfl, q⟩
  | cons a t => exact SeqAt.RcNeAt.lists_lengths pl.isList pl2.isList (by simp) hu _ _ _ _ ⟨.bl true, H, I, rfl, q⟩
theorem op_eqNil (hu : X.A.units < cLine) : OpR X (compareOp .Eq) (fun x y H Q => ∃ l b xs, x = .ref l ∧ y = .ref b ∧ SqL X.K H l xs ∧ SqL X.K H b [] ∧ Q (.bl xs.isEmpty) H) := by
  intro pins s σ H x y v u Q I rx ry h
  obtain ⟨l, b, xs, rfl, rfl, hl, hb, q⟩ := h
  cases rx
  cases ry
  obtain ⟨its, r, pl, hz⟩ := I.list hl
  obtain ⟨its2, r2, pl2, _⟩ := I.list hb
  cases r2
  cases r with
  | nil => exact SeqAt.RcAt.lists (e := fun _ => true) pl.isList pl2.isList rfl hu (fun j h1 _ => absurd h1 (Nat.not_lt_zero _)) _ _ _ _ ⟨.bl true, H, I, rfl, q⟩
  | cons a t => exact SeqAt.RcAt.lists_lengths pl.isList pl2.isList (by simp) hu _ _ _ _ ⟨.bl false, H, I, rfl, q⟩
end
section
open PySem.AutoSeq1
theorem ext_tupleX (l : Addr) (items : Array Value) (n : Nat) (b : Addr) (items2 : Array Value) (n2 : Nat) (dd : Option Addr) (sl : Array (Option Value)) (hs0 : ¬(!items.isEmpty && Builtin.List.listTooLong (items.size + items2.size)) = true) (hs1 : items.size ≤ sizeLine) (hs2 : items.size + items2.size ≤ sizeLine + 1) :
    Meets (Builtin.«list.extend» ⟨[.ref l, .ref b], []⟩) (fun _ R s => s.heap.get? l = some { cls := .type "list", dict := none, data := .seq items n, slots := #[] } ∧ s.heap.get? b = some { cls := .type "tuple", dict := dd, data := .seq items2 n2, slots := sl } ∧ R (.ok (.ret Value.none)) { s with heap := s.heap.update l (Obj.mapSeq fun x => x ++ items2), toks := s.toks }) :=
  .of_wp fun prog w A R s h => by
    obtain ⟨hp, g, d, tk, os⟩ := s; obtain ⟨hl, hb, h⟩ := h; have f1 := idx_int; have f2 := AutoSeq1.sub_tuple_tuple; have f3 := AutoSeq1.sub_list_list; have f4 := AutoSeq1.sub_tuple_list; have f5 := AutoSeq1.sub_list_tuple;
    have hz' : (items ++ items2).size ≤ sizeLine + 1 := by rw [Array.size_append]; exact hs2
    wp_walk using (wpAny_updateSeq hl rfl (hz := hs1) (_hz' := hz')), wpAny_loadPart' hl, wpAny_loadPart' hb; exact ⟨_, rfl, h⟩
end
section
variable {X : Cx}
def rExtendS : V → List V → Hp → VK → Prop := fun x vs H Q => ∃ l b xs zs, x = .ref l ∧ vs = [.ref b] ∧ H l = some (.lst xs) ∧ (H b = some (.lst zs) ∨ H b = some (.tup zs)) ∧ xs.length + zs.length ≤ sizeLine ∧ Q .non (upd H l (.lst (xs ++ zs)))
theorem mt_extendS : MtM X "list.extend" rExtendS := by
  intro pins s σ H x vs v us Q I rx rv h
  obtain ⟨l, b, xs, zs, rfl, rfl, hH, hB, hz, q⟩ := h
  rcases hB with hB | hB
  · exact mt_extend pins s σ H _ _ v us Q I rx rv ⟨l, b, xs, zs, rfl, rfl, hH, hB, hz, q⟩
  · cases rx
    obtain ⟨u, rfl, ru⟩ := rv.one
    cases ru
    obtain ⟨z, its, n, r, hl, e⟩ := I.lstM hH
    obtain ⟨its2, r2, ⟨⟨oc, od, oda, osl⟩, ho, hc, n2, hd⟩, _⟩ := I.tuple (SqT.of hB)
    simp only at hc hd
    subst hc hd
    have hl2 := r2.length
    have hsz : its.toArray.size + its2.toArray.size ≤ sizeLine := by rw [List.size_toArray, List.size_toArray]; omega
    have hlong : ¬ (!its.toArray.isEmpty && Builtin.List.listTooLong (its.toArray.size + its2.toArray.size)) = true := by
      rw [notLongL hsz, Bool.and_false]
      exact Bool.false_ne_true
    refine call_meets F.slot_list_extend ⟨_, e, rfl⟩ F.entry_list_extend (F.args_list_extend_2 _ _)
      (ext_tupleX l its.toArray n b its2.toArray n2 od osl hlong (by rw [List.size_toArray]; omega) (by omega)) ⟨e, ho, ?_⟩
    refine ⟨.non, _, I.lset (its' := its ++ its2) hH e (by simp) (r.append r2) ?_, rfl, q⟩
    rw [List.length_append]
    omega
def rInsert : V → List V → Hp → VK → Prop := fun x vs H Q => ∃ l xs i y, x = .ref l ∧ vs = [.int i, y] ∧ H l = some (.lst xs) ∧ 0 ≤ i ∧ i ≤ xs.length ∧ xs.length < sizeLine ∧ Q .non (upd H l (.lst (xs.take i.toNat ++ y :: xs.drop i.toNat)))
theorem mt_insert : MtM X "list.insert" rInsert := by
  intro pins s σ H x vs v us Q I rx rv h
  obtain ⟨l, xs, i, y, rfl, rfl, hH, h0, h1, hz, q⟩ := h
  cases rx
  obtain ⟨u, w, rfl, ru, rw'⟩ := rv.two
  obtain ⟨t, rfl⟩ := ru
  obtain ⟨z, its, n, r, hl, e⟩ := I.lstM hH
  have hn := line63
  have hfit : ¬(!Builtin.List.listFitsIndex i) = true := by
    rw [fitsIndex_both (by omega) (by omega)]
    exact Bool.false_ne_true
  refine call_meets F.slot_list_insert ⟨_, e, rfl⟩ F.entry_list_insert (F.args_list_insert_3 _ _ _) (AutoSeq1.list_insert_list_int_val_1 l its.toArray n i t w hfit (by rw [List.size_toArray]; omega)) ⟨e, ?_⟩
  refine ⟨.non, _, I.lset (its' := its.take i.toNat ++ w :: its.drop i.toNat) hH e ?_ (Vals.append (r.take _) (.cons rw' (r.drop _))) ?_, rfl, q⟩
  · have hi : ¬ i < 0 := by omega
    have hm : min i.toNat its.length = i.toNat := by omega
    apply Array.ext'
    simp [hi, hm]
    exact List.take_of_length_le (by rw [List.length_drop]; omega)
  · rw [List.length_append, List.length_cons, List.length_take, List.length_drop]
    omega
end
section
variable {H H' H0 : Hp} {p l b : Addr} {o u : HO}
theorem keepN (hp : H p = none) (h : H b = some u) : upd H p o b = some u := by rw [upd_ne (ne_of_none h hp)]; exact h
theorem keepL (n : b ≠ l) (h : H b = some u) : upd H l o b = some u := by rw [upd_ne n]; exact h
theorem Same.new (S : Same H0 H) (hp : H p = none) : Same H0 (upd H p o) := fun c q h => keepN hp (S c q h)
theorem Same.set (S : Same H0 H) (h0 : H0 l = none) : Same H0 (upd H l o) := fun c q h => by
  rw [upd_ne (ne_of_none h h0)]
  exact S c q h
def TupK (H H' : Hp) : Prop := ∀ c xs, H c = some (.tup xs) → H' c = some (.tup xs)
theorem TupK.refl (H : Hp) : TupK H H := fun _ _ h => h
theorem TupK.trans {H1 H2 : Hp} (a : TupK H H1) (b : TupK H1 H2) : TupK H H2 := fun c xs h => b c xs (a c xs h)
theorem Same.tupK (S : Same H H') : TupK H H' := fun c _ h => S c _ h
theorem TupK.new (S : TupK H0 H) (hp : H p = none) : TupK H0 (upd H p o) := fun c _ h => keepN hp (S c _ h)
theorem TupK.lst {xs : List V} (S : TupK H0 H) (hl : H l = some (.lst xs)) : TupK H0 (upd H l o) := fun c _ h => by
  have q := S c _ h
  rw [upd_ne (ne_of q hl (by intro z; cases z))]
  exact q
theorem TupK.dK {xs : List (Key × V)} (S : TupK H0 H) (hl : H l = some (.dK xs)) : TupK H0 (upd H l o) := fun c _ h => by
  have q := S c _ h
  rw [upd_ne (ne_of q hl (by intro z; cases z))]
  exact q
end
theorem small {n : Nat} (h : n ≤ 1000000) : n ≤ sizeLine := Nat.le_trans h (by decide)
theorem smallLt {n : Nat} (h : n ≤ 1000000) : n < sizeLine := Nat.lt_of_le_of_lt h (by decide)
section
variable {K : PySem.W.Frag}
theorem kit_ll : PySem.W.kitOne K (.type "list") (.type "list") = some true := by kernel_rfl
theorem kit_lt : PySem.W.kitOne K (.type "list") (.type "tuple") = some false := by kernel_rfl
theorem kit_tl : PySem.W.kitOne K (.type "tuple") (.type "list") = some false := by kernel_rfl
theorem kit_tt : PySem.W.kitOne K (.type "tuple") (.type "tuple") = some true := by kernel_rfl
theorem kit_bb : PySem.W.kitOne K (.type "bool") (.type "bool") = some true := by kernel_rfl
theorem kit_ib : PySem.W.kitOne K (.type "int") (.type "bool") = some false := by kernel_rfl
theorem kit_is : PySem.W.kitOne K (.type "int") (.type "str") = some false := by kernel_rfl
theorem kit_ii : PySem.W.kitOne K (.type "int") (.type "int") = some true := by kernel_rfl
theorem kit_sb : PySem.W.kitOne K (.type "str") (.type "bool") = some false := by kernel_rfl
theorem kit_ss : PySem.W.kitOne K (.type "str") (.type "str") = some true := by kernel_rfl
theorem kitA_l : PySem.W.kitAny K (.type "list") ((["list", "tuple"] : List String).map Value.type) = some true := by kernel_rfl
theorem kitA_t : PySem.W.kitAny K (.type "tuple") ((["list", "tuple"] : List String).map Value.type) = some true := by kernel_rfl
theorem kitA_b : PySem.W.kitAny K (.type "bool") ((["list", "tuple"] : List String).map Value.type) = some false := by kernel_rfl
theorem kitA_i : PySem.W.kitAny K (.type "int") ((["list", "tuple"] : List String).map Value.type) = some false := by kernel_rfl
theorem kitA_s : PySem.W.kitAny K (.type "str") ((["list", "tuple"] : List String).map Value.type) = some false := by kernel_rfl
end
end L2
set_option Elab.async false
set_option linter.all false
set_option maxRecDepth 100000
set_option maxHeartbeats 4000000
namespace L2
open PySem PySem.Spec PyProof.Rows
inductive Say where
  | lamp (k : Int) | dark (k : Int) | neg (s : Say) | conj (s t : Say) | disj (s t : Say) | ev (s : Say) | so (s : Say)
  deriving DecidableEq
def Say.sz : Say → Nat
  | .lamp _ => 3
  | .dark _ => 3
  | .neg s => s.sz + 2
  | .conj s t => s.sz + t.sz + 2
  | .disj s t => s.sz + t.sz + 2
  | .ev s => s.sz + 2
  | .so s => s.sz + 2
def Say.tag : Say → Str
  | .lamp _ => "lamp"
  | .dark _ => "dark"
  | .neg _ => "not"
  | .conj _ _ => "and"
  | .disj _ _ => "or"
  | .ev _ => "every"
  | .so _ => "some"
inductive Stm (H : Hp) : V → Say → Prop where
  | lamp {a : Addr} {k : Int} : H a = some (.tup [.str "lamp", .int k]) → Stm H (.ref a) (.lamp k)
  | dark {a : Addr} {k : Int} : H a = some (.tup [.str "dark", .int k]) → Stm H (.ref a) (.dark k)
  | neg {a : Addr} {v : V} {s : Say} : H a = some (.tup [.str "not", v]) → Stm H v s → Stm H (.ref a) (.neg s)
  | conj {a : Addr} {v u : V} {s t : Say} : H a = some (.tup [.str "and", v, u]) → Stm H v s → Stm H u t → Stm H (.ref a) (.conj s t)
  | disj {a : Addr} {v u : V} {s t : Say} : H a = some (.tup [.str "or", v, u]) → Stm H v s → Stm H u t → Stm H (.ref a) (.disj s t)
  | ev {a : Addr} {v : V} {s : Say} : H a = some (.tup [.str "every", v]) → Stm H v s → Stm H (.ref a) (.ev s)
  | so {a : Addr} {v : V} {s : Say} : H a = some (.tup [.str "some", v]) → Stm H v s → Stm H (.ref a) (.so s)
theorem Stm.mono {H H' : Hp} {v : V} {s : Say} (h : Stm H v s) (m : TupK H H') : Stm H' v s := by
  induction h with
  | lamp e => exact .lamp (m _ _ e)
  | dark e => exact .dark (m _ _ e)
  | neg e _ i => exact .neg (m _ _ e) i
  | conj e _ _ i j => exact .conj (m _ _ e) i j
  | disj e _ _ i j => exact .disj (m _ _ e) i j
  | ev e _ i => exact .ev (m _ _ e) i
  | so e _ i => exact .so (m _ _ e) i
abbrev Stms (H : Hp) : List V → List Say → Prop := Paired (Stm H)
theorem Paired.get1 {α β : Type} {F : α → β → Prop} : ∀ {xs : List α} {ys : List β} {i : Nat} {x : α}, Paired F xs ys → xs[i]? = some x → ∃ y, ys[i]? = some y ∧ F x y
  | _, _, _, _, .nil, e => by simp at e
  | _, _, 0, _, .cons r _, e => by simp at e; subst e; exact ⟨_, rfl, r⟩
  | _, _, i + 1, x, .cons _ t, e => by
    obtain ⟨u, h1, h2⟩ := Paired.get1 (i := i) (x := x) t (by simpa using e)
    exact ⟨u, by simpa using h1, h2⟩
theorem Paired.app {α β : Type} {F : α → β → Prop} : ∀ {xs xs' : List α} {ys ys' : List β}, Paired F xs ys → Paired F xs' ys' → Paired F (xs ++ xs') (ys ++ ys')
  | _, _, _, _, .nil, s => s
  | _, _, _, _, .cons r t, s => .cons r (Paired.app t s)
theorem Stms.mono {H H' : Hp} {vs : List V} {ss : List Say} (h : Stms H vs ss) (m : TupK H H') : Stms H' vs ss := Paired.mapP h fun _ _ q => q.mono m
inductive Als (H : Hp) : Nat → List V → List V → Prop where
  | nil : Als H 0 [] []
  | bl {n : Nat} {xs ys : List V} (b : Bool) : Als H n xs ys → Als H (n + 1) (.bl b :: xs) (.bl b :: ys)
  | int {n : Nat} {xs ys : List V} (i : Int) : Als H n xs ys → Als H (n + 1) (.int i :: xs) (.int i :: ys)
  | str {n : Nat} {xs ys : List V} (x : Str) : Als H n xs ys → Als H (n + 1) (.str x :: xs) (.str x :: ys)
  | lst {n m : Nat} {xs ys as bs : List V} {a b : Addr} : H a = some (.lst as) → H b = some (.lst bs) → Als H m as bs → Als H n xs ys → Als H (n + m + 1) (.ref a :: xs) (.ref b :: ys)
  | tup {n m : Nat} {xs ys as bs : List V} {a b : Addr} : H a = some (.tup as) → H b = some (.tup bs) → Als H m as bs → Als H n xs ys → Als H (n + m + 1) (.ref a :: xs) (.ref b :: ys)
theorem Als.cast {H : Hp} {n m : Nat} {xs ys : List V} (h : Als H n xs ys) (e : n = m) : Als H m xs ys := e ▸ h
theorem Als.app {H : Hp} {n m : Nat} {xs ys xs' ys' : List V} (h : Als H n xs ys) (g : Als H m xs' ys') : Als H (n + m) (xs ++ xs') (ys ++ ys') := by
  induction h with
  | nil => exact g.cast (by omega)
  | bl b _ i => exact (Als.bl b i).cast (by omega)
  | int b _ i => exact (Als.int b i).cast (by omega)
  | str b _ i => exact (Als.str b i).cast (by omega)
  | lst e e' k _ _ i => exact (Als.lst e e' k i).cast (by omega)
  | tup e e' k _ _ i => exact (Als.tup e e' k i).cast (by omega)
theorem Als.len {H : Hp} {n : Nat} {xs ys : List V} (h : Als H n xs ys) : xs.length ≤ n ∧ ys.length = xs.length := by
  induction h with
  | nil => exact ⟨Nat.le_refl _, rfl⟩
  | bl b _ i => simp only [List.length_cons]; omega
  | int b _ i => simp only [List.length_cons]; omega
  | str b _ i => simp only [List.length_cons]; omega
  | lst e e' k _ _ i => simp only [List.length_cons]; omega
  | tup e e' k _ _ i => simp only [List.length_cons]; omega
theorem Als.mono {H H' : Hp} {n : Nat} {xs ys : List V} (h : Als H n xs ys) (S : Same H H') : Als H' n xs ys := by
  induction h with
  | nil => exact .nil
  | bl b _ i => exact .bl b i
  | int b _ i => exact .int b i
  | str b _ i => exact .str b i
  | lst e e' k _ j i => exact .lst (S _ _ e) (S _ _ e') j i
  | tup e e' k _ j i => exact .tup (S _ _ e) (S _ _ e') j i
theorem Als.snoc {H : Hp} {n : Nat} {L R : List V} (h : Als H n L R) : (L = [] ∧ R = [] ∧ n = 0) ∨
    ∃ (L0 R0 : List V) (x y : V) (n0 k : Nat), L = L0 ++ [x] ∧ R = R0 ++ [y] ∧ Als H n0 L0 R0 ∧ Als H k [x] [y] ∧ n0 + k = n := by
  induction h with
  | nil => exact .inl ⟨rfl, rfl, rfl⟩
  | bl b t i =>
    rcases i with ⟨rfl, rfl, rfl⟩ | ⟨L0, R0, x, y, n0, k, rfl, rfl, a, c, rfl⟩
    · exact .inr ⟨[], [], _, _, 0, _, rfl, rfl, .nil, .bl b .nil, by omega⟩
    · exact .inr ⟨_ :: L0, _ :: R0, x, y, n0 + 1, k, rfl, rfl, .bl b a, c, by omega⟩
  | int b t i =>
    rcases i with ⟨rfl, rfl, rfl⟩ | ⟨L0, R0, x, y, n0, k, rfl, rfl, a, c, rfl⟩
    · exact .inr ⟨[], [], _, _, 0, _, rfl, rfl, .nil, .int b .nil, by omega⟩
    · exact .inr ⟨_ :: L0, _ :: R0, x, y, n0 + 1, k, rfl, rfl, .int b a, c, by omega⟩
  | str b t i =>
    rcases i with ⟨rfl, rfl, rfl⟩ | ⟨L0, R0, x, y, n0, k, rfl, rfl, a, c, rfl⟩
    · exact .inr ⟨[], [], _, _, 0, _, rfl, rfl, .nil, .str b .nil, by omega⟩
    · exact .inr ⟨_ :: L0, _ :: R0, x, y, n0 + 1, k, rfl, rfl, .str b a, c, by omega⟩
  | lst e e' q t _ i =>
    rcases i with ⟨rfl, rfl, rfl⟩ | ⟨L0, R0, x, y, n0, k, rfl, rfl, a, c, rfl⟩
    · exact .inr ⟨[], [], _, _, 0, _, rfl, rfl, .nil, .lst e e' q .nil, by omega⟩
    · exact .inr ⟨_ :: L0, _ :: R0, x, y, _, k, rfl, rfl, .lst e e' q a, c, by omega⟩
  | tup e e' q t _ i =>
    rcases i with ⟨rfl, rfl, rfl⟩ | ⟨L0, R0, x, y, n0, k, rfl, rfl, a, c, rfl⟩
    · exact .inr ⟨[], [], _, _, 0, _, rfl, rfl, .nil, .tup e e' q .nil, by omega⟩
    · exact .inr ⟨_ :: L0, _ :: R0, x, y, _, k, rfl, rfl, .tup e e' q a, c, by omega⟩
def szs (ss : List Say) : Nat := (ss.map Say.sz).sum
def Say.lampOf : Say → Option Int
  | .lamp k => some k
  | _ => none
def Say.darkOf : Say → Option Int
  | .dark k => some k
  | _ => none
abbrev lampsOf (ss : List Say) : List Int := ss.filterMap Say.lampOf
abbrev darksOf (ss : List Say) : List Int := ss.filterMap Say.darkOf
def pairB (ss : List Say) : Bool := (darksOf ss).any fun k => (lampsOf ss).contains k
end L2
set_option Elab.async false
set_option linter.all false
set_option maxRecDepth 100000
set_option maxHeartbeats 4000000
namespace L2
open PySem PySem.Spec PyProof.Rows
section
variable {X : Cx} {K : PySem.W.Frag} {D : Ends} {σ : St} {H H0 : Hp} {Q : VK} {QT : Bool → Hp → Prop} {QS : St → Hp → Prop} {t u : TS} {te ta tb tc : TE} {c d : TT} {g : TG} {tr : TA} {r r' : R2} {v x y : V} {i j : Int} {E : XK}
theorem sameSeq {H1 H2 : Hp} {a : Addr} {xs : List V} (h : SqL K H1 a xs) (e : Same H1 H2) : SqL K H2 a xs := e.seq h
theorem rd_seq (h : t { D with nx := u D } σ H) : tSeq t u D σ H := h
theorem rd_next (h : D.nx σ H) : tNext D σ H := h
theorem rd_asg (h : te σ H fun x H1 => g x σ H1 D.nx) : tAsg te g D σ H := h
theorem rd_name {n : Nat} (h : QS (σ.set n (some v)) H) : gName n v σ H QS := h
theorem rd_var {n : Nat} (e : σ[n]? = some (some v)) (h : Q v H) : tVar n σ H Q := ⟨v, e, h⟩
theorem rd_C (h : Q v H) : tC v σ H Q := h
theorem rd_op (h : ta σ H fun x H1 => tb σ H1 fun y H2 => r x y H2 Q) : tOp r ta tb σ H Q := h
theorem rd_I0 {f : Int → Int → V} (h : Q (f i j) H) : rI0 f (.int i) (.int j) H Q := ⟨i, j, rfl, rfl, h⟩
theorem rd_I {C : Int → Int → Prop} {f : Int → Int → V} (k : C i j) (h : Q (f i j) H) : rI C f (.int i) (.int j) H Q := ⟨i, j, rfl, rfl, k, h⟩
theorem rd_eq (e : scal x y = true) (h : Q (.bl (decide (x = y))) H) : rEq x y H Q := ⟨e, h⟩
theorem rd_ne (e : scal x y = true) (h : Q (.bl (!decide (x = y))) H) : rNe x y H Q := ⟨e, h⟩
theorem rd_test (h : te σ H fun x H' => ∃ k, x = .bl k ∧ QT k H') : tTest te σ H QT := h
theorem rd_tB (h : te σ H fun x H' => ∃ k, x = .bl k ∧ QT k H') : tB te σ H QT := h
theorem rd_bl {b : Bool} {P : Bool → Prop} (h : P b) : ∃ k, V.bl b = .bl k ∧ P k := ⟨b, rfl, h⟩
theorem rd_if (h : c σ H fun b H1 => if b = true then t D σ H1 else u D σ H1) : tIfS c t u D σ H := h
theorem rd_and (h : c σ H fun b H1 => if b = true then d σ H1 QT else QT false H1) : tAnd c d σ H QT := h
theorem rd_or (h : c σ H fun b H1 => if b = true then QT true H1 else d σ H1 QT) : tOr c d σ H QT := h
theorem rd_not (h : c σ H fun b H1 => QT (!b) H1) : tNot c σ H QT := h
theorem rd_andV (h : ta σ H fun x H1 => ∃ k, x = .bl k ∧ if k = true then tb σ H1 Q else Q (.bl false) H1) : tAndV ta tb σ H Q := h
theorem rd_orV (h : ta σ H fun x H1 => ∃ k, x = .bl k ∧ if k = true then Q (.bl true) H1 else tb σ H1 Q) : tOrV ta tb σ H Q := h
theorem rd_notV (h : ta σ H fun x H1 => ∃ k, x = .bl k ∧ Q (.bl (!k)) H1) : tNotV ta σ H Q := h
theorem rd_ifE (h : c σ H fun b H1 => if b = true then ta σ H1 Q else tb σ H1 Q) : tIf c ta tb σ H Q := h
theorem rd_call {sp : Sp} {dvs : List V} (h : tr σ H fun vs H1 => sp (vs ++ dvs) H1 Q E) : tCall sp dvs E tr σ H Q := h
theorem rd_cons {QA : List V → Hp → Prop} (h : ta σ H fun x H1 => tr σ H1 fun xs H2 => QA (x :: xs) H2) : tCons ta tr σ H QA := h
theorem rd_nil {QA : List V → Hp → Prop} (h : QA [] H) : tNil σ H QA := h
theorem rd_ret (h : te σ H D.rt) : tRet te D σ H := h
theorem rd_drop (h : te σ H fun _ H1 => D.nx σ H1) : tDrop te D σ H := h
theorem rd_tup (h : tr σ H fun xs H1 => xs.length ≤ sizeLine ∧ ∀ p, H1 p = none → Q (.ref p) (upd H1 p (.tup xs))) : tTup tr σ H Q := h
theorem rd_lst (h : tr σ H fun xs H1 => xs.length ≤ sizeLine ∧ ∀ p, H1 p = none → Q (.ref p) (upd H1 p (.lst xs))) : tLst tr σ H Q := h
theorem rd_dnew (h : ∀ p, H p = none → Q (.ref p) (upd H p (.dK []))) : tDNewK σ H Q := h
theorem rd_CB {q : List V → Hp → VK → Prop} (h : tr σ H fun vs H1 => q vs H1 Q) : tCB q tr σ H Q := h
theorem rd_ixL {p : Addr} {xs : List V} (h : SqL K H p xs) (e : atI xs i = some v) (q : Q v H) : rIxL K (.ref p) (.int i) H Q := ⟨p, xs, i, v, rfl, rfl, h, e, q⟩
theorem rd_ixT {p : Addr} {xs : List V} (h : SqT K H p xs) (e : atI xs i = some v) (q : Q v H) : rIxT K (.ref p) (.int i) H Q := ⟨p, xs, i, v, rfl, rfl, h, e, q⟩
theorem rd_bm0 {T : String} {q : V → List V → Hp → VK → Prop} (h : te σ H fun x H1 => tyV K T x H1 ∧ q x [] H1 Q) : tBM0 K T q te σ H Q := h
theorem rd_bm {T : String} {q : V → List V → Hp → VK → Prop} (h : te σ H fun x H1 => tyV K T x H1 ∧ tr σ H1 fun xs H2 => q x xs H2 Q) : tBM K T q te tr σ H Q := h
theorem rd_ty {p : Addr} {xs : List V} {R : Prop} (h : H p = some (.lst xs)) (q : R) : tyV K "list" (.ref p) H ∧ R := ⟨.inl ⟨rfl, _, SqL.of h⟩, q⟩
theorem rd_append {l : Addr} {xs : List V} (h : H l = some (.lst xs)) (z : xs.length < sizeLine) (q : Q .non (upd H l (.lst (xs ++ [y])))) : rAppend (.ref l) [y] H Q := ⟨l, xs, y, rfl, rfl, h, z, q⟩
theorem rd_pop {l : Addr} {xs : List V} (h : H l = some (.lst (xs ++ [y]))) (q : Q y (upd H l (.lst xs))) : rPop (.ref l) [] H Q :=
  ⟨l, xs ++ [y], y, rfl, rfl, h, by simp, by rw [List.dropLast_concat]; exact q⟩
theorem rd_extS {l b : Addr} {xs zs : List V} (h : H l = some (.lst xs)) (h' : H b = some (.lst zs) ∨ H b = some (.tup zs)) (z : xs.length + zs.length ≤ sizeLine) (q : Q .non (upd H l (.lst (xs ++ zs)))) : rExtendS (.ref l) [.ref b] H Q :=
  ⟨l, b, xs, zs, rfl, rfl, h, h', z, q⟩
def rLen (K : PySem.W.Frag) : List V → Hp → VK → Prop := fun xs H Q => ∃ p ys, xs = [.ref p] ∧ (SqL K H p ys ∨ SqT K H p ys) ∧ Q (.int ys.length) H
theorem call_lenS : CallR X (.builtin "len") (rLen X.K) := call_len_seq
theorem rd_lenL {p : Addr} {ys : List V} (h : SqL K H p ys) (q : Q (.int ys.length) H) : rLen K [.ref p] H Q := ⟨p, ys, rfl, .inl h, q⟩
theorem rd_lenT {p : Addr} {ys : List V} (h : SqT K H p ys) (q : Q (.int ys.length) H) : rLen K [.ref p] H Q := ⟨p, ys, rfl, .inr h, q⟩
def rInst (K : PySem.W.Frag) : List V → Hp → VK → Prop := fun xs H Q => ∃ (x : V) (c t : String) (b : Bool), xs = [x, .ty c] ∧ TyOf K H x (.type t) ∧ PySem.W.kitOne K (.type t) (.type c) = some b ∧ Q (.bl b) H
theorem call_inst : CallR X (.builtin "isinstance") (rInst X.K) := call_isinst
theorem rd_inst {c t : String} {b : Bool} (h : TyOf K H x (.type t)) (e : PySem.W.kitOne K (.type t) (.type c) = some b) (q : Q (.bl b) H) : rInst K [x, .ty c] H Q := ⟨x, c, t, b, rfl, h, e, q⟩
def rInstT (K : PySem.W.Frag) : List V → Hp → VK → Prop := fun xs H Q => ∃ (x : V) (p : Addr) (cs : List String) (t : String) (b : Bool), xs = [x, .ref p] ∧ H p = some (.tup (cs.map V.ty)) ∧ TyOf K H x (.type t) ∧ PySem.W.kitAny K (.type t) (cs.map Value.type) = some b ∧ Q (.bl b) H
theorem call_instT : CallR X (.builtin "isinstance") (rInstT X.K) := call_isinstT
theorem rd_instT {p : Addr} {t : String} {b : Bool} (hp : H p = some (.tup [.ty "list", .ty "tuple"])) (h : TyOf K H x (.type t)) (e : PySem.W.kitAny K (.type t) ((["list", "tuple"] : List String).map Value.type) = some b) (q : Q (.bl b) H) :
    rInstT K [x, .ref p] H Q := ⟨x, p, ["list", "tuple"], t, b, rfl, hp, h, e, q⟩
def rListOf (K : PySem.W.Frag) : List V → Hp → VK → Prop := fun xs H Q => ∃ p ys, xs = [.ref p] ∧ (SqL K H p ys ∨ SqT K H p ys) ∧ ∀ l, H l = none → Q (.ref l) (upd H l (.lst ys))
theorem call_listOf : CallR X (.type "list") (rListOf X.K) := call_list_of
theorem rd_listL {p : Addr} {ys : List V} (h : SqL K H p ys) (q : ∀ l, H l = none → Q (.ref l) (upd H l (.lst ys))) : rListOf K [.ref p] H Q := ⟨p, ys, rfl, .inl h, q⟩
theorem rd_listT {p : Addr} {ys : List V} (h : SqT K H p ys) (q : ∀ l, H l = none → Q (.ref l) (upd H l (.lst ys))) : rListOf K [.ref p] H Q := ⟨p, ys, rfl, .inr h, q⟩
def rNeNil (K : PySem.W.Frag) : R2 := fun x y H Q => ∃ l b xs, x = .ref l ∧ y = .ref b ∧ SqL K H l xs ∧ SqL K H b [] ∧ Q (.bl (!xs.isEmpty)) H
theorem op_neN (hu : X.A.units < cLine) : OpR X (compareOp .NotEq) (rNeNil X.K) := op_neNil hu
theorem rd_neN {l b : Addr} {xs : List V} (h : SqL K H l xs) (h' : SqL K H b []) (q : Q (.bl (!xs.isEmpty)) H) : rNeNil K (.ref l) (.ref b) H Q := ⟨l, b, xs, rfl, rfl, h, h', q⟩
def rEqNil (K : PySem.W.Frag) : R2 := fun x y H Q => ∃ l b xs, x = .ref l ∧ y = .ref b ∧ SqL K H l xs ∧ SqL K H b [] ∧ Q (.bl xs.isEmpty) H
theorem op_eqN (hu : X.A.units < cLine) : OpR X (compareOp .Eq) (rEqNil X.K) := op_eqNil hu
theorem rd_eqN {l b : Addr} {xs : List V} (h : SqL K H l xs) (h' : SqL K H b []) (q : Q (.bl xs.isEmpty) H) : rEqNil K (.ref l) (.ref b) H Q := ⟨l, b, xs, rfl, rfl, h, h', q⟩
theorem rd_dput {td ty tv : TE} (h : tv σ H fun v H1 => td σ H1 fun x H2 => ty σ H2 fun y H3 => ∃ a H4, x = .ref a ∧ DPut H3 a y v H4 ∧ D.nx σ H4) : sDPut td ty tv D σ H := h
theorem rd_din {td ty : TE} (h : ty σ H fun y H1 => td σ H1 fun x H2 => ∃ a o, x = .ref a ∧ DGet H2 a y o ∧ Q (.bl o.isSome) H2) : tDIn ty td σ H Q := h
theorem rd_inS {p : Addr} {xs : List V} (h : SqL K H p xs ∨ SqT K H p xs) (f : flatV x = true) (fs : xs.all flatV = true) (q : Q (.bl (inV x xs)) H) : rIn K false x (.ref p) H Q := ⟨p, xs, rfl, h, f, fs, q⟩
theorem rd_notInS {p : Addr} {xs : List V} (h : SqL K H p xs ∨ SqT K H p xs) (f : flatV x = true) (fs : xs.all flatV = true) (q : Q (.bl (!inV x xs)) H) : rIn K true x (.ref p) H Q := ⟨p, xs, rfl, h, f, fs, q⟩
end
section
variable {K : PySem.W.Frag} {tg : TG} {tb : TS} {D : Ends} {σ : St} {H : Hp} {tl : TE} {ta : TA}
theorem rd_forL {g : TG} (h : tl σ H fun x H1 => ∃ a, x = .ref a ∧ (∃ xs, SqL K H1 a xs) ∧ ∃ W : Nat → Nat → St → Hp → Prop, (∃ m, W 0 m σ H1) ∧ ∀ i m σ H, W i m σ H →
      ((Itl K a).stop i H ∧ D.nx σ H) ∨ ((Itl K a).go i H ∧ ∃ N : St → Hp → Prop, (∀ σ' H', N σ' H' → ∃ m', m' < m ∧ W (i + 1) m' σ' H') ∧ ∀ x H', (Itl K a).yld i H x H' → g x σ H' fun σ2 H2 => tb { D with nx := N, ct := N, bk := D.nx } σ2 H2)) :
    tFor (iList K tl) g tb D σ H := h
theorem rd_forR2 {g : TG} (h : ta σ H fun vs H1 => ∃ i j : Int, vs = [.int i, .int j] ∧ (-(2 ^ 62) ≤ i ∧ i < 2 ^ 62 ∧ -(2 ^ 62) ≤ j ∧ j < 2 ^ 62) ∧ ∃ W : Nat → Nat → St → Hp → Prop, (∃ m, W 0 m σ H1) ∧ ∀ k m σ H, W k m σ H →
      ((Itr i (j - i).toNat).stop k H ∧ D.nx σ H) ∨ ((Itr i (j - i).toNat).go k H ∧ ∃ N : St → Hp → Prop, (∀ σ' H', N σ' H' → ∃ m', m' < m ∧ W (k + 1) m' σ' H') ∧ ∀ x H', (Itr i (j - i).toNat).yld k H x H' → g x σ H' fun σ2 H2 => tb { D with nx := N, ct := N, bk := D.nx } σ2 H2)) :
    tFor (iRng2 ta) g tb D σ H := h
theorem rd_forR1 {g : TG} (h : ta σ H fun vs H1 => ∃ j : Int, vs = [.int j] ∧ -(2 ^ 62) ≤ j ∧ j < 2 ^ 62 ∧ ∃ W : Nat → Nat → St → Hp → Prop, (∃ m, W 0 m σ H1) ∧ ∀ k m σ H, W k m σ H →
      ((Itr 0 j.toNat).stop k H ∧ D.nx σ H) ∨ ((Itr 0 j.toNat).go k H ∧ ∃ N : St → Hp → Prop, (∀ σ' H', N σ' H' → ∃ m', m' < m ∧ W (k + 1) m' σ' H') ∧ ∀ x H', (Itr 0 j.toNat).yld k H x H' → g x σ H' fun σ2 H2 => tb { D with nx := N, ct := N, bk := D.nx } σ2 H2)) :
    tFor (iRng1 ta) g tb D σ H := h
theorem rd_itL {a : Addr} {xs : List V} {R : Addr → Prop} (h : SqL K H a xs) (q : R a) : ∃ b, V.ref a = .ref b ∧ (∃ ys, SqL K H b ys) ∧ R b := ⟨a, rfl, ⟨xs, h⟩, q⟩
end
end L2
set_option Elab.async false
set_option linter.all false
set_option maxRecDepth 100000
set_option maxHeartbeats 4000000
namespace L2
open PySem PySem.Spec PyProof.Rows
section
variable {prog : Program} {w : World} {A : Around} {R : Result → Shared → Prop} {s : Shared}
theorem compLoop_any {elt target iter : Expr} {ifs : List Expr} {scope : Scope} {pos : Pos} {it acc : Value} {env : Env} (I : Nat → Shared → Prop)
    (turn : ∀ n s, I n s → wpAny (model prog w) A (pyNext it) (fun r s₁ => match r with
      | none => R (.ok .next) s₁
      | some v => wpAny (model prog w) A (letOwnedTupleGo target it v) (fun _ s₁' => wpAny (model prog w) A (assign target env v) (fun _ s₂ =>
          wpAny (model prog w) A (forIn ifs true fun c r => if r = true then do let ok ← isTrue c env (eval c env); pure (ForInStep.yield ok) else pure (ForInStep.yield r)) (fun ok s₃ =>
            if ok = true then wpAny (model prog w) A (eval elt env) (fun x s₄ =>
              wpAny (model prog w) A (call (.builtin "list.append") [acc, x]) (fun _ s₅ => ∃ m, m < n ∧ I m s₅) (fun _ _ => False) s₄) (fun _ _ => False) s₃
            else ∃ m, m < n ∧ I m s₃) (fun _ _ => False) s₂) (fun _ _ => False) s₁') (fun _ _ => False) s₁) (fun _ _ => False) s)
    (n : Nat) (h : I n s) : codeAny (model prog w) A (.compLoop (.ListComp elt [⟨target, iter, ifs, 0⟩] scope pos) 0 it acc env) R s := by
  refine codeAny_loop rfl I (fun n s hI => ?_) n h
  show wpAny _ A ((compTurn (.ListComp elt [⟨target, iter, ifs, 0⟩] scope pos) 0 it acc env).onRaise (fun x => do noteFrame x env; theTreesLotGoes x)) _ _ s
  refine wpAny_noted ?_
  rw [compTurn_list]
  refine wpAny_bind (wpAny_standAt (wpAny_bind (wpAny_mono (turn n s hI) (fun r s₁ h₁ => ?_) fun _ _ h' => h'.elim)))
  cases r with
  | none => exact wpAny_pure h₁
  | some v =>
    refine wpAny_bind (wpAny_mono h₁ (fun _ s₁' h₁' => ?_) fun _ _ h' => h'.elim)
    refine wpAny_bind (wpAny_mono h₁' (fun _ s₂ h₂ => wpAny_bind (wpAny_mono h₂ (fun ok s₃ h₃ => ?_) fun _ _ h' => h'.elim)) fun _ _ h' => h'.elim)
    cases ok with
    | false => exact wpAny_pure ⟨rfl, h₃⟩
    | true =>
      exact wpAny_bind (wpAny_bind (wpAny_mono h₃ (fun x s₄ h₄ => wpAny_bind (wpAny_mono h₄ (fun _ s₅ h₅ => wpAny_pure (wpAny_pure ⟨rfl, h₅⟩)) fun _ _ h' => h'.elim)) fun _ _ h' => h'.elim))
end
theorem cellOf_some {env : Env} {x : Str} {c : Addr} (h : env.cells.lookup x = some c) : cellOf env x = pure c := by
  unfold cellOf
  rw [h]
theorem clos_go {env : Env} : ∀ (names : List (Str × NameKind)) (acc : List (Str × Addr)), (∀ x, (x, NameKind.free) ∈ names → ∃ c, env.cells.lookup x = some c) →
    ∃ cl, (forIn names acc fun (x : Str × NameKind) (cs : List (Str × Addr)) => if (x.2 == NameKind.free) = true then (cellOf env x.1 >>= fun a => pure (ForInStep.yield ((x.1, a) :: cs))) else pure (ForInStep.yield cs) : Sem (List (Str × Addr))) = pure cl ∧
      (∀ p ∈ cl, p ∈ acc ∨ (env.cells.lookup p.1 = some p.2 ∧ (p.1, NameKind.free) ∈ names)) ∧ (∀ p ∈ acc, p ∈ cl) ∧ ∀ x, (x, NameKind.free) ∈ names → ∃ c, (x, c) ∈ cl
  | [], acc, _ => ⟨acc, rfl, fun p hp => .inl hp, fun p hp => hp, fun x hx => by cases hx⟩
  | (n, k) :: r, acc, h => by
    have hr : ∀ x, (x, NameKind.free) ∈ r → ∃ c, env.cells.lookup x = some c := fun x hx => h x (List.mem_cons_of_mem _ hx)
    by_cases hk : k = NameKind.free
    · subst hk
      obtain ⟨c, hc⟩ := h n List.mem_cons_self
      obtain ⟨cl, e, h1, h2, h3⟩ := clos_go r ((n, c) :: acc) hr
      refine ⟨cl, ?_, fun p hp => ?_, fun p hp => h2 p (List.mem_cons_of_mem _ hp), fun x hx => ?_⟩
      · rw [List.forIn_cons, if_pos (show ((n, NameKind.free).2 == NameKind.free) = true from rfl), cellOf_some (x := (n, NameKind.free).1) hc, pure_bind, pure_bind]
        exact e
      · rcases h1 p hp with q | ⟨q, q2⟩
        · rcases List.mem_cons.mp q with q | q
          · exact .inr ⟨by rw [q]; exact hc, by rw [q]; exact List.mem_cons_self⟩
          · exact .inl q
        · exact .inr ⟨q, List.mem_cons_of_mem _ q2⟩
      · rcases List.mem_cons.mp hx with q | q
        · cases q
          exact ⟨c, h2 _ List.mem_cons_self⟩
        · exact h3 x q
    · have hb : ¬ (k == NameKind.free) = true := fun z => hk (beq_iff_eq.mp z)
      obtain ⟨cl, e, h1, h2, h3⟩ := clos_go r acc hr
      refine ⟨cl, ?_, fun p hp => ?_, h2, fun x hx => ?_⟩
      · rw [List.forIn_cons, if_neg hb, pure_bind]
        exact e
      · rcases h1 p hp with q | ⟨q, q2⟩
        · exact .inl q
        · exact .inr ⟨q, List.mem_cons_of_mem _ q2⟩
      · rcases List.mem_cons.mp hx with q | q
        · cases q
          exact absurd rfl hk
        · exact h3 x q
theorem clos_of {env : Env} {scope : Scope} (h : ∀ x, (x, NameKind.free) ∈ scope.names → ∃ c, env.cells.lookup x = some c) :
    ∃ cl, closureFor scope env = pure cl ∧ (∀ p ∈ cl, env.cells.lookup p.1 = some p.2 ∧ (p.1, NameKind.free) ∈ scope.names) ∧ ∀ x, (x, NameKind.free) ∈ scope.names → ∃ c, (x, c) ∈ cl := by
  obtain ⟨cl, e, h1, _, h3⟩ := clos_go scope.names [] h
  refine ⟨cl, ?_, fun p hp => ?_, h3⟩
  · unfold closureFor
    refine Eq.trans ?_ (Eq.trans (congrArg (fun z => z >>= fun cs => (pure cs : Sem _)) e) (pure_bind _ _))
    rfl
  · rcases h1 p hp with q | q
    · cases q
    · exact q
theorem lookup_mem {α β : Type} [BEq α] [LawfulBEq α] : ∀ {l : List (α × β)} {x : α} {c : β}, (x, c) ∈ l → ∃ c', l.lookup x = some c'
  | [], _, _, h => by cases h
  | (n, k) :: r, x, c, h => by
    by_cases e : (x == n) = true
    · exact ⟨k, by simp [List.lookup_cons, e]⟩
    · have e' : (x == n) = false := by simpa using e
      rcases List.mem_cons.mp h with q | q
      · cases q
        simp at e
      · obtain ⟨c', hc⟩ := lookup_mem q
        exact ⟨c', by simp [List.lookup_cons, e', hc]⟩
theorem relabel_free {env : Env} : ∀ {names : List (Str × NameKind)} {x : Str} {k : NameKind},
    (names.map fun (n, k) => if (k == NameKind.free && env.scope.kind == .function && env.kindOf n == some .cell) then (n, NameKind.cell) else (n, k)).lookup x = some k →
    names.lookup x = some k ∨ (k = .cell ∧ names.lookup x = some .free)
  | [], _, _, h => by simp at h
  | (n, k0) :: r, x, k, h => by
    have ih := @relabel_free env r x k
    have h' : List.lookup x ((if (k0 == NameKind.free && env.scope.kind == .function && env.kindOf n == some .cell) = true then (n, NameKind.cell) else (n, k0)) :: (r.map fun (n, k) => if (k == NameKind.free && env.scope.kind == .function && env.kindOf n == some .cell) then (n, NameKind.cell) else (n, k))) = some k := h
    cases hx : x == n with
    | true =>
      by_cases hc : (k0 == NameKind.free && env.scope.kind == .function && env.kindOf n == some .cell) = true
      · rw [if_pos hc] at h'
        simp only [List.lookup_cons, hx] at h' ⊢
        cases h'
        simp only [Bool.and_eq_true, beq_iff_eq] at hc
        exact .inr ⟨rfl, by rw [hc.1.1]⟩
      · rw [if_neg hc] at h'
        simp only [List.lookup_cons, hx] at h' ⊢
        exact .inl h'
    | false =>
      by_cases hc : (k0 == NameKind.free && env.scope.kind == .function && env.kindOf n == some .cell) = true
      · rw [if_pos hc] at h'
        simp only [List.lookup_cons, hx] at h' ⊢
        exact ih h'
      · rw [if_neg hc] at h'
        simp only [List.lookup_cons, hx] at h' ⊢
        exact ih h'
abbrev cxComp (X : Cx) (N : List Str) (scope : Scope) (cl : List (Str × Addr)) (C : Addr) (s : Shared) (H : Hp) (fp : List Addr) : Cx where
  prog := X.prog
  w := X.w
  K := X.K
  mg := X.mg
  base := X.base
  A := X.A
  N := N
  s₀ := s
  H₀ := H
  env := compEnvC scope cl C X.env
  outer := X.stack
  stack := X.stack
  ex := fp
  fn := fun _ => false
  calm := X.calm
  pn := []
  xe := fun _ _ => False
structure CScope (X : Cx) (N : List Str) (k : Nat) (caps : List Nat) (scope : Scope) : Prop where
  kind : scope.kind = .function
  nocell : ∀ y ∈ scope.names, y.2 ≠ .cell
  loc : ∀ y ∈ scope.names, y.2 = .local → scope.names.lookup y.1 = some .local
  has : ∀ x, (x, NameKind.free) ∈ scope.names → X.env.kindOf x = some .cell ∨ X.env.kindOf x = some .free
  len : N.length = k + caps.length
  cap : ∀ (i j : Nat) (x : Str), caps[i]? = some j → N[k + i]? = some x → X.N[j]? = some x ∧ Vis X.env.scope x
  nloc : ∀ (i j : Nat) (x : Str), caps[i]? = some j → N[k + i]? = some x → scope.names.lookup x = some .free
def compSt (k : Nat) (caps : List Nat) (σ : St) : St := List.replicate k none ++ caps.map fun j => σ.getD j none
theorem compSt_get {k : Nat} {caps : List Nat} {σ : St} {i : Nat} {v : V} (h : (compSt k caps σ)[i]? = some (some v)) : ∃ i' j, i = k + i' ∧ caps[i']? = some j ∧ σ[j]? = some (some v) := by
  unfold compSt at h
  by_cases hi : i < k
  · rw [List.getElem?_append_left (by simpa using hi), List.getElem?_replicate, if_pos hi] at h
    cases h
  · rw [List.getElem?_append_right (by simpa using hi), List.length_replicate, List.getElem?_map] at h
    obtain ⟨j, hj, e⟩ := Option.map_eq_some_iff.mp h
    refine ⟨i - k, j, by omega, hj, ?_⟩
    rw [List.getD_eq_getElem?_getD] at e
    cases q : σ[j]? with
    | none => rw [q] at e; cases e
    | some o => rw [q] at e; exact congrArg some e
section
variable {X : Cx} {pins : List (Addr × Obj)} {σ : St} {H : Hp} {s : Shared} {N : List Str} {k : Nat} {caps : List Nat} {scope : Scope} {cl : List (Str × Addr)} {fp : List Addr}
theorem Inv.comp {h1 : Heap} {t' : Nat} {m : Str → Option Value} (I : Inv X pins σ H s) (S : CScope X N k caps scope) (hcl : ∀ p ∈ cl, X.env.cells.lookup p.1 = some p.2 ∧ (p.1, NameKind.free) ∈ scope.names) (hhas : ∀ x, (x, NameKind.free) ∈ scope.names → ∃ c, (x, c) ∈ cl)
    (hf : ∀ b ∈ fp, FpOk X pins H b) (hfo : ∀ b ∈ fp, b < s.heap.objs.size) (hk : ∀ b o, s.heap.get? b = some o → h1.get? b = some o) (hn : h1.Ns s.heap.objs.size m) :
    Inv (cxComp X N scope cl s.heap.objs.size s H fp) [] (compSt k caps σ) H { s with heap := h1, toks := t' } := by
  have free_of : ∀ x, ((relabel scope X.env).names.lookup x = some .cell ∨ (relabel scope X.env).names.lookup x = some .free) → (x, NameKind.free) ∈ scope.names := fun x hx => by
    rcases hx with hx | hx
    · rcases relabel_free hx with q | ⟨_, q⟩
      · exact absurd rfl (S.nocell _ (PySem.mem_of_lookup q))
      · exact PySem.mem_of_lookup q
    · rcases relabel_free hx with q | ⟨e, _⟩
      · exact PySem.mem_of_lookup q
      · cases e
  have cl_of : ∀ x c, cl.lookup x = some c → X.env.cells.lookup x = some c ∧ (x, NameKind.free) ∈ scope.names := fun x c e => hcl (x, c) (PySem.mem_of_lookup e)
  have nb : ∀ b ∈ fp, ∀ o, X.base.get? b = some o → False := fun b hb o e => by
    obtain ⟨_, _, _, f3, _⟩ := hf b hb
    rcases f3 with z | z
    · exact I.ok.noex b o e z
    · exact absurd (Nat.lt_of_lt_of_le (Heap.lt_size e) (Nat.le_trans I.ok.bsz z)) (Nat.lt_irrefl _)
  have ok : (cxComp X N scope cl s.heap.objs.size s H fp).Ok := by
    refine ⟨I.ok.mod, S.kind, I.ok.glob, I.ok.blt, Nat.le_refl _, fun x y c h1 h2 => ?_, fun x hx => ?_, (fun x c e => by cases e), I.ok.hd, I.ok.frames, .inl rfl, fun b hb => ?_, I.bs, Nat.le_trans I.ok.bsz I.sz, fun b o e hb => nb b hb o e, fun b hb z => ?_, I.stack, I.stkFree⟩
    · exact I.ok.inj x y c (cl_of x c h1).1 (cl_of y c h2).1
    · obtain ⟨c, hc⟩ := hhas x (free_of x hx)
      exact lookup_mem hc
    · obtain ⟨_, _, _, _, f4, _⟩ := hf b hb
      exact ⟨Nat.ne_of_lt (hfo b hb), fun x c e => f4 x c (cl_of x c e).1⟩
    · obtain ⟨_, f1, f2, _⟩ := hf b hb
      rcases List.mem_cons.mp (I.stkSub b z) with e | e
      · exact f1 e
      · exact f2 e
  refine ⟨ok, rfl, I.bare, Un.kept hk, ⟨m, hn, fun i x v e1 e2 e3 => ?_⟩, fun x c e => ?_, I.hok.fresh (Nat.le_refl _), fun x c e => I.freeC x c (cl_of x c e).1, fun p hp => absurd (show p ∈ ([] : List (Addr × Obj)) from hp) (by simp), I.hok.kept hk, ?_⟩
  · obtain ⟨i', j, rfl, hj, hv⟩ := compSt_get e2
    obtain ⟨hx, hvis⟩ := S.cap i' j x hj e1
    obtain ⟨m', _, hl⟩ := I.loc
    obtain ⟨u, r, l⟩ := hl j x v hx hv hvis
    refine ⟨u, r, ?_⟩
    have e3' : (relabel scope X.env).names.lookup x = some .local ∨ (relabel scope X.env).names.lookup x = some .cell ∨ (relabel scope X.env).names.lookup x = some .free := e3
    rcases e3' with e3' | e3'
    · rcases relabel_free e3' with z | ⟨z, _⟩
      · rw [S.nloc i' j x hj e1] at z; cases z
      · cases z
    · have hfr := free_of x e3'
      obtain ⟨c0, hc0⟩ := hhas x hfr
      obtain ⟨c, hc⟩ := lookup_mem hc0
      have hXc := (cl_of x c hc).1
      rcases l with ⟨hk1, _⟩ | ⟨_, c', hc', hcell⟩
      · rcases S.has x hfr with z | z
        · rw [hk1] at z; cases z
        · rw [hk1] at z; cases z
      · rw [hXc] at hc'
        cases hc'
        exact .inr ⟨e3', c, hc, let ⟨o, ho, hd⟩ := hcell; ⟨o, hk _ _ ho, hd⟩⟩
  · obtain ⟨v, o, ho, hd⟩ := I.cell x c (cl_of x c e).1
    exact ⟨v, o, hk _ _ ho, hd⟩
  · show (compSt k caps σ).length = N.length
    unfold compSt
    rw [List.length_append, List.length_replicate, List.length_map]
    exact S.len.symm
theorem Inv.recomp {pins' : List (Addr × Obj)} {σ' : St} {C : Addr} {s3 s' : Shared} {H3 H' : Hp} (I : Inv X pins σ H3 s3) (S : CScope X N k caps scope) (hcl : ∀ p ∈ cl, X.env.cells.lookup p.1 = some p.2 ∧ (p.1, NameKind.free) ∈ scope.names) (hhas : ∀ x, (x, NameKind.free) ∈ scope.names → ∃ c, (x, c) ∈ cl)
    (hf : ∀ b ∈ fp, FpOk X pins H3 b) (J : Inv (cxComp X N scope cl C s3 H3 fp) pins' σ' H' s') : Inv (cxComp X N scope cl C s3 H3 fp) pins' (compSt k caps σ) H' s' := by
  have free_of : ∀ x, ((relabel scope X.env).names.lookup x = some .cell ∨ (relabel scope X.env).names.lookup x = some .free) → (x, NameKind.free) ∈ scope.names := fun x hx => by
    rcases hx with hx | hx
    · rcases relabel_free hx with q | ⟨_, q⟩
      · exact absurd rfl (S.nocell _ (PySem.mem_of_lookup q))
      · exact PySem.mem_of_lookup q
    · rcases relabel_free hx with q | ⟨e, _⟩
      · exact PySem.mem_of_lookup q
      · cases e
  have cl_of : ∀ x c, cl.lookup x = some c → X.env.cells.lookup x = some c ∧ (x, NameKind.free) ∈ scope.names := fun x c e => hcl (x, c) (PySem.mem_of_lookup e)
  obtain ⟨mC, hnC, _⟩ := J.loc
  refine ⟨J.ok, J.os, J.bare, J.base, ⟨mC, hnC, fun i x v e1 e2 e3 => ?_⟩, J.cell, J.free, J.freeC, J.pin, J.hok, ?_⟩
  · obtain ⟨i', j, rfl, hj, hv⟩ := compSt_get e2
    obtain ⟨hx, hvis⟩ := S.cap i' j x hj e1
    obtain ⟨m', _, hl⟩ := I.loc
    obtain ⟨u, r, l⟩ := hl j x v hx hv hvis
    refine ⟨u, r, ?_⟩
    have e3' : (relabel scope X.env).names.lookup x = some .local ∨ (relabel scope X.env).names.lookup x = some .cell ∨ (relabel scope X.env).names.lookup x = some .free := e3
    rcases e3' with e3' | e3'
    · rcases relabel_free e3' with z | ⟨z, _⟩
      · rw [S.nloc i' j x hj e1] at z; cases z
      · cases z
    · have hfr := free_of x e3'
      obtain ⟨c0, hc0⟩ := hhas x hfr
      obtain ⟨c, hc⟩ := lookup_mem hc0
      have hXc := (cl_of x c hc).1
      rcases l with ⟨hk1, _⟩ | ⟨_, c', hc', hcell⟩
      · rcases S.has x hfr with z | z
        · rw [hk1] at z; cases z
        · rw [hk1] at z; cases z
      · rw [hXc] at hc'
        cases hc'
        obtain ⟨o, ho, hd⟩ := hcell
        have nfp : c ∉ fp := fun z => (hf c z).2.2.2.2.1 x c hXc rfl
        obtain ⟨sl, q⟩ := J.base.any ho (I.freeC x c hXc) nfp
        exact .inr ⟨e3', c, hc, ⟨_, q, hd⟩⟩
  · show (compSt k caps σ).length = N.length
    unfold compSt
    rw [List.length_append, List.length_replicate, List.length_map]
    exact S.len.symm
theorem Inv.uncomp {C : Addr} {s3 s' : Shared} {H3 H' : Hp} {σ' : St} {h' : Heap} (I : Inv X pins σ H3 s3) (hC : C = s3.heap.objs.size) (hf : ∀ b ∈ fp, FpOk X pins H3 b)
    (J : Inv (cxComp X N scope cl C s3 H3 fp) [] σ' H' s') (hs : Heap.SameBut C s'.heap h') : Inv X pins σ H' { s' with heap := h' } := by
  subst hC
  have nC : ∀ b o, s3.heap.get? b = some o → b ≠ s3.heap.objs.size := fun b o e => Nat.ne_of_lt (Heap.lt_size e)
  have hfree : H' s3.heap.objs.size = none := J.free
  refine I.call' (ch := fp) J.os ⟨fun b o e n hb hx => ?_, fun b o e n hb hx => ?_, fun b o e n hx => J.base.free b o e n hx, fun b o e hx => ?_, J.base.tups, J.base.frzs, J.base.tbls⟩ (fun b u e => ?_) J.bare fun b hb => ?_
  · exact (hs.2 b (nC b o e)).trans (J.base.keep b o e n hb hx)
  · obtain ⟨sl, q⟩ := J.base.slot b o e n hb hx
    exact ⟨sl, (hs.2 b (nC b o e)).trans q⟩
  · obtain ⟨o', q⟩ := J.base.there b o e hx
    exact ⟨o', (hs.2 b (nC b o e)).trans q⟩
  · refine (J.hok b u e).stay (fun c v hc q => (hs.2 c ?_).trans q) (fun _ q => q) fun _ _ q => q
    rintro rfl
    rcases hc with z | z
    · rw [z] at hfree; rw [e] at hfree; cases hfree
    · rw [hfree] at z; cases z
  · obtain ⟨_, f1, _, f3, f4, f5⟩ := hf b hb
    exact ⟨f3, f1, f4, f5⟩
end
def tComp (k : Nat) (caps : List Nat) (wi : TI) (g : TG) (ts : TT) (te : TE) : TE := fun σ H Q => wi σ H fun J H1 => ∀ D, H1 D = none →
  ∃ W : Nat → Nat → List V → Hp → Prop, (∃ m, W 0 m [] (upd H1 D (.lst []))) ∧ ∀ i m ys H2, W i m ys H2 →
    (J.stop i H2 ∧ Q (.ref D) H2) ∨ (J.go i H2 ∧ ∀ x H3, J.yld i H2 x H3 → g x (compSt k caps σ) H3 fun σ4 H4 => ts σ4 H4 fun b H5 =>
      if b = true then te σ4 H5 fun y H6 => ∃ zs, H6 D = some (.lst zs) ∧ zs.length < sizeLine ∧ ∃ m', m' < m ∧ W (i + 1) m' (ys ++ [y]) (upd H6 D (.lst (zs ++ [y])))
      else ∃ m', m' < m ∧ W (i + 1) m' ys H5)
def tYes : TT := fun _ H Q => Q true H
def PTs (X : Cx) (ifs : List Expr) (t : TT) : Prop :=
  ∀ (pins : List (Addr × Obj)) (s : Shared) (σ : St) (H : Hp) (Q : Bool → Hp → Prop), Inv X pins σ H s → t σ H Q →
    wpAny (model X.prog X.w) X.A (forIn ifs true fun c r => if r = true then do let ok ← isTrue c X.env (eval c X.env); pure (ForInStep.yield ok) else pure (ForInStep.yield r)) (TP X pins σ Q) X.xe s
theorem pts_nil {X : Cx} : PTs X [] tYes := fun _ _ _ H _ I h => wpAny_tests_nil ⟨H, I, h⟩
section
variable {X : Cx} {N : List Str} {k : Nat} {caps : List Nat} {scope : Scope} {elt tg iter : Expr} {ifs : List Expr} {pos : Pos} {wi : TI} {g : TG} {ts : TT} {te : TE}
theorem comp_walk {pins : List (Addr × Obj)} {σ : St} {H : Hp} {s : Shared} {Q : VK} {RR : Value → Addr → Result → Shared → Prop} {cl : List (Str × Addr)} {it : Addr} {fp : List Addr} {tn : Nat → Heap → Prop} {J : It} {E : Value → Shared → Prop}
    (hc : X.calm = true) (S : CScope X N k caps scope) (hcl : ∀ p ∈ cl, X.env.cells.lookup p.1 = some p.2 ∧ (p.1, NameKind.free) ∈ scope.names) (hhas : ∀ x, (x, NameKind.free) ∈ scope.names → ∃ c, (x, c) ∈ cl)
    (hg : ∀ (cl : List (Str × Addr)) (C : Addr) (s : Shared) (H : Hp) (fp : List Addr), PG (cxComp X N scope cl C s H fp) tg g) (hts : ∀ (cl : List (Str × Addr)) (C : Addr) (s : Shared) (H : Hp) (fp : List Addr), PTs (cxComp X N scope cl C s H fp) ifs ts)
    (he : ∀ (cl : List (Str × Addr)) (C : Addr) (s : Shared) (H : Hp) (fp : List Addr), PE (cxComp X N scope cl C s H fp) elt te)
    (I : Inv X pins σ H s) (T : Turn X.prog X.w X.K tg J fp it tn) (st : tn 0 s.heap) (hf : ∀ b ∈ fp, FpOk X pins H b)
    (hw : ∀ D, H D = none → ∃ W : Nat → Nat → List V → Hp → Prop, (∃ m, W 0 m [] (upd H D (.lst []))) ∧ ∀ i m ys H2, W i m ys H2 →
      (J.stop i H2 ∧ Q (.ref D) H2) ∨ (J.go i H2 ∧ ∀ x H3, J.yld i H2 x H3 → g x (compSt k caps σ) H3 fun σ4 H4 => ts σ4 H4 fun b H5 =>
        if b = true then te σ4 H5 fun y H6 => ∃ zs, H6 D = some (.lst zs) ∧ zs.length < sizeLine ∧ ∃ m', m' < m ∧ W (i + 1) m' (ys ++ [y]) (upd H6 D (.lst (zs ++ [y])))
        else ∃ m', m' < m ∧ W (i + 1) m' ys H5))
    (hRR : ∀ D C s' H', (∃ m, s'.heap.Ns C m) → Q (.ref D) H' → FpOk X pins H' C → (∀ h', Heap.SameBut C s'.heap h' → Inv X pins σ H' { s' with heap := h' }) → RR (.ref D) C (.ok .next) s') :
    wpAny (model X.prog X.w) X.A (newList []) (fun acc s₃ => wpAny (model X.prog X.w) X.A (newFunctionEnv scope X.env.globals cl [] X.env.qual none .none (some X.env)) (fun cenv s₄ =>
      codeAny (model X.prog X.w) X.A (.compStart (.ListComp elt [⟨tg, iter, ifs, 0⟩] scope pos) 0 (.ref it) acc { cenv with scope := relabel scope X.env }) (RR acc cenv.locals) s₄) E s₃) E s := by
  refine wpAny_newObj_type (wpAny_newFunctionEnv S.nocell (by intro y hy; simp at hy) (fun h₁ hns₁ hsb₁ => ?_) S.kind)
  dsimp only at hns₁ hsb₁ ⊢
  have hD : H s.heap.objs.size = none := I.hok.fresh (Nat.le_refl _)
  have I3 : Inv X pins σ (upd H s.heap.objs.size (.lst [])) { s with heap := s.heap.push { cls := .type "list", data := .seq ([] : List Value).toArray }, toks := s.toks } := I.lnew (its := []) (ys := []) .nil (Nat.zero_le _)
  have hfp : ∀ b ∈ fp, b < s.heap.objs.size := fun b hb => by
    obtain ⟨o, e, _⟩ := T.obj 0 _ st b hb
    exact Heap.lt_size e
  have hf3 : ∀ b ∈ fp, FpOk X pins (upd H s.heap.objs.size (.lst [])) b := fun b hb => ⟨by rw [upd_ne (Nat.ne_of_lt (hfp b hb))]; exact (hf b hb).1, (hf b hb).2⟩
  generalize hs3 : ({ s with heap := s.heap.push { cls := .type "list", data := .seq ([] : List Value).toArray }, toks := s.toks } : Shared) = s3 at I3
  have e3 : s3.heap = s.heap.push { cls := .type "list", data := .seq ([] : List Value).toArray } := by rw [← hs3]
  have hsz : s3.heap.objs.size = s.heap.objs.size + 1 := by rw [e3, Heap.size_push]
  have hfp3 : ∀ b ∈ fp, b < s3.heap.objs.size := fun b hb => by rw [hsz]; exact Nat.lt_succ_of_lt (hfp b hb)
  have hC : (s.heap.push { cls := .type "list", data := .seq ([] : List Value).toArray }).objs.size = s3.heap.objs.size := by rw [e3]
  have hk : ∀ b o, s3.heap.get? b = some o → h₁.get? b = some o := fun b o e => by
    have nb : b ≠ (s.heap.push { cls := .type "list", data := .seq ([] : List Value).toArray }).objs.size := by rw [hC]; exact Nat.ne_of_lt (Heap.lt_size e)
    rw [e3] at e
    exact (hsb₁.2 b nb).trans (Heap.get?_push_of_some _ e)
  have hns : h₁.Ns s3.heap.objs.size (fun x => ([] : List (Str × Value)).reverse.lookup x) := by rw [← hC]; exact hns₁
  have J0 : Inv (cxComp X N scope cl s3.heap.objs.size s3 (upd H s.heap.objs.size (.lst [])) fp) [] (compSt k caps σ) (upd H s.heap.objs.size (.lst [])) { s3 with heap := h₁, toks := s.toks + ([] : List (Str × Value)).length } := I3.comp S hcl hhas hf3 hfp3 hk hns
  have hst : tn 0 h₁ := T.keep 0 _ _ st fun b _ o e => hk b o (by rw [e3]; exact Heap.get?_push_of_some _ e)
  obtain ⟨W, ⟨m0, w0⟩, turn⟩ := hw _ hD
  have stat : ∀ {H' : Hp} {ps : List (Addr × Obj)}, (∀ b ∈ fp, H' b = none) → (∀ p ∈ ps, False) → ∀ b ∈ fp, FpOk (cxComp X N scope cl s3.heap.objs.size s3 (upd H s.heap.objs.size (.lst [])) fp) ps H' b := fun {H' ps} hn hp b hb => by
    refine ⟨hn b hb, Nat.ne_of_lt (hfp3 b hb), fun z => J0.ok.exfs b hb z, .inl hb, fun x c e z => ?_, fun p hp' => (hp p (by simpa using hp')).elim⟩
    exact (J0.ok.exf b hb).2 x c e z
  have loop : ∀ s₄ : Shared, s₄ = { s3 with heap := h₁, toks := s.toks + ([] : List (Str × Value)).length } →
      codeAny (model X.prog X.w) X.A (.compLoop (.ListComp elt [⟨tg, iter, ifs, 0⟩] scope pos) 0 (.ref it) (.ref s.heap.objs.size) (compEnvC scope cl s3.heap.objs.size X.env)) (RR (.ref s.heap.objs.size) s3.heap.objs.size) s₄ := by
    rintro s₄ rfl
    refine compLoop_any (fun n s' => ∃ i ys H', Inv (cxComp X N scope cl s3.heap.objs.size s3 (upd H s.heap.objs.size (.lst [])) fp) [] (compSt k caps σ) H' s' ∧ tn i s'.heap ∧ (∀ b ∈ fp, H' b = none) ∧ W i n ys H') ?_ m0 ⟨0, [], _, J0, hst, fun b hb => (hf3 b hb).1, w0⟩
    rintro n s5 ⟨i, ys, H5, J5, st5, fr5, w5⟩
    rcases turn i n ys H5 w5 with ⟨stop, qn⟩ | ⟨go, step⟩
    · refine thn (T.done (cxComp X N scope cl s3.heap.objs.size s3 (upd H s.heap.objs.size (.lst [])) fp) rfl rfl rfl hc i [] s5 _ H5 (fun _ _ => False) J5 (stat fr5 (fun _ h => by cases h)) st5 stop) fun r s6 ⟨hr, J6⟩ => ?_
      subst hr
      exact hRR _ _ s6 H5 (let ⟨m, h, _⟩ := J6.loc; ⟨m, h⟩) qn (I3.fpOk (Nat.le_refl _) J6.free) fun h' hs => I3.uncomp rfl hf3 J6 hs
    · refine thn (T.item (cxComp X N scope cl s3.heap.objs.size s3 (upd H s.heap.objs.size (.lst [])) fp) rfl rfl rfl hc i [] s5 _ H5 (fun _ _ => False) J5 (stat fr5 (fun _ h => by cases h)) st5 go) fun r s6 ⟨u, hr, h6⟩ => ?_
      subst hr
      refine thn h6 fun _ s7 ⟨x, H7, J7, r7, y7, st7, fr7⟩ => ?_
      have J7' := J7.pinned (stat fr7 (fun _ h => by cases h)) (T.obj _ _ st7)
      have keep : ∀ {σ8 : St} {H8 : Hp} {s8 : Shared} {m' : Nat} {ys' : List V}, Inv (cxComp X N scope cl s3.heap.objs.size s3 (upd H s.heap.objs.size (.lst [])) fp) ([] ++ pinsAt fp s7.heap) σ8 H8 s8 → m' < n → W (i + 1) m' ys' H8 →
          ∃ m, m < n ∧ ∃ i ys H', Inv (cxComp X N scope cl s3.heap.objs.size s3 (upd H s.heap.objs.size (.lst [])) fp) [] (compSt k caps σ) H' s8 ∧ tn i s8.heap ∧ (∀ b ∈ fp, H' b = none) ∧ W i m ys H' := fun {σ8 H8 s8 m' ys'} J8 hm w8 => by
        refine ⟨m', hm, i + 1, ys', H8, I3.recomp S hcl hhas hf3 J8.unpinned, T.keep _ _ _ st7 fun b hb o e => (J8.pin (b, o) (List.mem_append_right _ (List.mem_append_right _ (mem_pinsAt hb e)))).1, fun b hb => ?_, w8⟩
        obtain ⟨o, e, d⟩ := T.obj _ _ st7 b hb
        exact (J8.pin (b, o) (List.mem_append_right _ (List.mem_append_right _ (mem_pinsAt hb e)))).2.1
      refine thn (hg cl _ s3 _ fp _ s7 _ H7 x u _ J7' r7 (step x H7 y7)) fun _ s8 ⟨σ8, H8, J8, q8⟩ => ?_
      refine thn (hts cl _ s3 _ fp _ s8 σ8 H8 _ J8 q8) fun ok s9 ⟨H9, J9, q9⟩ => ?_
      cases ok with
      | false =>
        rw [if_neg Bool.false_ne_true] at q9 ⊢
        obtain ⟨m', hm, w9⟩ := q9
        exact keep J9 hm w9
      | true =>
        rw [if_pos rfl] at q9 ⊢
        refine thn (he cl _ s3 _ fp _ s9 σ8 H9 _ J9 q9) fun yv s10 ⟨y, H10, J10, r10, zs, hz, hlt, m', hm, w10⟩ => ?_
        refine thn (mt_append _ s10 σ8 H10 (.ref s.heap.objs.size) [y] (.ref s.heap.objs.size) [yv] (fun _ H11 => H11 = upd H10 s.heap.objs.size (.lst (zs ++ [y]))) J10 rfl (.cons r10 .nil) ⟨_, zs, y, rfl, rfl, hz, hlt, rfl⟩) fun _ s11 ⟨_, H11, J11, _, e11⟩ => ?_
        subst e11
        exact keep J11 hm w10
  have fin := codeAny_compStart_list (prog := X.prog) (w := X.w) (A := X.A) (elt := elt) (target := tg) (iter := iter) (ifs := ifs) (rest := []) (scope := scope) (pos := pos) (it := .ref it) (acc := .ref s.heap.objs.size) (env := compEnvC scope cl s3.heap.objs.size X.env) (R := RR (.ref s.heap.objs.size) s3.heap.objs.size) (loop _ rfl)
    (T.self X.A 0 { s3 with heap := h₁, toks := s.toks + ([] : List (Str × Value)).length } _ _ hst (loop _ rfl))
  subst hs3
  exact fin
theorem pe_comp (hc : X.calm = true) (hi : PI X tg iter wi) (S : CScope X N k caps scope)
    (hg : ∀ (cl : List (Str × Addr)) (C : Addr) (s : Shared) (H : Hp) (fp : List Addr), PG (cxComp X N scope cl C s H fp) tg g) (hts : ∀ (cl : List (Str × Addr)) (C : Addr) (s : Shared) (H : Hp) (fp : List Addr), PTs (cxComp X N scope cl C s H fp) ifs ts)
    (he : ∀ (cl : List (Str × Addr)) (C : Addr) (s : Shared) (H : Hp) (fp : List Addr), PE (cxComp X N scope cl C s H fp) elt te)
    (hs : ∀ x, foldedSetIterable iter X.env x = pure x := by intro _; rfl) : PE X (.ListComp elt [⟨tg, iter, ifs, 0⟩] scope pos) (tComp k caps wi g ts te) := by
  intro pins s σ H Q I h
  obtain ⟨cl, hclos, hcl, hhas⟩ := clos_of (env := X.env) (scope := scope) fun x hx => I.ok.has x (S.has x hx)
  rw [eval_ListComp]
  refine wpAny_comprehension_free (use := none) rfl hs hclos S.kind S.loc (thn (hi pins s σ H _ I h) fun xv s₁ h₁ => thn h₁ fun itv s₂ h₂ => ?_)
  obtain ⟨it, fp, tn, J, H2, e, I2, T, st2, f2, hw⟩ := h₂
  subst e
  refine comp_walk (Q := Q) (RR := fun acc C => compPost (model X.prog X.w) X.A X.xe none (EP X pins σ Q) acc C) hc S hcl hhas hg hts he I2 T st2 f2 hw fun D C s' H' hm q _ hI => ?_
  obtain ⟨m, hm⟩ := hm
  exact ⟨m, hm, fun h' hs => ⟨.ref D, H', hI h' hs, rfl, q⟩⟩
theorem ps_comp {y : Str} {py spos : Pos} {g0 : TG} (hc : X.calm = true) (hi : PI X tg iter wi) (S : CScope X N k caps scope)
    (hg : ∀ (cl : List (Str × Addr)) (C : Addr) (s : Shared) (H : Hp) (fp : List Addr), PG (cxComp X N scope cl C s H fp) tg g) (hts : ∀ (cl : List (Str × Addr)) (C : Addr) (s : Shared) (H : Hp) (fp : List Addr), PTs (cxComp X N scope cl C s H fp) ifs ts)
    (he : ∀ (cl : List (Str × Addr)) (C : Addr) (s : Shared) (H : Hp) (fp : List Addr), PE (cxComp X N scope cl C s H fp) elt te) (hy : PG X (.Name y py) g0)
    (hsw : swapsWith (.ListComp elt [⟨tg, iter, ifs, 0⟩] scope pos) (some (.Name y py)) spos.line X.env = pure true)
    (hs : ∀ x, foldedSetIterable iter X.env x = pure x := by intro _; rfl) : PS X (.Assign [.Name y py] (.ListComp elt [⟨tg, iter, ifs, 0⟩] scope pos) spos) (tAsg (tComp k caps wi g ts te) g0) := by
  intro pins s σ H D I h
  obtain ⟨cl, hclos, hcl, hhas⟩ := clos_of (env := X.env) (scope := scope) fun x hx => I.ok.has x (S.has x hx)
  rw [exec_Assign_Name_used _ _ _ _ hsw]
  refine wpAny_bind (wpAny_standAt (wpAny_bind ?_))
  show wpAny _ X.A (do let _ ← comprehension (.ListComp elt [⟨tg, iter, ifs, 0⟩] scope pos) scope X.env _ (newList []) false (eval iter X.env) (some (assign (.Name y py) X.env))) _ _ s
  refine wpAny_bind (wpAny_mono (wpAny_comprehension_free (use := some (assign (.Name y py) X.env)) (Q := fun _ s' => SP X pins D .next s') rfl hs hclos S.kind S.loc (thn (hi pins s σ H _ I h) fun xv s₁ h₁ => thn h₁ fun itv s₂ h₂ => ?_))
    (fun _ s' hq => wpAny_pure (wpAny_pure hq)) fun _ _ e => e)
  obtain ⟨it, fp, tn, J, H2, e, I2, T, st2, f2, hw⟩ := h₂
  subst e
  refine comp_walk (Q := fun x H' => g0 x σ H' D.nx) (RR := fun acc C => compPost (model X.prog X.w) X.A X.xe (some (assign (.Name y py) X.env)) (fun _ s' => SP X pins D .next s') acc C) hc S hcl hhas hg hts he I2 T st2 f2 hw fun Da C s' H' hm q fC hI => ?_
  obtain ⟨m, o, es, ep, ho, hd, hk⟩ := hm
  have I3 : Inv X pins σ H' s' := hI s'.heap (Heap.SameBut.refl _ _)
  have I4 := I3.pinned (fp := [C]) (fun b hb => by rw [List.mem_singleton.mp hb]; exact fC) (fun b hb => by rw [List.mem_singleton.mp hb]; exact ⟨o, ho, fun v z => by rw [hd] at z; cases z⟩)
  show wpAny _ X.A (assign (.Name y py) X.env (.ref Da)) _ _ s'
  refine thn (hy _ s' σ H' (.ref Da) (.ref Da) _ I4 rfl q) fun _ s5 ⟨σ5, H5, I5, q5⟩ => ?_
  have hp := I5.pin (C, o) (List.mem_append_right _ (List.mem_append_right _ (mem_pinsAt (by simp) ho)))
  refine ⟨m, ⟨o, es, ep, hp.1, hd, hk⟩, fun h' hs' => ⟨σ5, H5, ?_, q5⟩⟩
  obtain ⟨f0, f1, f2', f3, f4, f5⟩ := fC
  exact I5.unpinned.turned (t' := s5.toks) (fun b o hb e => (hs'.2 b hb).trans e) hp.2.1 f1 f3 f4 f5
end
def visB (sc : Scope) (x : Str) : Bool := sc.names.lookup x == some .local || (sc.names.lookup x == some .cell || sc.names.lookup x == some .free)
def capB (sc : Scope) (NX N : List Str) (k : Nat) (scope : Scope) : Nat → List Nat → Bool
  | _, [] => true
  | i, j :: r => (match N[k + i]? with
    | some x => NX[j]? == some x && visB sc x && scope.names.lookup x == some .free
    | none => false) && capB sc NX N k scope (i + 1) r
def cscopeB (sc : Scope) (NX N : List Str) (k : Nat) (caps : List Nat) (scope : Scope) : Bool :=
  scope.kind == .function && scope.names.all (fun y => !(y.2 == .cell)) && scope.names.all (fun y => !(y.2 == .local) || scope.names.lookup y.1 == some .local) &&
  scope.names.all (fun y => !(y.2 == .free) || (sc.names.lookup y.1 == some .cell || sc.names.lookup y.1 == some .free)) && N.length == k + caps.length && capB sc NX N k scope 0 caps
theorem capB_of {sc : Scope} {NX N : List Str} {k : Nat} {scope : Scope} : ∀ {i0 : Nat} {caps : List Nat}, capB sc NX N k scope i0 caps = true → ∀ (i j : Nat) (x : Str), caps[i]? = some j → N[k + (i0 + i)]? = some x →
    (NX[j]? = some x ∧ Vis sc x) ∧ scope.names.lookup x = some .free
  | _, [], _, i, j, x, h, _ => by simp at h
  | i0, c :: r, h, i, j, x, hi, hx => by
    unfold capB at h
    rw [Bool.and_eq_true] at h
    cases i with
    | zero =>
      have e : c = j := by simpa using hi
      subst e
      rw [Nat.add_zero] at hx
      rw [hx] at h
      simp only [Bool.and_eq_true, beq_iff_eq, visB, Bool.or_eq_true] at h
      exact ⟨⟨h.1.1.1, h.1.1.2⟩, h.1.2⟩
    | succ i =>
      refine capB_of h.2 i j x (by simpa using hi) ?_
      rw [show i0 + 1 + i = i0 + (i + 1) by omega]
      exact hx
theorem CScope.of {X : Cx} {N : List Str} {k : Nat} {caps : List Nat} {scope : Scope} (h : cscopeB X.env.scope X.N N k caps scope = true) : CScope X N k caps scope := by
  unfold cscopeB at h
  simp only [Bool.and_eq_true, beq_iff_eq, List.all_eq_true, Bool.not_eq_true', beq_eq_false_iff_ne, Bool.or_eq_true] at h
  obtain ⟨⟨⟨⟨⟨h1, h2⟩, h3⟩, h4⟩, h5⟩, h6⟩ := h
  refine ⟨h1, h2, fun y hy e => ?_, fun x hx => ?_, h5, fun i j x hi hx => (capB_of h6 i j x hi (by rw [Nat.zero_add]; exact hx)).1, fun i j x hi hx => (capB_of h6 i j x hi (by rw [Nat.zero_add]; exact hx)).2⟩
  · rcases h3 y hy with z | z
    · exact absurd e z
    · exact z
  · rcases h4 _ hx with z | z
    · exact absurd rfl z
    · exact z
theorem ps_compB {X : Cx} {scope : Scope} {elt tg iter : Expr} {ifs : List Expr} {pos spos py : Pos} {y : Str} {wi : TI} {g g0 : TG} {ts : TT} {te : TE} (N : List Str) (k : Nat) (caps : List Nat) (hi : PI X tg iter wi)
    (hg : ∀ (cl : List (Str × Addr)) (C : Addr) (s : Shared) (H : Hp) (fp : List Addr), PG (cxComp X N scope cl C s H fp) tg g) (hts : ∀ (cl : List (Str × Addr)) (C : Addr) (s : Shared) (H : Hp) (fp : List Addr), PTs (cxComp X N scope cl C s H fp) ifs ts)
    (he : ∀ (cl : List (Str × Addr)) (C : Addr) (s : Shared) (H : Hp) (fp : List Addr), PE (cxComp X N scope cl C s H fp) elt te) (hy : PG X (.Name y py) g0) (hc : X.calm = true := by rfl) (hS : cscopeB X.env.scope X.N N k caps scope = true := by kernel_rfl)
    (hsw : swapsWith (.ListComp elt [⟨tg, iter, ifs, 0⟩] scope pos) (some (.Name y py)) spos.line X.env = pure true := by rfl)
    (hs : ∀ x, foldedSetIterable iter X.env x = pure x := by intro _; rfl) : PS X (.Assign [.Name y py] (.ListComp elt [⟨tg, iter, ifs, 0⟩] scope pos) spos) (tAsg (tComp k caps wi g ts te) g0) := ps_comp hc hi (CScope.of hS) hg hts he hy hsw hs
theorem pe_compB {X : Cx} {scope : Scope} {elt tg iter : Expr} {ifs : List Expr} {pos : Pos} {wi : TI} {g : TG} {ts : TT} {te : TE} (N : List Str) (k : Nat) (caps : List Nat) (hi : PI X tg iter wi)
    (hg : ∀ (cl : List (Str × Addr)) (C : Addr) (s : Shared) (H : Hp) (fp : List Addr), PG (cxComp X N scope cl C s H fp) tg g) (hts : ∀ (cl : List (Str × Addr)) (C : Addr) (s : Shared) (H : Hp) (fp : List Addr), PTs (cxComp X N scope cl C s H fp) ifs ts)
    (he : ∀ (cl : List (Str × Addr)) (C : Addr) (s : Shared) (H : Hp) (fp : List Addr), PE (cxComp X N scope cl C s H fp) elt te) (hc : X.calm = true := by rfl) (hS : cscopeB X.env.scope X.N N k caps scope = true := by kernel_rfl)
    (hs : ∀ x, foldedSetIterable iter X.env x = pure x := by intro _; rfl) : PE X (.ListComp elt [⟨tg, iter, ifs, 0⟩] scope pos) (tComp k caps wi g ts te) := pe_comp hc hi (CScope.of hS) hg hts he hs
end L2
set_option Elab.async false
set_option linter.all false
set_option maxRecDepth 100000
set_option maxHeartbeats 4000000
namespace L2
open PySem PySem.Spec PyProof.Rows
def Itv (K : PySem.W.Frag) (l : Addr) (n : Nat) : It :=
  ⟨fun i H => i < n ∧ ∃ xs, SqL K H l xs ∧ xs.length = n, fun i H x H' => H' = H ∧ ∀ xs, SqL K H l xs → xs[n - 1 - i]? = some x, fun i _ => i = n⟩
theorem turn_rev {P : Program} {w : World} {K : PySem.W.Frag} {tg : Expr} (l it : Addr) (n : Nat) : Turn P w K tg (Itv K l n) [it] it (fun i h => i ≤ n ∧ h.IsRevIter it l ((n : Int) - 1 - (i : Int))) where
  mem := by simp
  obj := fun i h st b hb => by
    have e : b = it := by simpa using hb
    subst e
    obtain ⟨_, o, e, c, d⟩ := st
    exact ⟨o, e, fun v z => by rw [d] at z; cases z⟩
  keep := fun i h h' st k => ⟨st.1, st.2.at fun o e => k it (by simp) o e⟩
  item := by
    intro X hP hw hK hc i pins s σ H E I hf st hg
    subst hP hw hK
    obtain ⟨hi, xs, hq, hn⟩ := hg
    obtain ⟨its, rv, p, hz⟩ := I.list hq
    have hl := rv.length
    have hx : xs[n - 1 - i]? = some (xs[n - 1 - i]'(by omega)) := List.getElem?_eq_getElem (by omega)
    obtain ⟨u, hu, ru⟩ := rv.get hx
    obtain ⟨f0, f1, f2, f3, f4, f5⟩ := hf it (by simp)
    have e : (n : Int) - 1 - (i : Int) = ((n - 1 - i : Nat) : Int) := by omega
    have hit := st.2
    rw [e] at hit
    refine wpAny_pyNext_rev_item hit p.isList (x := u) (by simpa using hu) fun h' st' sb => ?_
    have e2 : ((n - 1 - i : Nat) : Int) - 1 = (n : Int) - 1 - ((i + 1 : Nat) : Int) := by omega
    rw [e2] at st'
    have I1 : Inv X pins σ H { s with heap := h' } := I.turned (t' := s.toks) (fun b o hb e => (sb.2 b hb).trans e) f0 f1 f3 f4 f5
    obtain ⟨o, e, c, d⟩ := id st'
    exact ⟨u, rfl, go_of (s := { s with heap := h' }) e c d (by decide) ⟨_, H, I1, ru, ⟨rfl, fun ys hy => by rw [I.list_inj hy hq]; exact hx⟩, ⟨hi, st'⟩, fun b hb => (hf b hb).1⟩⟩
  done := by
    intro X hP hw hK hc i pins s σ H E I hf st hg
    subst hP hw hK
    have hi : i = n := hg
    subst hi
    obtain ⟨f0, f1, f2, f3, f4, f5⟩ := hf it (by simp)
    have e : (i : Int) - 1 - (i : Int) = -1 := by omega
    have hit := st.2
    rw [e] at hit
    exact wpAny_pyNext_rev_end (I.ok.hd hc) hit fun h' eb => ⟨rfl, I.turned (t' := s.toks) (fun b o hb e => eb b o hb e) f0 f1 f3 f4 f5⟩
  self := fun _ _ _ _ _ st h => wpAny_pyIter_revIter st.2 h
section
variable {X : Cx} {tg : Expr}
def iRev (K : PySem.W.Frag) (ta : TA) : TI := fun σ H R => ta σ H fun vs H1 => ∃ l xs, vs = [.ref l] ∧ SqL K H1 l xs ∧ R (Itv K l xs.length) H1
theorem pi_rev {a : Expr} {ta : TA} {p pos : Pos} (hg : Gl X "reversed") (hm : X.mg "reversed" = none) (ha : PA X [a] ta) (hs : starEach [a] X.env = [(false, eval a X.env)] := by rfl) : PI X tg (.Call (.Name "reversed" p) [a] [] pos) (iRev X.K ta) := by
  intro pins s σ H R I h
  refine Call_ (ld_blt I hg hm boot_reversed (PyProof.Rows.callWith_type1 (thn (ha pos pins s σ H _ I h) fun us s1 ⟨vs, H1, I1, r1, q1⟩ => ?_) hs rfl))
  obtain ⟨l, xs, e, hq, q⟩ := q1
  subst e
  cases r1 with
  | cons r rr =>
    cases rr
    cases r
    obtain ⟨its, rv, p', hz⟩ := I1.list hq
    have hl := rv.length
    refine call_reversed_list p'.isList ?_
    have hit : (s1.heap.push (revObj l (((its.toArray.size : Nat) : Int) - 1))).IsRevIter s1.heap.objs.size l ((xs.length : Int) - 1 - ((0 : Nat) : Int)) := by
      refine ⟨_, Heap.get?_push_size _ rfl, rfl, ?_⟩
      show Data.fields #[.ref l, rawInt (((its.toArray.size : Nat) : Int) - 1)] = _
      rw [List.size_toArray, hl]
      simp
    refine wpAny_pyIter_revIter hit ?_
    refine ⟨s1.heap.objs.size, [s1.heap.objs.size], _, _, H1, rfl, I1.kept (t' := s1.toks) fun b o e => Heap.get?_push_of_some _ e, turn_rev l _ xs.length, ⟨Nat.zero_le _, hit⟩, fun b hb => ?_, q⟩
    have e : b = s1.heap.objs.size := by simpa using hb
    subst e
    exact I1.fpOk (Nat.le_refl _) (I1.hok.fresh (Nat.le_refl _))
end
def Itz (K : PySem.W.Frag) (l1 l2 : Addr) : It :=
  ⟨fun i H => ∃ xs ys x y, SqL K H l1 xs ∧ SqL K H l2 ys ∧ xs[i]? = some x ∧ ys[i]? = some y,
   fun i H v H' => ∃ p x y, v = .ref p ∧ H p = none ∧ H' = upd H p (.tup [x, y]) ∧ (∀ xs, SqL K H l1 xs → xs[i]? = some x) ∧ ∀ ys, SqL K H l2 ys → ys[i]? = some y,
   fun i H => ∃ xs ys, SqL K H l1 xs ∧ SqL K H l2 ys ∧ (xs[i]? = none ∨ ys[i]? = none)⟩
theorem turn_zip {P : Program} {w : World} {K : PySem.W.Frag} {elts : List Expr} {kk : Nat} {tpos : Pos} (z TI TO i1 i2 l1 l2 : Addr) (D : ZipApart z TI TO i1 i2 l1 l2) : Turn P w K (.Tuple elts kk tpos) (Itz K l1 l2) [z, TI, TO, i1, i2] z
    (fun i h => IsZip h z TI TO .none ∧ IsPair h TI (.ref i1) (.ref i2) ∧ (∃ a b, IsPair h TO a b) ∧ h.IsListIter i1 l1 i ∧ h.IsListIter i2 l2 i) where
  mem := by simp
  obj := fun i h st b hb => by
    obtain ⟨h1, h2, ⟨a, c, h3⟩, ⟨o4, h4, _, d4⟩, ⟨o5, h5, _, d5⟩⟩ := st
    have hb' : b = z ∨ b = TI ∨ b = TO ∨ b = i1 ∨ b = i2 := by simpa using hb
    rcases hb' with rfl | rfl | rfl | rfl | rfl
    · exact ⟨_, h1, fun v q => by cases q⟩
    · exact ⟨_, h2, fun v q => by cases q⟩
    · exact ⟨_, h3, fun v q => by cases q⟩
    · exact ⟨_, h4, fun v q => by rw [d4] at q; cases q⟩
    · exact ⟨_, h5, fun v q => by rw [d5] at q; cases q⟩
  keep := fun i h h' st k => by
    obtain ⟨h1, h2, ⟨a, c, h3⟩, h4, h5⟩ := st
    exact ⟨k z (by simp) _ h1, k TI (by simp) _ h2, ⟨a, c, k TO (by simp) _ h3⟩, h4.at fun o e => k i1 (by simp) o e, h5.at fun o e => k i2 (by simp) o e⟩
  item := by
    intro X hP hw hK hc i pins s σ H E I hf st hg
    subst hP hw hK
    obtain ⟨h1, h2, ⟨a, c, h3⟩, h4, h5⟩ := st
    obtain ⟨xs, ys, x, y, hq1, hq2, hx, hy⟩ := hg
    obtain ⟨its1, rv1, p1, hz1⟩ := I.list hq1
    obtain ⟨its2, rv2, p2, hz2⟩ := I.list hq2
    obtain ⟨u1, hu1, ru1⟩ := rv1.get hx
    obtain ⟨u2, hu2, ru2⟩ := rv2.get hy
    refine wpAny_pyNext_zip_item D h1 h2 h3 h4 h5 p1.isList p2.isList (x := u1) (y := u2) (by simpa using hu1) (by simpa using hu2) fun h' g1 g2 g3 g4 g5 gsz gk => ?_
    refine ⟨_, rfl, wpAny_letOwnedTupleGo_zip g1 fun h'' z1 sb => ?_⟩
    have hfr : H s.heap.objs.size = none := I.hok.fresh (Nat.le_refl _)
    have nz : ∀ b o, s.heap.get? b = some o → b ≠ s.heap.objs.size := fun b o e => Nat.ne_of_lt (Heap.lt_size e)
    have zlt : z < s.heap.objs.size := Heap.lt_size h1
    have kk : ∀ b o, b ∉ [z, TI, TO, i1, i2] → s.heap.get? b = some o → h''.get? b = some o := fun b o hb e => by
      have hb' : b ≠ z ∧ b ≠ TI ∧ b ≠ TO ∧ b ≠ i1 ∧ b ≠ i2 := by simpa using hb
      exact (sb.2 b hb'.1).trans (gk b o hb'.1 hb'.2.2.1 hb'.2.2.2.1 hb'.2.2.2.2 e)
    have np : h''.get? s.heap.objs.size = some { cls := .type "tuple", data := .seq #[u1, u2] } := (sb.2 _ (Nat.ne_of_gt zlt)).trans g5
    -- the tracked objects stand, the pair is laid
    have nfp : ∀ b u, H b = some u → b ∉ [z, TI, TO, i1, i2] := fun b u e hb => by
      have := (hf b hb).1
      rw [e] at this; cases this
    have hok1 : HOk X.prog X.w H h'' := fun b u e => (I.hok b u e).stay (fun c v hc q => kk c v (by
      rcases hc with q' | q'
      · rw [q']; exact nfp b u e
      · exact nfp c _ q') q) (fun _ q => q) fun _ _ q => q
    have hok2 : HOk X.prog X.w (upd H s.heap.objs.size (.tup [x, y])) h'' := fun b u e => by
      by_cases hb : b = s.heap.objs.size
      · subst hb
        rw [upd_same] at e
        cases e
        exact ⟨(by show 2 ≤ sizeLine; decide), [u1, u2], .cons ru1 (.cons ru2 .nil), ⟨_, np, rfl, _, rfl⟩⟩
      · rw [upd_ne hb] at e
        exact (hok1 b u e).stay (fun c v _ q => q) (fun c q => by rw [upd_ne (ne_of_none q hfr)]; exact q) fun c xs q => by rw [upd_ne (ne_of_none q hfr)]; exact q
    have I1 : Inv X pins σ (upd H s.heap.objs.size (.tup [x, y])) { s with heap := h'' } := by
      refine I.step (g' := s.gens) (t' := s.toks) (d' := s.drawn) (ch := [z, TI, TO, i1, i2]) (fun b hb => ?_) (fun b o _ _ hc e _ => kk b o hc e) (fun b o _ _ hc e _ => ⟨o.slots, kk b o hc e⟩) (fun b o hc e n => by rw [upd_ne (nz b o e)]; exact n) (fun b o hc e => ⟨o, kk b o hc e⟩)
        (fun b xs e => by rw [upd_ne (ne_of_none e hfr)]; exact e) (fun b o u e => by rw [upd_ne (ne_of_none e hfr)]; exact e) (fun b ps e => ⟨#[], by rw [upd_ne (ne_of_none e hfr), e]; simp⟩) (fun m hm => ?_) hok2 I.bare
      · obtain ⟨f0, f1, f2, f3, f4, f5⟩ := hf b hb
        exact ⟨f3, f1, f4, f5⟩
      · obtain ⟨o, es, ep, ho, r⟩ := hm
        refine ⟨o, es, ep, kk _ o (fun hb => ?_) ho, r⟩
        exact (hf _ hb).2.1 rfl
    refine ⟨.ref s.heap.objs.size, _, I1, rfl, ⟨s.heap.objs.size, x, y, rfl, hfr, rfl, fun zs hz => by rw [I.list_inj hz hq1]; exact hx, fun zs hz => by rw [I.list_inj hz hq2]; exact hy⟩, ⟨z1, (sb.2 TI D.TIz).trans (gk TI _ D.TIz D.TITO D.TIi1 D.TIi2 h2), ⟨_, _, (sb.2 TO D.TOz).trans g2⟩, g3.at fun o e => (sb.2 i1 D.i1z).trans e, g4.at fun o e => (sb.2 i2 D.i2z).trans e⟩, fun b hb => ?_⟩
    have e0 := (hf b hb).1
    have hlt : b < s.heap.objs.size := by
      obtain ⟨o4, e4, _⟩ := h4
      obtain ⟨o5, e5, _⟩ := h5
      have hb' : b = z ∨ b = TI ∨ b = TO ∨ b = i1 ∨ b = i2 := by simpa using hb
      rcases hb' with rfl | rfl | rfl | rfl | rfl
      · exact zlt
      · exact Heap.lt_size h2
      · exact Heap.lt_size h3
      · exact Heap.lt_size e4
      · exact Heap.lt_size e5
    rw [upd_ne (Nat.ne_of_lt hlt)]
    exact e0
  done := by
    intro X hP hw hK hc i pins s σ H E I hf st hg
    subst hP hw hK
    obtain ⟨h1, h2, ⟨a, c, h3⟩, h4, h5⟩ := st
    obtain ⟨xs, ys, hq1, hq2, hend⟩ := hg
    obtain ⟨its1, rv1, p1, hz1⟩ := I.list hq1
    obtain ⟨its2, rv2, p2, hz2⟩ := I.list hq2
    have he : its1.toArray[i]? = none ∨ its2.toArray[i]? = none := by
      rcases hend with e | e
      · exact .inl (by simpa using rv1.none_of e)
      · exact .inr (by simpa using rv2.none_of e)
    refine wpAny_pyNext_zip_end (I.ok.hd hc) D h1 h2 h3 h4 h5 p1.isList p2.isList he fun h' gk => ⟨rfl, ?_⟩
    have kk : ∀ b o, b ∉ [z, TI, TO, i1, i2] → s.heap.get? b = some o → h'.get? b = some o := fun b o hb e => by
      have hb' : b ≠ z ∧ b ≠ TI ∧ b ≠ TO ∧ b ≠ i1 ∧ b ≠ i2 := by simpa using hb
      exact gk b o hb'.1 hb'.2.2.1 hb'.2.2.2.1 hb'.2.2.2.2 e
    have nfp : ∀ b u, H b = some u → b ∉ [z, TI, TO, i1, i2] := fun b u e hb => by
      have := (hf b hb).1
      rw [e] at this; cases this
    refine I.step (h' := h') (g' := s.gens) (t' := s.toks) (d' := s.drawn) (ch := [z, TI, TO, i1, i2]) (fun b hb => ?_) (fun b o _ _ hc e _ => kk b o hc e) (fun b o _ _ hc e _ => ⟨o.slots, kk b o hc e⟩) (fun b o hc e n => n) (fun b o hc e => ⟨o, kk b o hc e⟩)
      (fun b xs e => e) (fun b o u e => e) (fun b ps e => ⟨#[], by rw [e]; simp⟩) (fun m hm => ?_) (fun b u e => ?_) I.bare
    · obtain ⟨f0, f1, f2, f3, f4, f5⟩ := hf b hb
      exact ⟨f3, f1, f4, f5⟩
    · obtain ⟨o, es, ep, ho, r⟩ := hm
      refine ⟨o, es, ep, kk _ o (fun hb => ?_) ho, r⟩
      exact (hf _ hb).2.1 rfl
    · exact (I.hok b u e).stay (fun c v hc q => kk c v (by
        rcases hc with q' | q'
        · rw [q']; exact nfp b u e
        · exact nfp c _ q') q) (fun _ q => q) fun _ _ q => q
  self := fun _ _ _ _ _ st h => wpAny_pyIter_zip st.1 h
section
variable {X : Cx} {elts : List Expr} {kk : Nat} {tpos : Pos}
def iZip (K : PySem.W.Frag) (ta : TA) : TI := fun σ H R => ta σ H fun vs H1 => ∃ l1 l2 xs ys, vs = [.ref l1, .ref l2] ∧ SqL K H1 l1 xs ∧ SqL K H1 l2 ys ∧ R (Itz K l1 l2) H1
theorem pi_zip {a b : Expr} {ta : TA} {p pos : Pos} (hg : Gl X "zip") (hm : X.mg "zip" = none) (ha : PA X [a, b] ta) (hs : starEach [a, b] X.env = [(false, eval a X.env), (false, eval b X.env)] := by rfl) (hs2 : starEach [b] X.env = [(false, eval b X.env)] := by rfl) :
    PI X (.Tuple elts kk tpos) (.Call (.Name "zip" p) [a, b] [] pos) (iZip X.K ta) := by
  intro pins s σ H R I h
  refine Call_ (ld_blt I hg hm boot_zip (PyProof.Rows.callWith_type1 (thn (ha pos pins s σ H _ I h) fun us s1 ⟨vs, H1, I1, r1, q1⟩ => ?_) (by rw [hs, hs2]) (by rw [hs2]; rfl)))
  obtain ⟨l1, l2, xs, ys, e, hq1, hq2, q⟩ := q1
  subst e
  cases r1 with
  | cons r rr =>
    cases rr with
    | cons r' rr =>
      cases rr
      cases r
      cases r'
      obtain ⟨its1, rv1, p1, hz1⟩ := I1.list hq1
      obtain ⟨its2, rv2, p2, hz2⟩ := I1.list hq2
      refine call_zip_2 p1.isList p2.isList fun h' g1 g2 g3 g4 g5 gsz gk => ?_
      refine wpAny_pyIter_zip g1 ?_
      have I2 : Inv X pins σ H1 { s1 with heap := h' } := I1.kept (t' := s1.toks) gk
      have hlt : ∀ {l : Addr} {its : Array Value}, s1.heap.IsList l its → l < s1.heap.objs.size := fun ⟨o, e, _⟩ => Heap.lt_size e
      have n1 := hlt p1.isList
      have n2 := hlt p2.isList
      have D : ZipApart (s1.heap.objs.size + 4) (s1.heap.objs.size + 2) (s1.heap.objs.size + 3) s1.heap.objs.size (s1.heap.objs.size + 1) l1 l2 := by
        have a1 : (l1 : Nat) < s1.heap.objs.size := n1
        have a2 : (l2 : Nat) < s1.heap.objs.size := n2
        have ne4 : ∀ {x y : Nat}, x < y → x ≠ y := fun h => Nat.ne_of_lt h
        have lt : ∀ {x : Nat} (k : Nat), x < s1.heap.objs.size → x ≠ s1.heap.objs.size + k := fun k h => Nat.ne_of_lt (Nat.lt_of_lt_of_le h (Nat.le_add_right _ _))
        have nz : ∀ {j k : Nat}, j ≠ k → s1.heap.objs.size + j ≠ s1.heap.objs.size + k := fun h e => h (Nat.add_left_cancel e)
        exact ⟨nz (by decide), nz (by decide), nz (j := 0) (by decide), nz (by decide), nz (by decide), nz (k := 0) (by decide), nz (by decide), nz (k := 0) (by decide), nz (by decide), nz (j := 0) (by decide), lt 4 a1, lt 3 a1, lt 0 a1, lt 1 a1, lt 4 a2, lt 3 a2, lt 0 a2, lt 1 a2⟩
      refine ⟨_, _, _, _, H1, rfl, I2, turn_zip _ _ _ _ _ l1 l2 D, ⟨g1, g2, ⟨_, _, g3⟩, g4, g5⟩, fun b hb => ?_, q⟩
      have hb' : b = s1.heap.objs.size + 4 ∨ b = s1.heap.objs.size + 2 ∨ b = s1.heap.objs.size + 3 ∨ b = s1.heap.objs.size ∨ b = s1.heap.objs.size + 1 := by simpa using hb
      have hle : s1.heap.objs.size ≤ b := by
        rcases hb' with rfl | rfl | rfl | rfl | rfl
        · exact Nat.le_add_right _ _
        · exact Nat.le_add_right _ _
        · exact Nat.le_add_right _ _
        · exact Nat.le_refl _
        · exact Nat.le_add_right _ _
      exact I1.fpOk hle (I1.hok.fresh hle)
end
end L2
set_option Elab.async false
set_option linter.all false
set_option maxRecDepth 100000
set_option maxHeartbeats 4000000
namespace L2
open PySem PySem.Spec PyProof.Rows
section
variable {k : Nat} {caps : List Nat} {g : TG} {te : TE} {σ : St} {Q : VK} {H1 : Hp} {D : Addr} {J : It} {n : Nat} {ts : TT}
def SameD (D : Addr) (H H' : Hp) : Prop := ∀ b o, b ≠ D → H b = some o → H' b = some o
theorem Same.sameD {H H' : Hp} (S : Same H H') : SameD D H H' := fun b o _ e => S b o e
theorem comp_core {QD : Addr → Hp → Prop} (R : Nat → V → Hp → Prop) (mono : ∀ i y H H', R i y H → SameD D H H' → TupK H H' → R i y H') (hn : n ≤ 1000000) (hD : H1 D = none) (hgo : ∀ i H, i < n → Same H1 H → J.go i H) (hstop : ∀ H, Same H1 H → J.stop n H)
    (step : ∀ (i : Nat) (H2 : Hp) (x : V) (H3 : Hp) (ys : List V) (C : V → Hp → Prop), i < n → Same H1 H2 → H2 D = some (.lst ys) → J.yld i H2 x H3 → (∀ y H6, Same H2 H6 → R i y H6 → C y H6) → g x (compSt k caps σ) H3 fun σ4 H4 => te σ4 H4 C)
    (fin : ∀ (ys : List V) (H' : Hp), Same H1 H' → H' D = some (.lst ys) → ys.length = n → (∀ (j : Nat) y, ys[j]? = some y → R j y H') → QD D H') :
    ∃ W : Nat → Nat → List V → Hp → Prop, (∃ m, W 0 m [] (upd H1 D (.lst []))) ∧ ∀ i m ys H2, W i m ys H2 →
      (J.stop i H2 ∧ QD D H2) ∨ (J.go i H2 ∧ ∀ x H3, J.yld i H2 x H3 → g x (compSt k caps σ) H3 fun σ4 H4 => tYes σ4 H4 fun b H5 =>
        if b = true then te σ4 H5 fun y H6 => ∃ zs, H6 D = some (.lst zs) ∧ zs.length < sizeLine ∧ ∃ m', m' < m ∧ W (i + 1) m' (ys ++ [y]) (upd H6 D (.lst (zs ++ [y])))
        else ∃ m', m' < m ∧ W (i + 1) m' ys H5) := by
  refine ⟨fun i m ys H => m + i = n ∧ Same H1 H ∧ H D = some (.lst ys) ∧ ys.length = i ∧ ∀ (j : Nat) y, ys[j]? = some y → R j y H, ⟨n, rfl, Same.new (Same.refl _) hD, upd_same, rfl, fun j y e => by simp at e⟩, ?_⟩
  rintro i m ys H2 ⟨hm, S2, hd, hl, hR⟩
  by_cases hi : i < n
  · refine .inr ⟨hgo i H2 hi S2, fun x H3 hy => step i H2 x H3 ys _ hi S2 hd hy fun y H6 S6 r6 => ?_⟩
    refine ⟨ys, S6 _ _ hd, smallLt (by omega), m - 1, by omega, by omega, fun b o e => ?_, upd_same, by rw [List.length_append, hl]; rfl, fun j z e => ?_⟩
    · rw [upd_ne (ne_of_none e hD)]
      exact S6 b o (S2 b o e)
    · have sd : SameD D H6 (upd H6 D (.lst (ys ++ [y]))) := fun b o nb e => by rw [upd_ne nb]; exact e
      by_cases hj : j < ys.length
      · rw [List.getElem?_append_left hj] at e
        exact mono j z _ _ (mono j z _ _ (hR j z e) S6.sameD S6.tupK) sd (TupK.lst (TupK.refl _) (S6 _ _ hd))
      · rw [List.getElem?_append_right (by omega)] at e
        have hj0 : j - ys.length = 0 := by
          have : j - ys.length < [y].length := (List.getElem?_eq_some_iff.mp e).1
          simp at this
          omega
        rw [hj0] at e
        have ez : y = z := by simpa using e
        subst ez
        have ej : j = i := by omega
        subst ej
        exact mono _ _ _ _ r6 sd (TupK.lst (TupK.refl _) (S6 _ _ hd))
  · have e : i = n := by omega
    subst e
    exact .inl ⟨hstop H2 S2, fin ys H2 S2 hd hl hR⟩
variable {K : PySem.W.Frag} {tl : TE} {ta : TA} {H : Hp}
theorem rd_compL (h : tl σ H fun v H1 => ∃ a, v = .ref a ∧ (∃ xs, SqL K H1 a xs) ∧ ∀ D, H1 D = none →
      ∃ W : Nat → Nat → List V → Hp → Prop, (∃ m, W 0 m [] (upd H1 D (.lst []))) ∧ ∀ i m ys H2, W i m ys H2 →
        ((Itl K a).stop i H2 ∧ Q (.ref D) H2) ∨ ((Itl K a).go i H2 ∧ ∀ x H3, (Itl K a).yld i H2 x H3 → g x (compSt k caps σ) H3 fun σ4 H4 => ts σ4 H4 fun b H5 =>
          if b = true then te σ4 H5 fun y H6 => ∃ zs, H6 D = some (.lst zs) ∧ zs.length < sizeLine ∧ ∃ m', m' < m ∧ W (i + 1) m' (ys ++ [y]) (upd H6 D (.lst (zs ++ [y])))
          else ∃ m', m' < m ∧ W (i + 1) m' ys H5)) : tComp k caps (iList K tl) g ts te σ H Q := h
theorem comp_list {QD : Addr → Hp → Prop} {a : Addr} {xs : List V} (hq : SqL K H1 a xs) (hz : xs.length ≤ 1000000) (q : ∀ D, H1 D = none → ∃ R : Nat → V → Hp → Prop, (∀ i y H H', R i y H → SameD D H H' → TupK H H' → R i y H') ∧
      (∀ (i : Nat) (x : V) (H2 : Hp) (ys : List V) (C : V → Hp → Prop), xs[i]? = some x → Same H1 H2 → H2 D = some (.lst ys) → (∀ y H6, Same H2 H6 → R i y H6 → C y H6) → g x (compSt k caps σ) H2 fun σ4 H4 => te σ4 H4 C) ∧
      ∀ (ys : List V) (H' : Hp), Same H1 H' → H' D = some (.lst ys) → ys.length = xs.length → (∀ (j : Nat) y, ys[j]? = some y → R j y H') → QD D H') :
    ∀ D, H1 D = none →
      ∃ W : Nat → Nat → List V → Hp → Prop, (∃ m, W 0 m [] (upd H1 D (.lst []))) ∧ ∀ i m ys H2, W i m ys H2 →
        ((Itl K a).stop i H2 ∧ QD D H2) ∨ ((Itl K a).go i H2 ∧ ∀ x H3, (Itl K a).yld i H2 x H3 → g x (compSt k caps σ) H3 fun σ4 H4 => tYes σ4 H4 fun b H5 =>
          if b = true then te σ4 H5 fun y H6 => ∃ zs, H6 D = some (.lst zs) ∧ zs.length < sizeLine ∧ ∃ m', m' < m ∧ W (i + 1) m' (ys ++ [y]) (upd H6 D (.lst (zs ++ [y])))
          else ∃ m', m' < m ∧ W (i + 1) m' ys H5) := by
  intro D hD
  obtain ⟨R, hm, hs, hf⟩ := q D hD
  refine comp_core (n := xs.length) R hm hz hD (fun i H2 hi S2 => ⟨xs, xs[i], S2.seq hq, by simp [hi]⟩) (fun H2 S2 => ⟨xs, S2.seq hq, Nat.le_refl _⟩) (fun i H2 x H3 ys C hi S2 hd hy hC => ?_) hf
  obtain ⟨e3, hy⟩ := hy
  subst e3
  exact hs i x H3 ys C (hy xs (S2.seq hq)) S2 hd hC
theorem rd_compZ (h : ta σ H fun vs H1 => ∃ l1 l2 xs ys, vs = [.ref l1, .ref l2] ∧ SqL K H1 l1 xs ∧ SqL K H1 l2 ys ∧ ∀ D, H1 D = none →
      ∃ W : Nat → Nat → List V → Hp → Prop, (∃ m, W 0 m [] (upd H1 D (.lst []))) ∧ ∀ i m ys H2, W i m ys H2 →
        ((Itz K l1 l2).stop i H2 ∧ Q (.ref D) H2) ∨ ((Itz K l1 l2).go i H2 ∧ ∀ x H3, (Itz K l1 l2).yld i H2 x H3 → g x (compSt k caps σ) H3 fun σ4 H4 => ts σ4 H4 fun b H5 =>
          if b = true then te σ4 H5 fun y H6 => ∃ zs, H6 D = some (.lst zs) ∧ zs.length < sizeLine ∧ ∃ m', m' < m ∧ W (i + 1) m' (ys ++ [y]) (upd H6 D (.lst (zs ++ [y])))
          else ∃ m', m' < m ∧ W (i + 1) m' ys H5)) : tComp k caps (iZip K ta) g ts te σ H Q := h
theorem comp_zip {QD : Addr → Hp → Prop} {l1 l2 : Addr} {xs ys : List V} (hq1 : SqL K H1 l1 xs) (hq2 : SqL K H1 l2 ys) (hz : xs.length ≤ 1000000) (hl : ys.length = xs.length) (q : ∀ D, H1 D = none → ∃ R : Nat → V → Hp → Prop, (∀ i y H H', R i y H → SameD D H H' → TupK H H' → R i y H') ∧
      (∀ (i : Nat) (x y : V) (p : Addr) (H2 : Hp) (zs : List V) (C : V → Hp → Prop), xs[i]? = some x → ys[i]? = some y → Same H1 H2 → H2 D = some (.lst zs) → H2 p = none → (∀ y H6, Same H2 H6 → R i y H6 → C y H6) → g (.ref p) (compSt k caps σ) (upd H2 p (.tup [x, y])) fun σ4 H4 => te σ4 H4 C) ∧
      ∀ (zs : List V) (H' : Hp), Same H1 H' → H' D = some (.lst zs) → zs.length = xs.length → (∀ (j : Nat) y, zs[j]? = some y → R j y H') → QD D H') :
    ∃ m1 m2 xs ys, [V.ref l1, V.ref l2] = [.ref m1, .ref m2] ∧ SqL K H1 m1 xs ∧ SqL K H1 m2 ys ∧ ∀ D, H1 D = none →
      ∃ W : Nat → Nat → List V → Hp → Prop, (∃ m, W 0 m [] (upd H1 D (.lst []))) ∧ ∀ i m ys H2, W i m ys H2 →
        ((Itz K m1 m2).stop i H2 ∧ QD D H2) ∨ ((Itz K m1 m2).go i H2 ∧ ∀ x H3, (Itz K m1 m2).yld i H2 x H3 → g x (compSt k caps σ) H3 fun σ4 H4 => tYes σ4 H4 fun b H5 =>
          if b = true then te σ4 H5 fun y H6 => ∃ zs, H6 D = some (.lst zs) ∧ zs.length < sizeLine ∧ ∃ m', m' < m ∧ W (i + 1) m' (ys ++ [y]) (upd H6 D (.lst (zs ++ [y])))
          else ∃ m', m' < m ∧ W (i + 1) m' ys H5) := by
  refine ⟨l1, l2, xs, ys, rfl, hq1, hq2, fun D hD => ?_⟩
  obtain ⟨R, hm, hs, hf⟩ := q D hD
  refine comp_core (n := xs.length) R hm hz hD (fun i H2 hi S2 => ⟨xs, ys, xs[i], ys[i]'(by omega), S2.seq hq1, S2.seq hq2, by simp [hi], by simp [show i < ys.length by omega]⟩) (fun H2 S2 => ⟨xs, ys, S2.seq hq1, S2.seq hq2, .inl (by simp)⟩) (fun i H2 x H3 zs C hi S2 hd hy hC => ?_) hf
  obtain ⟨p, x', y', e1, hp, e3, h1, h2⟩ := hy
  subst e1 e3
  exact hs i x' y' p H2 zs C (h1 xs (S2.seq hq1)) (h2 ys (S2.seq hq2)) S2 hd hp hC
theorem rd_compR (h : ta σ H fun vs H1 => ∃ j : Int, vs = [.int j] ∧ -(2 ^ 62) ≤ j ∧ j < 2 ^ 62 ∧ ∀ D, H1 D = none →
      ∃ W : Nat → Nat → List V → Hp → Prop, (∃ m, W 0 m [] (upd H1 D (.lst []))) ∧ ∀ i m ys H2, W i m ys H2 →
        ((Itr 0 j.toNat).stop i H2 ∧ Q (.ref D) H2) ∨ ((Itr 0 j.toNat).go i H2 ∧ ∀ x H3, (Itr 0 j.toNat).yld i H2 x H3 → g x (compSt k caps σ) H3 fun σ4 H4 => ts σ4 H4 fun b H5 =>
          if b = true then te σ4 H5 fun y H6 => ∃ zs, H6 D = some (.lst zs) ∧ zs.length < sizeLine ∧ ∃ m', m' < m ∧ W (i + 1) m' (ys ++ [y]) (upd H6 D (.lst (zs ++ [y])))
          else ∃ m', m' < m ∧ W (i + 1) m' ys H5)) : tComp k caps (iRng1 ta) g ts te σ H Q := h
theorem comp_range {QD : Addr → Hp → Prop} {n : Nat} (hz : n ≤ 1000000) (q : ∀ D, H1 D = none → ∃ R : Nat → V → Hp → Prop, (∀ i y H H', R i y H → SameD D H H' → TupK H H' → R i y H') ∧
      (∀ (i : Nat) (H2 : Hp) (zs : List V) (C : V → Hp → Prop), i < n → Same H1 H2 → H2 D = some (.lst zs) → (∀ y H6, Same H2 H6 → R i y H6 → C y H6) → g (.int i) (compSt k caps σ) H2 fun σ4 H4 => te σ4 H4 C) ∧
      ∀ (zs : List V) (H' : Hp), Same H1 H' → H' D = some (.lst zs) → zs.length = n → (∀ (j : Nat) y, zs[j]? = some y → R j y H') → QD D H') :
    ∃ j : Int, [V.int (n : Int)] = [.int j] ∧ -(2 ^ 62) ≤ j ∧ j < 2 ^ 62 ∧ ∀ D, H1 D = none →
      ∃ W : Nat → Nat → List V → Hp → Prop, (∃ m, W 0 m [] (upd H1 D (.lst []))) ∧ ∀ i m ys H2, W i m ys H2 →
        ((Itr 0 j.toNat).stop i H2 ∧ QD D H2) ∨ ((Itr 0 j.toNat).go i H2 ∧ ∀ x H3, (Itr 0 j.toNat).yld i H2 x H3 → g x (compSt k caps σ) H3 fun σ4 H4 => tYes σ4 H4 fun b H5 =>
          if b = true then te σ4 H5 fun y H6 => ∃ zs, H6 D = some (.lst zs) ∧ zs.length < sizeLine ∧ ∃ m', m' < m ∧ W (i + 1) m' (ys ++ [y]) (upd H6 D (.lst (zs ++ [y])))
          else ∃ m', m' < m ∧ W (i + 1) m' ys H5) := by
  refine ⟨n, rfl, by omega, by omega, fun D hD => ?_⟩
  obtain ⟨R, hm, hs, hf⟩ := q D hD
  refine comp_core (n := n) R hm hz hD (fun i H2 hi S2 => by rw [Int.toNat_natCast]; exact hi) (fun H2 S2 => by rw [Int.toNat_natCast]; exact Nat.le_refl _) (fun i H2 x H3 zs C hi S2 hd hy hC => ?_) hf
  obtain ⟨e3, hx⟩ := hy
  subst e3 hx
  rw [Int.zero_add]
  exact hs i H3 zs C hi S2 hd hC
end
section
variable {K : PySem.W.Frag} {tb : TS} {D : Ends} {σ : St} {H : Hp} {ta : TA} {g : TG} {u : TGs} {Q : St → Hp → Prop} {v : V} {r : List V}
theorem rd_gtup {n : Nat} {a : Addr} {xs : List V} (h : SqT K H a xs) (hl : xs.length = n) (q : u xs σ H Q) : gTup K n u (.ref a) σ H Q := ⟨a, xs, rfl, h, hl, q⟩
theorem rd_gcons (h : g v σ H fun σ' H' => u r σ' H' Q) : gCons g u (v :: r) σ H Q := ⟨v, r, rfl, h⟩
theorem rd_gnil (h : Q σ H) : gNil [] σ H Q := ⟨rfl, h⟩
theorem rd_forV (h : ta σ H fun vs H1 => ∃ l xs, vs = [.ref l] ∧ SqL K H1 l xs ∧ ∃ W : Nat → Nat → St → Hp → Prop, (∃ m, W 0 m σ H1) ∧ ∀ i m σ H, W i m σ H →
      ((Itv K l xs.length).stop i H ∧ D.nx σ H) ∨ ((Itv K l xs.length).go i H ∧ ∃ N : St → Hp → Prop, (∀ σ' H', N σ' H' → ∃ m', m' < m ∧ W (i + 1) m' σ' H') ∧ ∀ x H', (Itv K l xs.length).yld i H x H' → g x σ H' fun σ2 H2 => tb { D with nx := N, ct := N, bk := D.nx } σ2 H2)) :
    tFor (iRev K ta) g tb D σ H := h
theorem for_rev {l : Addr} {xs : List V} (hq : SqL K H l xs) (Pv : Nat → St → Hp → Prop) (h0 : Pv 0 σ H) (hl : ∀ i σ H, i ≤ xs.length → Pv i σ H → SqL K H l xs)
    (hs : ∀ i x σ H, xs.reverse[i]? = some x → Pv i σ H → g x σ H fun σ2 H2 => tb { D with nx := Pv (i + 1), ct := Pv (i + 1), bk := D.nx } σ2 H2) (hd : ∀ σ H, Pv xs.length σ H → D.nx σ H) :
    ∃ m ys, [V.ref l] = [.ref m] ∧ SqL K H m ys ∧ ∃ W : Nat → Nat → St → Hp → Prop, (∃ m, W 0 m σ H) ∧ ∀ i n σ H, W i n σ H →
      ((Itv K m ys.length).stop i H ∧ D.nx σ H) ∨ ((Itv K m ys.length).go i H ∧ ∃ N : St → Hp → Prop, (∀ σ' H', N σ' H' → ∃ m', m' < n ∧ W (i + 1) m' σ' H') ∧ ∀ x H', (Itv K m ys.length).yld i H x H' → g x σ H' fun σ2 H2 => tb { D with nx := N, ct := N, bk := D.nx } σ2 H2) := by
  refine ⟨l, xs, rfl, hq, fun i m σ H => m = xs.length - i ∧ i ≤ xs.length ∧ Pv i σ H, ⟨xs.length, by simp, Nat.zero_le _, h0⟩, ?_⟩
  rintro i m σ H ⟨rfl, hi, p⟩
  have q := hl i σ H hi p
  by_cases hlt : i < xs.length
  · refine .inr ⟨⟨hlt, xs, q, rfl⟩, Pv (i + 1), fun σ' H' p' => ⟨xs.length - (i + 1), by omega, rfl, hlt, p'⟩, fun x H' y => ?_⟩
    obtain ⟨e, y⟩ := y
    subst e
    exact hs i x σ _ (by rw [List.getElem?_reverse (by omega)]; exact y xs q) p
  · have e : i = xs.length := by omega
    subst e
    exact .inl ⟨rfl, hd σ H p⟩
end
end L2
set_option Elab.async false
set_option linter.all false
set_option maxRecDepth 100000
set_option maxHeartbeats 4000000
namespace L2
open PySem PySem.Spec PyProof.Rows
section
variable {X : Cx} {K : PySem.W.Frag} {σ : St} {H H1 : Hp} {Q : VK} {te : TE} {tl th : TO} {r : V → Option Int → Option Int → Hp → VK → Prop} {QO : Option Int → Hp → Prop}
theorem rd_slice (h : te σ H fun x H1 => tl σ H1 fun l H2 => th σ H2 fun u H3 => r x l u H3 Q) : tSl r te tl th σ H Q := h
theorem rd_noPart (h : QO none H) : tNoPart σ H QO := h
theorem rd_part (h : te σ H fun x H1 => ∃ i, x = .int i ∧ QO (some i) H1) : tPart te σ H QO := h
theorem rd_int {i : Int} {P : Int → Prop} (h : P i) : ∃ j, V.int i = .int j ∧ P j := ⟨i, rfl, h⟩
theorem rd_slL {a : Addr} {xs : List V} {lo hi : Option Int} (h : SqL K H a xs) (q : ∀ p, H p = none → Q (.ref p) (upd H p (.lst (cutV xs lo hi)))) : rSlL K (.ref a) lo hi H Q := ⟨a, xs, rfl, h, q⟩
theorem cut1 (x : V) (xs : List V) : cutV (x :: xs) (some 1) none = xs := by
  have e : HT.sIx (x :: xs).length 0 (some 1) = 1 := by
    rw [List.length_cons]
    exact (HT.sIx_nat (xs.length + 1) 0 1).trans (by omega)
  unfold cutV
  rw [e, HT.sIx_none]
  simp
theorem rd_slT1 {a : Addr} {x : V} {xs : List V} (h : SqT K H a (x :: xs)) (q : ∀ p, H p = none → Q (.ref p) (upd H p (.tup xs))) : rSlT K (.ref a) (some 1) none H Q := by
  refine ⟨a, x :: xs, rfl, h, fun z => ?_, fun p hp => by rw [cut1]; exact q p hp⟩
  have e : HT.sIx (x :: xs).length 0 (some 1) = 1 := by
    rw [List.length_cons]
    exact (HT.sIx_nat (xs.length + 1) 0 1).trans (by omega)
  rw [e] at z
  exact absurd z.1 (by decide)
def rTupOf (K : PySem.W.Frag) : List V → Hp → VK → Prop := fun xs H Q => ∃ p ys, xs = [.ref p] ∧ ((SqL K H p ys ∧ ∀ l, H l = none → Q (.ref l) (upd H l (.tup ys))) ∨ (SqT K H p ys ∧ Q (.ref p) H))
theorem call_tupOf : CallR X (.type "tuple") (rTupOf X.K) := call_tuple_of
theorem rd_tupL {p : Addr} {ys : List V} (h : SqL K H p ys) (q : ∀ l, H l = none → Q (.ref l) (upd H l (.tup ys))) : rTupOf K [.ref p] H Q := ⟨p, ys, rfl, .inl ⟨h, q⟩⟩
theorem rd_cat {l b : Addr} {xs zs : List V} (h : H l = some (.lst xs)) (h' : H b = some (.lst zs)) (z : xs.length + zs.length ≤ sizeLine) (q : ∀ p, H p = none → Q (.ref p) (upd H p (.lst (xs ++ zs)))) : rCat (.ref l) (.ref b) H Q :=
  ⟨l, b, xs, zs, rfl, rfl, h, h', z, q⟩
theorem rd_insert {l : Addr} {xs : List V} {i : Int} {y : V} (h : H l = some (.lst xs)) (h0 : 0 ≤ i) (h1 : i ≤ xs.length) (z : xs.length < sizeLine) (q : Q .non (upd H l (.lst (xs.take i.toNat ++ y :: xs.drop i.toNat)))) : rInsert (.ref l) [.int i, y] H Q :=
  ⟨l, xs, i, y, rfl, rfl, h, h0, h1, z, q⟩
end
section
variable {k : Nat} {caps : List Nat} {g : TG} {te : TE} {σ : St} {Q : VK} {H1 H : Hp} {K : PySem.W.Frag} {tl : TE} {ts : TT}
theorem rd_compT (h : tl σ H fun v H1 => ∃ a, v = .ref a ∧ (∃ xs, SqT K H1 a xs) ∧ ∀ D, H1 D = none →
      ∃ W : Nat → Nat → List V → Hp → Prop, (∃ m, W 0 m [] (upd H1 D (.lst []))) ∧ ∀ i m ys H2, W i m ys H2 →
        ((Itt K a).stop i H2 ∧ Q (.ref D) H2) ∨ ((Itt K a).go i H2 ∧ ∀ x H3, (Itt K a).yld i H2 x H3 → g x (compSt k caps σ) H3 fun σ4 H4 => ts σ4 H4 fun b H5 =>
          if b = true then te σ4 H5 fun y H6 => ∃ zs, H6 D = some (.lst zs) ∧ zs.length < sizeLine ∧ ∃ m', m' < m ∧ W (i + 1) m' (ys ++ [y]) (upd H6 D (.lst (zs ++ [y])))
          else ∃ m', m' < m ∧ W (i + 1) m' ys H5)) : tComp k caps (iTup K tl) g ts te σ H Q := h
theorem comp_tup {QD : Addr → Hp → Prop} {a : Addr} {xs : List V} (hq : H1 a = some (.tup xs)) (hz : xs.length ≤ 1000000) (q : ∀ D, H1 D = none → ∃ R : Nat → V → Hp → Prop, (∀ i y H H', R i y H → SameD D H H' → TupK H H' → R i y H') ∧
      (∀ (i : Nat) (x : V) (H2 : Hp) (ys : List V) (C : V → Hp → Prop), xs[i]? = some x → Same H1 H2 → H2 D = some (.lst ys) → (∀ y H6, Same H2 H6 → R i y H6 → C y H6) → g x (compSt k caps σ) H2 fun σ4 H4 => te σ4 H4 C) ∧
      ∀ (ys : List V) (H' : Hp), Same H1 H' → H' D = some (.lst ys) → ys.length = xs.length → (∀ (j : Nat) y, ys[j]? = some y → R j y H') → QD D H') :
    ∃ b, V.ref a = .ref b ∧ (∃ xs, SqT K H1 b xs) ∧ ∀ D, H1 D = none →
      ∃ W : Nat → Nat → List V → Hp → Prop, (∃ m, W 0 m [] (upd H1 D (.lst []))) ∧ ∀ i m ys H2, W i m ys H2 →
        ((Itt K b).stop i H2 ∧ QD D H2) ∨ ((Itt K b).go i H2 ∧ ∀ x H3, (Itt K b).yld i H2 x H3 → g x (compSt k caps σ) H3 fun σ4 H4 => tYes σ4 H4 fun b H5 =>
          if b = true then te σ4 H5 fun y H6 => ∃ zs, H6 D = some (.lst zs) ∧ zs.length < sizeLine ∧ ∃ m', m' < m ∧ W (i + 1) m' (ys ++ [y]) (upd H6 D (.lst (zs ++ [y])))
          else ∃ m', m' < m ∧ W (i + 1) m' ys H5) := by
  refine ⟨a, rfl, ⟨xs, SqT.of hq⟩, fun D hD => ?_⟩
  obtain ⟨R, hm, hs, hf⟩ := q D hD
  refine comp_core (n := xs.length) R hm hz hD (fun i H2 hi S2 => ⟨xs, xs[i], SqT.of (S2 _ _ hq), by simp [hi]⟩) (fun H2 S2 => ⟨xs, SqT.of (S2 _ _ hq), Nat.le_refl _⟩) (fun i H2 x H3 ys C hi S2 hd hy hC => ?_) hf
  obtain ⟨e3, hy⟩ := hy
  subst e3
  exact hs i x H3 ys C (hy xs (SqT.of (S2 _ _ hq))) S2 hd hC
end
section
variable {g : TG} {tb : TS} {D : Ends} {σ : St} {H : Hp}
theorem for_rng1 {n : Nat} (hn : n ≤ 1000000) (Pv : Nat → St → Hp → Prop) (h0 : Pv 0 σ H)
    (hs : ∀ i σ H, i < n → Pv i σ H → g (.int i) σ H fun σ2 H2 => tb { D with nx := Pv (i + 1), ct := Pv (i + 1), bk := D.nx } σ2 H2) (hd : ∀ σ H, Pv n σ H → D.nx σ H) :
    ∃ j : Int, [V.int (n : Int)] = [.int j] ∧ -(2 ^ 62) ≤ j ∧ j < 2 ^ 62 ∧ ∃ W : Nat → Nat → St → Hp → Prop, (∃ m, W 0 m σ H) ∧ ∀ k m σ H, W k m σ H →
      ((Itr 0 j.toNat).stop k H ∧ D.nx σ H) ∨ ((Itr 0 j.toNat).go k H ∧ ∃ N : St → Hp → Prop, (∀ σ' H', N σ' H' → ∃ m', m' < m ∧ W (k + 1) m' σ' H') ∧ ∀ x H', (Itr 0 j.toNat).yld k H x H' → g x σ H' fun σ2 H2 => tb { D with nx := N, ct := N, bk := D.nx } σ2 H2) := by
  refine ⟨n, rfl, by omega, by omega, ?_⟩
  rw [Int.toNat_natCast]
  exact for_range Pv h0 (fun i σ H hi p => by rw [Int.zero_add]; exact hs i σ H hi p) hd
theorem for_rng2 {lo hi : Int} {n : Nat} (hb : -1000000 ≤ lo ∧ lo ≤ 1000000) (hn : n ≤ 1000000) (he : hi = lo + n) (Pv : Nat → St → Hp → Prop) (h0 : Pv 0 σ H)
    (hs : ∀ i σ H, i < n → Pv i σ H → g (.int (lo + i)) σ H fun σ2 H2 => tb { D with nx := Pv (i + 1), ct := Pv (i + 1), bk := D.nx } σ2 H2) (hd : ∀ σ H, Pv n σ H → D.nx σ H) :
    ∃ i j : Int, [V.int lo, V.int hi] = [.int i, .int j] ∧ (-(2 ^ 62) ≤ i ∧ i < 2 ^ 62 ∧ -(2 ^ 62) ≤ j ∧ j < 2 ^ 62) ∧ ∃ W : Nat → Nat → St → Hp → Prop, (∃ m, W 0 m σ H) ∧ ∀ k m σ H, W k m σ H →
      ((Itr i (j - i).toNat).stop k H ∧ D.nx σ H) ∨ ((Itr i (j - i).toNat).go k H ∧ ∃ N : St → Hp → Prop, (∀ σ' H', N σ' H' → ∃ m', m' < m ∧ W (k + 1) m' σ' H') ∧ ∀ x H', (Itr i (j - i).toNat).yld k H x H' → g x σ H' fun σ2 H2 => tb { D with nx := N, ct := N, bk := D.nx } σ2 H2) := by
  refine ⟨lo, hi, rfl, by omega, ?_⟩
  have e : (hi - lo).toNat = n := by omega
  rw [e]
  exact for_range Pv h0 hs hd
end
theorem cutV_map (ns : List Int) (lo hi : Option Int) : ∃ ms : List Int, cutV (ns.map V.int) lo hi = ms.map V.int ∧ ms.length ≤ ns.length := by
  unfold cutV
  rw [List.length_map]
  refine ⟨(ns.drop (HT.sIx ns.length 0 lo)).take (HT.sIx ns.length ns.length hi - HT.sIx ns.length 0 lo), ?_, ?_⟩
  · rw [List.map_take, List.map_drop]
  · rw [List.length_take, List.length_drop]
    omega
section
variable {X : Cx} {tg l a b o e : Expr} {es : List Expr} {tl to : TE} {ta t : TA} {p pos apos cpos : Pos}
theorem ix_listK (K : PySem.W.Frag) (h : X.K = K := by rfl) : IxR X (rIxL K) := h ▸ ix_list
theorem ix_tupK (K : PySem.W.Frag) (h : X.K = K := by rfl) : IxR X (rIxT K) := h ▸ ix_tup
theorem op_inK (K : PySem.W.Frag) (h : X.K = K := by rfl) : OpR X (compareOp .In) (rIn K false) := h ▸ op_in_seq
theorem op_notInK (K : PySem.W.Frag) (h : X.K = K := by rfl) : OpR X (compareOp .NotIn) (rIn K true) := h ▸ op_notIn_seq
theorem op_neNK (K : PySem.W.Frag) (hu : X.A.units < cLine) (h : X.K = K := by rfl) : OpR X (compareOp .NotEq) (rNeNil K) := h ▸ op_neN hu
theorem op_eqNK (K : PySem.W.Frag) (hu : X.A.units < cLine) (h : X.K = K := by rfl) : OpR X (compareOp .Eq) (rEqNil K) := h ▸ op_eqN hu
theorem call_lenK (K : PySem.W.Frag) (h : X.K = K := by rfl) : CallR X (.builtin "len") (rLen K) := h ▸ call_lenS
theorem call_instK (K : PySem.W.Frag) (h : X.K = K := by rfl) : CallR X (.builtin "isinstance") (rInst K) := h ▸ call_inst
theorem call_instTK (K : PySem.W.Frag) (h : X.K = K := by rfl) : CallR X (.builtin "isinstance") (rInstT K) := h ▸ call_instT
theorem call_listK (K : PySem.W.Frag) (h : X.K = K := by rfl) : CallR X (.type "list") (rListOf K) := h ▸ call_listOf
theorem call_tupK (K : PySem.W.Frag) (h : X.K = K := by rfl) : CallR X (.type "tuple") (rTupOf K) := h ▸ call_tupOf
theorem sl_listK (K : PySem.W.Frag) (h : X.K = K := by rfl) : SlR X (rSlL K) := h ▸ sl_list
theorem sl_tupK (K : PySem.W.Frag) (h : X.K = K := by rfl) : SlR X (rSlT K) := h ▸ sl_tup
theorem pi_listK (K : PySem.W.Frag) (hl : PE X l tl) (h : X.K = K := by rfl) : PI X tg l (iList K tl) := h ▸ pi_list hl
theorem pi_tupK (K : PySem.W.Frag) (hl : PE X l tl) (h : X.K = K := by rfl) : PI X tg l (iTup K tl) := h ▸ pi_tup hl
theorem pi_revK (K : PySem.W.Frag) (hg : Gl X "reversed") (hm : X.mg "reversed" = none) (ha : PA X [a] ta) (h : X.K = K := by rfl) (hs : starEach [a] X.env = [(false, eval a X.env)] := by rfl) : PI X tg (.Call (.Name "reversed" p) [a] [] pos) (iRev K ta) := h ▸ pi_rev hg hm ha hs
theorem pi_zipK {elts : List Expr} {kk : Nat} {tpos : Pos} (K : PySem.W.Frag) (hg : Gl X "zip") (hm : X.mg "zip" = none) (ha : PA X [a, b] ta) (h : X.K = K := by rfl) (hs : starEach [a, b] X.env = [(false, eval a X.env), (false, eval b X.env)] := by rfl) (hs2 : starEach [b] X.env = [(false, eval b X.env)] := by rfl) :
    PI X (.Tuple elts kk tpos) (.Call (.Name "zip" p) [a, b] [] pos) (iZip K ta) := h ▸ pi_zip hg hm ha hs hs2
theorem pg_tupK {k : Nat} {u : TGs} {n : Nat} (K : PySem.W.Frag) (hc : X.calm = true) (hp : PGs X es u) (h : X.K = K := by rfl)
    (hn : (assignEach es X.env).length = n := by rfl) (hst : (assignEach es X.env).findIdx? (·.1) = none := by rfl) : PG X (.Tuple es k pos) (gTup K n u) := h ▸ pg_tup hc hp hn hst
theorem pe_bm0K {name : Str} {T id : String} {r : V → List V → Hp → VK → Prop} (K : PySem.W.Frag) (pa : PlainAttrs T) (slot : Slot T name id) (hty : typeOf (.builtin id) = pure (.type "method_descriptor")) (hm : MtR X id r) (ho : PE X o to) (h : X.K = K := by rfl)
    (hbase : attributeBase o name X.env (eval o X.env) = eval o X.env := by rfl) (hline : (apos.endLine == cpos.line) = true := by rfl) : PE X (.Call (.Attribute o name apos) [] [] cpos) (tBM0 K T r to) := h ▸ pe_bm0 pa slot hty hm ho hbase hline
theorem pe_bmK {name : Str} {T id : String} {r : V → List V → Hp → VK → Prop} (K : PySem.W.Frag) (pa : PlainAttrs T) (slot : Slot T name id) (hty : typeOf (.builtin id) = pure (.type "method_descriptor")) (hm : MtR X id r) (ho : PE X o to) (ha : PA X (e :: es) t) (h : X.K = K := by rfl)
    (hbase : attributeBase o name X.env (eval o X.env) = eval o X.env := by rfl)
    (hfew : ((backTo cpos (starEach (e :: es) X.env)).all (fun x => !x.1) && (backToKw cpos (keywordEach [] X.env)).all (fun x => x.1.isSome)
      && decide ((e :: es).length + ([] : List Keyword).length + (if ([] : List Keyword).isEmpty then 0 else 1) < 30)) = true := by rfl)
    (hline : (apos.endLine == cpos.line) = true := by rfl) (hs : starEach (e :: es) X.env = (false, eval e X.env) :: starEach es X.env := by rfl) (hplain : (backTo cpos (starEach es X.env)).any (·.1) = false := by rfl) :
    PE X (.Call (.Attribute o name apos) (e :: es) [] cpos) (tBM K T r to t) := h ▸ pe_bm pa slot hty hm ho ha hbase hfew hline hs hplain
end
structure Rm where
  lit : List Int
  doors : List Nat
abbrev bls (bs : List Bool) : List V := bs.map V.bl
abbrev nts (ds : List Nat) : List V := ds.map fun (d : Nat) => V.int (d : Int)
def RmAt (H : Hp) (v : V) (r : Rm) : Prop := ∃ a l d, v = .ref a ∧ H a = some (.tup [.ref l, .ref d]) ∧ H l = some (.lst (r.lit.map V.int)) ∧ H d = some (.lst (nts r.doors))
def WorldAt (H : Hp) (a : Addr) (W : List Rm) : Prop := ∃ rs, H a = some (.lst rs) ∧ Paired (RmAt H) rs W
def Valid (W : List Rm) : Prop := ∀ r ∈ W, ∀ d ∈ r.doors, d < W.length
theorem RmAt.mono {H H' : Hp} {v : V} {r : Rm} (h : RmAt H v r) (S : Same H H') : RmAt H' v r := by
  obtain ⟨a, l, d, e, h1, h2, h3⟩ := h
  exact ⟨a, l, d, e, S _ _ h1, S _ _ h2, S _ _ h3⟩
theorem WorldAt.mono {H H' : Hp} {a : Addr} {W : List Rm} (h : WorldAt H a W) (S : Same H H') : WorldAt H' a W := by
  obtain ⟨rs, e, p⟩ := h
  exact ⟨rs, S _ _ e, Paired.mapP p fun _ _ q => q.mono S⟩
theorem Paired.get2 {α β : Type} {F : α → β → Prop} {xs : List α} {ys : List β} (h : Paired F xs ys) {i : Nat} {y : β} (e : ys[i]? = some y) : ∃ x, xs[i]? = some x ∧ F x y := by
  induction h generalizing i with
  | nil => simp at e
  | cons a t ih =>
    cases i with
    | zero => simp at e; subst e; exact ⟨_, rfl, a⟩
    | succ i => obtain ⟨x, h1, h2⟩ := ih (i := i) (by simpa using e); exact ⟨x, by simpa using h1, h2⟩
theorem Paired.of_get {α β : Type} {F : α → β → Prop} : ∀ {xs : List α} {ys : List β}, xs.length = ys.length → (∀ (i : Nat) x y, xs[i]? = some x → ys[i]? = some y → F x y) → Paired F xs ys
  | [], [], _, _ => .nil
  | [], _ :: _, h, _ => by simp at h
  | _ :: _, [], h, _ => by simp at h
  | x :: xs, y :: ys, h, f => .cons (f 0 x y rfl rfl) (Paired.of_get (by simpa using h) fun i a b e1 e2 => f (i + 1) a b (by simpa using e1) (by simpa using e2))
theorem list_by {ys : List V} {bs : List Bool} (hl : ys.length = bs.length) (h : ∀ (j : Nat) y, ys[j]? = some y → ∃ b, bs[j]? = some b ∧ y = .bl b) : ys = bls bs := by
  apply List.ext_getElem?
  intro j
  rw [List.getElem?_map]
  cases e : ys[j]? with
  | none =>
    have : bs[j]? = none := List.getElem?_eq_none_iff.mpr (by have := List.getElem?_eq_none_iff.mp e; omega)
    rw [this]
    rfl
  | some y =>
    obtain ⟨b, hb, rfl⟩ := h j y e
    rw [hb]
    rfl
theorem flat_bls (bs : List Bool) : (bls bs).all flatV = true := by
  rw [List.all_eq_true]
  intro x m
  obtain ⟨d, _, rfl⟩ := List.mem_map.mp m
  rfl
theorem inV_bls (x : Bool) (bs : List Bool) : inV (.bl x) (bls bs) = bs.contains x := by
  rw [Bool.eq_iff_iff]
  simp only [inV, List.any_map, List.any_eq_true, List.contains_iff_mem, Function.comp_apply]
  constructor
  · rintro ⟨d, m, e⟩
    have e' : d = x := by simpa [eqV] using e
    exact e' ▸ m
  · intro m
    exact ⟨x, m, by simp [eqV]⟩
theorem flat_ints (ds : List Int) : (ds.map V.int).all flatV = true := by
  rw [List.all_eq_true]
  intro x m
  obtain ⟨d, _, rfl⟩ := List.mem_map.mp m
  rfl
theorem inV_ints (x : Int) (ds : List Int) : inV (.int x) (ds.map V.int) = ds.contains x := by
  rw [Bool.eq_iff_iff]
  simp only [inV, List.any_map, List.any_eq_true, List.contains_iff_mem, Function.comp_apply]
  constructor
  · rintro ⟨d, m, e⟩
    have e' : d = x := by simpa [eqV] using e
    exact e' ▸ m
  · intro m
    exact ⟨x, m, by simp [eqV]⟩
def led (bs : List Bool) (ds : List Nat) : List Bool := ds.map fun d => bs.getD d false
def tru (W : List Rm) : Say → List Bool
  | .lamp k => W.map fun r => r.lit.contains k
  | .dark k => W.map fun r => !r.lit.contains k
  | .neg s => (tru W s).map fun b => !b
  | .conj s t => List.zipWith (fun a b => a && b) (tru W s) (tru W t)
  | .disj s t => List.zipWith (fun a b => a || b) (tru W s) (tru W t)
  | .ev s => W.map fun r => !(led (tru W s) r.doors).contains false
  | .so s => W.map fun r => (led (tru W s) r.doors).contains true
theorem tru_len (W : List Rm) : ∀ s : Say, (tru W s).length = W.length
  | .lamp k => by simp [tru]
  | .dark k => by simp [tru]
  | .neg s => by simp [tru, tru_len W s]
  | .conj s t => by simp [tru, tru_len W s, tru_len W t]
  | .disj s t => by simp [tru, tru_len W s, tru_len W t]
  | .ev s => by simp [tru]
  | .so s => by simp [tru]
def Say.kids : Say → List Say
  | .lamp _ => []
  | .dark _ => []
  | .neg s => [s]
  | .conj s t => [s, t]
  | .disj s t => [s, t]
  | .ev s => [s]
  | .so s => [s]
def Say.po : Say → List Say
  | .lamp k => [.lamp k]
  | .dark k => [.dark k]
  | .neg s => .neg s :: s.po
  | .conj s t => .conj s t :: (t.po ++ s.po)
  | .disj s t => .disj s t :: (t.po ++ s.po)
  | .ev s => .ev s :: s.po
  | .so s => .so s :: s.po
theorem Say.po_len : ∀ s : Say, s.po.length ≤ s.sz ∧ 0 < s.po.length
  | .lamp _ => by simp [Say.po, Say.sz]
  | .dark _ => by simp [Say.po, Say.sz]
  | .neg s => by have := Say.po_len s; simp only [Say.po, Say.sz, List.length_cons]; omega
  | .conj s t => by have := Say.po_len s; have := Say.po_len t; simp only [Say.po, Say.sz, List.length_cons, List.length_append]; omega
  | .disj s t => by have := Say.po_len s; have := Say.po_len t; simp only [Say.po, Say.sz, List.length_cons, List.length_append]; omega
  | .ev s => by have := Say.po_len s; simp only [Say.po, Say.sz, List.length_cons]; omega
  | .so s => by have := Say.po_len s; simp only [Say.po, Say.sz, List.length_cons]; omega
theorem Say.po_eq (s : Say) : s.po = s :: (s.kids.reverse.flatMap Say.po) := by
  cases s <;> simp [Say.po, Say.kids]
def Say.post (s : Say) : List Say := s.po.reverse
theorem post_lamp (k : Int) : (Say.lamp k).post = [.lamp k] := rfl
theorem post_dark (k : Int) : (Say.dark k).post = [.dark k] := rfl
theorem post_neg (s : Say) : (Say.neg s).post = s.post ++ [.neg s] := by simp [Say.post, Say.po]
theorem post_ev (s : Say) : (Say.ev s).post = s.post ++ [.ev s] := by simp [Say.post, Say.po]
theorem post_so (s : Say) : (Say.so s).post = s.post ++ [.so s] := by simp [Say.post, Say.po]
theorem post_conj (s t : Say) : (Say.conj s t).post = s.post ++ (t.post ++ [.conj s t]) := by simp [Say.post, Say.po]
theorem post_disj (s t : Say) : (Say.disj s t).post = s.post ++ (t.post ++ [.disj s t]) := by simp [Say.post, Say.po]
def Fit (W : List Rm) (p : List (List Bool)) : Prop := ∀ b ∈ p, b.length = W.length
end L2
set_option Elab.async false
set_option linter.all false
set_option maxRecDepth 100000
set_option maxHeartbeats 4000000
namespace L2
open PySem
def Say.dep : Say → Nat
  | .lamp _ => 0
  | .dark _ => 0
  | .neg s => s.dep + 1
  | .conj s t => max s.dep t.dep + 1
  | .disj s t => max s.dep t.dep + 1
  | .ev s => s.dep + 1
  | .so s => s.dep + 1
theorem Say.dep_sz : ∀ s : Say, 2 * s.dep + 3 ≤ s.sz
  | .lamp _ => Nat.le_refl _
  | .dark _ => Nat.le_refl _
  | .neg s => by have := s.dep_sz; simp only [Say.dep, Say.sz]; omega
  | .conj s t => by have := s.dep_sz; have := t.dep_sz; simp only [Say.dep, Say.sz]; omega
  | .disj s t => by have := s.dep_sz; have := t.dep_sz; simp only [Say.dep, Say.sz]; omega
  | .ev s => by have := s.dep_sz; simp only [Say.dep, Say.sz]; omega
  | .so s => by have := s.dep_sz; simp only [Say.dep, Say.sz]; omega
def Say.sh (k : Int) : Say → Say
  | .lamp n => .lamp (n + k)
  | .dark n => .dark (n + k)
  | .neg s => .neg (s.sh k)
  | .conj s t => .conj (s.sh k) (t.sh k)
  | .disj s t => .disj (s.sh k) (t.sh k)
  | .ev s => .ev (s.sh k)
  | .so s => .so (s.sh k)
theorem Say.sh_sz (k : Int) : ∀ s : Say, (s.sh k).sz = s.sz
  | .lamp _ => rfl
  | .dark _ => rfl
  | .neg s => by simp only [Say.sh, Say.sz, Say.sh_sz k s]
  | .conj s t => by simp only [Say.sh, Say.sz, Say.sh_sz k s, Say.sh_sz k t]
  | .disj s t => by simp only [Say.sh, Say.sz, Say.sh_sz k s, Say.sh_sz k t]
  | .ev s => by simp only [Say.sh, Say.sz, Say.sh_sz k s]
  | .so s => by simp only [Say.sh, Say.sz, Say.sh_sz k s]
theorem kid_dep {s t : Say} (h : t ∈ s.kids) : t.dep + 1 ≤ s.dep := by
  cases s <;> simp only [Say.kids, List.mem_cons, List.not_mem_nil, or_false] at h
  · subst h; exact Nat.le_refl _
  · rcases h with rfl | rfl <;> simp only [Say.dep] <;> omega
  · rcases h with rfl | rfl <;> simp only [Say.dep] <;> omega
  · subst h; exact Nat.le_refl _
  · subst h; exact Nat.le_refl _
theorem kids_few (s : Say) : s.kids.length ≤ 2 := by cases s <;> simp [Say.kids]
end L2
set_option Elab.async false
set_option linter.all false
set_option maxRecDepth 100000
set_option maxHeartbeats 4000000
namespace L2
open PySem PySem.Spec PyProof.Rows
mutual
inductive DataAt (H : Hp) : V → PyData → Prop where
  | bl (b : Bool) : DataAt H (.bl b) (.bool b)
  | int (i : Int) : DataAt H (.int i) (.int i)
  | str (x : Str) : DataAt H (.str x) (.str x)
  | lst {a : Addr} {xs : List V} {ds : List PyData} : H a = some (.lst xs) → DatasAt H xs ds → DataAt H (.ref a) (.list ds)
  | tup {a : Addr} {xs : List V} {ds : List PyData} : H a = some (.tup xs) → DatasAt H xs ds → DataAt H (.ref a) (.tuple ds)
inductive DatasAt (H : Hp) : List V → List PyData → Prop where
  | nil : DatasAt H [] []
  | cons {x : V} {xs : List V} {d : PyData} {ds : List PyData} : DataAt H x d → DatasAt H xs ds → DatasAt H (x :: xs) (d :: ds)
end
section
variable {X : Cx} {pins : List (Addr × Obj)} {σ : St} {H : Hp} {s : Shared}
end
def Say.data : Say → PyData
  | .lamp k => .tuple [.str "lamp", .int k]
  | .dark k => .tuple [.str "dark", .int k]
  | .neg s => .tuple [.str "not", s.data]
  | .conj s t => .tuple [.str "and", s.data, t.data]
  | .disj s t => .tuple [.str "or", s.data, t.data]
  | .ev s => .tuple [.str "every", s.data]
  | .so s => .tuple [.str "some", s.data]
theorem Stm.data {H : Hp} {v : V} {s : Say} (h : Stm H v s) : DataAt H v s.data := by
  induction h with
  | lamp e => exact .tup e (.cons (.str _) (.cons (.int _) .nil))
  | dark e => exact .tup e (.cons (.str _) (.cons (.int _) .nil))
  | neg e _ i => exact .tup e (.cons (.str _) (.cons i .nil))
  | conj e _ _ i j => exact .tup e (.cons (.str _) (.cons i (.cons j .nil)))
  | disj e _ _ i j => exact .tup e (.cons (.str _) (.cons i (.cons j .nil)))
  | ev e _ i => exact .tup e (.cons (.str _) (.cons i .nil))
  | so e _ i => exact .tup e (.cons (.str _) (.cons i .nil))
end L2
set_option Elab.async false
set_option linter.all false
set_option maxRecDepth 100000
set_option maxHeartbeats 4000000
namespace L2
open PySem PySem.Spec PyProof.Rows
theorem lri_no_len : typeLookup (.type "list_reverseiterator") "__len__" = pure none := by rw [typeLookup_type, builtinLookup_eq_fast]; kernel_rfl
theorem lri_hint : typeLookup (.type "list_reverseiterator") "__length_hint__" = pure (some (.builtin "list_reverseiterator.__length_hint__")) := by rw [typeLookup_type, builtinLookup_eq_fast]; kernel_rfl
section
variable {prog : Program} {w : World} {A : Around} {E : Value → Shared → Prop} {s : Shared}
theorem hint_rev {it l : Addr} {i : Int} {Q : Bool → Shared → Prop} (hit : s.heap.IsRevIter it l i) (h : Q false s) : wpAny (model prog w) A (Builtin.List.listLengthHint (.ref it)) Q E s := by
  unfold Builtin.List.listLengthHint
  refine wpAny_bind (wpAny_specialOf hit.typeIs lri_no_len ?_)
  show wpAny _ A (specialOf (Value.ref it) (Str.ofString "__length_hint__") >>= _) _ _ _
  refine wpAny_bind (wpAny_specialOf hit.typeIs lri_hint ?_)
  generalize hid : ("list_reverseiterator.__length_hint__" : String) = id0
  wp_delta
  rw [show splitId id0 = some ("list_reverseiterator", "__length_hint__") from by subst hid; decide +kernel]
  subst hid
  refine wpAny_bind (wpAny_isInstance (T := "list_reverseiterator") (b := true) hit.typeIs (by rw [isSubtype_type]; kernel_rfl) ?_)
  refine wpAny_ite_split (fun hab => absurd hab (by decide)) (fun _ => ?_)
  refine wpAny_ite_split (fun _ => ?_) (fun hab => absurd (by decide +kernel) hab)
  refine wpAny_ite_split (fun hab => absurd hab (by decide +kernel)) (fun _ => ?_)
  exact wpAny_pure h
theorem extend_rev {R : Result → Shared → Prop} {it l : Addr} {items : Array Value} (hh : A.handled = none) (hne : l ≠ it) (hit : s.heap.IsRevIter it l ((items.size : Int) - 1)) (hl : s.heap.IsList l items) (hn : items.size ≤ sizeLine) (S : Addr) (res : Value) (c₀ : Nat) (hSl : S ≠ l) (hSi : S ≠ it)
    (hS : s.heap.get? S = some { cls := .type "list", data := .seq #[] c₀ })
    (hR : ∀ h' tk acc' c', (∀ b o, b ≠ S → b ≠ it → s.heap.get? b = some o → h'.get? b = some o) → h'.get? S = some { cls := .type "list", dict := none, data := .seq acc' c', slots := #[] } →
      ItemsOf (fun i v => items[items.size - 1 - i]? = some v) acc' items.size → R (.ok (.ret res)) { s with heap := h', toks := tk }) :
    wpAny (model prog w) A.in1 (Builtin.List.listExtendWith (.ref S) (.ref it) res)
      (fun fin s' => match fin with | .done f => R (.ok f) s' | .again c' => c'.quiet = true ∧ codeAny (model prog w) A c' R s') (fun e s' => R (.error e) s') s := by
  have W := (Walks.listRev (prog := prog) (w := w) (A := A.in1) hh it l hne items).toS
  have hSf : S ∉ [it, l] := fun hm => by simp at hm; rcases hm with e | e; exact hSi e; exact hSl e
  unfold Builtin.List.listExtendWith
  refine wpAny_bind (wpAny_typeOf hit.typeIs ?_)
  have h1 : Builtin.List.listSameRef (.ref S) (.ref it) = false := by simp [Builtin.List.listSameRef, hSi]
  have h2 : (Value.type "list_reverseiterator" == Value.type "list") = false := by decide
  have h3 : (Value.type "list_reverseiterator" == Value.type "tuple") = false := by decide
  simp only [h1, h2, h3, Bool.or_false, Bool.false_eq_true, if_false]
  refine wpAny_bind (wpAny_pyIter_revIter hit ?_)
  refine wpAny_bind (wpAny_holding (hint_rev hit ?_))
  refine wpAny_ite_split (fun hab => absurd hab (by decide +kernel)) (fun _ => ?_)
  refine wpAny_pure ⟨plainId_quiet F.plain_extend_loop _, codeAny_extend_loopS W hn S hSf res items.size 0 _ #[] c₀ rfl (Nat.zero_le _) ⟨Nat.zero_le _, by simpa using hit, hl⟩ hS (ItemsOf.nil _) fun s' acc' c' hm hS' hacc => ?_⟩
  rw [Moved.eq_with hm]
  refine hR s'.heap s'.toks acc' c' (fun b o hb hb2 e => hm.heap b o (fun hmem => ?_) e) hS' hacc
  rcases List.mem_cons.mp hmem with e' | hmem
  · exact hb e'
  · exact hb2 (List.mem_singleton.mp hmem)
theorem call_list_rev {Q : Value → Shared → Prop} {it l : Addr} {items : Array Value} (hh : A.handled = none) (hne : l ≠ it) (hit : s.heap.IsRevIter it l ((items.size : Int) - 1)) (hl : s.heap.IsList l items) (hn : items.size ≤ sizeLine)
    (hQ : ∀ h' tk acc' c', (∀ b o, b ≠ it → s.heap.get? b = some o → h'.get? b = some o) → h'.get? s.heap.objs.size = some { cls := .type "list", dict := none, data := .seq acc' c', slots := #[] } →
      ItemsOf (fun i v => items[items.size - 1 - i]? = some v) acc' items.size → Q (.ref s.heap.objs.size) { s with heap := h', toks := tk }) :
    wpAny (model prog w) A (call (.type "list") [.ref it]) Q E s := by
  have hlt : ∀ {b : Addr} {o : Obj}, s.heap.get? b = some o → b ≠ s.heap.objs.size := fun e => Nat.ne_of_lt (Heap.lt_size e)
  obtain ⟨oi, hoi, _⟩ := id hit
  obtain ⟨ol, hol, _⟩ := id hl
  refine callType_codes (Q₁ := fun obj s₁ => obj = .ref s.heap.objs.size ∧ s₁ = { s with heap := s.heap.push { cls := .type "list", data := .seq #[] } }) F.called_list (F.typeCall_list_1 _) F.entry_list_init
    (code_list_new _ ⟨rfl, rfl⟩) fun obj s₁ h₁ => ?_
  obtain ⟨rfl, rfl⟩ := h₁
  have hS : (s.heap.push { cls := .type "list", data := .seq #[] }).get? s.heap.objs.size = some { cls := .type "list", data := .seq #[] } := Heap.get?_push_size _ rfl
  refine ⟨⟨_, hS, rfl⟩, F.args_list_init_2 _ _, ?_⟩
  show wpAny _ _ (do let old ← Builtin.List.listItems (.ref s.heap.objs.size); Builtin.List.listUpdate (.ref s.heap.objs.size) (fun _ => #[]); letGo old.toList.reverse; Builtin.List.listExtendWith (.ref s.heap.objs.size) (.ref it) .none) _ _ _
  refine wpAny_bind ?_
  unfold Builtin.List.listItems
  refine wpAny_bind (wpAny_seqItems hS rfl (wpAny_pure ?_))
  show wpAny _ _ (updateSeq s.heap.objs.size (fun _ => #[]) >>= fun _ => letGo (#[] : Array Value).toList.reverse >>= fun _ => Builtin.List.listExtendWith (.ref s.heap.objs.size) (.ref it) .none) _ _ _
  refine wpAny_bind (wpAny_updateSeq hS rfl ?_)
  have hS₂ := Heap.get?_update_self (Obj.mapSeq (fun _ => (#[] : Array Value))) hS rfl
  have oth : ∀ b o, b ≠ s.heap.objs.size → s.heap.get? b = some o → ((s.heap.push { cls := .type "list", data := .seq #[] }).update s.heap.objs.size (Obj.mapSeq (fun _ => (#[] : Array Value)))).get? b = some o :=
    fun b o hb e => (Heap.get?_update_other _ _ (Ne.symm hb)).trans (Heap.get?_push_of_some _ e)
  refine wpAny_bind (wpAny_letGo ?_)
  refine extend_rev (A := A.in1) hh hne (hit.at fun o e => oth it o (hlt e) e) (hl.at fun o e => oth l o (hlt e) e) hn _ .none _ (hlt hol).symm (hlt hoi).symm hS₂ fun h' tk acc' c' hk hS' hacc => ?_
  exact ⟨rfl, hQ h' tk acc' c' (fun b o hb e => hk b o (hlt e) hb (oth b o (hlt e) e)) hS' hacc⟩
end
section
variable {X : Cx}
theorem Paired.rev0 {α β : Type} {F : α → β → Prop} {xs : List α} {ys : List β} (h : Paired F xs ys) : Paired F xs.reverse ys.reverse := by
  induction h with
  | nil => exact .nil
  | cons a _ ih => rw [List.reverse_cons, List.reverse_cons]; exact Paired.snoc ih a
def tListRev (K : PySem.W.Frag) (ta : TA) : TE := fun σ H Q => ta σ H fun vs H1 => ∃ l xs, vs = [.ref l] ∧ SqL K H1 l xs ∧ ∀ q, H1 q = none → Q (.ref q) (upd H1 q (.lst xs.reverse))
theorem vals_rev {its : List Value} {xs : List V} (rv : Vals xs its) {acc : Array Value} (h : ItemsOf (fun i v => its.toArray[its.toArray.size - 1 - i]? = some v) acc its.toArray.size) : Vals xs.reverse acc.toList := by
  have e : acc.toList = its.reverse := by
    obtain ⟨hz, hv⟩ := h
    apply List.ext_getElem?
    intro i
    cases hi : acc[i]? with
    | none =>
      have h1 : acc.size ≤ i := Array.getElem?_eq_none_iff.mp hi
      rw [List.getElem?_eq_none (by simpa using h1), List.getElem?_eq_none (by simp at hz ⊢; omega)]
    | some v =>
      have h2 := hv i v hi
      have h3 : i < acc.size := (Array.getElem?_eq_some_iff.mp hi).1
      simp at h2 hz
      rw [Array.getElem?_toList, hi, List.getElem?_reverse (by omega), h2]
  rw [e]
  exact Paired.rev0 rv
theorem pe_listRev {a : Expr} {ta : TA} {p p2 pos pos2 : Pos} (K : PySem.W.Frag) (hgL : Gl X "list") (hmL : X.mg "list" = none) (hg : Gl X "reversed") (hm : X.mg "reversed" = none) (ha : PA X [a] ta) (hK : X.K = K := by rfl) (hc : X.calm = true := by rfl)
    (hs : starEach [a] X.env = [(false, eval a X.env)] := by rfl) (hs2 : starEach [.Call (.Name "reversed" p2) [a] [] pos2] X.env = [(false, eval (.Call (.Name "reversed" p2) [a] [] pos2) X.env)] := by rfl) :
    PE X (.Call (.Name "list" p) [.Call (.Name "reversed" p2) [a] [] pos2] [] pos) (tListRev K ta) := by
  subst hK
  intro pins s σ H Q I h
  refine wpAny_Call_Name_kw (ld_blt I hgL hmL PySem.Pv.boot_list ?_ (by decide) (by decide))
  refine PyProof.Rows.callWith_type1 ?_ hs2 rfl
  rw [hs2]
  show wpAny _ _ (spliced ((false, eval (.Call (.Name "reversed" p2) [a] [] pos2) X.env) :: backTo pos [])) _ _ s
  refine Calls.spliced_cons ?_
  refine Call_ (ld_blt I hg hm boot_reversed (PyProof.Rows.callWith_type1 (thn (ha pos2 pins s σ H _ I h) fun us s1 ⟨vs, H1, I1, r1, q1⟩ => ?_) hs rfl))
  obtain ⟨l, xs, e, hq, q⟩ := q1
  subst e
  cases r1 with
  | cons r rr =>
    cases rr
    cases r
    obtain ⟨its, rv, p', hz⟩ := I1.list hq
    have hl := rv.length
    refine call_reversed_list p'.isList ?_
    refine Calls.spliced_nil ?_
    have hit : (s1.heap.push (revObj l (((its.toArray.size : Nat) : Int) - 1))).IsRevIter s1.heap.objs.size l (((its.toArray.size : Nat) : Int) - 1) := ⟨_, Heap.get?_push_size _ rfl, rfl, rfl⟩
    have hll : l ≠ s1.heap.objs.size := by
      obtain ⟨o, ho, _⟩ := p'.isList
      exact Nat.ne_of_lt (Heap.lt_size ho)
    have I2 : Inv X pins σ H1 { s1 with heap := s1.heap.push (revObj l (((its.toArray.size : Nat) : Int) - 1)) } := I1.kept (t' := s1.toks) fun b o e => Heap.get?_push_of_some _ e
    refine call_list_rev (I1.ok.hd hc) hll hit (p'.isList.at fun o e => Heap.get?_push_of_some _ e) (by rw [List.size_toArray]; omega) fun h' tk acc c hk hn hacc => ?_
    have hrv := vals_rev rv hacc
    have hlen := hrv.length
    have hsz : (s1.heap.push (revObj l (((its.toArray.size : Nat) : Int) - 1))).objs.size = s1.heap.objs.size + 1 := Heap.size_push _ _
    refine ⟨.ref (s1.heap.push (revObj l (((its.toArray.size : Nat) : Int) - 1))).objs.size, _, I1.laid (t' := tk) (fun b o e => hk b o (Nat.ne_of_lt (Heap.lt_size e)) (Heap.get?_push_of_some _ e)) (by rw [hsz]; exact Nat.le_succ _) (show ObjOk X.prog X.w _ h' _ (.lst xs.reverse) from ⟨by rw [List.length_reverse]; exact hz, acc.toList, c, hrv, by simpa using hn⟩), rfl, q _ (I1.hok.fresh (by rw [hsz]; exact Nat.le_succ _))⟩
end
def KDict (P : Program) (K : PySem.W.Frag) (w : World) (a : Addr) (kvs : List (Key × V)) : Prop :=
  (a == sysModules) = false ∧ ∃ (o : Obj) (es : Array DictEntry) (ep : Nat) (vs : List (Key × Value)), K.lookup a = some o ∧ o.ExactDict ∧ o.data = .dict es ep ∧ KeysOf (mixKind P w) es ∧ Pairs (mixKind P w) es.toList vs ∧ (vs.map (·.1)).Nodup ∧ KV kvs vs
section
variable {X : Cx} {pins : List (Addr × Obj)} {σ : St} {H : Hp} {s : Shared} {a : Addr} {kvs : List (Key × V)}
theorem Inv.kdict (I : Inv X pins σ H s) (h : KDict X.prog X.K X.w a kvs) : ∃ vs, KV kvs vs ∧ s.heap.DictOf (mixKind X.prog X.w) a vs := by
  obtain ⟨_, o, es, ep, vs, hk, ex, hd, k, p, n, r⟩ := h
  exact ⟨vs, r, o, es, ep, I.kIn a o hk, ex, hd, k, p, n⟩
def tKGet (P : Program) (K : PySem.W.Frag) (w : World) (td ty : TE) : TE := fun σ H Q => td σ H fun x H1 => ty σ H1 fun y H2 => ∃ a kvs k v, x = .ref a ∧ KDict P K w a kvs ∧ y = kV k ∧ valV kvs k = some v ∧ Q v H2
theorem pe_kget {o i : Expr} {pos : Pos} {td ty : TE} (P : Program) (K : PySem.W.Frag) (w : World) (ho : PE X o td) (hi : PE X i ty) (hs : NoSl i) (hP : X.prog = P := by rfl) (hK : X.K = K := by rfl) (hw : X.w = w := by rfl) : PE X (.Subscript o i pos) (tKGet P K w td ty) := by
  subst hP hK hw
  intro pins s σ H Q I h
  refine subD_of PySem.F.slot_dict_getitem.lookup hs (thn (ho pins s σ H _ I h) fun u s1 ⟨x, H1, I1, rx, q1⟩ => thn (hi pins s1 σ H1 _ I1 q1) fun iv s2 ⟨y, H2, I2, ry, a, kvs, k, v, ex, g, ey, ev, q2⟩ => ?_)
  subst ex ey
  obtain rfl : u = Value.ref a := rx
  obtain ⟨vs, rel, dd⟩ := I2.kdict g
  obtain ⟨w', hw, rw'⟩ := RelO.some_of (v := v) (o := valueAt vs k) (by rw [← ev]; exact rel.val k)
  exact ⟨dd.typeIs, wpAny_getItem_of (kV_is ry) dd.mapOf hw ⟨v, H2, I2.tok _, rw', q2⟩⟩
def tKIn (P : Program) (K : PySem.W.Frag) (w : World) (neg : Bool) (ty td : TE) : TE := fun σ H Q => ty σ H fun y H1 => td σ H1 fun x H2 => ∃ a kvs k, x = .ref a ∧ KDict P K w a kvs ∧ y = kV k ∧ Q (.bl (if neg then !(valV kvs k).isSome else (valV kvs k).isSome)) H2
end
theorem rd_kget {P : Program} {K : PySem.W.Frag} {w : World} {td ty : TE} {σ : St} {H : Hp} {Q : VK} (h : td σ H fun x H1 => ty σ H1 fun y H2 => ∃ a kvs k v, x = .ref a ∧ KDict P K w a kvs ∧ y = kV k ∧ valV kvs k = some v ∧ Q v H2) : tKGet P K w td ty σ H Q := h
theorem rd_kgetS {P : Program} {K : PySem.W.Frag} {w : World} {a : Addr} {kvs : List (Key × V)} {x : Str} {v : V} {R : V → Prop} (h : KDict P K w a kvs) (e : valV kvs (.inr x) = some v) (q : R v) : ∃ b kvs k v, V.ref a = .ref b ∧ KDict P K w b kvs ∧ V.str x = kV k ∧ valV kvs k = some v ∧ R v := ⟨a, kvs, .inr x, v, rfl, h, rfl, e, q⟩
theorem rd_listRev {K : PySem.W.Frag} {ta : TA} {σ : St} {H : Hp} {Q : VK} (h : ta σ H fun vs H1 => ∃ l xs, vs = [.ref l] ∧ SqL K H1 l xs ∧ ∀ q, H1 q = none → Q (.ref q) (upd H1 q (.lst xs.reverse))) : tListRev K ta σ H Q := h
theorem rd_dget {td ty : TE} {σ : St} {H : Hp} {Q : VK} (h : td σ H fun x H1 => ty σ H1 fun y H2 => ∃ a v, x = .ref a ∧ DGet H2 a y (some v) ∧ Q v H2) : tDGet td ty σ H Q := h
end L2
set_option Elab.async false
set_option linter.all false
set_option maxRecDepth 100000
set_option maxHeartbeats 4000000
namespace L2
open PySem
section
variable {ε α : Type} (ar : ε → Nat) (f : ε → List α → α)
def runG : List ε → List α → Option (List α)
  | [], p => some p
  | e :: r, p => if ar e ≤ p.length then runG r (p.take (p.length - ar e) ++ [f e (p.drop (p.length - ar e))]) else none
variable {ar f}
theorem runG0 {e : ε} {r : List ε} {p : List α} (h : ar e = 0) : runG ar f (e :: r) p = runG ar f r (p ++ [f e []]) := by
  show (if _ then _ else _) = _
  rw [if_pos (by omega), h, Nat.sub_zero, List.take_length, List.drop_length]
theorem runG1 {e : ε} {r : List ε} {p : List α} {a : α} (h : ar e = 1) : runG ar f (e :: r) (p ++ [a]) = runG ar f r (p ++ [f e [a]]) := by
  show (if _ then _ else _) = _
  have hl : (p ++ [a]).length = p.length + 1 := by simp
  rw [if_pos (by omega), h, hl, Nat.add_sub_cancel, List.take_left, List.drop_left]
theorem runG2 {e : ε} {r : List ε} {p : List α} {a b : α} (h : ar e = 2) : runG ar f (e :: r) (p ++ [a] ++ [b]) = runG ar f r (p ++ [f e [a, b]]) := by
  show (if _ then _ else _) = _
  have hl : (p ++ [a] ++ [b]).length = p.length + 2 := by simp
  rw [if_pos (by omega), h, hl, Nat.add_sub_cancel, List.append_assoc, List.take_left, List.drop_left]
  rfl
theorem runG_need {e : ε} {r : List ε} {p q : List α} (h : runG ar f (e :: r) p = some q) : ar e ≤ p.length := by
  by_cases c : ar e ≤ p.length
  · exact c
  · have : runG ar f (e :: r) p = none := if_neg c
    rw [this] at h
    cases h
theorem runG_app : ∀ (a b : List ε) (p : List α), runG ar f (a ++ b) p = (runG ar f a p).bind fun q => runG ar f b q
  | [], b, p => rfl
  | e :: r, b, p => by
    show (if _ then runG ar f (r ++ b) _ else none) = ((if _ then runG ar f r _ else none) : Option _).bind _
    split
    · exact runG_app r b _
    · rfl
end
def truF (W : List Rm) (t : Say) (as : List (List Bool)) : List Bool := match t, as with
  | .lamp k, _ => tru W (.lamp k)
  | .dark k, _ => tru W (.dark k)
  | .neg _, [a] => a.map fun b => !b
  | .conj _ _, [a, b] => List.zipWith (fun a b => a && b) a b
  | .disj _ _, [a, b] => List.zipWith (fun a b => a || b) a b
  | .ev _, [a] => W.map fun r => !(led a r.doors).contains false
  | .so _, [a] => W.map fun r => (led a r.doors).contains true
  | _, _ => []
def Say.arity (s : Say) : Nat := s.kids.length
theorem runG_tru (W : List Rm) : ∀ (s : Say) (p : List (List Bool)), runG Say.arity (truF W) s.post p = some (p ++ [tru W s])
  | .lamp k, p => by rw [post_lamp, runG0] <;> rfl
  | .dark k, p => by rw [post_dark, runG0] <;> rfl
  | .neg s, p => by rw [post_neg, runG_app, runG_tru W s p, Option.bind_some, runG1] <;> rfl
  | .ev s, p => by rw [post_ev, runG_app, runG_tru W s p, Option.bind_some, runG1] <;> rfl
  | .so s, p => by rw [post_so, runG_app, runG_tru W s p, Option.bind_some, runG1] <;> rfl
  | .conj s t, p => by rw [post_conj, runG_app, runG_tru W s p, Option.bind_some, runG_app, runG_tru W t _, Option.bind_some, runG2] <;> rfl
  | .disj s t, p => by rw [post_disj, runG_app, runG_tru W s p, Option.bind_some, runG_app, runG_tru W t _, Option.bind_some, runG2] <;> rfl
def Say.pf : Bool → Say → Say
  | false, .lamp k => .lamp k
  | true, .lamp k => .dark k
  | false, .dark k => .dark k
  | true, .dark k => .lamp k
  | b, .neg s => Say.pf (!b) s
  | false, .conj s t => .conj (Say.pf false s) (Say.pf false t)
  | true, .conj s t => .disj (Say.pf true s) (Say.pf true t)
  | false, .disj s t => .disj (Say.pf false s) (Say.pf false t)
  | true, .disj s t => .conj (Say.pf true s) (Say.pf true t)
  | false, .ev s => .ev (Say.pf false s)
  | true, .ev s => .so (Say.pf true s)
  | false, .so s => .so (Say.pf false s)
  | true, .so s => .ev (Say.pf true s)
def Say.good (nt : Bool) : Say → Prop
  | .lamp k => 1 ≤ k
  | .dark k => 1 ≤ k
  | .neg s => nt = true ∧ Say.good nt s
  | .conj s t => Say.good nt s ∧ Say.good nt t
  | .disj s t => Say.good nt s ∧ Say.good nt t
  | .ev s => Say.good nt s
  | .so s => Say.good nt s
theorem sh_good {nt : Bool} {k : Int} (hk : 0 ≤ k) : ∀ s : Say, s.good nt → (s.sh k).good nt
  | .lamp n, h => by show 1 ≤ n + k; have : 1 ≤ n := h; omega
  | .dark n, h => by show 1 ≤ n + k; have : 1 ≤ n := h; omega
  | .neg s, h => ⟨h.1, sh_good hk s h.2⟩
  | .conj s t, h => ⟨sh_good hk s h.1, sh_good hk t h.2⟩
  | .disj s t, h => ⟨sh_good hk s h.1, sh_good hk t h.2⟩
  | .ev s, h => sh_good hk s h
  | .so s, h => sh_good hk s h
def turnT : Bool → Say → Str
  | false, s => s.tag
  | true, .lamp _ => "dark"
  | true, .dark _ => "lamp"
  | true, .neg _ => "not"
  | true, .conj _ _ => "or"
  | true, .disj _ _ => "and"
  | true, .ev _ => "some"
  | true, .so _ => "every"
end L2
set_option Elab.async false
set_option linter.all false
set_option maxRecDepth 100000
set_option maxHeartbeats 4000000
namespace L2
open PySem
theorem if_eq {x : V} {A B : Prop} (h : A) : if decide (x = x) = true then A else B := by rw [if_pos (decide_eq_true rfl)]; exact h
theorem if_ne {x y : V} {A B : Prop} (n : ¬ x = y) (h : B) : if decide (x = y) = true then A else B := by rw [if_neg (by rw [decide_eq_false n]; exact Bool.false_ne_true)]; exact h
theorem if_strNe {x y : Str} {A B : Prop} (n : x ≠ y) (h : B) : if decide (V.str x = V.str y) = true then A else B := if_ne (fun e => n (V.str.inj e)) h
theorem if_dec {c A B : Prop} {_ : Decidable c} (h1 : c → A) (h2 : ¬ c → B) : if decide c = true then A else B := ite2 (fun z => h1 (of_decide_eq_true z)) fun z => h2 (of_decide_eq_false (Bool.eq_false_iff.mpr z))
theorem if_nne {x : V} {A B : Prop} (h : B) : if (!decide (x = x)) = true then A else B := by rw [decide_eq_true rfl]; exact iteF h
theorem none_upd {H : Hp} {p r : Addr} {o : HO} (h : upd H p o r = none) : H r = none ∧ r ≠ p := by
  have n : r ≠ p := fun e => by rw [e, upd_same] at h; cases h
  rw [upd_ne n] at h
  exact ⟨h, n⟩
def cell (ns : List Int) (k : Nat) : Int := ns.getD k 0
def spAt (K : PySem.W.Frag) : Sp := fun vs H Q _ => ∃ (a : Addr) (ns : List Int) (k : Nat), vs = [.ref a, .int k] ∧ SqL K H a (ns.map V.int) ∧ Q (.int (cell ns k)) H
def spWhole : Sp := fun vs H Q _ => ∃ i : Int, vs = [.int i] ∧ Q (.bl true) H
def spSame : Sp := fun vs H Q _ => ∃ (x y : V) (n : Nat), vs = [x, y] ∧ Als H n [x] [y] ∧ n ≤ 400000 ∧ ∀ H', Same H H' → Q (.bl true) H'
theorem atI_cell {ns : List Int} {k : Nat} (h : k < ns.length) : atI (ns.map V.int) (k : Int) = some (.int (cell ns k)) :=
  atI_nat (by rw [List.getElem?_map, List.getElem?_eq_getElem h]; simp [cell, List.getD, h])
def Say.leaf : Say → Bool
  | .lamp _ => true
  | .dark _ => true
  | _ => false
def Say.join : Say → Bool
  | .conj _ _ => true
  | .disj _ _ => true
  | _ => false
theorem leafB (s : Say) : inV (.str s.tag) [.str "lamp", .str "dark"] = Say.leaf s := by cases s <;> (dsimp only [Say.tag, Say.leaf, Say.join]; decide +kernel)
theorem joinB (s : Say) : inV (.str s.tag) [.str "and", .str "or"] = Say.join s := by cases s <;> (dsimp only [Say.tag, Say.leaf, Say.join]; decide +kernel)
theorem atI_zero (x : V) (xs : List V) : atI (x :: xs) 0 = some x := atI_nat (j := 0) rfl
theorem Stm.parts {H : Hp} {v : V} {s : Say} (h : Stm H v s) : ∃ a xs, v = .ref a ∧ H a = some (.tup (.str s.tag :: xs)) ∧ (Say.leaf s = false → Stms H xs s.kids) := by
  cases h with
  | lamp e => exact ⟨_, _, rfl, e, fun z => by cases z⟩
  | dark e => exact ⟨_, _, rfl, e, fun z => by cases z⟩
  | neg e h => exact ⟨_, _, rfl, e, fun _ => .cons h .nil⟩
  | conj e h h' => exact ⟨_, _, rfl, e, fun _ => .cons h (.cons h' .nil)⟩
  | disj e h h' => exact ⟨_, _, rfl, e, fun _ => .cons h (.cons h' .nil)⟩
  | ev e h => exact ⟨_, _, rfl, e, fun _ => .cons h .nil⟩
  | so e h => exact ⟨_, _, rfl, e, fun _ => .cons h .nil⟩
theorem leaf_kids {s : Say} (h : Say.leaf s = true) : s.kids = [] := by cases s <;> first | rfl | cases h
def spWithin : Sp := fun vs H Q _ => ∃ (v : V) (s : Say), vs = [v] ∧ Stm H v s ∧ ∀ (l : Addr) (ks : List V) (H' : Hp), Same H H' → H l = none → H' l = some (.lst ks) → Stms H' ks s.kids → Q (.ref l) H'
theorem snoc_inv {α β : Type} {F : α → β → Prop} {xs : List α} {x : α} {ys : List β} (h : Paired F (xs ++ [x]) ys) : ∃ ys0 y, ys = ys0 ++ [y] ∧ Paired F xs ys0 ∧ F x y := by
  induction xs generalizing ys with
  | nil =>
    cases h with
    | cons a t => cases t; exact ⟨[], _, rfl, .nil, a⟩
  | cons z r ih =>
    cases h with
    | cons a t =>
      obtain ⟨ys0, y, rfl, p, q⟩ := ih t
      exact ⟨_ :: ys0, y, rfl, .cons a p, q⟩
theorem snoc_cases {α : Type} (xs : List α) : xs = [] ∨ ∃ ys y, xs = ys ++ [y] := by
  rcases List.eq_nil_or_concat xs with h | ⟨ys, y, h⟩
  · exact .inl h
  · exact .inr ⟨ys, y, by rw [h, List.concat_eq_append]⟩
def pl (ss : List Say) : Nat := (ss.map fun s => s.po.length).sum
theorem pl_app (a b : List Say) : pl (a ++ b) = pl a + pl b := by simp [pl]
theorem pl_kids (s : Say) : s.po.length = 1 + pl s.kids := by cases s <;> simp [Say.po, Say.kids, pl] <;> omega
theorem pl_flat (ss : List Say) : (ss.reverse.flatMap Say.po).length = pl ss := by
  induction ss with
  | nil => rfl
  | cons a r ih => simp only [List.reverse_cons, List.flatMap_append, List.length_append, ih, pl, List.map_cons, List.sum_cons, List.flatMap_cons, List.flatMap_nil, List.append_nil]; omega
theorem pl_len (ss : List Say) : ss.length ≤ pl ss := by
  induction ss with
  | nil => exact Nat.le_refl _
  | cons a r ih => have := (Say.po_len a).2; simp only [List.length_cons, pl, List.map_cons, List.sum_cons] at ih ⊢; omega
def spOut : Sp := fun vs H Q _ => ∃ (v : V) (s : Say), vs = [v] ∧ Stm H v s ∧ s.sz ≤ 100000 ∧ ∀ (l : Addr) (ps : List V) (H' : Hp), Same H H' → H l = none → H' l = some (.lst ps) → Stms H' ps s.po → Q (.ref l) H'
def spLeaf : Sp := fun vs H Q _ => ∃ (a : Addr) (v : V) (W : List Rm) (s : Say), vs = [.ref a, v] ∧ WorldAt H a W ∧ W.length ≤ 1000 ∧ Stm H v s ∧ Say.leaf s = true ∧ ∀ (l : Addr) (H' : Hp), Same H H' → H l = none → H' l = some (.lst (bls (tru W s))) → Q (.ref l) H'
def two (k : Str) (a b : List Bool) : List Bool := if k = "and" then List.zipWith (fun a b => a && b) a b else List.zipWith (fun a b => a || b) a b
def spTwo : Sp := fun vs H Q _ => ∃ (k : Str) (a b : Addr) (x y : List Bool), vs = [.str k, .ref a, .ref b] ∧ H a = some (.lst (bls x)) ∧ H b = some (.lst (bls y)) ∧ x.length = y.length ∧ x.length ≤ 1000 ∧ ∀ (l : Addr) (H' : Hp), Same H H' → H l = none → H' l = some (.lst (bls (two k x y))) → Q (.ref l) H'
theorem zip_get {f : Bool → Bool → Bool} {x y : List Bool} {i : Nat} {a b : V} (h1 : (bls x)[i]? = some a) (h2 : (bls y)[i]? = some b) : ∃ c d, a = .bl c ∧ b = .bl d ∧ (List.zipWith f x y)[i]? = some (f c d) := by
  rw [List.getElem?_map] at h1 h2
  obtain ⟨c, hc, rfl⟩ := Option.map_eq_some_iff.mp h1
  obtain ⟨d, hd, rfl⟩ := Option.map_eq_some_iff.mp h2
  exact ⟨c, d, rfl, rfl, by simp [List.getElem?_zipWith, hc, hd]⟩
def spLed : Sp := fun vs H Q _ => ∃ (a b : Addr) (ds : List Nat) (x : List Bool), vs = [.ref a, .ref b] ∧ H a = some (.lst (nts ds)) ∧ H b = some (.lst (bls x)) ∧ (∀ d ∈ ds, d < x.length) ∧ ds.length ≤ 1000 ∧ ∀ (l : Addr) (H' : Hp), Same H H' → H l = none → H' l = some (.lst (bls (led x ds))) → Q (.ref l) H'
theorem bls_at {x : List Bool} {d : Nat} (h : d < x.length) : atI (bls x) (d : Int) = some (.bl (x.getD d false)) := atI_nat (by rw [List.getElem?_map, List.getElem?_eq_getElem h]; simp [List.getD, h])
theorem nts_get {ds : List Nat} {i : Nat} {v : V} (h : (nts ds)[i]? = some v) : ∃ d, ds[i]? = some d ∧ v = .int (d : Int) := by
  rw [List.getElem?_map] at h
  obtain ⟨d, hd, rfl⟩ := Option.map_eq_some_iff.mp h
  exact ⟨d, hd, rfl⟩
theorem led_len (x : List Bool) (ds : List Nat) : (led x ds).length = ds.length := by simp [led]
def byDoors (W : List Rm) (k : Str) (x : List Bool) : List Bool := if k = "every" then W.map fun r => !(led x r.doors).contains false else W.map fun r => (led x r.doors).contains true
def spDoor : Sp := fun vs H Q _ => ∃ (a : Addr) (k : Str) (b : Addr) (W : List Rm) (x : List Bool), vs = [.ref a, .str k, .ref b] ∧ WorldAt H a W ∧ Valid W ∧ W.length ≤ 1000 ∧ (∀ r ∈ W, r.doors.length ≤ 1000) ∧ H b = some (.lst (bls x)) ∧ x.length = W.length ∧
  ∀ (l : Addr) (H' : Hp), Same H H' → H l = none → H' l = some (.lst (bls (byDoors W k x))) → Q (.ref l) H'
theorem byDoors_len (W : List Rm) (k : Str) (x : List Bool) : (byDoors W k x).length = W.length := by unfold byDoors; split <;> simp
theorem snoc_inv2 {α β : Type} {F : α → β → Prop} {xs : List α} {y : β} {ys : List β} (h : Paired F xs (ys ++ [y])) : ∃ xs0 x, xs = xs0 ++ [x] ∧ Paired F xs0 ys ∧ F x y := by
  induction ys generalizing xs with
  | nil =>
    cases h with
    | cons a t => cases t; exact ⟨[], _, rfl, .nil, a⟩
  | cons z r ih =>
    cases h with
    | cons a t =>
      obtain ⟨xs0, x, rfl, p, q⟩ := ih t
      exact ⟨_ :: xs0, x, rfl, .cons a p, q⟩
theorem Paired.rev {α β : Type} {F : α → β → Prop} {xs : List α} {ys : List β} (h : Paired F xs ys) : Paired F xs.reverse ys.reverse := by
  induction h with
  | nil => exact .nil
  | cons a _ ih => rw [List.reverse_cons, List.reverse_cons]; exact Paired.snoc ih a
def TrAt (fo : Addr) (H : Hp) (v : V) (b : List Bool) : Prop := ∃ c, v = .ref c ∧ c ≠ fo ∧ H c = some (.lst (bls b))
theorem TrAt.mono {fo : Addr} {H H' : Hp} {v : V} {b : List Bool} (h : TrAt fo H v b) (S : SameD fo H H') : TrAt fo H' v b := by
  obtain ⟨c, e, n, h⟩ := h
  exact ⟨c, e, n, S c _ n h⟩
theorem sameD_upd {H : Hp} {D : Addr} {o : HO} : SameD D H (upd H D o) := fun b u n e => by rw [upd_ne n]; exact e
theorem SameD.trans {D : Addr} {H H1 H2 : Hp} (a : SameD D H H1) (b : SameD D H1 H2) : SameD D H H2 := fun c o n e => b c o n (a c o n e)
theorem trs_mono {fo : Addr} {H H' : Hp} {vs : List V} {bs : List (List Bool)} (h : Paired (TrAt fo H) vs bs) (S : SameD fo H H') : Paired (TrAt fo H') vs bs := Paired.mapP h fun _ _ q => q.mono S
theorem fit_snoc {W : List Rm} {p : List (List Bool)} {b : List Bool} (h : Fit W p) (e : b.length = W.length) : Fit W (p ++ [b]) := fun x m => by
  rcases List.mem_append.mp m with m | m
  · exact h x m
  · rw [List.mem_singleton.mp m]; exact e
theorem two_len {k : Str} {x y : List Bool} (h : x.length = y.length) : (two k x y).length = x.length := by unfold two; split <;> simp [h]
def spTruths : Sp := fun vs H Q _ => ∃ (a : Addr) (v : V) (W : List Rm) (s : Say), vs = [.ref a, v] ∧ WorldAt H a W ∧ Valid W ∧ W.length ≤ 1000 ∧ (∀ r ∈ W, r.doors.length ≤ 1000) ∧ Stm H v s ∧ s.sz ≤ 100000 ∧
  ∀ (l : Addr) (H' : Hp), Same H H' → H' l = some (.lst (bls (tru W s))) → Q (.ref l) H'
def spDraw : Sp := fun vs H Q _ => ∃ (n p m : Int), vs = [.int n, .int p, .int m] ∧ 0 < p ∧ 0 < m ∧ Q (.int (n * 48271 % p % m)) H
theorem b01 (b : Bool) : (if b = true then (1 : Int) else 0) = 0 ∨ (if b = true then (1 : Int) else 0) = 1 := by cases b <;> simp
def spCount : Sp := fun vs H Q _ => ∃ n : Int, vs = [.int n] ∧ ∀ (c : Nat) (H' : Hp), 1 ≤ c → c ≤ 40 → Same H H' → Q (.int c) H'
def spFar : Sp := fun vs H Q _ => ∃ n : Int, vs = [.int n] ∧ ∀ (c : Int) (H' : Hp), 0 ≤ c → Same H H' → Q (.int c) H'
def spLed2 : Sp := fun vs H Q _ => ∃ (a b : Addr) (ds : List Nat) (x : List Bool), vs = [.ref b, .ref a] ∧ H a = some (.lst (nts ds)) ∧ H b = some (.lst (bls x)) ∧ (∀ d ∈ ds, d < x.length) ∧ ds.length ≤ 1000 ∧ ∀ (l : Addr) (H' : Hp), Same H H' → H l = none → H' l = some (.lst (bls (led x ds))) → Q (.ref l) H'
def truthBy (W : List Rm) (k : Str) (x : List Bool) : List Bool := if k = "every" then W.map fun r => !(led x r.doors).contains false else if k = "some" then W.map fun r => (led x r.doors).contains true else x.map fun b => !b
def spTruthBy : Sp := fun vs H Q _ => ∃ (k : Str) (b a : Addr) (W : List Rm) (x : List Bool), vs = [.str k, .ref b, .ref a] ∧ WorldAt H a W ∧ Valid W ∧ W.length ≤ 1000 ∧ (∀ r ∈ W, r.doors.length ≤ 1000) ∧ H b = some (.lst (bls x)) ∧ x.length = W.length ∧
  ∀ (l : Addr) (H' : Hp), Same H H' → H l = none → H' l = some (.lst (bls (truthBy W k x))) → Q (.ref l) H'
theorem truthBy_len {W : List Rm} {k : Str} {x : List Bool} (h : x.length = W.length) : (truthBy W k x).length = W.length := by unfold truthBy; split <;> (try split) <;> simp [h]
def lampT (W : List Rm) (k : Str) (n : Int) : List Bool := W.map fun r => decide (r.lit.contains n = decide (k = "lamp"))
theorem lampT_lamp (W : List Rm) (n : Int) : lampT W "lamp" n = tru W (.lamp n) := by
  unfold lampT tru
  apply List.map_congr_left
  intro r _
  cases r.lit.contains n <;> simp
theorem lampT_dark (W : List Rm) (n : Int) : lampT W "dark" n = tru W (.dark n) := by
  unfold lampT tru
  apply List.map_congr_left
  intro r _
  have h : ¬ ("dark" : Str) = "lamp" := by decide +kernel
  cases r.lit.contains n <;> simp [h]
def spLampT : Sp := fun vs H Q _ => ∃ (k : Str) (n : Int) (a : Addr) (W : List Rm), vs = [.str k, .int n, .ref a] ∧ WorldAt H a W ∧ W.length ≤ 1000 ∧ ∀ (l : Addr) (H' : Hp), Same H H' → H l = none → H' l = some (.lst (bls (lampT W k n))) → Q (.ref l) H'
def Pr (W : List Rm) (p : Addr) (H : Hp) (v : V) (s : Say) : Prop := ∃ t u c, v = .ref t ∧ t ≠ p ∧ H t = some (.tup [u, .ref c]) ∧ Stm H u s ∧ c ≠ p ∧ H c = some (.lst (bls (tru W s)))
theorem Pr.mono {W : List Rm} {p : Addr} {H H' : Hp} {v : V} {s : Say} (h : Pr W p H v s) (S : SameD p H H') (T : TupK H H') : Pr W p H' v s := by
  obtain ⟨t, u, c, e, n, h1, st, nc, h2⟩ := h
  exact ⟨t, u, c, e, n, T _ _ h1, st.mono T, nc, S _ _ nc h2⟩
theorem prs_mono {W : List Rm} {p : Addr} {H H' : Hp} {vs : List V} {ss : List Say} (h : Paired (Pr W p H) vs ss) (S : SameD p H H') (T : TupK H H') : Paired (Pr W p H') vs ss := Paired.mapP h fun _ _ q => q.mono S T
def joinS (k : Str) (s t : Say) : Say := if k = "and" then .conj s t else .disj s t
theorem two_tru (W : List Rm) (k : Str) (s t : Say) : two k (tru W s) (tru W t) = tru W (joinS k s t) := by
  unfold two joinS
  split <;> simp [tru]
theorem joinS_sz (k : Str) (s t : Say) : (joinS k s t).sz = s.sz + t.sz + 2 := by unfold joinS; split <;> simp [Say.sz]
theorem joinS_good {nt : Bool} {k : Str} {s t : Say} (h1 : Say.good nt s) (h2 : Say.good nt t) : Say.good nt (joinS k s t) := by unfold joinS; split <;> exact ⟨h1, h2⟩
theorem joinS_stm {H : Hp} {a : Addr} {k : Str} {u v : V} {s t : Say} (hk : k = "and" ∨ k = "or") (e : H a = some (.tup [.str k, u, v])) (h1 : Stm H u s) (h2 : Stm H v t) : Stm H (.ref a) (joinS k s t) := by
  rcases hk with rfl | rfl
  · rw [joinS, if_pos rfl]; exact .conj e h1 h2
  · rw [joinS, if_neg (by decide +kernel)]; exact .disj e h1 h2
def spJoin : Sp := fun vs H Q _ => ∃ (p : Addr) (k : Str) (W : List Rm) (xs : List V) (v1 v2 : V) (s1 s2 : Say), vs = [.ref p, .str k] ∧ (k = "and" ∨ k = "or") ∧ W.length ≤ 1000 ∧ H p = some (.lst (xs ++ [v1] ++ [v2])) ∧ Pr W p H v1 s1 ∧ Pr W p H v2 s2 ∧ xs.length ≤ 1000 ∧
  ∀ (v : V) (H' : Hp), SameD p H H' → TupK H H' → H' p = some (.lst (xs ++ [v])) → Pr W p H' v (joinS k s1 s2) → Q .non H'
theorem in2 (k : Str) (a b : Str) : inV (.str k) [.str a, .str b] = true ↔ (k = a ∨ k = b) := by
  have h : inV (.str k) [.str a, .str b] = ((a == k) || (b == k)) := by simp [inV, eqV]
  rw [h, Bool.or_eq_true, beq_iff_eq, beq_iff_eq]
  exact ⟨fun z => z.elim (fun e => .inl e.symm) fun e => .inr e.symm, fun z => z.elim (fun e => .inl e.symm) fun e => .inr e.symm⟩
theorem in3 (k : Str) (a b c : Str) : inV (.str k) [.str a, .str b, .str c] = true ↔ (k = a ∨ k = b ∨ k = c) := by
  have h : inV (.str k) [.str a, .str b, .str c] = ((a == k) || ((b == k) || (c == k))) := by simp [inV, eqV]
  rw [h, Bool.or_eq_true, Bool.or_eq_true, beq_iff_eq, beq_iff_eq, beq_iff_eq]
  exact ⟨fun z => z.elim (fun e => .inl e.symm) fun z => z.elim (fun e => .inr (.inl e.symm)) fun e => .inr (.inr e.symm), fun z => z.elim (fun e => .inl e.symm) fun z => z.elim (fun e => .inr (.inl e.symm)) fun e => .inr (.inr e.symm)⟩
theorem if_andB {c : Bool} {P A B : Prop} (hB : B) (h1 : B → c = true → P) : if c = true then P else (if false = true then A else B) := by
  cases c with
  | true => exact iteT (h1 hB rfl)
  | false => exact iteF (iteF hB)
theorem if_andH {c : Bool} {P : Prop} {A B : Hp → Prop} {H : Hp} (hB : ∀ H', Same H H' → B H') (h1 : (∀ H', Same H H' → B H') → c = true → P) : if c = true then P else (if false = true then A H else B H) := by
  cases c with
  | true => exact iteT (h1 hB rfl)
  | false => exact iteF (iteF (hB H (Same.refl _)))
def oneS (k : Str) (s : Say) : Say := if k = "every" then .ev s else if k = "some" then .so s else .neg s
theorem one_tru (W : List Rm) (k : Str) (s : Say) : truthBy W k (tru W s) = tru W (oneS k s) := by
  unfold truthBy oneS
  split <;> (try split) <;> simp [tru]
theorem oneS_sz (k : Str) (s : Say) : (oneS k s).sz = s.sz + 2 := by unfold oneS; split <;> (try split) <;> simp [Say.sz]
theorem oneS_good {nt : Bool} {k : Str} {s : Say} (hk : k = "every" ∨ k = "some" ∨ (k = "not" ∧ nt = true)) (h : Say.good nt s) : Say.good nt (oneS k s) := by
  have a1 : ¬ ("some" : Str) = "every" := by decide +kernel
  have a2 : ¬ ("not" : Str) = "every" := by decide +kernel
  have a3 : ¬ ("not" : Str) = "some" := by decide +kernel
  rcases hk with rfl | rfl | ⟨rfl, e⟩
  · rw [oneS, if_pos rfl]; exact h
  · rw [oneS, if_neg a1, if_pos rfl]; exact h
  · rw [oneS, if_neg a2, if_neg a3]; exact ⟨e, h⟩
theorem oneS_stm {H : Hp} {a : Addr} {k : Str} {u : V} {s : Say} (hk : k = "every" ∨ k = "some" ∨ k = "not") (e : H a = some (.tup [.str k, u])) (h : Stm H u s) : Stm H (.ref a) (oneS k s) := by
  have a1 : ¬ ("some" : Str) = "every" := by decide +kernel
  have a2 : ¬ ("not" : Str) = "every" := by decide +kernel
  have a3 : ¬ ("not" : Str) = "some" := by decide +kernel
  rcases hk with rfl | rfl | rfl
  · rw [oneS, if_pos rfl]; exact .ev e h
  · rw [oneS, if_neg a1, if_pos rfl]; exact .so e h
  · rw [oneS, if_neg a2, if_neg a3]; exact .neg e h
theorem lamp3 (i : Int) : ∃ n : Int, atI [V.int 1, .int 2, .int 1000000007] (i % 3) = some (.int n) ∧ 1 ≤ n := by
  have h0 : 0 ≤ i % 3 := Int.emod_nonneg _ (by decide)
  have h1 : i % 3 < 3 := Int.emod_lt_of_pos _ (by decide)
  have h : i % 3 = 0 ∨ i % 3 = 1 ∨ i % 3 = 2 := by omega
  rcases h with e | e | e <;> rw [e]
  · exact ⟨1, rfl, by decide⟩
  · exact ⟨2, rfl, by decide⟩
  · exact ⟨1000000007, rfl, by decide⟩
theorem kind_at (ks : List Str) (i : Int) (h : 0 < ks.length) : ∃ k, atI (ks.map V.str) (i % (ks.length : Int)) = some (.str k) ∧ k ∈ ks := by
  have h0 : 0 ≤ i % (ks.length : Int) := Int.emod_nonneg _ (by omega)
  have h1 : i % (ks.length : Int) < (ks.length : Int) := Int.emod_lt_of_pos _ (by omega)
  obtain ⟨j, hj⟩ : ∃ j : Nat, i % (ks.length : Int) = (j : Int) := ⟨(i % (ks.length : Int)).toNat, by omega⟩
  have hlt : j < ks.length := by omega
  rw [hj]
  exact ⟨ks[j], atI_nat (by rw [List.getElem?_map, List.getElem?_eq_getElem hlt]; rfl), List.getElem_mem hlt⟩
theorem szs_app (a b : List Say) : szs (a ++ b) = szs a + szs b := by simp [szs]
def dps (ss : List Say) : Nat := (ss.map fun s => s.dep + 1).sum
theorem dps_app (a b : List Say) : dps (a ++ b) = dps a + dps b := by simp [dps]
theorem dps_one (s : Say) : dps [s] = s.dep + 1 := by simp [dps]
theorem joinS_dep (k : Str) (s t : Say) : (joinS k s t).dep + 1 ≤ s.dep + 1 + (t.dep + 1) := by unfold joinS; split <;> (simp only [Say.dep]; omega)
theorem oneS_dep (k : Str) (s : Say) : (oneS k s).dep = s.dep + 1 := by unfold oneS; split <;> (try split) <;> rfl
def spGrownD (nt : Bool) : Sp := fun vs H Q _ => ∃ (c a kd : Addr) (ns : List Int) (W : List Rm) (ks : List Str), vs = [.ref c, .ref a, .ref kd] ∧ H c = some (.lst (ns.map V.int)) ∧ ns.length ≤ 90 ∧ WorldAt H a W ∧ Valid W ∧ W.length ≤ 1000 ∧ (∀ r ∈ W, r.doors.length ≤ 1000) ∧
  H kd = some (.lst (ks.map V.str)) ∧ 0 < ks.length ∧ ks.length ≤ 1000 ∧ (nt = false → ¬ ("not" : Str) ∈ ks) ∧
  ∀ (t c' : Addr) (u : V) (s : Say) (H' : Hp), Same H H' → H' t = some (.tup [u, .ref c']) → Stm H' u s → H' c' = some (.lst (bls (tru W s))) → s.sz ≤ 7 * ns.length + 3 → s.dep ≤ ns.length → Say.good nt s → Q (.ref t) H'
def spKinds (ks : List Str) : Sp := fun vs H Q _ => vs = [] ∧ ∀ (l : Addr) (H' : Hp), Same H H' → H' l = some (.lst (ks.map V.str)) → Q (.ref l) H'
def Small (n : Nat) (W : List Rm) : Prop := ∀ r ∈ W, (∀ d ∈ r.doors, d < n) ∧ r.doors.length ≤ n ∧ r.lit.length ≤ 3
def RmD (D : Addr) (H : Hp) (v : V) (r : Rm) : Prop := ∃ a l d, v = .ref a ∧ l ≠ D ∧ d ≠ D ∧ H a = some (.tup [.ref l, .ref d]) ∧ H l = some (.lst (r.lit.map V.int)) ∧ H d = some (.lst (nts r.doors))
theorem RmD.mono {D : Addr} {H H' : Hp} {v : V} {r : Rm} (h : RmD D H v r) (S : SameD D H H') (T : TupK H H') : RmD D H' v r := by
  obtain ⟨a, l, d, e, n1, n2, h1, h2, h3⟩ := h
  exact ⟨a, l, d, e, n1, n2, T _ _ h1, S _ _ n1 h2, S _ _ n2 h3⟩
theorem RmD.rm {D : Addr} {H : Hp} {v : V} {r : Rm} (h : RmD D H v r) : RmAt H v r := by
  obtain ⟨a, l, d, e, n1, n2, h1, h2, h3⟩ := h
  exact ⟨a, l, d, e, h1, h2, h3⟩
theorem rms_mono {D : Addr} {H H' : Hp} {vs : List V} {W : List Rm} (h : Paired (RmD D H) vs W) (S : SameD D H H') (T : TupK H H') : Paired (RmD D H') vs W := Paired.mapP h fun _ _ q => q.mono S T
def spWorldOf : Sp := fun vs H Q _ => ∃ (n : Nat) (x y : Int), vs = [.int n, .int x, .int y] ∧ n ≤ 1000 ∧ ∀ (a : Addr) (W : List Rm) (H' : Hp), Same H H' → H a = none → WorldAt H' a W → W.length = n → Small n W → Q (.ref a) H'
theorem lamp3' {j : Nat} (h : j < 3) : ∃ n : Int, atI [V.int 1, .int 2, .int 1000000007] (1 + (j : Int) - 1) = some (.int n) ∧ 1 ≤ n := by
  have h : j = 0 ∨ j = 1 ∨ j = 2 := by omega
  rcases h with rfl | rfl | rfl
  · exact ⟨1, rfl, by decide⟩
  · exact ⟨2, rfl, by decide⟩
  · exact ⟨1000000007, rfl, by decide⟩
theorem mod_in (x : Int) (n : Nat) : 0 ≤ x % ((n : Int) + 1) ∧ x % ((n : Int) + 1) ≤ n := by
  have h0 : 0 ≤ x % ((n : Int) + 1) := Int.emod_nonneg _ (by omega)
  have h1 : x % ((n : Int) + 1) < (n : Int) + 1 := Int.emod_lt_of_pos _ (by omega)
  omega
theorem ins_map {α : Type} (f : α → V) (xs : List α) (i : Nat) (y : α) : (xs.map f).take i ++ f y :: (xs.map f).drop i = (xs.take i ++ y :: xs.drop i).map f := by
  rw [List.map_append, List.map_cons, List.map_take, List.map_drop]
theorem ins_len {α : Type} (xs : List α) (i : Nat) (y : α) : (xs.take i ++ y :: xs.drop i).length = xs.length + 1 := by
  rw [List.length_append, List.length_cons, List.length_take, List.length_drop]
  omega
theorem ins_mem {α : Type} {xs : List α} {i : Nat} {y z : α} (h : z ∈ xs.take i ++ y :: xs.drop i) : z = y ∨ z ∈ xs := by
  rcases List.mem_append.mp h with h | h
  · exact .inr (List.mem_of_mem_take h)
  · rcases List.mem_cons.mp h with h | h
    · exact .inl h
    · exact .inr (List.mem_of_mem_drop h)
theorem world_by {D : Addr} {H : Hp} {ys : List V} {W : List Rm} (hd : H D = some (.lst ys)) (hl : ys.length = W.length) (h : ∀ (j : Nat) y, ys[j]? = some y → ∃ r, W[j]? = some r ∧ RmD D H y r) : WorldAt H D W := by
  refine ⟨ys, hd, Paired.of_get hl fun i v r e1 e2 => ?_⟩
  obtain ⟨r', e3, z⟩ := h i v e1
  rw [e2] at e3
  cases e3
  exact z.rm
def spCopy : Sp := fun vs H Q _ => ∃ (a : Addr) (W : List Rm), vs = [.ref a] ∧ WorldAt H a W ∧ W.length ≤ 1000 ∧ ∀ (b : Addr) (H' : Hp), Same H H' → H b = none → WorldAt H' b W → Q (.ref b) H'
def shR (k : Int) (r : Rm) : Rm := ⟨r.lit.map (· + k), r.doors⟩
def shW (k : Int) (W : List Rm) : List Rm := W.map (shR k)
theorem shW_small {n : Nat} {k : Int} {W : List Rm} (h : Small n W) : Small n (shW k W) := fun r m => by
  obtain ⟨r0, m0, rfl⟩ := List.mem_map.mp m
  obtain ⟨h1, h2, h3⟩ := h r0 m0
  exact ⟨h1, h2, by simp [shR]; exact h3⟩
theorem shW_len (k : Int) (W : List Rm) : (shW k W).length = W.length := List.length_map _
def spMovedW : Sp := fun vs H Q _ => ∃ (a : Addr) (k : Int) (W : List Rm), vs = [.ref a, .int k] ∧ WorldAt H a W ∧ W.length ≤ 1000 ∧ (∀ r ∈ W, r.lit.length ≤ 1000) ∧ ∀ (b : Addr) (H' : Hp), Same H H' → H b = none → WorldAt H' b (shW k W) → Q (.ref b) H'
theorem ints_als (H : Hp) : ∀ ns : List Int, Als H ns.length (ns.map V.int) (ns.map V.int)
  | [] => .nil
  | n :: r => .int n (ints_als H r)
theorem nts_als (H : Hp) : ∀ ns : List Nat, Als H ns.length (nts ns) (nts ns)
  | [] => .nil
  | n :: r => .int n (nts_als H r)
theorem rms_als {H : Hp} {n : Nat} : ∀ {xs ys : List V} {W : List Rm}, Paired (RmAt H) xs W → Paired (RmAt H) ys W → Small n W → ∃ m, m ≤ W.length * (n + 6) ∧ Als H m xs ys
  | _, _, _, .nil, .nil, _ => ⟨0, Nat.zero_le _, .nil⟩
  | _, _, _, .cons (l₂ := W) (b := r) h1 t1, .cons h2 t2, hs => by
    obtain ⟨m, hm, al⟩ := rms_als t1 t2 fun r hr => hs r (List.mem_cons_of_mem _ hr)
    obtain ⟨a, l, d, rfl, a1, a2, a3⟩ := h1
    obtain ⟨a', l', d', rfl, b1, b2, b3⟩ := h2
    obtain ⟨s1, s2, s3⟩ := hs r (List.mem_cons_self ..)
    refine ⟨_, ?_, .tup a1 b1 (.lst a2 b2 (ints_als H _) (.lst a3 b3 (nts_als H _) .nil)) al⟩
    rw [List.length_cons, Nat.add_mul]
    omega
theorem world_als {H : Hp} {a b : Addr} {W : List Rm} {n : Nat} (h1 : WorldAt H a W) (h2 : WorldAt H b W) (hs : Small n W) : ∃ m, m ≤ W.length * (n + 6) + 1 ∧ Als H m [.ref a] [.ref b] := by
  obtain ⟨xs, e1, p1⟩ := h1
  obtain ⟨ys, e2, p2⟩ := h2
  obtain ⟨m, hm, al⟩ := rms_als p1 p2 hs
  exact ⟨0 + m + 1, by omega, .lst e1 e2 al .nil⟩
theorem Stm.of_kids {H : Hp} {a : Addr} {xs : List V} {s : Say} (hl : Say.leaf s = false) (e : H a = some (.tup (.str s.tag :: xs))) (k : Stms H xs s.kids) : Stm H (.ref a) s := by
  cases s with
  | lamp _ => cases hl
  | dark _ => cases hl
  | neg s => cases k with | cons h t => cases t; exact .neg e h
  | ev s => cases k with | cons h t => cases t; exact .ev e h
  | so s => cases k with | cons h t => cases t; exact .so e h
  | conj s u => cases k with | cons h t => cases t with | cons h' t => cases t; exact .conj e h h'
  | disj s u => cases k with | cons h t => cases t with | cons h' t => cases t; exact .disj e h h'
theorem sh_leaf (k : Int) (s : Say) : Say.leaf (s.sh k) = Say.leaf s := by cases s <;> rfl
theorem sh_tag (k : Int) (s : Say) : (s.sh k).tag = s.tag := by cases s <;> rfl
theorem sh_kids (k : Int) (s : Say) : (s.sh k).kids = s.kids.map (Say.sh k) := by cases s <;> rfl
def spMoved (d : Nat) : Sp := fun vs H Q _ => ∃ (v : V) (k : Int) (s : Say), vs = [v, .int k] ∧ Stm H v s ∧ s.dep < d ∧ ∀ (u : V) (H' : Hp), Same H H' → Stm H' u (s.sh k) → Q u H'
theorem small_valid {W : List Rm} {n : Nat} (h : Small n W) (e : W.length = n) : Valid W := fun r m d hd => by rw [e]; exact (h r m).1 d hd
theorem const_tup {K : PySem.W.Frag} {a : Addr} {od : Option Addr} {n : Nat} {sl : Array (Option Value)} {t1 t2 : Tok} {x y : Str} (h : K.lookup a = some ⟨.type "tuple", od, .seq #[.str x t1, .str y t2] n, sl⟩) : ∀ H, SqT K H a [.str x, .str y] :=
  fun H => .inr ⟨_, _, _, h, rfl, rfl, (by show 2 ≤ sizeLine; decide), .cons ⟨t1, rfl⟩ (.cons ⟨t2, rfl⟩ .nil)⟩
end L2
set_option Elab.async false
set_option linter.all false
set_option maxRecDepth 100000
set_option maxHeartbeats 4000000
namespace L2
open PySem
def PPt (H : Hp) (v : V) (e : Bool × Say) : Prop := ∃ a u, v = .ref a ∧ H a = some (.tup [.str (turnT e.1 e.2), u]) ∧ Stm H u e.2
def PWt (H : Hp) (v : V) (e : Bool × Say) : Prop := ∃ a u, v = .ref a ∧ H a = some (.tup [u, .bl e.1]) ∧ Stm H u e.2
theorem PPt.mono {H H' : Hp} {v : V} {e : Bool × Say} (h : PPt H v e) (T : TupK H H') : PPt H' v e := by
  obtain ⟨a, u, r, e, s⟩ := h
  exact ⟨a, u, r, T _ _ e, s.mono T⟩
theorem PWt.mono {H H' : Hp} {v : V} {e : Bool × Say} (h : PWt H v e) (T : TupK H H') : PWt H' v e := by
  obtain ⟨a, u, r, e, s⟩ := h
  exact ⟨a, u, r, T _ _ e, s.mono T⟩
def spParts : Sp := fun vs H Q _ => ∃ (v : V) (s : Say), vs = [v] ∧ Stm H v s ∧ s.sz ≤ 100000 ∧ ∀ (l : Addr) (ps : List V) (H' : Hp), Same H H' → H l = none → H' l = some (.lst ps) → Stms H' ps s.post → Q (.ref l) H'
theorem truF_len {W : List Rm} {t : Say} {as : List (List Bool)} (ha : as.length = t.arity) (h : ∀ a ∈ as, a.length = W.length) : (truF W t as).length = W.length := by
  cases t <;> simp only [Say.arity, Say.kids, List.length_cons, List.length_nil] at ha
  · simp [truF, tru]
  · simp [truF, tru]
  · match as, ha with
    | [a], _ => simp [truF]; exact h a (by simp)
  · match as, ha with
    | [a, b], _ => simp [truF]; rw [h a (by simp), h b (by simp)]; omega
  · match as, ha with
    | [a, b], _ => simp [truF]; rw [h a (by simp), h b (by simp)]; omega
  · match as, ha with
    | [a], _ => simp [truF]
  · match as, ha with
    | [a], _ => simp [truF]
theorem ar_leaf {t : Say} (h : Say.leaf t = true) : t.arity = 0 := by cases t <;> first | rfl | cases h
theorem ar_join {t : Say} (h : Say.join t = true) : t.arity = 2 := by cases t <;> first | rfl | cases h
theorem ar_one {t : Say} (h : Say.leaf t = false) (g : Say.join t = false) : t.arity = 1 := by cases t <;> first | rfl | (cases h; done) | (cases g; done)
theorem Stm.leafK {H : Hp} {v : V} {t : Say} (h : Stm H v t) (hl : Say.leaf t = true) : ∃ a k, v = .ref a ∧ H a = some (.tup [.str t.tag, .int k]) ∧ (t = .lamp k ∨ t = .dark k) := by
  cases h with
  | lamp e => exact ⟨_, _, rfl, e, .inl rfl⟩
  | dark e => exact ⟨_, _, rfl, e, .inr rfl⟩
  | neg e h => cases hl
  | conj e h h' => cases hl
  | disj e h h' => cases hl
  | ev e h => cases hl
  | so e h => cases hl
theorem drop_get {α : Type} {xs : List α} {i : Nat} {x : α} (h : xs[i]? = some x) : xs.drop i = x :: xs.drop (i + 1) := by
  obtain ⟨hlt, e⟩ := List.getElem?_eq_some_iff.mp h
  rw [List.drop_eq_getElem_cons hlt, e]
theorem lampT_of {W : List Rm} {t : Say} {k : Int} (h : t = .lamp k ∨ t = .dark k) : lampT W t.tag k = truF W t [] := by
  rcases h with rfl | rfl
  · exact lampT_lamp W k
  · exact lampT_dark W k
theorem two_of {W : List Rm} {t : Say} {x y : List Bool} (h : Say.join t = true) : two t.tag x y = truF W t [x, y] := by
  cases t with
  | conj _ _ => rw [two, if_pos (by rfl)]; rfl
  | disj _ _ => rw [two, if_neg (by show ¬ ("or" : Str) = "and"; decide +kernel)]; rfl
  | _ => cases h
theorem by_of {W : List Rm} {t : Say} {x : List Bool} (hl : Say.leaf t = false) (hj : Say.join t = false) : truthBy W t.tag x = truF W t [x] := by
  cases t with
  | lamp _ => cases hl
  | dark _ => cases hl
  | conj _ _ => cases hj
  | disj _ _ => cases hj
  | neg z => rw [truthBy, if_neg (by show ¬ ("not" : Str) = "every"; decide +kernel), if_neg (by show ¬ ("not" : Str) = "some"; decide +kernel)]; rfl
  | ev _ => rw [truthBy, if_pos (by rfl)]; rfl
  | so _ => rw [truthBy, if_neg (by show ¬ ("some" : Str) = "every"; decide +kernel), if_pos (by rfl)]; rfl
def PF2 (H : Hp) (v : V) (e : Say × Say) : Prop := ∃ t u1 u2, v = .ref t ∧ H t = some (.tup [u1, u2]) ∧ Stm H u1 e.1 ∧ Stm H u2 e.2
theorem PF2.mono {H H' : Hp} {v : V} {e : Say × Say} (h : PF2 H v e) (T : TupK H H') : PF2 H' v e := by
  obtain ⟨t, u1, u2, r, e, s1, s2⟩ := h
  exact ⟨t, u1, u2, r, T _ _ e, s1.mono T, s2.mono T⟩
theorem rd_pcons {tk tv : TE} {r : List (TE × TE)} {σ : St} {H : Hp} {Q : List (V × V) → Hp → Prop} (h : tk σ H fun x H1 => tv σ H1 fun y H2 => tPairs r σ H2 fun ps H3 => Q ((x, y) :: ps) H3) : tPairs ((tk, tv) :: r) σ H Q := h
theorem rd_pnil {σ : St} {H : Hp} {Q : List (V × V) → Hp → Prop} (h : Q [] H) : tPairs [] σ H Q := h
end L2
set_option Elab.async false
set_option linter.all false
set_option maxRecDepth 100000
set_option maxHeartbeats 4000000
namespace L2
open PySem PySem.Spec PyProof.Rows
def Its (c n : Nat) : It := ⟨fun i _ => i < n, fun i H x H' => H' = H ∧ x = .int ((i * c : Nat) : Int), fun i _ => n ≤ i⟩
def cnt3 (n c : Nat) : Nat := if n = 0 then 0 else (n - 1) / c + 1
section
variable {X : Cx} {tg : Expr}
def iRng3 (ta : TA) : TI := fun σ H R => ta σ H fun vs H1 => ∃ n c : Nat, vs = [.int 0, .int n, .int c] ∧ (0 < c ∧ c ≤ 1000 ∧ n ≤ 1000000) ∧ R (Its c (cnt3 n c)) H1
end
section
variable {g : TG} {tb : TS} {D : Ends} {σ : St} {H : Hp} {ta : TA}
theorem rd_forR3 (h : ta σ H fun vs H1 => ∃ n c : Nat, vs = [.int 0, .int n, .int c] ∧ (0 < c ∧ c ≤ 1000 ∧ n ≤ 1000000) ∧ ∃ W : Nat → Nat → St → Hp → Prop, (∃ m, W 0 m σ H1) ∧ ∀ k m σ H, W k m σ H →
      ((Its c (cnt3 n c)).stop k H ∧ D.nx σ H) ∨ ((Its c (cnt3 n c)).go k H ∧ ∃ N : St → Hp → Prop, (∀ σ' H', N σ' H' → ∃ m', m' < m ∧ W (k + 1) m' σ' H') ∧ ∀ x H', (Its c (cnt3 n c)).yld k H x H' → g x σ H' fun σ2 H2 => tb { D with nx := N, ct := N, bk := D.nx } σ2 H2)) :
    tFor (iRng3 ta) g tb D σ H := h
end
end L2
set_option Elab.async false
set_option linter.all false
set_option maxRecDepth 100000
set_option maxHeartbeats 4000000
namespace L2
open PySem
section
variable {k : Nat} {caps : List Nat} {g : TG} {te : TE} {σ : St} {H1 : Hp} {ts : TT} {K : PySem.W.Frag}
end
def Say.inSo : Say → Option Say
  | .so t => some t
  | _ => none
abbrev sos (ss : List Say) : List Say := ss.filterMap Say.inSo
def aboveS (ss : List Say) (k : Nat) : List (List Say) := match ss[k]? with
  | some (.ev t) => [t :: sos ss]
  | some (.disj s t) => [ss.take k ++ [s, t] ++ ss.drop (k + 1)]
  | some (.conj s t) => [ss.take k ++ [s] ++ ss.drop (k + 1), ss.take k ++ [t] ++ ss.drop (k + 1)]
  | _ => []
def RowAt (H : Hp) (v : V) (row : List Say) : Prop := ∃ a vs, v = .ref a ∧ H a = some (.lst vs) ∧ Stms H vs row
theorem RowAt.mono {H H' : Hp} {v : V} {row : List Say} (h : RowAt H v row) (S : Same H H') : RowAt H' v row := by
  obtain ⟨a, vs, e, h1, h2⟩ := h
  exact ⟨a, vs, e, S _ _ h1, h2.mono S.tupK⟩
def Say.brk : Say → Bool
  | .ev _ => true
  | .conj _ _ => true
  | .disj _ _ => true
  | _ => false
def tv (W : List Rm) (s : Say) (j : Nat) : Bool := (tru W s).getD j false
theorem stm_als2 {H : Hp} {v u : V} {s : Say} (h : Stm H v s) (g : Stm H u s) : Als H s.sz [v] [u] := by
  induction h generalizing u with
  | lamp e => cases g with | lamp e' => exact (Als.tup e e' (.str _ (.int _ .nil)) .nil).cast rfl
  | dark e => cases g with | dark e' => exact (Als.tup e e' (.str _ (.int _ .nil)) .nil).cast rfl
  | neg e _ i => cases g with | neg e' g => exact (Als.tup e e' (.str _ (i g)) .nil).cast (by simp only [Say.sz]; omega)
  | conj e _ _ i j => cases g with | conj e' g g' => exact (Als.tup e e' (.str _ ((i g).app (j g'))) .nil).cast (by simp only [Say.sz]; omega)
  | disj e _ _ i j => cases g with | disj e' g g' => exact (Als.tup e e' (.str _ ((i g).app (j g'))) .nil).cast (by simp only [Say.sz]; omega)
  | ev e _ i => cases g with | ev e' g => exact (Als.tup e e' (.str _ (i g)) .nil).cast (by simp only [Say.sz]; omega)
  | so e _ i => cases g with | so e' g => exact (Als.tup e e' (.str _ (i g)) .nil).cast (by simp only [Say.sz]; omega)
def plainKinds : List Str := ["and", "or", "every", "some", "dark", "lamp", "lamp", "dark", "or", "lamp"]
end L2
set_option Elab.async false
set_option linter.all false
set_option maxRecDepth 100000
set_option maxHeartbeats 4000000
namespace L2
open PySem PySem.Spec PyProof.Rows
section
variable {prog : Program} {w : World} {A : Around} {E : Value → Shared → Prop} {s : Shared}
end
section
variable {prog : Program} {w : World} {A : Around} {E : Value → Shared → Prop} {s : Shared}
end
def Izt (K : PySem.W.Frag) (l1 l2 : Addr) : It :=
  ⟨fun i H => ∃ xs ys x y, SqT K H l1 xs ∧ SqL K H l2 ys ∧ xs[i]? = some x ∧ ys[i]? = some y,
   fun i H v H' => ∃ p x y, v = .ref p ∧ H p = none ∧ H' = upd H p (.tup [x, y]) ∧ (∀ xs, SqT K H l1 xs → xs[i]? = some x) ∧ ∀ ys, SqL K H l2 ys → ys[i]? = some y,
   fun i H => ∃ xs, SqT K H l1 xs ∧ xs[i]? = none⟩
section
variable {X : Cx} {elts : List Expr} {kk : Nat} {tpos : Pos}
def iZipT (K : PySem.W.Frag) (ta : TA) : TI := fun σ H R => ta σ H fun vs H1 => ∃ l1 l2 xs ys, vs = [.ref l1, .ref l2] ∧ SqT K H1 l1 xs ∧ SqL K H1 l2 ys ∧ R (Izt K l1 l2) H1
end
section
variable {K : PySem.W.Frag} {tb : TS} {D : Ends} {σ : St} {H : Hp} {ta : TA} {g : TG}
theorem rd_forZT (h : ta σ H fun vs H1 => ∃ l1 l2 xs ys, vs = [.ref l1, .ref l2] ∧ SqT K H1 l1 xs ∧ SqL K H1 l2 ys ∧ ∃ W : Nat → Nat → St → Hp → Prop, (∃ m, W 0 m σ H1) ∧ ∀ i m σ H, W i m σ H →
      ((Izt K l1 l2).stop i H ∧ D.nx σ H) ∨ ((Izt K l1 l2).go i H ∧ ∃ N : St → Hp → Prop, (∀ σ' H', N σ' H' → ∃ m', m' < m ∧ W (i + 1) m' σ' H') ∧ ∀ x H', (Izt K l1 l2).yld i H x H' → g x σ H' fun σ2 H2 => tb { D with nx := N, ct := N, bk := D.nx } σ2 H2)) :
    tFor (iZipT K ta) g tb D σ H := h
end
end L2
set_option Elab.async false
set_option linter.all false
set_option maxRecDepth 100000
set_option maxHeartbeats 4000000
namespace L2
open PySem PySem.Spec PyProof.Rows
section
variable {X : Cx}
end
theorem rd_kin {P : Program} {K : PySem.W.Frag} {w : World} {neg : Bool} {td ty : TE} {σ : St} {H : Hp} {Q : VK} (h : ty σ H fun y H1 => td σ H1 fun x H2 => ∃ a kvs k, x = .ref a ∧ KDict P K w a kvs ∧ y = kV k ∧ Q (.bl (if neg then !(valV kvs k).isSome else (valV kvs k).isSome)) H2) : tKIn P K w neg ty td σ H Q := h
def Say.rest : Say → List PyData
  | .lamp k => [.int k]
  | .dark k => [.int k]
  | .neg s => [s.data]
  | .conj s t => [s.data, t.data]
  | .disj s t => [s.data, t.data]
  | .ev s => [s.data]
  | .so s => [s.data]
inductive Rsn where
  | pair
  | ofk (k : Str) (spot : Int) (told : List Int)
structure Line where
  row : List Say
  rsn : Rsn
def Rsn.ok : Rsn → Prop
  | .pair => True
  | .ofk k _ told => (k = "or" ∧ told.length = 1) ∨ (k = "and" ∧ told.length = 2) ∨ (k = "every" ∧ told.length = 1)
def Rsn.vals : Rsn → List V
  | .pair => [.str "pair"]
  | .ofk k spot told => .str k :: .int spot :: told.map V.int
def Rsn.data : Rsn → List PyData
  | .pair => [.str "pair"]
  | .ofk k spot told => .str k :: .int spot :: told.map PyData.int
def LineAt (H : Hp) (v : V) (l : Line) : Prop := ∃ t ra rr vs, v = .ref t ∧ H t = some (.tup [.ref ra, .ref rr]) ∧ H ra = some (.lst vs) ∧ Stms H vs l.row ∧ H rr = some (.tup l.rsn.vals)
theorem LineAt.mono {H H' : Hp} {v : V} {l : Line} (h : LineAt H v l) (S : Same H H') : LineAt H' v l := by
  obtain ⟨t, ra, rr, vs, e, h1, h2, h3, h4⟩ := h
  exact ⟨t, ra, rr, vs, e, S _ _ h1, S _ _ h2, h3.mono S.tupK, S _ _ h4⟩
def LinesAt (H : Hp) (a : Addr) (Ls : List Line) : Prop := ∃ vs, H a = some (.lst vs) ∧ Paired (LineAt H) vs Ls
theorem LinesAt.mono {H H' : Hp} {a : Addr} {Ls : List Line} (h : LinesAt H a Ls) (S : Same H H') : LinesAt H' a Ls := by
  obtain ⟨vs, e, p⟩ := h
  exact ⟨vs, S _ _ e, Paired.mapP p fun _ _ z => z.mono S⟩
def tagAt (row : List Say) (n : Nat) : Str := (row[n]?.map Say.tag).getD ""
def rowOf (Ls : List Line) (t : Int) : List Say := (Ls[t.toNat]?.map Line.row).getD []
def toldB (Ls : List Line) (i : Nat) (t : Int) (r : List Say) : Bool := decide (0 ≤ t) && (decide (t < (i : Int)) && decide (rowOf Ls t = r))
def fitsB (row : List Say) (k : Str) (spot : Int) : Bool := decide (0 ≤ spot) && (decide (spot < (row.length : Int)) && decide (tagAt row spot.toNat = k))
def rightB (Ls : List Line) (i : Nat) (l : Line) : Bool := match l.rsn with
  | .pair => pairB l.row
  | .ofk k spot told => fitsB l.row k spot && (told.zip (aboveS l.row spot.toNat)).all fun e => toldB Ls i e.1 e.2
def allR (Ls : List Line) : Bool := (List.range Ls.length).all fun i => (Ls[i]?.map (rightB Ls i)).getD true
section
variable {K : PySem.W.Frag} {σ : St} {H : Hp} {Q : VK} {ta tb tc : TE} {r r' : R2} {rr : V → Hp → VK → Prop} {i : Int}
theorem rd_un (h : ta σ H fun x H1 => rr x H1 Q) : tUn rr ta σ H Q := h
theorem rd_U {g : Int → V} (h : Q (g i) H) : rU g (.int i) H Q := ⟨i, rfl, h⟩
theorem rd_chain (h : ta σ H fun x H1 => tb σ H1 fun y H2 => r x y H2 fun z H3 => ∃ k, z = .bl k ∧ (if k = true then tc σ H3 fun w' H4 => r' y w' H4 Q else Q (.bl false) H3)) : tChain r r' ta tb tc σ H Q := h
end
end L2
set_option Elab.async false
set_option linter.all false
set_option maxRecDepth 100000
set_option maxHeartbeats 4000000
namespace L2
open PySem PySem.Spec PyProof.Rows
def tInts (ns : List Int) : TA := fun _ H Q => Q (ns.map V.int) H
theorem rd_ints {ns : List Int} {σ : St} {H : Hp} {Q : List V → Hp → Prop} (h : Q (ns.map V.int) H) : tInts ns σ H Q := h
theorem if_joinD {c : Prop} {_ : Decidable c} {P R : St → Hp → Prop} {A B : Prop} (hA : c → (∀ σ H, P σ H → R σ H) → A) (hB : (∀ σ H, P σ H → R σ H) → B) (hR : ∀ σ H, P σ H → R σ H) : if decide c = true then A else B :=
  if_dec (fun z => hA z hR) fun _ => hB hR
section
variable {α : Type} {p q : List α} {x : α} {k : Nat}
theorem mid_get (h : p.length = k) : (p ++ [x] ++ q)[k]? = some x := by
  rw [List.append_assoc, List.getElem?_append_right (by omega), h, Nat.sub_self]
  rfl
theorem mid_take (h : p.length = k) : (p ++ [x] ++ q).take k = p := by
  rw [List.append_assoc, ← h, List.take_left]
theorem mid_drop (h : p.length = k) : (p ++ [x] ++ q).drop (k + 1) = q := by
  rw [← h, List.drop_left' (by simp)]
end
theorem take_len {α : Type} {xs : List α} {k : Nat} {x : α} (h : xs[k]? = some x) : (xs.take k).length = k := by
  have := (List.getElem?_eq_some_iff.mp h).1
  rw [List.length_take]
  omega
theorem split2 {α : Type} {xs : List α} {k : Nat} {x y : α} (h1 : xs[k]? = some x) (h2 : xs[k + 1]? = some y) : xs.take k ++ [x, y] ++ xs.drop (k + 2) = xs := by
  have e1 := drop_get h1
  have e2 := drop_get h2
  rw [List.append_assoc]
  show xs.take k ++ (x :: y :: xs.drop (k + 1 + 1)) = xs
  rw [← e2, ← e1, List.take_append_drop]
theorem split1 {α : Type} {xs : List α} {k : Nat} {x : α} (h1 : xs[k]? = some x) : xs.take k ++ [x] ++ xs.drop (k + 1) = xs := by
  rw [List.append_assoc]
  show xs.take k ++ (x :: xs.drop (k + 1)) = xs
  rw [← drop_get h1, List.take_append_drop]
inductive StepOf (row : List Say) (n : Int) : Line → Prop where
  | disj {k : Nat} {s t : Say} (h1 : row[k]? = some s) (h2 : row[k + 1]? = some t) : StepOf row n ⟨row.take k ++ [.disj s t] ++ row.drop (k + 2), .ofk "or" k [n]⟩
  | conj {k : Nat} {s : Say} (h1 : row[k]? = some s) (hl : Say.leaf s = true) : StepOf row n ⟨row.take k ++ [.conj s s] ++ row.drop (k + 1), .ofk "and" k [n, n]⟩
  | ev {s : Say} {b : List Say} {m : Nat} (e : row = s :: b) (hm : m ≤ 1) : StepOf row n ⟨List.replicate m (.dark 2) ++ [.ev s] ++ b.map .so, .ofk "every" m [n]⟩
structure Lok (m : Nat) (l : Line) : Prop where
  ne : l.row ≠ []
  len : l.row.length ≤ 3 + m
  dep : ∀ s ∈ l.row, s.dep ≤ 1 + m
  sz : szs l.row ≤ 11 + 70 * m
  ok : l.rsn.ok
  pr : l.rsn = .pair → ∃ k x, l.row = [.lamp k, x, .dark k] ∧ x.dep ≤ 1 ∧ x.sz ≤ 5
theorem Lok.mono {m n : Nat} {l : Line} (h : Lok m l) (e : m ≤ n) : Lok n l :=
  ⟨h.ne, by have := h.len; omega, fun s z => by have := h.dep s z; omega, by have := h.sz; omega, h.ok, h.pr⟩
theorem szs_so (b : List Say) : szs (b.map .so) = szs b + 2 * b.length := by
  induction b with
  | nil => rfl
  | cons a r ih => simp only [szs, List.map_cons, List.sum_cons, List.length_cons, Say.sz] at ih ⊢; omega
theorem szs_rep (m : Nat) (s : Say) : szs (List.replicate m s) = m * s.sz := by
  simp [szs, List.map_replicate]
theorem szs1 (s : Say) : szs [s] = s.sz := by simp [szs]
theorem szs_cons (s : Say) (r : List Say) : szs (s :: r) = s.sz + szs r := by simp [szs]
theorem Lok.step {m : Nat} {row : List Say} {r : Rsn} {n : Int} {l : Line} (h : Lok m ⟨row, r⟩) (hm : m ≤ 30) (s : StepOf row n l) : Lok (m + 1) l := by
  have hlen : row.length ≤ 3 + m := h.len
  have hdep : ∀ s ∈ row, s.dep ≤ 1 + m := h.dep
  have hsz : szs row ≤ 11 + 70 * m := h.sz
  cases s with
  | @disj k s t h1 h2 =>
    have e := split2 h1 h2
    have e1 : szs row = szs (row.take k) + (s.sz + t.sz) + szs (row.drop (k + 2)) := by
      conv => lhs; rw [← e]
      rw [szs_app, szs_app, szs_cons, szs1]
    have hk := (List.getElem?_eq_some_iff.mp h2).1
    refine ⟨by simp, ?_, fun z hz => ?_, ?_, .inl ⟨rfl, rfl⟩, fun z => nomatch z⟩
    · simp only [List.length_append, List.length_take, List.length_drop, List.length_cons, List.length_nil]; omega
    · rcases List.mem_append.mp hz with hz | hz
      · rcases List.mem_append.mp hz with hz | hz
        · have := hdep z (List.mem_of_mem_take hz); omega
        · rw [List.mem_singleton.mp hz]
          have := hdep s (List.mem_of_getElem? h1)
          have := hdep t (List.mem_of_getElem? h2)
          simp only [Say.dep]; omega
      · have := hdep z (List.mem_of_mem_drop hz); omega
    · rw [szs_app, szs_app, szs1]; simp only [Say.sz]; omega
  | @conj k s h1 hl =>
    have e := split1 h1
    have e1 : szs row = szs (row.take k) + s.sz + szs (row.drop (k + 1)) := by
      conv => lhs; rw [← e]
      rw [szs_app, szs_app, szs1]
    have hk := (List.getElem?_eq_some_iff.mp h1).1
    have h3 : s.sz = 3 ∧ s.dep = 0 := by cases s <;> first | exact ⟨rfl, rfl⟩ | cases hl
    refine ⟨by simp, ?_, fun z hz => ?_, ?_, .inr (.inl ⟨rfl, rfl⟩), fun z => nomatch z⟩
    · simp only [List.length_append, List.length_take, List.length_drop, List.length_cons, List.length_nil]; omega
    · rcases List.mem_append.mp hz with hz | hz
      · rcases List.mem_append.mp hz with hz | hz
        · have := hdep z (List.mem_of_mem_take hz); omega
        · rw [List.mem_singleton.mp hz]
          simp only [Say.dep]; omega
      · have := hdep z (List.mem_of_mem_drop hz); omega
    · rw [szs_app, szs_app, szs1]; simp only [Say.sz]; omega
  | @ev s b j e hj =>
    subst e
    rw [szs_cons] at hsz
    rw [List.length_cons] at hlen
    refine ⟨by simp, ?_, fun z hz => ?_, ?_, .inr (.inr ⟨rfl, rfl⟩), fun z => nomatch z⟩
    · simp only [List.length_append, List.length_replicate, List.length_map, List.length_cons, List.length_nil]; omega
    · rcases List.mem_append.mp hz with hz | hz
      · rcases List.mem_append.mp hz with hz | hz
        · rw [List.eq_of_mem_replicate hz]; simp only [Say.dep]; omega
        · rw [List.mem_singleton.mp hz]
          have := hdep s (List.mem_cons_self ..)
          simp only [Say.dep]; omega
      · obtain ⟨u, hu, rfl⟩ := List.mem_map.mp hz
        have := hdep u (List.mem_cons_of_mem _ hu)
        simp only [Say.dep]; omega
    · rw [szs_app, szs_app, szs1, szs_rep, szs_so]
      simp only [Say.sz]
      have : j * 3 ≤ 3 := by omega
      omega
theorem rowOf_app {Ls T : List Line} {t : Int} (h : t.toNat < Ls.length) : rowOf (Ls ++ T) t = rowOf Ls t := by
  unfold rowOf
  rw [List.getElem?_append_left h]
theorem toldB_app {Ls T : List Line} {i : Nat} (h : i ≤ Ls.length) (t : Int) (r : List Say) : toldB (Ls ++ T) i t r = toldB Ls i t r := by
  unfold toldB
  by_cases h0 : 0 ≤ t
  · by_cases h1 : t < (i : Int)
    · rw [rowOf_app (by omega)]
    · rw [decide_eq_false h1, Bool.false_and, Bool.false_and]
  · rw [decide_eq_false h0, Bool.false_and, Bool.false_and]
theorem rightB_app {Ls T : List Line} {i : Nat} (h : i ≤ Ls.length) (l : Line) : rightB (Ls ++ T) i l = rightB Ls i l := by
  unfold rightB
  cases l.rsn with
  | pair => rfl
  | ofk k spot told => simp only [toldB_app h]
theorem allR_snoc (Ls : List Line) (l : Line) : allR (Ls ++ [l]) = (allR Ls && rightB Ls Ls.length l) := by
  unfold allR
  rw [List.length_append, List.length_singleton, List.range_succ, List.all_append]
  congr 1
  · rw [Bool.eq_iff_iff, List.all_eq_true, List.all_eq_true]
    have e : ∀ i ∈ List.range Ls.length, ((Ls ++ [l])[i]?.map (rightB (Ls ++ [l]) i)).getD true = (Ls[i]?.map (rightB Ls i)).getD true := fun i hi => by
      have hl := List.mem_range.mp hi
      rw [List.getElem?_append_left hl, List.getElem?_eq_getElem hl]
      show rightB (Ls ++ [l]) i Ls[i] = rightB Ls i Ls[i]
      exact rightB_app (by omega) _
    exact ⟨fun z i hi => by rw [← e i hi]; exact z i hi, fun z i hi => by rw [e i hi]; exact z i hi⟩
  · simp only [List.all_cons, List.all_nil, Bool.and_true, List.getElem?_concat_length]
    exact rightB_app (Nat.le_refl _) l
theorem told_ok {Ls : List Line} {n : Nat} {l0 : Line} (h : Ls[n]? = some l0) : toldB Ls Ls.length (n : Int) l0.row = true := by
  have hl := (List.getElem?_eq_some_iff.mp h).1
  unfold toldB rowOf
  rw [decide_eq_true (by omega), decide_eq_true (by omega), Int.toNat_natCast, h]
  simp
theorem fits_ok {p q : List Say} {s : Say} {k : Nat} (h : p.length = k) : fitsB (p ++ [s] ++ q) s.tag (k : Int) = true := by
  unfold fitsB tagAt
  rw [Int.toNat_natCast, mid_get h, decide_eq_true (by omega), decide_eq_true (by simp; omega)]
  simp
theorem sos_map (b : List Say) : sos (b.map .so) = b := by
  induction b with
  | nil => rfl
  | cons a r ih => simp only [List.map_cons, sos, List.filterMap_cons, Say.inSo] at ih ⊢; rw [ih]
theorem sos_rep (m : Nat) (k : Int) : sos (List.replicate m (.dark k)) = [] := by
  induction m with
  | zero => rfl
  | succ m ih => rw [List.replicate_succ]; simp only [sos, List.filterMap_cons, Say.inSo] at ih ⊢; exact ih
theorem StepOf.right {Ls : List Line} {n : Nat} {l0 l : Line} (h : Ls[n]? = some l0) (s : StepOf l0.row n l) : rightB Ls Ls.length l = true := by
  cases s with
  | @disj k s t h1 h2 =>
    have hk := take_len h1
    have eA : aboveS (l0.row.take k ++ [.disj s t] ++ l0.row.drop (k + 2)) k = [l0.row] := by
      unfold aboveS
      rw [mid_get hk]
      show [_ ++ [s, t] ++ _] = _
      rw [mid_take hk, mid_drop hk, split2 h1 h2]
    show (fitsB _ "or" (k : Int) && ([(n : Int)].zip (aboveS _ (k : Int).toNat)).all _) = true
    rw [Int.toNat_natCast, eA, show fitsB _ "or" (k : Int) = true from fits_ok (s := .disj s t) hk]
    simp only [List.zip_cons_cons, List.zip_nil_right, List.all_cons, List.all_nil, Bool.and_true, Bool.true_and]
    exact told_ok h
  | @conj k s h1 hl =>
    have hk := take_len h1
    have eA : aboveS (l0.row.take k ++ [.conj s s] ++ l0.row.drop (k + 1)) k = [l0.row, l0.row] := by
      unfold aboveS
      rw [mid_get hk]
      show [_ ++ [s] ++ _, _ ++ [s] ++ _] = _
      rw [mid_take hk, mid_drop hk, split1 h1]
    show (fitsB _ "and" (k : Int) && ([(n : Int), (n : Int)].zip (aboveS _ (k : Int).toNat)).all _) = true
    rw [Int.toNat_natCast, eA, show fitsB _ "and" (k : Int) = true from fits_ok (s := .conj s s) hk]
    simp only [List.zip_cons_cons, List.zip_nil_right, List.all_cons, List.all_nil, Bool.and_true, Bool.true_and, told_ok h]
  | @ev s b m e hm =>
    have hk : (List.replicate m (Say.dark 2)).length = m := List.length_replicate
    have eA : aboveS (List.replicate m (.dark 2) ++ [.ev s] ++ b.map .so) m = [l0.row] := by
      unfold aboveS
      rw [mid_get hk]
      show [s :: sos _] = _
      rw [sos, List.filterMap_append, List.filterMap_append, show List.filterMap Say.inSo (List.replicate m (.dark 2)) = [] from sos_rep m 2, show List.filterMap Say.inSo (b.map .so) = b from sos_map b, e]
      rfl
    show (fitsB _ "every" (m : Int) && ([(n : Int)].zip (aboveS _ (m : Int).toNat)).all _) = true
    rw [Int.toNat_natCast, eA, show fitsB _ "every" (m : Int) = true from fits_ok (s := .ev s) hk]
    simp only [List.zip_cons_cons, List.zip_nil_right, List.all_cons, List.all_nil, Bool.and_true, Bool.true_and]
    exact told_ok h
theorem pair3 (k : Int) (x : Say) : pairB [.lamp k, x, .dark k] = true := by
  unfold pairB
  rw [List.any_eq_true]
  refine ⟨k, List.mem_filterMap.mpr ⟨.dark k, by simp, rfl⟩, List.contains_iff_mem.mpr (List.mem_filterMap.mpr ⟨.lamp k, by simp, rfl⟩)⟩
def Drawn (m : Nat) (Ls : List Line) : Prop := Ls.length ≤ 2 * m ∧ (∀ l ∈ Ls, Lok m l) ∧ allR Ls = true
theorem Drawn.nil : Drawn 0 [] := ⟨Nat.le_refl _, fun l h => (by cases h), rfl⟩
theorem Drawn.snoc {m : Nat} {Ls : List Line} {l : Line} (h : Drawn m Ls) (h1 : Lok (m + 1) l) (h2 : rightB Ls Ls.length l = true) : Drawn (m + 1) (Ls ++ [l]) := by
  obtain ⟨a, b, c⟩ := h
  refine ⟨by simp; omega, fun z hz => ?_, by rw [allR_snoc, c, h2]; rfl⟩
  rcases List.mem_append.mp hz with hz | hz
  · exact (b z hz).mono (Nat.le_succ _)
  · rw [List.mem_singleton.mp hz]; exact h1
theorem lok_pair {m : Nat} {k : Int} {x : Say} (h1 : x.dep ≤ 1) (h2 : x.sz ≤ 5) : Lok m ⟨[.lamp k, x, .dark k], .pair⟩ := by
  refine ⟨by simp, by show 3 ≤ 3 + m; omega, fun s hs => ?_, ?_, trivial, fun _ => ⟨k, x, rfl, h1, h2⟩⟩
  · simp only [List.mem_cons, List.not_mem_nil, or_false] at hs
    rcases hs with rfl | rfl | rfl
    · simp only [Say.dep]; omega
    · omega
    · simp only [Say.dep]; omega
  · show szs [.lamp k, x, .dark k] ≤ _
    rw [szs_cons, szs_cons, szs1]; simp only [Say.sz]; omega
theorem Drawn.pair {m : Nat} {Ls : List Line} {k : Int} {x : Say} (h : Drawn m Ls) (h1 : x.dep ≤ 1) (h2 : x.sz ≤ 5) : Drawn (m + 1) (Ls ++ [⟨[.lamp k, x, .dark k], .pair⟩]) :=
  h.snoc (lok_pair h1 h2) (pair3 k x)
theorem Drawn.step {m : Nat} {Ls : List Line} {n : Nat} {l0 l : Line} (h : Drawn m Ls) (hm : m ≤ 30) (h0 : Ls[n]? = some l0) (s : StepOf l0.row n l) : Drawn (m + 1) (Ls ++ [l]) :=
  h.snoc (Lok.step (row := l0.row) (r := l0.rsn) (h.2.1 _ (List.mem_of_getElem? h0)) hm s) (s.right h0)
theorem Drawn.two {m : Nat} {Ls : List Line} {n : Nat} {k j : Int} {x : Say} (h : Drawn m Ls) (h0 : Ls[n]? = some ⟨[.lamp k, x, .dark k], .pair⟩) (h1 : x.dep ≤ 1) (h2 : x.sz ≤ 5) :
    Drawn (m + 1) (Ls ++ [⟨[.lamp k, .dark j, .dark k], .pair⟩] ++ [⟨[.lamp k, .conj x (.dark j), .dark k], .ofk "and" 1 [(n : Int), (Ls.length : Int)]⟩]) := by
  obtain ⟨a, b, c⟩ := h
  have e1 : allR (Ls ++ [⟨[.lamp k, .dark j, .dark k], .pair⟩]) = true := by rw [allR_snoc, c]; exact pair3 k _
  have g0 : (Ls ++ [(⟨[.lamp k, .dark j, .dark k], .pair⟩ : Line)])[n]? = some ⟨[.lamp k, x, .dark k], .pair⟩ := by
    rw [List.getElem?_append_left (List.getElem?_eq_some_iff.mp h0).1]; exact h0
  have g1 : (Ls ++ [(⟨[.lamp k, .dark j, .dark k], .pair⟩ : Line)])[Ls.length]? = some ⟨[.lamp k, .dark j, .dark k], .pair⟩ := List.getElem?_concat_length
  have l1 : Lok (m + 1) ⟨[.lamp k, .conj x (.dark j), .dark k], .ofk "and" 1 [(n : Int), (Ls.length : Int)]⟩ := by
    refine ⟨by simp, by show 3 ≤ _; omega, fun s hs => ?_, ?_, .inr (.inl ⟨rfl, rfl⟩), fun z => nomatch z⟩
    · simp only [List.mem_cons, List.not_mem_nil, or_false] at hs
      rcases hs with rfl | rfl | rfl <;> simp only [Say.dep] <;> omega
    · show szs [.lamp k, .conj x (.dark j), .dark k] ≤ _
      rw [szs_cons, szs_cons, szs1]; simp only [Say.sz]; omega
  have r1 : rightB (Ls ++ [⟨[.lamp k, .dark j, .dark k], .pair⟩]) (Ls ++ [(⟨[.lamp k, .dark j, .dark k], .pair⟩ : Line)]).length ⟨[.lamp k, .conj x (.dark j), .dark k], .ofk "and" 1 [(n : Int), (Ls.length : Int)]⟩ = true := by
    have eA : aboveS [.lamp k, .conj x (.dark j), .dark k] 1 = [[.lamp k, x, .dark k], [.lamp k, .dark j, .dark k]] := rfl
    have eF : fitsB [.lamp k, .conj x (.dark j), .dark k] "and" 1 = true := fits_ok (p := [.lamp k]) (s := .conj x (.dark j)) (q := [.dark k]) (k := 1) rfl
    unfold rightB
    dsimp only
    rw [show (1 : Int).toNat = 1 from rfl, eA, eF]
    simp only [List.zip_cons_cons, List.zip_nil_right, List.all_cons, List.all_nil, Bool.and_true, Bool.true_and]
    rw [told_ok g0, told_ok g1]
    rfl
  refine ⟨by simp; omega, fun z hz => ?_, by rw [allR_snoc, e1, r1]; rfl⟩
  rcases List.mem_append.mp hz with hz | hz
  · rcases List.mem_append.mp hz with hz | hz
    · exact (b z hz).mono (Nat.le_succ _)
    · rw [List.mem_singleton.mp hz]; exact lok_pair (by simp only [Say.dep]; omega) (by simp only [Say.sz]; omega)
  · rw [List.mem_singleton.mp hz]; exact l1
def Say.mp (f : Int → Int) : Say → Say
  | .lamp n => .lamp (f n)
  | .dark n => .dark (f n)
  | .neg s => .neg (s.mp f)
  | .conj s t => .conj (s.mp f) (t.mp f)
  | .disj s t => .disj (s.mp f) (t.mp f)
  | .ev s => .ev (s.mp f)
  | .so s => .so (s.mp f)
def Line.mp (f : Int → Int) (l : Line) : Line := ⟨l.row.map (Say.mp f), l.rsn⟩
theorem mp_sz (f : Int → Int) : ∀ s : Say, (s.mp f).sz = s.sz ∧ (s.mp f).dep = s.dep
  | .lamp _ => ⟨rfl, rfl⟩
  | .dark _ => ⟨rfl, rfl⟩
  | .neg s => by simp only [Say.mp, Say.sz, Say.dep, mp_sz f s, and_self]
  | .conj s t => by simp only [Say.mp, Say.sz, Say.dep, mp_sz f s, mp_sz f t, and_self]
  | .disj s t => by simp only [Say.mp, Say.sz, Say.dep, mp_sz f s, mp_sz f t, and_self]
  | .ev s => by simp only [Say.mp, Say.sz, Say.dep, mp_sz f s, and_self]
  | .so s => by simp only [Say.mp, Say.sz, Say.dep, mp_sz f s, and_self]
theorem mp_tag (f : Int → Int) (s : Say) : (s.mp f).tag = s.tag := by cases s <;> rfl
theorem mp_szs (f : Int → Int) (r : List Say) : szs (r.map (Say.mp f)) = szs r := by
  induction r with
  | nil => rfl
  | cons a r ih => rw [List.map_cons, szs_cons, szs_cons, ih, (mp_sz f a).1]
theorem Lok.mp {m : Nat} {l : Line} (f : Int → Int) (h : Lok m l) : Lok m (l.mp f) := by
  refine ⟨fun z => h.ne (List.map_eq_nil_iff.mp z), by show (l.row.map _).length ≤ _; rw [List.length_map]; exact h.len, fun s hs => ?_, by show szs (l.row.map _) ≤ _; rw [mp_szs]; exact h.sz, h.ok, fun z => ?_⟩
  · obtain ⟨u, hu, rfl⟩ := List.mem_map.mp hs
    rw [(mp_sz f u).2]
    exact h.dep u hu
  · obtain ⟨k, x, e, h1, h2⟩ := h.pr z
    exact ⟨f k, x.mp f, by show l.row.map _ = _; rw [e]; rfl, by rw [(mp_sz f x).2]; exact h1, by rw [(mp_sz f x).1]; exact h2⟩
theorem mp_sos (f : Int → Int) (r : List Say) : sos (r.map (Say.mp f)) = (sos r).map (Say.mp f) := by
  induction r with
  | nil => rfl
  | cons a r ih =>
    have e : ∀ (b : Say) (q : List Say), sos (b :: q) = (b.inSo.toList) ++ sos q := fun b q => by cases b <;> rfl
    rw [List.map_cons, e, e, ih, List.map_append]
    cases a <;> rfl
theorem mp_above (f : Int → Int) (r : List Say) (n : Nat) : aboveS (r.map (Say.mp f)) n = (aboveS r n).map (List.map (Say.mp f)) := by
  unfold aboveS
  rw [List.getElem?_map]
  cases r[n]? with
  | none => rfl
  | some s =>
    cases s with
    | ev t => simp only [Option.map_some, Say.mp, List.map_cons, List.map_nil, mp_sos]
    | disj t u => simp only [Option.map_some, Say.mp, List.map_cons, List.map_nil, List.map_append, List.map_take, List.map_drop]
    | conj t u => simp only [Option.map_some, Say.mp, List.map_cons, List.map_nil, List.map_append, List.map_take, List.map_drop]
    | _ => rfl
theorem mp_pair (f : Int → Int) {r : List Say} (h : pairB r = true) : pairB (r.map (Say.mp f)) = true := by
  unfold pairB at h ⊢
  rw [List.any_eq_true] at h ⊢
  obtain ⟨k, h1, h2⟩ := h
  obtain ⟨s, hs, e⟩ := List.mem_filterMap.mp h1
  obtain ⟨t, ht, e'⟩ := List.mem_filterMap.mp (List.contains_iff_mem.mp h2)
  refine ⟨f k, List.mem_filterMap.mpr ⟨s.mp f, List.mem_map.mpr ⟨s, hs, rfl⟩, ?_⟩, List.contains_iff_mem.mpr (List.mem_filterMap.mpr ⟨t.mp f, List.mem_map.mpr ⟨t, ht, rfl⟩, ?_⟩)⟩
  · cases s <;> first | (cases e; rfl) | cases e
  · cases t <;> first | (cases e'; rfl) | cases e'
theorem mp_rowOf (f : Int → Int) (Ls : List Line) (t : Int) : rowOf (Ls.map (Line.mp f)) t = (rowOf Ls t).map (Say.mp f) := by
  unfold rowOf
  rw [List.getElem?_map]
  cases Ls[t.toNat]? <;> rfl
theorem mp_told (f : Int → Int) {Ls : List Line} {i : Nat} {t : Int} {r : List Say} (h : toldB Ls i t r = true) : toldB (Ls.map (Line.mp f)) i t (r.map (Say.mp f)) = true := by
  unfold toldB at h ⊢
  simp only [Bool.and_eq_true, decide_eq_true_eq] at h ⊢
  exact ⟨h.1, h.2.1, by rw [mp_rowOf, h.2.2]⟩
theorem mp_fits (f : Int → Int) (row : List Say) (k : Str) (spot : Int) : fitsB (row.map (Say.mp f)) k spot = fitsB row k spot := by
  unfold fitsB tagAt
  rw [List.length_map, List.getElem?_map]
  cases row[spot.toNat]? with
  | none => rfl
  | some s => simp only [Option.map_some, mp_tag]
theorem mp_right (f : Int → Int) {Ls : List Line} {i : Nat} {l : Line} (h : rightB Ls i l = true) : rightB (Ls.map (Line.mp f)) i (l.mp f) = true := by
  obtain ⟨row, rsn⟩ := l
  cases rsn with
  | pair => exact mp_pair f h
  | ofk k spot told =>
    have h' : (fitsB row k spot && (told.zip (aboveS row spot.toNat)).all fun e => toldB Ls i e.1 e.2) = true := h
    show (fitsB (row.map _) k spot && (told.zip (aboveS (row.map _) spot.toNat)).all fun e => toldB _ i e.1 e.2) = true
    rw [Bool.and_eq_true] at h' ⊢
    refine ⟨by rw [mp_fits]; exact h'.1, ?_⟩
    rw [mp_above, List.zip_map_right, List.all_map, List.all_eq_true]
    intro e he
    exact mp_told f (List.all_eq_true.mp h'.2 e he)
theorem mp_allR (f : Int → Int) {Ls : List Line} (h : allR Ls = true) : allR (Ls.map (Line.mp f)) = true := by
  unfold allR at h ⊢
  rw [List.all_eq_true] at h ⊢
  intro i hi
  rw [List.length_map] at hi
  have hl := List.mem_range.mp hi
  have h1 := h i hi
  rw [List.getElem?_map, List.getElem?_eq_getElem hl]
  rw [List.getElem?_eq_getElem hl] at h1
  exact mp_right f h1
theorem Drawn.mp {m : Nat} {Ls : List Line} (f : Int → Int) (h : Drawn m Ls) : Drawn m (Ls.map (Line.mp f)) := by
  refine ⟨by rw [List.length_map]; exact h.1, fun l hl => ?_, mp_allR f h.2.2⟩
  obtain ⟨l0, h0, rfl⟩ := List.mem_map.mp hl
  exact (h.2.1 l0 h0).mp f
def Say.low : Say → Prop
  | .lamp k => 0 ≤ k ∧ k ≤ 100
  | .dark k => 0 ≤ k ∧ k ≤ 100
  | .neg s => s.low
  | .conj s t => s.low ∧ t.low
  | .disj s t => s.low ∧ t.low
  | .ev s => s.low
  | .so s => s.low
def Low (Ls : List Line) : Prop := ∀ l ∈ Ls, ∀ s ∈ l.row, s.low
theorem Low.snoc {Ls : List Line} {l : Line} (h : Low Ls) (g : ∀ s ∈ l.row, s.low) : Low (Ls ++ [l]) := fun z hz => by
  rcases List.mem_append.mp hz with hz | hz
  · exact h z hz
  · rw [List.mem_singleton.mp hz]; exact g
theorem StepOf.low {row : List Say} {n : Int} {l : Line} (h : ∀ s ∈ row, s.low) (s : StepOf row n l) : ∀ s ∈ l.row, s.low := by
  cases s with
  | disj h1 h2 =>
    intro z hz
    rcases List.mem_append.mp hz with hz | hz
    · rcases List.mem_append.mp hz with hz | hz
      · exact h z (List.mem_of_mem_take hz)
      · rw [List.mem_singleton.mp hz]; exact ⟨h _ (List.mem_of_getElem? h1), h _ (List.mem_of_getElem? h2)⟩
    · exact h z (List.mem_of_mem_drop hz)
  | conj h1 hl =>
    intro z hz
    rcases List.mem_append.mp hz with hz | hz
    · rcases List.mem_append.mp hz with hz | hz
      · exact h z (List.mem_of_mem_take hz)
      · rw [List.mem_singleton.mp hz]; exact ⟨h _ (List.mem_of_getElem? h1), h _ (List.mem_of_getElem? h1)⟩
    · exact h z (List.mem_of_mem_drop hz)
  | @ev s0 b0 m0 e hm =>
    subst e
    intro z hz
    rcases List.mem_append.mp hz with hz | hz
    · rcases List.mem_append.mp hz with hz | hz
      · rw [List.eq_of_mem_replicate hz]; exact ⟨by decide, by decide⟩
      · rw [List.mem_singleton.mp hz]; exact h s0 (List.mem_cons_self ..)
    · obtain ⟨u, hu, rfl⟩ := List.mem_map.mp hz
      exact h u (List.mem_cons_of_mem _ hu)
def LineD (D : Addr) (H : Hp) (v : V) (l : Line) : Prop := ∃ t ra rr vs, v = .ref t ∧ H t = some (.tup [.ref ra, .ref rr]) ∧ ra ≠ D ∧ H ra = some (.lst vs) ∧ Stms H vs l.row ∧ H rr = some (.tup l.rsn.vals)
theorem LineD.mono {D : Addr} {H H' : Hp} {v : V} {l : Line} (h : LineD D H v l) (S : SameD D H H') (T : TupK H H') : LineD D H' v l := by
  obtain ⟨t, ra, rr, vs, e, h1, n, h2, h3, h4⟩ := h
  exact ⟨t, ra, rr, vs, e, T _ _ h1, n, S _ _ n h2, h3.mono T, T _ _ h4⟩
theorem LineD.at {D : Addr} {H : Hp} {v : V} {l : Line} (h : LineD D H v l) : LineAt H v l := by
  obtain ⟨t, ra, rr, vs, e, h1, n, h2, h3, h4⟩ := h
  exact ⟨t, ra, rr, vs, e, h1, h2, h3, h4⟩
theorem lns_mono {D : Addr} {H H' : Hp} {vs : List V} {Ls : List Line} (h : Paired (LineD D H) vs Ls) (S : SameD D H H') (T : TupK H H') : Paired (LineD D H') vs Ls := Paired.mapP h fun _ _ q => q.mono S T
def LinesD (H : Hp) (a : Addr) (Ls : List Line) : Prop := ∃ vs, H a = some (.lst vs) ∧ Paired (LineD a H) vs Ls
theorem LinesD.at {H : Hp} {a : Addr} {Ls : List Line} (h : LinesD H a Ls) : LinesAt H a Ls := by
  obtain ⟨vs, e, p⟩ := h
  exact ⟨vs, e, Paired.mapP p fun _ _ q => q.at⟩
theorem LinesD.mono {H H' : Hp} {a : Addr} {Ls : List Line} (h : LinesD H a Ls) (S : Same H H') : LinesD H' a Ls := by
  obtain ⟨vs, e, p⟩ := h
  exact ⟨vs, S _ _ e, lns_mono p S.sameD S.tupK⟩
structure Near (l l' : Line) : Prop where
  ok : l'.rsn.ok
  len : l'.row.length ≤ l.row.length + 1
  dep : ∀ d, 1 ≤ d → (∀ s ∈ l.row, s.dep ≤ d) → ∀ s ∈ l'.row, s.dep ≤ d
  sz : szs l'.row ≤ szs l.row + 8
theorem Near.refl {l : Line} (h : l.rsn.ok) : Near l l := ⟨h, Nat.le_succ _, fun _ _ z => z, Nat.le_add_right _ _⟩
theorem Near.rsn {row : List Say} {r r' : Rsn} (h : r'.ok) : Near ⟨row, r⟩ ⟨row, r'⟩ := ⟨h, Nat.le_succ _, fun _ _ z => z, Nat.le_add_right _ _⟩
theorem Same.none {H H' : Hp} (S : Same H H') {b : Addr} (h : H' b = none) : H b = none := by
  cases e : H b with
  | none => rfl
  | some o => rw [S _ _ e] at h; cases h
def Fine (n : Nat) (Ls : List Line) : Prop := Ls.length ≤ 61 ∧ ∀ l ∈ Ls, (n = 0 → l.row ≠ []) ∧ l.rsn.ok ∧ l.row.length ≤ 40 + n ∧ (∀ s ∈ l.row, s.dep ≤ 40) ∧ szs l.row ≤ 2200 + 8 * n
theorem Fine.up {Ls : List Line} (h : Fine 0 Ls) : Fine 1 Ls := ⟨h.1, fun z hz => by
  obtain ⟨a, b, c, d, e⟩ := h.2 z hz
  exact ⟨fun x => (by cases x), b, by omega, d, by omega⟩⟩
end L2
set_option Elab.async false
set_option linter.all false
set_option maxRecDepth 100000
set_option maxHeartbeats 4000000
namespace L2
open PySem
end L2
set_option Elab.async false
set_option linter.all false
set_option maxRecDepth 100000
set_option maxHeartbeats 4000000
namespace L2
open PySem
def doorsAt (W : List Rm) (j : Nat) : List Nat := (W[j]?.map Rm.doors).getD []
def movesS (W : List Rm) (j : Nat) : Say → List (Nat × Say)
  | .conj s t => [(j, s), (j, t)]
  | .disj s t => [(j, s), (j, t)]
  | .ev s => (doorsAt W j).map fun d => (d, s)
  | .so s => (doorsAt W j).map fun d => (d, s)
  | _ => []
def Say.spk : Say → Bool
  | .disj _ _ => true
  | .so _ => true
  | _ => false
theorem moves_less {W : List Rm} (hv : Valid W) {s : Say} {j : Nat} (h : j < W.length) {m : Nat × Say} (hm : m ∈ movesS W j s) : m.2.dep < s.dep ∧ m.1 < W.length := by
  have hr : W[j]? = some W[j] := List.getElem?_eq_getElem h
  have hd : doorsAt W j = W[j].doors := by unfold doorsAt; rw [hr]; rfl
  cases s with
  | conj s t =>
    simp only [movesS, List.mem_cons, List.not_mem_nil, or_false] at hm
    rcases hm with rfl | rfl <;> (simp only [Say.dep]; omega)
  | disj s t =>
    simp only [movesS, List.mem_cons, List.not_mem_nil, or_false] at hm
    rcases hm with rfl | rfl <;> (simp only [Say.dep]; omega)
  | ev t =>
    simp only [movesS, hd, List.mem_map] at hm
    obtain ⟨d, hd2, rfl⟩ := hm
    exact ⟨Nat.lt_succ_self _, hv _ (List.mem_of_getElem? hr) d hd2⟩
  | so t =>
    simp only [movesS, hd, List.mem_map] at hm
    obtain ⟨d, hd2, rfl⟩ := hm
    exact ⟨Nat.lt_succ_self _, hv _ (List.mem_of_getElem? hr) d hd2⟩
  | _ => cases hm
end L2
set_option Elab.async false
set_option linter.all false
set_option maxRecDepth 100000
set_option maxHeartbeats 4000000
namespace L2
open PySem PySem.Spec PyProof.Rows
abbrev known (o : Obj) : HO := .frz o (.ext fun _ => True)
def era (H : Hp) (c : Addr) : Hp := fun b => if b = c then none else H b
section
variable {P : Program} {w : World} {H H' : Hp} {h h' : Heap} {a b c : Addr} {o : Obj} {v u : HO}
theorem era_same : era H c c = none := if_pos rfl
theorem era_ne (n : b ≠ c) : era H c b = H b := if_neg n
theorem era_none (n : H b = none) : era H c b = none := by unfold era; split <;> first | rfl | exact n
theorem era_some (e : era H c b = some v) : b ≠ c ∧ H b = some v := by
  unfold era at e
  split at e
  · cases e
  · exact ⟨by assumption, e⟩
theorem known_ok (e : h.get? a = some o) : ObjOk P w H h a (known o) := ⟨e, trivial, ⟨o, e⟩, fun _ _ _ _ => trivial⟩
theorem HOk.knw (x : HOk P w H h) (e : H a = some (known o)) : h.get? a = some o := (x a _ e).1
theorem HOk.era (x : HOk P w H h) (e : H c = some (.frz o u)) : HOk P w (era H c) h := fun a v q => by
  obtain ⟨n, q⟩ := era_some q
  exact (x a v q).stay (fun _ _ _ z => z) (fun b z => by rw [era_ne (ne_of z e (by intro y; cases y))]; exact z) (fun b xs z => by rw [era_ne (ne_of z e (by intro y; cases y))]; exact z)
theorem HOk.track (x : HOk P w H h) (n : H c = none) (e : h.get? c = some o) : HOk P w (upd H c (known o)) h := fun a v q => by
  by_cases hb : a = c
  · subst hb; rw [upd_same] at q; cases q; exact known_ok e
  · rw [upd_ne hb] at q
    exact (x a v q).stay (fun _ _ _ z => z) (fun b z => by rw [upd_ne (ne_of_none z n)]; exact z) (fun b xs z => by rw [upd_ne (ne_of_none z n)]; exact z)
end
section
variable {X : Cx} {k j i : Nat} {f c : Addr} {fd : FuncData} {ps : List Str} {sp : Sp} {x y : Str} {p pos : Pos} {e : Expr} {es : List Expr} {t : TA}
theorem run_fnC {pins : List (Addr × Obj)} {σ : St} {H : Hp} {s : Shared} {Q : VK} {us : List Value} {vs : List V} {o : Obj} (F : FnOk X.prog X.w X.K X.mg X.base CX0 k f fd ps sp) (hr : Room k X.A) (hb : Binds X.K fd ps [])
    (I : Inv X pins σ H s) (hc : X.env.cells.lookup y = some c) (hf : X.fn y = true) (ho : s.heap.get? c = some o) (r : Vals vs us) (h : sp vs (upd H c (known o)) (fun v H' => Q v (era H' c)) E0) :
    wpAny (model X.prog X.w) X.A (call (.ref f) us) (EP X pins σ Q) X.xe s := by
  have hl : (us ++ []).length = ps.length := by rw [List.append_nil, ← r.length]; exact F.len _ _ _ _ h
  have nc : H c = none := I.freeC y c hc
  have hge : X.s₀.heap.objs.size ≤ c := I.ok.cab y c hf hc
  have e1 := I.env0
  have e0 : Env0 X.prog X.w X.K X.mg X.base X.A X.stack s (upd H c (known o)) := by
    refine ⟨e1.frames, e1.mod, fun b ob z => ⟨(e1.bs b ob z).1, ?_⟩, e1.bsz, e1.funs, fun b hb => ?_, I.hok.track nc ho, e1.bare⟩
    · rw [upd_ne (Nat.ne_of_lt (Nat.lt_of_lt_of_le (Heap.lt_size z) (Nat.le_trans I.ok.bsz hge)))]
      exact (e1.bs b ob z).2
    · have n : b ≠ c := by
        rcases List.mem_cons.mp (I.stkSub b hb) with z | z
        · rw [z]; exact (I.cne y c hc).symm
        · obtain ⟨_, ob, hob, _⟩ := I.ok.funs.mem z
          exact Nat.ne_of_lt (Nat.lt_of_lt_of_le (Heap.lt_size hob) hge)
      rw [upd_ne n]
      exact e1.frf b hb
  have hb' := hb s us I.kIn hl
  rw [List.append_nil] at hb'
  refine wpAny_call (codeAny_mono (F.run X.A X.stack s _ ⟨us, []⟩ us vs _ E0 hr e0 hb' r h) fun rr s' hq => ?_)
  cases rr with
  | error e => exact False.elim hq
  | ok fl =>
    cases fl with
    | next => exact False.elim hq
    | brk => exact False.elim hq
    | cont => exact False.elim hq
    | ret u =>
      obtain ⟨v, H', os, bare, un, hok, rv, q⟩ := hq
      have hcF : H' c = some (known o) := un.frzs c o _ upd_same
      have up : ∀ {b : Addr}, b ≠ c → (upd H c (known o)) b = H b := fun n => upd_ne n
      have un' : Un (frs X.stack) [] H (era H' c) s.heap s'.heap := by
        refine ⟨fun b ob z n hb hx => ?_, fun b ob z n hb hx => ?_, fun b ob z n hx => ?_, fun b ob z hx => un.there b ob z hx, fun b xs z => ?_, fun b ob xs z => ?_, fun b xs z => ?_⟩
        · by_cases hbc : b = c
          · subst hbc; rw [ho] at z; cases z; exact hok.knw hcF
          · exact un.keep b ob z (by rw [up hbc]; exact n) hb hx
        · by_cases hbc : b = c
          · subst hbc; rw [ho] at z; cases z; exact ⟨o.slots, hok.knw hcF⟩
          · exact un.slot b ob z (by rw [up hbc]; exact n) hb hx
        · by_cases hbc : b = c
          · subst hbc; exact era_same
          · rw [era_ne hbc]; exact un.free b ob z (by rw [up hbc]; exact n) hx
        · have hbc := ne_of_none z nc
          rw [era_ne hbc]; exact un.tups b xs (by rw [up hbc]; exact z)
        · have hbc := ne_of_none z nc
          rw [era_ne hbc]; exact un.frzs b ob xs (by rw [up hbc]; exact z)
        · have hbc := ne_of_none z nc
          rw [era_ne hbc]; exact un.tbls b xs (by rw [up hbc]; exact z)
      exact ⟨v, era H' c, I.call' os un' (hok.era hcF) bare (fun b z => absurd z (by simp)), rv, q⟩
def tCallC (sp : Sp) (i : Nat) (c : Addr) (t : TA) : TE := fun σ H Q => t σ H fun vs H1 => ∃ v, σ[i]? = some (some v) ∧ ∀ (u : Value) (o : Obj), RelV v u → o.data = .cell (some u) → H1 c = none → sp vs (upd H1 c (known o)) (fun r H2 => Q r (era H2 c)) E0
theorem pe_callC (F : Has X.prog X.w X.K X.mg X.base x k ps sp) (hr : Room j X.A) (ha : PA X (e :: es) t) (y : Str) (hN : X.N[i]? = some y) (hy : X.env.kindOf y = some .cell) (hc : X.env.cells.lookup y = some c) (hf : X.fn y = true)
    (hk : k ≤ j := by decide) (hg : Gl X x := by rfl) (hdb : (x == ("__debug__" : Str)) = false := by decide) (he : starEach (e :: es) X.env = (false, eval e X.env) :: starEach es X.env := by rfl) (hpl : (backTo pos (starEach es X.env)).any (·.1) = false := by rfl) :
    PE X (.Call (.Name x p) (e :: es) [] pos) (tCallC sp i c t) := by
  intro pins s σ H Q I h
  obtain ⟨f, fd, hm, kp, hb, F⟩ := F
  refine wpAny_Call_Name_kw (ld_glob I hg hm ?_ hdb)
  refine PySem.W.callWith_K (h₀ := X.base) I.ok.mod.kin kp (thn (ha pos pins s σ H _ I h) fun us s1 ⟨vs, H1, I1, r, v, hv, q⟩ => ⟨I1.kIn, ?_⟩) he hpl
  obtain ⟨m, hn, hl⟩ := I1.loc
  obtain ⟨u, ru, l⟩ := hl i y v hN hv (.inr (.inl hy))
  rcases l with ⟨z, _⟩ | ⟨_, c', hc', o, ho, hd⟩
  · rw [hy] at z; cases z
  · rw [hc] at hc'; cases hc'
    exact run_fnC F (hr.mono hk) hb I1 hc hf ho r (q u o ru hd (I1.freeC y c hc))
def FnAt (K : PySem.W.Frag) (H : Hp) (f : Addr) : Prop := PySem.W.keepIn K (.ref f) = true ∨ ∃ o fd, H f = some (known o) ∧ o.data = .func fd
def tCallV (X : Cx) (j : Nat) (tv : TE) (t : TA) : TE := fun σ H Q => tv σ H fun v H0 => ∃ (f : Addr) (fd : FuncData) (ps : List Str) (sp : Sp) (k : Nat), v = .ref f ∧ k ≤ j ∧ FnOk X.prog X.w X.K X.mg X.base CX0 k f fd ps sp ∧ Binds X.K fd ps [] ∧
  t σ H0 fun vs H1 => FnAt X.K H1 f ∧ sp vs H1 Q E0
theorem pe_callV {tv : TE} (hv : PE X (.Name x p) tv) (hr : Room j X.A) (ha : PA X (e :: es) t)
    (he : starEach (e :: es) X.env = (false, eval e X.env) :: starEach es X.env := by rfl) (hpl : (backTo pos (starEach es X.env)).any (·.1) = false := by rfl) :
    PE X (.Call (.Name x p) (e :: es) [] pos) (tCallV X j tv t) := by
  intro pins s σ H Q I h
  refine wpAny_Call_Name_kw (thn (hv pins s σ H _ I h) fun u s1 ⟨v, H0, I0, rv, f, fd, ps, sp, k, ev, hk, F, hb, q⟩ => ?_)
  subst ev
  obtain rfl : u = Value.ref f := rv
  show wpAny _ _ (callWith pos (.ref f) [] (backTo pos (starEach (e :: es) X.env)) []) _ _ s1
  have main : wpAny (model X.prog X.w) X.A (spliced (backTo pos (starEach (e :: es) X.env))) (fun us s2 => (∃ k, (k = Keeper.frame ∨ k = Keeper.machine ∨ k = Keeper.boundFrame) ∧ PySem.W.Looks (model X.prog X.w) s2.heap (keeperOf (.ref f)) k) ∧ wpAny (model X.prog X.w) X.A (call (.ref f) ([] ++ us)) (EP X pins σ Q) X.xe s2) X.xe s1 := by
    refine thn (ha pos pins s1 σ H0 _ I0 q) fun us s2 ⟨vs, H1, I1, r, fa, q2⟩ => ⟨?_, ?_⟩
    · rcases fa with kp | ⟨o, fd', hf, hd⟩
      · exact PySem.W.keeps_K kp _ I1.kIn
      · have hg := I1.hok.knw hf
        obtain ⟨oc, od, dt, sl⟩ := o
        cases hd
        exact ⟨.frame, .inl rfl, (PySem.W.Looks.ld (part := none) hg).andThen .now⟩
    · exact run_fn (E := E0) (dvs := []) (ds := []) (CX := CX0) F (hr.mono hk) hb .nil pass0 I1 r (by rw [List.append_nil]; exact q2)
  rw [he] at main ⊢
  exact PySem.W.callWith_of (by show ((false || (backTo pos (starEach es X.env)).any (·.1)) || false) = false; rw [hpl]; rfl) (fun _ z => z) (PySem.Calls.evalArgs_plain main)
end
def CodeO (qual : Str) (oc : Obj) : Prop := ∃ vs t, oc.data = .fields vs ∧ vs[1]? = some (.str qual t)
def LamTab (T : Addr) (qual : Str) (pos : Pos) (H : Hp) : Prop := ∃ ps, H T = some (.tbl ps) ∧ (ps = #[] ∨ ∃ (c : Addr) (oc : Obj), ps = #[rawInt pos.line, rawInt pos.col, .ref c] ∧ H c = some (known oc) ∧ CodeO qual oc)
def SamT (T : Addr) (H H' : Hp) : Prop := ∀ b o, b ≠ T → H b = some o → H' b = some o
abbrev lamFn (qual : Str) (params : Arguments) (body : Expr) (scope : Scope) (cl : List (Str × Addr)) (pm : Value) (c : Addr) (ctv : Value) : FuncData := PySem.W.kla_fn "<lambda>" qual params body scope cl pm (.ref c) ctv
def Clo (qual : Str) (params : Arguments) (body : Expr) (scope : Scope) (cl : List (Str × Addr)) (fd : FuncData) (H : Hp) (f : Addr) : Prop :=
  ∃ (pm ctv : Value) (c : Addr) (oc : Obj), fd = lamFn qual params body scope cl pm c ctv ∧ H f = some (known { cls := .type "function", data := .func fd }) ∧ H c = some (known oc) ∧ CodeO qual oc
def BMain (mg : Str → Option Value) (base : Heap) : Prop := ∃ bm ob, mg "__builtins__" = some (.ref bm) ∧ bm ≠ builtinsNs ∧ base.get? bm = some ob ∧ ob.cls = .type "module" ∧ ob.dict = some builtinsNs ∧ ob.data = .plain
theorem SamT.refl (T : Addr) (H : Hp) : SamT T H H := fun _ _ _ h => h
theorem SamT.trans {T : Addr} {H H1 H2 : Hp} (a : SamT T H H1) (b : SamT T H1 H2) : SamT T H H2 := fun c o n h => b c o n (a c o n h)
theorem Same.samT {T : Addr} {H H' : Hp} (a : Same H H') : SamT T H H' := fun c o _ h => a c o h
theorem LamTab.mono {T : Addr} {qual : Str} {pos : Pos} {H H' : Hp} (h : LamTab T qual pos H) (S : Same H H') : LamTab T qual pos H' := by
  obtain ⟨ps, e, z⟩ := h
  refine ⟨ps, S _ _ e, ?_⟩
  rcases z with z | ⟨c, oc, z, h1, h2⟩
  · exact .inl z
  · exact .inr ⟨c, oc, z, S _ _ h1, h2⟩
def tLam (T : Addr) (qual : Str) (pos : Pos) (params : Arguments) (body : Expr) (scope : Scope) (cl : List (Str × Addr)) : TE := fun _ H Q =>
  LamTab T qual pos H ∧ ∀ (f : Addr) (fd : FuncData) (H' : Hp), SamT T H H' → LamTab T qual pos H' → H f = none → Clo qual params body scope cl fd H' f → Q (.ref f) H'
section
variable {X : Cx}
theorem pe_lam {params : Arguments} {body : Expr} {scope : Scope} {pos : Pos} {T cc : Addr} {cl : List (Str × Addr)} {qual : Str} (hdef : defaultsOf params X.env = ([], [])) (hq : X.env.qual ++ "<lambda>" = qual) (hcl : closureFor scope X.env = pure cl) (hcode : X.env.code = .ref cc) (C : PySem.W.CodeHd X.base cc T) (B : BMain X.mg X.base) :
    PE X (.Lambda params body scope pos) (tLam T qual pos params body scope cl) := by
  subst hq
  intro pins s σ H Q I h
  obtain ⟨⟨ps, hT, hps⟩, q⟩ := h
  refine PySem.W.kla_eval hdef ?_
  have hTs : s.heap.get? T = some (PySem.W.tabObj ps) := I.hok T _ hT
  have hgs := I.mod.glob.keeps I.bk
  have nT : ∀ b o, X.base.get? b = some o → b ≠ T := fun b o e z => by
    have := (I.bs b o e).2
    rw [z, hT] at this; cases this
  have hgT : mainGlobals ≠ T := by
    obtain ⟨o, es, ep, e, _⟩ := I.mod.glob
    exact nT _ o e
  have hb : s.heap.BuiltinsAt X.mg T := by
    obtain ⟨bm, ob, b1, b2, b3, b4, b5, b6⟩ := B
    refine ⟨bm, ob, b1, b2, fun z => ?_, nT _ ob b3, I.bk _ _ b3, b4, b5, b6⟩
    obtain ⟨o, es, ep, e, hd, _⟩ := I.mod.glob
    rw [z, e] at b3; cases b3; rw [hd] at b6; cases b6
  have hTl : T < s.heap.objs.size := Heap.lt_size hTs
  rcases hps with rfl | ⟨c, oc, rfl, hc, ho⟩
  · refine PySem.W.kla_makeFunction (mg := X.mg) hcl I.ok.glob hgs hcode (C.keeps I.bk) hTs trivial rfl hgT hb fun c ctv h' tk hx hge hlt hrec htb => ?_
    obtain ⟨c₂, oc, vs, t, e2, hoc, hd, hv⟩ := hrec
    cases e2
    have fr : ∀ {b : Addr}, s.heap.objs.size ≤ b → H b = none := fun hb => I.hok.fresh hb
    have hc0 : H c = none := fr hge
    have hf0 : H h'.objs.size = none := fr (Nat.le_trans hge (Nat.le_of_lt hlt))
    have ncT : T ≠ c := Nat.ne_of_lt (Nat.lt_of_lt_of_le hTl hge)
    have nfT : T ≠ h'.objs.size := Nat.ne_of_lt (Nat.lt_of_lt_of_le hTl (Nat.le_trans hge (Nat.le_of_lt hlt)))
    have ncf : c ≠ h'.objs.size := Nat.ne_of_lt hlt
    let fo : Obj := PySem.W.kla_obj "<lambda>" (X.env.qual ++ "<lambda>") params body scope cl ((X.mg "__name__").getD .none) c ctv
    have kp : ∀ b o, b ≠ T → s.heap.get? b = some o → (h'.push fo).get? b = some o := fun b o n e => Heap.get?_push_of_some _ (hx b o n e)
    let tb : Array Value := #[] ++ #[rawInt pos.line, rawInt pos.col, .ref c]
    let H' : Hp := upd (upd (upd H T (.tbl tb)) c (known oc)) h'.objs.size (known fo)
    have atf : H' h'.objs.size = some (known fo) := upd_same
    have atc : H' c = some (known oc) := by show upd _ _ _ _ = _; rw [upd_ne ncf]; exact upd_same
    have atT : H' T = some (.tbl tb) := by show upd _ _ _ _ = _; rw [upd_ne nfT, upd_ne ncT]; exact upd_same
    have els : ∀ b, b ≠ T → b ≠ c → b ≠ h'.objs.size → H' b = H b := fun b n1 n2 n3 => by show upd _ _ _ _ = _; rw [upd_ne n3, upd_ne n2, upd_ne n1]
    have S : SamT T H H' := fun b o n e => by rw [els b n (ne_of_none e hc0) (ne_of_none e hf0)]; exact e
    have hTn : (h'.push fo).get? T = some (PySem.W.tabObj tb) := Heap.get?_push_of_some _ htb
    have un : Un X.fs [] H H' s.heap (h'.push fo) := by
      refine ⟨fun b ob z n hb hx => kp b ob (fun y => by rw [y, hT] at n; cases n) z, fun b ob z n hb hx => ⟨ob.slots, kp b ob (fun y => by rw [y, hT] at n; cases n) z⟩, fun b ob z n hx => ?_, fun b ob z hx => ?_, fun b xs z => S b _ (ne_of z hT (by intro y; cases y)) z, fun b ob xs z => S b _ (ne_of z hT (by intro y; cases y)) z, fun b xs z => ?_⟩
      · have l := Heap.lt_size z
        rw [els b (fun y => by rw [y, hT] at n; cases n) (Nat.ne_of_lt (Nat.lt_of_lt_of_le l hge)) (Nat.ne_of_lt (Nat.lt_of_lt_of_le l (Nat.le_trans hge (Nat.le_of_lt hlt))))]
        exact n
      · by_cases hb : b = T
        · exact ⟨_, by rw [hb]; exact hTn⟩
        · exact ⟨ob, kp b ob hb z⟩
      · by_cases hb : b = T
        · subst hb
          rw [hT] at z; cases z
          exact ⟨_, atT⟩
        · exact ⟨#[], by rw [S b _ hb z]; simp⟩
    have hok : HOk X.prog X.w H' (h'.push fo) := fun b u z => by
      by_cases h1 : b = h'.objs.size
      · subst h1; rw [atf] at z; cases z
        exact known_ok (Heap.get?_push_size _ rfl)
      · by_cases h2 : b = c
        · subst h2; rw [atc] at z; cases z
          exact known_ok (Heap.get?_push_of_some _ hoc)
        · by_cases h3 : b = T
          · subst h3; rw [atT] at z; cases z
            exact hTn
          · rw [els b h3 h2 h1] at z
            refine (I.hok b u z).stay (fun y v hy e => kp y v ?_ e) (fun y e => S y _ (ne_of e hT (by intro z; cases z)) e) fun y xs e => S y _ (ne_of e hT (by intro z; cases z)) e
            rcases hy with rfl | hy
            · exact h3
            · exact ne_of hy hT (by intro z; cases z)
    exact ⟨.ref h'.objs.size, H', I.un un hok, rfl, q _ _ H' S ⟨tb, atT, .inr ⟨c, oc, by show #[] ++ _ = _; rw [Array.empty_append], atc, vs, t, hd, hv⟩⟩ hf0 ⟨_, _, c, oc, rfl, atf, atc, vs, t, hd, hv⟩⟩
  · refine PySem.W.kla_makeFunctionHit (mg := X.mg) (cv := .ref c) hcl I.ok.glob hgs hcode (C.keeps I.bk) hTs (by simp [TriplesOk, rawInt]) (by simp [codeAmong, rawInt]) hb fun ctv h' tk hk hsz => ?_
    have hf0 : H h'.objs.size = none := I.hok.fresh hsz
    have S : Same H (upd H h'.objs.size (known { cls := .type "function", data := .func (lamFn (X.env.qual ++ "<lambda>") params body scope cl ((X.mg "__name__").getD .none) c ctv) })) := fun b o e => by rw [upd_ne (ne_of_none e hf0)]; exact e
    refine ⟨.ref h'.objs.size, _, I.laid (fun b u e => Heap.get?_push_of_some _ (hk b u e)) hsz (o := known { cls := .type "function", data := .func (lamFn (X.env.qual ++ "<lambda>") params body scope cl ((X.mg "__name__").getD .none) c ctv) }) (known_ok (Heap.get?_push_size _ rfl)), rfl, q _ _ _ S.samT (LamTab.mono ⟨_, hT, .inr ⟨c, oc, rfl, hc, ho⟩⟩ S) hf0 ⟨_, _, c, oc, rfl, upd_same, S _ _ hc, ho⟩⟩
end
def cxLam (P : Program) (w : World) (K : PySem.W.Frag) (mg : Str → Option Value) (base : Heap) (N : List Str) (qual : Str) (scope : Scope) (f : Addr) (cd : Value) (cl : List (Str × Addr)) (A : Around) (outer : List Env) (s : Shared) (H : Hp) : Cx where
  prog := P
  w := w
  K := K
  mg := mg
  base := base
  A := A.deeper (PySem.W.envX qual scope s.heap.objs.size f cd cl)
  N := N
  s₀ := s
  H₀ := H
  env := PySem.W.envX qual scope s.heap.objs.size f cd cl
  outer := outer
  stack := PySem.W.envX qual scope s.heap.objs.size f cd cl :: outer
  ex := []
  calm := true
  fn := fun _ => false
  pn := []
  xe := fun _ _ => False
structure LamScope (ps : List Str) (y : Str) (sc : Scope) : Prop where
  kind : sc.kind = .function
  co : sc.isCoroutine = false
  gen : sc.isGenerator = false
  nd : (ps ++ [y]).Nodup
  par : ∀ x ∈ ps, sc.names.lookup x = some .local
  nocell : ∀ z ∈ sc.names, z.2 ≠ .cell
  free : ∀ z ∈ sc.names, z.2 = .free → z.1 = y
  fy : sc.names.lookup y = some .free
theorem zip_rev_get {x : Str} {u : Value} : ∀ {ps : List Str} {us : List Value} {i : Nat}, ps.Nodup → ps[i]? = some x → us[i]? = some u → (ps.zip us).reverse.lookup x = some u
  | [], _, i, _, h, _ => by simp at h
  | _ :: _, [], i, _, _, h => by simp at h
  | p :: ps, v :: us, 0, nd, h1, h2 => by
    simp at h1 h2; subst h1; subst h2
    rw [List.zip_cons_cons, List.reverse_cons, List.lookup_append]
    have : (ps.zip us).reverse.lookup p = none := by
      rw [List.lookup_eq_none_iff]
      intro a ha
      rw [List.mem_reverse] at ha
      obtain ⟨a1, a2⟩ := a
      have := (List.of_mem_zip ha).1
      simp only [bne_iff_ne, ne_eq]
      rintro rfl
      exact (List.nodup_cons.mp nd).1 this
    rw [this]
    simp
  | p :: ps, v :: us, i + 1, nd, h1, h2 => by
    rw [List.zip_cons_cons, List.reverse_cons, List.lookup_append, zip_rev_get (i := i) (List.nodup_cons.mp nd).2 (by simpa using h1) (by simpa using h2)]
    rfl
def spLam (P : Program) (w : World) (K : PySem.W.Frag) (mg : Str → Option Value) (base : Heap) (k : Nat) (qual : Str) (body : Expr) (scope : Scope) (y : Str) (c : Addr) (ps : List Str) (f : Addr) (cd : Addr) (oc : Obj) (fo : Obj) : Sp := fun vs H Q _ =>
  vs.length = ps.length ∧ H f = some (known fo) ∧ H cd = some (known oc) ∧ ∃ (o : Obj) (v : V) (u : Value), H c = some (known o) ∧ o.data = .cell (some u) ∧ RelV v u ∧
    ∀ (A : Around) (outer : List Env) (s : Shared), Room k (A.deeper (PySem.W.envX qual scope s.heap.objs.size f (.ref cd) [(y, c)])) →
      ∃ t, PE (cxLam P w K mg base (ps ++ [y]) qual scope f (.ref cd) [(y, c)] A outer s (era H c)) body t ∧ t ((vs ++ [v]).map some) (era H c) fun r H' => H' c = none → Q r (upd H' c (known o))
theorem clo_fn {P : Program} {w : World} {K : PySem.W.Frag} {mg : Str → Option Value} {base : Heap} {k : Nat} {qual : Str} {params : Arguments} {body : Expr} {scope : Scope} {y : Str} {c cd : Addr} {ps : List Str} {f : Addr} {oc : Obj} {pm ctv : Value}
    (S : LamScope ps y scope) (hoc : CodeO qual oc) :
    FnOk P w K mg base CX0 (k + 1) f (lamFn qual params body scope [(y, c)] pm cd ctv) ps (spLam P w K mg base k qual body scope y c ps f cd oc { cls := .type "function", data := .func (lamFn qual params body scope [(y, c)] pm cd ctv) }) := by
  refine ⟨fun vs H Q E h => h.1, fun A outer s H args us vs Q E hr e0 hb r hsp => ?_⟩
  obtain ⟨hl, hf, hcd, o, v, u, hc, hod, rv, hbody⟩ := hsp
  have lim : s.heap.NoLimit := e0.mod.nolimit.keeps fun b o e => (e0.bs b o e).1
  have hul : us.length = ps.length := by rw [← r.length]; exact hl
  have hcs := e0.hok.knw hc
  obtain ⟨vs', t', hd', hv'⟩ := hoc
  refine PySem.W.kla_callFunE hr.depth (e0.hok.knw hf) rfl S.co S.gen rfl ⟨cd, oc, vs', t', rfl, e0.hok.knw hcd, hd', hv'⟩ (hb _ _ _ _ ?_)
  refine wpAny_newFunctionEnv S.nocell (fun ⟨z1, z2⟩ hz => S.par _ (List.of_mem_zip hz).1) (fun h₁ hns hsb => ?_) S.kind
  have hk₁ : ∀ b ob, s.heap.get? b = some ob → h₁.get? b = some ob := fun b ob e => hsb.extBut b ob (Nat.ne_of_lt (Heap.lt_size e)) (Heap.get?_push_of_some _ e)
  refine ⟨lim.keeps hk₁, ?_⟩
  show codeAny _ _ (.expr body (PySem.W.envX qual scope s.heap.objs.size f (.ref cd) [(y, c)])) _ _
  obtain ⟨t, ht, hq⟩ := hbody A outer s (hr.deeper _)
  have lk : ∀ z d, ([(y, c)] : List (Str × Addr)).lookup z = some d → z = y ∧ d = c := fun z d e => by
    rw [List.lookup_cons] at e
    cases hz : z == y with
    | true => rw [hz] at e; cases e; exact ⟨eq_of_beq hz, rfl⟩
    | false => rw [hz] at e; cases e
  have I : Inv (cxLam P w K mg base (ps ++ [y]) qual scope f (.ref cd) [(y, c)] A outer s (era H c)) [] ((vs ++ [v]).map some) (era H c) { s with heap := h₁, toks := s.toks + (ps.zip us).length } := by
    have noA : ∀ b : Addr, b ∉ (cxLam P w K mg base (ps ++ [y]) qual scope f (.ref cd) [(y, c)] A outer s (era H c)).ex := fun b z => absurd (show b ∈ ([] : List Addr) from z) (by simp)
    refine ⟨⟨e0.mod, S.kind, rfl, rfl, Nat.le_refl _, fun a b d h1 h2 => ?_, fun a ha => ?_, fun a d z _ => absurd (show false = true from z) Bool.false_ne_true, fun _ => hr.hd, Around.frames_deeper e0.frames, .inr ⟨rfl, rfl⟩, fun b z => absurd z (noA b), fun b ob e => ⟨(e0.bs b ob e).1, era_none (e0.bs b ob e).2⟩, e0.bsz, fun b _ _ => noA b, fun b z => absurd z (noA b), e0.funs, fun b hb => era_none (e0.frf b hb)⟩,
      rfl, e0.bare, Un.kept hk₁, ⟨_, hns, fun i a vv h1 h2 h3 => ?_⟩, fun a d h => ?_, era_none (e0.hok.fresh (Nat.le_refl _)), fun a d h => ?_, fun p hp => absurd (show p ∈ ([] : List (Addr × Obj)) from hp) (by simp), (e0.hok.era hc).kept hk₁, ?_⟩
    · rw [(lk a d h1).1, (lk b d h2).1]
    · have ha : scope.names.lookup a = some .cell ∨ scope.names.lookup a = some .free := ha
      rcases ha with ha | ha
      · exact absurd rfl (S.nocell _ (PySem.mem_of_lookup ha))
      · have : a = y := S.free _ (PySem.mem_of_lookup ha) rfl
        subst this
        exact ⟨c, by show ([(a, c)] : List (Str × Addr)).lookup a = some c; simp⟩
    · rw [List.getElem?_map] at h2
      obtain ⟨v2, h2, e2⟩ := Option.map_eq_some_iff.mp h2
      cases e2
      have h1 : (ps ++ [y])[i]? = some a := h1
      by_cases hi : i < ps.length
      · rw [List.getElem?_append_left hi] at h1
        rw [List.getElem?_append_left (by omega)] at h2
        obtain ⟨u2, hu2, r2⟩ := r.get h2
        refine ⟨u2, r2, .inl ⟨S.par a (List.mem_of_getElem? h1), ?_⟩⟩
        exact zip_rev_get (S.nd.sublist (List.sublist_append_left _ _)) h1 hu2
      · have hi' : i = ps.length := by
          have := (List.getElem?_eq_some_iff.mp h1).1
          simp at this
          omega
        subst hi'
        rw [List.getElem?_append_right (Nat.le_refl _), Nat.sub_self] at h1
        rw [List.getElem?_append_right (by omega), hl, Nat.sub_self] at h2
        simp at h1 h2
        subst h1; subst h2
        exact ⟨u, rv, .inr ⟨.inr S.fy, c, by show ([(y, c)] : List (Str × Addr)).lookup y = some c; simp, o, hk₁ _ _ hcs, hod⟩⟩
    · obtain ⟨_, rfl⟩ := lk a d h
      exact ⟨_, o, hk₁ _ _ hcs, hod⟩
    · obtain ⟨_, rfl⟩ := lk a d h
      exact era_same
    · show ((vs ++ [v]).map some).length = (ps ++ [y]).length
      simp [hl]
  refine PySem.W.kla_codeExpr (wpAny_mono (ht [] _ _ _ _ I hq) (fun rr s' hs => ?_) fun e s' hs => False.elim hs)
  obtain ⟨x', H', J, rx, qx⟩ := hs
  have hfsc : c ∉ frs outer := fun z => by
    have := e0.frf c z
    rw [hc] at this; cases this
  have hcs' : s'.heap.get? c = some o := J.base.keep c o hcs era_same hfsc (fun z => absurd (show c ∈ ([] : List Addr) from z) (by simp))
  have hc0 : H' c = none := J.base.free c o hcs era_same (fun z => absurd (show c ∈ ([] : List Addr) from z) (by simp))
  have nz : ∀ {b : Addr} {q : HO}, H b = some q → q ≠ known o → b ≠ c := fun e n => ne_of e hc n
  refine ⟨x', upd H' c (known o), J.os, J.bare, ?_, J.hok.track hc0 hcs', rx, qx hc0⟩
  have un : Un (frs outer) [] (era H c) H' s.heap s'.heap := J.base
  refine ⟨fun b ob z n hb hx => un.keep b ob z (era_none n) hb hx, fun b ob z n hb hx => un.slot b ob z (era_none n) hb hx, fun b ob z n hx => ?_, fun b ob z hx => un.there b ob z hx, fun b xs z => ?_, fun b ob xs z => ?_, fun b xs z => ?_⟩
  · have hbc : b ≠ c := fun y => by rw [y, hc] at n; cases n
    rw [upd_ne hbc]
    exact un.free b ob z (era_none n) hx
  · have hbc := ne_of z hc (by intro y; cases y)
    rw [upd_ne hbc]
    exact un.tups b xs (by rw [era_ne hbc]; exact z)
  · by_cases hbc : b = c
    · subst hbc
      rw [hc] at z; cases z
      exact upd_same
    · rw [upd_ne hbc]
      exact un.frzs b ob xs (by rw [era_ne hbc]; exact z)
  · have hbc := ne_of z hc (by intro y; cases y)
    rw [upd_ne hbc]
    exact un.tbls b xs (by rw [era_ne hbc]; exact z)
end L2
set_option Elab.async false
set_option linter.all false
set_option maxRecDepth 100000
set_option maxHeartbeats 4000000
namespace L2
open PySem PySem.Spec PyProof.Rows
abbrev Tabs := List (Addr × Addr)
def KeepB (h base : Heap) : Prop := ∀ b o, h.get? b = some o → (∀ xs n, o.data ≠ .seq xs n) → (∀ vs, o.data ≠ .fields vs) → base.get? b = some o
def tabAt (ts : Tabs) (a : Addr) (u : Option HO) : Hp := fun b => if b ∈ ts.map (·.2) then some (.tbl #[]) else if b = a then u else none
theorem head_tabs {P : Program} {w : World} {K : PySem.W.Frag} {mg mb : Str → Option Value} {k : Nat} {fa a : Addr} {fd : FuncData} {x : Str} {sp : Sp} {s₁ : Shared} {vs : List Value} {ns : List Int} {ts : Tabs}
    (KX : K.In s₁.heap) (hns : s₁.heap.Ns mainGlobals mg) (hbn : s₁.heap.Ns builtinsNs mb) (hbb : ∀ x : Str, x ≠ "__name__" → mb x = bootBuiltins x) (hlim : s₁.heap.NoLimit) (hg : s₁.gens = #[]) (hT : PySem.W.TabsAt ts s₁.heap) (hnt : PySem.W.noTabs K = true) (hbm : BMain mg s₁.heap)
    (ha : s₁.heap.get? a = some { cls := .type "list", data := .seq vs.toArray }) (hi : IntsAre vs ns) (hl : ns.length ≤ sizeLine) (hr : Room k callerA)
    (F : ∀ base : Heap, K.In base → base.Ns mainGlobals mg → BMain mg base → (∀ q ∈ ts, PySem.W.CodeHd base q.1 q.2) → KeepB s₁.heap base → FnOk P w K mg base CX0 k fa fd [x] sp) (hbind : ∀ (s : Shared) (u : Value), BindsTo s fd ⟨[u], []⟩ [(x, u)])
    (hsp : ∀ H : Hp, (∀ q ∈ ts, H q.2 = some (.tbl #[])) → SqL K H a (ns.map V.int) → sp [.ref a] H (fun v _ => v = .bl true) fun _ _ _ => False) :
    codeAny (model P w) callerA (.call (.ref fa) ⟨[.ref a], []⟩) (fun r s' => r = .ok (.ret (.bool true)) ∧ OldK s₁.heap s'.heap ∧ s'.os = s₁.os ∧ AllBare s'.gens) s₁ := by
  have rv := vals_ints hi
  have lenV := hi.length
  have atTab : ∀ {b : Addr}, b ∈ ts.map (·.2) → s₁.heap.get? b = some (PySem.W.tabObj #[]) := fun hb => by
    obtain ⟨q, hq, rfl⟩ := List.mem_map.mp hb
    exact (hT q hq).2
  have naT : a ∉ ts.map (·.2) := fun z => by
    have := atTab z
    rw [ha] at this
    cases this
  have kT : ∀ {b : Addr} {o : Obj}, K.lookup b = some o → b ∉ ts.map (·.2) := fun {b o} e z => by
    have e1 := atTab z
    rw [KX b o e] at e1
    have h2 := List.all_eq_true.mp hnt (b, o) (PySem.W.mem_of_lookupK e)
    cases e1
    exact absurd (show false = true from h2) Bool.false_ne_true
  have core : ∀ u : Option HO, SqL K (tabAt ts a u) a (ns.map V.int) → (∀ v, u = some v → ∃ ob xs, v = .frz ob (.lst xs)) → HOk P w (tabAt ts a u) s₁.heap → (u ≠ none → K.lookup a = none) →
      codeAny (model P w) callerA (.call (.ref fa) ⟨[.ref a], []⟩) (fun r s' => r = .ok (.ret (.bool true)) ∧ OldK s₁.heap s'.heap ∧ s'.os = s₁.os ∧ AllBare s'.gens) s₁ := by
    intro u hS hu hok hK
    have tT : ∀ {b : Addr}, b ∈ ts.map (·.2) → tabAt ts a u b = some (.tbl #[]) := fun hb => if_pos hb
    have tA : tabAt ts a u a = u := by unfold tabAt; rw [if_neg naT, if_pos rfl]
    have tN : ∀ {b : Addr}, b ∉ ts.map (·.2) → b ≠ a → tabAt ts a u b = none := fun h1 h2 => by unfold tabAt; rw [if_neg h1, if_neg h2]
    have un0 : ∀ {b : Addr} {o : Obj}, s₁.heap.get? b = some o → o.cls ≠ .none → o.cls ≠ .type "list" → tabAt ts a u b = none := fun {b o} e h1 h2 => by
      refine tN (fun z => ?_) fun z => ?_
      · have := atTab z; rw [e] at this; cases this; exact h1 rfl
      · subst z; rw [ha] at e; cases e; exact h2 rfl
    have base_of : ∀ {b : Addr} {o : Obj}, s₁.heap.get? b = some o → tabAt ts a u b = none → (hidT s₁.heap (tabAt ts a u)).get? b = some o := fun e n => hidT_get e n
    have nsK : ∀ {b : Addr} {m : Str → Option Value}, s₁.heap.Ns b m → (hidT s₁.heap (tabAt ts a u)).Ns b m := fun {b m} ⟨o, es, ep, e, d, r⟩ => by
      refine ⟨o, es, ep, base_of e (tN (fun z => ?_) fun z => ?_), d, r⟩
      · have := atTab z; rw [e] at this; cases this; cases d
      · subst z; rw [ha] at e; cases e; cases d
    have hKb : K.In (hidT s₁.heap (tabAt ts a u)) := fun b o e => base_of (KX b o e) (by
      by_cases hb : b = a
      · subst hb
        rw [tA]
        cases hu' : u with
        | none => rfl
        | some v => rw [hK (by rw [hu']; simp)] at e; cases e
      · exact tN (kT e) hb)
    have hM : Mod K mg (hidT s₁.heap (tabAt ts a u)) := ⟨hKb, nsK hns, ⟨mb, nsK hbn, hbb⟩, let ⟨mc, h1, h2⟩ := hlim; ⟨mc, nsK h1, h2⟩⟩
    have e0 : Env0 P w K mg (hidT s₁.heap (tabAt ts a u)) callerA [] s₁ (tabAt ts a u) := ⟨rfl, hM, fun b o e => of_hidT e, Nat.le_of_eq (hidT_size _ _), trivial, fun b hb => absurd (show b ∈ ([] : List Addr) from hb) (by simp), hok, .of_eq hg⟩
    have hB : BMain mg (hidT s₁.heap (tabAt ts a u)) := by
      obtain ⟨bm, ob, b1, b2, b3, b4, b5⟩ := hbm
      exact ⟨bm, ob, b1, b2, base_of b3 (un0 b3 (by rw [b4]; nofun) (by rw [b4]; intro z; injection z with z; exact absurd z (by decide))), b4, b5⟩
    have hC : ∀ q ∈ ts, PySem.W.CodeHd (hidT s₁.heap (tabAt ts a u)) q.1 q.2 := fun q hq => by
      obtain ⟨o, vs, file, tf, flags, tg, inF, text, tt, e1, e2, r⟩ := (hT q hq).1
      exact ⟨o, vs, file, tf, flags, tg, inF, text, tt, base_of e1 (un0 e1 (by rw [e2]; nofun) (by rw [e2]; intro z; injection z with z; exact absurd z (by decide))), e2, r⟩
    have hKB : KeepB s₁.heap (hidT s₁.heap (tabAt ts a u)) := fun b o e h1 h2 => base_of e (tN (fun z => by
      have e2 := atTab z
      rw [e] at e2
      cases e2
      exact h2 _ rfl) fun z => by
      subst z
      rw [ha] at e
      cases e
      exact h1 _ _ rfl)
    refine codeAny_mono ((F _ hKb (nsK hns) hB hC hKB).run callerA [] s₁ (tabAt ts a u) ⟨[.ref a], []⟩ [.ref a] [.ref a] _ _ hr e0 (hbind s₁ (.ref a)) (.cons rfl .nil) (hsp _ (fun q hq => tT (List.mem_map_of_mem hq)) hS)) fun r s' h => ?_
    cases r with
    | error e => exact False.elim h
    | ok fl =>
      cases fl with
      | next => exact False.elim h
      | brk => exact False.elim h
      | cont => exact False.elim h
      | ret u' =>
        obtain ⟨v, H', os, bare, un, hok', r', q⟩ := h
        have q' : v = .bl true := q
        subst q'
        obtain rfl : u' = Value.bool true := r'
        have nfs : ∀ b : Addr, b ∉ frs ([] : List Env) := fun b z => absurd (show b ∈ ([] : List Addr) from z) (by simp)
        have fin : ∀ b o, s₁.heap.get? b = some o → b ∉ ts.map (·.2) → s'.heap.get? b = some o := fun b o e hb => by
          by_cases hba : b = a
          · subst hba
            cases hu' : u with
            | none => exact un.keep b o e (by rw [tA, hu']) (nfs b) (by simp)
            | some v =>
              obtain ⟨ob, xs, rfl⟩ := hu v hu'
              have z : tabAt ts b u b = some (.frz ob (.lst xs)) := by rw [tA, hu']
              obtain ⟨e1, _⟩ := hok b _ z
              obtain ⟨e2, _⟩ := hok' b _ (un.frzs b ob _ z)
              rw [e] at e1; cases e1
              exact e2
          · exact un.keep b o e (tN hb hba) (nfs b) (by simp)
        have grown : ∀ b o, s₁.heap.get? b = some o → b ∈ ts.map (·.2) → isCodeTable s₁.heap b ∧ o = PySem.W.tabObj #[] ∧ ∃ ps, s'.heap.get? b = some (PySem.W.tabObj ps) := fun b o e hb => by
          have hb' := hb
          obtain ⟨q, hq, rfl⟩ := List.mem_map.mp hb'
          have e2 := (hT q hq).2
          rw [e] at e2
          obtain ⟨more, e3⟩ := un.tbls q.2 #[] (tT hb)
          exact ⟨((hT q hq).1.tab (hT q hq).2).isCodeTable, Option.some.inj e2, _, hok' q.2 _ e3⟩
        refine ⟨rfl, ⟨fun b o e => ?_, fun b o e => ?_⟩, os, bare⟩
        · by_cases hb : b ∈ ts.map (·.2)
          · obtain ⟨ht, rfl, ps, hP⟩ := grown b o e hb
            exact .inr (.inl ⟨ht, rfl, #[], ps, rfl, by rw [Array.empty_append]; exact hP⟩)
          · exact .inl (fin b o e hb)
        · by_cases hb : b ∈ ts.map (·.2)
          · obtain ⟨_, _, ps, hP⟩ := grown b o e hb
            exact ⟨_, hP⟩
          · exact ⟨o, fin b o e hb⟩
  have okT : ∀ (u : Option HO) (b : Addr) (v : HO), tabAt ts a u b = some v → (b ∈ ts.map (·.2) ∧ v = .tbl #[]) ∨ (b = a ∧ u = some v) := fun u b v z => by
    unfold tabAt at z
    split at z
    · cases z; exact .inl ⟨by assumption, rfl⟩
    · split at z
      · exact .inr ⟨by assumption, z⟩
      · cases z
  cases hk : K.lookup a with
  | some o =>
    have e := KX a o hk
    rw [ha] at e
    cases e
    refine core none (.inr ⟨_, vs.toArray, _, hk, rfl, rfl, rfl, by rw [List.size_toArray, lenV]; exact hl, by simpa using rv⟩) (fun v z => by cases z) (fun b v z => ?_) fun z => absurd rfl z
    rcases okT none b v z with ⟨hb, rfl⟩ | ⟨_, z⟩
    · exact atTab hb
    · cases z
  | none =>
    refine core (some (.frz { cls := .type "list", data := .seq vs.toArray } (.lst (ns.map V.int)))) (.inl (.inr ⟨{ cls := .type "list", data := .seq vs.toArray }, by unfold tabAt; rw [if_neg naT, if_pos rfl]⟩)) (fun v z => by cases z; exact ⟨_, _, rfl⟩) (fun b v z => ?_) fun _ => hk
    rcases okT _ b v z with ⟨hb, rfl⟩ | ⟨e1, e2⟩
    · exact atTab hb
    · subst e1
      cases e2
      exact ⟨ha, by rw [List.length_map]; exact hl, vs, _, rv, ha⟩
theorem walk_tabs {l : PySem.W.OpenLaw} {n k : Nat} {q : Program} {loose : List Str} {XP : (Str → Option Value) → Heap → Prop} {YP : World → Heap → Prop} {d : DefRec} {K : Params → PySem.W.Frag} {x : Str}
    (hn : l.most = some n) (hn2 : n ≤ sizeLine) (hdf : d.params.defaults = []) (hr : Room k callerA)
    (hY : ∀ (w : World) (h : Heap), YP w h → (K w.params).In h)
    (F : ∀ (w : World) (mg : Str → Option Value) (fa : Addr) (h : Heap), YP w h → (K w.params).In h → h.Ns mainGlobals mg → mg d.name = some (.ref fa) → (∀ (x : Str) (C : Addr) (bmB : List Value) (newId : String), PySem.W.nsIn (K w.params) mainGlobals x = some (some (.ref C)) → PySem.W.excIn (K w.params) C bmB newId = true → OwnCls x C bmB newId mg h) →
      ∃ (fd : FuncData) (ts : Tabs) (sp : Sp), PySem.W.TabsAt ts h ∧ PySem.W.noTabs (K w.params) = true ∧ (∀ (s : Shared) (u : Value), BindsTo s fd ⟨[u], []⟩ [(x, u)]) ∧
        (∀ base : Heap, (K w.params).In base → base.Ns mainGlobals mg → BMain mg base → (∀ q ∈ ts, PySem.W.CodeHd base q.1 q.2) → KeepB h base → FnOk l.prog w (K w.params) mg base CX0 k fa fd [x] sp) ∧
        ∀ (H : Hp) (a : Addr) (ns : List Int), ns.length ≤ n → (∀ q ∈ ts, H q.2 = some (.tbl #[])) → SqL (K w.params) H a (ns.map V.int) → sp [.ref a] H (fun v _ => v = .bl true) fun _ _ _ => False) :
    PySem.W.WalkO q loose XP YP l.row.toRowW d [] (fun f vs => PySem.call f vs) := by
  refine Att.attach_call hn hdf fun w s₀ s₁ mg mb fa o pm cd doc a vs ns G Y ho hd hcd hmg hobj hints hlen hg => ?_
  have KX := hY w _ Y
  obtain ⟨fd, ts, sp, hT, hnt, hb, hF, hsp⟩ := F w mg fa _ Y KX G.T.g hmg (fun x C bmB newId e q => PySem.W.own_of_in KX (PySem.W.topRead_of G.T) e q)
  exact head_tabs KX G.T.g G.T.b G.T.builtins G.T.nolimit hg hT hnt G.T.bmain hobj hints (Nat.le_trans hlen hn2) hr hF hb fun H hO hS => hsp H a ns hlen hO hS
end L2
set_option Elab.async false
set_option linter.all false
set_option maxRecDepth 100000
set_option maxHeartbeats 4000000
namespace L2
open PySem PySem.Spec PyProof.Rows
def LT (H H' : Hp) : Prop := (∀ b xs, H b = some (.lst xs) → H' b = some (.lst xs)) ∧ TupK H H'
theorem LT.refl (H : Hp) : LT H H := ⟨fun _ _ h => h, TupK.refl H⟩
theorem LT.trans {H H1 H2 : Hp} (a : LT H H1) (b : LT H1 H2) : LT H H2 := ⟨fun c xs h => b.1 c xs (a.1 c xs h), a.2.trans b.2⟩
theorem Same.lt {H H' : Hp} (S : Same H H') : LT H H' := ⟨fun b xs h => S _ _ h, S.tupK⟩
theorem SamT.lt {T : Addr} {H H' : Hp} {ps : Array Value} (S : SamT T H H') (h : H T = some (.tbl ps)) : LT H H' := ⟨fun b xs e => S b _ (ne_of e h (by intro z; cases z)) e, fun b xs e => S b _ (ne_of e h (by intro z; cases z)) e⟩
theorem era_lt {H : Hp} {c : Addr} {o : Obj} {u : HO} (h : H c = some (.frz o u)) : LT H (era H c) := ⟨fun b xs e => by rw [era_ne (ne_of e h (by intro z; cases z))]; exact e, fun b xs e => by rw [era_ne (ne_of e h (by intro z; cases z))]; exact e⟩
theorem RmAt.lt {H H' : Hp} {v : V} {r : Rm} (h : RmAt H v r) (S : LT H H') : RmAt H' v r := by
  obtain ⟨a, l, d, e, h1, h2, h3⟩ := h
  exact ⟨a, l, d, e, S.2 _ _ h1, S.1 _ _ h2, S.1 _ _ h3⟩
theorem WorldAt.lt {H H' : Hp} {a : Addr} {W : List Rm} (h : WorldAt H a W) (S : LT H H') : WorldAt H' a W := by
  obtain ⟨rs, e, p⟩ := h
  exact ⟨rs, S.1 _ _ e, Paired.mapP p fun _ _ q => q.lt S⟩
theorem FnAt.mono {K : PySem.W.Frag} {H H' : Hp} {f : Addr} (h : FnAt K H f) (S : Same H H') : FnAt K H' f := by
  rcases h with h | ⟨o, fd, h, e⟩
  · exact .inl h
  · exact .inr ⟨o, fd, S _ _ h, e⟩
theorem Fun.okC {P : Program} {w : World} {K : PySem.W.Frag} {mg : Str → Option Value} {base : Heap} {x qual : Str} {st : Stmt} {f cc : Addr} {fd : FuncData} {N ps : List Str} {k : Nat} {sp : Sp} (F : Fun K x qual st f fd) (S : FnScope N ps (defScope st)) (hcd : fd.code = .ref cc) (len : ∀ vs H Q E, sp vs H Q E → vs.length = ps.length)
    (hbody : ∀ (A : Around) (outer : List Env) (s : Shared) (H : Hp) (vs : List V) (Q : VK) (E : XK), Room k (A.deeper (envOfC qual (defScope st) s.heap.objs.size f (.ref cc))) → sp vs H Q E →
      ∃ t, PSs (cxOf CX0 P w K mg base N qual (defScope st) f (.ref cc) A outer s H E).nox (defBody st) t ∧ t { nx := fun _ H' => Q .non H', rt := Q } (start N vs) H) : FnOk P w K mg base CX0 (k + 1) f fd ps sp := by
  obtain ⟨oc, od, kV, doc, pm, an, cdv, ct, osl, rfl, lk, hc⟩ := F.ex
  obtain rfl : cdv = .ref cc := hcd
  refine fn_of lk hc S len fun A outer s H vs Q E hr hsp => ?_
  obtain ⟨t, h, q⟩ := hbody A outer s H vs Q E hr hsp
  exact ⟨t, h.nox, q⟩
section
variable {k : Nat} {caps : List Nat} {g : TG} {te : TE} {σ : St} {H1 : Hp} {K : PySem.W.Frag}
theorem comp_any {QD : Addr → Hp → Prop} {a : Addr} {xs : List V} (q : ∀ D, H1 D = none → ∃ W : Nat → List V → Hp → Prop, W 0 [] (upd H1 D (.lst [])) ∧ (∀ i ys H2, i ≤ xs.length → W i ys H2 → SqL K H2 a xs) ∧
      (∀ (i : Nat) (x : V) (H2 : Hp) (ys : List V) (C : V → Hp → Prop), xs[i]? = some x → W i ys H2 → (∀ y H6 zs, H6 D = some (.lst zs) → zs.length < sizeLine → W (i + 1) (ys ++ [y]) (upd H6 D (.lst (zs ++ [y]))) → C y H6) → g x (compSt k caps σ) H2 fun σ4 H4 => te σ4 H4 C) ∧
      ∀ (ys : List V) (H' : Hp), W xs.length ys H' → QD D H') :
    ∀ D, H1 D = none →
      ∃ W : Nat → Nat → List V → Hp → Prop, (∃ m, W 0 m [] (upd H1 D (.lst []))) ∧ ∀ i m ys H2, W i m ys H2 →
        ((Itl K a).stop i H2 ∧ QD D H2) ∨ ((Itl K a).go i H2 ∧ ∀ x H3, (Itl K a).yld i H2 x H3 → g x (compSt k caps σ) H3 fun σ4 H4 => tYes σ4 H4 fun b H5 =>
          if b = true then te σ4 H5 fun y H6 => ∃ zs, H6 D = some (.lst zs) ∧ zs.length < sizeLine ∧ ∃ m', m' < m ∧ W (i + 1) m' (ys ++ [y]) (upd H6 D (.lst (zs ++ [y])))
          else ∃ m', m' < m ∧ W (i + 1) m' ys H5) := by
  intro D hD
  obtain ⟨W, h0, hl, hs, hf⟩ := q D hD
  refine ⟨fun i m ys H2 => i ≤ xs.length ∧ m = xs.length - i ∧ W i ys H2, ⟨xs.length, Nat.zero_le _, rfl, h0⟩, ?_⟩
  rintro i m ys H2 ⟨hi, rfl, hw⟩
  have hq := hl i ys H2 hi hw
  by_cases hlt : i < xs.length
  · refine .inr ⟨⟨xs, xs[i], hq, by simp [hlt]⟩, fun x H3 hy => ?_⟩
    obtain ⟨e3, hy⟩ := hy
    subst e3
    exact hs i x H3 ys _ (hy xs hq) hw fun y H6 zs e1 e2 w2 => ⟨zs, e1, e2, xs.length - (i + 1), by omega, by omega, rfl, w2⟩
  · have : i = xs.length := by omega
    subst this
    exact .inl ⟨⟨xs, hq, Nat.le_refl _⟩, hf _ _ hw⟩
theorem comp_anyT {QD : Addr → Hp → Prop} {a : Addr} {xs : List V} (q : ∀ D, H1 D = none → ∃ W : Nat → List V → Hp → Prop, W 0 [] (upd H1 D (.lst [])) ∧ (∀ i ys H2, i ≤ xs.length → W i ys H2 → SqT K H2 a xs) ∧
      (∀ (i : Nat) (x : V) (H2 : Hp) (ys : List V) (C : V → Hp → Prop), xs[i]? = some x → W i ys H2 → (∀ y H6 zs, H6 D = some (.lst zs) → zs.length < sizeLine → W (i + 1) (ys ++ [y]) (upd H6 D (.lst (zs ++ [y]))) → C y H6) → g x (compSt k caps σ) H2 fun σ4 H4 => te σ4 H4 C) ∧
      ∀ (ys : List V) (H' : Hp), W xs.length ys H' → QD D H') :
    ∀ D, H1 D = none →
      ∃ W : Nat → Nat → List V → Hp → Prop, (∃ m, W 0 m [] (upd H1 D (.lst []))) ∧ ∀ i m ys H2, W i m ys H2 →
        ((Itt K a).stop i H2 ∧ QD D H2) ∨ ((Itt K a).go i H2 ∧ ∀ x H3, (Itt K a).yld i H2 x H3 → g x (compSt k caps σ) H3 fun σ4 H4 => tYes σ4 H4 fun b H5 =>
          if b = true then te σ4 H5 fun y H6 => ∃ zs, H6 D = some (.lst zs) ∧ zs.length < sizeLine ∧ ∃ m', m' < m ∧ W (i + 1) m' (ys ++ [y]) (upd H6 D (.lst (zs ++ [y])))
          else ∃ m', m' < m ∧ W (i + 1) m' ys H5) := by
  intro D hD
  obtain ⟨W, h0, hl, hs, hf⟩ := q D hD
  refine ⟨fun i m ys H2 => i ≤ xs.length ∧ m = xs.length - i ∧ W i ys H2, ⟨xs.length, Nat.zero_le _, rfl, h0⟩, ?_⟩
  rintro i m ys H2 ⟨hi, rfl, hw⟩
  have hq := hl i ys H2 hi hw
  by_cases hlt : i < xs.length
  · refine .inr ⟨⟨xs, xs[i], hq, by simp [hlt]⟩, fun x H3 hy => ?_⟩
    obtain ⟨e3, hy⟩ := hy
    subst e3
    exact hs i x H3 ys _ (hy xs hq) hw fun y H6 zs e1 e2 w2 => ⟨zs, e1, e2, xs.length - (i + 1), by omega, by omega, rfl, w2⟩
  · have : i = xs.length := by omega
    subst this
    exact .inl ⟨⟨xs, hq, Nat.le_refl _⟩, hf _ _ hw⟩
end
inductive Run : List Say → List Say → List Say → Prop where
  | nil (p : List Say) : Run [] p p
  | cons {t : Say} {r p q : List Say} : Run r (p ++ [t]) q → Run (t :: r) (p ++ t.kids) q
theorem Run.inv {t : Say} {r p q : List Say} (h : Run (t :: r) p q) : ∃ p0, p = p0 ++ t.kids ∧ Run r (p0 ++ [t]) q := by
  generalize e : t :: r = l at h
  cases h with
  | nil => cases e
  | cons h => cases e; exact ⟨_, rfl, h⟩
theorem Run.inv0 {p q : List Say} (h : Run [] p q) : p = q := by cases h; rfl
theorem Run.app {a b p q z : List Say} (h : Run a p q) : Run b q z → Run (a ++ b) p z := by
  induction h with
  | nil => exact id
  | cons _ ih => exact fun h2 => .cons (ih h2)
theorem Run.one (t : Say) (p : List Say) : Run [t] (p ++ t.kids) (p ++ [t]) := .cons (.nil _)
theorem Run.post : ∀ (s : Say) (p : List Say), Run s.post p (p ++ [s])
  | .lamp k, p => by rw [post_lamp]; have := Run.one (.lamp k) p; rwa [show (Say.lamp k).kids = [] from rfl, List.append_nil] at this
  | .dark k, p => by rw [post_dark]; have := Run.one (.dark k) p; rwa [show (Say.dark k).kids = [] from rfl, List.append_nil] at this
  | .neg s, p => by rw [post_neg]; exact (Run.post s p).app (Run.one (.neg s) p)
  | .ev s, p => by rw [post_ev]; exact (Run.post s p).app (Run.one (.ev s) p)
  | .so s, p => by rw [post_so]; exact (Run.post s p).app (Run.one (.so s) p)
  | .conj s t, p => by
    rw [post_conj]
    refine (Run.post s p).app ((Run.post t _).app ?_)
    rw [List.append_assoc]
    exact Run.one (.conj s t) p
  | .disj s t, p => by
    rw [post_disj]
    refine (Run.post s p).app ((Run.post t _).app ?_)
    rw [List.append_assoc]
    exact Run.one (.disj s t) p
theorem Paired.split {α β : Type} {F : α → β → Prop} : ∀ {ys ys' : List β} {xs : List α}, Paired F xs (ys ++ ys') → ∃ a b, xs = a ++ b ∧ Paired F a ys ∧ Paired F b ys'
  | [], _, xs, h => ⟨[], xs, rfl, .nil, h⟩
  | _ :: ys, _, _, .cons r t => by
    obtain ⟨a, b, rfl, h1, h2⟩ := Paired.split (ys := ys) t
    exact ⟨_ :: a, b, rfl, .cons r h1, h2⟩
abbrev AnsT := Addr → Hp → V → Say → Prop
def AnsM (Ans : AnsT) : Prop := ∀ fo H H' v s, Ans fo H v s → SameD fo H H' → TupK H H' → Ans fo H' v s
def spFrom (P : Program) (w : World) (K : PySem.W.Frag) (mg : Str → Option Value) (base : Heap) (k : Nat) : Sp := fun vs H Q _ => ∃ (v : V) (f : Addr) (fd : FuncData) (s : Say) (spA : Sp) (Ans : AnsT), vs = [v, .ref f] ∧ Stm H v s ∧ s.sz ≤ 100000 ∧
  FnOk P w K mg base CX0 k f fd ["part", "inner"] spA ∧ Binds K fd ["part", "inner"] [] ∧ FnAt K H f ∧ AnsM Ans ∧
  (∀ (H1 : Hp) (x : V) (t : Say) (D fo : Addr) (ys fs : List V) (C : VK), Same H H1 → Stm H1 x t → H1 D = some (.lst ys) → Paired (Ans fo H1) ys t.kids → H1 fo = some (.lst fs) → (∀ r H2, Same H1 H2 → Ans fo H2 r t → C r H2) → spA [x, .ref D] H1 C E0) ∧
  ∀ (r : V) (H' : Hp) (fo : Addr), Same H H' → Ans fo H' r s → Q r H'
theorem take_pop {α : Type} (xs : List α) (i : Nat) (h : i < xs.length) : ∃ y, xs.take (xs.length - i) = xs.take (xs.length - (i + 1)) ++ [y] ∧ xs.reverse.take (i + 1) = xs.reverse.take i ++ [y] := by
  have h1 : xs.length - (i + 1) < xs.length := by omega
  refine ⟨xs[xs.length - (i + 1)], ?_, ?_⟩
  · rw [show xs.length - i = xs.length - (i + 1) + 1 by omega, List.take_succ, List.getElem?_eq_getElem h1]
    rfl
  · rw [List.take_succ, List.getElem?_reverse h, List.getElem?_eq_getElem (by omega)]
    congr 2
    simp only [Option.toList_some]
    congr 2
    omega
def Fm (H : Hp) (v : V) (s : Say) : Prop := ∃ a x y, v = .ref a ∧ H a = some (.tup [x, y]) ∧ Stm H x (s.pf false) ∧ Stm H y (s.pf true)
theorem Fm.mono {H H' : Hp} {v : V} {s : Say} (h : Fm H v s) (T : TupK H H') : Fm H' v s := by
  obtain ⟨a, x, y, e, h1, h2, h3⟩ := h
  exact ⟨a, x, y, e, T _ _ h1, h2.mono T, h3.mono T⟩
def spPart : Sp := fun vs H Q _ => ∃ (a D fo : Addr) (x : V) (W : List Rm) (t : Say) (ys : List V), vs = [.ref a, x, .ref D] ∧ WorldAt H a W ∧ Valid W ∧ W.length ≤ 1000 ∧ (∀ r ∈ W, r.doors.length ≤ 1000) ∧ Stm H x t ∧ H D = some (.lst ys) ∧ Paired (fun v s => TrAt fo H v (tru W s)) ys t.kids ∧
  ∀ (l : Addr) (H' : Hp), Same H H' → H l = none → H' l = some (.lst (bls (tru W t))) → Q (.ref l) H'
def lamQ (x : Str) : Str := x ++ ".<locals>." ++ "<lambda>"
def spTruthsT (T : Addr) (pos : Pos) : Sp := fun vs H Q _ => ∃ (a : Addr) (v : V) (W : List Rm) (s : Say), vs = [.ref a, v] ∧ WorldAt H a W ∧ Valid W ∧ W.length ≤ 1000 ∧ (∀ r ∈ W, r.doors.length ≤ 1000) ∧ Stm H v s ∧ s.sz ≤ 100000 ∧ LamTab T (lamQ "truths") pos H ∧
  ∀ (l : Addr) (H' : Hp), SamT T H H' → LamTab T (lamQ "truths") pos H' → H' l = some (.lst (bls (tru W s))) → Q (.ref l) H'
def spLawT (K : PySem.W.Frag) (T : Addr) : Sp := fun vs H Q _ => ∃ (a : Addr) (ns : List Int), vs = [.ref a] ∧ SqL K H a (ns.map V.int) ∧ ns.length ≤ 63 ∧ H T = some (.tbl #[]) ∧ ∀ H', Q (.bl true) H'
theorem LamTab.tbl {T : Addr} {q : Str} {pos : Pos} {H : Hp} (h : LamTab T q pos H) : ∃ ps, H T = some (.tbl ps) := let ⟨ps, e, _⟩ := h; ⟨ps, e⟩
def lamAt (s : Stmt) : Arguments × Expr × Scope × Pos := match defBody s with
  | [.Return (some (.Call _ [_, .Lambda a b sc p] _ _)) _] => (a, b, sc, p)
  | _ => (defArgs s, .Constant .none 0 ⟨0, 0, 0, 0⟩, defScope s, ⟨0, 0, 0, 0⟩)
theorem walk_tab1 {l : PySem.W.OpenLaw} {k : Nat} {q : Program} {loose : List Str} {XP : (Str → Option Value) → Heap → Prop} {YP : World → Heap → Prop} {d : DefRec} {K : Params → PySem.W.Frag}
    (hn : l.most = some 63) (hdf : d.params.defaults = []) (hr : Room k callerA)
    (hY : ∀ (w : World) (h : Heap), YP w h → (K w.params).In h)
    (F : ∀ (w : World) (mg : Str → Option Value) (fa : Addr) (h : Heap), YP w h → (K w.params).In h → h.Ns mainGlobals mg → mg d.name = some (.ref fa) → (∀ (x : Str) (C : Addr) (bmB : List Value) (newId : String), PySem.W.nsIn (K w.params) mainGlobals x = some (some (.ref C)) → PySem.W.excIn (K w.params) C bmB newId = true → OwnCls x C bmB newId mg h) →
      ∃ (fd : FuncData) (cc T : Addr), PySem.W.codeHdIn (K w.params) cc T = true ∧ h.get? T = some (PySem.W.tabObj #[]) ∧ PySem.W.noTabs (K w.params) = true ∧ (∀ (s : Shared) (u : Value), BindsTo s fd ⟨[u], []⟩ [("_law_script", u)]) ∧
        ∀ base : Heap, (K w.params).In base → base.Ns mainGlobals mg → BMain mg base → PySem.W.CodeHd base cc T → KeepB h base → FnOk l.prog w (K w.params) mg base CX0 k fa fd ["_law_script"] (spLawT (K w.params) T)) :
    PySem.W.WalkO q loose XP YP l.row.toRowW d [] (fun f vs => PySem.call f vs) := by
  refine walk_tabs (x := "_law_script") (n := 63) hn (by decide) hdf hr hY fun w mg fa h Y KX G hmg hOwn => ?_
  obtain ⟨fd, cc, T, ht, htt, hnt, hb, hF⟩ := F w mg fa h Y KX G hmg hOwn
  refine ⟨fd, [(cc, T)], spLawT (K w.params) T, fun q hq => ?_, hnt, hb, fun base kb nb bm hc hKB => hF base kb nb bm (hc _ (List.mem_singleton_self _)) hKB, fun H a ns hl hO hS => ⟨a, ns, rfl, hS, hl, hO _ (List.mem_singleton_self (cc, T)), fun _ => rfl⟩⟩
  rw [List.mem_singleton.mp hq]
  exact ⟨PySem.W.codeHd_of_K KX ht, htt⟩
end L2
set_option Elab.async false
set_option linter.all false
set_option maxRecDepth 100000
set_option maxHeartbeats 4000000
namespace L2
open PySem PySem.Spec PyProof.Rows
def whoS (b : Bool) : Str := if b = true then "speaker" else "doubter"
theorem who_inj {a b : Bool} (h : whoS a = whoS b) : a = b := by cases a <;> cases b <;> first | rfl | exact absurd h (by decide +kernel)
def movers4 : List (Key × V) := [(.inr "or", .str "speaker"), (.inr "some", .str "speaker"), (.inr "and", .str "doubter"), (.inr "every", .str "doubter")]
theorem movers_val {s : Say} (hl : Say.leaf s = false) (hn : ∀ t, s ≠ .neg t) : valV movers4 (.inr s.tag) = some (.str (whoS s.spk)) := by
  cases s with
  | lamp _ => cases hl
  | dark _ => cases hl
  | neg t => exact absurd rfl (hn t)
  | _ => kernel_rfl
theorem const_movers {P : Program} {w : World} {K : PySem.W.Frag} {a : Addr} {n_T : Nat} {h1 h2 h3 h4 : Int} {t1 u1 t2 u2 t3 u3 t4 u4 : Tok} (h : K.lookup a = some ⟨.type "dict", none, .dict #[⟨h1, .str "or" t1, .str "speaker" u1⟩, ⟨h2, .str "some" t2, .str "speaker" u2⟩, ⟨h3, .str "and" t3, .str "doubter" u3⟩, ⟨h4, .str "every" t4, .str "doubter" u4⟩] n_T, #[]⟩) (hs : (a == sysModules) = false) (y1 : h1 = hashStr w "or") (y2 : h2 = hashStr w "some") (y3 : h3 = hashStr w "and") (y4 : h4 = hashStr w "every") : KDict P K w a movers4 := by
  refine ⟨hs, _, _, _, [(.inr "or", .str "speaker" u1), (.inr "some", .str "speaker" u2), (.inr "and", .str "doubter" u3), (.inr "every", .str "doubter" u4)], h, ⟨rfl, rfl, rfl⟩, rfl, ?_, ?_, (by show List.Nodup ([.inr "or", .inr "some", .inr "and", .inr "every"] : List Key); decide +kernel), .cons ⟨rfl, u1, rfl⟩ (.cons ⟨rfl, u2, rfl⟩ (.cons ⟨rfl, u3, rfl⟩ (.cons ⟨rfl, u4, rfl⟩ .nil)))⟩
  · intro e he
    simp only [List.mem_toArray, List.mem_cons, List.not_mem_nil, or_false] at he
    rcases he with rfl | rfl | rfl | rfl
    · exact ⟨.inr "or", mixKind_str P w _ _, y1⟩
    · exact ⟨.inr "some", mixKind_str P w _ _, y2⟩
    · exact ⟨.inr "and", mixKind_str P w _ _, y3⟩
    · exact ⟨.inr "every", mixKind_str P w _ _, y4⟩
  · exact .cons (mixKind_str P w _ _) rfl (.cons (mixKind_str P w _ _) rfl (.cons (mixKind_str P w _ _) rfl (.cons (mixKind_str P w _ _) rfl .nil)))
section
variable {X : Cx}
def rIndex : V → List V → Hp → VK → Prop := fun x vs H Q => ∃ (l : Addr) (xs : List Str) (y : Str) (j : Nat), x = .ref l ∧ vs = [.str y] ∧ H l = some (.lst (xs.map V.str)) ∧ xs[j]? = some y ∧ (∀ (i : Nat) z, i < j → xs[i]? = some z → z ≠ y) ∧ xs.length ≤ 1000000 ∧ Q (.int j) H
theorem strs_its : ∀ {xs : List Str} {us : List Value}, Vals (xs.map V.str) us → StrsAre us xs
  | [], _, .nil => .nil
  | _ :: _, _, .cons ⟨t, e⟩ r => by subst e; exact .cons _ t (strs_its r)
theorem vals_str_at {xs : List Str} {us : List Value} (h : Vals (xs.map V.str) us) {i : Nat} {u : Value} (e : us[i]? = some u) : ∃ z t, xs[i]? = some z ∧ u = .str z t := by
  have hl := h.length
  rw [List.length_map] at hl
  have hi : i < xs.length := by rw [hl]; exact (List.getElem?_eq_some_iff.mp e).1
  obtain ⟨u', e', r⟩ := h.get (i := i) (x := .str xs[i]) (by rw [List.getElem?_map, List.getElem?_eq_getElem hi]; rfl)
  rw [e] at e'
  cases e'
  obtain ⟨t, rfl⟩ := r
  exact ⟨xs[i], t, List.getElem?_eq_getElem hi, rfl⟩
theorem mt_index : MtM X "list.index" rIndex := by
  intro pins s σ H x vs v us Q I rx rv h
  obtain ⟨l, xs, y, j, rfl, rfl, hH, hj, hno, hz, q⟩ := h
  cases rx
  obtain ⟨u, rfl, ru⟩ := rv.one
  obtain ⟨t, rfl⟩ := ru
  obtain ⟨z, its, n, r, hl, e⟩ := I.lstM hH
  have hl2 : xs.length = its.length := by rw [← hl, List.length_map]
  have hjl : j < xs.length := (List.getElem?_eq_some_iff.mp hj).1
  have hjs : j < its.toArray.size := by rw [List.size_toArray]; omega
  have at' : ∀ (m : Nat) (hm : m < its.toArray.size), ∃ z' t', xs[m]? = some z' ∧ its.toArray[m] = .str z' t' := fun m hm => by
    have hm' : m < its.length := by simpa using hm
    exact vals_str_at r (u := its.toArray[m]) (by rw [List.getElem?_eq_getElem hm']; rfl)
  refine call_meets F.slot_list_index ⟨_, e, rfl⟩ F.entry_list_index (F.args_list_index_2 _ _) (MeetsSeq.list_index l its.toArray n (.str y t) (isStrOf y) (fun z hz => eq_isStrOf y t (strs_its r) z (by simpa using hz)) j hjs (by omega) ?_ fun m hm hlt => ?_) ⟨e, ⟨.int j, H, I.tok _, ⟨_, rfl⟩, q⟩⟩
  · obtain ⟨z', t', e1, e2⟩ := at' j hjs
    rw [hj] at e1; cases e1
    rw [e2]; simp [isStrOf]
  · obtain ⟨z', t', e1, e2⟩ := at' m hm
    have := hno m z' hlt e1
    rw [e2]; simp [isStrOf, this]
end
def PlAt (H : Hp) (v : V) (m : Nat × Say) : Prop := ∃ a u, v = .ref a ∧ H a = some (.tup [.int (m.1 : Int), u]) ∧ Stm H u m.2
theorem PlAt.mono {H H' : Hp} {v : V} {m : Nat × Say} (h : PlAt H v m) (T : TupK H H') : PlAt H' v m := by
  obtain ⟨a, u, e, h1, h2⟩ := h
  exact ⟨a, u, e, T _ _ h1, h2.mono T⟩
def RoomIn (H : Hp) (a : Addr) (W : List Rm) (j : Nat) : Prop := WorldAt H a W ∧ Valid W ∧ W.length ≤ 1000 ∧ (∀ r ∈ W, r.doors.length ≤ 1000) ∧ j < W.length
theorem RoomIn.lt {H H' : Hp} {a : Addr} {W : List Rm} {j : Nat} (h : RoomIn H a W j) (S : LT H H') : RoomIn H' a W j := ⟨h.1.lt S, h.2⟩
theorem RoomIn.at {H : Hp} {a : Addr} {W : List Rm} {j : Nat} (h : RoomIn H a W j) : ∃ rs x l d r, H a = some (.lst rs) ∧ rs[j]? = some (.ref x) ∧ H x = some (.tup [.ref l, .ref d]) ∧ H l = some (.lst (r.lit.map V.int)) ∧ H d = some (.lst (nts r.doors)) ∧ W[j]? = some r ∧ doorsAt W j = r.doors ∧ r.doors.length ≤ 1000 := by
  obtain ⟨⟨rs, e, p⟩, hv, hz, hd, hj⟩ := h
  have hr : W[j]? = some W[j] := List.getElem?_eq_getElem hj
  obtain ⟨v, hv', x, l, d, rfl, h1, h2, h3⟩ := Paired.get2 p hr
  exact ⟨rs, x, l, d, W[j], e, hv', h1, h2, h3, hr, by unfold doorsAt; rw [hr]; rfl, hd _ (List.getElem_mem hj)⟩
def spMoves : Sp := fun vs H Q _ => ∃ (a : Addr) (j : Nat) (v : V) (W : List Rm) (s : Say), vs = [.ref a, .int j, v] ∧ RoomIn H a W j ∧ Stm H v s ∧ Say.good false s ∧
  ∀ (l : Addr) (xs : List V) (H' : Hp), Same H H' → H l = none → H' l = some (.lst xs) → Paired (PlAt H') xs (movesS W j s) → Q (.ref l) H'
def spTold : Sp := fun vs H Q _ => ∃ b : Bool, vs = [.bl b] ∧ Q (.str (whoS b)) H
def spWinner (T : Addr) (pos : Pos) : Sp := fun vs H Q _ => ∃ (a : Addr) (j : Nat) (v : V) (W : List Rm) (s : Say), vs = [.ref a, .int j, v] ∧ RoomIn H a W j ∧ Stm H v s ∧ s.sz ≤ 100000 ∧ LamTab T (lamQ "truths") pos H ∧
  ∀ H' : Hp, SamT T H H' → LamTab T (lamQ "truths") pos H' → Q (.str (whoS (tv W s j))) H'
def wons (W : List Rm) (ms : List (Nat × Say)) : List Str := ms.map fun m => whoS (tv W m.2 m.1)
def spMoveW (T : Addr) (pos : Pos) : Sp := fun vs H Q _ => ∃ (a : Addr) (j : Nat) (v : V) (W : List Rm) (s : Say), vs = [.ref a, .int j, v] ∧ RoomIn H a W j ∧ Stm H v s ∧ s.sz ≤ 100000 ∧ Say.good false s ∧ Say.leaf s = false ∧ LamTab T (lamQ "truths") pos H ∧
  ∀ (l : Addr) (H' : Hp), SamT T H H' → LamTab T (lamQ "truths") pos H' → H' l = some (.lst ((wons W (movesS W j s)).map V.str)) → Q (.ref l) H'
def spBehindW (T : Addr) (pos : Pos) : Sp := fun vs H Q _ => ∃ (a : Addr) (j : Nat) (v : V) (W : List Rm) (s : Say), vs = [.ref a, .int j, v] ∧ RoomIn H a W j ∧ Stm H v s ∧ s.sz ≤ 100000 ∧ Say.good false s ∧ Say.leaf s = false ∧ Say.join s = false ∧ LamTab T (lamQ "truths") pos H ∧
  ∀ (l : Addr) (H' : Hp), SamT T H H' → LamTab T (lamQ "truths") pos H' → H' l = some (.lst ((wons W (movesS W j s)).map V.str)) → Q (.ref l) H'
def bestS (W : List Rm) (j : Nat) (s : Say) : Nat := ((movesS W j s).findIdx? fun m => tv W m.2 m.1 == s.spk).getD 0
theorem good_noneg {s : Say} (h : Say.good false s) : ∀ t, s ≠ .neg t := fun t e => by subst e; exact absurd h.1 Bool.false_ne_true
theorem leaf_moves {W : List Rm} {j : Nat} {s : Say} (h : Say.leaf s = true) : movesS W j s = [] := by cases s <;> first | rfl | cases h
theorem good_kids {s : Say} (h : Say.good false s) : ∀ t ∈ s.kids, Say.good false t := fun t m => by
  cases s with
  | lamp _ => cases m
  | dark _ => cases m
  | neg s => exact absurd h.1 Bool.false_ne_true
  | conj s u =>
    simp only [Say.kids, List.mem_cons, List.not_mem_nil, or_false] at m
    rcases m with rfl | rfl
    · exact h.1
    · exact h.2
  | disj s u =>
    simp only [Say.kids, List.mem_cons, List.not_mem_nil, or_false] at m
    rcases m with rfl | rfl
    · exact h.1
    · exact h.2
  | ev s => simp only [Say.kids, List.mem_singleton] at m; subst m; exact h
  | so s => simp only [Say.kids, List.mem_singleton] at m; subst m; exact h
theorem kid_sz {s t : Say} (m : t ∈ s.kids) : t.sz < s.sz := by
  cases s with
  | lamp _ => cases m
  | dark _ => cases m
  | conj s u => simp only [Say.kids, List.mem_cons, List.not_mem_nil, or_false] at m; rcases m with rfl | rfl <;> (simp only [Say.sz]; omega)
  | disj s u => simp only [Say.kids, List.mem_cons, List.not_mem_nil, or_false] at m; rcases m with rfl | rfl <;> (simp only [Say.sz]; omega)
  | _ => simp only [Say.kids, List.mem_singleton] at m; subst m; simp only [Say.sz]; omega
theorem join_moves {W : List Rm} {j : Nat} {s : Say} (h : Say.join s = true) : movesS W j s = s.kids.map fun t => (j, t) := by cases s <;> first | rfl | cases h
theorem door_kid {s : Say} (h1 : Say.leaf s = false) (h2 : Say.join s = false) (h3 : ∀ t, s ≠ .neg t) : ∃ t, s.kids = [t] ∧ ∀ (W : List Rm) (j : Nat), movesS W j s = (doorsAt W j).map fun d => (d, t) := by
  cases s with
  | lamp _ => cases h1
  | dark _ => cases h1
  | neg t => exact absurd rfl (h3 t)
  | conj _ _ => cases h2
  | disj _ _ => cases h2
  | ev t => exact ⟨t, rfl, fun _ _ => rfl⟩
  | so t => exact ⟨t, rfl, fun _ _ => rfl⟩
theorem flat_strs : ∀ xs : List Str, (xs.map V.str).all flatV = true
  | [] => rfl
  | _ :: r => flat_strs r
theorem list_strs {ys : List V} {l : List Str} (hl : ys.length = l.length) (h : ∀ (j : Nat) y, ys[j]? = some y → ∃ z, l[j]? = some z ∧ y = .str z) : ys = l.map V.str := by
  refine List.ext_getElem? fun i => ?_
  by_cases hi : i < ys.length
  · obtain ⟨z, e1, e2⟩ := h i ys[i] (List.getElem?_eq_getElem hi)
    rw [List.getElem?_eq_getElem hi, List.getElem?_map, e1, e2]; rfl
  · rw [List.getElem?_eq_none (by omega), List.getElem?_eq_none (by rw [List.length_map]; omega)]
theorem in_wons {W : List Rm} {ms : List (Nat × Say)} {b : Bool} : inV (.str (whoS b)) ((wons W ms).map V.str) = ms.any fun m => tv W m.2 m.1 == b := by
  induction ms with
  | nil => rfl
  | cons m r ih =>
    have e : inV (.str (whoS b)) ((wons W (m :: r)).map V.str) = ((whoS (tv W m.2 m.1) == whoS b) || inV (.str (whoS b)) ((wons W r).map V.str)) := rfl
    rw [e, ih, List.any_cons]
    congr 1
    cases tv W m.2 m.1 <;> cases b <;> decide +kernel
theorem find_wons {W : List Rm} {b : Bool} : ∀ {ms : List (Nat × Say)} {i : Nat}, (ms.findIdx? fun m => tv W m.2 m.1 == b) = some i → (wons W ms)[i]? = some (whoS b) ∧ ∀ (k : Nat) z, k < i → (wons W ms)[k]? = some z → z ≠ whoS b := fun {ms i} h => by
  rw [List.findIdx?_eq_some_iff_getElem] at h
  obtain ⟨hi, h1, h2⟩ := h
  refine ⟨?_, fun k z hk e => ?_⟩
  · rw [wons, List.getElem?_map, List.getElem?_eq_getElem hi, Option.map_some, beq_iff_eq.mp h1]
  · have hkl : k < ms.length := by omega
    rw [wons, List.getElem?_map, List.getElem?_eq_getElem hkl, Option.map_some] at e
    cases e
    intro z
    exact h2 k hk (beq_iff_eq.mpr (who_inj z))
def Say.isDoor : Say → Bool
  | .ev _ => true
  | .so _ => true
  | _ => false
theorem doorB (s : Say) : inV (.str s.tag) [.str "every", .str "some"] = Say.isDoor s := by cases s <;> (dsimp only [Say.tag, Say.isDoor]; decide +kernel)
theorem spkB (s : Say) : inV (.str s.tag) [.str "or", .str "some"] = s.spk := by cases s <;> (dsimp only [Say.tag, Say.spk]; decide +kernel)
theorem moves_good {W : List Rm} {j : Nat} {s : Say} (hg : Say.good false s) {m : Nat × Say} (e : m ∈ movesS W j s) : Say.good false m.2 ∧ m.2.sz < s.sz := by
  have hk : m.2 ∈ s.kids := by
    cases hl : Say.leaf s with
    | true => rw [leaf_moves hl] at e; cases e
    | false =>
      cases hjn : Say.join s with
      | true =>
        rw [join_moves hjn] at e
        obtain ⟨t, ht, rfl⟩ := List.mem_map.mp e
        exact ht
      | false =>
        obtain ⟨t, ek, em⟩ := door_kid hl hjn (good_noneg hg)
        rw [em] at e
        obtain ⟨d, hd, rfl⟩ := List.mem_map.mp e
        rw [ek]; exact List.mem_singleton_self t
  exact ⟨good_kids hg _ hk, kid_sz hk⟩
end L2
set_option Elab.async false
set_option linter.all false
set_option maxRecDepth 100000
set_option maxHeartbeats 4000000
namespace L2
open PySem PySem.Spec PyProof.Rows
theorem ObjOk.is {P : Program} {w : World} {H : Hp} {h : Heap} {a : Addr} {o : HO} (x : ObjOk P w H h a o) : ∃ u, h.get? a = some u := by
  cases o with
  | lst xs => obtain ⟨_, _, _, _, e⟩ := x; exact ⟨_, e⟩
  | tup xs => obtain ⟨_, _, _, ob, e, _⟩ := x; exact ⟨_, e⟩
  | dK kvs => obtain ⟨_, _, _, _, o, _, _, e, _⟩ := x; exact ⟨_, e⟩
  | dT kvs => obtain ⟨_, _, _, _, o, _, _, e, _⟩ := x; exact ⟨_, e⟩
  | set S n => obtain ⟨o, _, _, _, e, _⟩ := x; exact ⟨_, e⟩
  | ins C dx fs => obtain ⟨_, _, _, e, _⟩ := x; exact ⟨_, e⟩
  | own y => exact x
  | xd fs => obtain ⟨_, ⟨_, _, _, e, _⟩, _⟩ := x; exact ⟨_, e⟩
  | rng lo hi => obtain ⟨_, _, _, e⟩ := x; exact ⟨_, e⟩
  | frz ob u => exact ⟨_, x.1⟩
  | tbl ps => exact ⟨_, x⟩
  | met f y => exact ⟨_, x⟩
  | ext φ => exact x.2.1
theorem frames_hide {h base h0 : Heap} {S : List Addr} : ∀ {l : List Env}, (∀ b ∈ frs l, b ∈ S) → h.FunFrames base l → h.FunFrames (PySem.W.hideAll h0 S) l
  | [], _, _ => trivial
  | env :: r, hs, ⟨hk, ⟨L, o, hf, hn, ho, hd⟩, hr⟩ => by
    have hL : frs (env :: r) = L :: frs r := by unfold frs; rw [List.filterMap_cons, hf]
    rw [hL] at hs
    exact ⟨hk, ⟨L, o, hf, PySem.W.hideAll_none _ (hs L List.mem_cons_self), ho, hd⟩, frames_hide (fun b hb => hs b (List.mem_cons_of_mem _ hb)) hr⟩
def CX1 (P : Program) (w : World) (C : Addr) : CXT := fun outer H s E e s' => ∃ (x : Addr) (H' : Hp) (B : Heap) (a0 : Value), e = .ref x ∧ s'.os = s.os ∧ AllBare s'.gens ∧ Un (frs outer) [] H H' s.heap s'.heap ∧ HOk P w H' s'.heap ∧
  Heap.FlyingW B outer x (.ref C) a0 s'.heap ∧ (∀ b o, H' b ≠ none → s'.heap.get? b = some o → B.get? b = some o) ∧ (∀ b o, s.heap.get? b = some o → H b = none → b ∉ frs outer → B.get? b = some o) ∧
  (∀ b o, s.heap.get? b = some o → b ∉ frs outer → ∃ o', B.get? b = some o') ∧ H' x = none ∧ E (.ref C) none H'
def HasX (P : Program) (w : World) (K : PySem.W.Frag) (mg : Str → Option Value) (base : Heap) (C : Addr) (x : Str) (k : Nat) (ps : List Str) (sp : Sp) : Prop :=
  ∃ (f : Addr) (fd : FuncData), mg x = some (.ref f) ∧ PySem.W.keepIn K (.ref f) = true ∧ Binds K fd ps [] ∧ FnOk P w K mg base (CX1 P w C) k f fd ps sp
def tRaise (E : XK) (C : Addr) (t : TA) : TS := fun _ σ H => t σ H fun vs H1 => vs.length ≤ 1000 ∧ E (.ref C) none H1
section
variable {P : Program} {w : World} {K : PySem.W.Frag} {mg : Str → Option Value} {base : Heap} {N : List Str} {qual : Str} {scope : Scope} {f : Addr} {cd : Value} {A : Around} {outer : List Env} {s : Shared} {H : Hp} {E : XK}
theorem ps_raise {x : Str} {C : Addr} {Bn newId initId : String} {bmB : List Value} {np cpos pos : Pos} {a : Expr} {as : List Expr} {t : TA} (F : ExcBaseFacts Bn newId initId bmB) (hbb : bmB.contains (.type "BaseException") = true) (O : OwnCls x C bmB newId mg base)
    (hg : Gl (cxOf (CX1 P w C) P w K mg base N qual scope f cd A outer s H E) x) (ha : PA (cxOf (CX1 P w C) P w K mg base N qual scope f cd A outer s H E) (a :: as) t) (hdb : (x == ("__debug__" : Str)) = false := by decide)
    (he : starEach (a :: as) (envOfC qual scope s.heap.objs.size f cd) = (false, eval a (envOfC qual scope s.heap.objs.size f cd)) :: starEach as (envOfC qual scope s.heap.objs.size f cd) := by rfl)
    (hpl : (backTo cpos (starEach as (envOfC qual scope s.heap.objs.size f cd))).any (·.1) = false := by rfl) :
    PS (cxOf (CX1 P w C) P w K mg base N qual scope f cd A outer s H E) (.Raise (some (.Call (.Name x np) (a :: as) [] cpos)) none pos) (tRaise E C t) := by
  intro pins s1 σ H1 D I h
  obtain ⟨hbd, bm, Nn, nm, q, bs, hdct, sn, sub, ab, col, dd, k0, k1, k2, k3, k5, mN, hC, hN, hni, hT⟩ := id O
  have hpl' : (backTo cpos (starEach (a :: as) (envOfC qual scope s.heap.objs.size f cd))).any (·.1) = false := by
    rw [he]
    show (false || (backTo cpos (starEach as (envOfC qual scope s.heap.objs.size f cd))).any (·.1)) = false
    rw [hpl]; rfl
  refine wpAny_Raise_call_subT (nm := nm) (q := q) (N := Nn) (bs := bs) (hdct := hdct) (sn := sn) (sub := sub) (ab := ab) (col := col) (dd := dd) (k0 := k0) (k1 := k1) (k2 := k2) (k3 := k3) (k5 := k5) (C := C) (mN := mN) (x := x) F (hT.hasType hbb) (I.ok.hd rfl) hpl' hni (ld_glob I hg hbd ⟨rfl, ?_⟩ hdb)
  have main := thn (ha cpos pins s1 σ H1 _ I h) fun us s2 ⟨vs, H2, I2, r, hl, hE⟩ => (show (⟨us, []⟩ : Args).kw = [] ∧ (⟨us, []⟩ : Args).pos.length ≤ sizeLine ∧ s2.heap.get? C = some (excClassObj nm q C Nn bs bm hdct sn sub ab col dd k0 k1 k2 k3 k5 newId) ∧ s2.heap.Ns Nn mN ∧ OwnTail s2.heap bmB bm ∧
      ∀ h' e, Heap.MadeExcOf s2.heap h' e (.ref C) (⟨us, []⟩ : Args).pos → (cxOf (CX1 P w C) P w K mg base N qual scope f cd A outer s H E).xe (.ref e) { s2 with heap := h' } from by
    refine ⟨rfl, ?_, I2.bk _ _ hC, hN.keeps I2.bk, hT.keeps I2.bk, fun h' e hm => ?_⟩
    · show us.length ≤ sizeLine
      rw [← r.length]
      exact Nat.le_of_lt (small1000 hl)
    · obtain ⟨tt, ht, htn, _⟩ := hm.there
      have hst : ∀ b ∈ frs (envOfC qual scope s.heap.objs.size f cd :: outer), b = s.heap.objs.size ∨ b ∈ frs outer := fun b hb => List.mem_cons.mp hb
      have notfr : ∀ {b : Addr} {o : Obj}, s.heap.get? b = some o → b ∉ frs outer → b ∉ frs (envOfC qual scope s.heap.objs.size f cd :: outer) := fun {b o} e hb z => (hst b z).elim (fun y => absurd (Heap.lt_size e) (by rw [y]; exact Nat.lt_irrefl _)) hb
      have trk : ∀ {b : Addr}, H2 b ≠ none → b ∉ frs (envOfC qual scope s.heap.objs.size f cd :: outer) := fun {b} hb z => hb (I2.stkFree b z)
      refine wpAny_leaving_firstW (base := PySem.W.hideAll s2.heap (frs (envOfC qual scope s.heap.objs.size f cd :: outer))) (outer := outer) (L := s.heap.objs.size) (a0 := .ref tt) I2.ok.frames ?_ rfl ht ?_ ?_ rfl rfl rfl fun h'' hL => ?_
      · refine frames_hide (base := base) (fun b hb => hb) (I2.stack.of_keeps fun b o hb _ => ⟨o, hm.keeps b o hb, rfl⟩)
      · exact fun b o hb => hm.keeps b o (PySem.W.of_hideAll _ hb)
      · cases z : (PySem.W.hideAll s2.heap (frs (envOfC qual scope s.heap.objs.size f cd :: outer))).get? e with
        | none => rfl
        | some o => have := PySem.W.of_hideAll _ z; rw [hm.new] at this; cases this
      · obtain ⟨l1, l2, l3, l4⟩ := hL
        have inB : ∀ {b : Addr} {o : Obj}, s2.heap.get? b = some o → b ∉ frs (envOfC qual scope s.heap.objs.size f cd :: outer) → (PySem.W.hideAll s2.heap (frs (envOfC qual scope s.heap.objs.size f cd :: outer))).get? b = some o := fun e n => PySem.W.hideAll_get _ e n
        have un : Un (frs outer) [] H H2 s.heap s2.heap := I2.base
        have fdat : ∀ {b : Addr} {o : Obj}, s2.heap.get? b = some o → b ∈ frs outer → ∀ vs, o.data ≠ .fields vs := fun {b o} e hb => by
          obtain ⟨_, o', ho', hn'⟩ := I2.stack.mem (show b ∈ (envOfC qual scope s.heap.objs.size f cd :: outer).filterMap (·.frame) from List.mem_cons_of_mem _ hb)
          rw [e] at ho'; cases ho'; exact hn'
        have slotB : ∀ {b : Addr} {o : Obj}, s2.heap.get? b = some o → b ∈ frs outer → ∃ sl, h''.get? b = some { o with slots := sl } := fun {b o} e hb => l4 b o (hm.keeps b o e) (fdat e hb)
        refine ⟨e, H2, _, .ref tt, rfl, I2.os, I2.bare, ⟨fun b o z n hb hx => ?_, fun b o z n hb hx => ?_, fun b o z n hx => un.free b o z n hx, fun b o z hx => ?_, un.tups, un.frzs, un.tbls⟩, fun b o z => ?_, ⟨l1, ?_, l2.2.2, l3⟩, fun b o hb z => ?_, fun b o z n hb => ?_, fun b o z hb => ?_, ?_, hE⟩
        · exact l1 b o (inB (un.keep b o z n hb hx) (notfr z hb))
        · obtain ⟨sl, z2⟩ := un.slot b o z n hb hx
          obtain ⟨sl', z3⟩ := slotB z2 hb
          exact ⟨sl', z3⟩
        · obtain ⟨o', z2⟩ := un.there b o z hx
          by_cases hb : b ∈ frs outer
          · obtain ⟨sl, z3⟩ := slotB z2 hb
            exact ⟨_, z3⟩
          · exact ⟨o', l1 b o' (inB z2 (notfr z hb))⟩
        · refine (I2.hok b o z).stay (fun c v hc q => l1 c v (inB q (trk ?_))) (fun _ q => q) fun _ _ q => q
          rcases hc with rfl | hc
          · rw [z]; simp
          · rw [hc]; simp
        · cases z : (PySem.W.hideAll s2.heap (frs (envOfC qual scope s.heap.objs.size f cd :: outer))).get? e with
          | none => rfl
          | some o => have := PySem.W.of_hideAll _ z; rw [hm.new] at this; cases this
        · cases y : H2 b with
          | none => exact absurd y hb
          | some u =>
            obtain ⟨o2, z2⟩ := (I2.hok b u y).is
            have z3 := inB z2 (trk hb)
            have z4 := l1 b o2 z3
            rw [z] at z4; cases z4
            exact z3
        · exact inB (un.keep b o z n hb (by simp)) (notfr z hb)
        · obtain ⟨o', z2⟩ := un.there b o z (by simp)
          exact ⟨o', inB z2 (notfr z hb)⟩
        · cases y : H2 e with
          | none => rfl
          | some u =>
            obtain ⟨o2, z2⟩ := (I2.hok e u y).is
            rw [hm.new] at z2; cases z2)
  show wpAny _ _ (evalArgs (.ref C) true (backTo cpos (starEach (a :: as) (envOfC qual scope s.heap.objs.size f cd))) []) _ _ _
  have main' : wpAny (model P w) (A.deeper (envOfC qual scope s.heap.objs.size f cd)) (spliced (backTo cpos (starEach (a :: as) (envOfC qual scope s.heap.objs.size f cd)))) _ _ s1 := main
  rw [he] at main' ⊢
  exact PySem.Calls.evalArgs_plain main'
end
end L2
set_option Elab.async false
set_option linter.all false
set_option maxRecDepth 100000
set_option maxHeartbeats 4000000
namespace L2
open PySem PySem.Spec PyProof.Rows
section
variable {X : Cx} {pins : List (Addr × Obj)} {σ : St} {H H' : Hp} {s s' : Shared} {B h5 : Heap}
theorem Inv.flown (I : Inv X pins σ H s) (os : s'.os = s.os) (bare : AllBare s'.gens) (un : Un (frs X.stack) [] H H' s.heap s'.heap) (hok : HOk X.prog X.w H' s'.heap) (inB : ∀ b o, H' b ≠ none → s'.heap.get? b = some o → B.get? b = some o)
    (oldB : ∀ b o, s.heap.get? b = some o → H b = none → b ∉ frs X.stack → B.get? b = some o) (thB : ∀ b o, s.heap.get? b = some o → b ∉ frs X.stack → ∃ o', B.get? b = some o') (st : B.StaysIn h5) (sm : s'.heap.UpToSlots h5) : Inv X pins σ H' { s' with heap := h5 } := by
  have fr : ∀ {b : Addr} {o : Obj}, s.heap.get? b = some o → b ∈ frs X.stack → ∀ vs, o.data ≠ .fields vs := fun {b o} e hb => by
    obtain ⟨_, o', ho', hn'⟩ := I.stack.mem hb
    rw [e] at ho'; cases ho'; exact hn'
  have sl5 : ∀ b o, s.heap.get? b = some o → H b = none → b ∈ frs X.stack → ∃ sl, h5.get? b = some { o with slots := sl } := fun b o e n hb => by
    obtain ⟨sl, e2⟩ := un.slot b o e n hb (by simp)
    obtain ⟨sl', e3⟩ := sm b _ e2 (fr (o := o) e hb)
    exact ⟨sl', e3⟩
  refine I.call' (s' := { s' with heap := h5 }) (ch := []) os ⟨fun b o e n hb _ => st b o (oldB b o e n hb), fun b o e n hb _ => sl5 b o e n hb, fun b o e n hx => un.free b o e n hx, fun b o e _ => ?_, un.tups, un.frzs, un.tbls⟩ (fun b o e => ?_) bare (fun b z => absurd z (by simp))
  · by_cases hb : b ∈ frs X.stack
    · obtain ⟨sl, e2⟩ := sl5 b o e (I.stkFree b hb) hb
      exact ⟨_, e2⟩
    · obtain ⟨o', e2⟩ := thB b o e hb
      exact ⟨o', st b o' e2⟩
  · refine (hok b o e).stay (fun c v hc q => st c v (inB c v ?_ q)) (fun _ q => q) fun _ _ q => q
    rcases hc with rfl | hc
    · rw [e]; simp
    · rw [hc]; simp
abbrev Cx.but (X : Cx) (E : Value → Shared → Prop) (pn : List (Addr × Obj)) : Cx := { X with xe := E, pn := pn }
abbrev Cx.caught (X : Cx) (hd : Option Value) (pn : List (Addr × Obj)) : Cx := { X with A := X.A.mark hd, calm := false, xe := fun _ _ => False, pn := pn }
theorem Cx.Ok.but (ok : X.Ok) (E : Value → Shared → Prop) (pn : List (Addr × Obj)) : (X.but E pn).Ok :=
  ⟨ok.mod, ok.kind, ok.glob, ok.blt, ok.above, ok.inj, ok.has, ok.cab, ok.hd, ok.frames, ok.stk, ok.exf, ok.bs, ok.bsz, ok.noex, ok.exfs, ok.funs, ok.frf⟩
theorem Cx.Ok.unbut {E : Value → Shared → Prop} {pn : List (Addr × Obj)} (ok : (X.but E pn).Ok) : X.Ok :=
  ⟨ok.mod, ok.kind, ok.glob, ok.blt, ok.above, ok.inj, ok.has, ok.cab, ok.hd, ok.frames, ok.stk, ok.exf, ok.bs, ok.bsz, ok.noex, ok.exfs, ok.funs, ok.frf⟩
theorem Cx.Ok.caught (ok : X.Ok) (hd : Option Value) (pn : List (Addr × Obj)) : (X.caught hd pn).Ok :=
  ⟨ok.mod, ok.kind, ok.glob, ok.blt, ok.above, ok.inj, ok.has, ok.cab, fun z => absurd (show false = true from z) Bool.false_ne_true, ok.frames, ok.stk, ok.exf, ok.bs, ok.bsz, ok.noex, ok.exfs, ok.funs, ok.frf⟩
theorem Inv.but (I : Inv X pins σ H s) (E : Value → Shared → Prop) : Inv (X.but E (X.pn ++ pins)) [] σ H s :=
  ⟨I.ok.but E _, I.os, I.bare, I.base, I.loc, I.cell, I.free, I.freeC, fun p hp => I.pin p (by rw [List.append_nil] at hp; exact hp), I.hok, I.len⟩
theorem Inv.unbut {pins' : List (Addr × Obj)} {E : Value → Shared → Prop} (ok : X.Ok) (I : Inv (X.but E (X.pn ++ pins)) pins' σ H s) : Inv X pins σ H s :=
  ⟨ok, I.os, I.bare, I.base, I.loc, I.cell, I.free, I.freeC, fun p hp => I.pin p (List.mem_append_left _ hp), I.hok, I.len⟩
theorem Inv.caught (I : Inv X pins σ H s) (hd : Option Value) {x : Addr} {oe : Obj} (hx : s.heap.get? x = some oe) (hn : H x = none) (hL : x ≠ X.env.locals) (hf : x ∉ X.fs) (hc : ∀ v, oe.data ≠ .cell v) : Inv (X.caught hd (X.pn ++ [(x, oe)])) pins σ H s :=
  ⟨I.ok.caught hd _, I.os, I.bare, I.base, I.loc, I.cell, I.free, I.freeC, fun p hp => by
    have hp : p ∈ (X.pn ++ [(x, oe)]) ++ pins := hp
    rcases List.mem_append.mp hp with hp | hp
    · rcases List.mem_append.mp hp with hp | hp
      · exact I.pin p (List.mem_append_left _ hp)
      · rw [List.mem_singleton.mp hp]; exact ⟨hx, hn, hL, hf, hc⟩
    · exact I.pin p (List.mem_append_right _ hp), I.hok, I.len⟩
theorem Inv.uncaught {hd : Option Value} {x : Addr} {oe : Obj} (ok : X.Ok) (I : Inv (X.caught hd (X.pn ++ [(x, oe)])) pins σ H s) : Inv X pins σ H s :=
  ⟨ok, I.os, I.bare, I.base, I.loc, I.cell, I.free, I.freeC, fun p hp => I.pin p (by
    show p ∈ (X.pn ++ [(x, oe)]) ++ pins
    rcases List.mem_append.mp hp with hp | hp
    · exact List.mem_append_left _ (List.mem_append_left _ hp)
    · exact List.mem_append_right _ hp), I.hok, I.len⟩
theorem SP.uncaught {hd : Option Value} {x : Addr} {oe : Obj} {D : Ends} {f : Flow} (ok : X.Ok) (h : SP (X.caught hd (X.pn ++ [(x, oe)])) pins D f s) : SP X pins D f s := by
  cases f with
  | next => obtain ⟨σ', H', I, q⟩ := h; exact ⟨σ', H', I.uncaught ok, q⟩
  | brk => obtain ⟨σ', H', I, q⟩ := h; exact ⟨σ', H', I.uncaught ok, q⟩
  | cont => obtain ⟨σ', H', I, q⟩ := h; exact ⟨σ', H', I.uncaught ok, q⟩
  | ret u => obtain ⟨v, σ', H', I, r, q⟩ := h; exact ⟨v, σ', H', I.uncaught ok, r, q⟩
end
section
variable {X : Cx} {pins : List (Addr × Obj)} {σ : St} {H : Hp} {s s1 s' : Shared} {C S : Addr} {E : XK} {c : Str} {cp hp : Pos} {b0 : Stmt} {suite : List Stmt} {Q : Flow → Shared → Prop} {nm : Option Str} {e : Value}
theorem to_suite (hst : X.stack = X.env :: X.outer) (hfr : X.env.frame = some X.env.locals) (I : Inv X pins σ H s1) (hcx : CX1 X.prog X.w C X.stack H s1 E e s') (hg : Gl X c) (mc : X.mg c = some (.ref S)) (hm : PySem.W.exmOne X.K (.ref C) (.ref S) = some true) (hdb : (c == ("__debug__" : Str)) = false)
    (k : ∀ (x : Addr) (oe : Obj) (H' : Hp) (s2 : Shared), e = .ref x → oe.cls = .ref C → E (.ref C) none H' → Inv (X.caught (some (.ref x)) (X.pn ++ [(x, oe)])) pins σ H' s2 → ∀ (B : Heap) (a0 : Value), Heap.FlyingW B X.stack x (.ref C) a0 s2.heap →
      (∀ h5 oe5 vs, B.StaysIn h5 → s2.heap.UpToSlots h5 → h5.get? x = some oe5 → oe5.data = .fields vs → Inv (X.caught (some (.ref x)) (X.pn ++ [(x, oe5)])) pins σ H' { s2 with heap := h5 }) →
      codeAny (model X.prog X.w) (X.A.mark (some (.ref x))) (.handlers (.ref x) [.ExceptHandler none nm (b0 :: suite) hp] X.env) (fun r s₂ => match r with
          | .ok f => (match nm with
            | none => Q f s₂
            | some n => wpAny (model X.prog X.w) X.A (do bindName X.env n .none; unbindBehindTheSuite X.env n hp) (fun _ s₃ => Q f s₃) X.xe s₂)
          | .error x => cameBackBy (model X.prog X.w) X.A X.env X.xe x s₂) s2) :
    wpAny (model X.prog X.w) X.A (noteFrame e X.env) (fun _ s₂ => wpAny (model X.prog X.w) X.A (setFlight e none) (fun _ s₃ => wpAny (model X.prog X.w) X.A (handleBy e X.env [.ExceptHandler (some (.Name c cp)) nm (b0 :: suite) hp]) Q X.xe s₃) X.xe s₂) X.xe s' := by
  obtain ⟨x, H', B, a0, rfl, os, bare, un, hok, fl, inB, oldB, thB, hxn, hE⟩ := hcx
  have hfs : X.A.frames = some (X.env :: X.outer) := by rw [← hst]; exact I.ok.frames
  rw [hst] at fl
  refine wpAny_looks_onW hfs hfr fl fun h4 hheld sm4 => ?_
  refine wpAny_landsW hheld fun h5 fl5 sm5 => ?_
  have sm := sm4.trans sm5
  have go : ∀ {h6 : Heap}, B.StaysIn h6 → s'.heap.UpToSlots h6 → Inv X pins σ H' { s' with heap := h6 } := fun st6 sm6 => I.flown (s' := s') os bare un hok inB oldB thB st6 sm6
  have I5 := go fl5.1 sm
  obtain ⟨oe, he, hec⟩ := fl5.there
  have hed : ∀ v, oe.data ≠ .cell v := by
    obtain ⟨_, _, _, oe', vs, T, oT, ts, he', _, hd', _⟩ := fl5
    rw [he] at he'; cases he'
    intro v z
    rw [hd'] at z; cases z
  have hxB : B.get? x = none := fl5.2.1
  have hxL : x ≠ X.env.locals := fun z => by
    obtain ⟨m, ⟨o, es, ep, ho, hd, _⟩, _⟩ := I5.loc
    obtain ⟨_, _, _, oe', vs, T, oT, ts, he', _, hd', _⟩ := fl5
    rw [z, ho] at he'; cases he'
    rw [hd] at hd'; cases hd'
  have hxf : x ∉ X.fs := fun z => by
    obtain ⟨_, o, ho, hnf⟩ := fl5.2.2.1.2.2.mem z
    obtain ⟨_, _, _, oe', vs, T, oT, ts, he', _, hd', _⟩ := fl5
    rw [ho] at he'; cases he'
    exact hnf _ hd'
  have J := I5.caught (some (.ref x)) he hxn hxL hxf hed
  have fl5' := fl5
  rw [← hst] at fl5'
  refine wpAny_handleBy_cons (codeAny_handlers_test (ld_glob (X := X.caught (some (.ref x)) (X.pn ++ [(x, oe)])) J hg mc ?_ hdb)) (by intro z; cases z)
  have LT : PySem.W.Looks (model X.prog X.w) h5 (typeOf (.ref x)) (.ref C) := by
    have this : PySem.W.Looks (model X.prog X.w) h5 (typeOf (.ref x)) oe.cls := (PySem.W.Looks.ld he).andThen .now
    rw [hec] at this
    exact this
  refine (PySem.W.exm_one (K := X.K) J.kIn LT hm) _ _ _ { s' with heap := h5 } (fun _ _ z => z) ?_
  exact k x oe H' { s' with heap := h5 } rfl hec hE J B a0 fl5' fun h6 oe6 vs6 st6 sm6 he6 hd6 => (go st6 (sm.trans sm6)).caught (some (.ref x)) he6 hxn hxL hxf fun v z => by rw [hd6] at z; cases z
end
theorem exc_inst {prog : Program} {w : World} {K : PySem.W.Frag} {A : Around} {E : Value → Shared → Prop} {s : Shared} {Q : Value → Shared → Prop} {x C : Addr} {o : Obj} {T : String} (X : K.In s.heap) (ho : s.heap.get? x = some o) (hc : o.cls = .ref C) (hk : PySem.W.kitCls K (.ref C) (.type T) = some true) (h : Q (.bool true) s) :
    wpAny (model prog w) A (call (.builtin "isinstance") [.ref x, .type T]) Q E s := by
  have LT : PySem.W.Looks (model prog w) s.heap (typeOf (.ref x)) (.ref C) := by
    have this : PySem.W.Looks (model prog w) s.heap (typeOf (.ref x)) o.cls := (PySem.W.Looks.ld ho).andThen .now
    rw [hc] at this
    exact this
  obtain ⟨l1, l2, l3⟩ := PySem.W.kit_cls (M := model prog w) X hk
  have LI : PySem.W.Looks (model prog w) s.heap (isInstance (.ref x) (.type T)) true := LT.andThen l3
  refine call_isinstance_of ?_
  unfold Builtin.«isinstance.nested»
  refine wpAny_bind (LT.here ?_)
  rw [if_neg (show ¬ (Value.ref C == Value.type T) = true from fun z => by cases beq_iff_eq.mp z)]
  refine wpAny_bind (l1.here ?_)
  rw [if_pos (by decide)]
  refine wpAny_bind (wpAny_bind (l2.here ?_))
  refine wpAny_bind (m := isInstance (.ref x) (.type T)) (LI.here ?_)
  exact wpAny_pure (a := true) (wpAny_pure h)
def rInstX (x : Addr) (T : String) : List V → Hp → VK → Prop := fun xs H Q => xs = [.ref x, .ty T] ∧ Q (.bl true) H
theorem call_instX {X : Cx} {hd : Option Value} {x C : Addr} {oe : Obj} {T : String} (hc : oe.cls = .ref C) (hk : PySem.W.kitCls X.K (.ref C) (.type T) = some true) : CallR (X.caught hd (X.pn ++ [(x, oe)])) (.builtin "isinstance") (rInstX x T) := by
  intro pins s σ H vs us Q I r h
  obtain ⟨rfl, q⟩ := h
  obtain ⟨u1, u2, rfl, r1, r2⟩ := vals2 r
  cases r1
  cases r2
  have hp := I.pin (x, oe) (List.mem_append_left _ (List.mem_append_right _ (List.mem_singleton_self _)))
  exact exc_inst (K := X.K) I.kIn hp.1 hc hk ⟨.bl true, H, I, rfl, q⟩
section
variable {X : Cx} {k j i : Nat} {C S : Addr} {ps : List Str} {sp : Sp} {x y c : Str} {p pos py ap tp cp hp : Pos} {e : Expr} {es : List Expr} {t : TA} {b0 : Stmt} {suite : List Stmt} {ts : TS}
theorem call_try {pins : List (Addr × Obj)} {σ : St} {E : XK} {E' : Value → Shared → Prop} (F : HasX X.prog X.w X.K X.mg X.base C x k ps sp) (hr : Room j X.A) (hk : k ≤ j) (hg : Gl X x) (hdb : (x == ("__debug__" : Str)) = false) (ha : PA (X.but E' (X.pn ++ pins)) (e :: es) t)
    (he : starEach (e :: es) X.env = (false, eval e X.env) :: starEach es X.env) (hpl : (backTo pos (starEach es X.env)).any (·.1) = false)
    (hx : ∀ (H1 : Hp) (s1 : Shared) (ev : Value) (s2 : Shared), Inv X pins σ H1 s1 → CX1 X.prog X.w C X.stack H1 s1 E ev s2 → E' ev s2) (ok : X.Ok) :
    PE (X.but E' (X.pn ++ pins)) (.Call (.Name x p) (e :: es) [] pos) (fun σ' H Q => σ' = σ ∧ t σ' H fun vs H1 => sp vs H1 Q E) := by
  intro pins' s σ' H Q I h
  obtain ⟨rfl, h⟩ := h
  obtain ⟨f, fd, hm, kp, hb, F⟩ := F
  refine wpAny_Call_Name_kw (ld_glob I hg hm ?_ hdb)
  refine PySem.W.callWith_K (h₀ := X.base) I.ok.mod.kin kp (thn (ha pos pins' s σ' H _ I h) fun us s1 ⟨vs, H1, I1, r, q⟩ => ⟨I1.kIn, ?_⟩) he hpl
  have hl : (us ++ []).length = ps.length := by rw [List.append_nil, ← r.length]; exact F.len _ _ _ _ q
  have hb' := hb s1 us I1.kIn hl
  rw [List.append_nil] at hb'
  refine wpAny_call (codeAny_mono (F.run X.A X.stack s1 H1 ⟨us, []⟩ us vs Q E (hr.mono hk) I1.env0 hb' r q) fun rr s2 hq => ?_)
  cases rr with
  | error ev => exact hx H1 s1 ev s2 (I1.unbut ok) hq
  | ok fl =>
    cases fl with
    | ret u => exact I1.after hq
    | next => exact False.elim hq
    | brk => exact False.elim hq
    | cont => exact False.elim hq
def tTrySet (sp : Sp) (i : Nat) (t : TA) (ts : TS) : TS := fun D σ H => t σ H fun vs H1 => sp vs H1 (fun v H2 => D.nx (σ.set i (some v)) H2) (fun _ _ H2 => ts D σ H2)
theorem ps_tryset (hst : X.stack = X.env :: X.outer) (hfr : X.env.frame = some X.env.locals) (F : HasX X.prog X.w X.K X.mg X.base C x k ps sp) (hr : Room j X.A) (ha : ∀ (E' : Value → Shared → Prop) (pn : List (Addr × Obj)), PA (X.but E' pn) (e :: es) t)
    (hs : ∀ (hd : Option Value) (pn : List (Addr × Obj)), PSs (X.caught hd pn) (b0 :: suite) ts) (hN : X.N.Nodup) (hi : X.N[i]? = some y) (hy : Loc X.env.scope y) (mc : X.mg c = some (.ref S)) (hm : PySem.W.exmOne X.K (.ref C) (.ref S) = some true)
    (hk : k ≤ j := by decide) (hg : Gl X x := by rfl) (hgc : Gl X c := by rfl) (hdb : (x == ("__debug__" : Str)) = false := by decide) (hdc : (c == ("__debug__" : Str)) = false := by decide)
    (he : starEach (e :: es) X.env = (false, eval e X.env) :: starEach es X.env := by rfl) (hpl : (backTo pos (starEach es X.env)).any (·.1) = false := by rfl)
    (hsw : swapsWith (.Call (.Name x p) (e :: es) [] pos) (some (.Name y py)) ap.line X.env = pure false := by rfl) (hf : X.fn y = true ∨ X.env.scope.names.lookup y = some .local := by first | exact .inl rfl | exact .inr rfl | assumption) :
    PS X (.Try [.Assign [.Name y py] (.Call (.Name x p) (e :: es) [] pos) ap] [.ExceptHandler (some (.Name c cp)) none (b0 :: suite) hp] [] [] tp) (tTrySet sp i t ts) := by
  intro pins s σ H D I h
  have ok := I.ok
  refine wpAny_Try_except ?_
  have call := call_try (E := fun _ _ H2 => ts D σ H2) (E' := fun ev s₁ => wpAny (model X.prog X.w) X.A (noteFrame ev X.env) (fun _ s₂ => wpAny (model X.prog X.w) X.A (setFlight ev none) (fun _ s₃ => wpAny (model X.prog X.w) X.A (handleBy ev X.env [.ExceptHandler (some (.Name c cp)) none (b0 :: suite) hp]) (SP X pins D) X.xe s₃) X.xe s₂) X.xe s₁)
    (p := p) (pos := pos) (pins := pins) (σ := σ) F hr hk hg hdb (ha _ _) he hpl (fun H1 s1 ev s2 I1 hcx => to_suite hst hfr I1 hcx hgc mc hm hdc (fun x oe H' s3 ex hec hE J B a0 fl go => ?_)) ok
  · have r := pss_one (ps_set (X := X.but _ (X.pn ++ pins)) (pos := ap) (pos' := py) hN hi hy call hsw hf) [] s σ H { nx := D.nx, rt := fun _ _ => False } (I.but _) ⟨rfl, h⟩
    refine wpAny_mono r (fun f s1 q => ?_) fun _ _ z => z
    cases f with
    | next =>
      obtain ⟨σ', H', I1, q⟩ := q
      exact wpAny_execs_nil ⟨σ', H', I1.unbut ok, q⟩
    | ret u => obtain ⟨_, _, _, _, _, q⟩ := q; exact False.elim q
    | brk => obtain ⟨_, _, _, q⟩ := q; exact False.elim q
    | cont => obtain ⟨_, _, _, q⟩ := q; exact False.elim q
  · subst ex
    refine codeAny_handlers_suite (lands_againW fl fun h6 fl6 sm6 => ?_)
    obtain ⟨_, _, _, oe6, vs6, T, oT, tss, he6, ⟨hc6, _⟩, hd6, _⟩ := id fl6
    exact wpAny_mono (hs (some (.ref x)) (X.pn ++ [(x, oe6)]) pins _ σ H' D (go h6 oe6 vs6 fl6.1 sm6 he6 hd6) hE) (fun f s4 q => q.uncaught ok) fun _ _ z => False.elim z
theorem Inv.gone {pins : List (Addr × Obj)} {σ : St} {H : Hp} {s : Shared} {h' : Heap} {m' : Str → Option Value} {tk : Nat} (I : Inv X pins σ H s) (hns : h'.Ns X.env.locals m') (hs : Heap.SameBut X.env.locals s.heap h') : Inv X pins (List.replicate X.N.length none) H { s with heap := h', toks := tk } := by
  have ne0 : ∀ b o, X.s₀.heap.get? b = some o → b ≠ X.env.locals := fun b o e => Nat.ne_of_lt (Nat.lt_of_lt_of_le (Heap.lt_size e) I.ok.above)
  refine ⟨I.ok, I.os, I.bare, ⟨fun b o e n hb hx => (hs.2 b (ne0 b o e)).trans (I.base.keep b o e n hb hx), fun b o e n hb hx => ?_, I.base.free, fun b o e hx => ?_, I.base.tups, I.base.frzs, I.base.tbls⟩, ⟨_, hns, fun i x v h1 h2 h3 => ?_⟩, fun x c e => ?_, I.free, I.freeC, fun p hp => ?_, fun b o e => ?_, by simp⟩
  · obtain ⟨sl, e1⟩ := I.base.slot b o e n hb hx
    exact ⟨sl, (hs.2 b (ne0 b o e)).trans e1⟩
  · obtain ⟨o', e1⟩ := I.base.there b o e hx
    exact ⟨o', (hs.2 b (ne0 b o e)).trans e1⟩
  · rw [List.getElem?_replicate] at h2
    split at h2 <;> cases h2
  · obtain ⟨v, z⟩ := I.cell x c e
    exact ⟨v, z.sameBut hs (I.cne x c e)⟩
  · obtain ⟨e, n, ne, nf, d⟩ := I.pin p hp
    exact ⟨(hs.2 p.1 ne).trans e, n, ne, nf, d⟩
  · refine (I.hok b o e).stay (fun c v hc q => (hs.2 c ?_).trans q) (fun _ q => q) fun _ _ q => q
    rintro rfl
    rcases hc with z | z
    · rw [← z, I.free] at e; cases e
    · rw [I.free] at z; cases z
def tTryAs (sp : Sp) (i : Nat) (t : TA) (ts : Addr → TS) : TS := fun D σ H => t σ H fun vs H1 => sp vs H1 (fun _ H2 => D.nx σ H2) (fun _ _ H2 => ∀ x : Addr, ts x { nx := fun _ _ => False, rt := D.rt } (σ.set i (some (.ref x))) H2)
theorem ps_tryas {n : Str} {ts : Addr → TS} (hst : X.stack = X.env :: X.outer) (hfr : X.env.frame = some X.env.locals) (F : HasX X.prog X.w X.K X.mg X.base C x k ps sp) (hr : Room j X.A) (ha : ∀ (E' : Value → Shared → Prop) (pn : List (Addr × Obj)), PA (X.but E' pn) (e :: es) t)
    (hs : ∀ (hd : Option Value) (x : Addr) (oe : Obj), oe.cls = .ref C → PSs (X.caught hd (X.pn ++ [(x, oe)])) (b0 :: suite) (ts x)) (hN : X.N.Nodup) (hi : X.N[i]? = some n) (hn : X.env.kindOf n = some .local) (mc : X.mg c = some (.ref S)) (hm : PySem.W.exmOne X.K (.ref C) (.ref S) = some true)
    (hk : k ≤ j := by decide) (hg : Gl X x := by rfl) (hgc : Gl X c := by rfl) (hdb : (x == ("__debug__" : Str)) = false := by decide) (hdc : (c == ("__debug__" : Str)) = false := by decide)
    (he : starEach (e :: es) X.env = (false, eval e X.env) :: starEach es X.env := by rfl) (hpl : (backTo pos (starEach es X.env)).any (·.1) = false := by rfl)
    (hsw : swapsWith (.Call (.Name x p) (e :: es) [] pos) none ap.line X.env = pure false := by rfl) :
    PS X (.Try [.Expr (.Call (.Name x p) (e :: es) [] pos) ap] [.ExceptHandler (some (.Name c cp)) (some n) (b0 :: suite) hp] [] [] tp) (tTryAs sp i t ts) := by
  intro pins s σ H D I h
  have ok := I.ok
  refine wpAny_Try_except ?_
  have call := call_try (E := fun _ _ H2 => ∀ x : Addr, ts x { nx := fun _ _ => False, rt := D.rt } (σ.set i (some (.ref x))) H2) (E' := fun ev s₁ => wpAny (model X.prog X.w) X.A (noteFrame ev X.env) (fun _ s₂ => wpAny (model X.prog X.w) X.A (setFlight ev none) (fun _ s₃ => wpAny (model X.prog X.w) X.A (handleBy ev X.env [.ExceptHandler (some (.Name c cp)) (some n) (b0 :: suite) hp]) (SP X pins D) X.xe s₃) X.xe s₂) X.xe s₁)
    (p := p) (pos := pos) (pins := pins) (σ := σ) F hr hk hg hdb (ha _ _) he hpl (fun H1 s1 ev s2 I1 hcx => to_suite hst hfr I1 hcx hgc mc hm hdc (fun x oe H' s3 ex hec hE J B a0 fl go => ?_)) ok
  · have r := pss_one (ps_expr (X := X.but _ (X.pn ++ pins)) (pos := ap) call hsw) [] s σ H { nx := D.nx, rt := fun _ _ => False } (I.but _) ⟨rfl, h⟩
    refine wpAny_mono r (fun f s1 q => ?_) fun _ _ z => z
    cases f with
    | next =>
      obtain ⟨σ', H', I1, q⟩ := q
      exact wpAny_execs_nil ⟨σ', H', I1.unbut ok, q⟩
    | ret u => obtain ⟨_, _, _, _, _, q⟩ := q; exact False.elim q
    | brk => obtain ⟨_, _, _, q⟩ := q; exact False.elim q
    | cont => obtain ⟨_, _, _, q⟩ := q; exact False.elim q
  · subst ex
    refine codeAny_handlers_suite_as (lands_againW fl fun h6 fl6 sm6 => ?_)
    obtain ⟨_, _, _, oe6, vs6, T, oT, tss, he6, ⟨hc6, _⟩, hd6, _⟩ := id fl6
    refine store_ok (X := X.caught (some (.ref x)) (X.pn ++ [(x, oe6)])) (v := .ref x) (go h6 oe6 vs6 fl6.1 sm6 he6 hd6) hN hi (.inl hn) rfl (fun s4 I4 => ?_) (.inr hn)
    refine wpAny_mono (hs (some (.ref x)) x oe6 hc6 pins _ _ H' { nx := fun _ _ => False, rt := D.rt } I4 (hE x)) (fun f s5 q => ?_) fun _ _ z => False.elim z
    cases f with
    | next => obtain ⟨_, _, _, q⟩ := q; exact False.elim q
    | brk => obtain ⟨_, _, _, q⟩ := q; exact False.elim q
    | cont => obtain ⟨_, _, _, q⟩ := q; exact False.elim q
    | ret u =>
      obtain ⟨v, σ', H5, I5, rv, q⟩ := q
      have I6 := I5.uncaught ok
      obtain ⟨m, hns, _⟩ := I6.loc
      exact wpAny_nameGoes_keeps hn hns (by rw [ok.kind]; rfl) fun h' v' hns' hsb => ⟨v, _, H5, I6.gone hns' hsb, rv, q⟩
end
theorem own_base {x : Str} {C : Addr} {bmB : List Value} {newId : String} {mg : Str → Option Value} {h base : Heap} (k : ∀ b o, h.get? b = some o → (∀ xs n, o.data ≠ .seq xs n) → (∀ vs, o.data ≠ .fields vs) → base.get? b = some o) (O : OwnCls x C bmB newId mg h) : OwnCls x C bmB newId mg base := by
  have ns : ∀ {a : Addr} {m : Str → Option Value}, h.Ns a m → base.Ns a m := fun ⟨o, es, ep, e, d, r⟩ => ⟨o, es, ep, k _ o e (fun xs n z => by rw [d] at z; cases z) (fun vs z => by rw [d] at z; cases z), d, r⟩
  obtain ⟨hbd, bm, Nn, nm, q, bs, hdct, sn, sub, ab, col, dd, k0, k1, k2, k3, k5, mN, hC, hN, hni, hT⟩ := O
  have tl : OwnTail base bmB bm := by
    clear hC
    induction hT with
    | base => exact .base
    | own hA hn hi _ ih => exact .own (k _ _ hA (fun xs n z => by cases z) (fun vs z => by cases z)) (ns hn) hi ih
  exact ⟨hbd, bm, Nn, nm, q, bs, hdct, sn, sub, ab, col, dd, k0, k1, k2, k3, k5, mN, k _ _ hC (fun xs n z => by cases z) (fun vs z => by cases z), ns hN, hni, tl⟩
end L2
set_option Elab.async false
set_option linter.all false
set_option maxRecDepth 100000
set_option maxHeartbeats 4000000
namespace L2
open PySem PySem.Spec PyProof.Rows
theorem boot_VE : bootBuiltins "ValueError" = some (.type "ValueError") := by decide +kernel
abbrev bmVE : List Value := [.type "ValueError", .type "Exception", .type "BaseException", .type "object"]
section
variable {P : Program} {w : World} {K : PySem.W.Frag} {mg : Str → Option Value} {base : Heap} {x qual : Str} {st : Stmt} {f C : Addr} {fd : FuncData} {N ps : List Str} {k : Nat} {sp : Sp}
theorem Fun.okX (F : Fun K x qual st f fd) (S : FnScope N ps (defScope st)) (len : ∀ vs H Q E, sp vs H Q E → vs.length = ps.length)
    (hbody : ∀ (cdv : Value) (A : Around) (outer : List Env) (s : Shared) (H : Hp) (vs : List V) (Q : VK) (E : XK), Room k (A.deeper (envOfC qual (defScope st) s.heap.objs.size f cdv)) → sp vs H Q E →
      ∃ t, PSs (cxOf (CX1 P w C) P w K mg base N qual (defScope st) f cdv A outer s H E) (defBody st) t ∧ t { nx := fun _ H' => Q .non H', rt := Q } (start N vs) H) : FnOk P w K mg base (CX1 P w C) (k + 1) f fd ps sp := by
  obtain ⟨oc, od, kV, doc, pm, an, cdv, ct, osl, rfl, lk, hcd⟩ := F.ex
  exact fn_of lk hcd S len fun A outer s H vs Q E hr hsp => hbody cdv A outer s H vs Q E hr hsp
theorem DefIn.hasX (D : DefIn K mg x st ps f fd) (F : FnOk P w K mg base (CX1 P w C) k f fd ps sp) : HasX P w K mg base C x k ps sp := ⟨f, fd, D.m, D.fn.kp, D.b, F⟩
end
def spBestX (T C : Addr) (pos : Pos) : Sp := fun vs H Q E => ∃ (a : Addr) (j : Nat) (v : V) (W : List Rm) (s : Say), vs = [.ref a, .int j, v] ∧ RoomIn H a W j ∧ Stm H v s ∧ s.sz ≤ 100000 ∧ Say.good false s ∧ LamTab T (lamQ "truths") pos H ∧
  (movesS W j s ≠ [] → ∀ H' : Hp, SamT T H H' → LamTab T (lamQ "truths") pos H' → Q (.int (bestS W j s)) H') ∧ (movesS W j s = [] → ∀ H' : Hp, SamT T H H' → LamTab T (lamQ "truths") pos H' → E (.ref C) none H')
def spRefused (T : Addr) (pos : Pos) : Sp := fun vs H Q _ => ∃ (a : Addr) (j : Nat) (v : V) (W : List Rm) (s : Say), vs = [.ref a, .int j, v] ∧ RoomIn H a W j ∧ Stm H v s ∧ s.sz ≤ 100000 ∧ Say.good false s ∧ LamTab T (lamQ "truths") pos H ∧
  ∀ H' : Hp, SamT T H H' → LamTab T (lamQ "truths") pos H' → Q (.bl (movesS W j s).isEmpty) H'
def spBestOf : Sp := fun vs H Q _ => ∃ (a : Addr) (v : V) (d : Addr) (W : List Rm) (s : Say) (j : Nat) (ys : List V), vs = [.ref a, v, .ref d] ∧ RoomIn H a W j ∧ Stm H v s ∧ s.sz ≤ 100000 ∧ Say.good false s ∧ H d = some (.lst ys) ∧ Paired (PlAt H) ys (movesS W j s) ∧
  ∀ H' : Hp, Same H H' → Q (.int (bestS W j s)) H'
theorem rd_tryset {sp : Sp} {i : Nat} {t : TA} {ts : TS} {D : Ends} {σ : St} {H : Hp} (q : t σ H fun vs H1 => sp vs H1 (fun v H2 => D.nx (σ.set i (some v)) H2) (fun _ _ H2 => ts D σ H2)) : tTrySet sp i t ts D σ H := q
theorem rd_tryas {sp : Sp} {i : Nat} {t : TA} {ts : Addr → TS} {D : Ends} {σ : St} {H : Hp} (q : t σ H fun vs H1 => sp vs H1 (fun _ H2 => D.nx σ H2) (fun _ _ H2 => ∀ x : Addr, ts x { nx := fun _ _ => False, rt := D.rt } (σ.set i (some (.ref x))) H2)) : tTryAs sp i t ts D σ H := q
theorem rd_raise {E : XK} {C : Addr} {t : TA} {D : Ends} {σ : St} {H : Hp} (q : t σ H fun vs H1 => vs.length ≤ 1000 ∧ E (.ref C) none H1) : tRaise E C t D σ H := q
theorem bestX_join {T C : Addr} {pos : Pos} {vs : List V} {H : Hp} {σ : St} {i : Nat} {R P : St → Hp → Prop} {E : XK} (h : (∀ σ H, P σ H → R σ H) → spBestX T C pos vs H (fun v H2 => R (σ.set i (some v)) H2) E) (hR : ∀ σ H, P σ H → R σ H) : spBestX T C pos vs H (fun v H2 => R (σ.set i (some v)) H2) E := h hR
theorem places_als {H : Hp} {b : Nat} : ∀ {xs ys : List V} {ms : List (Nat × Say)}, Paired (PlAt H) xs ms → Paired (PlAt H) ys ms → (∀ m ∈ ms, m.2.sz ≤ b) → ∃ m, m ≤ ms.length * (b + 2) ∧ Als H m xs ys
  | _, _, _, .nil, .nil, _ => ⟨0, Nat.zero_le _, .nil⟩
  | _, _, p :: r, .cons h1 t1, .cons h2 t2, hs => by
    obtain ⟨m, hm, al⟩ := places_als t1 t2 fun q hq => hs q (List.mem_cons_of_mem _ hq)
    obtain ⟨a, u, rfl, a1, a2⟩ := h1
    obtain ⟨c, v, rfl, b1, b2⟩ := h2
    have hb := hs p List.mem_cons_self
    refine ⟨_, ?_, .tup a1 b1 (.int _ (stm_als2 a2 b2)) al⟩
    rw [List.length_cons, Nat.succ_mul]
    omega
theorem best_nil {W : List Rm} {j : Nat} {s : Say} (h : movesS W j s = []) : bestS W j s = 0 := by unfold bestS; rw [h]; rfl
theorem moves_few {H : Hp} {a : Addr} {W : List Rm} {j : Nat} {s : Say} (hR : RoomIn H a W j) (hg : Say.good false s) : (movesS W j s).length ≤ 1000 := by
  cases hl : Say.leaf s with
  | true => rw [leaf_moves hl]; exact Nat.zero_le _
  | false =>
    cases hjoin : Say.join s with
    | true => rw [join_moves hjoin, List.length_map]; have := kids_few s; omega
    | false =>
      obtain ⟨t, _, em⟩ := door_kid hl hjoin (good_noneg hg)
      obtain ⟨rs, rx, l, d, r, h1, h2, h3, h4, h5, h6, h7, h8⟩ := hR.at
      rw [em, List.length_map, h7]; exact h8
theorem moves_fewB {H : Hp} {a : Addr} {W : List Rm} {j b : Nat} {s : Say} (hR : RoomIn H a W j) (hg : Say.good false s) (hb : 2 ≤ b) (hd : ∀ r ∈ W, r.doors.length ≤ b) : (movesS W j s).length ≤ b := by
  cases hl : Say.leaf s with
  | true => rw [leaf_moves hl]; exact Nat.zero_le _
  | false =>
    cases hjoin : Say.join s with
    | true => rw [join_moves hjoin, List.length_map]; have := kids_few s; omega
    | false =>
      obtain ⟨t, _, em⟩ := door_kid hl hjoin (good_noneg hg)
      obtain ⟨rs, rx, l, d, r, h1, h2, h3, h4, h5, h6, h7, h8⟩ := hR.at
      rw [em, List.length_map, h7]; exact hd r (List.mem_of_getElem? h6)
end L2
set_option Elab.async false
set_option linter.all false
set_option maxRecDepth 100000
set_option maxHeartbeats 4000000
namespace My
open PySem L2
seal PE PT PW PA PS PSs PC PG PGs PI PO PPs PTs
local macro_rules | `(tactic| walk_at "ne") => `(tactic| first | assumption | exact Ne.symm (by assumption))
local macro_rules | `(tactic| walk_at "hp") => `(tactic| first | assumption | (with_reducible exact upd_same) | (with_reducible apply keepN; assumption; walk_at "hp") | (with_reducible apply keepL; walk_at "ne"; walk_at "hp"))
local macro_rules | `(tactic| walk_at "sm") => `(tactic| first | assumption | (with_reducible exact Same.refl _) | (with_reducible refine Same.new ?_ (by assumption); walk_at "sm") | (with_reducible refine Same.set ?_ (by assumption); walk_at "sm"))
local macro_rules | `(tactic| walk_at "tk") => `(tactic| first | assumption | (with_reducible exact TupK.refl _) | (with_reducible refine TupK.new ?_ (by assumption); walk_at "tk") | (with_reducible refine TupK.lst ?_ (by walk_at "hp"); walk_at "tk") | (with_reducible refine TupK.dK ?_ (by walk_at "hp"); walk_at "tk") | (with_reducible refine Same.tupK ?_; walk_at "sm"))
local macro_rules | `(tactic| walk_at "sl") => `(tactic| first | assumption | (with_reducible apply SqL.of; walk_at "hp") | (with_reducible apply sameSeq; assumption; walk_at "sm"))
local macro_rules | `(tactic| walk_at "st") => `(tactic| first | assumption | (with_reducible apply SqT.of; walk_at "hp"))
local macro_rules | `(tactic| walk_at "cd") => `(tactic| first | (show (0 : Int) < _; first | decide | assumption | omega) | exact ⟨by decide, by decide⟩ | exact ⟨by decide, by decide, by decide⟩ | exact Or.inl ⟨by decide, by decide⟩ | exact Or.inr ⟨by decide, by decide⟩ | exact Or.inl ⟨by omega, by omega⟩ | exact Or.inr ⟨by omega, by omega⟩ | exact ⟨by omega, by omega⟩)
local macro_rules | `(tactic| walk_at "rd1") => `(tactic| with_reducible first
  | (apply rd_var; with_unfolding_all rfl) | apply rd_op | apply rd_C | apply rd_seq | apply rd_asg | apply rd_name | apply rd_cons | apply rd_nil | apply rd_I0 | apply rd_test | apply rd_bl | apply rd_tB
  | (apply rd_ixT; (walk_at "st"); (with_unfolding_all rfl)) | apply rd_slice | apply rd_noPart | apply rd_part | apply rd_int | apply rd_CB | apply rd_if | apply rd_call | apply rd_ret | apply rd_drop | apply rd_tup | apply rd_lst | apply rd_bm | apply rd_bm0 | (apply rd_ty; (walk_at "hp"))
  | (apply rd_I; (with_unfolding_all walk_at "cd")) | (apply rd_eq; (with_unfolding_all rfl)) | (apply rd_ne; (with_unfolding_all rfl)) | apply rd_and | apply rd_or | apply rd_not | apply rd_andV | apply rd_orV | apply rd_notV | apply rd_ifE
  | (apply rd_lenL; (walk_at "sl")) | (apply rd_lenT; (walk_at "st")) | apply rd_dnew | apply rd_dput | apply rd_din | apply rd_next | apply rd_forL | apply rd_forV | apply rd_compL | apply rd_compZ | apply rd_compT | apply rd_compR | apply rd_kget | apply rd_dget | apply rd_listRev | apply rd_chain | apply rd_ints | apply rd_un | apply rd_U | apply rd_kin | apply rd_forZT | apply rd_pcons | apply rd_pnil | (apply rd_gtup; (walk_at "st"); (with_unfolding_all rfl)) | apply rd_gcons | apply rd_gnil | apply rd_fldC | apply rd_sfldC | apply rd_meth | apply rd_make | apply rd_compE | apply rd_tryset | apply rd_tryas | apply rd_raise | apply rd_forR3 | apply rd_forR2 | apply rd_forR1 | (apply rd_itL; (walk_at "sl")) | (apply rd_neN; (walk_at "sl"); (walk_at "sl")) | (apply rd_eqN; (walk_at "sl"); (walk_at "sl")))
local macro_rules | `(tactic| walk_at "rd") => `(tactic| repeat walk_at "rd1")
local macro_rules | `(tactic| walk_at "rd0") => `(tactic| try dsimp only [cxOf, Cx.nox, Cx.wish])
section
variable {P : Program} {w : World} {K : PySem.W.Frag} {mg : Str → Option Value} {base : Heap} {f : Addr} {fd : FuncData}
def top (i : Nat) : Stmt := PySem.Challenge.pw_roomsay_k09_moves.main.body.getD i (.Pass ⟨0, 0, 0, 0⟩)
abbrev s_statements_within : Stmt := top 6
theorem sc_statements_within : FnScope ["statement"] ["statement"] (defScope s_statements_within) := ⟨rfl, rfl, rfl, by decide +kernel, rfl, by decide +kernel, by decide +kernel⟩
abbrev s_outside_in : Stmt := top 7
theorem sc_outside_in : FnScope ["statement", "parts", "waiting", "part"] ["statement"] (defScope s_outside_in) := ⟨rfl, rfl, rfl, by decide +kernel, rfl, by decide +kernel, by decide +kernel⟩
abbrev s_leaf_truths : Stmt := top 8
theorem sc_leaf_truths : FnScope ["world", "leaf"] ["world", "leaf"] (defScope s_leaf_truths) := ⟨rfl, rfl, rfl, by decide +kernel, rfl, by decide +kernel, by decide +kernel⟩
abbrev s_join_truths : Stmt := top 9
theorem sc_join_truths : FnScope ["kind", "first", "second"] ["kind", "first", "second"] (defScope s_join_truths) := ⟨rfl, rfl, rfl, by decide +kernel, rfl, by decide +kernel, by decide +kernel⟩
abbrev s_truths_behind : Stmt := top 10
theorem sc_truths_behind : FnScope ["doors", "inner"] ["doors", "inner"] (defScope s_truths_behind) := ⟨rfl, rfl, rfl, by decide +kernel, rfl, by decide +kernel, by decide +kernel⟩
abbrev s_door_truths : Stmt := top 11
theorem sc_door_truths : FnScope ["world", "kind", "inner"] ["world", "kind", "inner"] (defScope s_door_truths) := ⟨rfl, rfl, rfl, by decide +kernel, rfl, by decide +kernel, by decide +kernel⟩
abbrev s_from_inside : Stmt := top 12
theorem sc_from_inside : FnScope ["statement", "answer", "found", "part", "inner"] ["statement", "answer"] (defScope s_from_inside) := ⟨rfl, rfl, rfl, by decide +kernel, rfl, by decide +kernel, by decide +kernel⟩
abbrev s_part_truths : Stmt := top 13
theorem sc_part_truths : FnScope ["world", "part", "inner", "kind"] ["world", "part", "inner"] (defScope s_part_truths) := ⟨rfl, rfl, rfl, by decide +kernel, rfl, by decide +kernel, by decide +kernel⟩
abbrev s_truths : Stmt := top 14
theorem sc_truths : FnScope ["world", "statement"] ["world", "statement"] (defScope s_truths) := ⟨rfl, rfl, rfl, by decide +kernel, rfl, by decide +kernel, by decide +kernel⟩
abbrev s_moves : Stmt := top 17
theorem sc_moves : FnScope ["world", "room", "statement", "kind"] ["world", "room", "statement"] (defScope s_moves) := ⟨rfl, rfl, rfl, by decide +kernel, rfl, by decide +kernel, by decide +kernel⟩
abbrev s_winner_told : Stmt := top 18
theorem sc_winner_told : FnScope ["truth"] ["truth"] (defScope s_winner_told) := ⟨rfl, rfl, rfl, by decide +kernel, rfl, by decide +kernel, by decide +kernel⟩
abbrev s_winner : Stmt := top 19
theorem sc_winner : FnScope ["world", "room", "statement"] ["world", "room", "statement"] (defScope s_winner) := ⟨rfl, rfl, rfl, by decide +kernel, rfl, by decide +kernel, by decide +kernel⟩
abbrev s_winners_behind : Stmt := top 20
theorem sc_winners_behind : FnScope ["world", "room", "statement", "found"] ["world", "room", "statement"] (defScope s_winners_behind) := ⟨rfl, rfl, rfl, by decide +kernel, rfl, by decide +kernel, by decide +kernel⟩
abbrev s_move_winners : Stmt := top 21
theorem sc_move_winners : FnScope ["world", "room", "statement"] ["world", "room", "statement"] (defScope s_move_winners) := ⟨rfl, rfl, rfl, by decide +kernel, rfl, by decide +kernel, by decide +kernel⟩
abbrev s_best_move : Stmt := top 22
theorem sc_best_move : FnScope ["world", "room", "statement", "mover", "winners"] ["world", "room", "statement"] (defScope s_best_move) := ⟨rfl, rfl, rfl, by decide +kernel, rfl, by decide +kernel, by decide +kernel⟩
abbrev s__law_draw : Stmt := top 24
theorem sc__law_draw : FnScope ["_law_number", "_law_prime", "_law_many"] ["_law_number", "_law_prime", "_law_many"] (defScope s__law_draw) := ⟨rfl, rfl, rfl, by decide +kernel, rfl, by decide +kernel, by decide +kernel⟩
abbrev s__law_whole : Stmt := top 25
theorem sc__law_whole : FnScope ["_law_found"] ["_law_found"] (defScope s__law_whole) := ⟨rfl, rfl, rfl, by decide +kernel, rfl, by decide +kernel, by decide +kernel⟩
abbrev s__law_at : Stmt := top 26
theorem sc__law_at : FnScope ["_law_script", "_law_k"] ["_law_script", "_law_k"] (defScope s__law_at) := ⟨rfl, rfl, rfl, by decide +kernel, rfl, by decide +kernel, by decide +kernel⟩
abbrev s__law_the_same : Stmt := top 27
theorem sc__law_the_same : FnScope ["_law_found", "_law_due", "_law_left", "_law_right", "_law_one", "_law_two"] ["_law_found", "_law_due"] (defScope s__law_the_same) := ⟨rfl, rfl, rfl, by decide +kernel, rfl, by decide +kernel, by decide +kernel⟩
abbrev s__law_world_of : Stmt := top 28
theorem sc__law_world_of : FnScope ["_law_count", "_law_first", "_law_second", "_law_world", "_law_room", "_law_lit", "_law_doors", "_law_lamp", "_law_spot", "_law_door"] ["_law_count", "_law_first", "_law_second"] (defScope s__law_world_of) := ⟨rfl, rfl, rfl, by decide +kernel, rfl, by decide +kernel, by decide +kernel⟩
abbrev s__law_copy_of : Stmt := top 29
theorem sc__law_copy_of : FnScope ["_law_world"] ["_law_world"] (defScope s__law_copy_of) := ⟨rfl, rfl, rfl, by decide +kernel, rfl, by decide +kernel, by decide +kernel⟩
abbrev s__law_led : Stmt := top 30
theorem sc__law_led : FnScope ["_law_truth", "_law_doors"] ["_law_truth", "_law_doors"] (defScope s__law_led) := ⟨rfl, rfl, rfl, by decide +kernel, rfl, by decide +kernel, by decide +kernel⟩
abbrev s__law_truth_by : Stmt := top 31
theorem sc__law_truth_by : FnScope ["_law_sort", "_law_truth", "_law_world"] ["_law_sort", "_law_truth", "_law_world"] (defScope s__law_truth_by) := ⟨rfl, rfl, rfl, by decide +kernel, rfl, by decide +kernel, by decide +kernel⟩
abbrev s__law_truth_of_two : Stmt := top 32
theorem sc__law_truth_of_two : FnScope ["_law_sort", "_law_first", "_law_second"] ["_law_sort", "_law_first", "_law_second"] (defScope s__law_truth_of_two) := ⟨rfl, rfl, rfl, by decide +kernel, rfl, by decide +kernel, by decide +kernel⟩
abbrev s__law_truth_of_lamp : Stmt := top 33
theorem sc__law_truth_of_lamp : FnScope ["_law_sort", "_law_lamp", "_law_world"] ["_law_sort", "_law_lamp", "_law_world"] (defScope s__law_truth_of_lamp) := ⟨rfl, rfl, rfl, by decide +kernel, rfl, by decide +kernel, by decide +kernel⟩
abbrev s__law_join : Stmt := top 34
theorem sc__law_join : FnScope ["_law_pile", "_law_sort", "_law_two", "_law_one", "_law_truth"] ["_law_pile", "_law_sort"] (defScope s__law_join) := ⟨rfl, rfl, rfl, by decide +kernel, rfl, by decide +kernel, by decide +kernel⟩
abbrev s__law_grown : Stmt := top 35
theorem sc__law_grown : FnScope ["_law_cells", "_law_world", "_law_kinds", "_law_pile", "_law_cell", "_law_sort", "_law_lamp", "_law_one"] ["_law_cells", "_law_world", "_law_kinds"] (defScope s__law_grown) := ⟨rfl, rfl, rfl, by decide +kernel, rfl, by decide +kernel, by decide +kernel⟩
abbrev s__law_plain_kinds : Stmt := top 36
theorem sc__law_plain_kinds : FnScope [] [] (defScope s__law_plain_kinds) := ⟨rfl, rfl, rfl, by decide +kernel, rfl, by decide +kernel, by decide +kernel⟩
abbrev s__law_moves_from : Stmt := top 37
theorem sc__law_moves_from : FnScope ["_law_world", "_law_room", "_law_statement"] ["_law_world", "_law_room", "_law_statement"] (defScope s__law_moves_from) := ⟨rfl, rfl, rfl, by decide +kernel, rfl, by decide +kernel, by decide +kernel⟩
abbrev s__law_behind_parts : Stmt := top 38
theorem sc__law_behind_parts : FnScope ["_law_statement", "_law_found", "_law_todo", "_law_part"] ["_law_statement"] (defScope s__law_behind_parts) := ⟨rfl, rfl, rfl, by decide +kernel, rfl, by decide +kernel, by decide +kernel⟩
abbrev s__law_truths_of : Stmt := top 39
theorem sc__law_truths_of : FnScope ["_law_world", "_law_statement", "_law_pile", "_law_part", "_law_two"] ["_law_world", "_law_statement"] (defScope s__law_truths_of) := ⟨rfl, rfl, rfl, by decide +kernel, rfl, by decide +kernel, by decide +kernel⟩
abbrev s__law_best_of : Stmt := top 40
theorem sc__law_best_of : FnScope ["_law_world", "_law_statement", "_law_due", "_law_k", "_law_truth"] ["_law_world", "_law_statement", "_law_due"] (defScope s__law_best_of) := ⟨rfl, rfl, rfl, by decide +kernel, rfl, by decide +kernel, by decide +kernel⟩
abbrev s__law_refused_by_any : Stmt := top 41
theorem sc__law_refused_by_any : FnScope ["_law_world", "_law_room", "_law_statement", "e"] ["_law_world", "_law_room", "_law_statement"] (defScope s__law_refused_by_any) := ⟨rfl, rfl, rfl, by decide +kernel, rfl, by decide +kernel, by decide +kernel⟩
abbrev s__law_count_by : Stmt := top 42
theorem sc__law_count_by : FnScope ["_law_first"] ["_law_first"] (defScope s__law_count_by) := ⟨rfl, rfl, rfl, by decide +kernel, rfl, by decide +kernel, by decide +kernel⟩
abbrev s__law_moved : Stmt := top 43
theorem sc__law_moved : FnScope ["_law_part", "_law_far"] ["_law_part", "_law_far"] (defScope s__law_moved) := ⟨rfl, rfl, rfl, by decide +kernel, rfl, by decide +kernel, by decide +kernel⟩
abbrev s__law_moved_world : Stmt := top 44
theorem sc__law_moved_world : FnScope ["_law_world", "_law_far"] ["_law_world", "_law_far"] (defScope s__law_moved_world) := ⟨rfl, rfl, rfl, by decide +kernel, rfl, by decide +kernel, by decide +kernel⟩
abbrev s__law_far_by : Stmt := top 45
theorem sc__law_far_by : FnScope ["_law_cell"] ["_law_cell"] (defScope s__law_far_by) := ⟨rfl, rfl, rfl, by decide +kernel, rfl, by decide +kernel, by decide +kernel⟩
abbrev s_law : Stmt := top 46
theorem sc_law : FnScope ["_law_script", "_law_first", "_law_world", "_law_room", "_law_statement", "_law_far", "_law_due", "_law_handed", "_law_found", "_law_refused", "_law_number"] ["_law_script"] (defScope s_law) := ⟨rfl, rfl, rfl, by decide +kernel, rfl, by decide +kernel, by decide +kernel⟩
theorem ok_whole (D : DefIn K mg "_law_whole" s__law_whole ["_law_found"] f fd) (B : Blt mg) : Has P w K mg base "_law_whole" 1 ["_law_found"] spWhole := by
  have nd := sc__law_whole.nd
  refine D.has (D.fn.ok sc__law_whole (fun vs H Q E h => ?_) (fun cdv A outer s H vs Q E hr h => ?_))
  · obtain ⟨i, rfl, _⟩ := h
    rfl
  · obtain ⟨i, rfl, q⟩ := h
    refine ⟨_, (pss_one (ps_ret (pe_and (pe_callB (call_instK K) rfl B.isinstance PyProof.Rows.boot_isinstance (pa_cons (pv 0) (pa_cons (pe_bltn (v := .ty "int") rfl B.int_ PySem.Pv.boot_int rfl) pa_nil))) (pe_one (pe_not (pe_callB (call_instK K) rfl B.isinstance PyProof.Rows.boot_isinstance (pa_cons (pv 0) (pa_cons (pe_bltn (v := .ty "bool") rfl B.bool_ PySem.Pv.boot_bool rfl) pa_nil)))))))), ?_⟩
    walk_at "rd0"
    walk_at "rd"
    refine rd_inst (.int i) kit_ii ?_
    walk_at "rd"
    refine iteT ?_
    walk_at "rd"
    refine rd_inst (.int i) kit_ib ?_
    walk_at "rd"
    exact q
theorem ok_at (D : DefIn K mg "_law_at" s__law_at ["_law_script", "_law_k"] f fd) (B : Blt mg) : Has P w K mg base "_law_at" 1 ["_law_script", "_law_k"] (spAt K) := by
  have nd := sc__law_at.nd
  refine D.has (D.fn.ok sc__law_at (fun vs H Q E h => ?_) (fun cdv A outer s H vs Q E hr h => ?_))
  · obtain ⟨a, ns, k, rfl, _⟩ := h
    rfl
  · obtain ⟨a, ns, k, rfl, hS, q⟩ := h
    refine ⟨_, (pss_cons (ps_if (pt_cmpR op_lt (pv 1) (pe_callB (call_lenK K) rfl B.len PySem.boot_len (pa_cons (pv 0) pa_nil)) (nomark _)) (pss_one (ps_ret (pe_ix (ix_listK K) (pv 0) (pv 1) (fun _ _ => rfl)))) pss_nil)
      (pss_one (ps_ret pe_int))), ?_⟩
    walk_at "rd0"
    walk_at "rd"
    refine if_dec (fun c => ?_) (fun c => ?_)
    · rw [List.length_map] at c
      walk_at "rd"
      exact rd_ixL hS (atI_cell (by omega)) q
    · rw [List.length_map] at c
      walk_at "rd"
      have e : cell ns k = 0 := by
        unfold cell
        rw [List.getD_eq_getElem?_getD, List.getElem?_eq_none (by omega)]
        rfl
      rw [e] at q
      exact q
theorem ok_within {a_LEAVES : Addr} (D : DefIn K mg "statements_within" s_statements_within ["statement"] f fd) (B : Blt mg) (c_LEAVES : mg "LEAVES" = some (.ref a_LEAVES)) (t_LEAVES : ∀ H, SqT K H a_LEAVES [.str "lamp", .str "dark"]) :
    Has P w K mg base "statements_within" 1 ["statement"] spWithin := by
  have nd := sc_statements_within.nd
  refine D.has (D.fn.ok sc_statements_within (fun vs H Q E h => ?_) (fun cdv A outer s H vs Q E hr h => ?_))
  · obtain ⟨v, s, rfl, _⟩ := h
    rfl
  · obtain ⟨v, s, rfl, st, q⟩ := h
    obtain ⟨a, xs, rfl, e, hk⟩ := Stm.parts st
    refine ⟨_, (pss_cons (ps_if (pt_cmpR (op_inK K) (pe_ix (ix_tupK K) (pv 0) pe_int (fun _ _ => rfl)) (pe_glob (v := .ref a_LEAVES) rfl c_LEAVES rfl) (by with_unfolding_all rfl)) (pss_one (ps_ret (pe_lst pa_nil))) pss_nil)
      (pss_one (ps_ret (pe_callTy (call_listK K) rfl B.list_ PySem.Pv.boot_list (pa_cons (pe_slice (sl_tupK K) (pv 0) (po_some pe_int) po_none) pa_nil))))), ?_⟩
    walk_at "rd0"
    walk_at "rd"
    refine rd_ixT (SqT.of e) (atI_zero _ _) ?_
    walk_at "rd"
    refine rd_inS (.inr (t_LEAVES _)) rfl rfl ?_
    walk_at "rd"
    rw [leafB]
    cases hl : Say.leaf s with
    | true =>
      refine iteT ?_
      walk_at "rd"
      refine ⟨(by show 0 ≤ sizeLine; decide), fun l hl' => ?_⟩
      exact q l [] _ (by walk_at "sm") hl' upd_same (by rw [leaf_kids hl]; exact .nil)
    | false =>
      refine iteF ?_
      walk_at "rd"
      refine rd_slT1 (SqT.of e) fun p hp => ?_
      walk_at "rd"
      refine rd_listT (SqT.of upd_same) fun l hl' => ?_
      exact q l xs _ (by walk_at "sm") (none_upd hl').1 upd_same ((hk hl).mono (by walk_at "tk"))
theorem ok_outside (D : DefIn K mg "outside_in" s_outside_in ["statement"] f fd) (B : Blt mg) (h_statements_within : Has P w K mg base "statements_within" 1 ["statement"] spWithin) :
    Has P w K mg base "outside_in" 2 ["statement"] spOut := by
  have nd := sc_outside_in.nd
  refine D.has (D.fn.ok sc_outside_in (fun vs H Q E h => ?_) (fun cdv A outer s H vs Q E hr h => ?_))
  · obtain ⟨v, s, rfl, _⟩ := h
    rfl
  · obtain ⟨v, s, rfl, st, hz, q⟩ := h
    have hpz := (Say.po_len s).1
    refine ⟨_, (pss_cons (ps_set (i := 1) nd rfl (Or.inl rfl) (pe_lst pa_nil))
      (pss_cons (ps_set (i := 2) nd rfl (Or.inl rfl) (pe_lst (pa_cons (pv 0) pa_nil)))
      (pss_cons (ps_while PassesOwn.never (pt_cmpR op_gt (pe_callB (call_lenK K) rfl B.len PySem.boot_len (pa_cons (pv 2) pa_nil)) pe_int (nomark _)) (pss_cons (ps_set (i := 3) nd rfl (Or.inl rfl) (pe_bm0K K PySem.F.plainAttrs_list PySem.F.slot_list_pop PySem.F.type_list_pop mt_pop (pv 2)))
        (pss_cons (ps_expr (pe_bmK K PySem.F.plainAttrs_list PySem.F.slot_list_append PySem.F.type_list_append mt_append (pv 1) (pa_cons (pv 3) pa_nil)))
        (pss_one (ps_expr (pe_bmK K PySem.F.plainAttrs_list PySem.F.slot_list_extend PySem.F.type_list_extend mt_extendS (pv 2) (pa_cons (pe_callH h_statements_within hr (pa_cons (pv 3) pa_nil)) pa_nil)))))))
      (pss_one (ps_ret (pv 1)))))), ?_⟩
    walk_at "rd0"
    walk_at "rd"
    refine ⟨(by show 0 ≤ sizeLine; decide), fun p hp => ?_⟩
    walk_at "rd"
    refine ⟨(by show 1 ≤ sizeLine; decide), fun wt hwt => ?_⟩
    have nwp : wt ≠ p := (none_upd hwt).2
    have wt0 : H wt = none := (none_upd hwt).1
    walk_at "rd"
    refine ⟨fun m σ H1 => ∃ (Pv Wv : List V) (Ps Ws : List Say) (o3 : Option V), σ = [some v, some (.ref p), some (.ref wt), o3] ∧ Same H H1 ∧ H1 p = some (.lst Pv) ∧ H1 wt = some (.lst Wv) ∧ Stms H1 Pv Ps ∧ Stms H1 Wv Ws ∧ Ps ++ Ws.reverse.flatMap Say.po = s.po ∧ m = pl Ws,
      ⟨_, [], [v], [], [s], none, rfl, by walk_at "sm", by walk_at "hp", upd_same, .nil, .cons (st.mono (by walk_at "tk")) .nil, by simp, rfl⟩, ?_⟩
    rintro m σ H1 ⟨Pv, Wv, Ps, Ws, o3, rfl, S1, hP, hW, sP, sW, he, rfl⟩
    have lP := Paired.length sP
    have lW := Paired.length sW
    have hlen : Ps.length + pl Ws = s.po.length := by rw [← he, List.length_append, pl_flat]
    have hwl := pl_len Ws
    walk_at "rd"
    rcases snoc_cases Wv with rfl | ⟨W0, x, rfl⟩
    · cases sW
      refine if_dec (fun c => absurd c (by simp)) (fun _ => ?_)
      walk_at "rd"
      have he' : Ps = s.po := by simpa using he
      exact q p Pv H1 S1 hp hP (he' ▸ sP)
    · refine if_dec (fun _ => ?_) (fun c => absurd (by simp) c)
      refine ⟨fun σ' H' => ∃ m', m' < pl Ws ∧ ∃ (Pv Wv : List V) (Ps Ws : List Say) (o3 : Option V), σ' = [some v, some (.ref p), some (.ref wt), o3] ∧ Same H H' ∧ H' p = some (.lst Pv) ∧ H' wt = some (.lst Wv) ∧ Stms H' Pv Ps ∧ Stms H' Wv Ws ∧ Ps ++ Ws.reverse.flatMap Say.po = s.po ∧ m' = pl Ws, fun _ _ h => h, ?_⟩
      obtain ⟨Ws0, t, rfl, sW0, sx⟩ := snoc_inv sW
      walk_at "rd"
      refine rd_pop hW ?_
      walk_at "rd"
      refine rd_append (by walk_at "hp") (smallLt (by omega)) ?_
      walk_at "rd"
      refine ⟨x, t, rfl, sx.mono (by walk_at "tk"), fun l ks H5 S5 hl hks sks => ?_⟩
      have hWlen : W0.length + ks.length ≤ 1000000 := by
        have e1 := Paired.length sW0
        have e2 := Paired.length sks
        have e3 := pl_len t.kids
        have e4 := pl_kids t
        have e5 := pl_app Ws0 [t]
        have e6 : pl [t] = t.po.length := by simp [pl]
        have e7 := pl_len Ws0
        omega
      have T15 : TupK H1 H5 := TupK.trans (by walk_at "tk") S5.tupK
      have hW5 : H5 wt = some (.lst W0) := S5 _ _ (by walk_at "hp")
      have hP5 : H5 p = some (.lst (Pv ++ [x])) := S5 _ _ upd_same
      have SH5 : Same H H5 := Same.trans (by walk_at "sm") S5
      walk_at "rd"
      refine rd_extS hW5 (.inl hks) (small hWlen) ?_
      have nlw : l ≠ wt := fun e => by rw [e, upd_ne nwp, upd_same] at hl; cases hl
      refine ⟨pl (Ws0 ++ t.kids), ?_, Pv ++ [x], W0 ++ ks, Ps ++ [t], Ws0 ++ t.kids, _, rfl, SH5.set wt0, by walk_at "hp", upd_same, Paired.snoc (sP.mono (T15.trans (by walk_at "tk"))) (sx.mono (T15.trans (by walk_at "tk"))), Paired.app (Stms.mono sW0 (T15.trans (by walk_at "tk"))) (sks.mono (by walk_at "tk")), ?_, rfl⟩
      · rw [pl_app, pl_app]
        have e4 := pl_kids t
        have e6 : pl [t] = t.po.length := by simp [pl]
        omega
      · rw [← he]
        have e := Say.po_eq t
        simp only [List.reverse_append, List.flatMap_append, List.reverse_cons, List.reverse_nil, List.nil_append, List.flatMap_cons, List.flatMap_nil, List.append_nil]
        rw [e]
        simp
theorem ok_leaf (D : DefIn K mg "leaf_truths" s_leaf_truths ["world", "leaf"] f fd) (B : Blt mg) : Has P w K mg base "leaf_truths" 1 ["world", "leaf"] spLeaf := by
  have nd := sc_leaf_truths.nd
  refine D.has (D.fn.ok sc_leaf_truths (fun vs H Q E h => ?_) (fun cdv A outer s H vs Q E hr h => ?_))
  · obtain ⟨a, v, W, s, rfl, _⟩ := h
    rfl
  · obtain ⟨a, v, W, s, rfl, ⟨rs, ha, hp⟩, hz, st, hl, q⟩ := h
    have hlen := Paired.length hp
    refine ⟨_, (pss_cons (ps_if (pt_cmpR op_eq (pe_ix (ix_tupK K) (pv 1) pe_int (fun _ _ => rfl)) pe_str (nomark _)) (pss_one (ps_ret (pe_compB ["lit", "doors", "leaf"] 2 [1] (pi_listK K (pv 0)) (fun _ _ _ _ _ => (pg_tupK (n := 2) K rfl (pgs_cons (pg_name (i := 0) (show List.Nodup (["lit", "doors", "leaf"] : List Str) by decide +kernel) rfl (Or.inl rfl)) (pgs_cons (pg_name (i := 1) (show List.Nodup (["lit", "doors", "leaf"] : List Str) by decide +kernel) rfl (Or.inl rfl)) pgs_nil)))) (fun _ _ _ _ _ => pts_nil) (fun _ _ _ _ _ => (pe_cmpR (op_inK K) (pe_ix (ix_tupK K) (pv 2) pe_int (fun _ _ => rfl)) (pv 0) (by with_unfolding_all rfl)))))) pss_nil)
      (pss_one (ps_ret (pe_compB ["lit", "doors", "leaf"] 2 [1] (pi_listK K (pv 0)) (fun _ _ _ _ _ => (pg_tupK (n := 2) K rfl (pgs_cons (pg_name (i := 0) (show List.Nodup (["lit", "doors", "leaf"] : List Str) by decide +kernel) rfl (Or.inl rfl)) (pgs_cons (pg_name (i := 1) (show List.Nodup (["lit", "doors", "leaf"] : List Str) by decide +kernel) rfl (Or.inl rfl)) pgs_nil)))) (fun _ _ _ _ _ => pts_nil) (fun _ _ _ _ _ => (pe_cmpR (op_notInK K) (pe_ix (ix_tupK K) (pv 2) pe_int (fun _ _ => rfl)) (pv 0) (by with_unfolding_all rfl))))))), ?_⟩
    walk_at "rd0"
    cases st with
    | @lamp b k e =>
      walk_at "rd"
      refine if_eq ?_
      walk_at "rd"
      refine comp_list (SqL.of ha) (by omega) fun D hD => ⟨fun i y _ => ∃ b, (tru W (.lamp k))[i]? = some b ∧ y = .bl b, fun _ _ _ _ h _ _ => h, fun i x H2 ys C hx S2 hd hC => ?_, fun ys H' S' hD' hl' hR => ?_⟩
      · obtain ⟨r, hr', ra⟩ := Paired.get1 hp hx
        obtain ⟨c, l, d, rfl, h1, h2, h3⟩ := ra.mono S2
        have e2 := S2 _ _ e
        walk_at "rd"
        refine rd_inS (.inl (SqL.of h2)) rfl (flat_ints _) ?_
        refine hC _ H2 (Same.refl _) ⟨r.lit.contains k, ?_, by rw [inV_ints]⟩
        simp [tru, hr']
      · exact q D H' S' hD (by rw [hD', list_by (bs := tru W (.lamp k)) (by rw [hl', tru_len]; omega) hR])
    | @dark b k e =>
      walk_at "rd"
      refine if_strNe (by decide +kernel) ?_
      walk_at "rd"
      refine comp_list (SqL.of ha) (by omega) fun D hD => ⟨fun i y _ => ∃ b, (tru W (.dark k))[i]? = some b ∧ y = .bl b, fun _ _ _ _ h _ _ => h, fun i x H2 ys C hx S2 hd hC => ?_, fun ys H' S' hD' hl' hR => ?_⟩
      · obtain ⟨r, hr', ra⟩ := Paired.get1 hp hx
        obtain ⟨c, l, d, rfl, h1, h2, h3⟩ := ra.mono S2
        have e2 := S2 _ _ e
        walk_at "rd"
        refine rd_notInS (.inl (SqL.of h2)) rfl (flat_ints _) ?_
        refine hC _ H2 (Same.refl _) ⟨!r.lit.contains k, ?_, by rw [inV_ints]⟩
        simp [tru, hr']
      · exact q D H' S' hD (by rw [hD', list_by (bs := tru W (.dark k)) (by rw [hl', tru_len]; omega) hR])
    | neg e h => cases hl
    | conj e h h' => cases hl
    | disj e h h' => cases hl
    | ev e h => cases hl
    | so e h => cases hl
theorem ok_join_truths (D : DefIn K mg "join_truths" s_join_truths ["kind", "first", "second"] f fd) (B : Blt mg) : Has P w K mg base "join_truths" 1 ["kind", "first", "second"] spTwo := by
  have nd := sc_join_truths.nd
  refine D.has (D.fn.ok sc_join_truths (fun vs H Q E h => ?_) (fun cdv A outer s H vs Q E hr h => ?_))
  · obtain ⟨k, a, b, x, y, rfl, _⟩ := h
    rfl
  · obtain ⟨k, a, b, x, y, rfl, ha, hb, hl, hz, q⟩ := h
    have hla : (bls x).length = x.length := List.length_map _
    have hlb : (bls y).length = y.length := List.length_map _
    refine ⟨_, (pss_cons (ps_if (pt_cmpR op_eq (pv 0) pe_str (nomark _)) (pss_one (ps_ret (pe_compB ["one", "other"] 2 [] (pi_zipK K rfl B.zip (pa_cons (pv 1) (pa_cons (pv 2) pa_nil))) (fun _ _ _ _ _ => (pg_tupK (n := 2) K rfl (pgs_cons (pg_name (i := 0) (show List.Nodup (["one", "other"] : List Str) by decide +kernel) rfl (Or.inl rfl)) (pgs_cons (pg_name (i := 1) (show List.Nodup (["one", "other"] : List Str) by decide +kernel) rfl (Or.inl rfl)) pgs_nil)))) (fun _ _ _ _ _ => pts_nil) (fun _ _ _ _ _ => (pe_and (pv 0) (pe_one (pv 1))))))) pss_nil)
      (pss_one (ps_ret (pe_compB ["one", "other"] 2 [] (pi_zipK K rfl B.zip (pa_cons (pv 1) (pa_cons (pv 2) pa_nil))) (fun _ _ _ _ _ => (pg_tupK (n := 2) K rfl (pgs_cons (pg_name (i := 0) (show List.Nodup (["one", "other"] : List Str) by decide +kernel) rfl (Or.inl rfl)) (pgs_cons (pg_name (i := 1) (show List.Nodup (["one", "other"] : List Str) by decide +kernel) rfl (Or.inl rfl)) pgs_nil)))) (fun _ _ _ _ _ => pts_nil) (fun _ _ _ _ _ => (pe_or (pv 0) (pe_one (pv 1)))))))), ?_⟩
    walk_at "rd0"
    walk_at "rd"
    refine if_dec (fun e => ?_) (fun e => ?_)
    · have ek : k = "and" := V.str.inj e
      walk_at "rd"
      refine comp_zip (SqL.of ha) (SqL.of hb) (by omega) (by omega) fun D hD => ⟨fun i z _ => ∃ b, (two k x y)[i]? = some b ∧ z = .bl b, fun _ _ _ _ h _ _ => h, fun i u v p H2 zs C hu hv S2 hd hp hC => ?_, fun ys H' S' hD' hl' hR => ?_⟩
      · obtain ⟨c, d, rfl, rfl, hcd⟩ := zip_get (f := fun a b => a && b) hu hv
        walk_at "rd"
        have fin : ∀ H6, Same H2 H6 → C (.bl (c && d)) H6 := fun H6 S6 => hC _ H6 S6 ⟨c && d, by rw [two, if_pos ek]; exact hcd, rfl⟩
        cases c with
        | true =>
          refine iteT ?_
          walk_at "rd"
          exact fin _ (by walk_at "sm")
        | false =>
          refine iteF ?_
          exact fin _ (by walk_at "sm")
      · exact q D H' S' hD (by rw [hD', list_by (bs := two k x y) (by rw [hl', two, if_pos ek, List.length_zipWith]; omega) hR])
    · have ek : ¬ k = "and" := fun z => e (by rw [z])
      walk_at "rd"
      refine comp_zip (SqL.of ha) (SqL.of hb) (by omega) (by omega) fun D hD => ⟨fun i z _ => ∃ b, (two k x y)[i]? = some b ∧ z = .bl b, fun _ _ _ _ h _ _ => h, fun i u v p H2 zs C hu hv S2 hd hp hC => ?_, fun ys H' S' hD' hl' hR => ?_⟩
      · obtain ⟨c, d, rfl, rfl, hcd⟩ := zip_get (f := fun a b => a || b) hu hv
        walk_at "rd"
        have fin : ∀ H6, Same H2 H6 → C (.bl (c || d)) H6 := fun H6 S6 => hC _ H6 S6 ⟨c || d, by rw [two, if_neg ek]; exact hcd, rfl⟩
        cases c with
        | true =>
          refine iteT ?_
          exact fin _ (by walk_at "sm")
        | false =>
          refine iteF ?_
          walk_at "rd"
          exact fin _ (by walk_at "sm")
      · exact q D H' S' hD (by rw [hD', list_by (bs := two k x y) (by rw [hl', two, if_neg ek, List.length_zipWith]; omega) hR])
theorem ok_behind (D : DefIn K mg "truths_behind" s_truths_behind ["doors", "inner"] f fd) (B : Blt mg) : Has P w K mg base "truths_behind" 1 ["doors", "inner"] spLed := by
  have nd := sc_truths_behind.nd
  refine D.has (D.fn.ok sc_truths_behind (fun vs H Q E h => ?_) (fun cdv A outer s H vs Q E hr h => ?_))
  · obtain ⟨a, b, ds, x, rfl, _⟩ := h
    rfl
  · obtain ⟨a, b, ds, x, rfl, ha, hb, hv, hz, q⟩ := h
    have hla : (nts ds).length = ds.length := List.length_map _
    refine ⟨_, (pss_one (ps_ret (pe_compB ["door", "inner"] 1 [1] (pi_listK K (pv 0)) (fun _ _ _ _ _ => (pg_name (i := 0) (show List.Nodup (["door", "inner"] : List Str) by decide +kernel) rfl (Or.inl rfl))) (fun _ _ _ _ _ => pts_nil) (fun _ _ _ _ _ => (pe_ix (ix_listK K) (pv 1) (pv 0) (fun _ _ => rfl)))))), ?_⟩
    walk_at "rd0"
    walk_at "rd"
    refine comp_list (SqL.of ha) (by omega) fun D hD => ⟨fun i y _ => ∃ b, (led x ds)[i]? = some b ∧ y = .bl b, fun _ _ _ _ h _ _ => h, fun i v H2 ys C hx S2 hd hC => ?_, fun ys H' S' hD' hl' hR => ?_⟩
    · obtain ⟨d, hd', rfl⟩ := nts_get hx
      have hb2 := S2 _ _ hb
      walk_at "rd"
      refine rd_ixL (SqL.of hb2) (bls_at (hv d (List.mem_of_getElem? hd'))) ?_
      exact hC _ H2 (Same.refl _) ⟨_, by simp [led, hd'], rfl⟩
    · exact q D H' S' hD (by rw [hD', list_by (bs := led x ds) (by rw [led_len, hl']; omega) hR])
theorem ok_door (D : DefIn K mg "door_truths" s_door_truths ["world", "kind", "inner"] f fd) (B : Blt mg) (h_truths_behind : Has P w K mg base "truths_behind" 1 ["doors", "inner"] spLed) : Has P w K mg base "door_truths" 2 ["world", "kind", "inner"] spDoor := by
  have nd := sc_door_truths.nd
  refine D.has (D.fn.ok sc_door_truths (fun vs H Q E h => ?_) (fun cdv A outer s H vs Q E hr h => ?_))
  · obtain ⟨a, k, b, W, x, rfl, _⟩ := h
    rfl
  · obtain ⟨a, k, b, W, x, rfl, ⟨rs, ha, hp⟩, hv, hz, hdz, hb, hx, q⟩ := h
    have hlen := Paired.length hp
    refine ⟨_, (pss_cons (ps_if (pt_cmpR op_eq (pv 1) pe_str (nomark _)) (pss_one (ps_ret (pe_compB ["lit", "doors", "inner"] 2 [2] (pi_listK K (pv 0)) (fun _ _ _ _ _ => (pg_tupK (n := 2) K rfl (pgs_cons (pg_name (i := 0) (show List.Nodup (["lit", "doors", "inner"] : List Str) by decide +kernel) rfl (Or.inl rfl)) (pgs_cons (pg_name (i := 1) (show List.Nodup (["lit", "doors", "inner"] : List Str) by decide +kernel) rfl (Or.inl rfl)) pgs_nil)))) (fun _ _ _ _ _ => pts_nil) (fun _ _ _ _ _ => (pe_cmpR (op_notInK K) pe_bl (pe_callH h_truths_behind hr (pa_cons (pv 1) (pa_cons (pv 2) pa_nil))) (by with_unfolding_all rfl)))))) pss_nil)
      (pss_one (ps_ret (pe_compB ["lit", "doors", "inner"] 2 [2] (pi_listK K (pv 0)) (fun _ _ _ _ _ => (pg_tupK (n := 2) K rfl (pgs_cons (pg_name (i := 0) (show List.Nodup (["lit", "doors", "inner"] : List Str) by decide +kernel) rfl (Or.inl rfl)) (pgs_cons (pg_name (i := 1) (show List.Nodup (["lit", "doors", "inner"] : List Str) by decide +kernel) rfl (Or.inl rfl)) pgs_nil)))) (fun _ _ _ _ _ => pts_nil) (fun _ _ _ _ _ => (pe_cmpR (op_inK K) pe_bl (pe_callH h_truths_behind hr (pa_cons (pv 1) (pa_cons (pv 2) pa_nil))) (by with_unfolding_all rfl))))))), ?_⟩
    walk_at "rd0"
    walk_at "rd"
    refine if_dec (fun e => ?_) (fun e => ?_)
    · have ek : k = "every" := V.str.inj e
      walk_at "rd"
      refine comp_list (SqL.of ha) (by omega) fun D hD => ⟨fun i y _ => ∃ b, (byDoors W k x)[i]? = some b ∧ y = .bl b, fun _ _ _ _ h _ _ => h, fun i v H2 ys C hxi S2 hd hC => ?_, fun ys H' S' hD' hl' hR => ?_⟩
      · obtain ⟨r, hr', ra⟩ := Paired.get1 hp hxi
        obtain ⟨c, l, d, rfl, h1, h2, h3⟩ := ra.mono S2
        have hb2 := S2 _ _ hb
        have hm : r ∈ W := List.mem_of_getElem? hr'
        walk_at "rd"
        refine ⟨d, b, r.doors, x, rfl, h3, hb2, fun z m => by rw [hx]; exact hv r hm z m, hdz r hm, fun t H3 S3 ht0 ht => ?_⟩
        walk_at "rd"
        refine rd_notInS (.inl (SqL.of ht)) rfl (flat_bls _) ?_
        refine hC _ H3 S3 ⟨!(led x r.doors).contains false, ?_, by rw [inV_bls]⟩
        simp [byDoors, ek, hr']
      · exact q D H' S' hD (by rw [hD', list_by (bs := byDoors W k x) (by rw [byDoors_len, hl']; omega) hR])
    · have ek : ¬ k = "every" := fun z => e (by rw [z])
      walk_at "rd"
      refine comp_list (SqL.of ha) (by omega) fun D hD => ⟨fun i y _ => ∃ b, (byDoors W k x)[i]? = some b ∧ y = .bl b, fun _ _ _ _ h _ _ => h, fun i v H2 ys C hxi S2 hd hC => ?_, fun ys H' S' hD' hl' hR => ?_⟩
      · obtain ⟨r, hr', ra⟩ := Paired.get1 hp hxi
        obtain ⟨c, l, d, rfl, h1, h2, h3⟩ := ra.mono S2
        have hb2 := S2 _ _ hb
        have hm : r ∈ W := List.mem_of_getElem? hr'
        walk_at "rd"
        refine ⟨d, b, r.doors, x, rfl, h3, hb2, fun z m => by rw [hx]; exact hv r hm z m, hdz r hm, fun t H3 S3 ht0 ht => ?_⟩
        walk_at "rd"
        refine rd_inS (.inl (SqL.of ht)) rfl (flat_bls _) ?_
        refine hC _ H3 S3 ⟨(led x r.doors).contains true, ?_, by rw [inV_bls]⟩
        simp [byDoors, ek, hr']
      · exact q D H' S' hD (by rw [hD', list_by (bs := byDoors W k x) (by rw [byDoors_len, hl']; omega) hR])
end
end My
set_option Elab.async false
set_option linter.all false
set_option maxRecDepth 100000
set_option maxHeartbeats 4000000
namespace My
open PySem L2
seal PE PT PW PA PS PSs PC PG PGs PI PO PPs PTs
local macro_rules | `(tactic| walk_at "ne") => `(tactic| first | assumption | exact Ne.symm (by assumption))
local macro_rules | `(tactic| walk_at "hp") => `(tactic| first | assumption | (with_reducible exact upd_same) | (with_reducible apply keepN; assumption; walk_at "hp") | (with_reducible apply keepL; walk_at "ne"; walk_at "hp"))
local macro_rules | `(tactic| walk_at "sm") => `(tactic| first | assumption | (with_reducible exact Same.refl _) | (with_reducible refine Same.new ?_ (by assumption); walk_at "sm") | (with_reducible refine Same.set ?_ (by assumption); walk_at "sm"))
local macro_rules | `(tactic| walk_at "tk") => `(tactic| first | assumption | (with_reducible exact TupK.refl _) | (with_reducible refine TupK.new ?_ (by assumption); walk_at "tk") | (with_reducible refine TupK.lst ?_ (by walk_at "hp"); walk_at "tk") | (with_reducible refine TupK.dK ?_ (by walk_at "hp"); walk_at "tk") | (with_reducible refine Same.tupK ?_; walk_at "sm"))
local macro_rules | `(tactic| walk_at "sl") => `(tactic| first | assumption | (with_reducible apply SqL.of; walk_at "hp") | (with_reducible apply sameSeq; assumption; walk_at "sm"))
local macro_rules | `(tactic| walk_at "st") => `(tactic| first | assumption | (with_reducible apply SqT.of; walk_at "hp"))
local macro_rules | `(tactic| walk_at "cd") => `(tactic| first | (show (0 : Int) < _; first | decide | assumption | omega) | exact ⟨by decide, by decide⟩ | exact ⟨by decide, by decide, by decide⟩ | exact Or.inl ⟨by decide, by decide⟩ | exact Or.inr ⟨by decide, by decide⟩ | exact Or.inl ⟨by omega, by omega⟩ | exact Or.inr ⟨by omega, by omega⟩ | exact ⟨by omega, by omega⟩)
local macro_rules | `(tactic| walk_at "rd1") => `(tactic| with_reducible first
  | (apply rd_var; with_unfolding_all rfl) | apply rd_op | apply rd_C | apply rd_seq | apply rd_asg | apply rd_name | apply rd_cons | apply rd_nil | apply rd_I0 | apply rd_test | apply rd_bl | apply rd_tB
  | (apply rd_ixT; (walk_at "st"); (with_unfolding_all rfl)) | apply rd_slice | apply rd_noPart | apply rd_part | apply rd_int | apply rd_CB | apply rd_if | apply rd_call | apply rd_ret | apply rd_drop | apply rd_tup | apply rd_lst | apply rd_bm | apply rd_bm0 | (apply rd_ty; (walk_at "hp"))
  | (apply rd_I; (with_unfolding_all walk_at "cd")) | (apply rd_eq; (with_unfolding_all rfl)) | (apply rd_ne; (with_unfolding_all rfl)) | apply rd_and | apply rd_or | apply rd_not | apply rd_andV | apply rd_orV | apply rd_notV | apply rd_ifE
  | (apply rd_lenL; (walk_at "sl")) | (apply rd_lenT; (walk_at "st")) | apply rd_dnew | apply rd_dput | apply rd_din | apply rd_next | apply rd_forL | apply rd_forV | apply rd_compL | apply rd_compZ | apply rd_compT | apply rd_compR | apply rd_kget | apply rd_dget | apply rd_listRev | apply rd_chain | apply rd_ints | apply rd_un | apply rd_U | apply rd_kin | apply rd_forZT | apply rd_pcons | apply rd_pnil | (apply rd_gtup; (walk_at "st"); (with_unfolding_all rfl)) | apply rd_gcons | apply rd_gnil | apply rd_fldC | apply rd_sfldC | apply rd_meth | apply rd_make | apply rd_compE | apply rd_tryset | apply rd_tryas | apply rd_raise | apply rd_forR3 | apply rd_forR2 | apply rd_forR1 | (apply rd_itL; (walk_at "sl")) | (apply rd_neN; (walk_at "sl"); (walk_at "sl")) | (apply rd_eqN; (walk_at "sl"); (walk_at "sl")))
local macro_rules | `(tactic| walk_at "rd") => `(tactic| repeat walk_at "rd1")
local macro_rules | `(tactic| walk_at "rd0") => `(tactic| try dsimp only [cxOf, Cx.nox, Cx.wish])
section
variable {P : Program} {w : World} {K : PySem.W.Frag} {mg : Str → Option Value} {base : Heap} {f : Addr} {fd : FuncData}
theorem ok_from (D : DefIn K mg "from_inside" s_from_inside ["statement", "answer"] f fd) (B : Blt mg) (h_outside_in : Has P w K mg base "outside_in" 2 ["statement"] spOut) (h_statements_within : Has P w K mg base "statements_within" 1 ["statement"] spWithin) :
    Has P w K mg base "from_inside" 5 ["statement", "answer"] (spFrom P w K mg base 4) := by
  have nd := sc_from_inside.nd
  refine D.has (D.fn.ok sc_from_inside (fun vs H Q E h => ?_) (fun cdv A outer s H vs Q E hr h => ?_))
  · obtain ⟨v, fa, fda, s, spA, Ans, rfl, _⟩ := h
    rfl
  · obtain ⟨v, fa, fda, s0, spA, Ans, rfl, st, hsz, FA, BA, hfa, hm, hA, q⟩ := h
    have hpz := (Say.po_len s0).1
    refine ⟨_, (pss_cons (ps_set (i := 2) nd rfl (by first | exact Or.inl rfl | exact Or.inr (Or.inl rfl) | exact Or.inr rfl) (pe_lst pa_nil))
      (pss_cons (ps_for PassesOwn.never rfl (pi_revK K rfl B.reversed (pa_cons (pe_callH h_outside_in hr (pa_cons (pv 0) pa_nil)) pa_nil)) (pg_name (i := 3) nd rfl (Or.inl rfl)) (pss_cons (ps_compB ["within", "found"] 1 [2] (pi_listK K (pe_callH h_statements_within hr (pa_cons (pv 3) pa_nil))) (fun _ _ _ _ _ => (pg_name (i := 0) (show List.Nodup (["within", "found"] : List Str) by decide +kernel) rfl (Or.inl rfl))) (fun _ _ _ _ _ => pts_nil) (fun _ _ _ _ _ => (pe_bm0K K PySem.F.plainAttrs_list PySem.F.slot_list_pop PySem.F.type_list_pop mt_pop (pv 1))) (pg_name (i := 4) nd rfl (Or.inl rfl)))
        (pss_cons (ps_expr (pe_bm0K K PySem.F.plainAttrs_list PySem.F.slot_list_reverse PySem.F.type_list_reverse mt_reverse (pv 4)))
        (pss_one (ps_expr (pe_bmK K PySem.F.plainAttrs_list PySem.F.slot_list_append PySem.F.type_list_append mt_append (pv 2) (pa_cons (pe_callV (pv 1) hr (pa_cons (pv 3) (pa_cons (pv 4) pa_nil))) pa_nil)))))))
      (pss_one (ps_ret (pe_bm0K K PySem.F.plainAttrs_list PySem.F.slot_list_pop PySem.F.type_list_pop mt_pop (pv 2)))))), ?_⟩
    walk_at "rd0"
    walk_at "rd"
    refine ⟨(by show 0 ≤ sizeLine; decide), fun fo hfo => ?_⟩
    walk_at "rd"
    refine ⟨v, s0, rfl, st.mono (by walk_at "tk"), hsz, fun l ps H2 S2 hl0 hl hps => ?_⟩
    have SH : Same H H2 := Same.trans (by walk_at "sm") S2
    have hf2 : H2 fo = some (.lst []) := S2 _ _ upd_same
    have nlf : l ≠ fo := (none_upd hl0).2
    have lps := Paired.length hps
    walk_at "rd"
    refine for_rev (SqL.of hl) (fun i σ H1 => ∃ (fs : List V) (ss : List Say) (o3 o4 : Option V), σ = [some v, some (.ref fa), some (.ref fo), o3, o4] ∧ Same H H1 ∧ H1 l = some (.lst ps) ∧ Stms H1 ps s0.po ∧ H1 fo = some (.lst fs) ∧ Paired (Ans fo H1) fs ss ∧ ss.length ≤ i ∧ Run (s0.post.drop i) ss [s0])
      ⟨[], [], none, none, rfl, SH, hl, hps, hf2, .nil, Nat.le_refl _, by rw [List.drop_zero]; exact Run.post s0 []⟩
      (fun i σ H1 _ ⟨_, _, _, _, _, _, h, _⟩ => SqL.of h) ?_ ?_
    · rintro i x σ H1 hi ⟨fs, ss, o3, o4, rfl, S1, hl1, hps1, hf1, han, hss, hrun⟩
      obtain ⟨t, ht, sx⟩ := Paired.get1 (Paired.rev hps1) hi
      have hip : i < s0.po.reverse.length := (List.getElem?_eq_some_iff.mp ht).1
      rw [List.length_reverse] at hip
      have hdrop : s0.post.drop i = t :: s0.post.drop (i + 1) := by
        have hlt : i < s0.post.length := by rw [Say.post, List.length_reverse]; exact hip
        rw [List.drop_eq_getElem_cons hlt]
        congr 1
        have : s0.post[i]? = some t := ht
        rw [List.getElem?_eq_getElem hlt] at this
        exact Option.some.inj this
      rw [hdrop] at hrun
      obtain ⟨p0, rfl, hrun2⟩ := hrun.inv
      obtain ⟨f0, fk, rfl, a0, ak⟩ := Paired.split han
      have lk := Paired.length ak
      have l0 := Paired.length a0
      rw [List.length_append] at hss
      walk_at "rd"
      refine ⟨x, t, rfl, sx, fun lw ks H3 S3 hlw0 hlw hks => ?_⟩
      have lks := Paired.length hks
      have hf3 := S3 _ _ hf1
      have nwf : lw ≠ fo := fun e => by rw [e, hf1] at hlw0; cases hlw0
      walk_at "rd"
      refine comp_any (xs := ks) fun Dz hD => ?_
      have nDf : Dz ≠ fo := fun e => by rw [e, hf3] at hD; cases hD
      have nDw : lw ≠ Dz := ne_of_none hlw hD
      refine ⟨fun j ys H4 => ys = fk.reverse.take j ∧ H4 fo = some (.lst (f0 ++ fk.take (fk.length - j))) ∧ H4 Dz = some (.lst ys) ∧ ∀ b o, b ≠ fo → b ≠ Dz → H3 b = some o → H4 b = some o, ⟨rfl, by rw [Nat.sub_zero, List.take_length]; exact keepL nDf.symm hf3, upd_same, fun b o _ n e => keepL n e⟩, fun j ys H4 _ ⟨_, _, _, h4⟩ => SqL.of (h4 _ _ nwf nDw hlw), fun j y H4 ys C hj ⟨e1, e2, e3, e4⟩ hC => ?_, fun ys H4 ⟨e1, e2, e3, e4⟩ => ?_⟩
      · have hjl : j < fk.length := by have := (List.getElem?_eq_some_iff.mp hj).1; omega
        obtain ⟨z, z1, z2⟩ := take_pop fk j hjl
        rw [z1, ← List.append_assoc] at e2
        walk_at "rd"
        refine rd_pop e2 ?_
        refine hC z _ ys (keepL nDf e3) (smallLt (by rw [e1, List.length_take]; omega)) ⟨by rw [e1, z2], keepL nDf.symm upd_same, upd_same, fun b o n1 n2 e => keepL n2 (keepL n1 (e4 b o n1 n2 e))⟩
      · have e1' : ys = fk.reverse := by rw [e1]; exact List.take_of_length_le (by rw [List.length_reverse]; omega)
        subst e1'
        have e2' : H4 fo = some (.lst f0) := by rw [e2, show fk.length - ks.length = 0 by omega, List.take_zero, List.append_nil]
        walk_at "rd"
        refine ⟨Dz, _, rfl, rfl, e3, ?_⟩
        rw [List.reverse_reverse]
        generalize h5 : upd H4 Dz (.lst fk) = H5
        have hD5 : H5 Dz = some (.lst fk) := by rw [← h5]; exact upd_same
        have hf5 : H5 fo = some (.lst f0) := by rw [← h5]; exact keepL nDf.symm e2'
        have k35 : ∀ b o, b ≠ fo → H3 b = some o → H5 b = some o := fun b o n e => by rw [← h5]; exact keepL (ne_of_none e hD) (e4 b o n (ne_of_none e hD) e)
        have k15 : SameD fo H1 H5 := fun b o n e => k35 b o n (S3 _ _ e)
        have t15 : TupK H1 H5 := fun b xs e => k15 b _ (ne_of e hf1 (by intro z; cases z)) e
        have S5 : Same H H5 := fun b o e => k15 b o (ne_of_none e hfo) (S1 _ _ e)
        have hl5 : H5 l = some (.lst ps) := k15 _ _ nlf hl1
        walk_at "rd"
        refine ⟨_, rfl, fa, fda, _, spA, 4, rfl, (by decide), FA, BA, ?_⟩
        walk_at "rd"
        refine ⟨hfa.mono S5, hA H5 _ t Dz fo fk f0 _ S5 (sx.mono t15) hD5 (Paired.mapP ak fun _ _ z => hm _ _ _ _ _ z k15 t15) hf5 fun r H6 S6 hr6 => ?_⟩
        walk_at "rd"
        refine rd_append (S6 _ _ hf5) (smallLt (by omega)) ?_
        have k16 : SameD fo H1 (upd H6 fo (.lst (f0 ++ [r]))) := fun b o n e => keepL n (S6 _ _ (k15 b o n e))
        have t16 : TupK H1 (upd H6 fo (.lst (f0 ++ [r]))) := fun b xs e => k16 b _ (ne_of e hf1 (by intro z; cases z)) e
        refine ⟨f0 ++ [r], p0 ++ [t], _, _, rfl, fun b o e => k16 b o (ne_of_none e hfo) (S1 _ _ e), k16 _ _ nlf hl1, Stms.mono hps1 t16, upd_same, Paired.snoc (Paired.mapP a0 fun _ _ z => hm _ _ _ _ _ z k16 t16) (hm _ _ _ _ _ hr6 sameD_upd (TupK.lst (TupK.refl _) (S6 _ _ hf5))), by rw [List.length_append]; show p0.length + 1 ≤ i + 1; omega, hrun2⟩
    · rintro σ H1 ⟨fs, ss, o3, o4, rfl, S1, hl1, hps1, hf1, han, hss, hrun⟩
      have hend : s0.post.drop ps.length = [] := List.drop_eq_nil_of_le (by rw [Say.post, List.length_reverse]; omega)
      rw [hend] at hrun
      have et := hrun.inv0
      subst et
      cases han with
      | cons ha ht =>
        cases ht
        walk_at "rd"
        refine rd_pop (xs := []) hf1 ?_
        exact q _ _ fo (S1.set hfo) (hm _ _ _ _ _ ha sameD_upd (TupK.lst (TupK.refl _) hf1))
theorem ok_part {a_LEAVES a_JOINS : Addr} (D : DefIn K mg "part_truths" s_part_truths ["world", "part", "inner"] f fd) (B : Blt mg) (c_LEAVES : mg "LEAVES" = some (.ref a_LEAVES)) (t_LEAVES : ∀ H, SqT K H a_LEAVES [.str "lamp", .str "dark"])
    (c_JOINS : mg "JOINS" = some (.ref a_JOINS)) (t_JOINS : ∀ H, SqT K H a_JOINS [.str "and", .str "or"]) (h_leaf_truths : Has P w K mg base "leaf_truths" 1 ["world", "leaf"] spLeaf)
    (h_join_truths : Has P w K mg base "join_truths" 1 ["kind", "first", "second"] spTwo) (h_door_truths : Has P w K mg base "door_truths" 2 ["world", "kind", "inner"] spDoor) : Has P w K mg base "part_truths" 3 ["world", "part", "inner"] spPart := by
  have nd := sc_part_truths.nd
  refine D.has (D.fn.ok sc_part_truths (fun vs H Q E h => ?_) (fun cdv A outer s H vs Q E hr h => ?_))
  · obtain ⟨a, Dz, fo, x, W, t, ys, rfl, _⟩ := h
    rfl
  · obtain ⟨a, Dz, fo, x, W, t, ys, rfl, hw, hv, hz, hdz, sx, hD, hk, q⟩ := h
    refine ⟨_, (pss_cons (ps_set (i := 3) nd rfl (Or.inl rfl) (pe_ix (ix_tupK K) (pv 1) pe_int (fun _ _ => rfl)))
      (pss_cons (ps_if (pt_cmpR (op_inK K) (pv 3) (pe_glob (v := .ref a_LEAVES) rfl c_LEAVES rfl) (by with_unfolding_all rfl)) (pss_one (ps_ret (pe_callH h_leaf_truths hr (pa_cons (pv 0) (pa_cons (pv 1) pa_nil))))) pss_nil)
      (pss_cons (ps_if (pt_cmpR (op_inK K) (pv 3) (pe_glob (v := .ref a_JOINS) rfl c_JOINS rfl) (by with_unfolding_all rfl)) (pss_one (ps_ret (pe_callH h_join_truths hr (pa_cons (pv 3) (pa_cons (pe_ix (ix_listK K) (pv 2) pe_int (fun _ _ => rfl)) (pa_cons (pe_ix (ix_listK K) (pv 2) pe_int (fun _ _ => rfl)) pa_nil)))))) pss_nil)
      (pss_cons (ps_if (pt_cmpR op_eq (pv 3) pe_str (nomark _)) (pss_one (ps_ret (pe_compB ["truth"] 1 [] (pi_listK K (pe_ix (ix_listK K) (pv 2) pe_int (fun _ _ => rfl))) (fun _ _ _ _ _ => (pg_name (i := 0) (show List.Nodup (["truth"] : List Str) by decide +kernel) rfl (Or.inl rfl))) (fun _ _ _ _ _ => pts_nil) (fun _ _ _ _ _ => (pe_not (pv 0)))))) pss_nil)
      (pss_one (ps_ret (pe_callH h_door_truths hr (pa_cons (pv 0) (pa_cons (pv 3) (pa_cons (pe_ix (ix_listK K) (pv 2) pe_int (fun _ _ => rfl)) pa_nil)))))))))), ?_⟩
    walk_at "rd0"
    obtain ⟨ax, xs, rfl, ex, _⟩ := Stm.parts sx
    walk_at "rd"
    refine rd_ixT (SqT.of ex) (atI_zero _ _) ?_
    walk_at "rd"
    refine rd_inS (.inr (t_LEAVES _)) rfl rfl ?_
    walk_at "rd"
    rw [leafB]
    cases hleaf : Say.leaf t with
    | true =>
      refine iteT ?_
      walk_at "rd"
      exact ⟨a, .ref ax, W, t, rfl, hw, hz, sx, hleaf, fun c H3 S3 hc0 hc => q c H3 S3 hc0 hc⟩
    | false =>
      refine iteF ?_
      walk_at "rd"
      refine rd_inS (.inr (t_JOINS _)) rfl rfl ?_
      walk_at "rd"
      rw [joinB]
      cases hjoin : Say.join t with
      | true =>
        refine iteT ?_
        have two2 : ∀ {s1 s2 : Say}, t.kids = [s1, s2] → two t.tag (tru W s1) (tru W s2) = tru W t → ∃ (c1 c2 : Addr) (s1 s2 : Say), H Dz = some (.lst [.ref c1, .ref c2]) ∧ H c1 = some (.lst (bls (tru W s1))) ∧ H c2 = some (.lst (bls (tru W s2))) ∧ two t.tag (tru W s1) (tru W s2) = tru W t := fun {s1 s2} ek et => by
          rw [ek] at hk
          cases hk with
          | cons h1 hk =>
            cases hk with
            | cons h2 hk =>
              cases hk
              obtain ⟨c1, rfl, _, hc1⟩ := h1
              obtain ⟨c2, rfl, _, hc2⟩ := h2
              exact ⟨c1, c2, s1, s2, hD, hc1, hc2, et⟩
        obtain ⟨c1, c2, s1, s2, hD, hc1, hc2, et⟩ : ∃ (c1 c2 : Addr) (s1 s2 : Say), H Dz = some (.lst [.ref c1, .ref c2]) ∧ H c1 = some (.lst (bls (tru W s1))) ∧ H c2 = some (.lst (bls (tru W s2))) ∧ two t.tag (tru W s1) (tru W s2) = tru W t := by
          cases t with
          | conj u u' => exact two2 rfl (two_tru W "and" u u')
          | disj u u' =>
            have := two_tru W "or" u u'
            rw [joinS, if_neg (by decide +kernel)] at this
            exact two2 rfl this
          | _ => cases hjoin
        walk_at "rd"
        refine rd_ixL (SqL.of hD) (atI_zero _ _) ?_
        walk_at "rd"
        refine rd_ixL (SqL.of hD) (atI_nat (j := 1) rfl) ?_
        walk_at "rd"
        refine ⟨t.tag, c1, c2, _, _, rfl, hc1, hc2, by rw [tru_len, tru_len], by rw [tru_len]; exact hz, fun c H3 S3 hc0 hc => ?_⟩
        rw [et] at hc
        exact q c H3 S3 hc0 hc
      | false =>
        refine iteF ?_
        obtain ⟨s1, ek⟩ : ∃ s1, t.kids = [s1] := by cases t <;> first | exact ⟨_, rfl⟩ | (cases hleaf; done) | (cases hjoin; done)
        rw [ek] at hk
        cases hk with
        | cons h1 hk =>
          cases hk
          obtain ⟨c1, rfl, _, hc1⟩ := h1
          have hl1 := tru_len W s1
          have hbl : (bls (tru W s1)).length = (tru W s1).length := List.length_map _
          walk_at "rd"
          refine if_dec (fun et => ?_) (fun et => ?_)
          · have et' : t.tag = "not" := V.str.inj et
            have ett : (tru W s1).map (fun b => !b) = tru W t := by
              cases t with
              | neg u => cases ek; rfl
              | lamp _ => cases hleaf
              | dark _ => cases hleaf
              | conj _ _ => cases hjoin
              | disj _ _ => cases hjoin
              | ev u => exact absurd et' (by show ¬ ("every" : Str) = "not"; decide +kernel)
              | so u => exact absurd et' (by show ¬ ("some" : Str) = "not"; decide +kernel)
            walk_at "rd"
            refine rd_ixL (SqL.of hD) (atI_zero _ _) ?_
            walk_at "rd"
            refine comp_list (SqL.of hc1) (by omega) ?_
            refine fun Dy hDy => ⟨fun i y _ => ∃ b, ((tru W s1).map fun b => !b)[i]? = some b ∧ y = .bl b, fun _ _ _ _ h _ _ => h, fun j u H4 ys C hu S4 hd hC => ?_, fun ys H3 S3 hD' hl' hR => ?_⟩
            · rw [List.getElem?_map] at hu
              obtain ⟨b, hb, rfl⟩ := Option.map_eq_some_iff.mp hu
              walk_at "rd"
              exact hC _ H4 (Same.refl _) ⟨!b, by simp [hb], rfl⟩
            · exact q Dy H3 S3 hDy (by rw [hD', list_by (bs := (tru W s1).map fun b => !b) (by simp at hl' ⊢; omega) hR, ett])
          · walk_at "rd"
            refine rd_ixL (SqL.of hD) (atI_zero _ _) ?_
            walk_at "rd"
            refine ⟨a, t.tag, c1, W, tru W s1, rfl, hw, hv, hz, hdz, hc1, hl1, fun c H3 S3 hc0 hc => q c H3 S3 hc0 ?_⟩
            rw [hc]
            congr 3
            cases t with
            | neg u => exact absurd rfl et
            | lamp _ => cases hleaf
            | dark _ => cases hleaf
            | conj _ _ => cases hjoin
            | disj _ _ => cases hjoin
            | ev u =>
              cases ek
              have ea : (Say.ev s1).tag = "every" := rfl
              simp only [byDoors, ea, if_true, tru]
            | so u =>
              cases ek
              have ea : ¬ (Say.so s1).tag = "every" := by show ¬ ("some" : Str) = "every"; decide +kernel
              simp only [byDoors, if_neg ea, tru]
end
end My
set_option Elab.async false
set_option linter.all false
set_option maxRecDepth 100000
set_option maxHeartbeats 4000000
namespace My
open PySem L2
seal PE PT PW PA PS PSs PC PG PGs PI PO PPs PTs
local macro_rules | `(tactic| walk_at "ne") => `(tactic| first | assumption | exact Ne.symm (by assumption))
local macro_rules | `(tactic| walk_at "hp") => `(tactic| first | assumption | (with_reducible exact upd_same) | (with_reducible apply keepN; assumption; walk_at "hp") | (with_reducible apply keepL; walk_at "ne"; walk_at "hp"))
local macro_rules | `(tactic| walk_at "sm") => `(tactic| first | assumption | (with_reducible exact Same.refl _) | (with_reducible refine Same.new ?_ (by assumption); walk_at "sm") | (with_reducible refine Same.set ?_ (by assumption); walk_at "sm"))
local macro_rules | `(tactic| walk_at "tk") => `(tactic| first | assumption | (with_reducible exact TupK.refl _) | (with_reducible refine TupK.new ?_ (by assumption); walk_at "tk") | (with_reducible refine TupK.lst ?_ (by walk_at "hp"); walk_at "tk") | (with_reducible refine TupK.dK ?_ (by walk_at "hp"); walk_at "tk") | (with_reducible refine Same.tupK ?_; walk_at "sm"))
local macro_rules | `(tactic| walk_at "sl") => `(tactic| first | assumption | (with_reducible apply SqL.of; walk_at "hp") | (with_reducible apply sameSeq; assumption; walk_at "sm"))
local macro_rules | `(tactic| walk_at "st") => `(tactic| first | assumption | (with_reducible apply SqT.of; walk_at "hp"))
local macro_rules | `(tactic| walk_at "cd") => `(tactic| first | (show (0 : Int) < _; first | decide | assumption | omega) | exact ⟨by decide, by decide⟩ | exact ⟨by decide, by decide, by decide⟩ | exact Or.inl ⟨by decide, by decide⟩ | exact Or.inr ⟨by decide, by decide⟩ | exact Or.inl ⟨by omega, by omega⟩ | exact Or.inr ⟨by omega, by omega⟩ | exact ⟨by omega, by omega⟩)
local macro_rules | `(tactic| walk_at "rd1") => `(tactic| with_reducible first
  | (apply rd_var; with_unfolding_all rfl) | apply rd_op | apply rd_C | apply rd_seq | apply rd_asg | apply rd_name | apply rd_cons | apply rd_nil | apply rd_I0 | apply rd_test | apply rd_bl | apply rd_tB
  | (apply rd_ixT; (walk_at "st"); (with_unfolding_all rfl)) | apply rd_slice | apply rd_noPart | apply rd_part | apply rd_int | apply rd_CB | apply rd_if | apply rd_call | apply rd_ret | apply rd_drop | apply rd_tup | apply rd_lst | apply rd_bm | apply rd_bm0 | (apply rd_ty; (walk_at "hp"))
  | (apply rd_I; (with_unfolding_all walk_at "cd")) | (apply rd_eq; (with_unfolding_all rfl)) | (apply rd_ne; (with_unfolding_all rfl)) | apply rd_and | apply rd_or | apply rd_not | apply rd_andV | apply rd_orV | apply rd_notV | apply rd_ifE
  | (apply rd_lenL; (walk_at "sl")) | (apply rd_lenT; (walk_at "st")) | apply rd_dnew | apply rd_dput | apply rd_din | apply rd_next | apply rd_forL | apply rd_forV | apply rd_compL | apply rd_compZ | apply rd_compT | apply rd_compR | apply rd_kget | apply rd_dget | apply rd_listRev | apply rd_chain | apply rd_ints | apply rd_un | apply rd_U | apply rd_kin | apply rd_forZT | apply rd_pcons | apply rd_pnil | (apply rd_gtup; (walk_at "st"); (with_unfolding_all rfl)) | apply rd_gcons | apply rd_gnil | apply rd_fldC | apply rd_sfldC | apply rd_meth | apply rd_make | apply rd_compE | apply rd_tryset | apply rd_tryas | apply rd_raise | apply rd_forR3 | apply rd_forR2 | apply rd_forR1 | (apply rd_itL; (walk_at "sl")) | (apply rd_neN; (walk_at "sl"); (walk_at "sl")) | (apply rd_eqN; (walk_at "sl"); (walk_at "sl")))
local macro_rules | `(tactic| walk_at "rd") => `(tactic| repeat walk_at "rd1")
local macro_rules | `(tactic| walk_at "rd0") => `(tactic| try dsimp only [cxOf, Cx.nox, Cx.wish])
section
variable {P : Program} {w : World} {K : PySem.W.Frag} {mg : Str → Option Value} {base : Heap} {f : Addr} {fd : FuncData}
theorem lamS_truths : LamScope ["part", "inner"] "world" (lamAt s_truths).2.2.1 := ⟨rfl, rfl, rfl, by decide +kernel, by decide +kernel, by decide +kernel, by decide +kernel, by decide +kernel⟩
abbrev lp_truths : Pos := (lamAt s_truths).2.2.2
theorem ok_truths {cc T : Addr} (D : DefIn K mg "truths" s_truths ["world", "statement"] f fd) (hcd : fd.code = .ref cc) (C : PySem.W.CodeHd base cc T) (BM : BMain mg base)
    (h_part_truths : Has P w K mg base "part_truths" 3 ["world", "part", "inner"] spPart) (h_from_inside : Has P w K mg base "from_inside" 5 ["statement", "answer"] (spFrom P w K mg base 4)) : Has P w K mg base "truths" 6 ["world", "statement"] (spTruthsT T lp_truths) := by
  have nd := sc_truths.nd
  refine D.has (D.fn.okC sc_truths hcd (fun vs H Q E h => ?_) (fun A outer s H vs Q E hr h => ?_))
  · obtain ⟨a, v, W, s, rfl, _⟩ := h
    rfl
  · obtain ⟨a, v, W, t, rfl, hw, hv, hz, hdz, st, hsz, tab, q⟩ := h
    refine ⟨_, pss_one (ps_ret (pe_callC (i := 0) (c := s.heap.objs.size + 1) h_from_inside hr (pa_cons (pv 1) (pa_cons (pe_lam (qual := lamQ "truths") (cl := [("world", s.heap.objs.size + 1)]) rfl rfl rfl rfl C BM) pa_nil)) "world" rfl rfl rfl rfl)), ?_⟩
    walk_at "rd0"
    obtain ⟨pt, htb⟩ := tab.tbl
    generalize hcE : s.heap.objs.size + 1 = c
    refine ⟨_, rfl, tab, fun lf fdl H1 S1 tab1 hlf ⟨pm, ctv, c1, oc, efd, h1, h2, hco⟩ => ⟨.ref a, rfl, fun u o ru hod hc0 => ?_⟩⟩
    subst efd
    have L1 : LT H H1 := S1.lt htb
    have S2 : Same H1 (upd H1 c (known o)) := Same.new (Same.refl _) hc0
    refine ⟨v, lf, lamFn (lamQ "truths") (lamAt s_truths).1 (lamAt s_truths).2.1 (lamAt s_truths).2.2.1 [("world", c)] pm c1 ctv, t, _, fun fo H x s => TrAt fo H x (tru W s), rfl, (st.mono L1.2).mono S2.tupK, hsz, clo_fn (k := 3) lamS_truths hco, Binds.all fun us hl => match us, hl with | [_, _], _ => rfl, .inr ⟨_, _, S2 _ _ h1, rfl⟩, fun fo H H' x s z S _ => z.mono S, fun H3 x t3 Dz fo ys fs Cc S3 sx hD hk hfo hC => ?_, fun r H' fo S' ⟨l, er, nl, hl⟩ => ?_⟩
    · have h3c : H3 c = some (known o) := S3 _ _ upd_same
      have L3 : LT H (era H3 c) := L1.trans (S2.lt.trans (S3.lt.trans (era_lt h3c)))
      have E3 := era_lt h3c
      refine ⟨rfl, S3 _ _ (S2 _ _ h1), S3 _ _ (S2 _ _ h2), o, .ref a, u, h3c, hod, ru, fun A outer s hr => ⟨_, pe_callH h_part_truths hr (pa_cons (pv 2) (pa_cons (pv 0) (pa_cons (pv 1) pa_nil))), ?_⟩⟩
      try dsimp only [cxLam]
      walk_at "rd"
      refine ⟨a, Dz, fo, x, W, t3, ys, rfl, hw.lt L3, hv, hz, hdz, sx.mono E3.2, E3.1 _ _ hD, Paired.mapP hk fun _ _ ⟨b, e, n, z⟩ => ⟨b, e, n, E3.1 _ _ z⟩, fun l H4 S4 hl0 hl4 hc4 => ?_⟩
      have nlf : l ≠ fo := fun e => by rw [e, era_ne (ne_of hfo h3c (by intro z; cases z)), hfo] at hl0; cases hl0
      have S34 : Same H3 (upd H4 c (known o)) := fun b z e => by
        by_cases hb : b = c
        · subst hb; rw [h3c] at e; cases e; exact upd_same
        · rw [upd_ne hb]; exact S4 b z (by rw [era_ne hb]; exact e)
      refine hC (.ref l) _ S34 ⟨l, rfl, nlf, ?_⟩
      rw [upd_ne (ne_of_none hl4 hc4)]
      exact hl4
    · subst er
      have h4c : H' c = some (known o) := S' _ _ upd_same
      have S4 : Same H1 (era H' c) := fun b z e => by
        rw [era_ne (ne_of_none e hc0)]
        exact S' _ _ (S2 _ _ e)
      exact q l (era H' c) (S1.trans S4.samT) (tab1.mono S4) ((era_lt h4c).1 _ _ hl)
end
end My
set_option Elab.async false
set_option linter.all false
set_option maxRecDepth 100000
set_option maxHeartbeats 4000000
namespace My
open PySem L2
seal PE PT PW PA PS PSs PC PG PGs PI PO PPs PTs
local macro_rules | `(tactic| walk_at "ne") => `(tactic| first | assumption | exact Ne.symm (by assumption))
local macro_rules | `(tactic| walk_at "hp") => `(tactic| first | assumption | (with_reducible exact upd_same) | (with_reducible apply keepN; assumption; walk_at "hp") | (with_reducible apply keepL; walk_at "ne"; walk_at "hp"))
local macro_rules | `(tactic| walk_at "sm") => `(tactic| first | assumption | (with_reducible exact Same.refl _) | (with_reducible refine Same.new ?_ (by assumption); walk_at "sm") | (with_reducible refine Same.set ?_ (by assumption); walk_at "sm"))
local macro_rules | `(tactic| walk_at "tk") => `(tactic| first | assumption | (with_reducible exact TupK.refl _) | (with_reducible refine TupK.new ?_ (by assumption); walk_at "tk") | (with_reducible refine TupK.lst ?_ (by walk_at "hp"); walk_at "tk") | (with_reducible refine TupK.dK ?_ (by walk_at "hp"); walk_at "tk") | (with_reducible refine Same.tupK ?_; walk_at "sm"))
local macro_rules | `(tactic| walk_at "sl") => `(tactic| first | assumption | (with_reducible apply SqL.of; walk_at "hp") | (with_reducible apply sameSeq; assumption; walk_at "sm"))
local macro_rules | `(tactic| walk_at "st") => `(tactic| first | assumption | (with_reducible apply SqT.of; walk_at "hp"))
local macro_rules | `(tactic| walk_at "cd") => `(tactic| first | (show (0 : Int) < _; first | decide | assumption | omega) | exact ⟨by decide, by decide⟩ | exact ⟨by decide, by decide, by decide⟩ | exact Or.inl ⟨by decide, by decide⟩ | exact Or.inr ⟨by decide, by decide⟩ | exact Or.inl ⟨by omega, by omega⟩ | exact Or.inr ⟨by omega, by omega⟩ | exact ⟨by omega, by omega⟩)
local macro_rules | `(tactic| walk_at "rd1") => `(tactic| with_reducible first
  | (apply rd_var; with_unfolding_all rfl) | apply rd_op | apply rd_C | apply rd_seq | apply rd_asg | apply rd_name | apply rd_cons | apply rd_nil | apply rd_I0 | apply rd_test | apply rd_bl | apply rd_tB
  | (apply rd_ixT; (walk_at "st"); (with_unfolding_all rfl)) | apply rd_slice | apply rd_noPart | apply rd_part | apply rd_int | apply rd_CB | apply rd_if | apply rd_call | apply rd_ret | apply rd_drop | apply rd_tup | apply rd_lst | apply rd_bm | apply rd_bm0 | (apply rd_ty; (walk_at "hp"))
  | (apply rd_I; (with_unfolding_all walk_at "cd")) | (apply rd_eq; (with_unfolding_all rfl)) | (apply rd_ne; (with_unfolding_all rfl)) | apply rd_and | apply rd_or | apply rd_not | apply rd_andV | apply rd_orV | apply rd_notV | apply rd_ifE
  | (apply rd_lenL; (walk_at "sl")) | (apply rd_lenT; (walk_at "st")) | apply rd_dnew | apply rd_dput | apply rd_din | apply rd_next | apply rd_forL | apply rd_forV | apply rd_compL | apply rd_compZ | apply rd_compT | apply rd_compR | apply rd_kget | apply rd_dget | apply rd_listRev | apply rd_chain | apply rd_ints | apply rd_un | apply rd_U | apply rd_kin | apply rd_forZT | apply rd_pcons | apply rd_pnil | (apply rd_gtup; (walk_at "st"); (with_unfolding_all rfl)) | apply rd_gcons | apply rd_gnil | apply rd_fldC | apply rd_sfldC | apply rd_meth | apply rd_make | apply rd_compE | apply rd_tryset | apply rd_tryas | apply rd_raise | apply rd_forR3 | apply rd_forR2 | apply rd_forR1 | (apply rd_itL; (walk_at "sl")) | (apply rd_neN; (walk_at "sl"); (walk_at "sl")) | (apply rd_eqN; (walk_at "sl"); (walk_at "sl")))
local macro_rules | `(tactic| walk_at "rd") => `(tactic| repeat walk_at "rd1")
local macro_rules | `(tactic| walk_at "rd0") => `(tactic| try dsimp only [cxOf, Cx.nox, Cx.wish])
section
variable {P : Program} {w : World} {K : PySem.W.Frag} {mg : Str → Option Value} {base : Heap} {f : Addr} {fd : FuncData}
theorem ok_moves {a_LEAVES a_JOINS : Addr} (D : DefIn K mg "moves" s_moves ["world", "room", "statement"] f fd) (B : Blt mg) (c_LEAVES : mg "LEAVES" = some (.ref a_LEAVES)) (t_LEAVES : ∀ H, SqT K H a_LEAVES [.str "lamp", .str "dark"])
    (c_JOINS : mg "JOINS" = some (.ref a_JOINS)) (t_JOINS : ∀ H, SqT K H a_JOINS [.str "and", .str "or"]) : Has P w K mg base "moves" 1 ["world", "room", "statement"] spMoves := by
  have nd := sc_moves.nd
  refine D.has (D.fn.ok sc_moves (fun vs H Q E h => ?_) (fun cdv A outer s H vs Q E hr h => ?_))
  · obtain ⟨a, j, v, W, s, rfl, _⟩ := h
    rfl
  · obtain ⟨a, j, v, W, s, rfl, hR, sv, hg, q⟩ := h
    refine ⟨_, (pss_cons (ps_set (i := 3) nd rfl (Or.inl rfl) (pe_ix (ix_tupK K) (pv 2) pe_int (fun _ _ => rfl)))
      (pss_cons (ps_if (pt_cmpR (op_inK K) (pv 3) (pe_glob (v := .ref a_LEAVES) rfl c_LEAVES rfl) (by with_unfolding_all rfl)) (pss_one (ps_ret (pe_lst pa_nil))) pss_nil)
      (pss_cons (ps_if (pt_cmpR (op_inK K) (pv 3) (pe_glob (v := .ref a_JOINS) rfl c_JOINS rfl) (by with_unfolding_all rfl)) (pss_one (ps_ret (pe_compB ["within", "room"] 1 [1] (pi_tupK K (pe_slice (sl_tupK K) (pv 2) (po_some pe_int) po_none)) (fun _ _ _ _ _ => (pg_name (i := 0) (show List.Nodup (["within", "room"] : List Str) by decide +kernel) rfl (Or.inl rfl))) (fun _ _ _ _ _ => pts_nil) (fun _ _ _ _ _ => (pe_tup (pa_cons (pv 1) (pa_cons (pv 0) pa_nil))))))) pss_nil)
      (pss_one (ps_ret (pe_compB ["door", "statement"] 1 [2] (pi_listK K (pe_ix (ix_tupK K) (pe_ix (ix_listK K) (pv 0) (pv 1) (fun _ _ => rfl)) pe_int (fun _ _ => rfl))) (fun _ _ _ _ _ => (pg_name (i := 0) (show List.Nodup (["door", "statement"] : List Str) by decide +kernel) rfl (Or.inl rfl))) (fun _ _ _ _ _ => pts_nil) (fun _ _ _ _ _ => (pe_tup (pa_cons (pv 0) (pa_cons (pe_ix (ix_tupK K) (pv 1) pe_int (fun _ _ => rfl)) pa_nil)))))))))), ?_⟩
    walk_at "rd0"
    obtain ⟨ax, xs, rfl, ex, hkd⟩ := Stm.parts sv
    walk_at "rd"
    refine rd_ixT (SqT.of ex) (atI_zero _ _) ?_
    walk_at "rd"
    refine rd_inS (.inr (t_LEAVES _)) rfl rfl ?_
    walk_at "rd"
    rw [leafB]
    cases hleaf : Say.leaf s with
    | true =>
      refine iteT ?_
      walk_at "rd"
      refine ⟨(by show 0 ≤ sizeLine; decide), fun p hp => ?_⟩
      exact q p [] _ (by walk_at "sm") hp upd_same (by rw [leaf_moves hleaf]; exact .nil)
    | false =>
      refine iteF ?_
      walk_at "rd"
      refine rd_inS (.inr (t_JOINS _)) rfl rfl ?_
      walk_at "rd"
      rw [joinB]
      have hks := hkd hleaf
      have lks := Paired.length hks
      have hkf := kids_few s
      cases hjoin : Say.join s with
      | true =>
        refine iteT ?_
        walk_at "rd"
        refine rd_slT1 (SqT.of ex) fun p hp => ?_
        have Sp : Same H (upd H p (.tup xs)) := by walk_at "sm"
        have hpp : (upd H p (.tup xs)) p = some (.tup xs) := upd_same
        generalize upd H p (.tup xs) = H1 at Sp hpp ⊢
        refine comp_tup hpp (by omega) fun Dz hDz => ⟨fun i y H => ∃ t, s.kids[i]? = some t ∧ PlAt H y (j, t), fun i y H H' ⟨t, e, z⟩ _ T => ⟨t, e, z.mono T⟩, fun i x H2 ys C hx S2 hd hC => ?_, fun ys H3 S3 hD3 hl3 hR3 => ?_⟩
        · obtain ⟨t, ht, st⟩ := Paired.get1 hks hx
          walk_at "rd"
          refine ⟨(by show 2 ≤ sizeLine; decide), fun p2 hp2 => ?_⟩
          exact hC _ _ (by walk_at "sm") ⟨t, ht, p2, x, rfl, upd_same, ((st.mono Sp.tupK).mono S2.tupK).mono (by walk_at "tk")⟩
        · refine q Dz ys H3 (Sp.trans S3) (Sp.free hDz) hD3 ?_
          rw [join_moves hjoin]
          refine Paired.of_get (by rw [List.length_map]; omega) fun i y m e1 e2 => ?_
          obtain ⟨t, e3, z⟩ := hR3 i y e1
          rw [List.getElem?_map, e3] at e2
          cases e2
          exact z
      | false =>
        refine iteF ?_
        obtain ⟨t, ek, em⟩ := door_kid hleaf hjoin (good_noneg hg)
        rw [ek] at hks
        cases hks with
        | @cons x _ _ _ sx hn =>
        cases hn
        obtain ⟨rs, rx, l, d, r, h1, h2, h3, h4, h5, h6, h7, h8⟩ := hR.at
        have hnl : (nts r.doors).length = r.doors.length := List.length_map _
        walk_at "rd"
        refine rd_ixL (SqL.of h1) (atI_nat h2) ?_
        walk_at "rd"
        refine comp_list (SqL.of h5) (by omega) fun Dz hDz => ⟨fun i y H => ∃ d', r.doors[i]? = some d' ∧ PlAt H y (d', t), fun i y H H' ⟨t, e, z⟩ _ T => ⟨t, e, z.mono T⟩, fun i x H2 ys C hx S2 hd hC => ?_, fun ys H3 S3 hD3 hl3 hR3 => ?_⟩
        · obtain ⟨d', hd', rfl⟩ := nts_get hx
          walk_at "rd"
          refine rd_ixT (SqT.of (S2 _ _ ex)) (atI_nat (j := 1) rfl) ?_
          walk_at "rd"
          refine ⟨(by show 2 ≤ sizeLine; decide), fun p2 hp2 => ?_⟩
          exact hC _ _ (by walk_at "sm") ⟨d', hd', p2, _, rfl, upd_same, (sx.mono S2.tupK).mono (by walk_at "tk")⟩
        · refine q Dz ys H3 S3 hDz hD3 ?_
          rw [em, h7]
          refine Paired.of_get (by rw [List.length_map]; omega) fun i y m e1 e2 => ?_
          obtain ⟨d', e3, z⟩ := hR3 i y e1
          rw [List.getElem?_map, e3] at e2
          cases e2
          exact z
theorem ok_told (D : DefIn K mg "winner_told" s_winner_told ["truth"] f fd) : Has P w K mg base "winner_told" 1 ["truth"] spTold := by
  have nd := sc_winner_told.nd
  refine D.has (D.fn.ok sc_winner_told (fun vs H Q E h => ?_) (fun cdv A outer s H vs Q E hr h => ?_))
  · obtain ⟨b, rfl, _⟩ := h
    rfl
  · obtain ⟨b, rfl, q⟩ := h
    refine ⟨_, (pss_one (ps_ret (pe_ifExp (pt_val (pv 0)) pe_str pe_str))), ?_⟩
    walk_at "rd0"
    walk_at "rd"
    cases b with
    | true => refine iteT ?_; exact q
    | false => refine iteF ?_; exact q
theorem ok_winner {T : Addr} (D : DefIn K mg "winner" s_winner ["world", "room", "statement"] f fd) (B : Blt mg) (h_winner_told : Has P w K mg base "winner_told" 1 ["truth"] spTold) (h_truths : Has P w K mg base "truths" 6 ["world", "statement"] (spTruthsT T lp_truths)) : Has P w K mg base "winner" 7 ["world", "room", "statement"] (spWinner T lp_truths) := by
  have nd := sc_winner.nd
  refine D.has (D.fn.ok sc_winner (fun vs H Q E h => ?_) (fun cdv A outer s H vs Q E hr h => ?_))
  · obtain ⟨a, j, v, W, s, rfl, _⟩ := h
    rfl
  · obtain ⟨a, j, v, W, s, rfl, hR, sv, hsz, tab, q⟩ := h
    refine ⟨_, (pss_one (ps_ret (pe_callH h_winner_told hr (pa_cons (pe_ix (ix_listK K) (pe_callH h_truths hr (pa_cons (pv 0) (pa_cons (pv 2) pa_nil))) (pv 1) (fun _ _ => rfl)) pa_nil)))), ?_⟩
    walk_at "rd0"
    walk_at "rd"
    refine ⟨a, v, W, s, rfl, hR.1, hR.2.1, hR.2.2.1, hR.2.2.2.1, sv, hsz, tab, fun l H1 S1 tab1 hl => ?_⟩
    walk_at "rd"
    refine rd_ixL (SqL.of hl) (bls_at (by rw [tru_len]; exact hR.2.2.2.2)) ?_
    walk_at "rd"
    exact ⟨_, rfl, q H1 S1 tab1⟩
theorem ok_behindW {T : Addr} (D : DefIn K mg "winners_behind" s_winners_behind ["world", "room", "statement"] f fd) (B : Blt mg) (h_winner_told : Has P w K mg base "winner_told" 1 ["truth"] spTold) (h_truths : Has P w K mg base "truths" 6 ["world", "statement"] (spTruthsT T lp_truths)) :
    Has P w K mg base "winners_behind" 7 ["world", "room", "statement"] (spBehindW T lp_truths) := by
  have nd := sc_winners_behind.nd
  refine D.has (D.fn.ok sc_winners_behind (fun vs H Q E h => ?_) (fun cdv A outer s H vs Q E hr h => ?_))
  · obtain ⟨a, j, v, W, s, rfl, _⟩ := h
    rfl
  · obtain ⟨a, j, v, W, s, rfl, hR, sv, hsz, hg, hleaf, hjoin, tab, q⟩ := h
    refine ⟨_, (pss_cons (ps_set (i := 3) nd rfl (by first | exact Or.inl rfl | exact Or.inr (Or.inl rfl) | exact Or.inr rfl) (pe_callH h_truths hr (pa_cons (pv 0) (pa_cons (pe_ix (ix_tupK K) (pv 2) pe_int (fun _ _ => rfl)) pa_nil))))
      (pss_one (ps_ret (pe_compB ["door", "found"] 1 [3] (pi_listK K (pe_ix (ix_tupK K) (pe_ix (ix_listK K) (pv 0) (pv 1) (fun _ _ => rfl)) pe_int (fun _ _ => rfl))) (fun _ _ _ _ _ => (pg_name (i := 0) (show List.Nodup (["door", "found"] : List Str) by decide +kernel) rfl (Or.inl rfl))) (fun _ _ _ _ _ => pts_nil) (fun _ _ _ _ _ => (pe_callH h_winner_told hr (pa_cons (pe_ix (ix_listK K) (pv 1) (pv 0) (fun _ _ => rfl)) pa_nil))))))), ?_⟩
    walk_at "rd0"
    obtain ⟨ax, xs, rfl, ex, hkd⟩ := Stm.parts sv
    have hks := hkd hleaf
    obtain ⟨t, ek, em⟩ := door_kid hleaf hjoin (good_noneg hg)
    have htz : t.sz < s.sz := kid_sz (by rw [ek]; exact List.mem_singleton_self t)
    rw [ek] at hks
    cases hks with
    | @cons x _ _ _ sx hn =>
    cases hn
    walk_at "rd"
    obtain ⟨pt, htb⟩ := tab.tbl
    refine ⟨a, x, W, t, rfl, hR.1, hR.2.1, hR.2.2.1, hR.2.2.2.1, sx, by omega, tab, fun lt H1 S1 tab1 hlt => ?_⟩
    have L1 := S1.lt htb
    obtain ⟨rs, rx, l, d, r, h1, h2, h3, h4, h5, h6, h7, h8⟩ := (hR.lt L1).at
    have hnl : (nts r.doors).length = r.doors.length := List.length_map _
    walk_at "rd"
    refine rd_ixL (SqL.of h1) (atI_nat h2) ?_
    walk_at "rd"
    refine comp_list (SqL.of h5) (by omega) fun Dz hDz => ⟨fun i y _ => ∃ z, (wons W (movesS W j s))[i]? = some z ∧ y = .str z, fun _ _ _ _ h _ _ => h, fun i u H2 ys C hx S2 hd hC => ?_, fun ys H3 S3 hD3 hl3 hR3 => ?_⟩
    · obtain ⟨d', hd', rfl⟩ := nts_get hx
      have hlt2 := S2 _ _ hlt
      have hdl : d' < (tru W t).length := by rw [tru_len]; exact hR.2.1 r (List.mem_of_getElem? h6) d' (List.mem_of_getElem? hd')
      walk_at "rd"
      refine rd_ixL (SqL.of hlt2) (bls_at hdl) ?_
      walk_at "rd"
      refine ⟨_, rfl, hC _ H2 (Same.refl _) ⟨_, ?_, rfl⟩⟩
      rw [em, h7, wons, List.map_map, List.getElem?_map, hd']
      rfl
    · refine q Dz H3 (S1.trans S3.samT) (tab1.mono S3) ?_
      rw [hD3, list_strs (by rw [hl3, hnl, em, h7, wons, List.length_map, List.length_map]) hR3]
theorem ok_moveW {T : Addr} {a_JOINS : Addr} (D : DefIn K mg "move_winners" s_move_winners ["world", "room", "statement"] f fd) (B : Blt mg) (c_JOINS : mg "JOINS" = some (.ref a_JOINS)) (t_JOINS : ∀ H, SqT K H a_JOINS [.str "and", .str "or"])
    (h_winner : Has P w K mg base "winner" 7 ["world", "room", "statement"] (spWinner T lp_truths)) (h_winners_behind : Has P w K mg base "winners_behind" 7 ["world", "room", "statement"] (spBehindW T lp_truths)) : Has P w K mg base "move_winners" 8 ["world", "room", "statement"] (spMoveW T lp_truths) := by
  have nd := sc_move_winners.nd
  refine D.has (D.fn.ok sc_move_winners (fun vs H Q E h => ?_) (fun cdv A outer s H vs Q E hr h => ?_))
  · obtain ⟨a, j, v, W, s, rfl, _⟩ := h
    rfl
  · obtain ⟨a, j, v, W, s, rfl, hR, sv, hsz, hg, hleaf, tab, q⟩ := h
    refine ⟨_, (pss_cons (ps_if (pt_cmpR (op_inK K) (pe_ix (ix_tupK K) (pv 2) pe_int (fun _ _ => rfl)) (pe_glob (v := .ref a_JOINS) rfl c_JOINS rfl) (by with_unfolding_all rfl)) (pss_one (ps_ret (pe_compB ["within", "world", "room"] 1 [0, 1] (pi_tupK K (pe_slice (sl_tupK K) (pv 2) (po_some pe_int) po_none)) (fun _ _ _ _ _ => (pg_name (i := 0) (show List.Nodup (["within", "world", "room"] : List Str) by decide +kernel) rfl (Or.inl rfl))) (fun _ _ _ _ _ => pts_nil) (fun _ _ _ _ _ => (pe_callH h_winner hr (pa_cons (pv 1) (pa_cons (pv 2) (pa_cons (pv 0) pa_nil)))))))) pss_nil)
      (pss_one (ps_ret (pe_callH h_winners_behind hr (pa_cons (pv 0) (pa_cons (pv 1) (pa_cons (pv 2) pa_nil))))))), ?_⟩
    walk_at "rd0"
    obtain ⟨ax, xs, rfl, ex, hkd⟩ := Stm.parts sv
    have hks := hkd hleaf
    have lks := Paired.length hks
    have hkf := kids_few s
    walk_at "rd"
    refine rd_ixT (SqT.of ex) (atI_zero _ _) ?_
    walk_at "rd"
    refine rd_inS (.inr (t_JOINS _)) rfl rfl ?_
    walk_at "rd"
    rw [joinB]
    cases hjoin : Say.join s with
    | true =>
      refine iteT ?_
      walk_at "rd"
      refine rd_slT1 (SqT.of ex) fun p hp => ?_
      have Sp : Same H (upd H p (.tup xs)) := by walk_at "sm"
      have hpp : (upd H p (.tup xs)) p = some (.tup xs) := upd_same
      generalize upd H p (.tup xs) = H1 at Sp hpp ⊢
      refine ⟨p, rfl, ⟨_, SqT.of hpp⟩, comp_anyT (xs := xs) fun Dz hDz => ⟨fun i ys H2 => SamT T H1 H2 ∧ LamTab T (lamQ "truths") lp_truths H2 ∧ H2 Dz = some (.lst ys) ∧ ys = ((wons W (movesS W j s)).take i).map V.str, ⟨(Same.new (Same.refl _) hDz).samT, (tab.mono Sp).mono (Same.new (Same.refl _) hDz), upd_same, rfl⟩, fun i ys H2 _ ⟨S2, _⟩ => SqT.of ?_, fun i x H2 ys C hx ⟨S2, tab2, hd, ey⟩ hC => ?_, fun ys H3 ⟨S3, tab3, hd, ey⟩ => ?_⟩⟩
      · obtain ⟨pt, htb⟩ := (tab.mono Sp).tbl
        exact (S2.lt htb).2 _ _ hpp
      · obtain ⟨pt, htb⟩ := (tab.mono Sp).tbl
        have L2 := S2.lt htb
        obtain ⟨t, ht, st⟩ := Paired.get1 hks hx
        have htz : t.sz < s.sz := kid_sz (List.mem_of_getElem? ht)
        walk_at "rd"
        refine ⟨a, j, x, W, t, rfl, hR.lt (Sp.lt.trans L2), st.mono (Sp.lt.trans L2).2, by omega, tab2, fun H4 S4 tab4 => ?_⟩
        obtain ⟨pt2, htb2⟩ := tab2.tbl
        have L4 := S4.lt htb2
        have hd4 := L4.1 _ _ hd
        have nDT : Dz ≠ T := fun e => by obtain ⟨pt4, htb4⟩ := tab4.tbl; rw [e, htb4] at hd4; cases hd4
        have S45 : SamT T H4 (upd H4 Dz (.lst (ys ++ [.str (whoS (tv W t j))]))) → _ := fun z => z
        have il : i < (wons W (movesS W j s)).length := by rw [wons, List.length_map, join_moves hjoin, List.length_map]; exact (List.getElem?_eq_some_iff.mp ht).1
        refine hC _ H4 ys hd4 (smallLt (by rw [ey, List.length_map, List.length_take]; have := (List.getElem?_eq_some_iff.mp hx).1; omega)) ⟨fun b o n e => ?_, ?_, upd_same, ?_⟩
        · rw [upd_ne (ne_of_none e hDz)]
          exact S4 b o n (S2 b o n e)
        · obtain ⟨ps, z1, z2⟩ := tab4
          refine ⟨ps, keepL nDT.symm z1, z2.imp_right fun ⟨c, oc, e1, e2, e3⟩ => ⟨c, oc, e1, keepL (fun e => by rw [e, hd4] at e2; cases e2) e2, e3⟩⟩
        · rw [ey, List.take_succ, List.map_append]
          congr 1
          rw [wons, List.getElem?_map, join_moves hjoin, List.getElem?_map, ht]
          rfl
      · refine q Dz H3 (Sp.samT.trans S3) tab3 ?_
        rw [hd, ey, List.take_of_length_le]
        rw [wons, List.length_map, join_moves hjoin, List.length_map]
        omega
    | false =>
      refine iteF ?_
      walk_at "rd"
      exact ⟨a, j, _, W, s, rfl, hR, sv, hsz, hg, hleaf, hjoin, tab, q⟩
end
end My
set_option Elab.async false
set_option linter.all false
set_option maxRecDepth 100000
set_option maxHeartbeats 4000000
namespace My
open PySem L2
seal PE PT PW PA PS PSs PC PG PGs PI PO PPs PTs
local macro_rules | `(tactic| walk_at "ne") => `(tactic| first | assumption | exact Ne.symm (by assumption))
local macro_rules | `(tactic| walk_at "hp") => `(tactic| first | assumption | (with_reducible exact upd_same) | (with_reducible apply keepN; assumption; walk_at "hp") | (with_reducible apply keepL; walk_at "ne"; walk_at "hp"))
local macro_rules | `(tactic| walk_at "sm") => `(tactic| first | assumption | (with_reducible exact Same.refl _) | (with_reducible refine Same.new ?_ (by assumption); walk_at "sm") | (with_reducible refine Same.set ?_ (by assumption); walk_at "sm"))
local macro_rules | `(tactic| walk_at "tk") => `(tactic| first | assumption | (with_reducible exact TupK.refl _) | (with_reducible refine TupK.new ?_ (by assumption); walk_at "tk") | (with_reducible refine TupK.lst ?_ (by walk_at "hp"); walk_at "tk") | (with_reducible refine TupK.dK ?_ (by walk_at "hp"); walk_at "tk") | (with_reducible refine Same.tupK ?_; walk_at "sm"))
local macro_rules | `(tactic| walk_at "sl") => `(tactic| first | assumption | (with_reducible apply SqL.of; walk_at "hp") | (with_reducible apply sameSeq; assumption; walk_at "sm"))
local macro_rules | `(tactic| walk_at "st") => `(tactic| first | assumption | (with_reducible apply SqT.of; walk_at "hp"))
local macro_rules | `(tactic| walk_at "cd") => `(tactic| first | (show (0 : Int) < _; first | decide | assumption | omega) | exact ⟨by decide, by decide⟩ | exact ⟨by decide, by decide, by decide⟩ | exact Or.inl ⟨by decide, by decide⟩ | exact Or.inr ⟨by decide, by decide⟩ | exact Or.inl ⟨by omega, by omega⟩ | exact Or.inr ⟨by omega, by omega⟩ | exact ⟨by omega, by omega⟩)
local macro_rules | `(tactic| walk_at "rd1") => `(tactic| with_reducible first
  | (apply rd_var; with_unfolding_all rfl) | apply rd_op | apply rd_C | apply rd_seq | apply rd_asg | apply rd_name | apply rd_cons | apply rd_nil | apply rd_I0 | apply rd_test | apply rd_bl | apply rd_tB
  | (apply rd_ixT; (walk_at "st"); (with_unfolding_all rfl)) | apply rd_slice | apply rd_noPart | apply rd_part | apply rd_int | apply rd_CB | apply rd_if | apply rd_call | apply rd_ret | apply rd_drop | apply rd_tup | apply rd_lst | apply rd_bm | apply rd_bm0 | (apply rd_ty; (walk_at "hp"))
  | (apply rd_I; (with_unfolding_all walk_at "cd")) | (apply rd_eq; (with_unfolding_all rfl)) | (apply rd_ne; (with_unfolding_all rfl)) | apply rd_and | apply rd_or | apply rd_not | apply rd_andV | apply rd_orV | apply rd_notV | apply rd_ifE
  | (apply rd_lenL; (walk_at "sl")) | (apply rd_lenT; (walk_at "st")) | apply rd_dnew | apply rd_dput | apply rd_din | apply rd_next | apply rd_forL | apply rd_forV | apply rd_compL | apply rd_compZ | apply rd_compT | apply rd_compR | apply rd_kget | apply rd_dget | apply rd_listRev | apply rd_chain | apply rd_ints | apply rd_un | apply rd_U | apply rd_kin | apply rd_forZT | apply rd_pcons | apply rd_pnil | (apply rd_gtup; (walk_at "st"); (with_unfolding_all rfl)) | apply rd_gcons | apply rd_gnil | apply rd_fldC | apply rd_sfldC | apply rd_meth | apply rd_make | apply rd_compE | apply rd_tryset | apply rd_tryas | apply rd_raise | apply rd_forR3 | apply rd_forR2 | apply rd_forR1 | (apply rd_itL; (walk_at "sl")) | (apply rd_neN; (walk_at "sl"); (walk_at "sl")) | (apply rd_eqN; (walk_at "sl"); (walk_at "sl")))
local macro_rules | `(tactic| walk_at "rd") => `(tactic| repeat walk_at "rd1")
local macro_rules | `(tactic| walk_at "rd0") => `(tactic| try dsimp only [cxOf, Cx.nox, Cx.wish])
section
variable {P : Program} {w : World} {K : PySem.W.Frag} {mg : Str → Option Value} {base : Heap} {f : Addr} {fd : FuncData}
theorem ok_bestX {T C a_MOVERS : Addr} (O_NoMove : PyProof.Rows.OwnCls "NoMove" C bmVE "ValueError.__new__" mg base) (D : DefIn K mg "best_move" s_best_move ["world", "room", "statement"] f fd) (B : Blt mg) (c_MOVERS : mg "MOVERS" = some (.ref a_MOVERS)) (t_MOVERS : KDict P K w a_MOVERS movers4)
    (h_moves : Has P w K mg base "moves" 1 ["world", "room", "statement"] spMoves) (h_move_winners : Has P w K mg base "move_winners" 8 ["world", "room", "statement"] (spMoveW T lp_truths)) : HasX P w K mg base C "best_move" 9 ["world", "room", "statement"] (spBestX T C lp_truths) := by
  have nd := sc_best_move.nd
  refine D.hasX (D.fn.okX sc_best_move (fun vs H Q E h => ?_) (fun cdv A outer s H vs Q E hr h => ?_))
  · obtain ⟨a, j, v, W, s, rfl, _⟩ := h
    rfl
  · obtain ⟨a, j, v, W, s, rfl, hR, sv, hsz, hg, tab, q, qe⟩ := h
    refine ⟨_, (pss_cons (ps_if (pt_cmpR op_eq (pe_callB (call_lenK K) rfl B.len PySem.boot_len (pa_cons (pe_callH h_moves hr (pa_cons (pv 0) (pa_cons (pv 1) (pa_cons (pv 2) pa_nil)))) pa_nil)) pe_int (nomark _)) (pss_one (ps_raise PySem.F.excBase_ValueError rfl O_NoMove rfl (pa_cons pe_str pa_nil))) pss_nil)
      (pss_cons (ps_set (i := 3) nd rfl (Or.inl rfl) (pe_kget P K w (pe_glob (v := .ref a_MOVERS) rfl c_MOVERS rfl) (pe_ix (ix_tupK K) (pv 2) pe_int (fun _ _ => rfl)) (fun _ _ => rfl)))
      (pss_cons (ps_set (i := 4) nd rfl (Or.inl rfl) (pe_callH h_move_winners hr (pa_cons (pv 0) (pa_cons (pv 1) (pa_cons (pv 2) pa_nil)))))
      (pss_one (ps_ret (pe_ifExp (pt_cmpR (op_inK K) (pv 3) (pv 4) (by with_unfolding_all rfl)) (pe_bmK K PySem.F.plainAttrs_list PySem.F.slot_list_index PySem.F.type_list_index mt_index (pv 4) (pa_cons (pv 3) pa_nil)) pe_int)))))), ?_⟩
    walk_at "rd0"
    walk_at "rd"
    refine ⟨a, j, v, W, s, rfl, hR, sv, hg, fun l xs H1 S1 hl0 hl hm => ?_⟩
    have lm := Paired.length hm
    walk_at "rd"
    refine if_dec (fun e => ?_) (fun hne0 => ?_)
    · have z' : ((xs.length : Nat) : Int) = 0 := V.int.inj e
      have hem : movesS W j s = [] := List.length_eq_zero_iff.mp (by omega)
      walk_at "rd"
      exact ⟨by decide, qe hem H1 S1.samT (tab.mono S1)⟩
    have hne : movesS W j s ≠ [] := fun z => hne0 (by
      rw [z] at lm
      rw [lm]
      rfl)
    have hpos : 0 < xs.length := by rw [lm]; exact List.length_pos_iff.mpr hne
    have hleaf : Say.leaf s = false := by
      cases z : Say.leaf s with
      | false => rfl
      | true => exact absurd (leaf_moves z) hne
    have sv1 := sv.mono S1.tupK
    obtain ⟨ax, ys, rfl, ex, hkd⟩ := Stm.parts sv1
    walk_at "rd"
    refine rd_ixT (SqT.of ex) (atI_zero _ _) ?_
    walk_at "rd"
    refine rd_kgetS t_MOVERS (movers_val hleaf (good_noneg hg)) ?_
    walk_at "rd"
    refine ⟨a, j, _, W, s, rfl, hR.lt S1.lt, sv1, hsz, hg, hleaf, tab.mono S1, fun lw H2 S2 tab2 hlw => ?_⟩
    have hwl : ((wons W (movesS W j s)).map V.str).length = (movesS W j s).length := by rw [List.length_map, wons, List.length_map]
    have hmz : (movesS W j s).length ≤ 1000 := by
      cases hjoin : Say.join s with
      | true => rw [join_moves hjoin, List.length_map]; have := kids_few s; omega
      | false =>
        obtain ⟨t, _, em⟩ := door_kid hleaf hjoin (good_noneg hg)
        obtain ⟨rs, rx, l, d, r, h1, h2, h3, h4, h5, h6, h7, h8⟩ := hR.at
        rw [em, List.length_map, h7]; exact h8
    walk_at "rd"
    refine rd_inS (.inl (SqL.of hlw)) rfl (flat_strs _) ?_
    walk_at "rd"
    rw [in_wons]
    cases hf : (movesS W j s).findIdx? fun m => tv W m.2 m.1 == s.spk with
    | none =>
      have hb : bestS W j s = 0 := by unfold bestS; rw [hf]; rfl
      have ha : ((movesS W j s).any fun m => tv W m.2 m.1 == s.spk) = false := by
        rw [List.any_eq_false]
        intro m hm'
        rw [List.findIdx?_eq_none_iff] at hf
        rw [hf m hm']
        exact Bool.false_ne_true
      rw [ha]
      refine iteF ?_
      walk_at "rd"
      have := q hne H2 (S1.samT.trans S2) tab2
      rw [hb] at this
      exact this
    | some i =>
      have hb : bestS W j s = i := by unfold bestS; rw [hf]; rfl
      obtain ⟨e1, e2⟩ := find_wons hf
      have ha : ((movesS W j s).any fun m => tv W m.2 m.1 == s.spk) = true := by
        rw [List.findIdx?_eq_some_iff_getElem] at hf
        obtain ⟨hi, h1, _⟩ := hf
        exact List.any_eq_true.mpr ⟨_, List.getElem_mem hi, h1⟩
      rw [ha]
      refine iteT ?_
      walk_at "rd"
      refine ⟨lw, _, _, i, rfl, rfl, hlw, e1, e2, by rw [wons, List.length_map]; omega, ?_⟩
      have := q hne H2 (S1.samT.trans S2) tab2
      rw [hb] at this
      exact this
end
end My
set_option Elab.async false
set_option linter.all false
set_option maxRecDepth 100000
set_option maxHeartbeats 4000000
namespace My
open PySem L2
seal PE PT PW PA PS PSs PC PG PGs PI PO PPs PTs
local macro_rules | `(tactic| walk_at "ne") => `(tactic| first | assumption | exact Ne.symm (by assumption))
local macro_rules | `(tactic| walk_at "hp") => `(tactic| first | assumption | (with_reducible exact upd_same) | (with_reducible apply keepN; assumption; walk_at "hp") | (with_reducible apply keepL; walk_at "ne"; walk_at "hp"))
local macro_rules | `(tactic| walk_at "sm") => `(tactic| first | assumption | (with_reducible exact Same.refl _) | (with_reducible refine Same.new ?_ (by assumption); walk_at "sm") | (with_reducible refine Same.set ?_ (by assumption); walk_at "sm"))
local macro_rules | `(tactic| walk_at "tk") => `(tactic| first | assumption | (with_reducible exact TupK.refl _) | (with_reducible refine TupK.new ?_ (by assumption); walk_at "tk") | (with_reducible refine TupK.lst ?_ (by walk_at "hp"); walk_at "tk") | (with_reducible refine TupK.dK ?_ (by walk_at "hp"); walk_at "tk") | (with_reducible refine Same.tupK ?_; walk_at "sm"))
local macro_rules | `(tactic| walk_at "sl") => `(tactic| first | assumption | (with_reducible apply SqL.of; walk_at "hp") | (with_reducible apply sameSeq; assumption; walk_at "sm"))
local macro_rules | `(tactic| walk_at "st") => `(tactic| first | assumption | (with_reducible apply SqT.of; walk_at "hp"))
local macro_rules | `(tactic| walk_at "cd") => `(tactic| first | (show (0 : Int) < _; first | decide | assumption | omega) | exact ⟨by decide, by decide⟩ | exact ⟨by decide, by decide, by decide⟩ | exact Or.inl ⟨by decide, by decide⟩ | exact Or.inr ⟨by decide, by decide⟩ | exact Or.inl ⟨by omega, by omega⟩ | exact Or.inr ⟨by omega, by omega⟩ | exact ⟨by omega, by omega⟩)
local macro_rules | `(tactic| walk_at "rd1") => `(tactic| with_reducible first
  | (apply rd_var; with_unfolding_all rfl) | apply rd_op | apply rd_C | apply rd_seq | apply rd_asg | apply rd_name | apply rd_cons | apply rd_nil | apply rd_I0 | apply rd_test | apply rd_bl | apply rd_tB
  | (apply rd_ixT; (walk_at "st"); (with_unfolding_all rfl)) | apply rd_slice | apply rd_noPart | apply rd_part | apply rd_int | apply rd_CB | apply rd_if | apply rd_call | apply rd_ret | apply rd_drop | apply rd_tup | apply rd_lst | apply rd_bm | apply rd_bm0 | (apply rd_ty; (walk_at "hp"))
  | (apply rd_I; (with_unfolding_all walk_at "cd")) | (apply rd_eq; (with_unfolding_all rfl)) | (apply rd_ne; (with_unfolding_all rfl)) | apply rd_and | apply rd_or | apply rd_not | apply rd_andV | apply rd_orV | apply rd_notV | apply rd_ifE
  | (apply rd_lenL; (walk_at "sl")) | (apply rd_lenT; (walk_at "st")) | apply rd_dnew | apply rd_dput | apply rd_din | apply rd_next | apply rd_forL | apply rd_forV | apply rd_compL | apply rd_compZ | apply rd_compT | apply rd_compR | apply rd_kget | apply rd_dget | apply rd_listRev | apply rd_chain | apply rd_ints | apply rd_un | apply rd_U | apply rd_kin | apply rd_forZT | apply rd_pcons | apply rd_pnil | (apply rd_gtup; (walk_at "st"); (with_unfolding_all rfl)) | apply rd_gcons | apply rd_gnil | apply rd_fldC | apply rd_sfldC | apply rd_meth | apply rd_make | apply rd_compE | apply rd_tryset | apply rd_tryas | apply rd_raise | apply rd_forR3 | apply rd_forR2 | apply rd_forR1 | (apply rd_itL; (walk_at "sl")) | (apply rd_neN; (walk_at "sl"); (walk_at "sl")) | (apply rd_eqN; (walk_at "sl"); (walk_at "sl")))
local macro_rules | `(tactic| walk_at "rd") => `(tactic| repeat walk_at "rd1")
local macro_rules | `(tactic| walk_at "rd0") => `(tactic| try dsimp only [cxOf, Cx.nox, Cx.wish])
section
variable {P : Program} {w : World} {K : PySem.W.Frag} {mg : Str → Option Value} {base : Heap} {f : Addr} {fd : FuncData}
theorem ok_lmoves (D : DefIn K mg "_law_moves_from" s__law_moves_from ["_law_world", "_law_room", "_law_statement"] f fd) (B : Blt mg) : Has P w K mg base "_law_moves_from" 1 ["_law_world", "_law_room", "_law_statement"] spMoves := by
  have nd := sc__law_moves_from.nd
  refine D.has (D.fn.ok sc__law_moves_from (fun vs H Q E h => ?_) (fun cdv A outer s H vs Q E hr h => ?_))
  · obtain ⟨a, j, v, W, s, rfl, _⟩ := h
    rfl
  · obtain ⟨a, j, v, W, s, rfl, hR, sv, hg, q⟩ := h
    refine ⟨_, (pss_cons (ps_if (pt_cmpR (op_inK K) (pe_ix (ix_tupK K) (pv 2) pe_int (fun _ _ => rfl)) (pe_lst (pa_cons pe_str (pa_cons pe_str pa_nil))) (by with_unfolding_all rfl)) (pss_one (ps_ret (pe_lst (pa_cons (pe_tup (pa_cons (pv 1) (pa_cons (pe_ix (ix_tupK K) (pv 2) pe_int (fun _ _ => rfl)) pa_nil))) (pa_cons (pe_tup (pa_cons (pv 1) (pa_cons (pe_ix (ix_tupK K) (pv 2) pe_int (fun _ _ => rfl)) pa_nil))) pa_nil))))) pss_nil)
      (pss_cons (ps_if (pt_cmpR (op_inK K) (pe_ix (ix_tupK K) (pv 2) pe_int (fun _ _ => rfl)) (pe_lst (pa_cons pe_str (pa_cons pe_str pa_nil))) (by with_unfolding_all rfl)) (pss_one (ps_ret (pe_compB ["_law_door", "_law_statement"] 1 [2] (pi_listK K (pe_ix (ix_tupK K) (pe_ix (ix_listK K) (pv 0) (pv 1) (fun _ _ => rfl)) pe_int (fun _ _ => rfl))) (fun _ _ _ _ _ => (pg_name (i := 0) (show List.Nodup (["_law_door", "_law_statement"] : List Str) by decide +kernel) rfl (Or.inl rfl))) (fun _ _ _ _ _ => pts_nil) (fun _ _ _ _ _ => (pe_tup (pa_cons (pv 0) (pa_cons (pe_ix (ix_tupK K) (pv 1) pe_int (fun _ _ => rfl)) pa_nil))))))) pss_nil)
      (pss_one (ps_ret (pe_lst pa_nil))))), ?_⟩
    walk_at "rd0"
    obtain ⟨ax, xs, rfl, ex, hkd⟩ := Stm.parts sv
    walk_at "rd"
    refine rd_ixT (SqT.of ex) (atI_zero _ _) ?_
    walk_at "rd"
    refine ⟨(by show 2 ≤ sizeLine; decide), fun p1 hp1 => ?_⟩
    walk_at "rd"
    refine rd_inS (.inl (SqL.of upd_same)) rfl rfl ?_
    walk_at "rd"
    rw [joinB]
    have S1 : Same H (upd H p1 (.lst [.str "and", .str "or"])) := by walk_at "sm"
    generalize upd H p1 (.lst [.str "and", .str "or"]) = H1 at S1 ⊢
    have ex1 := S1 _ _ ex
    cases hjoin : Say.join s with
    | true =>
      refine iteT ?_
      have hleaf : Say.leaf s = false := by cases s <;> first | rfl | cases hjoin
      obtain ⟨t1, t2, ek⟩ : ∃ t1 t2, s.kids = [t1, t2] := by cases s <;> first | exact ⟨_, _, rfl⟩ | cases hjoin
      have hks := hkd hleaf
      rw [ek] at hks
      cases hks with
      | @cons x _ _ _ sx hks =>
      cases hks with
      | @cons y _ _ _ sy hks =>
      cases hks
      walk_at "rd"
      refine ⟨(by show 2 ≤ sizeLine; decide), fun p2 hp2 => ?_⟩
      walk_at "rd"
      refine ⟨(by show 2 ≤ sizeLine; decide), fun p3 hp3 => ?_⟩
      walk_at "rd"
      refine ⟨(by show 2 ≤ sizeLine; decide), fun p4 hp4 => ?_⟩
      have S4 : Same H1 (upd (upd (upd H1 p2 (.tup [.int j, x])) p3 (.tup [.int j, y])) p4 (.lst [.ref p2, .ref p3])) := by walk_at "sm"
      refine q p4 _ _ (S1.trans S4) ((S1.trans ((Same.new (o := .tup [.int j, x]) (Same.refl _) hp2).new (o := .tup [.int j, y]) hp3)).free hp4) upd_same ?_
      rw [join_moves hjoin, ek]
      have T4 := (S1.trans S4).tupK
      exact .cons ⟨p2, x, rfl, keepN hp4 (keepN hp3 upd_same), sx.mono T4⟩ (.cons ⟨p3, y, rfl, keepN hp4 upd_same, sy.mono T4⟩ .nil)
    | false =>
      refine iteF ?_
      walk_at "rd"
      refine rd_ixT (SqT.of ex1) (atI_zero _ _) ?_
      walk_at "rd"
      refine ⟨(by show 2 ≤ sizeLine; decide), fun p2 hp2 => ?_⟩
      walk_at "rd"
      refine rd_inS (.inl (SqL.of upd_same)) rfl rfl ?_
      walk_at "rd"
      have S2 : Same H (upd H1 p2 (.lst [.str "every", .str "some"])) := S1.new hp2
      generalize upd H1 p2 (.lst [.str "every", .str "some"]) = H2 at S2 ⊢
      rw [doorB]
      cases hleaf : Say.leaf s with
      | true =>
        have hd : Say.isDoor s = false := by cases s <;> first | rfl | cases hleaf
        rw [hd]
        refine iteF ?_
        walk_at "rd"
        refine ⟨(by show 0 ≤ sizeLine; decide), fun p hp => ?_⟩
        exact q p [] _ (S2.new hp) (S2.free hp) upd_same (by rw [leaf_moves hleaf]; exact .nil)
      | false =>
        have hnn := good_noneg hg
        have hd : Say.isDoor s = true := by
          cases s <;> first | rfl | (cases hleaf; done) | (cases hjoin; done) | exact absurd rfl (hnn _)
        rw [hd]
        refine iteT ?_
        obtain ⟨t, ek, em⟩ := door_kid hleaf hjoin hnn
        have hks := hkd hleaf
        rw [ek] at hks
        cases hks with
        | @cons x _ _ _ sx hn =>
        cases hn
        obtain ⟨rs, rx, l, d, r, h1, h2, h3, h4, h5, h6, h7, h8⟩ := (hR.lt S2.lt).at
        have hnl : (nts r.doors).length = r.doors.length := List.length_map _
        walk_at "rd"
        refine rd_ixL (SqL.of h1) (atI_nat h2) ?_
        walk_at "rd"
        refine comp_list (SqL.of h5) (by omega) fun Dz hDz => ⟨fun i y H => ∃ d', r.doors[i]? = some d' ∧ PlAt H y (d', t), fun i y H H' ⟨t, e, z⟩ _ T => ⟨t, e, z.mono T⟩, fun i x H3 ys C hx S3 hd hC => ?_, fun ys H3 S3 hD3 hl3 hR3 => ?_⟩
        · obtain ⟨d', hd', rfl⟩ := nts_get hx
          walk_at "rd"
          refine rd_ixT (SqT.of (S3 _ _ (S2 _ _ ex))) (atI_nat (j := 1) rfl) ?_
          walk_at "rd"
          refine ⟨(by show 2 ≤ sizeLine; decide), fun p3 hp3 => ?_⟩
          exact hC _ _ (by walk_at "sm") ⟨d', hd', p3, _, rfl, upd_same, ((sx.mono S2.tupK).mono S3.tupK).mono (by walk_at "tk")⟩
        · refine q Dz ys H3 (S2.trans S3) (S2.free hDz) hD3 ?_
          rw [em, h7]
          refine Paired.of_get (by rw [List.length_map]; omega) fun i y m e1 e2 => ?_
          obtain ⟨d', e3, z⟩ := hR3 i y e1
          rw [List.getElem?_map, e3] at e2
          cases e2
          exact z
end
end My
set_option Elab.async false
set_option linter.all false
set_option maxRecDepth 100000
set_option maxHeartbeats 4000000
namespace My
open PySem L2
seal PE PT PW PA PS PSs PC PG PGs PI PO PPs PTs
local macro_rules | `(tactic| walk_at "ne") => `(tactic| first | assumption | exact Ne.symm (by assumption))
local macro_rules | `(tactic| walk_at "hp") => `(tactic| first | assumption | (with_reducible exact upd_same) | (with_reducible apply keepN; assumption; walk_at "hp") | (with_reducible apply keepL; walk_at "ne"; walk_at "hp"))
local macro_rules | `(tactic| walk_at "sm") => `(tactic| first | assumption | (with_reducible exact Same.refl _) | (with_reducible refine Same.new ?_ (by assumption); walk_at "sm") | (with_reducible refine Same.set ?_ (by assumption); walk_at "sm"))
local macro_rules | `(tactic| walk_at "tk") => `(tactic| first | assumption | (with_reducible exact TupK.refl _) | (with_reducible refine TupK.new ?_ (by assumption); walk_at "tk") | (with_reducible refine TupK.lst ?_ (by walk_at "hp"); walk_at "tk") | (with_reducible refine TupK.dK ?_ (by walk_at "hp"); walk_at "tk") | (with_reducible refine Same.tupK ?_; walk_at "sm"))
local macro_rules | `(tactic| walk_at "sl") => `(tactic| first | assumption | (with_reducible apply SqL.of; walk_at "hp") | (with_reducible apply sameSeq; assumption; walk_at "sm"))
local macro_rules | `(tactic| walk_at "st") => `(tactic| first | assumption | (with_reducible apply SqT.of; walk_at "hp"))
local macro_rules | `(tactic| walk_at "cd") => `(tactic| first | (show (0 : Int) < _; first | decide | assumption | omega) | exact ⟨by decide, by decide⟩ | exact ⟨by decide, by decide, by decide⟩ | exact Or.inl ⟨by decide, by decide⟩ | exact Or.inr ⟨by decide, by decide⟩ | exact Or.inl ⟨by omega, by omega⟩ | exact Or.inr ⟨by omega, by omega⟩ | exact ⟨by omega, by omega⟩)
local macro_rules | `(tactic| walk_at "rd1") => `(tactic| with_reducible first
  | (apply rd_var; with_unfolding_all rfl) | apply rd_op | apply rd_C | apply rd_seq | apply rd_asg | apply rd_name | apply rd_cons | apply rd_nil | apply rd_I0 | apply rd_test | apply rd_bl | apply rd_tB
  | (apply rd_ixT; (walk_at "st"); (with_unfolding_all rfl)) | apply rd_slice | apply rd_noPart | apply rd_part | apply rd_int | apply rd_CB | apply rd_if | apply rd_call | apply rd_ret | apply rd_drop | apply rd_tup | apply rd_lst | apply rd_bm | apply rd_bm0 | (apply rd_ty; (walk_at "hp"))
  | (apply rd_I; (with_unfolding_all walk_at "cd")) | (apply rd_eq; (with_unfolding_all rfl)) | (apply rd_ne; (with_unfolding_all rfl)) | apply rd_and | apply rd_or | apply rd_not | apply rd_andV | apply rd_orV | apply rd_notV | apply rd_ifE
  | (apply rd_lenL; (walk_at "sl")) | (apply rd_lenT; (walk_at "st")) | apply rd_dnew | apply rd_dput | apply rd_din | apply rd_next | apply rd_forL | apply rd_forV | apply rd_compL | apply rd_compZ | apply rd_compT | apply rd_compR | apply rd_kget | apply rd_dget | apply rd_listRev | apply rd_chain | apply rd_ints | apply rd_un | apply rd_U | apply rd_kin | apply rd_forZT | apply rd_pcons | apply rd_pnil | (apply rd_gtup; (walk_at "st"); (with_unfolding_all rfl)) | apply rd_gcons | apply rd_gnil | apply rd_fldC | apply rd_sfldC | apply rd_meth | apply rd_make | apply rd_compE | apply rd_tryset | apply rd_tryas | apply rd_raise | apply rd_forR3 | apply rd_forR2 | apply rd_forR1 | (apply rd_itL; (walk_at "sl")) | (apply rd_neN; (walk_at "sl"); (walk_at "sl")) | (apply rd_eqN; (walk_at "sl"); (walk_at "sl")))
local macro_rules | `(tactic| walk_at "rd") => `(tactic| repeat walk_at "rd1")
local macro_rules | `(tactic| walk_at "rd0") => `(tactic| try dsimp only [cxOf, Cx.nox, Cx.wish])
section
variable {P : Program} {w : World} {K : PySem.W.Frag} {mg : Str → Option Value} {base : Heap} {f : Addr} {fd : FuncData}
theorem ok_refused {T C S : Addr} (D : DefIn K mg "_law_refused_by_any" s__law_refused_by_any ["_law_world", "_law_room", "_law_statement"] f fd) (B : Blt mg) (m_VE : mg "ValueError" = none) (k_VE : PySem.W.kitCls K (.ref C) (.type "ValueError") = some true) (m_SayError : mg "SayError" = some (.ref S)) (x_SayError : PySem.W.exmOne K (.ref C) (.ref S) = some true)
    (h_best_move : HasX P w K mg base C "best_move" 9 ["world", "room", "statement"] (spBestX T C lp_truths)) : Has P w K mg base "_law_refused_by_any" 10 ["_law_world", "_law_room", "_law_statement"] (spRefused T lp_truths) := by
  have nd := sc__law_refused_by_any.nd
  refine D.has (D.fn.ok sc__law_refused_by_any (fun vs H Q E h => ?_) (fun cdv A outer s H vs Q E hr h => ?_))
  · obtain ⟨a, j, v, W, s, rfl, _⟩ := h
    rfl
  · obtain ⟨a, j, v, W, s, rfl, hR, sv, hsz, hg, tab, q⟩ := h
    refine ⟨_, (pss_cons (ps_tryas rfl rfl h_best_move hr (fun _ _ => (pa_cons (pv 0) (pa_cons (pv 1) (pa_cons (pv 2) pa_nil)))) (fun _ _ _ hcls => (pss_one (ps_ret (pe_callB (call_instX hcls k_VE) rfl B.isinstance PyProof.Rows.boot_isinstance (pa_cons (pv 3) (pa_cons (pe_bltn (v := .ty "ValueError") rfl m_VE boot_VE rfl) pa_nil)))))) nd (i := 3) rfl rfl m_SayError x_SayError)
      (pss_one (ps_ret pe_bl))), ?_⟩
    walk_at "rd0"
    walk_at "rd"
    refine ⟨a, j, v, W, s, rfl, hR, sv, hsz, hg, tab, fun hne H1 S1 tab1 => ?_, fun he H1 S1 tab1 x => ?_⟩
    · walk_at "rd"
      have := q H1 S1 tab1
      rw [show (movesS W j s).isEmpty = false from by cases h : movesS W j s with | nil => exact absurd h hne | cons _ _ => rfl] at this
      exact this
    · walk_at "rd"
      refine ⟨rfl, ?_⟩
      have := q H1 S1 tab1
      rw [he] at this
      exact this
end
end My
set_option Elab.async false
set_option linter.all false
set_option maxRecDepth 100000
set_option maxHeartbeats 4000000
namespace My
open PySem L2
seal PE PT PW PA PS PSs PC PG PGs PI PO PPs PTs
local macro_rules | `(tactic| walk_at "ne") => `(tactic| first | assumption | exact Ne.symm (by assumption))
local macro_rules | `(tactic| walk_at "hp") => `(tactic| first | assumption | (with_reducible exact upd_same) | (with_reducible apply keepN; assumption; walk_at "hp") | (with_reducible apply keepL; walk_at "ne"; walk_at "hp"))
local macro_rules | `(tactic| walk_at "sm") => `(tactic| first | assumption | (with_reducible exact Same.refl _) | (with_reducible refine Same.new ?_ (by assumption); walk_at "sm") | (with_reducible refine Same.set ?_ (by assumption); walk_at "sm"))
local macro_rules | `(tactic| walk_at "tk") => `(tactic| first | assumption | (with_reducible exact TupK.refl _) | (with_reducible refine TupK.new ?_ (by assumption); walk_at "tk") | (with_reducible refine TupK.lst ?_ (by walk_at "hp"); walk_at "tk") | (with_reducible refine TupK.dK ?_ (by walk_at "hp"); walk_at "tk") | (with_reducible refine Same.tupK ?_; walk_at "sm"))
local macro_rules | `(tactic| walk_at "sl") => `(tactic| first | assumption | (with_reducible apply SqL.of; walk_at "hp") | (with_reducible apply sameSeq; assumption; walk_at "sm"))
local macro_rules | `(tactic| walk_at "st") => `(tactic| first | assumption | (with_reducible apply SqT.of; walk_at "hp"))
local macro_rules | `(tactic| walk_at "cd") => `(tactic| first | (show (0 : Int) < _; first | decide | assumption | omega) | exact ⟨by decide, by decide⟩ | exact ⟨by decide, by decide, by decide⟩ | exact Or.inl ⟨by decide, by decide⟩ | exact Or.inr ⟨by decide, by decide⟩ | exact Or.inl ⟨by omega, by omega⟩ | exact Or.inr ⟨by omega, by omega⟩ | exact ⟨by omega, by omega⟩)
local macro_rules | `(tactic| walk_at "rd1") => `(tactic| with_reducible first
  | (apply rd_var; with_unfolding_all rfl) | apply rd_op | apply rd_C | apply rd_seq | apply rd_asg | apply rd_name | apply rd_cons | apply rd_nil | apply rd_I0 | apply rd_test | apply rd_bl | apply rd_tB
  | (apply rd_ixT; (walk_at "st"); (with_unfolding_all rfl)) | apply rd_slice | apply rd_noPart | apply rd_part | apply rd_int | apply rd_CB | apply rd_if | apply rd_call | apply rd_ret | apply rd_drop | apply rd_tup | apply rd_lst | apply rd_bm | apply rd_bm0 | (apply rd_ty; (walk_at "hp"))
  | (apply rd_I; (with_unfolding_all walk_at "cd")) | (apply rd_eq; (with_unfolding_all rfl)) | (apply rd_ne; (with_unfolding_all rfl)) | apply rd_and | apply rd_or | apply rd_not | apply rd_andV | apply rd_orV | apply rd_notV | apply rd_ifE
  | (apply rd_lenL; (walk_at "sl")) | (apply rd_lenT; (walk_at "st")) | apply rd_dnew | apply rd_dput | apply rd_din | apply rd_next | apply rd_forL | apply rd_forV | apply rd_compL | apply rd_compZ | apply rd_compT | apply rd_compR | apply rd_kget | apply rd_dget | apply rd_listRev | apply rd_chain | apply rd_ints | apply rd_un | apply rd_U | apply rd_kin | apply rd_forZT | apply rd_pcons | apply rd_pnil | (apply rd_gtup; (walk_at "st"); (with_unfolding_all rfl)) | apply rd_gcons | apply rd_gnil | apply rd_fldC | apply rd_sfldC | apply rd_meth | apply rd_make | apply rd_compE | apply rd_tryset | apply rd_tryas | apply rd_raise | apply rd_forR3 | apply rd_forR2 | apply rd_forR1 | (apply rd_itL; (walk_at "sl")) | (apply rd_neN; (walk_at "sl"); (walk_at "sl")) | (apply rd_eqN; (walk_at "sl"); (walk_at "sl")))
local macro_rules | `(tactic| walk_at "rd") => `(tactic| repeat walk_at "rd1")
local macro_rules | `(tactic| walk_at "rd0") => `(tactic| try dsimp only [cxOf, Cx.nox, Cx.wish])
section
variable {P : Program} {w : World} {K : PySem.W.Frag} {mg : Str → Option Value} {base : Heap} {f : Addr} {fd : FuncData}
theorem ok_behind_parts (D : DefIn K mg "_law_behind_parts" s__law_behind_parts ["_law_statement"] f fd) (B : Blt mg) : Has P w K mg base "_law_behind_parts" 1 ["_law_statement"] spParts := by
  have nd := sc__law_behind_parts.nd
  refine D.has (D.fn.ok sc__law_behind_parts (fun vs H Q E h => ?_) (fun cdv A outer s H vs Q E hr h => ?_))
  · obtain ⟨v, s, rfl, _⟩ := h
    rfl
  · obtain ⟨v, s, rfl, st, hz, q⟩ := h
    have hu0 := hu0_of hr
    have hpz := (Say.po_len s).1
    refine ⟨_, (pss_cons (ps_set (i := 1) nd rfl (Or.inl rfl) (pe_lst pa_nil))
      (pss_cons (ps_set (i := 2) nd rfl (Or.inl rfl) (pe_lst (pa_cons (pv 0) pa_nil)))
      (pss_cons (ps_while PassesOwn.never (pt_cmpR (op_neNK K hu0) (pv 2) (pe_lst pa_nil) (nomark _)) (pss_cons (ps_set (i := 3) nd rfl (Or.inl rfl) (pe_bm0K K PySem.F.plainAttrs_list PySem.F.slot_list_pop PySem.F.type_list_pop mt_pop (pv 2)))
        (pss_cons (ps_expr (pe_bmK K PySem.F.plainAttrs_list PySem.F.slot_list_append PySem.F.type_list_append mt_append (pv 1) (pa_cons (pv 3) pa_nil)))
        (pss_one (ps_if (pt_cmpR (op_notInK K) (pe_ix (ix_tupK K) (pv 3) pe_int (fun _ _ => rfl)) (pe_lst (pa_cons pe_str (pa_cons pe_str pa_nil))) (by with_unfolding_all rfl)) (pss_one (ps_expr (pe_bmK K PySem.F.plainAttrs_list PySem.F.slot_list_extend PySem.F.type_list_extend mt_extendS (pv 2) (pa_cons (pe_callTy (call_listK K) rfl B.list_ PySem.Pv.boot_list (pa_cons (pe_slice (sl_tupK K) (pv 3) (po_some pe_int) po_none) pa_nil)) pa_nil)))) pss_nil)))))
      (pss_one (ps_ret (pe_listRev K rfl B.list_ rfl B.reversed (pa_cons (pv 1) pa_nil))))))), ?_⟩
    walk_at "rd0"
    walk_at "rd"
    refine ⟨(by show 0 ≤ sizeLine; decide), fun p hp => ?_⟩
    walk_at "rd"
    refine ⟨(by show 1 ≤ sizeLine; decide), fun wt hwt => ?_⟩
    have nwp : wt ≠ p := (none_upd hwt).2
    have wt0 : H wt = none := (none_upd hwt).1
    walk_at "rd"
    refine ⟨fun m σ H1 => ∃ (Pv Wv : List V) (Ps Ws : List Say) (o3 : Option V), σ = [some v, some (.ref p), some (.ref wt), o3] ∧ Same H H1 ∧ H1 p = some (.lst Pv) ∧ H1 wt = some (.lst Wv) ∧ Stms H1 Pv Ps ∧ Stms H1 Wv Ws ∧ Ps ++ Ws.reverse.flatMap Say.po = s.po ∧ m = pl Ws,
      ⟨_, [], [v], [], [s], none, rfl, by walk_at "sm", by walk_at "hp", upd_same, .nil, .cons (st.mono (by walk_at "tk")) .nil, by simp, rfl⟩, ?_⟩
    rintro m σ H1 ⟨Pv, Wv, Ps, Ws, o3, rfl, S1, hP, hW, sP, sW, he, rfl⟩
    have hlen : Ps.length + pl Ws = s.po.length := by rw [← he, List.length_append, pl_flat]
    walk_at "rd"
    refine ⟨(by show 0 ≤ sizeLine; decide), fun e1 he1 => ?_⟩
    walk_at "rd"
    have SN : Same H1 (upd H1 e1 (.lst [])) := by walk_at "sm"
    generalize upd H1 e1 (.lst []) = H2 at SN ⊢
    have S2 := S1.trans SN
    have hP2 := SN _ _ hP
    have hW2 := SN _ _ hW
    have sP2 := sP.mono SN.tupK
    have sW2 := sW.mono SN.tupK
    have lP := Paired.length sP2
    have lW := Paired.length sW2
    have hwl := pl_len Ws
    rcases snoc_cases Wv with rfl | ⟨W0, x, rfl⟩
    · cases sW
      refine iteF ?_
      walk_at "rd"
      have he' : Ps = s.po := by simpa using he
      refine ⟨p, Pv, rfl, SqL.of hP2, fun r hr' => ?_⟩
      refine q r Pv.reverse _ (S2.new hr') ?_ upd_same ?_
      · cases hh : H r with
        | none => rfl
        | some o => rw [S2 _ _ hh] at hr'; cases hr'
      · exact Paired.rev (he' ▸ sP2.mono (by walk_at "tk"))
    · have en : (!(W0 ++ [x]).isEmpty) = true := by cases W0 <;> rfl
      rw [en]
      refine iteT ?_
      refine ⟨fun σ' H' => ∃ m', m' < pl Ws ∧ ∃ (Pv Wv : List V) (Ps Ws : List Say) (o3 : Option V), σ' = [some v, some (.ref p), some (.ref wt), o3] ∧ Same H H' ∧ H' p = some (.lst Pv) ∧ H' wt = some (.lst Wv) ∧ Stms H' Pv Ps ∧ Stms H' Wv Ws ∧ Ps ++ Ws.reverse.flatMap Say.po = s.po ∧ m' = pl Ws, fun _ _ h => h, ?_⟩
      obtain ⟨Ws0, t, rfl, sW0, sx⟩ := snoc_inv sW2
      have e5 := pl_app Ws0 [t]
      have e6 : pl [t] = t.po.length := by simp [pl]
      have e4 := pl_kids t
      have lW0 := Paired.length sW0
      have hW0l := pl_len Ws0
      walk_at "rd"
      refine rd_pop hW2 ?_
      walk_at "rd"
      refine rd_append (keepL nwp.symm hP2) (smallLt (by omega)) ?_
      have T3 : TupK H2 (upd (upd H2 wt (.lst W0)) p (.lst (Pv ++ [x]))) := TupK.lst (TupK.lst (TupK.refl _) hW2) (keepL nwp.symm hP2)
      have S3 : Same H (upd (upd H2 wt (.lst W0)) p (.lst (Pv ++ [x]))) := (S2.set wt0).set hp
      have hW3 : (upd (upd H2 wt (.lst W0)) p (.lst (Pv ++ [x]))) wt = some (.lst W0) := keepL nwp upd_same
      have hP3 : (upd (upd H2 wt (.lst W0)) p (.lst (Pv ++ [x]))) p = some (.lst (Pv ++ [x])) := upd_same
      have sP3 : Stms (upd (upd H2 wt (.lst W0)) p (.lst (Pv ++ [x]))) (Pv ++ [x]) (Ps ++ [t]) := Paired.snoc (sP2.mono T3) (sx.mono T3)
      have sW3 := Stms.mono sW0 T3
      have sx3 := sx.mono T3
      generalize upd (upd H2 wt (.lst W0)) p (.lst (Pv ++ [x])) = H3 at S3 hW3 hP3 sP3 sW3 sx3 ⊢
      obtain ⟨ax, xs, rfl, ex, hkd⟩ := Stm.parts sx3
      walk_at "rd"
      refine rd_ixT (SqT.of ex) (atI_zero _ _) ?_
      walk_at "rd"
      refine ⟨(by show 2 ≤ sizeLine; decide), fun p4 hp4 => ?_⟩
      walk_at "rd"
      refine rd_notInS (.inl (SqL.of upd_same)) rfl rfl ?_
      walk_at "rd"
      rw [leafB]
      have S34 : Same H3 (upd H3 p4 (.lst [.str "lamp", .str "dark"])) := by walk_at "sm"
      generalize upd H3 p4 (.lst [.str "lamp", .str "dark"]) = H4 at S34 ⊢
      have hW4 := S34 _ _ hW3
      have hP4 := S34 _ _ hP3
      cases hl : Say.leaf t with
      | true =>
        refine iteF ?_
        walk_at "rd"
        refine ⟨pl Ws0, by omega, Pv ++ [.ref ax], W0, Ps ++ [t], Ws0, _, rfl, S3.trans S34, hP4, hW4, sP3.mono S34.tupK, sW3.mono S34.tupK, ?_, rfl⟩
        rw [← he]
        have hk0 := leaf_kids hl
        simp only [List.reverse_append, List.reverse_singleton, List.flatMap_append, List.flatMap_singleton, List.append_assoc]
        rw [Say.po_eq t, hk0]
        rfl
      | false =>
        refine iteT ?_
        have ex4 := S34 _ _ ex
        have sks := (hkd hl).mono S34.tupK
        have lks := Paired.length sks
        have hkl := pl_len t.kids
        walk_at "rd"
        refine rd_slT1 (SqT.of ex4) fun p5 hp5 => ?_
        walk_at "rd"
        refine rd_listT (SqT.of upd_same) fun p6 hp6 => ?_
        walk_at "rd"
        refine rd_extS (keepN hp6 (keepN hp5 hW4)) (.inl upd_same) (small (by omega)) ?_
        have T7 : TupK H4 (upd (upd (upd H4 p5 (.tup xs)) p6 (.lst xs)) wt (.lst (W0 ++ xs))) := TupK.lst (by walk_at "tk") (keepN hp6 (keepN hp5 hW4))
        refine ⟨pl (Ws0 ++ t.kids), ?_, Pv ++ [.ref ax], W0 ++ xs, Ps ++ [t], Ws0 ++ t.kids, _, rfl, (((S3.trans S34).new hp5).new hp6).set wt0, keepL nwp.symm (keepN hp6 (keepN hp5 hP4)), upd_same, (sP3.mono S34.tupK).mono T7, Paired.app ((sW3.mono S34.tupK).mono T7) (sks.mono T7), ?_, rfl⟩
        · rw [pl_app]; omega
        · rw [← he]
          simp only [List.reverse_append, List.reverse_singleton, List.flatMap_append, List.flatMap_singleton, List.append_assoc]
          rw [Say.po_eq t]
          rfl
theorem ok_same (D : DefIn K mg "_law_the_same" s__law_the_same ["_law_found", "_law_due"] f fd) (B : Blt mg) (h__law_whole : Has P w K mg base "_law_whole" 1 ["_law_found"] spWhole) : Has P w K mg base "_law_the_same" 2 ["_law_found", "_law_due"] spSame := by
  have nd := sc__law_the_same.nd
  refine D.has (D.fn.ok sc__law_the_same (fun vs H Q E h => ?_) (fun cdv A outer s H vs Q E hr h => ?_))
  · obtain ⟨x, y, n, rfl, _⟩ := h
    rfl
  · obtain ⟨x, y, n, rfl, al, hn, q⟩ := h
    have hu0 := hu0_of hr
    refine ⟨_, (pss_cons (ps_set (i := 2) nd rfl (Or.inl rfl) (pe_lst (pa_cons (pv 0) pa_nil)))
      (pss_cons (ps_set (i := 3) nd rfl (Or.inl rfl) (pe_lst (pa_cons (pv 1) pa_nil)))
      (pss_cons (ps_while PassesOwn.never (pt_cmpR (op_neNK K hu0) (pv 3) (pe_lst pa_nil) (nomark _)) (pss_cons (ps_set (i := 4) nd rfl (Or.inl rfl) (pe_bm0K K PySem.F.plainAttrs_list PySem.F.slot_list_pop PySem.F.type_list_pop mt_pop (pv 2)))
        (pss_cons (ps_set (i := 5) nd rfl (Or.inl rfl) (pe_bm0K K PySem.F.plainAttrs_list PySem.F.slot_list_pop PySem.F.type_list_pop mt_pop (pv 3)))
        (pss_one (ps_if (pt_val (pe_callB (call_instTK K) rfl B.isinstance PyProof.Rows.boot_isinstance (pa_cons (pv 5) (pa_cons (pe_tup (pa_cons (pe_bltn (v := .ty "list") rfl B.list_ PySem.Pv.boot_list rfl) (pa_cons (pe_bltn (v := .ty "tuple") rfl B.tuple_ PySem.Pv.boot_tuple rfl) pa_nil))) pa_nil)))) (pss_cons (ps_if (pt_cmpR op_ne (pe_callB (call_instK K) rfl B.isinstance PyProof.Rows.boot_isinstance (pa_cons (pv 4) (pa_cons (pe_bltn (v := .ty "list") rfl B.list_ PySem.Pv.boot_list rfl) pa_nil))) (pe_callB (call_instK K) rfl B.isinstance PyProof.Rows.boot_isinstance (pa_cons (pv 5) (pa_cons (pe_bltn (v := .ty "list") rfl B.list_ PySem.Pv.boot_list rfl) pa_nil))) (nomark _)) (pss_one (ps_ret pe_bl)) pss_nil)
          (pss_cons (ps_if (PW.pt (pw_or (pt_cmpR op_ne (pe_callB (call_instK K) rfl B.isinstance PyProof.Rows.boot_isinstance (pa_cons (pv 4) (pa_cons (pe_bltn (v := .ty "tuple") rfl B.tuple_ PySem.Pv.boot_tuple rfl) pa_nil))) (pe_callB (call_instK K) rfl B.isinstance PyProof.Rows.boot_isinstance (pa_cons (pv 5) (pa_cons (pe_bltn (v := .ty "tuple") rfl B.tuple_ PySem.Pv.boot_tuple rfl) pa_nil))) (nomark _)) (pw_or1 (pt_cmpR op_ne (pe_callB (call_lenK K) rfl B.len PySem.boot_len (pa_cons (pv 4) pa_nil)) (pe_callB (call_lenK K) rfl B.len PySem.boot_len (pa_cons (pv 5) pa_nil)) (nomark _))))) (pss_one (ps_ret pe_bl)) pss_nil)
          (pss_cons (ps_expr (pe_bmK K PySem.F.plainAttrs_list PySem.F.slot_list_extend PySem.F.type_list_extend mt_extendS (pv 2) (pa_cons (pv 4) pa_nil)))
          (pss_one (ps_expr (pe_bmK K PySem.F.plainAttrs_list PySem.F.slot_list_extend PySem.F.type_list_extend mt_extendS (pv 3) (pa_cons (pv 5) pa_nil))))))) (pss_one (ps_if (pt_val (pe_callB (call_instK K) rfl B.isinstance PyProof.Rows.boot_isinstance (pa_cons (pv 5) (pa_cons (pe_bltn (v := .ty "bool") rfl B.bool_ PySem.Pv.boot_bool rfl) pa_nil)))) (pss_one (ps_if (PW.pt (pw_or (pt_not (pt_val (pe_callB (call_instK K) rfl B.isinstance PyProof.Rows.boot_isinstance (pa_cons (pv 4) (pa_cons (pe_bltn (v := .ty "bool") rfl B.bool_ PySem.Pv.boot_bool rfl) pa_nil))))) (pw_or1 (pt_cmpR op_ne (pv 4) (pv 5) (nomark _))))) (pss_one (ps_ret pe_bl)) pss_nil)) (pss_one (ps_if (pt_val (pe_callB (call_instK K) rfl B.isinstance PyProof.Rows.boot_isinstance (pa_cons (pv 5) (pa_cons (pe_bltn (v := .ty "str") rfl B.str_ PySem.Pv.boot_str rfl) pa_nil)))) (pss_one (ps_if (PW.pt (pw_or (pt_not (pt_val (pe_callB (call_instK K) rfl B.isinstance PyProof.Rows.boot_isinstance (pa_cons (pv 4) (pa_cons (pe_bltn (v := .ty "str") rfl B.str_ PySem.Pv.boot_str rfl) pa_nil))))) (pw_or1 (pt_cmpR op_ne (pv 4) (pv 5) (nomark _))))) (pss_one (ps_ret pe_bl)) pss_nil)) (pss_one (ps_if (PW.pt (pw_or (pt_not (pt_val (pe_callH h__law_whole hr (pa_cons (pv 4) pa_nil)))) (pw_or1 (pt_cmpR op_ne (pv 4) (pv 5) (nomark _))))) (pss_one (ps_ret pe_bl)) pss_nil)))))))))))
      (pss_one (ps_ret pe_bl))))), ?_⟩
    walk_at "rd0"
    walk_at "rd"
    refine ⟨(by show 1 ≤ sizeLine; decide), fun l hl => ?_⟩
    walk_at "rd"
    refine ⟨(by show 1 ≤ sizeLine; decide), fun r hr' => ?_⟩
    have nlr : l ≠ r := ne_of_none upd_same hr'
    have hl0 : H l = none := hl
    have hr0 : H r = none := by rw [upd_ne nlr.symm] at hr'; exact hr'
    walk_at "rd"
    refine ⟨fun m σ H1 => ∃ (L R : List V) (o4 o5 : Option V), σ = [some x, some y, some (.ref l), some (.ref r), o4, o5] ∧ Same H H1 ∧ H1 l = some (.lst L) ∧ H1 r = some (.lst R) ∧ Als H m L R ∧ m ≤ 400000,
      ⟨n, [x], [y], none, none, rfl, by walk_at "sm", by walk_at "hp", upd_same, al, hn⟩, ?_⟩
    rintro m σ H1 ⟨L, R, o4, o5, rfl, S1, hL, hR, al1, hm⟩
    walk_at "rd"
    refine ⟨(by show 0 ≤ sizeLine; decide), fun e he => ?_⟩
    walk_at "rd"
    have S2 : Same H (upd H1 e (.lst [])) := by walk_at "sm"
    have hL2 : (upd H1 e (.lst [])) l = some (.lst L) := by walk_at "hp"
    have hR2 : (upd H1 e (.lst [])) r = some (.lst R) := by walk_at "hp"
    generalize upd H1 e (.lst []) = H2 at S2 hL2 hR2 ⊢
    rcases al1.snoc with ⟨rfl, rfl, rfl⟩ | ⟨L0, R0, x1, y1, n0, k, rfl, rfl, al0, alx, rfl⟩
    · refine iteF ?_
      walk_at "rd"
      exact q _ S2
    have e1 : (!(R0 ++ [y1]).isEmpty) = true := by cases R0 <;> rfl
    rw [e1]
    refine iteT ⟨fun σ' H' => ∃ m', m' < n0 + k ∧ ∃ (L R : List V) (o4 o5 : Option V), σ' = [some x, some y, some (.ref l), some (.ref r), o4, o5] ∧ Same H H' ∧ H' l = some (.lst L) ∧ H' r = some (.lst R) ∧ Als H m' L R ∧ m' ≤ 400000, fun _ _ h => h, ?_⟩
    walk_at "rd"
    refine rd_pop hL2 ?_
    walk_at "rd"
    refine rd_pop (by walk_at "hp") ?_
    have S3 : Same H (upd (upd H2 l (.lst L0)) r (.lst R0)) := by walk_at "sm"
    have hL3 : (upd (upd H2 l (.lst L0)) r (.lst R0)) l = some (.lst L0) := by walk_at "hp"
    have hR3 : (upd (upd H2 l (.lst L0)) r (.lst R0)) r = some (.lst R0) := by walk_at "hp"
    generalize upd (upd H2 l (.lst L0)) r (.lst R0) = H3 at S3 hL3 hR3 ⊢
    walk_at "rd"
    refine ⟨(by show 2 ≤ sizeLine; decide), fun t ht => ?_⟩
    walk_at "rd"
    have S4 : Same H (upd H3 t (.tup [.ty "list", .ty "tuple"])) := by walk_at "sm"
    have hL4 : (upd H3 t (.tup [.ty "list", .ty "tuple"])) l = some (.lst L0) := by walk_at "hp"
    have hR4 : (upd H3 t (.tup [.ty "list", .ty "tuple"])) r = some (.lst R0) := by walk_at "hp"
    have hT4 : (upd H3 t (.tup [.ty "list", .ty "tuple"])) t = some (.tup [.ty "list", .ty "tuple"]) := upd_same
    generalize upd H3 t (.tup [.ty "list", .ty "tuple"]) = H4 at S4 hL4 hR4 hT4 ⊢
    have hz := al0.len
    cases alx with
    | bl b t =>
      cases t
      refine rd_instT hT4 (.bl b) kitA_b ?_
      walk_at "rd"
      refine iteF ?_
      walk_at "rd"
      refine rd_inst (.bl b) kit_bb ?_
      walk_at "rd"
      refine iteT ?_
      walk_at "rd"
      refine rd_inst (.bl b) kit_bb ?_
      walk_at "rd"
      refine iteF ?_
      walk_at "rd"
      refine if_nne ?_
      walk_at "rd"
      exact ⟨n0, by omega, L0, R0, _, _, rfl, S4, hL4, hR4, al0, by omega⟩
    | int b t =>
      cases t
      refine rd_instT hT4 (.int b) kitA_i ?_
      walk_at "rd"
      refine iteF ?_
      walk_at "rd"
      refine rd_inst (.int b) kit_ib ?_
      walk_at "rd"
      refine iteF ?_
      walk_at "rd"
      refine rd_inst (.int b) kit_is ?_
      walk_at "rd"
      refine iteF ?_
      walk_at "rd"
      refine ⟨b, rfl, ?_⟩
      walk_at "rd"
      refine iteF ?_
      walk_at "rd"
      refine if_nne ?_
      walk_at "rd"
      exact ⟨n0, by omega, L0, R0, _, _, rfl, S4, hL4, hR4, al0, by omega⟩
    | str b t =>
      cases t
      refine rd_instT hT4 (.str b) kitA_s ?_
      walk_at "rd"
      refine iteF ?_
      walk_at "rd"
      refine rd_inst (.str b) kit_sb ?_
      walk_at "rd"
      refine iteF ?_
      walk_at "rd"
      refine rd_inst (.str b) kit_ss ?_
      walk_at "rd"
      refine iteT ?_
      walk_at "rd"
      refine rd_inst (.str b) kit_ss ?_
      walk_at "rd"
      refine iteF ?_
      walk_at "rd"
      refine if_nne ?_
      walk_at "rd"
      exact ⟨n0, by omega, L0, R0, _, _, rfl, S4, hL4, hR4, al0, by omega⟩
    | @lst _ mm _ _ as bs a b ea eb ab t =>
      cases t
      have ea4 := S4 _ _ ea
      have eb4 := S4 _ _ eb
      have hla := ab.len
      have nal : a ≠ l := ne_of_none ea hl0
      have nar : a ≠ r := ne_of_none ea hr0
      have nbl : b ≠ l := ne_of_none eb hl0
      have nbr : b ≠ r := ne_of_none eb hr0
      refine rd_instT hT4 (.lst eb4) kitA_l ?_
      walk_at "rd"
      refine iteT ?_
      walk_at "rd"
      refine rd_inst (.lst ea4) kit_ll ?_
      walk_at "rd"
      refine rd_inst (.lst eb4) kit_ll ?_
      walk_at "rd"
      refine if_nne ?_
      walk_at "rd"
      refine rd_inst (.lst ea4) kit_lt ?_
      walk_at "rd"
      refine rd_inst (.lst eb4) kit_lt ?_
      walk_at "rd"
      refine if_nne ?_
      walk_at "rd"
      rw [hla.2]
      refine if_nne ?_
      walk_at "rd"
      refine rd_extS hL4 (.inl ea4) (small (by omega)) ?_
      walk_at "rd"
      refine rd_extS (by walk_at "hp") (.inl (by walk_at "hp")) (small (by omega)) ?_
      exact ⟨n0 + mm, by omega, L0 ++ as, R0 ++ bs, _, _, rfl, by walk_at "sm", by walk_at "hp", by walk_at "hp", al0.app ab, by omega⟩
    | @tup _ mm _ _ as bs a b ea eb ab t =>
      cases t
      have ea4 := S4 _ _ ea
      have eb4 := S4 _ _ eb
      have hla := ab.len
      have nal : a ≠ l := ne_of_none ea hl0
      have nar : a ≠ r := ne_of_none ea hr0
      have nbl : b ≠ l := ne_of_none eb hl0
      have nbr : b ≠ r := ne_of_none eb hr0
      refine rd_instT hT4 (.tup eb4) kitA_t ?_
      walk_at "rd"
      refine iteT ?_
      walk_at "rd"
      refine rd_inst (.tup ea4) kit_tl ?_
      walk_at "rd"
      refine rd_inst (.tup eb4) kit_tl ?_
      walk_at "rd"
      refine if_nne ?_
      walk_at "rd"
      refine rd_inst (.tup ea4) kit_tt ?_
      walk_at "rd"
      refine rd_inst (.tup eb4) kit_tt ?_
      walk_at "rd"
      refine if_nne ?_
      walk_at "rd"
      rw [hla.2]
      refine if_nne ?_
      walk_at "rd"
      refine rd_extS hL4 (.inr ea4) (small (by omega)) ?_
      walk_at "rd"
      refine rd_extS (by walk_at "hp") (.inr (by walk_at "hp")) (small (by omega)) ?_
      exact ⟨n0 + mm, by omega, L0 ++ as, R0 ++ bs, _, _, rfl, by walk_at "sm", by walk_at "hp", by walk_at "hp", al0.app ab, by omega⟩
end
end My
set_option Elab.async false
set_option linter.all false
set_option maxRecDepth 100000
set_option maxHeartbeats 4000000
namespace My
open PySem L2
seal PE PT PW PA PS PSs PC PG PGs PI PO PPs PTs
local macro_rules | `(tactic| walk_at "ne") => `(tactic| first | assumption | exact Ne.symm (by assumption))
local macro_rules | `(tactic| walk_at "hp") => `(tactic| first | assumption | (with_reducible exact upd_same) | (with_reducible apply keepN; assumption; walk_at "hp") | (with_reducible apply keepL; walk_at "ne"; walk_at "hp"))
local macro_rules | `(tactic| walk_at "sm") => `(tactic| first | assumption | (with_reducible exact Same.refl _) | (with_reducible refine Same.new ?_ (by assumption); walk_at "sm") | (with_reducible refine Same.set ?_ (by assumption); walk_at "sm"))
local macro_rules | `(tactic| walk_at "tk") => `(tactic| first | assumption | (with_reducible exact TupK.refl _) | (with_reducible refine TupK.new ?_ (by assumption); walk_at "tk") | (with_reducible refine TupK.lst ?_ (by walk_at "hp"); walk_at "tk") | (with_reducible refine TupK.dK ?_ (by walk_at "hp"); walk_at "tk") | (with_reducible refine Same.tupK ?_; walk_at "sm"))
local macro_rules | `(tactic| walk_at "sl") => `(tactic| first | assumption | (with_reducible apply SqL.of; walk_at "hp") | (with_reducible apply sameSeq; assumption; walk_at "sm"))
local macro_rules | `(tactic| walk_at "st") => `(tactic| first | assumption | (with_reducible apply SqT.of; walk_at "hp"))
local macro_rules | `(tactic| walk_at "cd") => `(tactic| first | (show (0 : Int) < _; first | decide | assumption | omega) | exact ⟨by decide, by decide⟩ | exact ⟨by decide, by decide, by decide⟩ | exact Or.inl ⟨by decide, by decide⟩ | exact Or.inr ⟨by decide, by decide⟩ | exact Or.inl ⟨by omega, by omega⟩ | exact Or.inr ⟨by omega, by omega⟩ | exact ⟨by omega, by omega⟩)
local macro_rules | `(tactic| walk_at "rd1") => `(tactic| with_reducible first
  | (apply rd_var; with_unfolding_all rfl) | apply rd_op | apply rd_C | apply rd_seq | apply rd_asg | apply rd_name | apply rd_cons | apply rd_nil | apply rd_I0 | apply rd_test | apply rd_bl | apply rd_tB
  | (apply rd_ixT; (walk_at "st"); (with_unfolding_all rfl)) | apply rd_slice | apply rd_noPart | apply rd_part | apply rd_int | apply rd_CB | apply rd_if | apply rd_call | apply rd_ret | apply rd_drop | apply rd_tup | apply rd_lst | apply rd_bm | apply rd_bm0 | (apply rd_ty; (walk_at "hp"))
  | (apply rd_I; (with_unfolding_all walk_at "cd")) | (apply rd_eq; (with_unfolding_all rfl)) | (apply rd_ne; (with_unfolding_all rfl)) | apply rd_and | apply rd_or | apply rd_not | apply rd_andV | apply rd_orV | apply rd_notV | apply rd_ifE
  | (apply rd_lenL; (walk_at "sl")) | (apply rd_lenT; (walk_at "st")) | apply rd_dnew | apply rd_dput | apply rd_din | apply rd_next | apply rd_forL | apply rd_forV | apply rd_compL | apply rd_compZ | apply rd_compT | apply rd_compR | apply rd_kget | apply rd_dget | apply rd_listRev | apply rd_chain | apply rd_ints | apply rd_un | apply rd_U | apply rd_kin | apply rd_forZT | apply rd_pcons | apply rd_pnil | (apply rd_gtup; (walk_at "st"); (with_unfolding_all rfl)) | apply rd_gcons | apply rd_gnil | apply rd_fldC | apply rd_sfldC | apply rd_meth | apply rd_make | apply rd_compE | apply rd_tryset | apply rd_tryas | apply rd_raise | apply rd_forR3 | apply rd_forR2 | apply rd_forR1 | (apply rd_itL; (walk_at "sl")) | (apply rd_neN; (walk_at "sl"); (walk_at "sl")) | (apply rd_eqN; (walk_at "sl"); (walk_at "sl")))
local macro_rules | `(tactic| walk_at "rd") => `(tactic| repeat walk_at "rd1")
local macro_rules | `(tactic| walk_at "rd0") => `(tactic| try dsimp only [cxOf, Cx.nox, Cx.wish])
section
variable {P : Program} {w : World} {K : PySem.W.Frag} {mg : Str → Option Value} {base : Heap} {f : Addr} {fd : FuncData}
theorem ok_draw (D : DefIn K mg "_law_draw" s__law_draw ["_law_number", "_law_prime", "_law_many"] f fd) : Has P w K mg base "_law_draw" 1 ["_law_number", "_law_prime", "_law_many"] spDraw := by
  have nd := sc__law_draw.nd
  refine D.has (D.fn.ok sc__law_draw (fun vs H Q E h => ?_) (fun cdv A outer s H vs Q E hr h => ?_))
  · obtain ⟨n, p, m, rfl, _⟩ := h
    rfl
  · obtain ⟨n, p, m, rfl, hp, hm, q⟩ := h
    refine ⟨_, (pss_one (ps_ret (pe_op op_mod (pe_op op_mod (pe_op op_mul (pv 0) pe_int) (pv 1)) (pv 2)))), ?_⟩
    walk_at "rd0"
    walk_at "rd"
    exact q
theorem ok_count (D : DefIn K mg "_law_count_by" s__law_count_by ["_law_first"] f fd) (B : Blt mg) : Has P w K mg base "_law_count_by" 1 ["_law_first"] spCount := by
  have nd := sc__law_count_by.nd
  refine D.has (D.fn.ok sc__law_count_by (fun vs H Q E h => ?_) (fun cdv A outer s H vs Q E hr h => ?_))
  · obtain ⟨n, rfl, _⟩ := h
    rfl
  · obtain ⟨n, rfl, q⟩ := h
    refine ⟨_, (pss_one (ps_ret (pe_ix (ix_listK K) (pe_lst (pa_cons (pe_op op_add pe_int (pe_op op_mod (pv 0) pe_int)) (pa_cons pe_int (pa_cons pe_int pa_nil)))) (pe_op op_add (pe_callTy call_int1 rfl B.int_ PySem.Pv.boot_int (pa_cons (pe_cmpR op_eq (pe_op op_mod (pe_op op_fdiv (pv 0) pe_int) pe_int) pe_int (nomark _)) pa_nil)) (pe_callTy call_int1 rfl B.int_ PySem.Pv.boot_int (pa_cons (pe_cmpR op_eq (pe_op op_mod (pe_op op_fdiv (pv 0) pe_int) pe_int) pe_int (nomark _)) pa_nil))) (fun _ _ => rfl)))), ?_⟩
    walk_at "rd0"
    walk_at "rd"
    refine ⟨(by show 3 ≤ sizeLine; decide), fun p hp => ?_⟩
    walk_at "rd"
    refine .inr ⟨_, rfl, ?_⟩
    walk_at "rd"
    refine .inr ⟨_, rfl, ?_⟩
    walk_at "rd"
    have h0 : 0 ≤ n % 5 := Int.emod_nonneg _ (by decide)
    have h1 : n % 5 < 5 := Int.emod_lt_of_pos _ (by decide)
    obtain ⟨c, hc⟩ : ∃ c : Nat, 1 + n % 5 = (c : Int) := ⟨(1 + n % 5).toNat, by omega⟩
    rcases b01 (decide (V.int (n / 5 % 8) = V.int 1)) with e1 | e1 <;> rcases b01 (decide (V.int (n / 5 % 64) = V.int 1)) with e2 | e2 <;> rw [e1, e2]
    · refine rd_ixL (v := .int c) (SqL.of upd_same) (by rw [← hc]; rfl) (q c _ (by omega) (by omega) (by walk_at "sm"))
    · exact rd_ixL (v := .int ((12 : Nat) : Int)) (SqL.of upd_same) rfl (q 12 _ (by decide) (by decide) (by walk_at "sm"))
    · exact rd_ixL (v := .int ((12 : Nat) : Int)) (SqL.of upd_same) rfl (q 12 _ (by decide) (by decide) (by walk_at "sm"))
    · exact rd_ixL (v := .int ((40 : Nat) : Int)) (SqL.of upd_same) rfl (q 40 _ (by decide) (by decide) (by walk_at "sm"))
theorem ok_far (D : DefIn K mg "_law_far_by" s__law_far_by ["_law_cell"] f fd) : Has P w K mg base "_law_far_by" 1 ["_law_cell"] spFar := by
  have nd := sc__law_far_by.nd
  refine D.has (D.fn.ok sc__law_far_by (fun vs H Q E h => ?_) (fun cdv A outer s H vs Q E hr h => ?_))
  · obtain ⟨n, rfl, _⟩ := h
    rfl
  · obtain ⟨n, rfl, q⟩ := h
    refine ⟨_, (pss_one (ps_ret (pe_ix (ix_listK K) (pe_lst (pa_cons pe_int (pa_cons (pe_op op_mod (pv 0) (pe_op op_pow pe_int pe_int)) pa_nil))) (pe_op op_mod (pv 0) pe_int) (fun _ _ => rfl)))), ?_⟩
    walk_at "rd0"
    walk_at "rd"
    refine ⟨(by show 2 ≤ sizeLine; decide), fun p hp => ?_⟩
    walk_at "rd"
    have h0 : 0 ≤ n % 2 := Int.emod_nonneg _ (by decide)
    have h1 : n % 2 < 2 := Int.emod_lt_of_pos _ (by decide)
    have h : n % 2 = 0 ∨ n % 2 = 1 := by omega
    have hn : 0 ≤ n % 10 ^ (60 : Int).toNat := Int.emod_nonneg _ (by decide)
    rcases h with e | e <;> rw [e]
    · exact rd_ixL (v := .int 0) (SqL.of upd_same) rfl (q 0 _ (by decide) (by walk_at "sm"))
    · exact rd_ixL (SqL.of upd_same) rfl (q _ _ hn (by walk_at "sm"))
theorem ok_led (D : DefIn K mg "_law_led" s__law_led ["_law_truth", "_law_doors"] f fd) (B : Blt mg) : Has P w K mg base "_law_led" 1 ["_law_truth", "_law_doors"] spLed2 := by
  have nd := sc__law_led.nd
  refine D.has (D.fn.ok sc__law_led (fun vs H Q E h => ?_) (fun cdv A outer s H vs Q E hr h => ?_))
  · obtain ⟨a, b, ds, x, rfl, _⟩ := h
    rfl
  · obtain ⟨a, b, ds, x, rfl, ha, hb, hv, hz, q⟩ := h
    have hla : (nts ds).length = ds.length := List.length_map _
    refine ⟨_, (pss_one (ps_ret (pe_compB ["_law_door", "_law_truth"] 1 [0] (pi_listK K (pv 1)) (fun _ _ _ _ _ => (pg_name (i := 0) (show List.Nodup (["_law_door", "_law_truth"] : List Str) by decide +kernel) rfl (Or.inl rfl))) (fun _ _ _ _ _ => pts_nil) (fun _ _ _ _ _ => (pe_ix (ix_listK K) (pv 1) (pv 0) (fun _ _ => rfl)))))), ?_⟩
    walk_at "rd0"
    walk_at "rd"
    refine comp_list (SqL.of ha) (by omega) fun D hD => ⟨fun i y _ => ∃ b, (led x ds)[i]? = some b ∧ y = .bl b, fun _ _ _ _ h _ _ => h, fun i v H2 ys C hx S2 hd hC => ?_, fun ys H' S' hD' hl' hR => ?_⟩
    · obtain ⟨d, hd', rfl⟩ := nts_get hx
      have hb2 := S2 _ _ hb
      walk_at "rd"
      refine rd_ixL (SqL.of hb2) (bls_at (hv d (List.mem_of_getElem? hd'))) ?_
      exact hC _ H2 (Same.refl _) ⟨_, by simp [led, hd'], rfl⟩
    · exact q D H' S' hD (by rw [hD', list_by (bs := led x ds) (by rw [led_len, hl']; omega) hR])
theorem ok_truth_by (D : DefIn K mg "_law_truth_by" s__law_truth_by ["_law_sort", "_law_truth", "_law_world"] f fd) (B : Blt mg) (h__law_led : Has P w K mg base "_law_led" 1 ["_law_truth", "_law_doors"] spLed2) :
    Has P w K mg base "_law_truth_by" 2 ["_law_sort", "_law_truth", "_law_world"] spTruthBy := by
  have nd := sc__law_truth_by.nd
  refine D.has (D.fn.ok sc__law_truth_by (fun vs H Q E h => ?_) (fun cdv A outer s H vs Q E hr h => ?_))
  · obtain ⟨k, b, a, W, x, rfl, _⟩ := h
    rfl
  · obtain ⟨k, b, a, W, x, rfl, ⟨rs, ha, hp⟩, hv, hz, hdz, hb, hx, q⟩ := h
    have hlen := Paired.length hp
    have hbl : (bls x).length = x.length := List.length_map _
    refine ⟨_, (pss_cons (ps_if (pt_cmpR op_eq (pv 0) pe_str (nomark _)) (pss_one (ps_ret (pe_compB ["_law_room", "_law_truth"] 1 [1] (pi_listK K (pv 2)) (fun _ _ _ _ _ => (pg_name (i := 0) (show List.Nodup (["_law_room", "_law_truth"] : List Str) by decide +kernel) rfl (Or.inl rfl))) (fun _ _ _ _ _ => pts_nil) (fun _ _ _ _ _ => (pe_cmpR (op_notInK K) pe_bl (pe_callH h__law_led hr (pa_cons (pv 1) (pa_cons (pe_ix (ix_tupK K) (pv 0) pe_int (fun _ _ => rfl)) pa_nil))) (by with_unfolding_all rfl)))))) pss_nil)
      (pss_cons (ps_if (pt_cmpR op_eq (pv 0) pe_str (nomark _)) (pss_one (ps_ret (pe_compB ["_law_room", "_law_truth"] 1 [1] (pi_listK K (pv 2)) (fun _ _ _ _ _ => (pg_name (i := 0) (show List.Nodup (["_law_room", "_law_truth"] : List Str) by decide +kernel) rfl (Or.inl rfl))) (fun _ _ _ _ _ => pts_nil) (fun _ _ _ _ _ => (pe_cmpR (op_inK K) pe_bl (pe_callH h__law_led hr (pa_cons (pv 1) (pa_cons (pe_ix (ix_tupK K) (pv 0) pe_int (fun _ _ => rfl)) pa_nil))) (by with_unfolding_all rfl)))))) pss_nil)
      (pss_one (ps_ret (pe_compB ["_law_one"] 1 [] (pi_listK K (pv 1)) (fun _ _ _ _ _ => (pg_name (i := 0) (show List.Nodup (["_law_one"] : List Str) by decide +kernel) rfl (Or.inl rfl))) (fun _ _ _ _ _ => pts_nil) (fun _ _ _ _ _ => (pe_not (pv 0)))))))), ?_⟩
    walk_at "rd0"
    walk_at "rd"
    refine if_dec (fun e => ?_) (fun e => ?_)
    · have ek : k = "every" := V.str.inj e
      walk_at "rd"
      refine comp_list (SqL.of ha) (by omega) fun D hD => ⟨fun i y _ => ∃ b, (truthBy W k x)[i]? = some b ∧ y = .bl b, fun _ _ _ _ h _ _ => h, fun i v H2 ys C hxi S2 hd hC => ?_, fun ys H' S' hD' hl' hR => ?_⟩
      · obtain ⟨r, hr', ra⟩ := Paired.get1 hp hxi
        obtain ⟨c, l, d, rfl, h1, h2, h3⟩ := ra.mono S2
        have hb2 := S2 _ _ hb
        have hm : r ∈ W := List.mem_of_getElem? hr'
        walk_at "rd"
        refine ⟨d, b, r.doors, x, rfl, h3, hb2, fun z m => by rw [hx]; exact hv r hm z m, hdz r hm, fun t H3 S3 ht0 ht => ?_⟩
        walk_at "rd"
        refine rd_notInS (.inl (SqL.of ht)) rfl (flat_bls _) ?_
        refine hC _ H3 S3 ⟨!(led x r.doors).contains false, ?_, by rw [inV_bls]⟩
        simp [truthBy, ek, hr']
      · exact q D H' S' hD (by rw [hD', list_by (bs := truthBy W k x) (by rw [truthBy_len hx, hl']; omega) hR])
    · have ek : ¬ k = "every" := fun z => e (by rw [z])
      walk_at "rd"
      refine if_dec (fun e2 => ?_) (fun e2 => ?_)
      · have ek2 : k = "some" := V.str.inj e2
        have nes : ¬ ("some" : Str) = "every" := by decide +kernel
        walk_at "rd"
        refine comp_list (SqL.of ha) (by omega) fun D hD => ⟨fun i y _ => ∃ b, (truthBy W k x)[i]? = some b ∧ y = .bl b, fun _ _ _ _ h _ _ => h, fun i v H2 ys C hxi S2 hd hC => ?_, fun ys H' S' hD' hl' hR => ?_⟩
        · obtain ⟨r, hr', ra⟩ := Paired.get1 hp hxi
          obtain ⟨c, l, d, rfl, h1, h2, h3⟩ := ra.mono S2
          have hb2 := S2 _ _ hb
          have hm : r ∈ W := List.mem_of_getElem? hr'
          walk_at "rd"
          refine ⟨d, b, r.doors, x, rfl, h3, hb2, fun z m => by rw [hx]; exact hv r hm z m, hdz r hm, fun t H3 S3 ht0 ht => ?_⟩
          walk_at "rd"
          refine rd_inS (.inl (SqL.of ht)) rfl (flat_bls _) ?_
          refine hC _ H3 S3 ⟨(led x r.doors).contains true, ?_, by rw [inV_bls]⟩
          simp [truthBy, ek2, hr', nes]
        · exact q D H' S' hD (by rw [hD', list_by (bs := truthBy W k x) (by rw [truthBy_len hx, hl']; omega) hR])
      · have ek2 : ¬ k = "some" := fun z => e2 (by rw [z])
        walk_at "rd"
        refine comp_list (SqL.of hb) (by omega) fun D hD => ⟨fun i y _ => ∃ b, (truthBy W k x)[i]? = some b ∧ y = .bl b, fun _ _ _ _ h _ _ => h, fun j u H4 ys C hu S4 hd hC => ?_, fun ys H' S' hD' hl' hR => ?_⟩
        · rw [List.getElem?_map] at hu
          obtain ⟨b, hb, rfl⟩ := Option.map_eq_some_iff.mp hu
          walk_at "rd"
          exact hC _ H4 (Same.refl _) ⟨!b, by simp [truthBy, ek, ek2, hb], rfl⟩
        · exact q D H' S' hD (by rw [hD', list_by (bs := truthBy W k x) (by rw [truthBy_len hx, hl']; omega) hR])
theorem ok_truth_two (D : DefIn K mg "_law_truth_of_two" s__law_truth_of_two ["_law_sort", "_law_first", "_law_second"] f fd) (B : Blt mg) : Has P w K mg base "_law_truth_of_two" 1 ["_law_sort", "_law_first", "_law_second"] spTwo := by
  have nd := sc__law_truth_of_two.nd
  refine D.has (D.fn.ok sc__law_truth_of_two (fun vs H Q E h => ?_) (fun cdv A outer s H vs Q E hr h => ?_))
  · obtain ⟨k, a, b, x, y, rfl, _⟩ := h
    rfl
  · obtain ⟨k, a, b, x, y, rfl, ha, hb, hl, hz, q⟩ := h
    have hla : (bls x).length = x.length := List.length_map _
    have hlb : (bls y).length = y.length := List.length_map _
    have get : ∀ (g : Bool → Bool → Bool) (i : Nat), i < x.length → (List.zipWith g x y)[i]? = some (g (x.getD i false) (y.getD i false)) := fun g i hi => by
      have h1 : x[i]? = some x[i] := List.getElem?_eq_getElem hi
      have h2 : y[i]? = some (y[i]'(by omega)) := List.getElem?_eq_getElem (by omega)
      simp [List.getElem?_zipWith, List.getD, h1, h2]
    refine ⟨_, (pss_cons (ps_if (pt_cmpR op_eq (pv 0) pe_str (nomark _)) (pss_one (ps_ret (pe_compB ["_law_k", "_law_first", "_law_second"] 1 [1, 2] (pi_range1 rfl B.range (pa_cons (pe_callB (call_lenK K) rfl B.len PySem.boot_len (pa_cons (pv 1) pa_nil)) pa_nil)) (fun _ _ _ _ _ => (pg_name (i := 0) (show List.Nodup (["_law_k", "_law_first", "_law_second"] : List Str) by decide +kernel) rfl (Or.inl rfl))) (fun _ _ _ _ _ => pts_nil) (fun _ _ _ _ _ => (pe_and (pe_ix (ix_listK K) (pv 1) (pv 0) (fun _ _ => rfl)) (pe_one (pe_ix (ix_listK K) (pv 2) (pv 0) (fun _ _ => rfl)))))))) pss_nil)
      (pss_one (ps_ret (pe_compB ["_law_k", "_law_first", "_law_second"] 1 [1, 2] (pi_range1 rfl B.range (pa_cons (pe_callB (call_lenK K) rfl B.len PySem.boot_len (pa_cons (pv 1) pa_nil)) pa_nil)) (fun _ _ _ _ _ => (pg_name (i := 0) (show List.Nodup (["_law_k", "_law_first", "_law_second"] : List Str) by decide +kernel) rfl (Or.inl rfl))) (fun _ _ _ _ _ => pts_nil) (fun _ _ _ _ _ => (pe_or (pe_ix (ix_listK K) (pv 1) (pv 0) (fun _ _ => rfl)) (pe_one (pe_ix (ix_listK K) (pv 2) (pv 0) (fun _ _ => rfl))))))))), ?_⟩
    walk_at "rd0"
    walk_at "rd"
    refine if_dec (fun e => ?_) (fun e => ?_)
    · have ek : k = "and" := V.str.inj e
      walk_at "rd"
      refine comp_range (by omega) fun D hD => ⟨fun i z _ => ∃ b, (two k x y)[i]? = some b ∧ z = .bl b, fun _ _ _ _ h _ _ => h, fun i H2 zs C hi S2 hd hC => ?_, fun ys H' S' hD' hl' hR => ?_⟩
      · have hi' : i < x.length := by omega
        have ha2 := S2 _ _ ha
        have hb2 := S2 _ _ hb
        have fin : C (.bl (x.getD i false && y.getD i false)) H2 := hC _ H2 (Same.refl _) ⟨_, by rw [two, if_pos ek]; exact get _ i hi', rfl⟩
        walk_at "rd"
        refine rd_ixL (SqL.of ha2) (bls_at hi') ?_
        walk_at "rd"
        cases hc : x.getD i false with
        | true =>
          refine iteT ?_
          walk_at "rd"
          refine rd_ixL (SqL.of hb2) (bls_at (by omega)) ?_
          rw [hc] at fin
          exact fin
        | false =>
          refine iteF ?_
          rw [hc] at fin
          exact fin
      · exact q D H' S' hD (by rw [hD', list_by (bs := two k x y) (by rw [hl', two_len hl]; omega) hR])
    · have ek : ¬ k = "and" := fun z => e (by rw [z])
      walk_at "rd"
      refine comp_range (by omega) fun D hD => ⟨fun i z _ => ∃ b, (two k x y)[i]? = some b ∧ z = .bl b, fun _ _ _ _ h _ _ => h, fun i H2 zs C hi S2 hd hC => ?_, fun ys H' S' hD' hl' hR => ?_⟩
      · have hi' : i < x.length := by omega
        have ha2 := S2 _ _ ha
        have hb2 := S2 _ _ hb
        have fin : C (.bl (x.getD i false || y.getD i false)) H2 := hC _ H2 (Same.refl _) ⟨_, by rw [two, if_neg ek]; exact get _ i hi', rfl⟩
        walk_at "rd"
        refine rd_ixL (SqL.of ha2) (bls_at hi') ?_
        walk_at "rd"
        cases hc : x.getD i false with
        | true =>
          refine iteT ?_
          rw [hc] at fin
          exact fin
        | false =>
          refine iteF ?_
          walk_at "rd"
          refine rd_ixL (SqL.of hb2) (bls_at (by omega)) ?_
          rw [hc] at fin
          exact fin
      · exact q D H' S' hD (by rw [hD', list_by (bs := two k x y) (by rw [hl', two_len hl]; omega) hR])
theorem ok_truth_lamp (D : DefIn K mg "_law_truth_of_lamp" s__law_truth_of_lamp ["_law_sort", "_law_lamp", "_law_world"] f fd) (B : Blt mg) : Has P w K mg base "_law_truth_of_lamp" 1 ["_law_sort", "_law_lamp", "_law_world"] spLampT := by
  have nd := sc__law_truth_of_lamp.nd
  refine D.has (D.fn.ok sc__law_truth_of_lamp (fun vs H Q E h => ?_) (fun cdv A outer s H vs Q E hr h => ?_))
  · obtain ⟨k, n, a, W, rfl, _⟩ := h
    rfl
  · obtain ⟨k, n, a, W, rfl, ⟨rs, ha, hp⟩, hz, q⟩ := h
    have hlen := Paired.length hp
    refine ⟨_, (pss_one (ps_ret (pe_compB ["_law_room", "_law_sort", "_law_lamp"] 1 [0, 1] (pi_listK K (pv 2)) (fun _ _ _ _ _ => (pg_name (i := 0) (show List.Nodup (["_law_room", "_law_sort", "_law_lamp"] : List Str) by decide +kernel) rfl (Or.inl rfl))) (fun _ _ _ _ _ => pts_nil) (fun _ _ _ _ _ => (pe_cmpR op_eq (pe_cmpR (op_inK K) (pv 2) (pe_ix (ix_tupK K) (pv 0) pe_int (fun _ _ => rfl)) (by with_unfolding_all rfl)) (pe_cmpR op_eq (pv 1) pe_str (nomark _)) (nomark _)))))), ?_⟩
    walk_at "rd0"
    walk_at "rd"
    refine comp_list (SqL.of ha) (by omega) fun D hD => ⟨fun i y _ => ∃ b, (lampT W k n)[i]? = some b ∧ y = .bl b, fun _ _ _ _ h _ _ => h, fun i x H2 ys C hx S2 hd hC => ?_, fun ys H' S' hD' hl' hR => ?_⟩
    · obtain ⟨r, hr', ra⟩ := Paired.get1 hp hx
      obtain ⟨c, l, d, rfl, h1, h2, h3⟩ := ra.mono S2
      walk_at "rd"
      refine rd_inS (.inl (SqL.of h2)) rfl (flat_ints _) ?_
      walk_at "rd"
      refine hC _ H2 (Same.refl _) ⟨decide (r.lit.contains n = decide (k = "lamp")), ?_, ?_⟩
      · simp [lampT, hr']
      · rw [inV_ints]
        congr 1
        rw [Bool.eq_iff_iff]
        simp
    · exact q D H' S' hD (by rw [hD', list_by (bs := lampT W k n) (by rw [hl']; simp [lampT]; omega) hR])
theorem ok_kinds_plain (D : DefIn K mg "_law_plain_kinds" s__law_plain_kinds [] f fd) : Has P w K mg base "_law_plain_kinds" 1 [] (spKinds plainKinds) := by
  have nd := sc__law_plain_kinds.nd
  refine D.has (D.fn.ok sc__law_plain_kinds (fun vs H Q E h => ?_) (fun cdv A outer s H vs Q E hr h => ?_))
  · obtain ⟨rfl, _⟩ := h
    rfl
  · obtain ⟨rfl, q⟩ := h
    refine ⟨_, (pss_one (ps_ret (pe_lst (pa_cons pe_str (pa_cons pe_str (pa_cons pe_str (pa_cons pe_str (pa_cons pe_str (pa_cons pe_str (pa_cons pe_str (pa_cons pe_str (pa_cons pe_str (pa_cons pe_str pa_nil))))))))))))), ?_⟩
    walk_at "rd0"
    walk_at "rd"
    refine ⟨(by show 10 ≤ sizeLine; decide), fun p hp => ?_⟩
    exact q p _ (by walk_at "sm") upd_same
end
end My
set_option Elab.async false
set_option linter.all false
set_option maxRecDepth 100000
set_option maxHeartbeats 4000000
namespace My
open PySem L2
seal PE PT PW PA PS PSs PC PG PGs PI PO PPs PTs
local macro_rules | `(tactic| walk_at "ne") => `(tactic| first | assumption | exact Ne.symm (by assumption))
local macro_rules | `(tactic| walk_at "hp") => `(tactic| first | assumption | (with_reducible exact upd_same) | (with_reducible apply keepN; assumption; walk_at "hp") | (with_reducible apply keepL; walk_at "ne"; walk_at "hp"))
local macro_rules | `(tactic| walk_at "sm") => `(tactic| first | assumption | (with_reducible exact Same.refl _) | (with_reducible refine Same.new ?_ (by assumption); walk_at "sm") | (with_reducible refine Same.set ?_ (by assumption); walk_at "sm"))
local macro_rules | `(tactic| walk_at "tk") => `(tactic| first | assumption | (with_reducible exact TupK.refl _) | (with_reducible refine TupK.new ?_ (by assumption); walk_at "tk") | (with_reducible refine TupK.lst ?_ (by walk_at "hp"); walk_at "tk") | (with_reducible refine TupK.dK ?_ (by walk_at "hp"); walk_at "tk") | (with_reducible refine Same.tupK ?_; walk_at "sm"))
local macro_rules | `(tactic| walk_at "sl") => `(tactic| first | assumption | (with_reducible apply SqL.of; walk_at "hp") | (with_reducible apply sameSeq; assumption; walk_at "sm"))
local macro_rules | `(tactic| walk_at "st") => `(tactic| first | assumption | (with_reducible apply SqT.of; walk_at "hp"))
local macro_rules | `(tactic| walk_at "cd") => `(tactic| first | (show (0 : Int) < _; first | decide | assumption | omega) | exact ⟨by decide, by decide⟩ | exact ⟨by decide, by decide, by decide⟩ | exact Or.inl ⟨by decide, by decide⟩ | exact Or.inr ⟨by decide, by decide⟩ | exact Or.inl ⟨by omega, by omega⟩ | exact Or.inr ⟨by omega, by omega⟩ | exact ⟨by omega, by omega⟩)
local macro_rules | `(tactic| walk_at "rd1") => `(tactic| with_reducible first
  | (apply rd_var; with_unfolding_all rfl) | apply rd_op | apply rd_C | apply rd_seq | apply rd_asg | apply rd_name | apply rd_cons | apply rd_nil | apply rd_I0 | apply rd_test | apply rd_bl | apply rd_tB
  | (apply rd_ixT; (walk_at "st"); (with_unfolding_all rfl)) | apply rd_slice | apply rd_noPart | apply rd_part | apply rd_int | apply rd_CB | apply rd_if | apply rd_call | apply rd_ret | apply rd_drop | apply rd_tup | apply rd_lst | apply rd_bm | apply rd_bm0 | (apply rd_ty; (walk_at "hp"))
  | (apply rd_I; (with_unfolding_all walk_at "cd")) | (apply rd_eq; (with_unfolding_all rfl)) | (apply rd_ne; (with_unfolding_all rfl)) | apply rd_and | apply rd_or | apply rd_not | apply rd_andV | apply rd_orV | apply rd_notV | apply rd_ifE
  | (apply rd_lenL; (walk_at "sl")) | (apply rd_lenT; (walk_at "st")) | apply rd_dnew | apply rd_dput | apply rd_din | apply rd_next | apply rd_forL | apply rd_forV | apply rd_compL | apply rd_compZ | apply rd_compT | apply rd_compR | apply rd_kget | apply rd_dget | apply rd_listRev | apply rd_chain | apply rd_ints | apply rd_un | apply rd_U | apply rd_kin | apply rd_forZT | apply rd_pcons | apply rd_pnil | (apply rd_gtup; (walk_at "st"); (with_unfolding_all rfl)) | apply rd_gcons | apply rd_gnil | apply rd_fldC | apply rd_sfldC | apply rd_meth | apply rd_make | apply rd_compE | apply rd_tryset | apply rd_tryas | apply rd_raise | apply rd_forR3 | apply rd_forR2 | apply rd_forR1 | (apply rd_itL; (walk_at "sl")) | (apply rd_neN; (walk_at "sl"); (walk_at "sl")) | (apply rd_eqN; (walk_at "sl"); (walk_at "sl")))
local macro_rules | `(tactic| walk_at "rd") => `(tactic| repeat walk_at "rd1")
local macro_rules | `(tactic| walk_at "rd0") => `(tactic| try dsimp only [cxOf, Cx.nox, Cx.wish])
section
variable {P : Program} {w : World} {K : PySem.W.Frag} {mg : Str → Option Value} {base : Heap} {f : Addr} {fd : FuncData}
theorem ok_join (D : DefIn K mg "_law_join" s__law_join ["_law_pile", "_law_sort"] f fd) (h__law_truth_of_two : Has P w K mg base "_law_truth_of_two" 1 ["_law_sort", "_law_first", "_law_second"] spTwo) : Has P w K mg base "_law_join" 2 ["_law_pile", "_law_sort"] spJoin := by
  have nd := sc__law_join.nd
  refine D.has (D.fn.ok sc__law_join (fun vs H Q E h => ?_) (fun cdv A outer s H vs Q E hr h => ?_))
  · obtain ⟨p, k, W, xs, v1, v2, s1, s2, rfl, _⟩ := h
    rfl
  · obtain ⟨p, k, W, xs, v1, v2, s1, s2, rfl, hk, hz, hp, ⟨t1, u1, c1, rfl, n1, e1, st1, m1, g1⟩, ⟨t2, u2, c2, rfl, n2, e2, st2, m2, g2⟩, hxz, q⟩ := h
    refine ⟨_, (pss_cons (ps_set (i := 2) nd rfl (Or.inl rfl) (pe_bm0K K PySem.F.plainAttrs_list PySem.F.slot_list_pop PySem.F.type_list_pop mt_pop (pv 0)))
      (pss_cons (ps_set (i := 3) nd rfl (Or.inl rfl) (pe_bm0K K PySem.F.plainAttrs_list PySem.F.slot_list_pop PySem.F.type_list_pop mt_pop (pv 0)))
      (pss_cons (ps_set (i := 4) nd rfl (Or.inl rfl) (pe_callH h__law_truth_of_two hr (pa_cons (pv 1) (pa_cons (pe_ix (ix_tupK K) (pv 3) pe_int (fun _ _ => rfl)) (pa_cons (pe_ix (ix_tupK K) (pv 2) pe_int (fun _ _ => rfl)) pa_nil)))))
      (pss_one (ps_expr (pe_bmK K PySem.F.plainAttrs_list PySem.F.slot_list_append PySem.F.type_list_append mt_append (pv 0) (pa_cons (pe_tup (pa_cons (pe_tup (pa_cons (pv 1) (pa_cons (pe_ix (ix_tupK K) (pv 3) pe_int (fun _ _ => rfl)) (pa_cons (pe_ix (ix_tupK K) (pv 2) pe_int (fun _ _ => rfl)) pa_nil)))) (pa_cons (pv 4) pa_nil))) pa_nil))))))), ?_⟩
    walk_at "rd0"
    walk_at "rd"
    refine rd_pop hp ?_
    walk_at "rd"
    refine rd_pop upd_same ?_
    rw [upd_upd]
    walk_at "rd"
    have l1 := tru_len W s1
    have l2 := tru_len W s2
    refine ⟨k, c1, c2, _, _, rfl, keepL m1 g1, keepL m2 g2, by omega, by omega, fun c H3 S3 hc0 hc => ?_⟩
    have T3 : TupK H H3 := TupK.trans (TupK.lst (TupK.refl _) hp) S3.tupK
    have nc : c ≠ p := fun e => by rw [e, upd_same] at hc0; cases hc0
    have hp3 : H3 p = some (.lst xs) := S3 _ _ upd_same
    have e13 := T3 _ _ e1
    have e23 := T3 _ _ e2
    have D3 : SameD p H H3 := SameD.trans sameD_upd S3.sameD
    walk_at "rd"
    refine ⟨(by show 3 ≤ sizeLine; decide), fun a1 ha1 => ?_⟩
    walk_at "rd"
    refine ⟨(by show 2 ≤ sizeLine; decide), fun a2 ha2 => ?_⟩
    walk_at "rd"
    have na1 : a1 ≠ p := fun e => by rw [e, hp3] at ha1; cases ha1
    have na2 : a2 ≠ p := fun e => by rw [e, upd_ne na1.symm, hp3] at ha2; cases ha2
    refine rd_append (by walk_at "hp") (smallLt (by omega)) ?_
    refine q (.ref a2) _ ?_ ?_ upd_same ⟨a2, .ref a1, c, rfl, na2, by walk_at "hp", ?_, nc, ?_⟩
    · intro b o nb e
      rw [upd_ne nb]
      exact keepN ha2 (keepN ha1 (D3 b o nb e))
    · exact T3.trans (by walk_at "tk")
    · refine joinS_stm hk (by walk_at "hp") ((st1.mono T3).mono (by walk_at "tk")) ((st2.mono T3).mono (by walk_at "tk"))
    · rw [← two_tru]
      walk_at "hp"
theorem ok_grownD {nt : Bool} (D : DefIn K mg "_law_grown" s__law_grown ["_law_cells", "_law_world", "_law_kinds"] f fd) (B : Blt mg) (h__law_join : Has P w K mg base "_law_join" 2 ["_law_pile", "_law_sort"] spJoin)
    (h__law_truth_by : Has P w K mg base "_law_truth_by" 2 ["_law_sort", "_law_truth", "_law_world"] spTruthBy) (h__law_truth_of_lamp : Has P w K mg base "_law_truth_of_lamp" 1 ["_law_sort", "_law_lamp", "_law_world"] spLampT) :
    Has P w K mg base "_law_grown" 3 ["_law_cells", "_law_world", "_law_kinds"] (spGrownD nt) := by
  have nd := sc__law_grown.nd
  refine D.has (D.fn.ok sc__law_grown (fun vs H Q E h => ?_) (fun cdv A outer s H vs Q E hr h => ?_))
  · obtain ⟨c, a, kd, ns, W, ks, rfl, _⟩ := h
    rfl
  · obtain ⟨c, a, kd, ns, W, ks, rfl, hc, hnz, hw, hv, hz, hdz, hkd, hk0, hk1, hnt, q⟩ := h
    have hu0 := hu0_of hr
    have hkl : (ks.map V.str).length = ks.length := List.length_map _
    have hnl : (ns.map V.int).length = ns.length := List.length_map _
    refine ⟨_, (pss_cons (ps_set (i := 3) nd rfl (Or.inl rfl) (pe_lst pa_nil))
      (pss_cons (ps_for PassesOwn.never rfl (pi_listK K (pv 0)) (pg_name (i := 4) nd rfl (Or.inl rfl)) (pss_cons (ps_set (i := 5) nd rfl (Or.inl rfl) (pe_ix (ix_listK K) (pv 2) (pe_op op_mod (pv 4) (pe_callB (call_lenK K) rfl B.len PySem.boot_len (pa_cons (pv 2) pa_nil))) (fun _ _ => rfl)))
        (pss_cons (ps_set (i := 6) nd rfl (Or.inl rfl) (pe_ix (ix_listK K) (pe_lst (pa_cons pe_int (pa_cons pe_int (pa_cons pe_int pa_nil)))) (pe_op op_mod (pe_op op_fdiv (pv 4) (pe_callB (call_lenK K) rfl B.len PySem.boot_len (pa_cons (pv 2) pa_nil))) pe_int) (fun _ _ => rfl)))
        (pss_one (ps_if (PW.pt (pw_and (pt_cmpR (op_inK K) (pv 5) (pe_lst (pa_cons pe_str (pa_cons pe_str pa_nil))) (by with_unfolding_all rfl)) (pw_and1 (pt_cmpR op_gt (pe_callB (call_lenK K) rfl B.len PySem.boot_len (pa_cons (pv 3) pa_nil)) pe_int (nomark _))))) (pss_one (ps_expr (pe_callH h__law_join hr (pa_cons (pv 3) (pa_cons (pv 5) pa_nil))))) (pss_one (ps_if (PW.pt (pw_and (pt_cmpR (op_inK K) (pv 5) (pe_lst (pa_cons pe_str (pa_cons pe_str (pa_cons pe_str pa_nil)))) (by with_unfolding_all rfl)) (pw_and1 (pt_cmpR (op_neNK K hu0) (pv 3) (pe_lst pa_nil) (nomark _))))) (pss_cons (ps_set (i := 7) nd rfl (Or.inl rfl) (pe_bm0K K PySem.F.plainAttrs_list PySem.F.slot_list_pop PySem.F.type_list_pop mt_pop (pv 3)))
            (pss_one (ps_expr (pe_bmK K PySem.F.plainAttrs_list PySem.F.slot_list_append PySem.F.type_list_append mt_append (pv 3) (pa_cons (pe_tup (pa_cons (pe_tup (pa_cons (pv 5) (pa_cons (pe_ix (ix_tupK K) (pv 7) pe_int (fun _ _ => rfl)) pa_nil))) (pa_cons (pe_callH h__law_truth_by hr (pa_cons (pv 5) (pa_cons (pe_ix (ix_tupK K) (pv 7) pe_int (fun _ _ => rfl)) (pa_cons (pv 1) pa_nil)))) pa_nil))) pa_nil))))) (pss_one (ps_if (pt_cmpR op_eq (pv 5) pe_str (nomark _)) (pss_one (ps_expr (pe_bmK K PySem.F.plainAttrs_list PySem.F.slot_list_append PySem.F.type_list_append mt_append (pv 3) (pa_cons (pe_tup (pa_cons (pe_tup (pa_cons pe_str (pa_cons (pv 6) pa_nil))) (pa_cons (pe_callH h__law_truth_of_lamp hr (pa_cons pe_str (pa_cons (pv 6) (pa_cons (pv 1) pa_nil)))) pa_nil))) pa_nil)))) (pss_one (ps_expr (pe_bmK K PySem.F.plainAttrs_list PySem.F.slot_list_append PySem.F.type_list_append mt_append (pv 3) (pa_cons (pe_tup (pa_cons (pe_tup (pa_cons pe_str (pa_cons (pv 6) pa_nil))) (pa_cons (pe_callH h__law_truth_of_lamp hr (pa_cons pe_str (pa_cons (pv 6) (pa_cons (pv 1) pa_nil)))) pa_nil))) pa_nil)))))))))))))
      (pss_cons (ps_if (pt_cmpR (op_eqNK K hu0) (pv 3) (pe_lst pa_nil) (nomark _)) (pss_one (ps_ret (pe_tup (pa_cons (pe_tup (pa_cons pe_str (pa_cons pe_int pa_nil))) (pa_cons (pe_callH h__law_truth_of_lamp hr (pa_cons pe_str (pa_cons pe_int (pa_cons (pv 1) pa_nil)))) pa_nil))))) pss_nil)
      (pss_cons (ps_while PassesOwn.never (pt_cmpR op_gt (pe_callB (call_lenK K) rfl B.len PySem.boot_len (pa_cons (pv 3) pa_nil)) pe_int (nomark _)) (pss_one (ps_expr (pe_callH h__law_join hr (pa_cons (pv 3) (pa_cons (pe_ix (ix_listK K) (pe_lst (pa_cons pe_str (pa_cons pe_str pa_nil))) (pe_op op_mod (pe_callB (call_lenK K) rfl B.len PySem.boot_len (pa_cons (pv 3) pa_nil)) pe_int) (fun _ _ => rfl)) pa_nil))))))
      (pss_one (ps_ret (pe_ix (ix_listK K) (pv 3) pe_int (fun _ _ => rfl)))))))), ?_⟩
    walk_at "rd0"
    walk_at "rd"
    refine ⟨(by show 0 ≤ sizeLine; decide), fun p hp => ?_⟩
    walk_at "rd"
    refine for_list (K := K) (a := c) (xs := ns.map V.int) (fun i σ H1 => ∃ (ps : List V) (ss : List Say) (o4 o5 o6 o7 : Option V), σ = [some (.ref c), some (.ref a), some (.ref kd), some (.ref p), o4, o5, o6, o7] ∧ Same H H1 ∧ H1 p = some (.lst ps) ∧ Paired (Pr W p H1) ps ss ∧ ss.length ≤ i ∧ szs ss ≤ 5 * i ∧ dps ss ≤ i ∧ ∀ s ∈ ss, Say.good nt s)
      ⟨[], [], none, none, none, none, rfl, by walk_at "sm", upd_same, .nil, Nat.le_refl _, Nat.le_refl _, Nat.le_refl _, fun s h => by cases h⟩ (fun i σ H1 _ ⟨_, _, _, _, _, _, _, S1, _⟩ => SqL.of (S1 _ _ hc)) ?_ ?_
    · rintro i y σ H1 hi ⟨ps, ss, o4, o5, o6, o7, rfl, S1, hp1, hpr, hsl, hssz, hdps, hgood⟩
      have hil : i < ns.length := by rw [← hnl]; exact (List.getElem?_eq_some_iff.mp hi).1
      rw [List.getElem?_map] at hi
      obtain ⟨n, hn, rfl⟩ := Option.map_eq_some_iff.mp hi
      have hkd1 := S1 _ _ hkd
      have hw1 := hw.mono S1
      have hpl := Paired.length hpr
      walk_at "rd"
      obtain ⟨k, hk, hkm⟩ := kind_at ks n hk0
      have hk' : atI (ks.map V.str) (n % (((ks.map V.str).length : Nat) : Int)) = some (.str k) := by rw [hkl]; exact hk
      refine rd_ixL (SqL.of hkd1) hk' ?_
      walk_at "rd"
      refine ⟨(by show 3 ≤ sizeLine; decide), fun p1 hp1' => ?_⟩
      walk_at "rd"
      obtain ⟨lm, hlm, hlm1⟩ := lamp3 (n / (((ks.map V.str).length : Nat) : Int))
      refine rd_ixL (SqL.of upd_same) hlm ?_
      walk_at "rd"
      refine ⟨(by show 2 ≤ sizeLine; decide), fun p2 hp2' => ?_⟩
      walk_at "rd"
      refine rd_inS (.inl (SqL.of upd_same)) rfl rfl ?_
      walk_at "rd"
      have SN : Same H1 (upd (upd H1 p1 (.lst [.int 1, .int 2, .int 1000000007])) p2 (.lst [.str "and", .str "or"])) := by walk_at "sm"
      generalize upd (upd H1 p1 (.lst [.int 1, .int 2, .int 1000000007])) p2 (.lst [.str "and", .str "or"]) = H2 at SN ⊢
      have S2 : Same H H2 := S1.trans SN
      have hp2 := SN _ _ hp1
      have hpr2 := prs_mono hpr SN.sameD SN.tupK
      refine if_andB ?goB (fun hB hc => ?goP)
      case goP =>
        walk_at "rd"
        refine if_dec (fun hgt => ?_) (fun _ => hB)
        walk_at "rd"
        rcases snoc_cases ps with rfl | ⟨ps0, v2, rfl⟩
        · simp at hgt
        rcases snoc_cases ps0 with rfl | ⟨ps1, v1, rfl⟩
        · simp at hgt
        obtain ⟨ss0, s2, rfl, hp0, q2⟩ := snoc_inv hpr2
        obtain ⟨ss1, s1, rfl, hp1'', q1⟩ := snoc_inv hp0
        have hl9 := hpl
        simp only [List.length_append, List.length_cons, List.length_nil] at hl9 hsl
        refine ⟨p, k, W, ps1, v1, v2, s1, s2, rfl, (in2 _ _ _).mp hc, hz, hp2, q1, q2, by omega, fun v H3 D3 T3 hp3 pr3 => ?_⟩
        refine ⟨ps1 ++ [v], ss1 ++ [joinS k s1 s2], _, _, _, _, rfl, fun b o e => D3 b o (ne_of_none e hp) (S2 b o e), hp3, Paired.snoc (prs_mono hp1'' D3 T3) pr3, by simp; omega, ?_, ?_, fun z m => ?_⟩
        · rw [szs_app] at hssz ⊢
          rw [szs_app] at hssz
          have := joinS_sz k s1 s2
          simp only [szs, List.map_cons, List.map_nil, List.sum_cons, List.sum_nil] at hssz ⊢
          omega
        · have := joinS_dep k s1 s2
          simp only [dps_app, dps_one] at hdps ⊢
          omega
        · rcases List.mem_append.mp m with m | m
          · exact hgood z (by simp [m])
          · rw [List.mem_singleton.mp m]; exact joinS_good (hgood s1 (by simp)) (hgood s2 (by simp))
      case goB =>
        walk_at "rd"
        refine ⟨(by show 3 ≤ sizeLine; decide), fun p3 hp3' => ?_⟩
        walk_at "rd"
        refine rd_inS (.inl (SqL.of upd_same)) rfl rfl ?_
        walk_at "rd"
        have SN3 : Same H1 (upd H2 p3 (.lst [.str "every", .str "some", .str "not"])) := by walk_at "sm"
        generalize upd H2 p3 (.lst [.str "every", .str "some", .str "not"]) = H3 at SN3 ⊢
        have S3 : Same H H3 := S1.trans SN3
        have hp3 := SN3 _ _ hp1
        have hpr3 := prs_mono hpr SN3.sameD SN3.tupK
        have hw3 := hw.mono S3
        -- a new pair upon the pile
        have fin : ∀ {f0 : List V} {t0 : List Say} {s : Say} {t u : Addr} {cc : Addr} {H4 : Hp} {r4 r5 r6 r7 : Option V}, Same H H4 → H4 p = some (.lst f0) → Paired (Pr W p H4) f0 t0 → t0.length ≤ i → szs t0 + s.sz ≤ 5 * (i + 1) → dps t0 + (s.dep + 1) ≤ i + 1 → (∀ z ∈ t0, Say.good nt z) → Say.good nt s → t ≠ p → H4 t = some (.tup [.ref u, .ref cc]) → Stm H4 (.ref u) s → cc ≠ p → H4 cc = some (.lst (bls (tru W s))) →
            ∃ (ps : List V) (ss : List Say) (o4 o5 o6 o7 : Option V), [some (.ref c), some (.ref a), some (.ref kd), some (.ref p), r4, r5, r6, r7] = [some (.ref c), some (.ref a), some (.ref kd), some (.ref p), o4, o5, o6, o7] ∧ Same H (upd H4 p (.lst (f0 ++ [.ref t]))) ∧ (upd H4 p (.lst (f0 ++ [.ref t]))) p = some (.lst ps) ∧
              Paired (Pr W p (upd H4 p (.lst (f0 ++ [.ref t])))) ps ss ∧ ss.length ≤ i + 1 ∧ szs ss ≤ 5 * (i + 1) ∧ dps ss ≤ i + 1 ∧ ∀ s ∈ ss, Say.good nt s := by
          intro f0 t0 s t u cc H4 r4 r5 r6 r7 S4 hp4 hpr4 hl4 hsz4 hdp4 hg4 hg nt' ht hst nc hcc
          have T4 : TupK H4 (upd H4 p (.lst (f0 ++ [.ref t]))) := TupK.lst (TupK.refl _) hp4
          refine ⟨f0 ++ [.ref t], t0 ++ [s], _, _, _, _, rfl, S4.set hp, upd_same, Paired.snoc (prs_mono hpr4 sameD_upd T4) ⟨t, .ref u, cc, rfl, nt', T4 _ _ ht, hst.mono T4, nc, keepL nc hcc⟩, by simp; omega, ?_, by rw [dps_app, dps_one]; exact hdp4, fun z m => ?_⟩
          · rw [szs_app]; simp only [szs, List.map_cons, List.map_nil, List.sum_cons, List.sum_nil] at hsz4 ⊢; omega
          · rcases List.mem_append.mp m with m | m
            · exact hg4 z m
            · rw [List.mem_singleton.mp m]; exact hg
        refine if_andH (H := H3) (fun H4 S34 => ?goB2) (fun hB hc => ?goP2)
        case goP2 =>
          walk_at "rd"
          refine ⟨(by show 0 ≤ sizeLine; decide), fun p4 hp4' => ?_⟩
          walk_at "rd"
          have S34 : Same H3 (upd H3 p4 (.lst [])) := by walk_at "sm"
          generalize upd H3 p4 (.lst []) = H4 at S34 ⊢
          have S4 : Same H H4 := S3.trans S34
          have hp4 := S34 _ _ hp3
          have hpr4 := prs_mono hpr3 S34.sameD S34.tupK
          rcases snoc_cases ps with rfl | ⟨ps0, v1, rfl⟩
          · exact iteF (hB _ S34)
          obtain ⟨ss0, s1, rfl, hp0, t1, u1, c1, rfl, n1, e1, st1, m1, g1⟩ := snoc_inv hpr4
          have en : (!(ps0 ++ [V.ref t1]).isEmpty) = true := by cases ps0 <;> rfl
          rw [en]
          refine iteT ?_
          walk_at "rd"
          refine rd_pop hp4 ?_
          have S5 : Same H (upd H4 p (.lst ps0)) := S4.set hp
          have hp5 : (upd H4 p (.lst ps0)) p = some (.lst ps0) := upd_same
          have T45 : TupK H4 (upd H4 p (.lst ps0)) := TupK.lst (TupK.refl _) hp4
          have hpr5 := prs_mono hp0 (sameD_upd (D := p) (o := .lst ps0)) T45
          have e15 := T45 _ _ e1
          have st15 := st1.mono T45
          have g15 : (upd H4 p (.lst ps0)) c1 = some (.lst (bls (tru W s1))) := keepL m1 g1
          generalize upd H4 p (.lst ps0) = H5 at S5 hp5 hpr5 e15 st15 g15 ⊢
          walk_at "rd"
          refine ⟨(by show 2 ≤ sizeLine; decide), fun t ht => ?_⟩
          walk_at "rd"
          refine ⟨k, c1, a, W, _, rfl, hw.mono (S5.new ht), hv, hz, hdz, keepN ht g15, tru_len W s1, fun cc H6 S6 hcc0 hcc => ?_⟩
          walk_at "rd"
          refine ⟨(by show 2 ≤ sizeLine; decide), fun t2 ht2 => ?_⟩
          walk_at "rd"
          have npt : p ≠ t := ne_of_none hp5 ht
          have hp6 : H6 p = some (.lst ps0) := S6 _ _ (by walk_at "hp")
          have npt2 : p ≠ t2 := ne_of_none hp6 ht2
          have ncc : cc ≠ p := fun e => by rw [e, upd_ne npt, hp5] at hcc0; cases hcc0
          have hl9 := hpl
          simp only [List.length_append, List.length_cons, List.length_nil] at hl9 hsl
          have hk3 := (in3 _ _ _ _).mp hc
          refine rd_append (by walk_at "hp") (smallLt (by omega)) ?_
          have S56 : Same H5 (upd H6 t2 (.tup [.ref t, .ref cc])) := fun b o e => keepN ht2 (S6 _ _ (keepN ht e))
          refine fin (s := oneS k s1) (u := t) (cc := cc) (S5.trans S56) (by walk_at "hp") (prs_mono hpr5 S56.sameD S56.tupK) (by omega) ?_ (by rw [oneS_dep]; simp only [dps_app, dps_one] at hdps; omega) (fun z m => hgood z (by simp [m])) (oneS_good (hk3.imp_right fun z => z.imp_right fun e => ⟨e, ?_⟩) (hgood s1 (by simp))) npt2.symm upd_same
            (oneS_stm hk3 (keepN ht2 (S6 _ _ upd_same)) (st15.mono S56.tupK)) ncc (keepN ht2 (by rw [← one_tru]; exact hcc))
          · have := oneS_sz k s1
            rw [szs_app] at hssz
            simp only [szs, List.map_cons, List.map_nil, List.sum_cons, List.sum_nil] at hssz ⊢
            omega
          · cases hq : nt with
            | true => rfl
            | false => exact absurd (e ▸ hkm) (hnt hq)
        case goB2 =>
          have S4 : Same H H4 := S3.trans S34
          have hp3 := S34 _ _ hp3
          have hpr3 := prs_mono hpr3 S34.sameD S34.tupK
          have hw3 := hw.mono S4
          clear S3
          walk_at "rd"
          refine if_dec (fun hd => ?_) (fun hd => ?_)
          · walk_at "rd"
            refine ⟨(by show 2 ≤ sizeLine; decide), fun t ht => ?_⟩
            walk_at "rd"
            refine ⟨"dark", lm, a, W, rfl, hw3.mono (by walk_at "sm"), hz, fun cc H5 S5 hcc0 hcc => ?_⟩
            walk_at "rd"
            refine ⟨(by show 2 ≤ sizeLine; decide), fun t2 ht2 => ?_⟩
            walk_at "rd"
            have npt : p ≠ t := ne_of_none hp3 ht
            have hp4 : H5 p = some (.lst ps) := S5 _ _ (by walk_at "hp")
            have npt2 : p ≠ t2 := ne_of_none hp4 ht2
            have ncc : cc ≠ p := fun e => by rw [e, upd_ne npt, hp3] at hcc0; cases hcc0
            refine rd_append (by walk_at "hp") (smallLt (by omega)) ?_
            refine fin (s := .dark lm) (u := t) (cc := cc) (Same.new (Same.trans (by walk_at "sm") S5) ht2) (by walk_at "hp") (prs_mono hpr3 (fun b o _ e => keepN ht2 (S5 _ _ (keepN ht e))) (fun b o e => keepN ht2 (S5 _ _ (keepN ht e)))) hsl (by simp only [Say.sz]; omega) (by simp only [Say.dep]; omega) hgood hlm1 npt2.symm upd_same (.dark (keepN ht2 (S5 _ _ upd_same))) ncc (keepN ht2 (by rw [← lampT_dark]; exact hcc))
          · walk_at "rd"
            refine ⟨(by show 2 ≤ sizeLine; decide), fun t ht => ?_⟩
            walk_at "rd"
            refine ⟨"lamp", lm, a, W, rfl, hw3.mono (by walk_at "sm"), hz, fun cc H5 S5 hcc0 hcc => ?_⟩
            walk_at "rd"
            refine ⟨(by show 2 ≤ sizeLine; decide), fun t2 ht2 => ?_⟩
            walk_at "rd"
            have npt : p ≠ t := ne_of_none hp3 ht
            have hp4 : H5 p = some (.lst ps) := S5 _ _ (by walk_at "hp")
            have npt2 : p ≠ t2 := ne_of_none hp4 ht2
            have ncc : cc ≠ p := fun e => by rw [e, upd_ne npt, hp3] at hcc0; cases hcc0
            refine rd_append (by walk_at "hp") (smallLt (by omega)) ?_
            refine fin (s := .lamp lm) (u := t) (cc := cc) (Same.new (Same.trans (by walk_at "sm") S5) ht2) (by walk_at "hp") (prs_mono hpr3 (fun b o _ e => keepN ht2 (S5 _ _ (keepN ht e))) (fun b o e => keepN ht2 (S5 _ _ (keepN ht e)))) hsl (by simp only [Say.sz]; omega) (by simp only [Say.dep]; omega) hgood hlm1 npt2.symm upd_same (.lamp (keepN ht2 (S5 _ _ upd_same))) ncc (keepN ht2 (by rw [← lampT_lamp]; exact hcc))
    · rintro σ H1 ⟨ps, ss, o4, o5, o6, o7, rfl, S1, hp1, hpr, hsl, hssz, hdps, hgood⟩
      have hpl := Paired.length hpr
      rw [hnl] at hsl hssz hdps
      walk_at "rd"
      refine ⟨(by show 0 ≤ sizeLine; decide), fun e he => ?_⟩
      walk_at "rd"
      have S12 : Same H1 (upd H1 e (.lst [])) := by walk_at "sm"
      generalize upd H1 e (.lst []) = H2 at S12 ⊢
      have S2 : Same H H2 := S1.trans S12
      have hp2 := S12 _ _ hp1
      have hpr2 := prs_mono hpr S12.sameD S12.tupK
      cases hem : ps.isEmpty with
      | true =>
        refine iteT ?_
        walk_at "rd"
        refine ⟨(by show 2 ≤ sizeLine; decide), fun t ht => ?_⟩
        walk_at "rd"
        refine ⟨"lamp", 1, a, W, rfl, hw.mono (S2.new ht), hz, fun cc H5 S5 hcc0 hcc => ?_⟩
        walk_at "rd"
        refine ⟨(by show 2 ≤ sizeLine; decide), fun t2 ht2 => ?_⟩
        walk_at "rd"
        refine q t2 cc (.ref t) (.lamp 1) _ (Same.new (Same.trans (by walk_at "sm") S5) ht2) upd_same (.lamp (keepN ht2 (S5 _ _ upd_same))) (keepN ht2 (by rw [← lampT_lamp]; exact hcc)) (by simp only [Say.sz]; omega) (by simp only [Say.dep]; omega) (by simp only [Say.good]; decide)
      | false =>
        refine iteF ?_
        have hne : ps.length ≠ 0 := fun z => by rw [List.length_eq_zero_iff.mp z] at hem; cases hem
        walk_at "rd"
        refine ⟨fun m σ H1 => ∃ (ps : List V) (ss : List Say) (o4 o5 o6 o7 : Option V), σ = [some (.ref c), some (.ref a), some (.ref kd), some (.ref p), o4, o5, o6, o7] ∧ Same H H1 ∧ H1 p = some (.lst ps) ∧ Paired (Pr W p H1) ps ss ∧ m = ps.length ∧ ps.length ≠ 0 ∧ ps.length ≤ 90 ∧ szs ss + 2 * ss.length ≤ 7 * ns.length ∧ dps ss ≤ ns.length ∧ ∀ s ∈ ss, Say.good nt s,
          ⟨_, ps, ss, _, _, _, _, rfl, S2, hp2, hpr2, rfl, hne, by omega, by omega, hdps, hgood⟩, ?_⟩
        clear hgood hdps hssz hsl hpr2 hp2 hpr hp1 hem hne hpl S12 S2 S1
        rintro m σ H1 ⟨ps, ss, o4, o5, o6, o7, rfl, S1, hp1, hpr, rfl, hne, hpz, hssz, hdps, hgood⟩
        have hpl := Paired.length hpr
        walk_at "rd"
        refine if_dec (fun hgt => ?_) (fun hle => ?_)
        · refine ⟨fun σ' H' => ∃ m', m' < ps.length ∧ ∃ (ps : List V) (ss : List Say) (o4 o5 o6 o7 : Option V), σ' = [some (.ref c), some (.ref a), some (.ref kd), some (.ref p), o4, o5, o6, o7] ∧ Same H H' ∧ H' p = some (.lst ps) ∧ Paired (Pr W p H') ps ss ∧ m' = ps.length ∧ ps.length ≠ 0 ∧ ps.length ≤ 90 ∧ szs ss + 2 * ss.length ≤ 7 * ns.length ∧ dps ss ≤ ns.length ∧ ∀ s ∈ ss, Say.good nt s, fun _ _ h => h, ?_⟩
          walk_at "rd"
          refine ⟨(by show 2 ≤ sizeLine; decide), fun p2 hp2' => ?_⟩
          walk_at "rd"
          have SN : Same H1 (upd H1 p2 (.lst [.str "and", .str "or"])) := by walk_at "sm"
          have hq2 : (upd H1 p2 (.lst [.str "and", .str "or"])) p2 = some (.lst [.str "and", .str "or"]) := upd_same
          generalize upd H1 p2 (.lst [.str "and", .str "or"]) = H2 at SN hq2 ⊢
          have S2 : Same H H2 := S1.trans SN
          have hp2 := SN _ _ hp1
          have hpr2 := prs_mono hpr SN.sameD SN.tupK
          walk_at "rd"
          obtain ⟨k, hk, hkk⟩ : ∃ k : Str, atI [V.str "and", .str "or"] (((ps.length : Nat) : Int) % 2) = some (.str k) ∧ (k = "and" ∨ k = "or") := by
            have h : ((ps.length : Nat) : Int) % 2 = 0 ∨ ((ps.length : Nat) : Int) % 2 = 1 := by omega
            rcases h with e | e <;> rw [e]
            · exact ⟨"and", rfl, .inl rfl⟩
            · exact ⟨"or", rfl, .inr rfl⟩
          refine rd_ixL (SqL.of hq2) hk ?_
          walk_at "rd"
          rcases snoc_cases ps with rfl | ⟨ps0, v2, rfl⟩
          · simp at hgt
          rcases snoc_cases ps0 with rfl | ⟨ps1, v1, rfl⟩
          · simp at hgt
          obtain ⟨ss0, s2, rfl, hp0, q2⟩ := snoc_inv hpr2
          obtain ⟨ss1, s1, rfl, hp1'', q1⟩ := snoc_inv hp0
          have hl9 := hpl
          simp only [List.length_append, List.length_cons, List.length_nil] at hl9 hpz hssz
          refine ⟨p, k, W, ps1, v1, v2, s1, s2, rfl, hkk, hz, hp2, q1, q2, by omega, fun v H3 D3 T3 hp3 pr3 => ?_⟩
          refine ⟨(ps1 ++ [v]).length, by simp, ps1 ++ [v], ss1 ++ [joinS k s1 s2], _, _, _, _, rfl, fun b o e => D3 b o (ne_of_none e hp) (S2 b o e), hp3, Paired.snoc (prs_mono hp1'' D3 T3) pr3, rfl, by simp, by simp; omega, ?_, ?_, fun z m => ?_⟩
          · rw [szs_app] at hssz ⊢
            rw [szs_app] at hssz
            have := joinS_sz k s1 s2
            simp only [szs, List.map_cons, List.map_nil, List.sum_cons, List.sum_nil, List.length_append, List.length_cons, List.length_nil] at hssz ⊢
            omega
          · have := joinS_dep k s1 s2
            simp only [dps_app, dps_one] at hdps ⊢
            omega
          · rcases List.mem_append.mp m with m | m
            · exact hgood z (by simp [m])
            · rw [List.mem_singleton.mp m]; exact joinS_good (hgood s1 (by simp)) (hgood s2 (by simp))
        · walk_at "rd"
          obtain ⟨v, rfl⟩ : ∃ v, ps = [v] := by
            match ps, hne, hle with
            | [v], _, _ => exact ⟨v, rfl⟩
            | [], h, _ => exact absurd rfl h
            | _ :: _ :: _, _, h => exact absurd (by simp only [List.length_cons]; omega) h
          cases hpr with
          | @cons _ s _ _ ha ht =>
            cases ht
            obtain ⟨t, u, cc, rfl, n1, e1, st1, m1, g1⟩ := ha
            refine rd_ixL (SqL.of hp1) (atI_zero _ _) ?_
            refine q t cc u s H1 S1 e1 st1 g1 ?_ (by rw [dps_one] at hdps; omega) (hgood s (by simp))
            simp only [szs, List.map_cons, List.map_nil, List.sum_cons, List.sum_nil, List.length_cons, List.length_nil] at hssz
            omega
end
end My
set_option Elab.async false
set_option linter.all false
set_option maxRecDepth 100000
set_option maxHeartbeats 4000000
namespace My
open PySem L2
seal PE PT PW PA PS PSs PC PG PGs PI PO PPs PTs
local macro_rules | `(tactic| walk_at "ne") => `(tactic| first | assumption | exact Ne.symm (by assumption))
local macro_rules | `(tactic| walk_at "hp") => `(tactic| first | assumption | (with_reducible exact upd_same) | (with_reducible apply keepN; assumption; walk_at "hp") | (with_reducible apply keepL; walk_at "ne"; walk_at "hp"))
local macro_rules | `(tactic| walk_at "sm") => `(tactic| first | assumption | (with_reducible exact Same.refl _) | (with_reducible refine Same.new ?_ (by assumption); walk_at "sm") | (with_reducible refine Same.set ?_ (by assumption); walk_at "sm"))
local macro_rules | `(tactic| walk_at "tk") => `(tactic| first | assumption | (with_reducible exact TupK.refl _) | (with_reducible refine TupK.new ?_ (by assumption); walk_at "tk") | (with_reducible refine TupK.lst ?_ (by walk_at "hp"); walk_at "tk") | (with_reducible refine TupK.dK ?_ (by walk_at "hp"); walk_at "tk") | (with_reducible refine Same.tupK ?_; walk_at "sm"))
local macro_rules | `(tactic| walk_at "sl") => `(tactic| first | assumption | (with_reducible apply SqL.of; walk_at "hp") | (with_reducible apply sameSeq; assumption; walk_at "sm"))
local macro_rules | `(tactic| walk_at "st") => `(tactic| first | assumption | (with_reducible apply SqT.of; walk_at "hp"))
local macro_rules | `(tactic| walk_at "cd") => `(tactic| first | (show (0 : Int) < _; first | decide | assumption | omega) | exact ⟨by decide, by decide⟩ | exact ⟨by decide, by decide, by decide⟩ | exact Or.inl ⟨by decide, by decide⟩ | exact Or.inr ⟨by decide, by decide⟩ | exact Or.inl ⟨by omega, by omega⟩ | exact Or.inr ⟨by omega, by omega⟩ | exact ⟨by omega, by omega⟩)
local macro_rules | `(tactic| walk_at "rd1") => `(tactic| with_reducible first
  | (apply rd_var; with_unfolding_all rfl) | apply rd_op | apply rd_C | apply rd_seq | apply rd_asg | apply rd_name | apply rd_cons | apply rd_nil | apply rd_I0 | apply rd_test | apply rd_bl | apply rd_tB
  | (apply rd_ixT; (walk_at "st"); (with_unfolding_all rfl)) | apply rd_slice | apply rd_noPart | apply rd_part | apply rd_int | apply rd_CB | apply rd_if | apply rd_call | apply rd_ret | apply rd_drop | apply rd_tup | apply rd_lst | apply rd_bm | apply rd_bm0 | (apply rd_ty; (walk_at "hp"))
  | (apply rd_I; (with_unfolding_all walk_at "cd")) | (apply rd_eq; (with_unfolding_all rfl)) | (apply rd_ne; (with_unfolding_all rfl)) | apply rd_and | apply rd_or | apply rd_not | apply rd_andV | apply rd_orV | apply rd_notV | apply rd_ifE
  | (apply rd_lenL; (walk_at "sl")) | (apply rd_lenT; (walk_at "st")) | apply rd_dnew | apply rd_dput | apply rd_din | apply rd_next | apply rd_forL | apply rd_forV | apply rd_compL | apply rd_compZ | apply rd_compT | apply rd_compR | apply rd_kget | apply rd_dget | apply rd_listRev | apply rd_chain | apply rd_ints | apply rd_un | apply rd_U | apply rd_kin | apply rd_forZT | apply rd_pcons | apply rd_pnil | (apply rd_gtup; (walk_at "st"); (with_unfolding_all rfl)) | apply rd_gcons | apply rd_gnil | apply rd_fldC | apply rd_sfldC | apply rd_meth | apply rd_make | apply rd_compE | apply rd_tryset | apply rd_tryas | apply rd_raise | apply rd_forR3 | apply rd_forR2 | apply rd_forR1 | (apply rd_itL; (walk_at "sl")) | (apply rd_neN; (walk_at "sl"); (walk_at "sl")) | (apply rd_eqN; (walk_at "sl"); (walk_at "sl")))
local macro_rules | `(tactic| walk_at "rd") => `(tactic| repeat walk_at "rd1")
local macro_rules | `(tactic| walk_at "rd0") => `(tactic| try dsimp only [cxOf, Cx.nox, Cx.wish])
section
variable {P : Program} {w : World} {K : PySem.W.Frag} {mg : Str → Option Value} {base : Heap} {f : Addr} {fd : FuncData}
theorem ok_world_of (D : DefIn K mg "_law_world_of" s__law_world_of ["_law_count", "_law_first", "_law_second"] f fd) (B : Blt mg) (h__law_draw : Has P w K mg base "_law_draw" 1 ["_law_number", "_law_prime", "_law_many"] spDraw) :
    Has P w K mg base "_law_world_of" 2 ["_law_count", "_law_first", "_law_second"] spWorldOf := by
  have nd := sc__law_world_of.nd
  refine D.has (D.fn.ok sc__law_world_of (fun vs H Q E h => ?_) (fun cdv A outer s H vs Q E hr h => ?_))
  · obtain ⟨n, x, y, rfl, _⟩ := h
    rfl
  · obtain ⟨n, x, y, rfl, hn, q⟩ := h
    refine ⟨_, (pss_cons (ps_set (i := 3) nd rfl (Or.inl rfl) (pe_lst pa_nil))
      (pss_cons (ps_for PassesOwn.never rfl (pi_range1 rfl B.range (pa_cons (pv 0) pa_nil)) (pg_name (i := 4) nd rfl (Or.inl rfl)) (pss_cons (ps_set (i := 5) nd rfl (Or.inl rfl) (pe_lst pa_nil))
        (pss_cons (ps_set (i := 6) nd rfl (Or.inl rfl) (pe_lst pa_nil))
        (pss_cons (ps_for PassesOwn.never rfl (pi_range2 rfl B.range (pa_cons pe_int (pa_cons pe_int pa_nil))) (pg_name (i := 7) nd rfl (Or.inl rfl)) (pss_one (ps_if (pt_cmpR op_eq (pe_callH h__law_draw hr (pa_cons (pe_op op_add (pe_op op_add (pv 1) (pe_op op_mul pe_int (pv 4))) (pe_op op_mul pe_int (pv 7))) (pa_cons pe_int (pa_cons pe_int pa_nil)))) pe_int (nomark _)) (pss_cons (ps_set (i := 8) nd rfl (Or.inl rfl) (pe_op op_mod (pe_op op_add (pv 1) (pv 4)) (pe_op op_add (pe_callB (call_lenK K) rfl B.len PySem.boot_len (pa_cons (pv 5) pa_nil)) pe_int)))
            (pss_one (ps_expr (pe_bmK K PySem.F.plainAttrs_list PySem.F.slot_list_insert PySem.F.type_list_insert mt_insert (pv 5) (pa_cons (pv 8) (pa_cons (pe_ix (ix_listK K) (pe_lst (pa_cons pe_int (pa_cons pe_int (pa_cons pe_int pa_nil)))) (pe_op op_sub (pv 7) pe_int) (fun _ _ => rfl)) pa_nil)))))) pss_nil)))
        (pss_cons (ps_for PassesOwn.never rfl (pi_range1 rfl B.range (pa_cons (pv 0) pa_nil)) (pg_name (i := 9) nd rfl (Or.inl rfl)) (pss_one (ps_if (pt_cmpR op_eq (pe_callH h__law_draw hr (pa_cons (pe_op op_add (pe_op op_add (pv 2) (pe_op op_mul pe_int (pv 4))) (pe_op op_mul pe_int (pv 9))) (pa_cons pe_int (pa_cons pe_int pa_nil)))) pe_int (nomark _)) (pss_one (ps_expr (pe_bmK K PySem.F.plainAttrs_list PySem.F.slot_list_insert PySem.F.type_list_insert mt_insert (pv 6) (pa_cons (pe_op op_mod (pe_op op_add (pe_op op_add (pv 2) (pe_op op_mul pe_int (pv 4))) (pe_op op_mul pe_int (pv 9))) (pe_op op_add (pe_callB (call_lenK K) rfl B.len PySem.boot_len (pa_cons (pv 6) pa_nil)) pe_int)) (pa_cons (pv 9) pa_nil))))) pss_nil)))
        (pss_one (ps_expr (pe_bmK K PySem.F.plainAttrs_list PySem.F.slot_list_append PySem.F.type_list_append mt_append (pv 3) (pa_cons (pe_tup (pa_cons (pv 5) (pa_cons (pv 6) pa_nil))) pa_nil)))))))))
      (pss_one (ps_ret (pv 3))))), ?_⟩
    walk_at "rd0"
    walk_at "rd"
    refine ⟨(by show 0 ≤ sizeLine; decide), fun wd hwd => ?_⟩
    walk_at "rd"
    refine for_rng1 (by omega) (fun i σ H1 => ∃ (rs : List V) (W : List Rm) (o4 o5 o6 o7 o8 o9 : Option V), σ = [some (.int n), some (.int x), some (.int y), some (.ref wd), o4, o5, o6, o7, o8, o9] ∧ Same H H1 ∧ H1 wd = some (.lst rs) ∧ Paired (RmD wd H1) rs W ∧ W.length = i ∧ Small n W)
      ⟨[], [], none, none, none, none, none, none, rfl, by walk_at "sm", upd_same, .nil, rfl, fun r h => by cases h⟩ ?_ ?_
    · rintro i σ H1 hi ⟨rs, W, o4, o5, o6, o7, o8, o9, rfl, S1, hw1, hpr, hwl, hsm⟩
      have hrl := Paired.length hpr
      walk_at "rd"
      refine ⟨(by show 0 ≤ sizeLine; decide), fun l hl => ?_⟩
      walk_at "rd"
      refine ⟨(by show 0 ≤ sizeLine; decide), fun d hd => ?_⟩
      have hd1 : H1 d = none := (none_upd hd).1
      have ndl : d ≠ l := (none_upd hd).2
      have nlw : wd ≠ l := ne_of_none hw1 hl
      have ndw : wd ≠ d := ne_of_none hw1 hd1
      walk_at "rd"
      refine for_rng2 (lo := 1) (hi := 4) (n := 3) (by omega) (by omega) rfl (fun j σ H2 => ∃ (lit : List Int) (o7 o8 : Option V), σ = [some (.int n), some (.int x), some (.int y), some (.ref wd), some (.int i), some (.ref l), some (.ref d), o7, o8, o9] ∧ Same H1 H2 ∧ H2 l = some (.lst (lit.map V.int)) ∧ H2 d = some (.lst []) ∧ lit.length ≤ j)
        ⟨[], _, _, rfl, by walk_at "sm", keepN hd upd_same, upd_same, Nat.le_refl _⟩ ?_ ?_
      · rintro j σ H2 hj ⟨lit, o7, o8, rfl, S2, hl2, hd2, hll⟩
        have hlm : (lit.map V.int).length = lit.length := List.length_map _
        walk_at "rd"
        refine ⟨_, _, _, rfl, by decide, by decide, ?_⟩
        walk_at "rd"
        refine if_dec (fun _ => ?_) (fun _ => ?_)
        · walk_at "rd"
          refine ⟨(by show 3 ≤ sizeLine; decide), fun p hp => ?_⟩
          walk_at "rd"
          obtain ⟨lm, hlm', _⟩ := lamp3' hj
          refine rd_ixL (SqL.of upd_same) hlm' ?_
          walk_at "rd"
          have hlp : (upd H2 p (.lst [.int 1, .int 2, .int 1000000007])) l = some (.lst (lit.map V.int)) := keepN hp hl2
          have hm := mod_in (x + (i : Int)) (lit.map V.int).length
          refine rd_insert hlp hm.1 hm.2 (smallLt (by omega)) ?_
          rw [ins_map]
          refine ⟨_, _, _, rfl, (S2.new hp).set hl, upd_same, keepL ndl (keepN hp hd2), ?_⟩
          rw [ins_len]
          omega
        · walk_at "rd"
          exact ⟨lit, _, _, rfl, S2, hl2, hd2, by omega⟩
      · rintro σ H2 ⟨lit, o7, o8, rfl, S2, hl2, hd2, hll⟩
        walk_at "rd"
        refine for_rng1 (by omega) (fun j σ H3 => ∃ (ds : List Nat) (o9 : Option V), σ = [some (.int n), some (.int x), some (.int y), some (.ref wd), some (.int i), some (.ref l), some (.ref d), o7, o8, o9] ∧ Same H1 H3 ∧ H3 l = some (.lst (lit.map V.int)) ∧ H3 d = some (.lst (nts ds)) ∧ ds.length ≤ j ∧ ∀ z ∈ ds, z < n)
          ⟨[], _, rfl, S2, hl2, hd2, Nat.le_refl _, fun z h => by cases h⟩ ?_ ?_
        · rintro j σ H3 hj ⟨ds, o9, rfl, S3, hl3, hd3, hdl, hdn⟩
          have hlm : (nts ds).length = ds.length := List.length_map _
          walk_at "rd"
          refine ⟨_, _, _, rfl, by decide, by decide, ?_⟩
          walk_at "rd"
          refine if_dec (fun _ => ?_) (fun _ => ?_)
          · walk_at "rd"
            have hm := mod_in (y + 3 * (i : Int) + 5 * (j : Int)) (nts ds).length
            refine rd_insert hd3 hm.1 hm.2 (smallLt (by omega)) ?_
            rw [ins_map (fun (d : Nat) => V.int (d : Int))]
            refine ⟨_, _, rfl, S3.set hd1, keepL ndl.symm hl3, upd_same, ?_, fun z m => ?_⟩
            · rw [ins_len]
              omega
            · rcases ins_mem m with e | m
              · omega
              · exact hdn z m
          · walk_at "rd"
            exact ⟨ds, _, rfl, S3, hl3, hd3, by omega, hdn⟩
        · rintro σ H3 ⟨ds, o9, rfl, S3, hl3, hd3, hdl, hdn⟩
          have hw3' := S3 _ _ hw1
          walk_at "rd"
          refine ⟨(by show 2 ≤ sizeLine; decide), fun t ht => ?_⟩
          walk_at "rd"
          have hw3 : (upd H3 t (.tup [.ref l, .ref d])) wd = some (.lst rs) := keepN ht (S3 _ _ hw1)
          refine rd_append hw3 (smallLt (by omega)) ?_
          have S4 : Same H1 (upd H3 t (.tup [.ref l, .ref d])) := S3.new ht
          have T5 : TupK (upd H3 t (.tup [.ref l, .ref d])) (upd (upd H3 t (.tup [.ref l, .ref d])) wd (.lst (rs ++ [.ref t]))) := TupK.lst (TupK.refl _) hw3
          refine ⟨_, W ++ [⟨lit, ds⟩], _, _, _, _, _, _, rfl, (S1.trans S4).set hwd, upd_same, Paired.snoc (rms_mono (rms_mono hpr S4.sameD S4.tupK) sameD_upd T5) ⟨t, l, d, rfl, nlw.symm, ndw.symm, T5 _ _ upd_same, keepL nlw.symm (keepN ht hl3), keepL ndw.symm (keepN ht hd3)⟩, by simp [hwl], fun r m => ?_⟩
          rcases List.mem_append.mp m with m | m
          · exact hsm r m
          · rw [List.mem_singleton.mp m]
            exact ⟨hdn, hdl, hll⟩
    · rintro σ H1 ⟨rs, W, o4, o5, o6, o7, o8, o9, rfl, S1, hw1, hpr, hwl, hsm⟩
      walk_at "rd"
      exact q wd W H1 S1 hwd ⟨rs, hw1, Paired.mapP hpr fun _ _ z => z.rm⟩ hwl hsm
theorem ok_copy (D : DefIn K mg "_law_copy_of" s__law_copy_of ["_law_world"] f fd) (B : Blt mg) : Has P w K mg base "_law_copy_of" 1 ["_law_world"] spCopy := by
  have nd := sc__law_copy_of.nd
  refine D.has (D.fn.ok sc__law_copy_of (fun vs H Q E h => ?_) (fun cdv A outer s H vs Q E hr h => ?_))
  · obtain ⟨a, W, rfl, _⟩ := h
    rfl
  · obtain ⟨a, W, rfl, ⟨rs, ha, hp⟩, hz, q⟩ := h
    have hlen := Paired.length hp
    refine ⟨_, (pss_one (ps_ret (pe_compB ["_law_room"] 1 [] (pi_listK K (pv 0)) (fun _ _ _ _ _ => (pg_name (i := 0) (show List.Nodup (["_law_room"] : List Str) by decide +kernel) rfl (Or.inl rfl))) (fun _ _ _ _ _ => pts_nil) (fun _ _ _ _ _ => (pe_tup (pa_cons (pe_callTy (call_listK K) rfl B.list_ PySem.Pv.boot_list (pa_cons (pe_ix (ix_tupK K) (pv 0) pe_int (fun _ _ => rfl)) pa_nil)) (pa_cons (pe_callTy (call_listK K) rfl B.list_ PySem.Pv.boot_list (pa_cons (pe_ix (ix_tupK K) (pv 0) pe_int (fun _ _ => rfl)) pa_nil)) pa_nil))))))), ?_⟩
    walk_at "rd0"
    walk_at "rd"
    refine comp_list (SqL.of ha) (by omega) fun D hD => ⟨fun i y H => ∃ r, W[i]? = some r ∧ RmD D H y r, fun i y H H' ⟨r, e, z⟩ S T => ⟨r, e, z.mono S T⟩, fun i x H2 ys C hx S2 hd hC => ?_, fun ys H' S' hD' hl' hR => ?_⟩
    · obtain ⟨r, hr', ra⟩ := Paired.get1 hp hx
      obtain ⟨c, l, d, rfl, h1, h2, h3⟩ := ra.mono S2
      walk_at "rd"
      refine rd_listL (SqL.of h2) fun l' hl' => ?_
      walk_at "rd"
      refine rd_listL (SqL.of (keepN hl' h3)) fun d' hd' => ?_
      walk_at "rd"
      refine ⟨(by show 2 ≤ sizeLine; decide), fun t ht => ?_⟩
      have nl : l' ≠ D := (ne_of_none hd hl').symm
      have ndd : d' ≠ D := (ne_of_none hd (none_upd hd').1).symm
      exact hC _ _ (by walk_at "sm") ⟨r, hr', t, l', d', rfl, nl, ndd, upd_same, by walk_at "hp", by walk_at "hp"⟩
    · exact q D H' S' hD (world_by hD' (by omega) hR)
theorem ok_moved_world (D : DefIn K mg "_law_moved_world" s__law_moved_world ["_law_world", "_law_far"] f fd) (B : Blt mg) : Has P w K mg base "_law_moved_world" 1 ["_law_world", "_law_far"] spMovedW := by
  have nd := sc__law_moved_world.nd
  refine D.has (D.fn.ok sc__law_moved_world (fun vs H Q E h => ?_) (fun cdv A outer s H vs Q E hr h => ?_))
  · obtain ⟨a, k, W, rfl, _⟩ := h
    rfl
  · obtain ⟨a, k, W, rfl, ⟨rs, ha, hp⟩, hz, hlz, q⟩ := h
    have hlen := Paired.length hp
    refine ⟨_, (pss_one (ps_ret (pe_compB ["_law_room", "_law_far"] 1 [1] (pi_listK K (pv 0)) (fun _ _ _ _ _ => (pg_name (i := 0) (show List.Nodup (["_law_room", "_law_far"] : List Str) by decide +kernel) rfl (Or.inl rfl))) (fun _ _ _ _ _ => pts_nil) (fun _ _ _ _ _ => (pe_tup (pa_cons (pe_compB ["_law_lamp", "_law_far"] 1 [1] (pi_listK K (pe_ix (ix_tupK K) (pv 0) pe_int (fun _ _ => rfl))) (fun _ _ _ _ _ => (pg_name (i := 0) (show List.Nodup (["_law_lamp", "_law_far"] : List Str) by decide +kernel) rfl (Or.inl rfl))) (fun _ _ _ _ _ => pts_nil) (fun _ _ _ _ _ => (pe_op op_add (pv 0) (pv 1)))) (pa_cons (pe_callTy (call_listK K) rfl B.list_ PySem.Pv.boot_list (pa_cons (pe_ix (ix_tupK K) (pv 0) pe_int (fun _ _ => rfl)) pa_nil)) pa_nil))))))), ?_⟩
    walk_at "rd0"
    walk_at "rd"
    refine comp_list (SqL.of ha) (by omega) fun D hD => ⟨fun i y H => ∃ r, (shW k W)[i]? = some r ∧ RmD D H y r, fun i y H H' ⟨r, e, z⟩ S T => ⟨r, e, z.mono S T⟩, fun i x H2 ys C hx S2 hd hC => ?_, fun ys H' S' hD' hl' hR => ?_⟩
    · obtain ⟨r, hr', ra⟩ := Paired.get1 hp hx
      obtain ⟨c, l, d, rfl, h1, h2, h3⟩ := ra.mono S2
      have hm : r ∈ W := List.mem_of_getElem? hr'
      have hll := hlz r hm
      have hlm : (r.lit.map V.int).length = r.lit.length := List.length_map _
      walk_at "rd"
      refine comp_list (SqL.of h2) (by omega) fun D2 hD2 => ⟨fun i y _ => ∃ n, r.lit[i]? = some n ∧ y = .int (n + k), fun i y H H' h _ _ => h, fun i x H3 ys C hx S3 hd3 hC => ?_, fun zs H3 S3 hD3 hl3 hR3 => ?_⟩
      · rw [List.getElem?_map] at hx
        obtain ⟨n, hn, rfl⟩ := Option.map_eq_some_iff.mp hx
        walk_at "rd"
        exact hC _ _ (Same.refl _) ⟨n, hn, rfl⟩
      · have ez : zs = (shR k r).lit.map V.int := by
          apply List.ext_getElem?
          intro j
          show zs[j]? = ((r.lit.map (· + k)).map V.int)[j]?
          rw [List.getElem?_map, List.getElem?_map]
          cases e : zs[j]? with
          | none =>
            have : r.lit[j]? = none := List.getElem?_eq_none_iff.mpr (by have := List.getElem?_eq_none_iff.mp e; omega)
            rw [this]
            rfl
          | some y =>
            obtain ⟨n, hn, rfl⟩ := hR3 j y e
            rw [hn]
            rfl
        have h13 := S3 _ _ h1
        walk_at "rd"
        refine rd_listL (SqL.of (S3 _ _ h3)) fun d' hd' => ?_
        walk_at "rd"
        refine ⟨(by show 2 ≤ sizeLine; decide), fun t ht => ?_⟩
        have nl : D2 ≠ D := (ne_of_none hd hD2).symm
        have ndd : d' ≠ D := (ne_of_none (S3 _ _ hd) hd').symm
        exact hC _ _ (Same.trans S3 (by walk_at "sm")) ⟨shR k r, by simp [shW, hr'], t, D2, d', rfl, nl, ndd, upd_same, keepN ht (keepN hd' (by rw [hD3, ez])), keepN ht upd_same⟩
    · exact q D H' S' hD (world_by hD' (by rw [shW_len]; omega) hR)
theorem ok_moved (D : DefIn K mg "_law_moved" s__law_moved ["_law_part", "_law_far"] f fd) (B : Blt mg) : ∀ d : Nat, Has P w K mg base "_law_moved" d ["_law_part", "_law_far"] (spMoved d)
  | 0 => by
    exact D.has ⟨fun vs H Q E ⟨_, _, _, _, _, hd, _⟩ => absurd hd (Nat.not_lt_zero _), fun _ _ _ _ _ _ _ _ _ _ _ _ _ ⟨_, _, _, _, _, hd, _⟩ => absurd hd (Nat.not_lt_zero _)⟩
  | d + 1 => by
    have h__law_moved := ok_moved D B d
    have nd := sc__law_moved.nd
    refine D.has (D.fn.ok sc__law_moved (fun vs H Q E h => ?_) (fun cdv A outer s H vs Q E hr h => ?_))
    · obtain ⟨v, k, s, rfl, _⟩ := h
      rfl
    · obtain ⟨v, k, s, rfl, st, hd, q⟩ := h
      obtain ⟨a, xs, rfl, e, hk⟩ := Stm.parts st
      refine ⟨_, (pss_cons (ps_if (pt_cmpR (op_inK K) (pe_ix (ix_tupK K) (pv 0) pe_int (fun _ _ => rfl)) (pe_lst (pa_cons pe_str (pa_cons pe_str pa_nil))) (by with_unfolding_all rfl)) (pss_one (ps_ret (pe_tup (pa_cons (pe_ix (ix_tupK K) (pv 0) pe_int (fun _ _ => rfl)) (pa_cons (pe_op op_add (pe_ix (ix_tupK K) (pv 0) pe_int (fun _ _ => rfl)) (pv 1)) pa_nil))))) pss_nil)
      (pss_one (ps_ret (pe_callTy (call_tupK K) rfl B.tuple_ PySem.Pv.boot_tuple (pa_cons (pe_op op_cat (pe_lst (pa_cons (pe_ix (ix_tupK K) (pv 0) pe_int (fun _ _ => rfl)) pa_nil)) (pe_compB ["_law_one", "_law_far"] 1 [1] (pi_tupK K (pe_slice (sl_tupK K) (pv 0) (po_some pe_int) po_none)) (fun _ _ _ _ _ => (pg_name (i := 0) (show List.Nodup (["_law_one", "_law_far"] : List Str) by decide +kernel) rfl (Or.inl rfl))) (fun _ _ _ _ _ => pts_nil) (fun _ _ _ _ _ => (pe_callH (hk := Nat.le_refl _) h__law_moved hr (pa_cons (pv 0) (pa_cons (pv 1) pa_nil)))))) pa_nil))))), ?_⟩
      walk_at "rd0"
      walk_at "rd"
      refine rd_ixT (SqT.of e) (atI_zero _ _) ?_
      walk_at "rd"
      refine ⟨(by show 2 ≤ sizeLine; decide), fun p hp => ?_⟩
      walk_at "rd"
      refine rd_inS (.inl (SqL.of upd_same)) rfl rfl ?_
      walk_at "rd"
      rw [leafB]
      cases hl : Say.leaf s with
      | true =>
        refine iteT ?_
        have e2 : (upd H p (.lst [.str "lamp", .str "dark"])) a = _ := keepN hp e
        cases st with
        | @lamp _ n e' =>
          rw [e] at e'
          cases e'
          walk_at "rd"
          refine ⟨(by show 2 ≤ sizeLine; decide), fun t ht => ?_⟩
          exact q _ _ (by walk_at "sm") (.lamp upd_same)
        | @dark _ n e' =>
          rw [e] at e'
          cases e'
          walk_at "rd"
          refine ⟨(by show 2 ≤ sizeLine; decide), fun t ht => ?_⟩
          exact q _ _ (by walk_at "sm") (.dark upd_same)
        | neg e h => cases hl
        | conj e h h' => cases hl
        | disj e h h' => cases hl
        | ev e h => cases hl
        | so e h => cases hl
      | false =>
        refine iteF ?_
        have ks := hk hl
        have kl := Paired.length ks
        have kf := kids_few s
        have e2 : (upd H p (.lst [.str "lamp", .str "dark"])) a = _ := keepN hp e
        have ks2 : Stms (upd H p (.lst [.str "lamp", .str "dark"])) xs s.kids := ks.mono (by walk_at "tk")
        have S2 : Same H (upd H p (.lst [.str "lamp", .str "dark"])) := by walk_at "sm"
        generalize upd H p (.lst [.str "lamp", .str "dark"]) = H2 at e2 ks2 S2 ⊢
        walk_at "rd"
        refine rd_ixT (SqT.of e2) (atI_zero _ _) ?_
        walk_at "rd"
        refine ⟨(by show 1 ≤ sizeLine; decide), fun p1 hp1 => ?_⟩
        walk_at "rd"
        have e3 : (upd H2 p1 (.lst [.str s.tag])) a = _ := keepN hp1 e2
        refine rd_slT1 (SqT.of e3) fun p2 hp2 => ?_
        walk_at "rd"
        refine comp_tup upd_same (by omega) fun D hD => ⟨fun i y H => ∃ t, s.kids[i]? = some t ∧ Stm H y (t.sh k), fun i y H H' ⟨t, e, z⟩ _ T => ⟨t, e, z.mono T⟩, fun i x H3 ys C hx S3 hd3 hC => ?_, fun zs H3 S3 hD3 hl3 hR3 => ?_⟩
        · obtain ⟨t, ht, sx⟩ := Paired.get1 ks2 hx
          have hm : t ∈ s.kids := List.mem_of_getElem? ht
          have hdt := kid_dep hm
          walk_at "rd"
          refine ⟨x, k, t, rfl, (sx.mono (by walk_at "tk")).mono S3.tupK, by omega, fun u H4 S4 su => ?_⟩
          exact hC _ _ S4 ⟨t, ht, su⟩
        · walk_at "rd"
          have hp3 : H3 p1 = some (.lst [.str s.tag]) := S3 _ _ (keepN hp2 upd_same)
          refine rd_cat hp3 hD3 (small (by simp; omega)) fun p4 hp4 => ?_
          walk_at "rd"
          refine rd_tupL (SqL.of upd_same) fun p5 hp5 => ?_
          have SF : Same H2 (upd (upd H3 p4 (.lst ([.str s.tag] ++ zs))) p5 (.tup ([.str s.tag] ++ zs))) := Same.new (Same.new (Same.trans (by walk_at "sm") S3) hp4) hp5
          refine q _ _ (S2.trans SF) (Stm.of_kids (xs := zs) (by rw [sh_leaf]; exact hl) (by rw [sh_tag]; exact upd_same) ?_)
          rw [sh_kids]
          refine Paired.of_get (by rw [List.length_map]; omega) fun i y t e1 e4 => ?_
          obtain ⟨t', e5, z⟩ := hR3 i y e1
          rw [List.getElem?_map, e5] at e4
          cases e4
          exact z.mono (by walk_at "tk")
end
end My
set_option Elab.async false
set_option linter.all false
set_option maxRecDepth 100000
set_option maxHeartbeats 4000000
namespace My
open PySem L2
seal PE PT PW PA PS PSs PC PG PGs PI PO PPs PTs
local macro_rules | `(tactic| walk_at "ne") => `(tactic| first | assumption | exact Ne.symm (by assumption))
local macro_rules | `(tactic| walk_at "hp") => `(tactic| first | assumption | (with_reducible exact upd_same) | (with_reducible apply keepN; assumption; walk_at "hp") | (with_reducible apply keepL; walk_at "ne"; walk_at "hp"))
local macro_rules | `(tactic| walk_at "sm") => `(tactic| first | assumption | (with_reducible exact Same.refl _) | (with_reducible refine Same.new ?_ (by assumption); walk_at "sm") | (with_reducible refine Same.set ?_ (by assumption); walk_at "sm"))
local macro_rules | `(tactic| walk_at "tk") => `(tactic| first | assumption | (with_reducible exact TupK.refl _) | (with_reducible refine TupK.new ?_ (by assumption); walk_at "tk") | (with_reducible refine TupK.lst ?_ (by walk_at "hp"); walk_at "tk") | (with_reducible refine TupK.dK ?_ (by walk_at "hp"); walk_at "tk") | (with_reducible refine Same.tupK ?_; walk_at "sm"))
local macro_rules | `(tactic| walk_at "sl") => `(tactic| first | assumption | (with_reducible apply SqL.of; walk_at "hp") | (with_reducible apply sameSeq; assumption; walk_at "sm"))
local macro_rules | `(tactic| walk_at "st") => `(tactic| first | assumption | (with_reducible apply SqT.of; walk_at "hp"))
local macro_rules | `(tactic| walk_at "cd") => `(tactic| first | (show (0 : Int) < _; first | decide | assumption | omega) | exact ⟨by decide, by decide⟩ | exact ⟨by decide, by decide, by decide⟩ | exact Or.inl ⟨by decide, by decide⟩ | exact Or.inr ⟨by decide, by decide⟩ | exact Or.inl ⟨by omega, by omega⟩ | exact Or.inr ⟨by omega, by omega⟩ | exact ⟨by omega, by omega⟩)
local macro_rules | `(tactic| walk_at "rd1") => `(tactic| with_reducible first
  | (apply rd_var; with_unfolding_all rfl) | apply rd_op | apply rd_C | apply rd_seq | apply rd_asg | apply rd_name | apply rd_cons | apply rd_nil | apply rd_I0 | apply rd_test | apply rd_bl | apply rd_tB
  | (apply rd_ixT; (walk_at "st"); (with_unfolding_all rfl)) | apply rd_slice | apply rd_noPart | apply rd_part | apply rd_int | apply rd_CB | apply rd_if | apply rd_call | apply rd_ret | apply rd_drop | apply rd_tup | apply rd_lst | apply rd_bm | apply rd_bm0 | (apply rd_ty; (walk_at "hp"))
  | (apply rd_I; (with_unfolding_all walk_at "cd")) | (apply rd_eq; (with_unfolding_all rfl)) | (apply rd_ne; (with_unfolding_all rfl)) | apply rd_and | apply rd_or | apply rd_not | apply rd_andV | apply rd_orV | apply rd_notV | apply rd_ifE
  | (apply rd_lenL; (walk_at "sl")) | (apply rd_lenT; (walk_at "st")) | apply rd_dnew | apply rd_dput | apply rd_din | apply rd_next | apply rd_forL | apply rd_forV | apply rd_compL | apply rd_compZ | apply rd_compT | apply rd_compR | apply rd_kget | apply rd_dget | apply rd_listRev | apply rd_chain | apply rd_ints | apply rd_un | apply rd_U | apply rd_kin | apply rd_forZT | apply rd_pcons | apply rd_pnil | (apply rd_gtup; (walk_at "st"); (with_unfolding_all rfl)) | apply rd_gcons | apply rd_gnil | apply rd_fldC | apply rd_sfldC | apply rd_meth | apply rd_make | apply rd_compE | apply rd_tryset | apply rd_tryas | apply rd_raise | apply rd_forR3 | apply rd_forR2 | apply rd_forR1 | (apply rd_itL; (walk_at "sl")) | (apply rd_neN; (walk_at "sl"); (walk_at "sl")) | (apply rd_eqN; (walk_at "sl"); (walk_at "sl")))
local macro_rules | `(tactic| walk_at "rd") => `(tactic| repeat walk_at "rd1")
local macro_rules | `(tactic| walk_at "rd0") => `(tactic| try dsimp only [cxOf, Cx.nox, Cx.wish])
section
variable {P : Program} {w : World} {K : PySem.W.Frag} {mg : Str → Option Value} {base : Heap} {f : Addr} {fd : FuncData}
theorem ok_truths_of (D : DefIn K mg "_law_truths_of" s__law_truths_of ["_law_world", "_law_statement"] f fd) (B : Blt mg) (h__law_behind_parts : Has P w K mg base "_law_behind_parts" 1 ["_law_statement"] spParts) (h__law_truth_of_lamp : Has P w K mg base "_law_truth_of_lamp" 1 ["_law_sort", "_law_lamp", "_law_world"] spLampT)
    (h__law_truth_of_two : Has P w K mg base "_law_truth_of_two" 1 ["_law_sort", "_law_first", "_law_second"] spTwo) (h__law_truth_by : Has P w K mg base "_law_truth_by" 2 ["_law_sort", "_law_truth", "_law_world"] spTruthBy) : Has P w K mg base "_law_truths_of" 3 ["_law_world", "_law_statement"] spTruths := by
  have nd := sc__law_truths_of.nd
  refine D.has (D.fn.ok sc__law_truths_of (fun vs H Q E h => ?_) (fun cdv A outer s H vs Q E hr h => ?_))
  · obtain ⟨a, v, W, s, rfl, _⟩ := h
    rfl
  · obtain ⟨a, v, W, s, rfl, hw, hv, hz, hdz, st, hsz, q⟩ := h
    have hpz := (Say.po_len s).1
    have hpo : s.post.length = s.po.length := List.length_reverse
    refine ⟨_, (pss_cons (ps_set (i := 2) nd rfl (Or.inl rfl) (pe_lst pa_nil))
      (pss_cons (ps_for PassesOwn.never rfl (pi_listK K (pe_callH h__law_behind_parts hr (pa_cons (pv 1) pa_nil))) (pg_name (i := 3) nd rfl (Or.inl rfl)) (pss_one (ps_if (pt_cmpR (op_inK K) (pe_ix (ix_tupK K) (pv 3) pe_int (fun _ _ => rfl)) (pe_lst (pa_cons pe_str (pa_cons pe_str pa_nil))) (by with_unfolding_all rfl)) (pss_one (ps_expr (pe_bmK K PySem.F.plainAttrs_list PySem.F.slot_list_append PySem.F.type_list_append mt_append (pv 2) (pa_cons (pe_callH h__law_truth_of_lamp hr (pa_cons (pe_ix (ix_tupK K) (pv 3) pe_int (fun _ _ => rfl)) (pa_cons (pe_ix (ix_tupK K) (pv 3) pe_int (fun _ _ => rfl)) (pa_cons (pv 0) pa_nil)))) pa_nil)))) (pss_one (ps_if (pt_cmpR (op_inK K) (pe_ix (ix_tupK K) (pv 3) pe_int (fun _ _ => rfl)) (pe_lst (pa_cons pe_str (pa_cons pe_str pa_nil))) (by with_unfolding_all rfl)) (pss_cons (ps_set (i := 4) nd rfl (Or.inl rfl) (pe_bm0K K PySem.F.plainAttrs_list PySem.F.slot_list_pop PySem.F.type_list_pop mt_pop (pv 2)))
            (pss_one (ps_expr (pe_bmK K PySem.F.plainAttrs_list PySem.F.slot_list_append PySem.F.type_list_append mt_append (pv 2) (pa_cons (pe_callH h__law_truth_of_two hr (pa_cons (pe_ix (ix_tupK K) (pv 3) pe_int (fun _ _ => rfl)) (pa_cons (pe_bm0K K PySem.F.plainAttrs_list PySem.F.slot_list_pop PySem.F.type_list_pop mt_pop (pv 2)) (pa_cons (pv 4) pa_nil)))) pa_nil))))) (pss_one (ps_expr (pe_bmK K PySem.F.plainAttrs_list PySem.F.slot_list_append PySem.F.type_list_append mt_append (pv 2) (pa_cons (pe_callH h__law_truth_by hr (pa_cons (pe_ix (ix_tupK K) (pv 3) pe_int (fun _ _ => rfl)) (pa_cons (pe_bm0K K PySem.F.plainAttrs_list PySem.F.slot_list_pop PySem.F.type_list_pop mt_pop (pv 2)) (pa_cons (pv 0) pa_nil)))) pa_nil)))))))))
      (pss_one (ps_ret (pe_ix (ix_listK K) (pv 2) pe_int (fun _ _ => rfl)))))), ?_⟩
    walk_at "rd0"
    walk_at "rd"
    refine ⟨(by show 0 ≤ sizeLine; decide), fun fo hfo => ?_⟩
    walk_at "rd"
    refine ⟨v, s, rfl, st.mono (by walk_at "tk"), hsz, fun l ps H2 S2 hl0 hl hps => ?_⟩
    have SH : Same H H2 := Same.trans (by walk_at "sm") S2
    have hf2 : H2 fo = some (.lst []) := S2 _ _ upd_same
    have nlf : l ≠ fo := (none_upd hl0).2
    have lps := Paired.length hps
    walk_at "rd"
    refine for_list (K := K) (a := l) (xs := ps) (fun i σ H1 => ∃ (fs : List V) (tt : List (List Bool)) (o3 o4 : Option V), σ = [some (.ref a), some v, some (.ref fo), o3, o4] ∧ Same H H1 ∧ H1 l = some (.lst ps) ∧ Stms H1 ps s.post ∧ H1 fo = some (.lst fs) ∧ Paired (TrAt fo H1) fs tt ∧ Fit W tt ∧
        tt.length ≤ i ∧ runG Say.arity (truF W) (s.post.drop i) tt = some [tru W s])
      ⟨[], [], none, none, rfl, SH, hl, hps, hf2, .nil, (fun _ h => by cases h), Nat.le_refl _, by rw [List.drop_zero, runG_tru]; rfl⟩
      (fun i σ H1 _ ⟨_, _, _, _, _, _, h, _⟩ => SqL.of h) ?_ ?_
    · rintro i x σ H1 hi ⟨fs, tt, o3, o4, rfl, S1, hl1, hps1, hf1, htr, hfit, htl, hrun⟩
      obtain ⟨t, ht, sx⟩ := Paired.get1 hps1 hi
      have hip : i < s.post.length := (List.getElem?_eq_some_iff.mp ht).1
      rw [drop_get ht] at hrun
      have hk := runG_need hrun
      have hlf := Paired.length htr
      have hw1 : WorldAt H1 a W := hw.mono S1
      have fin : ∀ {f0 : List V} {t0 : List (List Bool)} {b : List Bool} {c : Addr} {H3 : Hp} {o4 : Option V}, Same H H3 → H3 l = some (.lst ps) → TupK H1 H3 → H3 fo = some (.lst f0) → Paired (TrAt fo H3) f0 t0 → Fit W t0 → t0.length ≤ i → c ≠ fo → H3 c = some (.lst (bls b)) → b.length = W.length →
          runG Say.arity (truF W) (s.post.drop (i + 1)) (t0 ++ [b]) = some [tru W s] → ∃ (fs : List V) (tt : List (List Bool)) (p3 p4 : Option V), [some (.ref a), some v, some (.ref fo), some x, o4] = [some (.ref a), some v, some (.ref fo), p3, p4] ∧ Same H (upd H3 fo (.lst (f0 ++ [.ref c]))) ∧ (upd H3 fo (.lst (f0 ++ [.ref c]))) l = some (.lst ps) ∧ Stms (upd H3 fo (.lst (f0 ++ [.ref c]))) ps s.post ∧ (upd H3 fo (.lst (f0 ++ [.ref c]))) fo = some (.lst fs) ∧
            Paired (TrAt fo (upd H3 fo (.lst (f0 ++ [.ref c])))) fs tt ∧ Fit W tt ∧ tt.length ≤ i + 1 ∧ runG Say.arity (truF W) (s.post.drop (i + 1)) tt = some [tru W s] := by
        intro f0 t0 b c H3 o4 S3 hl3 T3 hf3 ht3 fit3 len3 nc hc hb es
        exact ⟨f0 ++ [.ref c], t0 ++ [b], _, _, rfl, S3.set hfo, keepL nlf hl3, Stms.mono hps1 (T3.trans (TupK.lst (TupK.refl _) hf3)), upd_same, Paired.snoc (trs_mono ht3 sameD_upd) ⟨c, rfl, nc, keepL nc hc⟩, fit_snoc fit3 hb, by rw [List.length_append]; exact Nat.succ_le_succ len3, es⟩
      obtain ⟨ax, xs, rfl, ex, _⟩ := Stm.parts sx
      walk_at "rd"
      refine rd_ixT (SqT.of ex) (atI_zero _ _) ?_
      walk_at "rd"
      refine ⟨(by show 2 ≤ sizeLine; decide), fun p2 hp2 => ?_⟩
      walk_at "rd"
      refine rd_inS (.inl (SqL.of upd_same)) rfl rfl ?_
      walk_at "rd"
      rw [leafB]
      have SN : Same H1 (upd H1 p2 (.lst [.str "lamp", .str "dark"])) := by walk_at "sm"
      generalize upd H1 p2 (.lst [.str "lamp", .str "dark"]) = H2' at SN ⊢
      have ex2 := SN _ _ ex
      have hf2' := SN _ _ hf1
      cases hleaf : Say.leaf t with
      | true =>
        refine iteT ?_
        obtain ⟨b, k, eb, ek, hk'⟩ := sx.leafK hleaf
        cases eb
        have ek2 := SN _ _ ek
        walk_at "rd"
        refine ⟨t.tag, k, a, W, rfl, hw1.mono SN, hz, fun c H3 S3 hc0 hc => ?_⟩
        walk_at "rd"
        have nc : c ≠ fo := fun e => by rw [e, hf2'] at hc0; cases hc0
        have S13 := SN.trans S3
        refine rd_append (S13 _ _ hf1) (smallLt (by omega)) ?_
        rw [runG0 (ar_leaf hleaf)] at hrun
        rw [lampT_of hk'] at hc
        exact fin (S1.trans S13) (S13 _ _ hl1) S13.tupK (S13 _ _ hf1) (trs_mono htr S13.sameD) hfit htl nc hc (truF_len (by rw [ar_leaf hleaf]; rfl) (fun _ h => by cases h)) hrun
      | false =>
        refine iteF ?_
        walk_at "rd"
        refine rd_ixT (SqT.of ex2) (atI_zero _ _) ?_
        walk_at "rd"
        refine ⟨(by show 2 ≤ sizeLine; decide), fun p3 hp3 => ?_⟩
        walk_at "rd"
        refine rd_inS (.inl (SqL.of upd_same)) rfl rfl ?_
        walk_at "rd"
        rw [joinB]
        have SN3 : Same H1 (upd H2' p3 (.lst [.str "and", .str "or"])) := by walk_at "sm"
        generalize upd H2' p3 (.lst [.str "and", .str "or"]) = H3 at SN3 ⊢
        have hf3 := SN3 _ _ hf1
        have hl3 := SN3 _ _ hl1
        have htr3 := trs_mono htr SN3.sameD
        have S3 := S1.trans SN3
        have ex3 := SN3 _ _ ex
        cases hjoin : Say.join t with
        | true =>
          refine iteT ?_
          rcases snoc_cases tt with rfl | ⟨t0, b2, rfl⟩
          · rw [ar_join hjoin] at hk; simp at hk
          rcases snoc_cases t0 with rfl | ⟨t1, b1, rfl⟩
          · rw [ar_join hjoin] at hk; simp at hk
          obtain ⟨f0, y2, rfl, p0, c2, rfl, nc2, hc2⟩ := snoc_inv2 htr3
          obtain ⟨f1, y1, rfl, p1, c1, rfl, nc1, hc1⟩ := snoc_inv2 p0
          have hb2 : b2.length = W.length := hfit b2 (by simp)
          have hb1 : b1.length = W.length := hfit b1 (by simp)
          have fit1 : Fit W t1 := fun z m => hfit z (by simp [m])
          rw [runG2 (ar_join hjoin)] at hrun
          walk_at "rd"
          refine rd_pop hf3 ?_
          have ex4 : (upd H3 fo (.lst (f1 ++ [.ref c1]))) ax = _ := TupK.lst (TupK.refl _) hf3 _ _ ex3
          walk_at "rd"
          refine rd_ixT (SqT.of ex4) (atI_zero _ _) ?_
          walk_at "rd"
          refine rd_pop upd_same ?_
          rw [upd_upd]
          walk_at "rd"
          refine ⟨t.tag, c1, c2, b1, b2, rfl, keepL nc1 hc1, keepL nc2 hc2, by omega, by omega, fun c H5 S5 hc0 hc => ?_⟩
          walk_at "rd"
          have nc : c ≠ fo := fun e => by rw [e, upd_same] at hc0; cases hc0
          have hf5 : H5 fo = some (.lst f1) := S5 _ _ upd_same
          simp only [List.length_append, List.length_cons, List.length_nil] at hlf htl
          refine rd_append hf5 (smallLt (by omega)) ?_
          rw [two_of (W := W) hjoin] at hc
          refine fin (Same.trans (S3.set hfo) S5) (S5 _ _ (keepL nlf hl3)) ((TupK.trans SN3.tupK (TupK.lst (TupK.refl _) hf3)).trans S5.tupK) hf5 (trs_mono p1 (SameD.trans sameD_upd S5.sameD)) fit1 (by omega) nc hc (truF_len (by rw [ar_join hjoin]; rfl) fun z m => ?_) hrun
          simp only [List.mem_cons, List.not_mem_nil, or_false] at m
          rcases m with rfl | rfl
          · exact hb1
          · exact hb2
        | false =>
          refine iteF ?_
          rcases snoc_cases tt with rfl | ⟨t0, b1, rfl⟩
          · rw [ar_one hleaf hjoin] at hk; simp at hk
          obtain ⟨f0, y1, rfl, p0, c1, rfl, nc1, hc1⟩ := snoc_inv2 htr3
          have hb1 : b1.length = W.length := hfit b1 (by simp)
          have fit1 : Fit W t0 := fun z m => hfit z (by simp [m])
          rw [runG1 (ar_one hleaf hjoin)] at hrun
          walk_at "rd"
          refine rd_ixT (SqT.of ex3) (atI_zero _ _) ?_
          walk_at "rd"
          refine rd_pop hf3 ?_
          walk_at "rd"
          refine ⟨t.tag, c1, a, W, b1, rfl, hw.mono (S3.set hfo), hv, hz, hdz, keepL nc1 hc1, hb1, fun c H5 S5 hc0 hc => ?_⟩
          walk_at "rd"
          have nc : c ≠ fo := fun e => by rw [e, upd_same] at hc0; cases hc0
          have hf5 : H5 fo = some (.lst f0) := S5 _ _ upd_same
          simp only [List.length_append, List.length_cons, List.length_nil] at hlf htl
          refine rd_append hf5 (smallLt (by omega)) ?_
          rw [by_of hleaf hjoin] at hc
          refine fin (Same.trans (S3.set hfo) S5) (S5 _ _ (keepL nlf hl3)) ((TupK.trans SN3.tupK (TupK.lst (TupK.refl _) hf3)).trans S5.tupK) hf5 (trs_mono p0 (SameD.trans sameD_upd S5.sameD)) fit1 (by omega) nc hc (truF_len (by rw [ar_one hleaf hjoin]; rfl) fun z m => ?_) hrun
          simp only [List.mem_cons, List.not_mem_nil, or_false] at m
          rw [m]; exact hb1
    · rintro σ H1 ⟨fs, tt, o3, o4, rfl, S1, hl1, hps1, hf1, htr, hfit, htl, hrun⟩
      have hend : s.post.drop ps.length = [] := List.drop_eq_nil_of_le (by omega)
      rw [hend] at hrun
      have et : tt = [tru W s] := Option.some.inj hrun
      subst et
      cases htr with
      | cons ha ht =>
        cases ht
        obtain ⟨c, rfl, nc, hc⟩ := ha
        walk_at "rd"
        refine rd_ixL (SqL.of hf1) (atI_zero _ _) ?_
        exact q c _ S1 hc
theorem ok_best_of (D : DefIn K mg "_law_best_of" s__law_best_of ["_law_world", "_law_statement", "_law_due"] f fd) (B : Blt mg) (h__law_truths_of : Has P w K mg base "_law_truths_of" 3 ["_law_world", "_law_statement"] spTruths) : Has P w K mg base "_law_best_of" 4 ["_law_world", "_law_statement", "_law_due"] spBestOf := by
  have nd := sc__law_best_of.nd
  refine D.has (D.fn.ok sc__law_best_of (fun vs H Q E h => ?_) (fun cdv A outer s H vs Q E hr h => ?_))
  · obtain ⟨a, v, d, W, s, j, ys, rfl, _⟩ := h
    rfl
  · obtain ⟨a, v, d, W, s, j, ys, rfl, hR, sv, hsz, hg, hd, hys, q⟩ := h
    have lys := Paired.length hys
    have hfew := moves_few hR hg
    refine ⟨_, (pss_cons (ps_for PassesOwn.never rfl (pi_range1 rfl B.range (pa_cons (pe_callB (call_lenK K) rfl B.len PySem.boot_len (pa_cons (pv 2) pa_nil)) pa_nil)) (pg_name (i := 3) nd rfl (Or.inl rfl)) (pss_cons (ps_set (i := 4) nd rfl (Or.inl rfl) (pe_ix (ix_listK K) (pe_callH h__law_truths_of hr (pa_cons (pv 0) (pa_cons (pe_ix (ix_tupK K) (pe_ix (ix_listK K) (pv 2) (pv 3) (fun _ _ => rfl)) pe_int (fun _ _ => rfl)) pa_nil))) (pe_ix (ix_tupK K) (pe_ix (ix_listK K) (pv 2) (pv 3) (fun _ _ => rfl)) pe_int (fun _ _ => rfl)) (fun _ _ => rfl)))
        (pss_one (ps_if (pt_cmpR op_eq (pv 4) (pe_cmpR (op_inK K) (pe_ix (ix_tupK K) (pv 1) pe_int (fun _ _ => rfl)) (pe_lst (pa_cons pe_str (pa_cons pe_str pa_nil))) (by with_unfolding_all rfl)) (nomark _)) (pss_one (ps_ret (pv 3))) pss_nil))))
      (pss_one (ps_ret pe_int))), ?_⟩
    walk_at "rd0"
    walk_at "rd"
    refine for_rng1 (by omega) (fun i σ H1 => ∃ o3 o4 : Option V, σ = [some (.ref a), some v, some (.ref d), o3, o4] ∧ Same H H1 ∧ ∀ k m, k < i → (movesS W j s)[k]? = some m → (tv W m.2 m.1 == s.spk) = false) ⟨none, none, rfl, Same.refl _, fun k m hk => by omega⟩ ?_ ?_
    · rintro i σ H1 hi ⟨o3, o4, rfl, S1, hno⟩
      have hil : i < (movesS W j s).length := by omega
      have hm : (movesS W j s)[i]? = some (movesS W j s)[i] := List.getElem?_eq_getElem hil
      obtain ⟨y, hy, hpl⟩ := Paired.get2 hys hm
      generalize (movesS W j s)[i] = m at hm hpl
      have hmem := List.mem_of_getElem? hm
      obtain ⟨_, ml2⟩ := moves_less hR.2.1 hR.2.2.2.2 hmem
      obtain ⟨mg1, mg2⟩ := moves_good hg hmem
      obtain ⟨ap, u, rfl, hap, su⟩ := hpl
      have hd1 := S1 _ _ hd
      have hap1 := S1 _ _ hap
      walk_at "rd"
      refine rd_ixL (SqL.of hd1) (atI_nat hy) ?_
      walk_at "rd"
      refine ⟨a, u, W, m.2, rfl, hR.1.mono S1, hR.2.1, hR.2.2.1, hR.2.2.2.1, su.mono S1.tupK, by omega, fun l H2 S2 hl => ?_⟩
      walk_at "rd"
      refine rd_ixL (SqL.of (S2 _ _ hd1)) (atI_nat hy) ?_
      walk_at "rd"
      refine rd_ixT (SqT.of (S2 _ _ hap1)) (atI_zero _ _) ?_
      refine rd_ixL (SqL.of hl) (bls_at (by rw [tru_len]; exact ml2)) ?_
      walk_at "rd"
      obtain ⟨ax, xs, rfl, ex, _⟩ := Stm.parts (sv.mono (S1.trans S2).tupK)
      refine rd_ixT (SqT.of ex) (atI_zero _ _) ?_
      walk_at "rd"
      refine ⟨(by show 2 ≤ sizeLine; decide), fun p hp => ?_⟩
      walk_at "rd"
      refine rd_inS (.inl (SqL.of upd_same)) rfl rfl ?_
      walk_at "rd"
      rw [spkB]
      have S3 : Same H (upd H2 p (.lst [.str "or", .str "some"])) := (S1.trans S2).new hp
      have htv : (tru W m.2).getD m.1 false = tv W m.2 m.1 := rfl
      rw [htv]
      refine if_dec (fun e => ?_) (fun e => ?_)
      · walk_at "rd"
        have e' : tv W m.2 m.1 = s.spk := V.bl.inj e
        have hb : bestS W j s = i := by
          unfold bestS
          have : (movesS W j s).findIdx? (fun m => tv W m.2 m.1 == s.spk) = some i := by
            rw [List.findIdx?_eq_some_iff_getElem]
            refine ⟨hil, ?_, fun k hk => ?_⟩
            · rw [List.getElem?_eq_getElem hil] at hm
              cases hm
              exact beq_iff_eq.mpr e'
            · rw [hno k _ hk (List.getElem?_eq_getElem (by omega))]
              exact Bool.false_ne_true
          rw [this]; rfl
        have := q _ S3
        rw [hb] at this
        exact this
      · walk_at "rd"
        refine ⟨_, _, rfl, S3, fun k m' hk hm' => ?_⟩
        by_cases hki : k = i
        · subst hki
          rw [hm] at hm'
          cases hm'
          exact beq_eq_false_iff_ne.mpr fun z => e (by rw [z])
        · exact hno k m' (by omega) hm'
    · rintro σ H1 ⟨o3, o4, rfl, S1, hno⟩
      walk_at "rd"
      have hb : bestS W j s = 0 := by
        unfold bestS
        have : (movesS W j s).findIdx? (fun m => tv W m.2 m.1 == s.spk) = none := by
          rw [List.findIdx?_eq_none_iff]
          intro m hm
          obtain ⟨k, hk, rfl⟩ := List.mem_iff_getElem.mp hm
          exact hno k _ (by omega) (List.getElem?_eq_getElem hk)
        rw [this]; rfl
      have := q _ S1
      rw [hb] at this
      exact this
end
end My
set_option Elab.async false
set_option linter.all false
set_option maxRecDepth 100000
set_option maxHeartbeats 4000000
namespace My
open PySem L2
seal PE PT PW PA PS PSs PC PG PGs PI PO PPs PTs
local macro_rules | `(tactic| walk_at "ne") => `(tactic| first | assumption | exact Ne.symm (by assumption))
local macro_rules | `(tactic| walk_at "hp") => `(tactic| first | assumption | (with_reducible exact upd_same) | (with_reducible apply keepN; assumption; walk_at "hp") | (with_reducible apply keepL; walk_at "ne"; walk_at "hp"))
local macro_rules | `(tactic| walk_at "sm") => `(tactic| first | assumption | (with_reducible exact Same.refl _) | (with_reducible refine Same.new ?_ (by assumption); walk_at "sm") | (with_reducible refine Same.set ?_ (by assumption); walk_at "sm"))
local macro_rules | `(tactic| walk_at "tk") => `(tactic| first | assumption | (with_reducible exact TupK.refl _) | (with_reducible refine TupK.new ?_ (by assumption); walk_at "tk") | (with_reducible refine TupK.lst ?_ (by walk_at "hp"); walk_at "tk") | (with_reducible refine TupK.dK ?_ (by walk_at "hp"); walk_at "tk") | (with_reducible refine Same.tupK ?_; walk_at "sm"))
local macro_rules | `(tactic| walk_at "sl") => `(tactic| first | assumption | (with_reducible apply SqL.of; walk_at "hp") | (with_reducible apply sameSeq; assumption; walk_at "sm"))
local macro_rules | `(tactic| walk_at "st") => `(tactic| first | assumption | (with_reducible apply SqT.of; walk_at "hp"))
local macro_rules | `(tactic| walk_at "cd") => `(tactic| first | (show (0 : Int) < _; first | decide | assumption | omega) | exact ⟨by decide, by decide⟩ | exact ⟨by decide, by decide, by decide⟩ | exact Or.inl ⟨by decide, by decide⟩ | exact Or.inr ⟨by decide, by decide⟩ | exact Or.inl ⟨by omega, by omega⟩ | exact Or.inr ⟨by omega, by omega⟩ | exact ⟨by omega, by omega⟩)
local macro_rules | `(tactic| walk_at "rd1") => `(tactic| with_reducible first
  | (apply rd_var; with_unfolding_all rfl) | apply rd_op | apply rd_C | apply rd_seq | apply rd_asg | apply rd_name | apply rd_cons | apply rd_nil | apply rd_I0 | apply rd_test | apply rd_bl | apply rd_tB
  | (apply rd_ixT; (walk_at "st"); (with_unfolding_all rfl)) | apply rd_slice | apply rd_noPart | apply rd_part | apply rd_int | apply rd_CB | apply rd_if | apply rd_call | apply rd_ret | apply rd_drop | apply rd_tup | apply rd_lst | apply rd_bm | apply rd_bm0 | (apply rd_ty; (walk_at "hp"))
  | (apply rd_I; (with_unfolding_all walk_at "cd")) | (apply rd_eq; (with_unfolding_all rfl)) | (apply rd_ne; (with_unfolding_all rfl)) | apply rd_and | apply rd_or | apply rd_not | apply rd_andV | apply rd_orV | apply rd_notV | apply rd_ifE
  | (apply rd_lenL; (walk_at "sl")) | (apply rd_lenT; (walk_at "st")) | apply rd_dnew | apply rd_dput | apply rd_din | apply rd_next | apply rd_forL | apply rd_forV | apply rd_compL | apply rd_compZ | apply rd_compT | apply rd_compR | apply rd_kget | apply rd_dget | apply rd_listRev | apply rd_chain | apply rd_ints | apply rd_un | apply rd_U | apply rd_kin | apply rd_forZT | apply rd_pcons | apply rd_pnil | (apply rd_gtup; (walk_at "st"); (with_unfolding_all rfl)) | apply rd_gcons | apply rd_gnil | apply rd_fldC | apply rd_sfldC | apply rd_meth | apply rd_make | apply rd_compE | apply rd_tryset | apply rd_tryas | apply rd_raise | apply rd_forR3 | apply rd_forR2 | apply rd_forR1 | (apply rd_itL; (walk_at "sl")) | (apply rd_neN; (walk_at "sl"); (walk_at "sl")) | (apply rd_eqN; (walk_at "sl"); (walk_at "sl")))
local macro_rules | `(tactic| walk_at "rd") => `(tactic| repeat walk_at "rd1")
local macro_rules | `(tactic| walk_at "rd0") => `(tactic| try dsimp only [cxOf, Cx.nox, Cx.wish])
section
variable {P : Program} {w : World} {K : PySem.W.Frag} {mg : Str → Option Value} {base : Heap} {f : Addr} {fd : FuncData}
theorem ok_law09 {T C : Addr} (D : DefIn K mg "law" s_law ["_law_script"] f fd) (B : Blt mg) (h__law_at : Has P w K mg base "_law_at" 1 ["_law_script", "_law_k"] (spAt K)) (h__law_count_by : Has P w K mg base "_law_count_by" 1 ["_law_first"] spCount)
    (h__law_world_of : Has P w K mg base "_law_world_of" 2 ["_law_count", "_law_first", "_law_second"] spWorldOf) (h__law_plain_kinds : Has P w K mg base "_law_plain_kinds" 1 [] (spKinds plainKinds))
    (h__law_grown : Has P w K mg base "_law_grown" 3 ["_law_cells", "_law_world", "_law_kinds"] (spGrownD false)) (h__law_far_by : Has P w K mg base "_law_far_by" 1 ["_law_cell"] spFar)
    (h__law_moved_world : Has P w K mg base "_law_moved_world" 1 ["_law_world", "_law_far"] spMovedW) (h__law_moved : Has P w K mg base "_law_moved" 230 ["_law_part", "_law_far"] (spMoved 230))
    (h__law_copy_of : Has P w K mg base "_law_copy_of" 1 ["_law_world"] spCopy) (h__law_moves_from : Has P w K mg base "_law_moves_from" 1 ["_law_world", "_law_room", "_law_statement"] spMoves) (h_moves : Has P w K mg base "moves" 1 ["world", "room", "statement"] spMoves)
    (h__law_the_same : Has P w K mg base "_law_the_same" 2 ["_law_found", "_law_due"] spSame) (h__law_whole : Has P w K mg base "_law_whole" 1 ["_law_found"] spWhole) (h__law_best_of : Has P w K mg base "_law_best_of" 4 ["_law_world", "_law_statement", "_law_due"] spBestOf)
    (h__law_refused_by_any : Has P w K mg base "_law_refused_by_any" 10 ["_law_world", "_law_room", "_law_statement"] (spRefused T lp_truths)) (m_NoMove : mg "NoMove" = some (.ref C)) (x_NoMove : PySem.W.exmOne K (.ref C) (.ref C) = some true)
    (h_best_move : HasX P w K mg base C "best_move" 9 ["world", "room", "statement"] (spBestX T C lp_truths)) : FnOk P w K mg base CX0 231 f fd ["_law_script"] (spLawT K T) := by
  have nd := sc_law.nd
  refine D.fn.ok sc_law (fun vs H Q E h => ?_) (fun cdv A outer s H vs Q E hr h => ?_)
  · obtain ⟨a, ns, rfl, _⟩ := h
    rfl
  · obtain ⟨a, ns, rfl, hS, hl, hT, q⟩ := h
    have hu0 := hu0_of hr
    refine ⟨_, (pss_cons (ps_set (i := 1) nd rfl (Or.inl rfl) (pe_callH h__law_at hr (pa_cons (pv 0) (pa_cons pe_int pa_nil))))
      (pss_cons (ps_set (i := 2) nd rfl (Or.inl rfl) (pe_callH h__law_world_of hr (pa_cons (pe_callH h__law_count_by hr (pa_cons (pv 1) pa_nil)) (pa_cons (pv 1) (pa_cons (pe_callH h__law_at hr (pa_cons (pv 0) (pa_cons pe_int pa_nil))) pa_nil)))))
      (pss_cons (ps_set (i := 3) nd rfl (Or.inl rfl) (pe_op op_mod (pe_callH h__law_at hr (pa_cons (pv 0) (pa_cons pe_int pa_nil))) (pe_callB (call_lenK K) rfl B.len PySem.boot_len (pa_cons (pv 2) pa_nil))))
      (pss_cons (ps_set (i := 4) nd rfl (Or.inl rfl) (pe_ix (ix_tupK K) (pe_callH h__law_grown hr (pa_cons (pe_slice (sl_listK K) (pv 0) (po_some pe_int) (po_some pe_int)) (pa_cons (pv 2) (pa_cons (pe_callH0 h__law_plain_kinds hr) pa_nil)))) pe_int (fun _ _ => rfl)))
      (pss_cons (ps_if (pt_cmpR op_eq (pe_op op_mod (pe_op op_fdiv (pe_callH h__law_at hr (pa_cons (pv 0) (pa_cons pe_int pa_nil))) pe_int) pe_int) pe_int (nomark _)) (pss_one (ps_set (i := 4) nd rfl (Or.inl rfl) (pe_tup (pa_cons (pe_ix (ix_listK K) (pe_lst (pa_cons pe_str (pa_cons pe_str pa_nil))) (pe_op op_mod (pe_op op_fdiv (pe_callH h__law_at hr (pa_cons (pv 0) (pa_cons pe_int pa_nil))) pe_int) pe_int) (fun _ _ => rfl)) (pa_cons (pv 4) pa_nil))))) pss_nil)
      (pss_cons (ps_set (i := 5) nd rfl (Or.inl rfl) (pe_callH h__law_far_by hr (pa_cons (pe_callH h__law_at hr (pa_cons (pv 0) (pa_cons pe_int pa_nil))) pa_nil)))
      (pss_cons (ps_set (i := 2) nd rfl (Or.inl rfl) (pe_callH h__law_moved_world hr (pa_cons (pv 2) (pa_cons (pv 5) pa_nil))))
      (pss_cons (ps_set (i := 4) nd rfl (Or.inl rfl) (pe_callH h__law_moved hr (pa_cons (pv 4) (pa_cons (pv 5) pa_nil))))
      (pss_cons (ps_set (i := 6) nd rfl (Or.inl rfl) (pe_callH h__law_moves_from hr (pa_cons (pv 2) (pa_cons (pv 3) (pa_cons (pv 4) pa_nil)))))
      (pss_cons (ps_set (i := 7) nd rfl (Or.inl rfl) (pe_callH h__law_copy_of hr (pa_cons (pv 2) pa_nil)))
      (pss_cons (ps_set (i := 8) nd rfl (Or.inl rfl) (pe_callH h_moves hr (pa_cons (pv 7) (pa_cons (pv 3) (pa_cons (pv 4) pa_nil)))))
      (pss_cons (ps_set (i := 9) nd rfl (Or.inl rfl) pe_bl)
      (pss_cons (ps_set (i := 10) nd rfl (Or.inl rfl) pe_int)
      (pss_cons (ps_tryset rfl rfl h_best_move hr (fun _ _ => (pa_cons (pv 7) (pa_cons (pv 3) (pa_cons (pv 4) pa_nil)))) (fun _ _ => (pss_one (ps_set (i := 9) nd rfl (Or.inl rfl) pe_bl))) nd (i := 10) rfl (Or.inl rfl) m_NoMove x_NoMove)
      (pss_cons (ps_if (pt_cmpR op_ne (pe_callH h__law_refused_by_any hr (pa_cons (pv 7) (pa_cons (pv 3) (pa_cons (pv 4) pa_nil)))) (pe_cmpR (op_eqNK K hu0) (pv 6) (pe_lst pa_nil) (nomark _)) (nomark _)) (pss_one (ps_ret pe_bl)) pss_nil)
      (pss_cons (ps_if (PW.pt (pw_or (pt_not (pt_val (pe_callH h__law_the_same hr (pa_cons (pv 7) (pa_cons (pv 2) pa_nil))))) (pw_or1 (pt_not (pt_val (pe_callB (call_instK K) rfl B.isinstance PyProof.Rows.boot_isinstance (pa_cons (pv 8) (pa_cons (pe_bltn (v := .ty "list") rfl B.list_ PySem.Pv.boot_list rfl) pa_nil)))))))) (pss_one (ps_ret pe_bl)) pss_nil)
      (pss_cons (ps_if (PW.pt (pw_or (pt_not (pt_val (pe_callH h__law_whole hr (pa_cons (pv 10) pa_nil)))) (pw_or1 (pt_cmpR op_ne (pv 10) (pe_callH h__law_best_of hr (pa_cons (pv 2) (pa_cons (pv 4) (pa_cons (pv 6) pa_nil)))) (nomark _))))) (pss_one (ps_ret pe_bl)) pss_nil)
      (pss_one (ps_ret (pe_and (pe_callH h__law_the_same hr (pa_cons (pv 8) (pa_cons (pv 6) pa_nil))) (pe_one (pe_cmpR op_eq (pv 9) (pe_cmpR (op_eqNK K hu0) (pv 6) (pe_lst pa_nil) (nomark _)) (nomark _))))))))))))))))))))))), ?_⟩
    walk_at "rd0"
    walk_at "rd"
    refine ⟨a, ns, 0, rfl, hS, ?_⟩
    walk_at "rd"
    refine ⟨_, rfl, fun c H1 hc1 hc2 S1 => ?_⟩
    walk_at "rd"
    refine ⟨a, ns, 1, rfl, sameSeq hS S1, ?_⟩
    walk_at "rd"
    refine ⟨c, _, _, rfl, by omega, fun wa W H2 S2' hwa hw hwl hsm => ?_⟩
    have S2 : Same H H2 := S1.trans S2'
    have hvW := small_valid hsm hwl
    obtain ⟨rs, hrs, hprs⟩ := id hw
    have lrs := Paired.length hprs
    have hpos : (0 : Int) < ((rs.length : Nat) : Int) := by omega
    walk_at "rd"
    refine ⟨a, ns, 2, rfl, sameSeq hS S2, ?_⟩
    walk_at "rd"
    obtain ⟨j0, hj0, hjl⟩ : ∃ j0 : Nat, cell ns 2 % ((rs.length : Nat) : Int) = (j0 : Int) ∧ j0 < W.length := by
      have h0 := Int.emod_nonneg (cell ns 2) (show ((rs.length : Nat) : Int) ≠ 0 by omega)
      have h1 := Int.emod_lt_of_pos (cell ns 2) hpos
      exact ⟨(cell ns 2 % ((rs.length : Nat) : Int)).toNat, by omega, by omega⟩
    rw [hj0]
    refine rd_slL (sameSeq hS S2) fun p hp => ?_
    obtain ⟨ms, hms, hml⟩ := cutV_map ns (some 3) (some 93)
    rw [hms]
    walk_at "rd"
    refine ⟨rfl, fun kd H3 S3' hkd => ?_⟩
    have S23 : Same H2 H3 := Same.trans (by walk_at "sm") S3'
    have hp3 : H3 p = some (.lst (ms.map V.int)) := S3' _ _ upd_same
    have hw3 := hw.mono S23
    walk_at "rd"
    refine ⟨p, wa, kd, ms, W, plainKinds, rfl, hp3, by omega, hw3, hvW, by omega, fun r m => by have := (hsm r m).2.1; omega, hkd, by decide, by decide, fun _ => by decide +kernel, fun t c' u s H4 S4 ht hst hc' hsz hdp hgd => ?_⟩
    have S04 : Same H H4 := S2.trans (S23.trans S4)
    walk_at "rd"
    refine ⟨a, ns, 2, rfl, sameSeq hS S04, ?_⟩
    walk_at "rd"
    refine if_joinD (P := fun σ H5 => ∃ (u' : V) (s' : Say), σ = [some (.ref a), some (.int (cell ns 0)), some (.ref wa), some (.int j0), some u', none, none, none, none, none, none] ∧ Same H4 H5 ∧ Stm H5 u' s' ∧ s'.sz ≤ 7 * ms.length + 5 ∧ s'.dep ≤ ms.length + 1 ∧ Say.good false s') (fun _ kk => ?_) (fun kk => kk _ _ ⟨u, s, rfl, Same.refl _, hst, by omega, by omega, hgd⟩) ?_
    · walk_at "rd"
      refine ⟨(by show 2 ≤ sizeLine; decide), fun p5 hp5 => ?_⟩
      walk_at "rd"
      refine ⟨a, ns, 2, rfl, sameSeq hS (S04.new hp5), ?_⟩
      walk_at "rd"
      obtain ⟨k, hk, hkk⟩ : ∃ k : Str, atI [V.str "every", .str "some"] (cell ns 2 / 10 % 2) = some (.str k) ∧ (k = "every" ∨ k = "some" ∨ k = "not") := by
        have h : cell ns 2 / 10 % 2 = 0 ∨ cell ns 2 / 10 % 2 = 1 := by omega
        rcases h with e | e <;> rw [e]
        · exact ⟨"every", rfl, .inl rfl⟩
        · exact ⟨"some", rfl, .inr (.inl rfl)⟩
      have hkn : k ≠ "not" := by
        intro z
        have h : cell ns 2 / 10 % 2 = 0 ∨ cell ns 2 / 10 % 2 = 1 := by omega
        rcases h with e | e <;> (rw [e, z] at hk; have := V.str.inj (Option.some.inj hk); revert this; decide +kernel)
      refine rd_ixL (SqL.of upd_same) hk ?_
      walk_at "rd"
      refine ⟨(by show 2 ≤ sizeLine; decide), fun p6 hp6 => ?_⟩
      have S46 : Same H4 (upd (upd H4 p5 (.lst [.str "every", .str "some"])) p6 (.tup [.str k, u])) := by walk_at "sm"
      have h66 : (upd (upd H4 p5 (.lst [.str "every", .str "some"])) p6 (.tup [.str k, u])) p6 = some (.tup [.str k, u]) := upd_same
      generalize upd (upd H4 p5 (.lst [.str "every", .str "some"])) p6 (.tup [.str k, u]) = H6 at S46 h66 ⊢
      have hs1 := oneS_sz k s
      have hd1 := oneS_dep k s
      exact kk _ _ ⟨.ref p6, oneS k s, rfl, S46, oneS_stm hkk h66 (hst.mono S46.tupK), by omega, by omega, oneS_good (hkk.imp_right fun z => z.imp_right fun e => absurd e hkn) hgd⟩
    · rintro σ H5 ⟨u', s', rfl, S5, su, hsz5, hdp5, hgd5⟩
      have S05 := S04.trans S5
      walk_at "rd"
      refine ⟨a, ns, 1, rfl, sameSeq hS S05, ?_⟩
      walk_at "rd"
      refine ⟨_, rfl, fun far H6 hfar S6 => ?_⟩
      walk_at "rd"
      have hw6 := ((hw3.mono S4).mono S5).mono S6
      refine ⟨wa, far, W, rfl, hw6, by omega, fun r m => by have := (hsm r m).2.2; omega, fun wb H7 S7 hwb hW7 => ?_⟩
      walk_at "rd"
      have S57 := S6.trans S7
      have hds := Say.dep_sz s'
      refine ⟨u', far, s', rfl, su.mono S57.tupK, by omega, fun u2 H8 S8 su2 => ?_⟩
      walk_at "rd"
      have hsm' : Small c (shW far W) := shW_small hsm
      have hln : (shW far W).length = c := by rw [shW_len]; exact hwl
      have hvW' := small_valid hsm' hln
      have hW8 : WorldAt H8 wb (shW far W) := hW7.mono S8
      have hss := Say.sh_sz far s'
      have hgs := sh_good (k := far) hfar s' hgd5
      have hT8 : H8 T = some (.tbl #[]) := (S05.trans (S57.trans S8)) _ _ hT
      have hdoor : ∀ r ∈ shW far W, r.doors.length ≤ 40 := fun r m => by have := (hsm' r m).2.1; omega
      have hjl' : j0 < (shW far W).length := by rw [hln, ← hwl]; exact hjl
      generalize shW far W = W2 at hsm' hln hvW' hW8 hdoor hjl' ⊢
      generalize s'.sh far = s2 at su2 hss hgs ⊢
      have hsz2 : s2.sz ≤ 100000 := by omega
      have hR8 : RoomIn H8 wb W2 j0 := ⟨hW8, hvW', by omega, fun r m => by have := hdoor r m; omega, hjl'⟩
      refine ⟨wb, j0, u2, W2, s2, rfl, hR8, su2, hgs, fun dl dx H9 S9 hdl0 hdl hdx => ?_⟩
      walk_at "rd"
      refine ⟨wb, W2, rfl, hW8.mono S9, by omega, fun wc H10 S10 hwc hW10 => ?_⟩
      walk_at "rd"
      have S810 := S9.trans S10
      refine ⟨wc, j0, u2, W2, s2, rfl, ⟨hW10, hR8.2⟩, su2.mono S810.tupK, hgs, fun fl fx H11 S11 hfl0 hfl hfx => ?_⟩
      walk_at "rd"
      have hW11 := hW10.mono S11
      have hW11b := hW8.mono (S810.trans S11)
      have su11 := su2.mono (S810.trans S11).tupK
      have hT11 := (S810.trans S11) _ _ hT8
      have tab11 : LamTab T (lamQ "truths") lp_truths H11 := ⟨_, hT11, .inl rfl⟩
      have hdl11 := (S10.trans S11) _ _ hdl
      have hdx11 : Paired (PlAt H11) dx (movesS W2 j0 s2) := Paired.mapP hdx fun _ _ z => z.mono (S10.trans S11).tupK
      have hfew : (movesS W2 j0 s2).length ≤ 1000 := moves_few hR8 hgs
      have ldx := Paired.length hdx
      refine bestX_join (P := fun σ H12 => σ = [some (.ref a), some (.int (cell ns 0)), some (.ref wb), some (.int j0), some u2, some (.int far), some (.ref dl), some (.ref wc), some (.ref fl), some (.bl (movesS W2 j0 s2).isEmpty), some (.int (bestS W2 j0 s2))] ∧ LT H11 H12 ∧ LamTab T (lamQ "truths") lp_truths H12) (fun kk => ?_) ?_
      · refine ⟨wc, j0, u2, W2, s2, rfl, ⟨hW11, hR8.2⟩, su11, hsz2, hgs, tab11, fun hne H12 S12 tab12 => ?_, fun he H12 S12 tab12 => ?_⟩
        · refine kk _ _ ⟨?_, S12.lt hT11, tab12⟩
          rw [show (movesS W2 j0 s2).isEmpty = false from by cases h : movesS W2 j0 s2 with | nil => exact absurd h hne | cons _ _ => rfl]
          rfl
        · walk_at "rd1"
          walk_at "rd1"
          walk_at "rd1"
          refine kk _ _ ⟨?_, S12.lt hT11, tab12⟩
          rw [he, best_nil he]
          rfl
      · rintro σ H12 ⟨rfl, L12, tab12⟩
        walk_at "rd"
        refine ⟨wc, j0, u2, W2, s2, rfl, ⟨hW11.lt L12, hR8.2⟩, su11.mono L12.2, hsz2, hgs, tab12, fun H13 S13 tab13 => ?_⟩
        obtain ⟨pt, htb⟩ := tab12.tbl
        have L13 : LT H11 H13 := L12.trans (S13.lt htb)
        have hdl13 := L13.1 _ _ hdl11
        walk_at "rd"
        refine ⟨(by show 0 ≤ sizeLine; decide), fun e he => ?_⟩
        walk_at "rd"
        have hde : dx.isEmpty = (movesS W2 j0 s2).isEmpty := by
          cases dx with
          | nil => rw [List.length_eq_zero_iff.mp ldx.symm]; rfl
          | cons _ _ => cases h : movesS W2 j0 s2 with
            | nil => rw [h] at ldx; cases ldx
            | cons _ _ => rfl
        rw [hde]
        refine if_nne ?_
        walk_at "rd"
        have L14 : LT H11 (upd H13 e (.lst [])) := L13.trans (Same.lt (by walk_at "sm"))
        generalize upd H13 e (.lst []) = H14 at L14 ⊢
        obtain ⟨m, hm, al⟩ := world_als (hW11.lt L14) (hW11b.lt L14) hsm'
        have hmb : W2.length * (c + 6) ≤ 40 * 46 := Nat.mul_le_mul (by omega) (by omega)
        refine ⟨.ref wc, .ref wb, m, rfl, al, by omega, fun H15 S15 => ?_⟩
        walk_at "rd"
        refine iteF ?_
        walk_at "rd"
        have L15 := L14.trans S15.lt
        refine rd_inst (.lst (L15.1 _ _ hfl)) kit_ll ?_
        walk_at "rd"
        refine iteF ?_
        walk_at "rd"
        refine ⟨_, rfl, ?_⟩
        walk_at "rd"
        refine iteF ?_
        walk_at "rd"
        refine ⟨wb, u2, dl, W2, s2, j0, dx, rfl, ⟨hW11b.lt L15, hR8.2⟩, su11.mono L15.2, hsz2, hgs, L15.1 _ _ hdl11, Paired.mapP hdx11 fun _ _ z => z.mono L15.2, fun H16 S16 => ?_⟩
        walk_at "rd"
        refine if_nne ?_
        walk_at "rd"
        have L16 := L15.trans S16.lt
        obtain ⟨m2, hm2, al2⟩ := places_als (b := 500) (Paired.mapP hfx fun _ _ z => z.mono L16.2) (Paired.mapP hdx11 fun _ _ z => z.mono L16.2) fun m hm => by have := (moves_good hgs hm).2; omega
        have hfewB := moves_fewB hR8 hgs (b := 40) (by omega) hdoor
        have hmb2 : (movesS W2 j0 s2).length * (500 + 2) ≤ 40 * 502 := Nat.mul_le_mul hfewB (Nat.le_refl _)
        have hdl16 := L16.1 _ _ hdl11
        refine ⟨.ref fl, .ref dl, _, rfl, .lst (L16.1 _ _ hfl) hdl16 al2 .nil, by omega, fun H17 S17 => ?_⟩
        have hdl17 := S17 _ _ hdl16
        walk_at "rd"
        refine ⟨_, rfl, ?_⟩
        walk_at "rd"
        refine ⟨(by show 0 ≤ sizeLine; decide), fun e2 he2 => ?_⟩
        walk_at "rd"
        rw [hde]
        have hx : decide (V.bl (movesS W2 j0 s2).isEmpty = V.bl (movesS W2 j0 s2).isEmpty) = true := decide_eq_true rfl
        rw [hx]
        exact q _
end
end My
set_option Elab.async false
set_option linter.all false
set_option maxRecDepth 100000
set_option maxHeartbeats 4000000
namespace My
open PySem L2
local macro_rules | `(tactic| walk_at "ne") => `(tactic| first | assumption | exact Ne.symm (by assumption))
local macro_rules | `(tactic| walk_at "hp") => `(tactic| first | assumption | (with_reducible exact upd_same) | (with_reducible apply keepN; assumption; walk_at "hp") | (with_reducible apply keepL; walk_at "ne"; walk_at "hp"))
local macro_rules | `(tactic| walk_at "sm") => `(tactic| first | assumption | (with_reducible exact Same.refl _) | (with_reducible refine Same.new ?_ (by assumption); walk_at "sm") | (with_reducible refine Same.set ?_ (by assumption); walk_at "sm"))
local macro_rules | `(tactic| walk_at "tk") => `(tactic| first | assumption | (with_reducible exact TupK.refl _) | (with_reducible refine TupK.new ?_ (by assumption); walk_at "tk") | (with_reducible refine TupK.lst ?_ (by walk_at "hp"); walk_at "tk") | (with_reducible refine TupK.dK ?_ (by walk_at "hp"); walk_at "tk") | (with_reducible refine Same.tupK ?_; walk_at "sm"))
local macro_rules | `(tactic| walk_at "sl") => `(tactic| first | assumption | (with_reducible apply SqL.of; walk_at "hp") | (with_reducible apply sameSeq; assumption; walk_at "sm"))
local macro_rules | `(tactic| walk_at "st") => `(tactic| first | assumption | (with_reducible apply SqT.of; walk_at "hp"))
local macro_rules | `(tactic| walk_at "cd") => `(tactic| first | (show (0 : Int) < _; first | decide | assumption | omega) | exact ⟨by decide, by decide⟩ | exact ⟨by decide, by decide, by decide⟩ | exact Or.inl ⟨by decide, by decide⟩ | exact Or.inr ⟨by decide, by decide⟩ | exact Or.inl ⟨by omega, by omega⟩ | exact Or.inr ⟨by omega, by omega⟩ | exact ⟨by omega, by omega⟩)
local macro_rules | `(tactic| walk_at "rd1") => `(tactic| with_reducible first
  | (apply rd_var; with_unfolding_all rfl) | apply rd_op | apply rd_C | apply rd_seq | apply rd_asg | apply rd_name | apply rd_cons | apply rd_nil | apply rd_I0 | apply rd_test | apply rd_bl | apply rd_tB
  | (apply rd_ixT; (walk_at "st"); (with_unfolding_all rfl)) | apply rd_slice | apply rd_noPart | apply rd_part | apply rd_int | apply rd_CB | apply rd_if | apply rd_call | apply rd_ret | apply rd_drop | apply rd_tup | apply rd_lst | apply rd_bm | apply rd_bm0 | (apply rd_ty; (walk_at "hp"))
  | (apply rd_I; (with_unfolding_all walk_at "cd")) | (apply rd_eq; (with_unfolding_all rfl)) | (apply rd_ne; (with_unfolding_all rfl)) | apply rd_and | apply rd_or | apply rd_not | apply rd_andV | apply rd_orV | apply rd_notV | apply rd_ifE
  | (apply rd_lenL; (walk_at "sl")) | (apply rd_lenT; (walk_at "st")) | apply rd_dnew | apply rd_dput | apply rd_din | apply rd_next | apply rd_forL | apply rd_forV | apply rd_compL | apply rd_compZ | apply rd_compT | apply rd_compR | apply rd_kget | apply rd_dget | apply rd_listRev | apply rd_chain | apply rd_ints | apply rd_un | apply rd_U | apply rd_kin | apply rd_forZT | apply rd_pcons | apply rd_pnil | (apply rd_gtup; (walk_at "st"); (with_unfolding_all rfl)) | apply rd_gcons | apply rd_gnil | apply rd_fldC | apply rd_sfldC | apply rd_meth | apply rd_make | apply rd_compE | apply rd_tryset | apply rd_tryas | apply rd_raise | apply rd_forR3 | apply rd_forR2 | apply rd_forR1 | (apply rd_itL; (walk_at "sl")) | (apply rd_neN; (walk_at "sl"); (walk_at "sl")) | (apply rd_eqN; (walk_at "sl"); (walk_at "sl")))
local macro_rules | `(tactic| walk_at "rd") => `(tactic| repeat walk_at "rd1")
local macro_rules | `(tactic| walk_at "rd0") => `(tactic| try dsimp only [cxOf, Cx.nox, Cx.wish])
theorem all_mk {l : PySem.W.OpenLaw} {w : World} {K : PySem.W.Frag} {h : Heap} {mg : Str → Option Value} {fa : Addr} (X : K.In h) (G : h.Ns mainGlobals mg) (hfa : mg "law" = some (.ref fa))
    {f1 f2 f3 f4 f5 f6 f7 f8 f9 f10 f11 f12 f13 f14 f15 f16 f17 f18 f19 f20 f21 f22 f23 f24 f25 f26 f27 f28 f29 f30 f31 f32 f33 f34 f35 f36 f37 f38 : Addr} {od1 an1 od2 an2 od3 an3 od4 an4 od5 an5 od6 an6 od7 an7 od8 an8 od9 an9 od10 an10 od11 an11 od12 an12 od13 an13 od14 an14 od15 an15 od16 an16 od17 an17 od18 an18 od19 an19 od20 an20 od21 an21 od22 an22 od23 an23 od24 an24 od25 an25 od26 an26 od27 an27 od28 an28 od29 an29 od30 an30 od31 an31 od32 an32 od33 an33 od34 an34 od35 an35 od36 an36 od37 an37 od38 an38 : Option Addr} {sl1 sl2 sl3 sl4 sl5 sl6 sl7 sl8 sl9 sl10 sl11 sl12 sl13 sl14 sl15 sl16 sl17 sl18 sl19 sl20 sl21 sl22 sl23 sl24 sl25 sl26 sl27 sl28 sl29 sl30 sl31 sl32 sl33 sl34 sl35 sl36 sl37 sl38 : Array (Option Value)} {oc1 kV1 dc1 pm1 cd1 ct1 oc2 kV2 dc2 pm2 cd2 ct2 oc3 kV3 dc3 pm3 cd3 ct3 oc4 kV4 dc4 pm4 cd4 ct4 oc5 kV5 dc5 pm5 cd5 ct5 oc6 kV6 dc6 pm6 cd6 ct6 oc7 kV7 dc7 pm7 cd7 ct7 oc8 kV8 dc8 pm8 cd8 ct8 oc9 kV9 dc9 pm9 cd9 ct9 oc10 kV10 dc10 pm10 cd10 ct10 oc11 kV11 dc11 pm11 cd11 ct11 oc12 kV12 dc12 pm12 cd12 ct12 oc13 kV13 dc13 pm13 cd13 ct13 oc14 kV14 dc14 pm14 cd14 ct14 oc15 kV15 dc15 pm15 cd15 ct15 oc16 kV16 dc16 pm16 cd16 ct16 oc17 kV17 dc17 pm17 cd17 ct17 oc18 kV18 dc18 pm18 cd18 ct18 oc19 kV19 dc19 pm19 cd19 ct19 oc20 kV20 dc20 pm20 cd20 ct20 oc21 kV21 dc21 pm21 cd21 ct21 oc22 kV22 dc22 pm22 cd22 ct22 oc23 kV23 dc23 pm23 cd23 ct23 oc24 kV24 dc24 pm24 cd24 ct24 oc25 kV25 dc25 pm25 cd25 ct25 oc26 kV26 dc26 pm26 cd26 ct26 oc27 kV27 dc27 pm27 cd27 ct27 oc28 kV28 dc28 pm28 cd28 ct28 oc29 kV29 dc29 pm29 cd29 ct29 oc30 kV30 dc30 pm30 cd30 ct30 oc31 kV31 dc31 pm31 cd31 ct31 oc32 kV32 dc32 pm32 cd32 ct32 oc33 kV33 dc33 pm33 cd33 ct33 oc34 kV34 dc34 pm34 cd34 ct34 oc35 kV35 dc35 pm35 cd35 ct35 oc36 kV36 dc36 pm36 cd36 ct36 oc37 kV37 dc37 pm37 cd37 ct37 oc38 kV38 dc38 pm38 cd38 ct38 : Value}
    (a1 : PySem.W.nsIn K mainGlobals "statements_within" = some (some (.ref f1))) (l1 : K.lookup f1 = some ⟨oc1, od1, .func (PySem.W.fnOf "statements_within" "statements_within" (defArgs s_statements_within) (defBody s_statements_within) (defScope s_statements_within) .none kV1 dc1 pm1 an1 cd1 ct1), sl1⟩) (c1 : PySem.W.codeIn K cd1 "statements_within" = true) (k1 : PySem.W.keepIn K (.ref f1) = true)
    (a2 : PySem.W.nsIn K mainGlobals "outside_in" = some (some (.ref f2))) (l2 : K.lookup f2 = some ⟨oc2, od2, .func (PySem.W.fnOf "outside_in" "outside_in" (defArgs s_outside_in) (defBody s_outside_in) (defScope s_outside_in) .none kV2 dc2 pm2 an2 cd2 ct2), sl2⟩) (c2 : PySem.W.codeIn K cd2 "outside_in" = true) (k2 : PySem.W.keepIn K (.ref f2) = true)
    (a3 : PySem.W.nsIn K mainGlobals "leaf_truths" = some (some (.ref f3))) (l3 : K.lookup f3 = some ⟨oc3, od3, .func (PySem.W.fnOf "leaf_truths" "leaf_truths" (defArgs s_leaf_truths) (defBody s_leaf_truths) (defScope s_leaf_truths) .none kV3 dc3 pm3 an3 cd3 ct3), sl3⟩) (c3 : PySem.W.codeIn K cd3 "leaf_truths" = true) (k3 : PySem.W.keepIn K (.ref f3) = true)
    (a4 : PySem.W.nsIn K mainGlobals "join_truths" = some (some (.ref f4))) (l4 : K.lookup f4 = some ⟨oc4, od4, .func (PySem.W.fnOf "join_truths" "join_truths" (defArgs s_join_truths) (defBody s_join_truths) (defScope s_join_truths) .none kV4 dc4 pm4 an4 cd4 ct4), sl4⟩) (c4 : PySem.W.codeIn K cd4 "join_truths" = true) (k4 : PySem.W.keepIn K (.ref f4) = true)
    (a5 : PySem.W.nsIn K mainGlobals "truths_behind" = some (some (.ref f5))) (l5 : K.lookup f5 = some ⟨oc5, od5, .func (PySem.W.fnOf "truths_behind" "truths_behind" (defArgs s_truths_behind) (defBody s_truths_behind) (defScope s_truths_behind) .none kV5 dc5 pm5 an5 cd5 ct5), sl5⟩) (c5 : PySem.W.codeIn K cd5 "truths_behind" = true) (k5 : PySem.W.keepIn K (.ref f5) = true)
    (a6 : PySem.W.nsIn K mainGlobals "door_truths" = some (some (.ref f6))) (l6 : K.lookup f6 = some ⟨oc6, od6, .func (PySem.W.fnOf "door_truths" "door_truths" (defArgs s_door_truths) (defBody s_door_truths) (defScope s_door_truths) .none kV6 dc6 pm6 an6 cd6 ct6), sl6⟩) (c6 : PySem.W.codeIn K cd6 "door_truths" = true) (k6 : PySem.W.keepIn K (.ref f6) = true)
    (a7 : PySem.W.nsIn K mainGlobals "from_inside" = some (some (.ref f7))) (l7 : K.lookup f7 = some ⟨oc7, od7, .func (PySem.W.fnOf "from_inside" "from_inside" (defArgs s_from_inside) (defBody s_from_inside) (defScope s_from_inside) .none kV7 dc7 pm7 an7 cd7 ct7), sl7⟩) (c7 : PySem.W.codeIn K cd7 "from_inside" = true) (k7 : PySem.W.keepIn K (.ref f7) = true)
    (a8 : PySem.W.nsIn K mainGlobals "part_truths" = some (some (.ref f8))) (l8 : K.lookup f8 = some ⟨oc8, od8, .func (PySem.W.fnOf "part_truths" "part_truths" (defArgs s_part_truths) (defBody s_part_truths) (defScope s_part_truths) .none kV8 dc8 pm8 an8 cd8 ct8), sl8⟩) (c8 : PySem.W.codeIn K cd8 "part_truths" = true) (k8 : PySem.W.keepIn K (.ref f8) = true)
    (a9 : PySem.W.nsIn K mainGlobals "truths" = some (some (.ref f9))) (l9 : K.lookup f9 = some ⟨oc9, od9, .func (PySem.W.fnOf "truths" "truths" (defArgs s_truths) (defBody s_truths) (defScope s_truths) .none kV9 dc9 pm9 an9 cd9 ct9), sl9⟩) (c9 : PySem.W.codeIn K cd9 "truths" = true) (k9 : PySem.W.keepIn K (.ref f9) = true)
    (a10 : PySem.W.nsIn K mainGlobals "moves" = some (some (.ref f10))) (l10 : K.lookup f10 = some ⟨oc10, od10, .func (PySem.W.fnOf "moves" "moves" (defArgs s_moves) (defBody s_moves) (defScope s_moves) .none kV10 dc10 pm10 an10 cd10 ct10), sl10⟩) (c10 : PySem.W.codeIn K cd10 "moves" = true) (k10 : PySem.W.keepIn K (.ref f10) = true)
    (a11 : PySem.W.nsIn K mainGlobals "winner_told" = some (some (.ref f11))) (l11 : K.lookup f11 = some ⟨oc11, od11, .func (PySem.W.fnOf "winner_told" "winner_told" (defArgs s_winner_told) (defBody s_winner_told) (defScope s_winner_told) .none kV11 dc11 pm11 an11 cd11 ct11), sl11⟩) (c11 : PySem.W.codeIn K cd11 "winner_told" = true) (k11 : PySem.W.keepIn K (.ref f11) = true)
    (a12 : PySem.W.nsIn K mainGlobals "winner" = some (some (.ref f12))) (l12 : K.lookup f12 = some ⟨oc12, od12, .func (PySem.W.fnOf "winner" "winner" (defArgs s_winner) (defBody s_winner) (defScope s_winner) .none kV12 dc12 pm12 an12 cd12 ct12), sl12⟩) (c12 : PySem.W.codeIn K cd12 "winner" = true) (k12 : PySem.W.keepIn K (.ref f12) = true)
    (a13 : PySem.W.nsIn K mainGlobals "winners_behind" = some (some (.ref f13))) (l13 : K.lookup f13 = some ⟨oc13, od13, .func (PySem.W.fnOf "winners_behind" "winners_behind" (defArgs s_winners_behind) (defBody s_winners_behind) (defScope s_winners_behind) .none kV13 dc13 pm13 an13 cd13 ct13), sl13⟩) (c13 : PySem.W.codeIn K cd13 "winners_behind" = true) (k13 : PySem.W.keepIn K (.ref f13) = true)
    (a14 : PySem.W.nsIn K mainGlobals "move_winners" = some (some (.ref f14))) (l14 : K.lookup f14 = some ⟨oc14, od14, .func (PySem.W.fnOf "move_winners" "move_winners" (defArgs s_move_winners) (defBody s_move_winners) (defScope s_move_winners) .none kV14 dc14 pm14 an14 cd14 ct14), sl14⟩) (c14 : PySem.W.codeIn K cd14 "move_winners" = true) (k14 : PySem.W.keepIn K (.ref f14) = true)
    (a15 : PySem.W.nsIn K mainGlobals "best_move" = some (some (.ref f15))) (l15 : K.lookup f15 = some ⟨oc15, od15, .func (PySem.W.fnOf "best_move" "best_move" (defArgs s_best_move) (defBody s_best_move) (defScope s_best_move) .none kV15 dc15 pm15 an15 cd15 ct15), sl15⟩) (c15 : PySem.W.codeIn K cd15 "best_move" = true) (k15 : PySem.W.keepIn K (.ref f15) = true)
    (a16 : PySem.W.nsIn K mainGlobals "_law_draw" = some (some (.ref f16))) (l16 : K.lookup f16 = some ⟨oc16, od16, .func (PySem.W.fnOf "_law_draw" "_law_draw" (defArgs s__law_draw) (defBody s__law_draw) (defScope s__law_draw) .none kV16 dc16 pm16 an16 cd16 ct16), sl16⟩) (c16 : PySem.W.codeIn K cd16 "_law_draw" = true) (k16 : PySem.W.keepIn K (.ref f16) = true)
    (a17 : PySem.W.nsIn K mainGlobals "_law_whole" = some (some (.ref f17))) (l17 : K.lookup f17 = some ⟨oc17, od17, .func (PySem.W.fnOf "_law_whole" "_law_whole" (defArgs s__law_whole) (defBody s__law_whole) (defScope s__law_whole) .none kV17 dc17 pm17 an17 cd17 ct17), sl17⟩) (c17 : PySem.W.codeIn K cd17 "_law_whole" = true) (k17 : PySem.W.keepIn K (.ref f17) = true)
    (a18 : PySem.W.nsIn K mainGlobals "_law_at" = some (some (.ref f18))) (l18 : K.lookup f18 = some ⟨oc18, od18, .func (PySem.W.fnOf "_law_at" "_law_at" (defArgs s__law_at) (defBody s__law_at) (defScope s__law_at) .none kV18 dc18 pm18 an18 cd18 ct18), sl18⟩) (c18 : PySem.W.codeIn K cd18 "_law_at" = true) (k18 : PySem.W.keepIn K (.ref f18) = true)
    (a19 : PySem.W.nsIn K mainGlobals "_law_the_same" = some (some (.ref f19))) (l19 : K.lookup f19 = some ⟨oc19, od19, .func (PySem.W.fnOf "_law_the_same" "_law_the_same" (defArgs s__law_the_same) (defBody s__law_the_same) (defScope s__law_the_same) .none kV19 dc19 pm19 an19 cd19 ct19), sl19⟩) (c19 : PySem.W.codeIn K cd19 "_law_the_same" = true) (k19 : PySem.W.keepIn K (.ref f19) = true)
    (a20 : PySem.W.nsIn K mainGlobals "_law_world_of" = some (some (.ref f20))) (l20 : K.lookup f20 = some ⟨oc20, od20, .func (PySem.W.fnOf "_law_world_of" "_law_world_of" (defArgs s__law_world_of) (defBody s__law_world_of) (defScope s__law_world_of) .none kV20 dc20 pm20 an20 cd20 ct20), sl20⟩) (c20 : PySem.W.codeIn K cd20 "_law_world_of" = true) (k20 : PySem.W.keepIn K (.ref f20) = true)
    (a21 : PySem.W.nsIn K mainGlobals "_law_copy_of" = some (some (.ref f21))) (l21 : K.lookup f21 = some ⟨oc21, od21, .func (PySem.W.fnOf "_law_copy_of" "_law_copy_of" (defArgs s__law_copy_of) (defBody s__law_copy_of) (defScope s__law_copy_of) .none kV21 dc21 pm21 an21 cd21 ct21), sl21⟩) (c21 : PySem.W.codeIn K cd21 "_law_copy_of" = true) (k21 : PySem.W.keepIn K (.ref f21) = true)
    (a22 : PySem.W.nsIn K mainGlobals "_law_led" = some (some (.ref f22))) (l22 : K.lookup f22 = some ⟨oc22, od22, .func (PySem.W.fnOf "_law_led" "_law_led" (defArgs s__law_led) (defBody s__law_led) (defScope s__law_led) .none kV22 dc22 pm22 an22 cd22 ct22), sl22⟩) (c22 : PySem.W.codeIn K cd22 "_law_led" = true) (k22 : PySem.W.keepIn K (.ref f22) = true)
    (a23 : PySem.W.nsIn K mainGlobals "_law_truth_by" = some (some (.ref f23))) (l23 : K.lookup f23 = some ⟨oc23, od23, .func (PySem.W.fnOf "_law_truth_by" "_law_truth_by" (defArgs s__law_truth_by) (defBody s__law_truth_by) (defScope s__law_truth_by) .none kV23 dc23 pm23 an23 cd23 ct23), sl23⟩) (c23 : PySem.W.codeIn K cd23 "_law_truth_by" = true) (k23 : PySem.W.keepIn K (.ref f23) = true)
    (a24 : PySem.W.nsIn K mainGlobals "_law_truth_of_two" = some (some (.ref f24))) (l24 : K.lookup f24 = some ⟨oc24, od24, .func (PySem.W.fnOf "_law_truth_of_two" "_law_truth_of_two" (defArgs s__law_truth_of_two) (defBody s__law_truth_of_two) (defScope s__law_truth_of_two) .none kV24 dc24 pm24 an24 cd24 ct24), sl24⟩) (c24 : PySem.W.codeIn K cd24 "_law_truth_of_two" = true) (k24 : PySem.W.keepIn K (.ref f24) = true)
    (a25 : PySem.W.nsIn K mainGlobals "_law_truth_of_lamp" = some (some (.ref f25))) (l25 : K.lookup f25 = some ⟨oc25, od25, .func (PySem.W.fnOf "_law_truth_of_lamp" "_law_truth_of_lamp" (defArgs s__law_truth_of_lamp) (defBody s__law_truth_of_lamp) (defScope s__law_truth_of_lamp) .none kV25 dc25 pm25 an25 cd25 ct25), sl25⟩) (c25 : PySem.W.codeIn K cd25 "_law_truth_of_lamp" = true) (k25 : PySem.W.keepIn K (.ref f25) = true)
    (a26 : PySem.W.nsIn K mainGlobals "_law_join" = some (some (.ref f26))) (l26 : K.lookup f26 = some ⟨oc26, od26, .func (PySem.W.fnOf "_law_join" "_law_join" (defArgs s__law_join) (defBody s__law_join) (defScope s__law_join) .none kV26 dc26 pm26 an26 cd26 ct26), sl26⟩) (c26 : PySem.W.codeIn K cd26 "_law_join" = true) (k26 : PySem.W.keepIn K (.ref f26) = true)
    (a27 : PySem.W.nsIn K mainGlobals "_law_grown" = some (some (.ref f27))) (l27 : K.lookup f27 = some ⟨oc27, od27, .func (PySem.W.fnOf "_law_grown" "_law_grown" (defArgs s__law_grown) (defBody s__law_grown) (defScope s__law_grown) .none kV27 dc27 pm27 an27 cd27 ct27), sl27⟩) (c27 : PySem.W.codeIn K cd27 "_law_grown" = true) (k27 : PySem.W.keepIn K (.ref f27) = true)
    (a28 : PySem.W.nsIn K mainGlobals "_law_plain_kinds" = some (some (.ref f28))) (l28 : K.lookup f28 = some ⟨oc28, od28, .func (PySem.W.fnOf "_law_plain_kinds" "_law_plain_kinds" (defArgs s__law_plain_kinds) (defBody s__law_plain_kinds) (defScope s__law_plain_kinds) .none kV28 dc28 pm28 an28 cd28 ct28), sl28⟩) (c28 : PySem.W.codeIn K cd28 "_law_plain_kinds" = true) (k28 : PySem.W.keepIn K (.ref f28) = true)
    (a29 : PySem.W.nsIn K mainGlobals "_law_moves_from" = some (some (.ref f29))) (l29 : K.lookup f29 = some ⟨oc29, od29, .func (PySem.W.fnOf "_law_moves_from" "_law_moves_from" (defArgs s__law_moves_from) (defBody s__law_moves_from) (defScope s__law_moves_from) .none kV29 dc29 pm29 an29 cd29 ct29), sl29⟩) (c29 : PySem.W.codeIn K cd29 "_law_moves_from" = true) (k29 : PySem.W.keepIn K (.ref f29) = true)
    (a30 : PySem.W.nsIn K mainGlobals "_law_behind_parts" = some (some (.ref f30))) (l30 : K.lookup f30 = some ⟨oc30, od30, .func (PySem.W.fnOf "_law_behind_parts" "_law_behind_parts" (defArgs s__law_behind_parts) (defBody s__law_behind_parts) (defScope s__law_behind_parts) .none kV30 dc30 pm30 an30 cd30 ct30), sl30⟩) (c30 : PySem.W.codeIn K cd30 "_law_behind_parts" = true) (k30 : PySem.W.keepIn K (.ref f30) = true)
    (a31 : PySem.W.nsIn K mainGlobals "_law_truths_of" = some (some (.ref f31))) (l31 : K.lookup f31 = some ⟨oc31, od31, .func (PySem.W.fnOf "_law_truths_of" "_law_truths_of" (defArgs s__law_truths_of) (defBody s__law_truths_of) (defScope s__law_truths_of) .none kV31 dc31 pm31 an31 cd31 ct31), sl31⟩) (c31 : PySem.W.codeIn K cd31 "_law_truths_of" = true) (k31 : PySem.W.keepIn K (.ref f31) = true)
    (a32 : PySem.W.nsIn K mainGlobals "_law_best_of" = some (some (.ref f32))) (l32 : K.lookup f32 = some ⟨oc32, od32, .func (PySem.W.fnOf "_law_best_of" "_law_best_of" (defArgs s__law_best_of) (defBody s__law_best_of) (defScope s__law_best_of) .none kV32 dc32 pm32 an32 cd32 ct32), sl32⟩) (c32 : PySem.W.codeIn K cd32 "_law_best_of" = true) (k32 : PySem.W.keepIn K (.ref f32) = true)
    (a33 : PySem.W.nsIn K mainGlobals "_law_refused_by_any" = some (some (.ref f33))) (l33 : K.lookup f33 = some ⟨oc33, od33, .func (PySem.W.fnOf "_law_refused_by_any" "_law_refused_by_any" (defArgs s__law_refused_by_any) (defBody s__law_refused_by_any) (defScope s__law_refused_by_any) .none kV33 dc33 pm33 an33 cd33 ct33), sl33⟩) (c33 : PySem.W.codeIn K cd33 "_law_refused_by_any" = true) (k33 : PySem.W.keepIn K (.ref f33) = true)
    (a34 : PySem.W.nsIn K mainGlobals "_law_count_by" = some (some (.ref f34))) (l34 : K.lookup f34 = some ⟨oc34, od34, .func (PySem.W.fnOf "_law_count_by" "_law_count_by" (defArgs s__law_count_by) (defBody s__law_count_by) (defScope s__law_count_by) .none kV34 dc34 pm34 an34 cd34 ct34), sl34⟩) (c34 : PySem.W.codeIn K cd34 "_law_count_by" = true) (k34 : PySem.W.keepIn K (.ref f34) = true)
    (a35 : PySem.W.nsIn K mainGlobals "_law_moved" = some (some (.ref f35))) (l35 : K.lookup f35 = some ⟨oc35, od35, .func (PySem.W.fnOf "_law_moved" "_law_moved" (defArgs s__law_moved) (defBody s__law_moved) (defScope s__law_moved) .none kV35 dc35 pm35 an35 cd35 ct35), sl35⟩) (c35 : PySem.W.codeIn K cd35 "_law_moved" = true) (k35 : PySem.W.keepIn K (.ref f35) = true)
    (a36 : PySem.W.nsIn K mainGlobals "_law_moved_world" = some (some (.ref f36))) (l36 : K.lookup f36 = some ⟨oc36, od36, .func (PySem.W.fnOf "_law_moved_world" "_law_moved_world" (defArgs s__law_moved_world) (defBody s__law_moved_world) (defScope s__law_moved_world) .none kV36 dc36 pm36 an36 cd36 ct36), sl36⟩) (c36 : PySem.W.codeIn K cd36 "_law_moved_world" = true) (k36 : PySem.W.keepIn K (.ref f36) = true)
    (a37 : PySem.W.nsIn K mainGlobals "_law_far_by" = some (some (.ref f37))) (l37 : K.lookup f37 = some ⟨oc37, od37, .func (PySem.W.fnOf "_law_far_by" "_law_far_by" (defArgs s__law_far_by) (defBody s__law_far_by) (defScope s__law_far_by) .none kV37 dc37 pm37 an37 cd37 ct37), sl37⟩) (c37 : PySem.W.codeIn K cd37 "_law_far_by" = true) (k37 : PySem.W.keepIn K (.ref f37) = true)
    (a38 : PySem.W.nsIn K mainGlobals "law" = some (some (.ref f38))) (l38 : K.lookup f38 = some ⟨oc38, od38, .func (PySem.W.fnOf "law" "law" (defArgs s_law) (defBody s_law) (defScope s_law) .none kV38 dc38 pm38 an38 cd38 ct38), sl38⟩) (c38 : PySem.W.codeIn K cd38 "law" = true) (k38 : PySem.W.keepIn K (.ref f38) = true)
    (z_len : PySem.W.nsIn K mainGlobals "len" = some none)
    (z_isinstance : PySem.W.nsIn K mainGlobals "isinstance" = some none)
    (z_list : PySem.W.nsIn K mainGlobals "list" = some none)
    (z_tuple : PySem.W.nsIn K mainGlobals "tuple" = some none)
    (z_bool : PySem.W.nsIn K mainGlobals "bool" = some none)
    (z_str : PySem.W.nsIn K mainGlobals "str" = some none)
    (z_int : PySem.W.nsIn K mainGlobals "int" = some none)
    (z_range : PySem.W.nsIn K mainGlobals "range" = some none)
    (z_zip : PySem.W.nsIn K mainGlobals "zip" = some none)
    (z_reversed : PySem.W.nsIn K mainGlobals "reversed" = some none)
    (z_min : PySem.W.nsIn K mainGlobals "min" = some none)
    (z_max : PySem.W.nsIn K mainGlobals "max" = some none)
    {a_LEAVES : Addr} {od_LEAVES : Option Addr} {sl_LEAVES : Array (Option Value)} {n_LEAVES : Nat} {t1_LEAVES t2_LEAVES : Tok} (y_nLEAVES : PySem.W.nsIn K mainGlobals "LEAVES" = some (some (.ref a_LEAVES))) (y_lLEAVES : K.lookup a_LEAVES = some ⟨.type "tuple", od_LEAVES, .seq #[.str "lamp" t1_LEAVES, .str "dark" t2_LEAVES] n_LEAVES, sl_LEAVES⟩)
    {a_JOINS : Addr} {od_JOINS : Option Addr} {sl_JOINS : Array (Option Value)} {n_JOINS : Nat} {t1_JOINS t2_JOINS : Tok} (y_nJOINS : PySem.W.nsIn K mainGlobals "JOINS" = some (some (.ref a_JOINS))) (y_lJOINS : K.lookup a_JOINS = some ⟨.type "tuple", od_JOINS, .seq #[.str "and" t1_JOINS, .str "or" t2_JOINS] n_JOINS, sl_JOINS⟩)
    {a_MOVERS : Addr} {n_M : Nat} {h1_M h2_M h3_M h4_M : Int} {t1_M u1_M t2_M u2_M t3_M u3_M t4_M u4_M : Tok} (y_nMOVERS : PySem.W.nsIn K mainGlobals "MOVERS" = some (some (.ref a_MOVERS))) (y_lMOVERS : K.lookup a_MOVERS = some ⟨.type "dict", none, .dict #[⟨h1_M, .str "or" t1_M, .str "speaker" u1_M⟩, ⟨h2_M, .str "some" t2_M, .str "speaker" u2_M⟩, ⟨h3_M, .str "and" t3_M, .str "doubter" u3_M⟩, ⟨h4_M, .str "every" t4_M, .str "doubter" u4_M⟩] n_M, #[]⟩) (y_sMOVERS : (a_MOVERS == sysModules) = false) (y_h1MOVERS : h1_M = hashStr w "or") (y_h2MOVERS : h2_M = hashStr w "some") (y_h3MOVERS : h3_M = hashStr w "and") (y_h4MOVERS : h4_M = hashStr w "every")
    {a_NoMove a_SayError : Addr} (y_nNoMove : PySem.W.nsIn K mainGlobals "NoMove" = some (some (.ref a_NoMove))) (y_nSayError : PySem.W.nsIn K mainGlobals "SayError" = some (some (.ref a_SayError))) (y_nVE : PySem.W.nsIn K mainGlobals "ValueError" = some none) (y_kExc : PySem.W.excIn K a_NoMove bmVE "ValueError.__new__" = true) (y_kM1 : PySem.W.exmOne K (.ref a_NoMove) (.ref a_NoMove) = some true) (y_kM2 : PySem.W.exmOne K (.ref a_NoMove) (.ref a_SayError) = some true) (y_kVE : PySem.W.kitCls K (.ref a_NoMove) (.type "ValueError") = some true) (y_own : ∀ (x : Str) (C : Addr) (bmB : List Value) (newId : String), PySem.W.nsIn K mainGlobals x = some (some (.ref C)) → PySem.W.excIn K C bmB newId = true → PyProof.Rows.OwnCls x C bmB newId mg h)
    {cc T : Addr} {occ : Value} {odc : Option Addr} {slc : Array (Option Value)} {vsc : Array Value} (y_hcd : cd9 = .ref cc) (y_lcd : K.lookup cc = some ⟨occ, odc, .fields vsc, slc⟩) (y_htb : vsc[11]? = some (.ref T)) (y_kch : PySem.W.codeHdIn K cc T = true) (y_tt : h.get? T = some (PySem.W.tabObj #[])) (y_knt : PySem.W.noTabs K = true)
    : ∃ (fd : FuncData) (cc T : Addr), PySem.W.codeHdIn K cc T = true ∧ h.get? T = some (PySem.W.tabObj #[]) ∧ PySem.W.noTabs K = true ∧ (∀ (s : Shared) (v : Value), BindsTo s fd ⟨[v], []⟩ [("_law_script", v)]) ∧ ∀ base : Heap, K.In base → base.Ns mainGlobals mg → BMain mg base → PySem.W.CodeHd base cc T → KeepB h base → FnOk l.prog w K mg base CX0 231 fa fd ["_law_script"] (spLawT K T) := by
  subst y_hcd
  have e := hfa.symm.trans (PySem.W.mg_of X G a38)
  cases e
  have B : Blt mg := ⟨PySem.W.mg_none_of X G z_len, PySem.W.mg_none_of X G z_isinstance, PySem.W.mg_none_of X G z_list, PySem.W.mg_none_of X G z_tuple, PySem.W.mg_none_of X G z_bool, PySem.W.mg_none_of X G z_str, PySem.W.mg_none_of X G z_int, PySem.W.mg_none_of X G z_range, PySem.W.mg_none_of X G z_zip, PySem.W.mg_none_of X G z_reversed, PySem.W.mg_none_of X G z_min, PySem.W.mg_none_of X G z_max⟩
  have D_statements_within : DefIn K mg "statements_within" s_statements_within ["statement"] _ _ := ⟨fun_mk (st := s_statements_within) l1 c1 k1, PySem.W.mg_of X G a1, (fun_mk (st := s_statements_within) l1 c1 k1).binds (ps := ["statement"]) fun _ _ _ _ _ _ us hl => match us, hl with | [_], _ => rfl⟩
  have D_outside_in : DefIn K mg "outside_in" s_outside_in ["statement"] _ _ := ⟨fun_mk (st := s_outside_in) l2 c2 k2, PySem.W.mg_of X G a2, (fun_mk (st := s_outside_in) l2 c2 k2).binds (ps := ["statement"]) fun _ _ _ _ _ _ us hl => match us, hl with | [_], _ => rfl⟩
  have D_leaf_truths : DefIn K mg "leaf_truths" s_leaf_truths ["world", "leaf"] _ _ := ⟨fun_mk (st := s_leaf_truths) l3 c3 k3, PySem.W.mg_of X G a3, (fun_mk (st := s_leaf_truths) l3 c3 k3).binds (ps := ["world", "leaf"]) fun _ _ _ _ _ _ us hl => match us, hl with | [_, _], _ => rfl⟩
  have D_join_truths : DefIn K mg "join_truths" s_join_truths ["kind", "first", "second"] _ _ := ⟨fun_mk (st := s_join_truths) l4 c4 k4, PySem.W.mg_of X G a4, (fun_mk (st := s_join_truths) l4 c4 k4).binds (ps := ["kind", "first", "second"]) fun _ _ _ _ _ _ us hl => match us, hl with | [_, _, _], _ => rfl⟩
  have D_truths_behind : DefIn K mg "truths_behind" s_truths_behind ["doors", "inner"] _ _ := ⟨fun_mk (st := s_truths_behind) l5 c5 k5, PySem.W.mg_of X G a5, (fun_mk (st := s_truths_behind) l5 c5 k5).binds (ps := ["doors", "inner"]) fun _ _ _ _ _ _ us hl => match us, hl with | [_, _], _ => rfl⟩
  have D_door_truths : DefIn K mg "door_truths" s_door_truths ["world", "kind", "inner"] _ _ := ⟨fun_mk (st := s_door_truths) l6 c6 k6, PySem.W.mg_of X G a6, (fun_mk (st := s_door_truths) l6 c6 k6).binds (ps := ["world", "kind", "inner"]) fun _ _ _ _ _ _ us hl => match us, hl with | [_, _, _], _ => rfl⟩
  have D_from_inside : DefIn K mg "from_inside" s_from_inside ["statement", "answer"] _ _ := ⟨fun_mk (st := s_from_inside) l7 c7 k7, PySem.W.mg_of X G a7, (fun_mk (st := s_from_inside) l7 c7 k7).binds (ps := ["statement", "answer"]) fun _ _ _ _ _ _ us hl => match us, hl with | [_, _], _ => rfl⟩
  have D_part_truths : DefIn K mg "part_truths" s_part_truths ["world", "part", "inner"] _ _ := ⟨fun_mk (st := s_part_truths) l8 c8 k8, PySem.W.mg_of X G a8, (fun_mk (st := s_part_truths) l8 c8 k8).binds (ps := ["world", "part", "inner"]) fun _ _ _ _ _ _ us hl => match us, hl with | [_, _, _], _ => rfl⟩
  have D_truths : DefIn K mg "truths" s_truths ["world", "statement"] _ _ := ⟨fun_mk (st := s_truths) l9 c9 k9, PySem.W.mg_of X G a9, (fun_mk (st := s_truths) l9 c9 k9).binds (ps := ["world", "statement"]) fun _ _ _ _ _ _ us hl => match us, hl with | [_, _], _ => rfl⟩
  have D_moves : DefIn K mg "moves" s_moves ["world", "room", "statement"] _ _ := ⟨fun_mk (st := s_moves) l10 c10 k10, PySem.W.mg_of X G a10, (fun_mk (st := s_moves) l10 c10 k10).binds (ps := ["world", "room", "statement"]) fun _ _ _ _ _ _ us hl => match us, hl with | [_, _, _], _ => rfl⟩
  have D_winner_told : DefIn K mg "winner_told" s_winner_told ["truth"] _ _ := ⟨fun_mk (st := s_winner_told) l11 c11 k11, PySem.W.mg_of X G a11, (fun_mk (st := s_winner_told) l11 c11 k11).binds (ps := ["truth"]) fun _ _ _ _ _ _ us hl => match us, hl with | [_], _ => rfl⟩
  have D_winner : DefIn K mg "winner" s_winner ["world", "room", "statement"] _ _ := ⟨fun_mk (st := s_winner) l12 c12 k12, PySem.W.mg_of X G a12, (fun_mk (st := s_winner) l12 c12 k12).binds (ps := ["world", "room", "statement"]) fun _ _ _ _ _ _ us hl => match us, hl with | [_, _, _], _ => rfl⟩
  have D_winners_behind : DefIn K mg "winners_behind" s_winners_behind ["world", "room", "statement"] _ _ := ⟨fun_mk (st := s_winners_behind) l13 c13 k13, PySem.W.mg_of X G a13, (fun_mk (st := s_winners_behind) l13 c13 k13).binds (ps := ["world", "room", "statement"]) fun _ _ _ _ _ _ us hl => match us, hl with | [_, _, _], _ => rfl⟩
  have D_move_winners : DefIn K mg "move_winners" s_move_winners ["world", "room", "statement"] _ _ := ⟨fun_mk (st := s_move_winners) l14 c14 k14, PySem.W.mg_of X G a14, (fun_mk (st := s_move_winners) l14 c14 k14).binds (ps := ["world", "room", "statement"]) fun _ _ _ _ _ _ us hl => match us, hl with | [_, _, _], _ => rfl⟩
  have D_best_move : DefIn K mg "best_move" s_best_move ["world", "room", "statement"] _ _ := ⟨fun_mk (st := s_best_move) l15 c15 k15, PySem.W.mg_of X G a15, (fun_mk (st := s_best_move) l15 c15 k15).binds (ps := ["world", "room", "statement"]) fun _ _ _ _ _ _ us hl => match us, hl with | [_, _, _], _ => rfl⟩
  have D__law_draw : DefIn K mg "_law_draw" s__law_draw ["_law_number", "_law_prime", "_law_many"] _ _ := ⟨fun_mk (st := s__law_draw) l16 c16 k16, PySem.W.mg_of X G a16, (fun_mk (st := s__law_draw) l16 c16 k16).binds (ps := ["_law_number", "_law_prime", "_law_many"]) fun _ _ _ _ _ _ us hl => match us, hl with | [_, _, _], _ => rfl⟩
  have D__law_whole : DefIn K mg "_law_whole" s__law_whole ["_law_found"] _ _ := ⟨fun_mk (st := s__law_whole) l17 c17 k17, PySem.W.mg_of X G a17, (fun_mk (st := s__law_whole) l17 c17 k17).binds (ps := ["_law_found"]) fun _ _ _ _ _ _ us hl => match us, hl with | [_], _ => rfl⟩
  have D__law_at : DefIn K mg "_law_at" s__law_at ["_law_script", "_law_k"] _ _ := ⟨fun_mk (st := s__law_at) l18 c18 k18, PySem.W.mg_of X G a18, (fun_mk (st := s__law_at) l18 c18 k18).binds (ps := ["_law_script", "_law_k"]) fun _ _ _ _ _ _ us hl => match us, hl with | [_, _], _ => rfl⟩
  have D__law_the_same : DefIn K mg "_law_the_same" s__law_the_same ["_law_found", "_law_due"] _ _ := ⟨fun_mk (st := s__law_the_same) l19 c19 k19, PySem.W.mg_of X G a19, (fun_mk (st := s__law_the_same) l19 c19 k19).binds (ps := ["_law_found", "_law_due"]) fun _ _ _ _ _ _ us hl => match us, hl with | [_, _], _ => rfl⟩
  have D__law_world_of : DefIn K mg "_law_world_of" s__law_world_of ["_law_count", "_law_first", "_law_second"] _ _ := ⟨fun_mk (st := s__law_world_of) l20 c20 k20, PySem.W.mg_of X G a20, (fun_mk (st := s__law_world_of) l20 c20 k20).binds (ps := ["_law_count", "_law_first", "_law_second"]) fun _ _ _ _ _ _ us hl => match us, hl with | [_, _, _], _ => rfl⟩
  have D__law_copy_of : DefIn K mg "_law_copy_of" s__law_copy_of ["_law_world"] _ _ := ⟨fun_mk (st := s__law_copy_of) l21 c21 k21, PySem.W.mg_of X G a21, (fun_mk (st := s__law_copy_of) l21 c21 k21).binds (ps := ["_law_world"]) fun _ _ _ _ _ _ us hl => match us, hl with | [_], _ => rfl⟩
  have D__law_led : DefIn K mg "_law_led" s__law_led ["_law_truth", "_law_doors"] _ _ := ⟨fun_mk (st := s__law_led) l22 c22 k22, PySem.W.mg_of X G a22, (fun_mk (st := s__law_led) l22 c22 k22).binds (ps := ["_law_truth", "_law_doors"]) fun _ _ _ _ _ _ us hl => match us, hl with | [_, _], _ => rfl⟩
  have D__law_truth_by : DefIn K mg "_law_truth_by" s__law_truth_by ["_law_sort", "_law_truth", "_law_world"] _ _ := ⟨fun_mk (st := s__law_truth_by) l23 c23 k23, PySem.W.mg_of X G a23, (fun_mk (st := s__law_truth_by) l23 c23 k23).binds (ps := ["_law_sort", "_law_truth", "_law_world"]) fun _ _ _ _ _ _ us hl => match us, hl with | [_, _, _], _ => rfl⟩
  have D__law_truth_of_two : DefIn K mg "_law_truth_of_two" s__law_truth_of_two ["_law_sort", "_law_first", "_law_second"] _ _ := ⟨fun_mk (st := s__law_truth_of_two) l24 c24 k24, PySem.W.mg_of X G a24, (fun_mk (st := s__law_truth_of_two) l24 c24 k24).binds (ps := ["_law_sort", "_law_first", "_law_second"]) fun _ _ _ _ _ _ us hl => match us, hl with | [_, _, _], _ => rfl⟩
  have D__law_truth_of_lamp : DefIn K mg "_law_truth_of_lamp" s__law_truth_of_lamp ["_law_sort", "_law_lamp", "_law_world"] _ _ := ⟨fun_mk (st := s__law_truth_of_lamp) l25 c25 k25, PySem.W.mg_of X G a25, (fun_mk (st := s__law_truth_of_lamp) l25 c25 k25).binds (ps := ["_law_sort", "_law_lamp", "_law_world"]) fun _ _ _ _ _ _ us hl => match us, hl with | [_, _, _], _ => rfl⟩
  have D__law_join : DefIn K mg "_law_join" s__law_join ["_law_pile", "_law_sort"] _ _ := ⟨fun_mk (st := s__law_join) l26 c26 k26, PySem.W.mg_of X G a26, (fun_mk (st := s__law_join) l26 c26 k26).binds (ps := ["_law_pile", "_law_sort"]) fun _ _ _ _ _ _ us hl => match us, hl with | [_, _], _ => rfl⟩
  have D__law_grown : DefIn K mg "_law_grown" s__law_grown ["_law_cells", "_law_world", "_law_kinds"] _ _ := ⟨fun_mk (st := s__law_grown) l27 c27 k27, PySem.W.mg_of X G a27, (fun_mk (st := s__law_grown) l27 c27 k27).binds (ps := ["_law_cells", "_law_world", "_law_kinds"]) fun _ _ _ _ _ _ us hl => match us, hl with | [_, _, _], _ => rfl⟩
  have D__law_plain_kinds : DefIn K mg "_law_plain_kinds" s__law_plain_kinds [] _ _ := ⟨fun_mk (st := s__law_plain_kinds) l28 c28 k28, PySem.W.mg_of X G a28, (fun_mk (st := s__law_plain_kinds) l28 c28 k28).binds (ps := []) fun _ _ _ _ _ _ us hl => match us, hl with | [], _ => rfl⟩
  have D__law_moves_from : DefIn K mg "_law_moves_from" s__law_moves_from ["_law_world", "_law_room", "_law_statement"] _ _ := ⟨fun_mk (st := s__law_moves_from) l29 c29 k29, PySem.W.mg_of X G a29, (fun_mk (st := s__law_moves_from) l29 c29 k29).binds (ps := ["_law_world", "_law_room", "_law_statement"]) fun _ _ _ _ _ _ us hl => match us, hl with | [_, _, _], _ => rfl⟩
  have D__law_behind_parts : DefIn K mg "_law_behind_parts" s__law_behind_parts ["_law_statement"] _ _ := ⟨fun_mk (st := s__law_behind_parts) l30 c30 k30, PySem.W.mg_of X G a30, (fun_mk (st := s__law_behind_parts) l30 c30 k30).binds (ps := ["_law_statement"]) fun _ _ _ _ _ _ us hl => match us, hl with | [_], _ => rfl⟩
  have D__law_truths_of : DefIn K mg "_law_truths_of" s__law_truths_of ["_law_world", "_law_statement"] _ _ := ⟨fun_mk (st := s__law_truths_of) l31 c31 k31, PySem.W.mg_of X G a31, (fun_mk (st := s__law_truths_of) l31 c31 k31).binds (ps := ["_law_world", "_law_statement"]) fun _ _ _ _ _ _ us hl => match us, hl with | [_, _], _ => rfl⟩
  have D__law_best_of : DefIn K mg "_law_best_of" s__law_best_of ["_law_world", "_law_statement", "_law_due"] _ _ := ⟨fun_mk (st := s__law_best_of) l32 c32 k32, PySem.W.mg_of X G a32, (fun_mk (st := s__law_best_of) l32 c32 k32).binds (ps := ["_law_world", "_law_statement", "_law_due"]) fun _ _ _ _ _ _ us hl => match us, hl with | [_, _, _], _ => rfl⟩
  have D__law_refused_by_any : DefIn K mg "_law_refused_by_any" s__law_refused_by_any ["_law_world", "_law_room", "_law_statement"] _ _ := ⟨fun_mk (st := s__law_refused_by_any) l33 c33 k33, PySem.W.mg_of X G a33, (fun_mk (st := s__law_refused_by_any) l33 c33 k33).binds (ps := ["_law_world", "_law_room", "_law_statement"]) fun _ _ _ _ _ _ us hl => match us, hl with | [_, _, _], _ => rfl⟩
  have D__law_count_by : DefIn K mg "_law_count_by" s__law_count_by ["_law_first"] _ _ := ⟨fun_mk (st := s__law_count_by) l34 c34 k34, PySem.W.mg_of X G a34, (fun_mk (st := s__law_count_by) l34 c34 k34).binds (ps := ["_law_first"]) fun _ _ _ _ _ _ us hl => match us, hl with | [_], _ => rfl⟩
  have D__law_moved : DefIn K mg "_law_moved" s__law_moved ["_law_part", "_law_far"] _ _ := ⟨fun_mk (st := s__law_moved) l35 c35 k35, PySem.W.mg_of X G a35, (fun_mk (st := s__law_moved) l35 c35 k35).binds (ps := ["_law_part", "_law_far"]) fun _ _ _ _ _ _ us hl => match us, hl with | [_, _], _ => rfl⟩
  have D__law_moved_world : DefIn K mg "_law_moved_world" s__law_moved_world ["_law_world", "_law_far"] _ _ := ⟨fun_mk (st := s__law_moved_world) l36 c36 k36, PySem.W.mg_of X G a36, (fun_mk (st := s__law_moved_world) l36 c36 k36).binds (ps := ["_law_world", "_law_far"]) fun _ _ _ _ _ _ us hl => match us, hl with | [_, _], _ => rfl⟩
  have D__law_far_by : DefIn K mg "_law_far_by" s__law_far_by ["_law_cell"] _ _ := ⟨fun_mk (st := s__law_far_by) l37 c37 k37, PySem.W.mg_of X G a37, (fun_mk (st := s__law_far_by) l37 c37 k37).binds (ps := ["_law_cell"]) fun _ _ _ _ _ _ us hl => match us, hl with | [_], _ => rfl⟩
  have D_law : DefIn K mg "law" s_law ["_law_script"] _ _ := ⟨fun_mk (st := s_law) l38 c38 k38, PySem.W.mg_of X G a38, (fun_mk (st := s_law) l38 c38 k38).binds (ps := ["_law_script"]) fun _ _ _ _ _ _ us hl => match us, hl with | [_], _ => rfl⟩
  refine ⟨PySem.W.fnOf "law" "law" (defArgs s_law) (defBody s_law) (defScope s_law) .none kV38 dc38 pm38 an38 cd38 ct38, cc, T, y_kch, y_tt, y_knt, fun s v => .of_eq rfl, fun base _ _ hBM hC hKB => ?_⟩
  have h1 := ok_whole (P := l.prog) (w := w) (base := base) D__law_whole B
  have h2 := ok_at (P := l.prog) (w := w) (base := base) D__law_at B
  have cL := PySem.W.mg_of X G y_nLEAVES
  have cJ := PySem.W.mg_of X G y_nJOINS
  have cM := PySem.W.mg_of X G y_nMOVERS
  have tL := const_tup y_lLEAVES
  have tJ := const_tup y_lJOINS
  have tM := const_movers (P := l.prog) (w := w) y_lMOVERS y_sMOVERS y_h1MOVERS y_h2MOVERS y_h3MOVERS y_h4MOVERS
  have h4 := ok_within (P := l.prog) (w := w) (base := base) D_statements_within B cL tL
  have h5 := ok_outside D_outside_in B h4
  have h6 := ok_leaf (P := l.prog) (w := w) (base := base) D_leaf_truths B
  have h7 := ok_join_truths (P := l.prog) (w := w) (base := base) D_join_truths B
  have h8 := ok_behind (P := l.prog) (w := w) (base := base) D_truths_behind B
  have h9 := ok_door D_door_truths B h8
  have h10a := ok_from D_from_inside B h5 h4
  have h10b := ok_part D_part_truths B cL tL cJ tJ h6 h7 h9
  have h10 := ok_truths D_truths rfl hC hBM h10b h10a
  have h11 := ok_draw (P := l.prog) (w := w) (base := base) D__law_draw
  have h12 := ok_count (P := l.prog) (w := w) (base := base) D__law_count_by B
  have h13 := ok_far (P := l.prog) (w := w) (base := base) D__law_far_by
  have h14 := ok_led (P := l.prog) (w := w) (base := base) D__law_led B
  have h15 := ok_truth_by D__law_truth_by B h14
  have h16 := ok_truth_two (P := l.prog) (w := w) (base := base) D__law_truth_of_two B
  have h17 := ok_truth_lamp (P := l.prog) (w := w) (base := base) D__law_truth_of_lamp B
  have h18 := ok_join D__law_join h16
  have h19 := ok_grownD (nt := false) D__law_grown B h18 h15 h17
  have h20 := ok_kinds_plain (P := l.prog) (w := w) (base := base) D__law_plain_kinds
  have h21 := ok_world_of D__law_world_of B h11
  have h22 := ok_copy (P := l.prog) (w := w) (base := base) D__law_copy_of B
  have h23 := ok_moved_world (P := l.prog) (w := w) (base := base) D__law_moved_world B
  have h24 := ok_moved (P := l.prog) (w := w) (base := base) D__law_moved B 230
  have h26 := ok_behind_parts (P := l.prog) (w := w) (base := base) D__law_behind_parts B
  have h27 := ok_truths_of D__law_truths_of B h26 h17 h16 h15
  have h28 := ok_same (P := l.prog) (w := w) (base := base) D__law_the_same B h1
  have g1 := ok_moves (P := l.prog) (w := w) (base := base) D_moves B cL tL cJ tJ
  have g2 := ok_told (P := l.prog) (w := w) (base := base) D_winner_told
  have g3 := ok_winner D_winner B g2 h10
  have g4 := ok_behindW D_winners_behind B g2 h10
  have g5 := ok_moveW D_move_winners B cJ tJ g3 g4
  have own := own_base hKB (y_own "NoMove" a_NoMove bmVE "ValueError.__new__" y_nNoMove y_kExc)
  have g6 := ok_bestX own D_best_move B cM tM g1 g5
  have g7 := ok_lmoves (P := l.prog) (w := w) (base := base) D__law_moves_from B
  have g8 := ok_refused D__law_refused_by_any B (PySem.W.mg_none_of X G y_nVE) y_kVE (PySem.W.mg_of X G y_nSayError) y_kM2 g6
  have g9 := ok_best_of D__law_best_of B h27
  exact ok_law09 D_law B h2 h12 h21 h20 h19 h13 h23 h24 h22 g7 g1 h28 h1 g9 g8 (PySem.W.mg_of X G y_nNoMove) y_kM1 g6
end My
open PySem PySem.W PyProof.Rows
set_option maxRecDepth 100000 in
set_option maxHeartbeats 0 in
theorem PySem.Challenge.cw_roomsay_k09_moves_holds : PySem.Challenge.rw_roomsay_k09_moves.Holds := by
  w_on; o_law; k_head; (case hw => w_witness2)
  k_fill
  refine L2.walk_tab1 (l := PySem.Challenge.rw_roomsay_k09_moves) (k := 231) rfl rfl ⟨rfl, by decide, by decide⟩ (fun w h Y => PySem.W.km_in_of Y) ?F
  case F =>
    intro w mg fa h Y KX G hmg hOwn
    refine' My.all_mk KX G hmg ?a1 ?l1 ?c1 ?k1 ?a2 ?l2 ?c2 ?k2 ?a3 ?l3 ?c3 ?k3 ?a4 ?l4 ?c4 ?k4 ?a5 ?l5 ?c5 ?k5 ?a6 ?l6 ?c6 ?k6 ?a7 ?l7 ?c7 ?k7 ?a8 ?l8 ?c8 ?k8 ?a9 ?l9 ?c9 ?k9 ?a10 ?l10 ?c10 ?k10 ?a11 ?l11 ?c11 ?k11 ?a12 ?l12 ?c12 ?k12 ?a13 ?l13 ?c13 ?k13 ?a14 ?l14 ?c14 ?k14 ?a15 ?l15 ?c15 ?k15 ?a16 ?l16 ?c16 ?k16 ?a17 ?l17 ?c17 ?k17 ?a18 ?l18 ?c18 ?k18 ?a19 ?l19 ?c19 ?k19 ?a20 ?l20 ?c20 ?k20 ?a21 ?l21 ?c21 ?k21 ?a22 ?l22 ?c22 ?k22 ?a23 ?l23 ?c23 ?k23 ?a24 ?l24 ?c24 ?k24 ?a25 ?l25 ?c25 ?k25 ?a26 ?l26 ?c26 ?k26 ?a27 ?l27 ?c27 ?k27 ?a28 ?l28 ?c28 ?k28 ?a29 ?l29 ?c29 ?k29 ?a30 ?l30 ?c30 ?k30 ?a31 ?l31 ?c31 ?k31 ?a32 ?l32 ?c32 ?k32 ?a33 ?l33 ?c33 ?k33 ?a34 ?l34 ?c34 ?k34 ?a35 ?l35 ?c35 ?k35 ?a36 ?l36 ?c36 ?k36 ?a37 ?l37 ?c37 ?k37 ?a38 ?l38 ?c38 ?k38 ?z_len ?z_isinstance ?z_list ?z_tuple ?z_bool ?z_str ?z_int ?z_range ?z_zip ?z_reversed ?z_min ?z_max ?y_nLEAVES ?y_lLEAVES ?y_nJOINS ?y_lJOINS ?y_nMOVERS ?y_lMOVERS ?y_sMOVERS ?y_h1MOVERS ?y_h2MOVERS ?y_h3MOVERS ?y_h4MOVERS ?y_nNoMove ?y_nSayError ?y_nVE ?y_kExc ?y_kM1 ?y_kM2 ?y_kVE ?y_own ?y_hcd ?y_lcd ?y_htb ?y_kch ?y_tt ?y_knt
    (case a1 => k_is)
    (case l1 => k_is)
    (case c1 => k_is)
    (case k1 => k_is)
    (case a2 => k_is)
    (case l2 => k_is)
    (case c2 => k_is)
    (case k2 => k_is)
    (case a3 => k_is)
    (case l3 => k_is)
    (case c3 => k_is)
    (case k3 => k_is)
    (case a4 => k_is)
    (case l4 => k_is)
    (case c4 => k_is)
    (case k4 => k_is)
    (case a5 => k_is)
    (case l5 => k_is)
    (case c5 => k_is)
    (case k5 => k_is)
    (case a6 => k_is)
    (case l6 => k_is)
    (case c6 => k_is)
    (case k6 => k_is)
    (case a7 => k_is)
    (case l7 => k_is)
    (case c7 => k_is)
    (case k7 => k_is)
    (case a8 => k_is)
    (case l8 => k_is)
    (case c8 => k_is)
    (case k8 => k_is)
    (case a9 => k_is)
    (case l9 => k_is)
    (case c9 => k_is)
    (case k9 => k_is)
    (case a10 => k_is)
    (case l10 => k_is)
    (case c10 => k_is)
    (case k10 => k_is)
    (case a11 => k_is)
    (case l11 => k_is)
    (case c11 => k_is)
    (case k11 => k_is)
    (case a12 => k_is)
    (case l12 => k_is)
    (case c12 => k_is)
    (case k12 => k_is)
    (case a13 => k_is)
    (case l13 => k_is)
    (case c13 => k_is)
    (case k13 => k_is)
    (case a14 => k_is)
    (case l14 => k_is)
    (case c14 => k_is)
    (case k14 => k_is)
    (case a15 => k_is)
    (case l15 => k_is)
    (case c15 => k_is)
    (case k15 => k_is)
    (case a16 => k_is)
    (case l16 => k_is)
    (case c16 => k_is)
    (case k16 => k_is)
    (case a17 => k_is)
    (case l17 => k_is)
    (case c17 => k_is)
    (case k17 => k_is)
    (case a18 => k_is)
    (case l18 => k_is)
    (case c18 => k_is)
    (case k18 => k_is)
    (case a19 => k_is)
    (case l19 => k_is)
    (case c19 => k_is)
    (case k19 => k_is)
    (case a20 => k_is)
    (case l20 => k_is)
    (case c20 => k_is)
    (case k20 => k_is)
    (case a21 => k_is)
    (case l21 => k_is)
    (case c21 => k_is)
    (case k21 => k_is)
    (case a22 => k_is)
    (case l22 => k_is)
    (case c22 => k_is)
    (case k22 => k_is)
    (case a23 => k_is)
    (case l23 => k_is)
    (case c23 => k_is)
    (case k23 => k_is)
    (case a24 => k_is)
    (case l24 => k_is)
    (case c24 => k_is)
    (case k24 => k_is)
    (case a25 => k_is)
    (case l25 => k_is)
    (case c25 => k_is)
    (case k25 => k_is)
    (case a26 => k_is)
    (case l26 => k_is)
    (case c26 => k_is)
    (case k26 => k_is)
    (case a27 => k_is)
    (case l27 => k_is)
    (case c27 => k_is)
    (case k27 => k_is)
    (case a28 => k_is)
    (case l28 => k_is)
    (case c28 => k_is)
    (case k28 => k_is)
    (case a29 => k_is)
    (case l29 => k_is)
    (case c29 => k_is)
    (case k29 => k_is)
    (case a30 => k_is)
    (case l30 => k_is)
    (case c30 => k_is)
    (case k30 => k_is)
    (case a31 => k_is)
    (case l31 => k_is)
    (case c31 => k_is)
    (case k31 => k_is)
    (case a32 => k_is)
    (case l32 => k_is)
    (case c32 => k_is)
    (case k32 => k_is)
    (case a33 => k_is)
    (case l33 => k_is)
    (case c33 => k_is)
    (case k33 => k_is)
    (case a34 => k_is)
    (case l34 => k_is)
    (case c34 => k_is)
    (case k34 => k_is)
    (case a35 => k_is)
    (case l35 => k_is)
    (case c35 => k_is)
    (case k35 => k_is)
    (case a36 => k_is)
    (case l36 => k_is)
    (case c36 => k_is)
    (case k36 => k_is)
    (case a37 => k_is)
    (case l37 => k_is)
    (case c37 => k_is)
    (case k37 => k_is)
    (case a38 => k_is)
    (case l38 => k_is)
    (case c38 => k_is)
    (case k38 => k_is)
    (case z_len => k_is)
    (case z_isinstance => k_is)
    (case z_list => k_is)
    (case z_tuple => k_is)
    (case z_bool => k_is)
    (case z_str => k_is)
    (case z_int => k_is)
    (case z_range => k_is)
    (case z_zip => k_is)
    (case z_reversed => k_is)
    (case z_min => k_is)
    (case z_max => k_is)
    (case y_nLEAVES => k_is)
    (case y_lLEAVES => k_is)
    (case y_nJOINS => k_is)
    (case y_lJOINS => k_is)
    (case y_nMOVERS => k_is)
    (case y_lMOVERS => k_is)
    (case y_sMOVERS => exact rfl)
    (case y_h1MOVERS => exact rfl)
    (case y_h2MOVERS => exact rfl)
    (case y_h3MOVERS => exact rfl)
    (case y_h4MOVERS => exact rfl)
    (case y_nNoMove => k_is)
    (case y_nSayError => k_is)
    (case y_nVE => k_is)
    (case y_kExc => kernel_rfl)
    (case y_kM1 => kernel_rfl)
    (case y_kM2 => kernel_rfl)
    (case y_kVE => kernel_rfl)
    (case y_own => exact hOwn)
    (case y_hcd => exact rfl)
    (case y_lcd => k_is)
    (case y_htb => exact rfl)
    (case y_kch => kernel_rfl)
    (case y_tt => exact PySem.W.km_tabs_of Y _ (by decide))
    (case y_knt => kernel_rfl)
